import PyProof.Rows.All
import Wide.All
import OpenK.AllK
import Wide.FinOn
import Open.SpecLaws
import KE.OsGo
import HandS.ForSpec
import HandS.Comp
import HandS.Iter
import HandS.Walk
import HandS.Codes
import PySem.Challenge.RW_honestclocks_s01_answers
set_option Elab.async false
/-! The mathematics: what the specification's functions are, as the program reckons them. -/
namespace Hc
open Ag01

/-! ### min, max over a list -/
theorem foldl_min_le : ∀ (p : List Nat) (a : Nat), p.foldl min a ≤ a ∧ ∀ y ∈ p, p.foldl min a ≤ y
  | [], a => ⟨Nat.le_refl _, fun _ h => by cases h⟩
  | x :: p, a => by
    have ih := foldl_min_le p (min a x)
    refine ⟨Nat.le_trans ih.1 (Nat.min_le_left _ _), fun y hy => ?_⟩
    cases hy with
    | head => exact Nat.le_trans ih.1 (Nat.min_le_right _ _)
    | tail _ h => exact ih.2 y h
theorem foldl_min_mem : ∀ (p : List Nat) (a : Nat), p.foldl min a ∈ a :: p
  | [], a => .head _
  | x :: p, a => by
    have ih := foldl_min_mem p (min a x)
    show p.foldl min (min a x) ∈ a :: x :: p
    rcases List.mem_cons.mp ih with e | m
    · rw [e]
      by_cases h : a ≤ x
      · rw [Nat.min_eq_left h]; exact .head _
      · rw [Nat.min_eq_right (by omega)]; exact .tail _ (.head _)
    · exact .tail _ (.tail _ m)
theorem foldl_max_ge : ∀ (p : List Nat) (a : Nat), a ≤ p.foldl max a ∧ ∀ y ∈ p, y ≤ p.foldl max a
  | [], a => ⟨Nat.le_refl _, fun _ h => by cases h⟩
  | x :: p, a => by
    have ih := foldl_max_ge p (max a x)
    refine ⟨Nat.le_trans (Nat.le_max_left _ _) ih.1, fun y hy => ?_⟩
    cases hy with
    | head => exact Nat.le_trans (Nat.le_max_right _ _) ih.1
    | tail _ h => exact ih.2 y h
theorem foldl_max_mem : ∀ (p : List Nat) (a : Nat), p.foldl max a ∈ a :: p
  | [], a => .head _
  | x :: p, a => by
    have ih := foldl_max_mem p (max a x)
    show p.foldl max (max a x) ∈ a :: x :: p
    rcases List.mem_cons.mp ih with e | m
    · rw [e]
      by_cases h : a ≤ x
      · rw [Nat.max_eq_right h]; exact .tail _ (.head _)
      · rw [Nat.max_eq_left (by omega)]; exact .head _
    · exact .tail _ (.tail _ m)
theorem min_is {a : Nat} {p : List Nat} {m : Int} (h : m ∈ (a :: p).map fun n : Nat => (n : Int)) (hl : ∀ y, y ∈ (a :: p).map (fun n : Nat => (n : Int)) → m ≤ y) : m = ((p.foldl min a : Nat) : Int) := by
  obtain ⟨k, hk, rfl⟩ := List.mem_map.mp h
  have h1 : k ≤ p.foldl min a := by
    have q := hl _ (List.mem_map.mpr ⟨_, foldl_min_mem p a, rfl⟩)
    omega
  have h2 : p.foldl min a ≤ k := by
    rcases List.mem_cons.mp hk with e | m
    · rw [e]; exact (foldl_min_le p a).1
    · exact (foldl_min_le p a).2 k m
  have h3 : k = p.foldl min a := by omega
  rw [h3]
theorem max_is {a : Nat} {p : List Nat} {m : Int} (h : m ∈ (a :: p).map fun n : Nat => (n : Int)) (hl : ∀ y, y ∈ (a :: p).map (fun n : Nat => (n : Int)) → y ≤ m) : m = ((p.foldl max a : Nat) : Int) := by
  obtain ⟨k, hk, rfl⟩ := List.mem_map.mp h
  have h1 : p.foldl max a ≤ k := by
    have q := hl _ (List.mem_map.mpr ⟨_, foldl_max_mem p a, rfl⟩)
    omega
  have h2 : k ≤ p.foldl max a := by
    rcases List.mem_cons.mp hk with e | m
    · rw [e]; exact (foldl_max_ge p a).1
    · exact (foldl_max_ge p a).2 k m
  have h3 : k = p.foldl max a := by omega
  rw [h3]

/-! ### between -/
def lows (k : Nat) (l : List Span) : List Nat := (l.map fun (x : Span) => x.1).filter fun (t : Nat) => decide (k ≤ covers l t)
def highs (k : Nat) (l : List Span) : List Nat := (l.map fun (x : Span) => x.2).filter fun (t : Nat) => decide (k ≤ covers l t)
/-- the least of those at hand -/
theorem least_of {p : Span → Bool} : ∀ {l : List Span}, (∃ x ∈ l, p x = true) → ∃ b ∈ l, p b = true ∧ ∀ y ∈ l, p y = true → b.2 ≤ y.2
  | [], ⟨_, h, _⟩ => by cases h
  | x :: l, h => by
    by_cases hx : ∃ y ∈ l, p y = true
    · obtain ⟨b, hb, pb, lb⟩ := least_of hx
      by_cases px : p x = true
      · by_cases c : x.2 ≤ b.2
        · refine ⟨x, .head _, px, fun y hy py => ?_⟩
          cases hy with
          | head => exact Nat.le_refl _
          | tail _ m => exact Nat.le_trans c (lb y m py)
        · refine ⟨b, .tail _ hb, pb, fun y hy py => ?_⟩
          cases hy with
          | head => omega
          | tail _ m => exact lb y m py
      · refine ⟨b, .tail _ hb, pb, fun y hy py => ?_⟩
        cases hy with
        | head => exact absurd py px
        | tail _ m => exact lb y m py
    · obtain ⟨y, hy, py⟩ := h
      cases hy with
      | head =>
        refine ⟨x, .head _, py, fun z hz pz => ?_⟩
        cases hz with
        | head => exact Nat.le_refl _
        | tail _ m => exact absurd ⟨z, m, pz⟩ hx
      | tail _ m => exact absurd ⟨y, m, py⟩ hx
theorem filter_len_mono {α : Type} {p q : α → Bool} : ∀ (l : List α), (∀ x ∈ l, p x = true → q x = true) → (l.filter p).length ≤ (l.filter q).length
  | [], _ => Nat.le_refl _
  | x :: l, h => by
    have ih := filter_len_mono (p := p) (q := q) l fun y hy => h y (.tail _ hy)
    rw [List.filter_cons, List.filter_cons]
    by_cases px : p x = true
    · rw [if_pos px, if_pos (h x (.head _) px), List.length_cons, List.length_cons]; omega
    · rw [if_neg px]
      by_cases qx : q x = true
      · rw [if_pos qx, List.length_cons]; omega
      · rw [if_neg qx]; exact ih
theorem highs_of_lows {k : Nat} {l : List Span} (hk : 1 ≤ k) (h : lows k l ≠ []) : highs k l ≠ [] := by
  obtain ⟨t, ht⟩ := List.exists_mem_of_ne_nil _ h
  have ht := (List.mem_filter.mp ht).2
  have hc : k ≤ covers l t := of_decide_eq_true ht
  have hne : 0 < (l.filter fun (x : Span) => decide (x.1 ≤ t) && decide (t ≤ x.2)).length := Nat.lt_of_lt_of_le hk hc
  obtain ⟨x, hx⟩ := List.exists_mem_of_ne_nil _ (List.length_pos_iff.mp hne)
  have hx := List.mem_filter.mp hx
  obtain ⟨b, hb, pb, lb⟩ := least_of (p := fun (x : Span) => decide (x.1 ≤ t) && decide (t ≤ x.2)) ⟨x, hx.1, hx.2⟩
  have hb2 : b.2 ∈ highs k l := by
    refine List.mem_filter.mpr ⟨List.mem_map.mpr ⟨b, hb, rfl⟩, decide_eq_true (Nat.le_trans hc ?_)⟩
    refine filter_len_mono l fun y hy py => ?_
    have q := lb y hy py
    simp only [Bool.and_eq_true, decide_eq_true_eq] at py pb ⊢
    omega
  exact List.ne_nil_of_mem hb2
theorem between_small {f : Nat} {l : List Span} (h : l.length ≤ f) : between f l = none := if_pos h
theorem between_none {f : Nat} {l : List Span} (h : ¬ l.length ≤ f) (e : lows (l.length - f) l = []) : between f l = none := by
  unfold between
  rw [if_neg h]
  show (match lows (l.length - f) l, highs (l.length - f) l with | a :: p, b :: q => some (p.foldl min a, q.foldl max b) | _, _ => none) = none
  rw [e]
theorem between_some {f : Nat} {l : List Span} {a b : Nat} {p q : List Nat} (h : ¬ l.length ≤ f) (e : lows (l.length - f) l = a :: p) (e' : highs (l.length - f) l = b :: q) : between f l = some (p.foldl min a, q.foldl max b) := by
  unfold between
  rw [if_neg h]
  show (match lows (l.length - f) l, highs (l.length - f) l with | a :: p, b :: q => some (p.foldl min a, q.foldl max b) | _, _ => none) = _
  rw [e, e']

/-! ### what is waited for: by its place -/
theorem find_idx {α : Type} {p : α → Bool} : ∀ {l : List α} {k : Nat} {a : α}, l[k]? = some a → p a = true → (∀ j b, j < k → l[j]? = some b → p b = false) → l.find? p = some a
  | [], k, a, h, _, _ => by simp at h
  | x :: l, 0, a, h, pa, _ => by
    have e : x = a := by simpa using h
    subst e
    rw [List.find?_cons, pa]
  | x :: l, k + 1, a, h, pa, hf => by
    have px := hf 0 x (Nat.succ_pos _) rfl
    rw [List.find?_cons, px]
    exact find_idx (l := l) (k := k) (by simpa using h) pa fun j b hj hb => hf (j + 1) b (Nat.succ_lt_succ hj) (by simpa using hb)
theorem find_none {α : Type} {p : α → Bool} {l : List α} (h : ∀ (j : Nat) (b : α), l[j]? = some b → p b = false) : l.find? p = none := by
  refine List.find?_eq_none.mpr fun x hx => ?_
  obtain ⟨j, hj⟩ := List.mem_iff_getElem?.mp hx
  rw [h j x hj]
  exact Bool.false_ne_true
theorem filter_all {α : Type} {p : α → Bool} {l : List α} (h : ∀ x ∈ l, p x = true) : l.filter p = l := List.filter_eq_self.mpr h
theorem filter_erase : ∀ {l : List Ask} {k : Nat} {a : Ask}, (l.map (·.num)).Nodup → l[k]? = some a → l.filter (fun (b : Ask) => b.num != a.num) = l.eraseIdx k
  | [], k, a, _, h => by simp at h
  | x :: l, 0, a, nd, h => by
    have e : x = a := by simpa using h
    subst e
    have nd : x.num ∉ l.map (·.num) ∧ _ := List.nodup_cons.mp nd
    rw [List.filter_cons, if_neg (by simp), List.eraseIdx_cons_zero]
    refine filter_all fun b hb => ?_
    have : b.num ≠ x.num := fun e => nd.1 (List.mem_map.mpr ⟨b, hb, e⟩)
    simpa using this
  | x :: l, k + 1, a, nd, h => by
    have nd : x.num ∉ l.map (·.num) ∧ _ := List.nodup_cons.mp nd
    have ha : l[k]? = some a := by simpa using h
    have hx : x.num ≠ a.num := fun e => nd.1 (List.mem_map.mpr ⟨a, List.mem_of_getElem? ha, e.symm⟩)
    rw [List.filter_cons, if_pos (by simpa using hx), List.eraseIdx_cons_succ, filter_erase nd.2 ha]

/-! ### what holds of every state -/
structure GNode (M N : Nat) (n : Node) : Prop where
  kn : n.known.length = M
  kt : ∀ (t : Nat) (s : Span), some (t, s) ∈ n.known → t ≤ n.clock
  as : ∀ a ∈ n.asks, a.sent ≤ n.clock ∧ a.master < M ∧ a.num ≤ n.count
  nd : (n.asks.map (·.num)).Nodup
  al : n.asks.length ≤ N
structure Good (N : Nat) (s : State) : Prop where
  g : s.good ≤ 100
  w : s.wrong ≤ 200
  now : 2 * s.good ≤ s.now
  m : s.masters.length ≤ 5
  n : s.nodes.length ≤ 3
  nodes : ∀ x ∈ s.nodes, GNode s.masters.length N x
  lets : ∀ x ∈ s.letters, x.kind ≤ 1 ∧ x.node < s.nodes.length ∧ x.master < s.masters.length
  ll : s.letters.length ≤ 100
  st : ∀ x ∈ s.stamps, x.node < s.nodes.length
  sl : s.stamps.length ≤ N
theorem GNode.mono {M N N' : Nat} {n : Node} (h : GNode M N n) (hN : N ≤ N') : GNode M N' n := ⟨h.kn, h.kt, h.as, h.nd, Nat.le_trans h.al hN⟩
theorem Good.mono {N N' : Nat} {s : State} (h : Good N s) (hN : N ≤ N') : Good N' s :=
  ⟨h.g, h.w, h.now, h.m, h.n, fun x hx => (h.nodes x hx).mono hN, h.lets, h.ll, h.st, Nat.le_trans h.sl hN⟩
theorem node_of {s : State} {i : Nat} {n : Node} (h : s.nodes[i]? = some n) : node s i = n := by
  unfold node
  rw [List.getD_eq_getElem?_getD, h]
  rfl
theorem master_of {s : State} {i : Nat} {m : Master} (h : s.masters[i]? = some m) : master s i = m := by
  unfold master
  rw [List.getD_eq_getElem?_getD, h]
  rfl
theorem node_at {s : State} {i : Nat} (h : i < s.nodes.length) : s.nodes[i]? = some (node s i) := by
  rw [List.getElem?_eq_getElem h]
  exact congrArg some (node_of (List.getElem?_eq_getElem h)).symm
theorem master_at {s : State} {i : Nat} (h : i < s.masters.length) : s.masters[i]? = some (master s i) := by
  rw [List.getElem?_eq_getElem h]
  exact congrArg some (master_of (List.getElem?_eq_getElem h)).symm
theorem Good.node {N : Nat} {s : State} (h : Good N s) {i : Nat} (hi : i < s.nodes.length) : GNode s.masters.length N (Ag01.node s i) := h.nodes _ (List.mem_of_getElem? (node_at hi))
/-- a node changed -/
theorem Good.setNode {N : Nat} {s : State} (h : Good N s) {i : Nat} {n : Node} (hn : GNode s.masters.length N n) : Good N (setNode s i n) := by
  have hl : (s.nodes.set i n).length = s.nodes.length := List.length_set
  refine ⟨h.g, h.w, h.now, h.m, ?_, fun x hx => ?_, fun x hx => ?_, h.ll, fun x hx => ?_, h.sl⟩
  · show (s.nodes.set i n).length ≤ 3
    rw [hl]; exact h.n
  · rcases List.mem_or_eq_of_mem_set hx with m | e
    · exact h.nodes x m
    · rw [e]; exact hn
  · show x.kind ≤ 1 ∧ x.node < (s.nodes.set i n).length ∧ _
    rw [hl]; exact h.lets x hx
  · show x.node < (s.nodes.set i n).length
    rw [hl]; exact h.st x hx
theorem Good.send {N : Nat} {s : State} (h : Good N s) {x : Letter} (hx : x.kind ≤ 1 ∧ x.node < s.nodes.length ∧ x.master < s.masters.length) : Good N (send s [x]) := by
  refine ⟨h.g, h.w, h.now, h.m, h.n, h.nodes, fun y hy => ?_, ?_, h.st, h.sl⟩
  · have hy := List.mem_of_mem_take hy
    rcases List.mem_append.mp hy with m | m
    · exact h.lets y m
    · rw [List.mem_singleton.mp m]; exact hx
  · show ((s.letters ++ [x]).take ROOM).length ≤ 100
    rw [List.length_take]
    exact Nat.min_le_left _ _
theorem send_room {s : State} {x : Letter} (h : s.letters.length < 100) : send s [x] = { s with letters := s.letters ++ [x] } := by
  unfold send
  rw [List.take_of_length_le (by rw [List.length_append]; show _ + 1 ≤ 100; omega)]
theorem send_full {s : State} {x : Letter} (h : ¬ s.letters.length < 100) (h' : s.letters.length ≤ 100) : send s [x] = s := by
  unfold send
  have e : s.letters.length = ROOM := by show _ = 100; omega
  rw [List.take_append_of_le_length (by omega), List.take_of_length_le (by omega)]
/-- a letter handed over -/
theorem Good.hand {N : Nat} {s : State} (h : Good N s) {x : Letter} (hx : x.kind ≤ 1 ∧ x.node < s.nodes.length ∧ x.master < s.masters.length) : Good N (hand s x).1 := by
  unfold Ag01.hand
  split
  · exact h.send ⟨Nat.le_refl _, hx.2.1, hx.2.2⟩
  · dsimp only
    split
    · exact h
    · split
      · exact h
      · rename_i a ha
        have gn := h.node hx.2.1
        refine h.setNode ⟨?_, fun t y hy => ?_, fun b hb => ?_, ?_, ?_⟩
        · show ((Ag01.node s x.node).known.set _ _).length = _
          rw [List.length_set]; exact gn.kn
        · have hy : some (t, y) ∈ (Ag01.node s x.node).known.set _ _ := hy
          rcases List.mem_or_eq_of_mem_set hy with m | e
          · exact gn.kt t y m
          · injection e with e
            injection e with e1 e2
            rw [e1]; exact Nat.le_refl _
        · exact gn.as b (List.mem_filter.mp hb).1
        · exact gn.nd.sublist (List.filter_sublist.map _)
        · exact Nat.le_trans (List.length_filter_le _ _) gn.al
end Hc
set_option Elab.async false
namespace Hc
open Ag01
/-- what a call leaves is good -/
theorem Good.step {N : Nat} {s s' : State} (h : Good N s) (c : Call) (e : (Ag01.step (some s) c).1 = some s') : Good (N + 1) s' := by
  have h1 : Good (N + 1) s := h.mono (Nat.le_succ _)
  cases c with
  | begin_ g w f m n =>
    simp only [Ag01.step] at e
    split at e
    · injection e with e; subst e; exact h1
    · rename_i c
      injection e with e; subst e
      refine ⟨by show g ≤ 100; omega, by show w ≤ 200; omega, Nat.le_refl _, ?_, ?_, fun x hx => ?_, fun x hx => (by cases hx), Nat.zero_le _, fun x hx => (by cases hx), Nat.zero_le _⟩
      · show (List.replicate m _).length ≤ 5; rw [List.length_replicate]; omega
      · show (List.replicate n _).length ≤ 3; rw [List.length_replicate]; omega
      · have e := List.eq_of_mem_replicate hx
        subst e
        refine ⟨?_, fun t y hy => ?_, fun a ha => (by cases ha), List.nodup_nil, Nat.zero_le _⟩
        · show (List.replicate m _).length = (List.replicate m _).length
          rw [List.length_replicate, List.length_replicate]
        · have := List.eq_of_mem_replicate hy
          cases this
  | pass d l =>
    simp only [Ag01.step] at e
    split at e
    · injection e with e; subst e; exact h1
    · injection e with e; subst e
      have hl : (s.nodes.zipIdx.map fun (x : Node × Nat) => { x.1 with clock := x.1.clock + l.getD x.2 0 }).length = s.nodes.length := by rw [List.length_map, List.length_zipIdx]
      refine ⟨h.g, h.w, Nat.le_trans h.now (Nat.le_add_right _ _), h.m, hl ▸ h.n, fun x hx => ?_, fun x hx => ?_, h.ll, fun x hx => ?_, h1.sl⟩
      · obtain ⟨⟨n, i⟩, hn, rfl⟩ := List.mem_map.mp hx
        have hn : n ∈ s.nodes := by
          have q := List.mem_zipIdx' hn
          rw [q.2]; exact List.getElem_mem _
        have g := h1.nodes n hn
        exact ⟨g.kn, fun t y hy => Nat.le_trans (g.kt t y hy) (Nat.le_add_right _ _), fun a ha => ⟨Nat.le_trans (g.as a ha).1 (Nat.le_add_right _ _), (g.as a ha).2⟩, g.nd, g.al⟩
      · show x.kind ≤ 1 ∧ x.node < (s.nodes.zipIdx.map _).length ∧ _
        rw [hl]; exact h.lets x hx
      · show x.node < (s.nodes.zipIdx.map _).length
        rw [hl]; exact h.st x hx
  | skew m x =>
    simp only [Ag01.step] at e
    split at e
    · injection e with e; subst e; exact h1
    · injection e with e; subst e
      refine ⟨h.g, h.w, h.now, ?_, h.n, fun y hy => ?_, fun y hy => ?_, h.ll, h.st, h1.sl⟩
      · show (s.masters.set _ _).length ≤ 5; rw [List.length_set]; exact h.m
      · show GNode (s.masters.set _ _).length _ _; rw [List.length_set]; exact h1.nodes y hy
      · show _ ∧ _ ∧ _ < (s.masters.set _ _).length; rw [List.length_set]; exact h.lets y hy
  | lie m a b =>
    simp only [Ag01.step] at e
    split at e
    · injection e with e; subst e; exact h1
    · injection e with e; subst e
      refine ⟨h.g, h.w, h.now, ?_, h.n, fun y hy => ?_, fun y hy => ?_, h.ll, h.st, h1.sl⟩
      · show (s.masters.set _ _).length ≤ 5; rw [List.length_set]; exact h.m
      · show GNode (s.masters.set _ _).length _ _; rw [List.length_set]; exact h1.nodes y hy
      · show _ ∧ _ ∧ _ < (s.masters.set _ _).length; rw [List.length_set]; exact h.lets y hy
  | ask i m =>
    simp only [Ag01.step] at e
    split at e
    · injection e with e; subst e; exact h1
    · rename_i c
      split at e
      · injection e with e; subst e; exact h1
      · injection e with e; subst e
        have hi : i < s.nodes.length := by omega
        have hm : m < s.masters.length := by omega
        have g := h.node hi
        refine Good.send (Good.setNode h1 (n := { Ag01.node s i with count := (Ag01.node s i).count + 1, asks := (Ag01.node s i).asks ++ [⟨(Ag01.node s i).count + 1, m, (Ag01.node s i).clock⟩] }) ⟨g.kn, g.kt, fun a ha => ?_, ?_, ?_⟩) ⟨Nat.zero_le _, ?_, hm⟩
        · have ha : a ∈ (Ag01.node s i).asks ++ [_] := ha
          rcases List.mem_append.mp ha with q | q
          · exact ⟨(g.as a q).1, (g.as a q).2.1, Nat.le_succ_of_le (g.as a q).2.2⟩
          · rw [List.mem_singleton.mp q]; exact ⟨Nat.le_refl _, hm, Nat.le_refl _⟩
        · show (((Ag01.node s i).asks ++ [_]).map (fun (a : Ask) => a.num)).Nodup
          rw [List.map_append, List.nodup_append]
          refine ⟨g.nd, (by simp), fun x hx y hy => ?_⟩
          obtain ⟨a, ha, rfl⟩ := List.mem_map.mp hx
          have := (g.as a ha).2.2
          have e : y = (Ag01.node s i).count + 1 := List.mem_singleton.mp hy
          omega
        · show ((Ag01.node s i).asks ++ [_]).length ≤ N + 1
          rw [List.length_append]; have := g.al; show _ + 1 ≤ N + 1; omega
        · show i < (s.nodes.set i _).length
          rw [List.length_set]; exact hi
  | stamp i =>
    simp only [Ag01.step] at e
    split at e
    · injection e with e; subst e; exact h1
    · rename_i c
      split at e
      · injection e with e; subst e; exact h1
      · split at e
        · injection e with e; subst e; exact h1
        · rename_i z hz
          injection e with e; subst e
          have hi : i < s.nodes.length := by omega
          have g := h1.node hi
          have q : Good (N + 1) (Ag01.setNode s i { Ag01.node s i with last := max z.2 ((Ag01.node s i).last + 1) }) := h1.setNode (n := { Ag01.node s i with last := max z.2 ((Ag01.node s i).last + 1) }) ⟨g.kn, g.kt, g.as, g.nd, g.al⟩
          refine ⟨q.g, q.w, q.now, q.m, q.n, q.nodes, q.lets, q.ll, fun y hy => ?_, ?_⟩
          · have hy : y ∈ s.stamps ++ [_] := hy
            rcases List.mem_append.mp hy with z | z
            · exact q.st y z
            · rw [List.mem_singleton.mp z]
              show i < (s.nodes.set i _).length
              rw [List.length_set]; exact hi
          · show (s.stamps ++ [_]).length ≤ N + 1
            rw [List.length_append]; have := h.sl; show _ + 1 ≤ N + 1; omega
  | settle k =>
    simp only [Ag01.step] at e
    split at e
    · injection e with e; subst e; exact h1
    · rename_i x hx
      split at e
      · injection e with e; subst e; exact h1
      · split at e
        · injection e with e; subst e; exact h1
        · split at e
          · injection e with e; subst e; exact h1
          · split at e
            · injection e with e; subst e; exact h1
            · injection e with e; subst e
              refine ⟨h.g, h.w, h.now, h.m, h.n, h1.nodes, h.lets, h.ll, fun y hy => ?_, ?_⟩
              · rcases List.mem_or_eq_of_mem_set hy with m | e
                · exact h.st y m
                · rw [e]; exact h.st x (List.mem_of_getElem? hx)
              · show (s.stamps.set _ _).length ≤ N + 1
                rw [List.length_set]; exact h1.sl
  | take k =>
    simp only [Ag01.step] at e
    split at e
    · injection e with e; subst e; exact h1
    · rename_i x hx
      injection e with e; subst e
      have hx := h.lets x (List.mem_of_getElem? hx)
      refine Good.hand (s := { s with letters := s.letters.eraseIdx k }) ⟨h.g, h.w, h.now, h.m, h.n, h1.nodes, fun y hy => h.lets y ((List.eraseIdx_sublist _ _).subset hy), ?_, h.st, h1.sl⟩ hx
      exact Nat.le_trans (List.eraseIdx_sublist _ _).length_le h.ll
  | keep k =>
    simp only [Ag01.step] at e
    split at e
    · injection e with e; subst e; exact h1
    · rename_i x hx
      injection e with e; subst e
      exact h1.hand (h.lets x (List.mem_of_getElem? hx))
  | lose k =>
    simp only [Ag01.step] at e
    split at e
    · injection e with e; subst e; exact h1
    · injection e with e; subst e
      refine ⟨h.g, h.w, h.now, h.m, h.n, h1.nodes, fun y hy => h.lets y ((List.eraseIdx_sublist _ _).subset hy), ?_, h.st, h1.sl⟩
      exact Nat.le_trans (List.eraseIdx_sublist _ _).length_le h.ll
  | halt_ i =>
    simp only [Ag01.step] at e
    split at e
    · injection e with e; subst e; exact h1
    · split at e
      · injection e with e; subst e; exact h1
      · injection e with e; subst e
        have g := h1.node (i := i) (by omega)
        exact h1.setNode ⟨g.kn, g.kt, g.as, g.nd, g.al⟩
  | start i =>
    simp only [Ag01.step] at e
    split at e
    · injection e with e; subst e; exact h1
    · split at e
      · injection e with e; subst e; exact h1
      · injection e with e; subst e
        refine h1.setNode ⟨?_, fun t y hy => ?_, fun a ha => (by cases ha), List.nodup_nil, Nat.zero_le _⟩
        · show (List.replicate _ _).length = _; rw [List.length_replicate]
        · have := List.eq_of_mem_replicate hy
          cases this
  | letters => simp only [Ag01.step] at e; injection e with e; subst e; exact h1
  | time i => simp only [Ag01.step] at e; injection e with e; subst e; exact h1
  | node i => simp only [Ag01.step] at e; injection e with e; subst e; exact h1
  | master m => simp only [Ag01.step] at e; injection e with e; subst e; exact h1
  | stamps => simp only [Ag01.step] at e; injection e with e; subst e; exact h1
theorem Good.first {s' : State} (c : Call) (e : (Ag01.step none c).1 = some s') : Good 1 s' := by
  cases c with
  | begin_ g w f m n =>
    refine Good.step (N := 0) (s := s') ?_ (.begin_ g w f m n) ?_
    · simp only [Ag01.step] at e
      split at e
      · cases e
      · rename_i c
        injection e with e; subst e
        refine ⟨by show g ≤ 100; omega, by show w ≤ 200; omega, Nat.le_refl _, ?_, ?_, fun x hx => ?_, fun x hx => (by cases hx), Nat.zero_le _, fun x hx => (by cases hx), Nat.zero_le _⟩
        · show (List.replicate m _).length ≤ 5; rw [List.length_replicate]; omega
        · show (List.replicate n _).length ≤ 3; rw [List.length_replicate]; omega
        · have e := List.eq_of_mem_replicate hx
          subst e
          refine ⟨?_, fun t y hy => ?_, fun a ha => (by cases ha), List.nodup_nil, Nat.zero_le _⟩
          · show (List.replicate m _).length = (List.replicate m _).length
            rw [List.length_replicate, List.length_replicate]
          · have := List.eq_of_mem_replicate hy
            cases this
    · simp only [Ag01.step] at e ⊢
      split at e
      · cases e
      · rename_i c
        rw [if_neg c]; exact e
  | pass d l => simp only [Ag01.step] at e; cases e
  | skew m x => simp only [Ag01.step] at e; cases e
  | lie m a b => simp only [Ag01.step] at e; cases e
  | ask i m => simp only [Ag01.step] at e; cases e
  | stamp i => simp only [Ag01.step] at e; cases e
  | settle k => simp only [Ag01.step] at e; cases e
  | take k => simp only [Ag01.step] at e; cases e
  | keep k => simp only [Ag01.step] at e; cases e
  | lose k => simp only [Ag01.step] at e; cases e
  | halt_ i => simp only [Ag01.step] at e; cases e
  | start i => simp only [Ag01.step] at e; cases e
  | letters => simp only [Ag01.step] at e; cases e
  | time i => simp only [Ag01.step] at e; cases e
  | node i => simp only [Ag01.step] at e; cases e
  | master m => simp only [Ag01.step] at e; cases e
  | stamps => simp only [Ag01.step] at e; cases e
end Hc
set_option Elab.async false
/-! The calls as one flat list, call by call. -/
namespace Hc
open Ag01
def intsL (l : List Nat) : List Int := l.map fun (n : Nat) => (n : Int)
/-- a call's number, what it is handed -/
def flat : Call → Nat × List Nat
  | .begin_ g w f m n => (0, [g, w, f, m, n])
  | .pass d l => (1, d :: l.length :: l)
  | .skew m o => (2, [m, o])
  | .lie m a b => (3, [m, a, b])
  | .ask i m => (4, [i, m])
  | .stamp i => (5, [i])
  | .settle k => (6, [k])
  | .take k => (7, [k])
  | .keep k => (8, [k])
  | .lose k => (9, [k])
  | .halt_ i => (10, [i])
  | .start i => (11, [i])
  | .letters => (12, [])
  | .time i => (13, [i])
  | .node i => (14, [i])
  | .master m => (15, [m])
  | .stamps => (16, [])
theorem ints_nats {l : List Int} (h : ∀ z ∈ l, 0 ≤ z) : intsL (Ag01Neutral.nats l) = l := by
  unfold intsL Ag01Neutral.nats
  rw [List.map_map]
  refine (List.map_congr_left fun z hz => ?_).trans (List.map_id l)
  exact Int.toNat_of_nonneg (h z hz)
theorem within_ge {z lo hi : Int} (h : NeutralIO.within z lo hi = true) : lo ≤ z := by
  unfold NeutralIO.within at h
  rw [Bool.and_eq_true] at h
  exact of_decide_eq_true h.1
theorem nine_ge {z : Int} (h : Ag01Neutral.nine z = true) : 0 ≤ z := within_ge h
theorem large_ge {z : Int} (h : Ag01Neutral.large z = true) : 0 ≤ z := within_ge h
theorem place_ge {z : Int} (h : Ag01Neutral.place z = true) : 0 ≤ z := within_ge h
/-- the first call of a list -/
structure First (p : Int) (r : List Int) (c : List (List Int)) (cs : List (List (List Int))) (f : Nat) (x : Call) (rest : List Int) : Prop where
  is : Ag01Neutral.callOf (PyAg01.whole c) = some x
  eq : p :: r = ((flat x).1 : Int) :: (intsL (flat x).2 ++ rest)
  more : PyFlat.calls PyAg01.shape f rest = some cs
theorem call_plain {p : Int} {r : List Int} {n : Nat} {c : List (List Int)} {t : List Int} (hs : PyAg01.shape p = some (n, 0)) (h : PyFlat.call PyAg01.shape (p :: r) = some (c, t)) : ∃ a : List Int, a.length = n ∧ r = a ++ t ∧ c = [p :: a] := by
  unfold PyFlat.call at h
  dsimp only at h
  rw [hs] at h
  dsimp only at h
  split at h
  · cases h
  · rename_i hl
    have e : PyFlat.rows 0 (r.drop n) = some ([], r.drop n) := rfl
    rw [e] at h
    dsimp only at h
    injection h with h
    injection h with h1 h2
    exact ⟨r.take n, by rw [List.length_take]; omega, by rw [← h2, List.take_append_drop], h1.symm⟩
theorem call_row {r : List Int} {c : List (List Int)} {t : List Int} (h : PyFlat.call PyAg01.shape (1 :: r) = some (c, t)) : ∃ (d : Int) (a : List Int), r = d :: (a.length : Int) :: (a ++ t) ∧ c = [[1, d], a] := by
  unfold PyFlat.call at h
  dsimp only at h
  have hs : PyAg01.shape 1 = some (1, 1) := rfl
  rw [hs] at h
  dsimp only at h
  split at h
  · cases h
  · rename_i hl
    match r, hl with
    | d :: r, _ =>
      have e : (d :: r).drop 1 = r := rfl
      rw [e] at h
      cases r with
      | nil => cases h
      | cons m r =>
        by_cases hm : 0 ≤ m ∧ m.toNat ≤ r.length
        · have e2 : PyFlat.rows 1 (m :: r) = some ([r.take m.toNat], r.drop m.toNat) := by
            unfold PyFlat.rows PyFlat.row
            dsimp only
            rw [if_pos hm]
            rfl
          rw [e2] at h
          dsimp only at h
          injection h with h
          injection h with h1 h2
          refine ⟨d, r.take m.toNat, ?_, h1.symm⟩
          rw [← h2, List.take_append_drop, List.length_take, Nat.min_eq_left hm.2, Int.toNat_of_nonneg hm.1]
        · have e2 : PyFlat.rows 1 (m :: r) = none := by
            unfold PyFlat.rows PyFlat.row
            dsimp only
            rw [if_neg hm]
          rw [e2] at h
          cases h
theorem shape0 {p : Int} (p1 : ¬ p = 1) : PyAg01.shape p = none ∨ ∃ n, PyAg01.shape p = some (n, 0) := by
  unfold PyAg01.shape
  by_cases e0 : p = 0
  · rw [if_pos e0]; exact .inr ⟨_, rfl⟩
  rw [if_neg e0]
  rw [if_neg p1]
  by_cases e2 : p = 2
  · rw [if_pos e2]; exact .inr ⟨_, rfl⟩
  rw [if_neg e2]
  by_cases e3 : p = 3
  · rw [if_pos e3]; exact .inr ⟨_, rfl⟩
  rw [if_neg e3]
  by_cases e4 : p = 4
  · rw [if_pos e4]; exact .inr ⟨_, rfl⟩
  rw [if_neg e4]
  by_cases e5 : p = 5
  · rw [if_pos e5]; exact .inr ⟨_, rfl⟩
  rw [if_neg e5]
  by_cases e6 : p = 6
  · rw [if_pos e6]; exact .inr ⟨_, rfl⟩
  rw [if_neg e6]
  by_cases e7 : p = 7
  · rw [if_pos e7]; exact .inr ⟨_, rfl⟩
  rw [if_neg e7]
  by_cases e8 : p = 8
  · rw [if_pos e8]; exact .inr ⟨_, rfl⟩
  rw [if_neg e8]
  by_cases e9 : p = 9
  · rw [if_pos e9]; exact .inr ⟨_, rfl⟩
  rw [if_neg e9]
  by_cases e10 : p = 10
  · rw [if_pos e10]; exact .inr ⟨_, rfl⟩
  rw [if_neg e10]
  by_cases e11 : p = 11
  · rw [if_pos e11]; exact .inr ⟨_, rfl⟩
  rw [if_neg e11]
  by_cases e12 : p = 12
  · rw [if_pos e12]; exact .inr ⟨_, rfl⟩
  rw [if_neg e12]
  by_cases e13 : p = 13
  · rw [if_pos e13]; exact .inr ⟨_, rfl⟩
  rw [if_neg e13]
  by_cases e14 : p = 14
  · rw [if_pos e14]; exact .inr ⟨_, rfl⟩
  rw [if_neg e14]
  by_cases e15 : p = 15
  · rw [if_pos e15]; exact .inr ⟨_, rfl⟩
  rw [if_neg e15]
  by_cases e16 : p = 16
  · rw [if_pos e16]; exact .inr ⟨_, rfl⟩
  rw [if_neg e16]
  exact .inl rfl
theorem parse {f : Nat} {p : Int} {r : List Int} {cs0 : List (List (List Int))} (h : PyFlat.calls PyAg01.shape f (p :: r) = some cs0) (ha : ∀ c ∈ cs0, Ag01Neutral.asked1 (PyAg01.whole c) = true) :
    ∃ c cs f' x rest, cs0 = c :: cs ∧ First p r c cs f' x rest := by
  cases f with
  | zero => cases h
  | succ f =>
    unfold PyFlat.calls at h
    cases hc : PyFlat.call PyAg01.shape (p :: r) with
    | none => rw [hc] at h; cases h
    | some ct =>
      obtain ⟨c, t⟩ := ct
      rw [hc] at h
      dsimp only at h
      cases hm : PyFlat.calls PyAg01.shape f t with
      | none => rw [hm] at h; cases h
      | some cs =>
        rw [hm] at h
        injection h with h
        subst h
        have h1 := ha c (.head _)
        refine ⟨c, cs, f, ?_⟩
        suffices q : ∃ x, Ag01Neutral.callOf (PyAg01.whole c) = some x ∧ p :: r = ((flat x).1 : Int) :: (intsL (flat x).2 ++ t) from
          let ⟨x, e1, e2⟩ := q
          ⟨x, t, rfl, e1, e2, hm⟩
        by_cases p1 : p = 1
        · subst p1
          obtain ⟨d, a, rfl, rfl⟩ := call_row hc
          have h1 : (NeutralIO.within d 0 2000 && (decide (a.length ≤ 10) && a.all fun (z : Int) => NeutralIO.within z 0 3000)) = true := h1
          rw [Bool.and_eq_true, Bool.and_eq_true] at h1
          have hd := within_ge h1.1
          have hz : ∀ z ∈ a, 0 ≤ z := fun z hz => within_ge (List.all_eq_true.mp h1.2.2 z hz)
          refine ⟨.pass d.toNat (Ag01Neutral.nats a), rfl, ?_⟩
          have e1 : intsL (d.toNat :: (Ag01Neutral.nats a).length :: Ag01Neutral.nats a) = d :: (a.length : Int) :: a := by
            show (d.toNat : Int) :: ((Ag01Neutral.nats a).length : Int) :: intsL (Ag01Neutral.nats a) = _
            rw [ints_nats hz, Int.toNat_of_nonneg hd]
            unfold Ag01Neutral.nats
            rw [List.length_map]
          show (1 : Int) :: d :: (a.length : Int) :: (a ++ t) = 1 :: (intsL (d.toNat :: (Ag01Neutral.nats a).length :: Ag01Neutral.nats a) ++ t)
          rw [e1]
          rfl
        · have hs := shape0 p1
          rcases hs with hs | ⟨n, hs⟩
          · unfold PyFlat.call at hc
            dsimp only at hc
            rw [hs] at hc
            cases hc
          · obtain ⟨a, hl, rfl, rfl⟩ := call_plain hs hc
            have one : ∀ (q : Nat), p = (q : Int) → n = 1 → (∀ x0 : Int, Ag01Neutral.asked1 (PyAg01.whole [[(q : Int), x0]]) = true → 0 ≤ x0 ∧ ∃ y : Call, Ag01Neutral.callOf (PyAg01.whole [[(q : Int), x0]]) = some y ∧ flat y = (q, [x0.toNat])) →
                ∃ x, Ag01Neutral.callOf (PyAg01.whole [p :: a]) = some x ∧ p :: (a ++ t) = ((flat x).1 : Int) :: (intsL (flat x).2 ++ t) := by
              intro q e en hq
              subst e
              subst en
              match a, hl with
              | [x0], _ =>
                obtain ⟨h0, y, e1, e2⟩ := hq x0 h1
                refine ⟨y, e1, ?_⟩
                rw [e2]
                show (q : Int) :: ([x0] ++ t) = (q : Int) :: ([(x0.toNat : Int)] ++ t)
                rw [Int.toNat_of_nonneg h0]
            have none0 : ∀ (q : Nat), p = (q : Int) → n = 0 → (∃ y : Call, Ag01Neutral.callOf (PyAg01.whole [[(q : Int)]]) = some y ∧ flat y = (q, [])) →
                ∃ x, Ag01Neutral.callOf (PyAg01.whole [p :: a]) = some x ∧ p :: (a ++ t) = ((flat x).1 : Int) :: (intsL (flat x).2 ++ t) := by
              intro q e en ⟨y, e1, e2⟩
              subst e
              subst en
              match a, hl with
              | [], _ =>
                refine ⟨y, e1, ?_⟩
                rw [e2]
                rfl
            unfold PyAg01.shape at hs
            by_cases e0 : p = 0
            · rw [if_pos e0] at hs; subst e0; injection hs with hs; injection hs with hs _; subst hs
              match a, hl with
              | [x0, x1, x2, x3, x4], _ =>
                have h1 : (Ag01Neutral.large x0 && (Ag01Neutral.large x1 && (Ag01Neutral.nine x2 && (Ag01Neutral.nine x3 && Ag01Neutral.nine x4)))) = true := h1
                simp only [Bool.and_eq_true] at h1
                obtain ⟨a0, a1, a2, a3, a4⟩ := h1
                refine ⟨.begin_ x0.toNat x1.toNat x2.toNat x3.toNat x4.toNat, rfl, ?_⟩
                show (0 : Int) :: ([x0, x1, x2, x3, x4] ++ t) = 0 :: ([(x0.toNat : Int), (x1.toNat : Int), (x2.toNat : Int), (x3.toNat : Int), (x4.toNat : Int)] ++ t)
                rw [Int.toNat_of_nonneg (large_ge a0), Int.toNat_of_nonneg (large_ge a1), Int.toNat_of_nonneg (nine_ge a2), Int.toNat_of_nonneg (nine_ge a3), Int.toNat_of_nonneg (nine_ge a4)]
            rw [if_neg e0] at hs
            rw [if_neg p1] at hs
            by_cases e2 : p = 2
            · rw [if_pos e2] at hs; subst e2; injection hs with hs; injection hs with hs _; subst hs
              match a, hl with
              | [x0, x1], _ =>
                have h1 : (Ag01Neutral.nine x0 && Ag01Neutral.large x1) = true := h1
                simp only [Bool.and_eq_true] at h1
                refine ⟨.skew x0.toNat x1.toNat, rfl, ?_⟩
                show (2 : Int) :: ([x0, x1] ++ t) = 2 :: ([(x0.toNat : Int), (x1.toNat : Int)] ++ t)
                rw [Int.toNat_of_nonneg (nine_ge h1.1), Int.toNat_of_nonneg (large_ge h1.2)]
            rw [if_neg e2] at hs
            by_cases e3 : p = 3
            · rw [if_pos e3] at hs; subst e3; injection hs with hs; injection hs with hs _; subst hs
              match a, hl with
              | [x0, x1, x2], _ =>
                have h1 : (Ag01Neutral.nine x0 && (NeutralIO.within x1 0 99999 && NeutralIO.within x2 0 99999)) = true := h1
                simp only [Bool.and_eq_true] at h1
                refine ⟨.lie x0.toNat x1.toNat x2.toNat, rfl, ?_⟩
                show (3 : Int) :: ([x0, x1, x2] ++ t) = 3 :: ([(x0.toNat : Int), (x1.toNat : Int), (x2.toNat : Int)] ++ t)
                rw [Int.toNat_of_nonneg (nine_ge h1.1), Int.toNat_of_nonneg (within_ge h1.2.1), Int.toNat_of_nonneg (within_ge h1.2.2)]
            rw [if_neg e3] at hs
            by_cases e4 : p = 4
            · rw [if_pos e4] at hs; subst e4; injection hs with hs; injection hs with hs _; subst hs
              match a, hl with
              | [x0, x1], _ =>
                have h1 : (Ag01Neutral.nine x0 && Ag01Neutral.nine x1) = true := h1
                simp only [Bool.and_eq_true] at h1
                refine ⟨.ask x0.toNat x1.toNat, rfl, ?_⟩
                show (4 : Int) :: ([x0, x1] ++ t) = 4 :: ([(x0.toNat : Int), (x1.toNat : Int)] ++ t)
                rw [Int.toNat_of_nonneg (nine_ge h1.1), Int.toNat_of_nonneg (nine_ge h1.2)]
            rw [if_neg e4] at hs
            by_cases e5 : p = 5
            · rw [if_pos e5] at hs; injection hs with hs; injection hs with hs _; exact one 5 e5 hs.symm fun x0 q => ⟨nine_ge q, .stamp x0.toNat, rfl, rfl⟩
            rw [if_neg e5] at hs
            by_cases e6 : p = 6
            · rw [if_pos e6] at hs; injection hs with hs; injection hs with hs _; exact one 6 e6 hs.symm fun x0 q => ⟨place_ge q, .settle x0.toNat, rfl, rfl⟩
            rw [if_neg e6] at hs
            by_cases e7 : p = 7
            · rw [if_pos e7] at hs; injection hs with hs; injection hs with hs _; exact one 7 e7 hs.symm fun x0 q => ⟨place_ge q, .take x0.toNat, rfl, rfl⟩
            rw [if_neg e7] at hs
            by_cases e8 : p = 8
            · rw [if_pos e8] at hs; injection hs with hs; injection hs with hs _; exact one 8 e8 hs.symm fun x0 q => ⟨place_ge q, .keep x0.toNat, rfl, rfl⟩
            rw [if_neg e8] at hs
            by_cases e9 : p = 9
            · rw [if_pos e9] at hs; injection hs with hs; injection hs with hs _; exact one 9 e9 hs.symm fun x0 q => ⟨place_ge q, .lose x0.toNat, rfl, rfl⟩
            rw [if_neg e9] at hs
            by_cases e10 : p = 10
            · rw [if_pos e10] at hs; injection hs with hs; injection hs with hs _; exact one 10 e10 hs.symm fun x0 q => ⟨nine_ge q, .halt_ x0.toNat, rfl, rfl⟩
            rw [if_neg e10] at hs
            by_cases e11 : p = 11
            · rw [if_pos e11] at hs; injection hs with hs; injection hs with hs _; exact one 11 e11 hs.symm fun x0 q => ⟨nine_ge q, .start x0.toNat, rfl, rfl⟩
            rw [if_neg e11] at hs
            by_cases e12 : p = 12
            · rw [if_pos e12] at hs; injection hs with hs; injection hs with hs _; exact none0 12 e12 hs.symm ⟨.letters, rfl, rfl⟩
            rw [if_neg e12] at hs
            by_cases e13 : p = 13
            · rw [if_pos e13] at hs; injection hs with hs; injection hs with hs _; exact one 13 e13 hs.symm fun x0 q => ⟨nine_ge q, .time x0.toNat, rfl, rfl⟩
            rw [if_neg e13] at hs
            by_cases e14 : p = 14
            · rw [if_pos e14] at hs; injection hs with hs; injection hs with hs _; exact one 14 e14 hs.symm fun x0 q => ⟨nine_ge q, .node x0.toNat, rfl, rfl⟩
            rw [if_neg e14] at hs
            by_cases e15 : p = 15
            · rw [if_pos e15] at hs; injection hs with hs; injection hs with hs _; exact one 15 e15 hs.symm fun x0 q => ⟨nine_ge q, .master x0.toNat, rfl, rfl⟩
            rw [if_neg e15] at hs
            by_cases e16 : p = 16
            · rw [if_pos e16] at hs; injection hs with hs; injection hs with hs _; exact none0 16 e16 hs.symm ⟨.stamps, rfl, rfl⟩
            rw [if_neg e16] at hs
            cases hs
end Hc
set_option Elab.async false
set_option maxRecDepth 100000
set_option maxHeartbeats 2000000
/-! Objects by their names and values; what a store leaves. -/
namespace Hc
open PySem PySem.Spec PyProof.Rows L2

/-! ### fields by names and values -/
def ixOf (f : Str) : List Str → Option Nat
  | [] => none
  | k :: r => if f = k then some 0 else (ixOf f r).map (· + 1)
theorem ixOf_mem {f : Str} : ∀ {ns : List Str} {i : Nat}, ixOf f ns = some i → f ∈ ns
  | [], _, h => by cases h
  | k :: r, i, h => by
    unfold ixOf at h
    by_cases e : f = k
    · rw [e]; exact .head _
    · rw [if_neg e] at h
      cases q : ixOf f r with
      | none => rw [q] at h; cases h
      | some j => exact .tail _ (ixOf_mem q)
theorem lookup_zip {f : Str} {v : V} : ∀ {ns : List Str} {vs : List V} {i : Nat}, ixOf f ns = some i → vs[i]? = some v → (ns.zip vs).lookup f = some v
  | [], _, _, h, _ => by cases h
  | k :: r, [], i, _, hv => by simp at hv
  | k :: r, x :: vs, i, h, hv => by
    unfold ixOf at h
    rw [List.zip_cons_cons]
    by_cases e : f = k
    · rw [if_pos e] at h
      injection h with h
      subst h
      have hv : x = v := by simpa using hv
      subst hv
      have b : (f == k) = true := beq_iff_eq.mpr e
      simp only [List.lookup, b]
    · rw [if_neg e] at h
      cases q : ixOf f r with
      | none => rw [q] at h; cases h
      | some j =>
        rw [q] at h
        injection h with h
        subst h
        have b : (f == k) = false := beq_eq_false_iff_ne.mpr e
        simp only [List.lookup, b]
        exact lookup_zip q (by simpa using hv)
theorem put_zip {f : Str} {v : V} : ∀ {ns : List Str} {vs : List V} {i : Nat}, ixOf f ns = some i → ns.length = vs.length → putF f v (ns.zip vs) = ns.zip (vs.set i v)
  | [], _, _, h, _ => by cases h
  | k :: r, [], i, _, hl => by simp at hl
  | k :: r, x :: vs, i, h, hl => by
    unfold ixOf at h
    rw [List.zip_cons_cons]
    by_cases e : f = k
    · rw [if_pos e] at h
      injection h with h
      subst h
      subst e
      show (if f = f then (f, v) :: r.zip vs else _) = (f :: r).zip ((x :: vs).set 0 v)
      rw [if_pos rfl]
      rfl
    · rw [if_neg e] at h
      cases q : ixOf f r with
      | none => rw [q] at h; cases h
      | some j =>
        rw [q] at h
        injection h with h
        subst h
        show (if k = f then _ else (k, x) :: putF f v (r.zip vs)) = (k :: r).zip ((x :: vs).set (j + 1) v)
        rw [if_neg (fun z => e z.symm), put_zip q (by simpa using hl)]
        rfl
theorem put_new {f : Str} {v : V} : ∀ {ns : List Str} {vs : List V}, ixOf f ns = none → ns.length = vs.length → putF f v (ns.zip vs) = (ns ++ [f]).zip (vs ++ [v])
  | [], [], _, _ => rfl
  | [], _ :: _, _, hl => by simp at hl
  | k :: r, [], _, hl => by simp at hl
  | k :: r, x :: vs, h, hl => by
    unfold ixOf at h
    by_cases e : f = k
    · rw [if_pos e] at h; cases h
    · rw [if_neg e] at h
      have q : ixOf f r = none := by
        cases q : ixOf f r with
        | none => rfl
        | some j => rw [q] at h; cases h
      rw [List.zip_cons_cons]
      show (if k = f then _ else (k, x) :: putF f v (r.zip vs)) = (k :: (r ++ [f])).zip (x :: (vs ++ [v]))
      rw [if_neg (fun z => e z.symm), put_new q (by simpa using hl)]
      rfl
/-- a class of the text: instances bear these names alone -/
structure ClsOk (K : PySem.W.Frag) (C : Addr) (ns : List Str) : Prop where
  cl : Cls K C
  no : ∀ f ∈ ns, NoAttr K C f
def Obj (H : Hp) (a C : Addr) (ns : List Str) (vs : List V) : Prop := ∃ dx, H a = some (.ins C dx (ns.zip vs))
section
variable {K : PySem.W.Frag} {H H' : Hp} {a b C dx : Addr} {ns : List Str} {vs : List V} {f : Str} {i : Nat} {v : V}
/-- a field read -/
theorem rd {Q : V → Prop} (o : Obj H a C ns vs) (T : ClsOk K C ns) (hi : ixOf f ns = some i) (hv : vs[i]? = some v) (q : Q v) :
    ∃ a' C' dx fs v', V.ref a = .ref a' ∧ H a' = some (.ins C' dx fs) ∧ Cls K C' ∧ NoAttr K C' f ∧ fs.lookup f = some v' ∧ Q v' :=
  let ⟨dx, h⟩ := o
  ⟨a, C, dx, _, v, rfl, h, T.cl, T.no f (ixOf_mem hi), lookup_zip hi hv, q⟩
/-- a field stored -/
theorem wr {N : Hp → Prop} (h : H a = some (.ins C dx (ns.zip vs))) (T : ClsOk K C ns) (hi : ixOf f ns = some i) (hl : ns.length = vs.length) (hs : ns.length < 1000) (q : N (upd H a (.ins C dx (ns.zip (vs.set i v))))) :
    ∃ a' C' dx' fs, V.ref a = .ref a' ∧ H a' = some (.ins C' dx' fs) ∧ Cls K C' ∧ NoAttr K C' f ∧ fs.length < 1000 ∧ N (upd H a' (.ins C' dx' (putF f v fs))) := by
  refine ⟨a, C, dx, _, rfl, h, T.cl, T.no f (ixOf_mem hi), ?_, ?_⟩
  · rw [List.length_zip]; omega
  · rw [put_zip hi hl]; exact q
/-- a field stored for the first time -/
theorem wrn {N : Hp → Prop} (h : H a = some (.ins C dx (ns.zip vs))) (cl : Cls K C) (no : NoAttr K C f) (hi : ixOf f ns = none) (hl : ns.length = vs.length) (hs : ns.length < 1000) (q : N (upd H a (.ins C dx ((ns ++ [f]).zip (vs ++ [v]))))) :
    ∃ a' C' dx' fs, V.ref a = .ref a' ∧ H a' = some (.ins C' dx' fs) ∧ Cls K C' ∧ NoAttr K C' f ∧ fs.length < 1000 ∧ N (upd H a' (.ins C' dx' (putF f v fs))) := by
  refine ⟨a, C, dx, _, rfl, h, cl, no, ?_, ?_⟩
  · rw [List.length_zip]; omega
  · rw [put_new hi hl]; exact q
theorem upd_upd {o o' : HO} : upd (upd H a o) a o' = upd H a o' := by
  funext b
  unfold upd
  by_cases e : b = a
  · rw [if_pos e, if_pos e]
  · rw [if_neg e, if_neg e, if_neg e]
theorem Same.upd {o : HO} (h : H a = none) : Same H (upd H a o) := fun b u e => by
  rw [upd_ne (ne_of_none e h)]
  exact e
theorem Same.obj (s : Same H H') (o : Obj H a C ns vs) : Obj H' a C ns vs := let ⟨dx, h⟩ := o; ⟨dx, s _ _ h⟩
end
/-! ### what a new instance is -/
/-- __init__: n arguments; the fields ns, whose values are mk of the arguments -/
def spInit (C : Addr) (n : Nat) (ns : List Str) (mk : List V → List V) : Sp := fun vs H Q _ => ∃ (p dx : Addr) (args : List V), vs = .ref p :: args ∧ args.length = n ∧ H p = some (.ins C dx []) ∧
  ∀ H' : Hp, H' p = some (.ins C dx (ns.zip (mk args))) → (∀ b, b ≠ p → H' b = H b) → Q .non H'
theorem made {C : Addr} {n : Nat} {ns : List Str} {mk : List V → List V} {vs : List V} {H : Hp} {Q : VK} {E : XK} (hn : vs.length = n) (q : ∀ x H2, H x = none → Same H H2 → Obj H2 x C ns (mk vs) → Q (.ref x) H2) :
    ∀ x dx, H x = none → H dx = none → dx ≠ x → spInit C n ns mk (.ref x :: (vs ++ [])) (upd (upd H dx (.own x)) x (.ins C dx [])) (fun v H2 => v = .non ∧ Q (.ref x) H2) E := by
  intro x dx nx nd ne
  refine ⟨x, dx, vs, by rw [List.append_nil], hn, upd_same, fun H' h k => ⟨rfl, q x H' nx (fun b o e => ?_) ⟨dx, h⟩⟩⟩
  rw [k b (ne_of_none e nx), upd_ne (ne_of_none e nx), upd_ne (ne_of_none e nd)]
  exact e
theorem made_same {H H' : Hp} {x dx : Addr} {o : HO} (nx : H x = none) (nd : H dx = none) (k : ∀ b, b ≠ x → H' b = (upd (upd H dx (.own x)) x o) b) : Same H H' := fun b u e => by
  rw [k b (ne_of_none e nx), upd_ne (ne_of_none e nx), upd_ne (ne_of_none e nd)]
  exact e
/-! ### tags: an object's names -/
def tag : HO → Option (List Str)
  | .ins _ _ fs => some (fs.map (·.1))
  | _ => none
theorem tag_obj {C dx : Addr} {ns : List Str} {vs : List V} (hl : ns.length = vs.length) : tag (.ins C dx (ns.zip vs)) = some ns := by
  show some ((ns.zip vs).map (·.1)) = some ns
  rw [List.map_fst_zip (by omega)]
end Hc
set_option Elab.async false
set_option maxRecDepth 100000
set_option maxHeartbeats 2000000
/-! How a state of the specification lies in the heap. -/
namespace Hc
open PySem PySem.Spec PyProof.Rows L2
open Ag01 (Span Master Ask Node Letter Stamp State)
structure Cs where
  master : Addr
  waiting : Addr
  known : Addr
  node : Addr
  letter : Addr
  stamp : Addr
  world : Addr
  span : Addr
  line : Addr
abbrev nMaster : List Str := ["off", "claim", "ever_lied"]
abbrev nWaiting : List Str := ["number", "master", "since"]
abbrev nKnown : List Str := ["when", "span"]
abbrev nNode : List Str := ["runs", "clock", "last_stamp", "asked", "waiting", "known"]
abbrev nLetter : List Str := ["kind", "node", "master", "number", "span"]
abbrev nStamp : List Str := ["node", "value", "given", "past"]
abbrev nWorld : List Str := ["g", "w", "f", "true_time", "masters", "nodes", "letters", "stamps", "events"]
abbrev nSpan : List Str := ["least", "greatest"]
abbrev nLine : List Str := ["world"]
/-- a whole number -/
abbrev vN (n : Nat) : V := .int (n : Int)
/-! ### two lists, place by place -/
structure All2 {α β : Type} (R : α → β → Prop) (xs : List α) (ys : List β) : Prop where
  len : xs.length = ys.length
  get : ∀ (i : Nat) (x : α) (y : β), xs[i]? = some x → ys[i]? = some y → R x y
section
variable {α β : Type} {R R' : α → β → Prop} {xs : List α} {ys : List β} {x : α} {y : β} {i : Nat}
theorem All2.nil : All2 R [] [] := ⟨rfl, fun i x y h => by simp at h⟩
theorem All2.imp (a : All2 R xs ys) (h : ∀ x y, R x y → R' x y) : All2 R' xs ys := ⟨a.len, fun i x y h1 h2 => h x y (a.get i x y h1 h2)⟩
theorem All2.left (a : All2 R xs ys) (h : ys[i]? = some y) : ∃ x, xs[i]? = some x ∧ R x y := by
  have hi : i < xs.length := by rw [a.len]; exact (List.getElem?_eq_some_iff.mp h).1
  exact ⟨xs[i], List.getElem?_eq_getElem hi, a.get i _ _ (List.getElem?_eq_getElem hi) h⟩
theorem All2.right (a : All2 R xs ys) (h : xs[i]? = some x) : ∃ y, ys[i]? = some y ∧ R x y := by
  have hi : i < ys.length := by rw [← a.len]; exact (List.getElem?_eq_some_iff.mp h).1
  exact ⟨ys[i], List.getElem?_eq_getElem hi, a.get i _ _ h (List.getElem?_eq_getElem hi)⟩
theorem All2.snoc (a : All2 R xs ys) (h : R x y) : All2 R (xs ++ [x]) (ys ++ [y]) := by
  refine ⟨by rw [List.length_append, List.length_append, a.len]; rfl, fun i u v h1 h2 => ?_⟩
  by_cases c : i < xs.length
  · rw [List.getElem?_append_left c] at h1
    rw [List.getElem?_append_left (by rw [← a.len]; exact c)] at h2
    exact a.get i u v h1 h2
  · rw [List.getElem?_append_right (by omega)] at h1
    rw [List.getElem?_append_right (by rw [← a.len]; omega), ← a.len] at h2
    cases e : i - xs.length with
    | zero =>
      rw [e] at h1 h2
      have h1 : x = u := by simpa using h1
      have h2 : y = v := by simpa using h2
      rw [← h1, ← h2]; exact h
    | succ n => rw [e] at h1; simp at h1
/-- changed at one place -/
theorem All2.set (a : All2 R xs ys) (x : α) (y : β) (h : R' x y) (hk : ∀ (j : Nat) (u : α) (v : β), j ≠ i → xs[j]? = some u → ys[j]? = some v → R u v → R' u v) : All2 R' (xs.set i x) (ys.set i y) := by
  refine ⟨by rw [List.length_set, List.length_set, a.len], fun j u v h1 h2 => ?_⟩
  by_cases e : i = j
  · subst e
    rw [List.getElem?_set_self' ] at h1 h2
    cases q : xs[i]? with
    | none => rw [q] at h1; cases h1
    | some _ =>
      cases q' : ys[i]? with
      | none => rw [q'] at h2; cases h2
      | some _ =>
        rw [q] at h1; rw [q'] at h2
        cases h1; cases h2
        exact h
  · rw [List.getElem?_set_ne e] at h1 h2
    exact hk j u v (fun z => e z.symm) h1 h2 (a.get j u v h1 h2)
theorem set_self {l : List α} (h : l[i]? = some x) : l.set i x = l := by
  refine List.ext_getElem? fun j => ?_
  by_cases e : i = j
  · subst e
    rw [List.getElem?_set_self', h]
    rfl
  · rw [List.getElem?_set_ne e]
/-- the right side alone changed -/
theorem All2.setR (a : All2 R xs ys) (hx : xs[i]? = some x) (y : β) (h : R' x y) (hk : ∀ (j : Nat) (u : α) (v : β), j ≠ i → xs[j]? = some u → ys[j]? = some v → R u v → R' u v) : All2 R' xs (ys.set i y) := by
  have q := a.set x y h hk
  rw [set_self hx] at q
  exact q
theorem All2.erase (a : All2 R xs ys) (i : Nat) : All2 R (xs.eraseIdx i) (ys.eraseIdx i) := by
  refine ⟨by rw [List.length_eraseIdx, List.length_eraseIdx, a.len], fun j u v h1 h2 => ?_⟩
  rw [List.getElem?_eraseIdx] at h1 h2
  by_cases c : j < i
  · rw [if_pos c] at h1 h2; exact a.get j u v h1 h2
  · rw [if_neg c] at h1 h2; exact a.get (j + 1) u v h1 h2
theorem All2.rep (n : Nat) (h : R x y) : All2 R (List.replicate n x) (List.replicate n y) := by
  refine ⟨by rw [List.length_replicate, List.length_replicate], fun j u v h1 h2 => ?_⟩
  have e1 := List.eq_of_mem_replicate (List.mem_of_getElem? h1)
  have e2 := List.eq_of_mem_replicate (List.mem_of_getElem? h2)
  rw [e1, e2]; exact h
theorem All2.map {γ : Type} {g : γ → α} {zs : List γ} (a : All2 (fun z y => R (g z) y) zs ys) : All2 R (zs.map g) ys := by
  refine ⟨by rw [List.length_map, a.len], fun j u v h1 h2 => ?_⟩
  rw [List.getElem?_map] at h1
  cases q : zs[j]? with
  | none => rw [q] at h1; cases h1
  | some z => rw [q] at h1; cases h1; exact a.get j z v q h2
end
/-! ### what is never changed -/
def SpanAt (C : Cs) (H : Hp) (a : Addr) (s : Span) : Prop := Obj H a C.span nSpan [vN s.1, vN s.2]
def SpanV (C : Cs) (H : Hp) (v : V) : Option Span → Prop
  | none => v = .non
  | some s => ∃ b, v = .ref b ∧ SpanAt C H b s
def WaitV (C : Cs) (H : Hp) (v : V) (a : Ask) : Prop := ∃ p, v = .ref p ∧ Obj H p C.waiting nWaiting [vN a.num, vN a.master, vN a.sent]
def KnownV (C : Cs) (H : Hp) (v : V) : Option (Nat × Span) → Prop
  | none => v = .non
  | some x => ∃ p b, v = .ref p ∧ Obj H p C.known nKnown [vN x.1, .ref b] ∧ SpanAt C H b x.2
def LetterV (C : Cs) (H : Hp) (v : V) (x : Letter) : Prop := ∃ p sp, v = .ref p ∧ Obj H p C.letter nLetter [vN x.kind, vN x.node, vN x.master, vN x.num, sp] ∧ SpanV C H sp (if x.kind = 0 then none else some x.says)
/-! ### what is changed -/
def MasterAt (C : Cs) (H : Hp) (a : Addr) (m : Master) : Prop := ∃ cl, Obj H a C.master nMaster [vN m.off, cl, .bl m.lied] ∧ SpanV C H cl m.lie
def pastV : Option Nat → V
  | none => .non
  | some e => vN e
def StampAt (C : Cs) (H : Hp) (a : Addr) (x : Stamp) : Prop := Obj H a C.stamp nStamp [vN x.node, vN x.value, vN x.begun, pastV x.ended]
def LstAt {α : Type} (H : Hp) (a : Addr) (R : V → α → Prop) (l : List α) : Prop := ∃ vs, H a = some (.lst vs) ∧ All2 R vs l
/-- a node's three addresses: itself, what it waits for, what it knows -/
structure NA where
  a : Addr
  wl : Addr
  kl : Addr
structure NodeAt (C : Cs) (H : Hp) (p : NA) (n : Node) : Prop where
  ob : Obj H p.a C.node nNode [.bl n.up, vN n.clock, vN n.last, vN n.count, .ref p.wl, .ref p.kl]
  ws : LstAt H p.wl (WaitV C H) n.asks
  ks : LstAt H p.kl (KnownV C H) n.known
inductive Role where
  | w | ml | nl | ll | sl
  | nd (i : Nat) | wl (i : Nat) | kl (i : Nat)
  | ms (i : Nat) | st (i : Nat)
  deriving DecidableEq
/-- where a world lies: who is whose (ow), the lists, the masters, the nodes, the stamps -/
structure Lay where
  ow : Addr → Option Role
  w : Addr
  ml : Addr
  nl : Addr
  ll : Addr
  sl : Addr
  ms : List Addr
  ns : List NA
  ss : List Addr
abbrev vWorld (L : Lay) (s : State) : List V := [vN s.good, vN s.wrong, vN s.liars, vN s.now, .ref L.ml, .ref L.nl, .ref L.ll, .ref L.sl, vN s.events]
/-- the state s lies at L in H; H0: what stood before and stands -/
structure St (C : Cs) (H0 H : Hp) (L : Lay) (s : State) : Prop where
  same : Same H0 H
  free : ∀ a r, L.ow a = some r → H0 a = none
  trk : ∀ a r, L.ow a = some r → ∃ o, H a = some o
  ow : L.ow L.w = some .w
  oml : L.ow L.ml = some .ml
  onl : L.ow L.nl = some .nl
  oll : L.ow L.ll = some .ll
  osl : L.ow L.sl = some .sl
  oms : ∀ (i : Nat) (a : Addr), L.ms[i]? = some a → L.ow a = some (.ms i)
  ons : ∀ (i : Nat) (p : NA), L.ns[i]? = some p → L.ow p.a = some (.nd i) ∧ L.ow p.wl = some (.wl i) ∧ L.ow p.kl = some (.kl i)
  oss : ∀ (i : Nat) (a : Addr), L.ss[i]? = some a → L.ow a = some (.st i)
  hw : Obj H L.w C.world nWorld (vWorld L s)
  hml : H L.ml = some (.lst (L.ms.map V.ref))
  hnl : H L.nl = some (.lst (L.ns.map fun p => V.ref p.a))
  hll : LstAt H L.ll (LetterV C H) s.letters
  hsl : H L.sl = some (.lst (L.ss.map V.ref))
  ms : All2 (MasterAt C H) L.ms s.masters
  ns : All2 (NodeAt C H) L.ns s.nodes
  ss : All2 (StampAt C H) L.ss s.stamps
/-! ### what is kept -/
def imm (o : HO) : Bool := match tag o with
  | some t => decide (t = nSpan) || (decide (t = nWaiting) || (decide (t = nKnown) || decide (t = nLetter)))
  | none => false
def Imm (H H' : Hp) : Prop := ∀ b o, H b = some o → imm o = true → H' b = some o
theorem imm_obj {C dx : Addr} {ns : List Str} {vs : List V} {k : Bool} (hl : ns.length = vs.length) (h : (decide (ns = nSpan) || (decide (ns = nWaiting) || (decide (ns = nKnown) || decide (ns = nLetter)))) = k) : imm (.ins C dx (ns.zip vs)) = k := by
  unfold imm
  rw [tag_obj hl]
  exact h
theorem im_span : (decide (nSpan = nSpan) || (decide (nSpan = nWaiting) || (decide (nSpan = nKnown) || decide (nSpan = nLetter)))) = true := by decide +kernel
theorem im_waiting : (decide (nWaiting = nSpan) || (decide (nWaiting = nWaiting) || (decide (nWaiting = nKnown) || decide (nWaiting = nLetter)))) = true := by decide +kernel
theorem im_known : (decide (nKnown = nSpan) || (decide (nKnown = nWaiting) || (decide (nKnown = nKnown) || decide (nKnown = nLetter)))) = true := by decide +kernel
theorem im_letter : (decide (nLetter = nSpan) || (decide (nLetter = nWaiting) || (decide (nLetter = nKnown) || decide (nLetter = nLetter)))) = true := by decide +kernel
theorem im_master : (decide (nMaster = nSpan) || (decide (nMaster = nWaiting) || (decide (nMaster = nKnown) || decide (nMaster = nLetter)))) = false := by decide +kernel
theorem im_node : (decide (nNode = nSpan) || (decide (nNode = nWaiting) || (decide (nNode = nKnown) || decide (nNode = nLetter)))) = false := by decide +kernel
theorem im_stamp : (decide (nStamp = nSpan) || (decide (nStamp = nWaiting) || (decide (nStamp = nKnown) || decide (nStamp = nLetter)))) = false := by decide +kernel
theorem im_world : (decide (nWorld = nSpan) || (decide (nWorld = nWaiting) || (decide (nWorld = nKnown) || decide (nWorld = nLetter)))) = false := by decide +kernel
section
variable {C : Cs} {H H' H0 : Hp} {a b : Addr} {v : V} {L : Lay} {s : State}
theorem Imm.upd {o o' : HO} (h : H a = some o) (hi : imm o = false) : Imm H (upd H a o') := fun b u e q => by
  have ne : b ≠ a := fun z => by
    rw [z, h] at e
    injection e with e
    rw [← e, hi] at q
    cases q
  rw [upd_ne ne]; exact e
theorem Imm.of (k : Same H H') : Imm H H' := fun b o e _ => k b o e
theorem Imm.obj {Ca : Addr} {ns : List Str} {vs : List V} (k : Imm H H') (o : Obj H a Ca ns vs) (hl : ns.length = vs.length) (h : (decide (ns = nSpan) || (decide (ns = nWaiting) || (decide (ns = nKnown) || decide (ns = nLetter)))) = true) : Obj H' a Ca ns vs :=
  let ⟨dx, e⟩ := o
  ⟨dx, k _ _ e (imm_obj hl h)⟩
theorem SpanAt.imm {x : Span} (h : SpanAt C H a x) (k : Imm H H') : SpanAt C H' a x := k.obj h rfl im_span
theorem SpanV.imm {x : Option Span} (h : SpanV C H v x) (k : Imm H H') : SpanV C H' v x := by
  cases x with
  | none => exact h
  | some x => obtain ⟨b, e, q⟩ := h; exact ⟨b, e, q.imm k⟩
theorem WaitV.imm {x : Ask} (h : WaitV C H v x) (k : Imm H H') : WaitV C H' v x := by
  obtain ⟨p, e, q⟩ := h
  exact ⟨p, e, k.obj q rfl im_waiting⟩
theorem KnownV.imm {x : Option (Nat × Span)} (h : KnownV C H v x) (k : Imm H H') : KnownV C H' v x := by
  cases x with
  | none => exact h
  | some x => obtain ⟨p, b, e, q, r⟩ := h; exact ⟨p, b, e, k.obj q rfl im_known, r.imm k⟩
theorem LetterV.imm {x : Letter} (h : LetterV C H v x) (k : Imm H H') : LetterV C H' v x := by
  obtain ⟨p, sp, e, q, r⟩ := h
  exact ⟨p, sp, e, k.obj q rfl im_letter, r.imm k⟩
/-- what stands at an address that is not touched -/
theorem MasterAt.kept {m : Master} (h : MasterAt C H a m) (k : Imm H H') (e : H' a = H a) : MasterAt C H' a m := by
  obtain ⟨cl, ⟨dx, q⟩, r⟩ := h
  exact ⟨cl, ⟨dx, e.trans q⟩, r.imm k⟩
theorem StampAt.kept {x : Stamp} (h : StampAt C H a x) (e : H' a = H a) : StampAt C H' a x := by
  obtain ⟨dx, q⟩ := h
  exact ⟨dx, e.trans q⟩
theorem LstAt.kept {α : Type} {R R' : V → α → Prop} {l : List α} (h : LstAt H a R l) (e : H' a = H a) (k : ∀ x y, R x y → R' x y) : LstAt H' a R' l := by
  obtain ⟨vs, q, r⟩ := h
  exact ⟨vs, e.trans q, r.imp k⟩
theorem NodeAt.kept {p : NA} {n : Node} (h : NodeAt C H p n) (k : Imm H H') (e1 : H' p.a = H p.a) (e2 : H' p.wl = H p.wl) (e3 : H' p.kl = H p.kl) : NodeAt C H' p n := by
  obtain ⟨⟨dx, q⟩, r, t⟩ := h
  exact ⟨⟨dx, e1.trans q⟩, r.kept e2 fun x y z => z.imm k, t.kept e3 fun x y z => z.imm k⟩
theorem role_ne {r r' : Role} (h : L.ow a = some r) (h' : L.ow b = some r') (d : r ≠ r') : a ≠ b := fun e => by
  rw [e, h'] at h
  injection h with h
  exact d h.symm
/-- nothing that was there is touched -/
theorem St.more (S : St C H0 H L s) (k : Same H H') : St C H0 H' L s := by
  have i : Imm H H' := .of k
  have eq : ∀ {a : Addr} {r : Role}, L.ow a = some r → H' a = H a := fun {a r} h => by
    obtain ⟨o, e⟩ := S.trk a r h
    rw [e]; exact k _ _ e
  refine ⟨S.same.trans k, S.free, fun a r h => ?_, S.ow, S.oml, S.onl, S.oll, S.osl, S.oms, S.ons, S.oss, (Hc.Same.obj k S.hw), k _ _ S.hml, k _ _ S.hnl, S.hll.kept (eq S.oll) fun x y z => z.imm i, k _ _ S.hsl,
    ⟨S.ms.len, fun j x y h1 h2 => (S.ms.get j x y h1 h2).kept i (eq (S.oms j x h1))⟩, ⟨S.ns.len, fun j x y h1 h2 => ?_⟩, ⟨S.ss.len, fun j x y h1 h2 => (S.ss.get j x y h1 h2).kept (eq (S.oss j x h1))⟩⟩
  · obtain ⟨o, e⟩ := S.trk a r h
    exact ⟨o, k _ _ e⟩
  · obtain ⟨o1, o2, o3⟩ := S.ons j x h1
    exact (S.ns.get j x y h1 h2).kept i (eq o1) (eq o2) (eq o3)
/-- H0 with more in it that none of the world's is -/
theorem St.from (S : St C H0 H L s) {H1 : Hp} (k : Same H1 H) (f : ∀ a r, L.ow a = some r → H1 a = none) : St C H1 H L s := { S with same := k, free := f }
theorem St.keep {o : HO} {r : Role} (S : St C H0 H L s) (h : L.ow a = some r) : Same H0 (upd H a o) := fun b u e => by
  rw [upd_ne (ne_of_none e (S.free _ _ h))]
  exact S.same _ _ e
theorem St.trk' {o : HO} (S : St C H0 H L s) : ∀ b r, L.ow b = some r → ∃ u, (upd H a o) b = some u := fun b r h => by
  by_cases e : b = a
  · rw [e]; exact ⟨o, upd_same⟩
  · rw [upd_ne e]; exact S.trk b r h
/-- the world's own numbers -/
theorem St.setWorld {dx : Addr} (S : St C H0 H L s) (h : H L.w = some (.ins C.world dx (nWorld.zip (vWorld L s)))) (g w f t e : Nat) :
    St C H0 (upd H L.w (.ins C.world dx (nWorld.zip (vWorld L { s with good := g, wrong := w, liars := f, now := t, events := e })))) L { s with good := g, wrong := w, liars := f, now := t, events := e } := by
  have i : Imm H (upd H L.w (.ins C.world dx (nWorld.zip (vWorld L { s with good := g, wrong := w, liars := f, now := t, events := e })))) := .upd h (imm_obj rfl im_world)
  have eq : ∀ {b : Addr} {r : Role}, L.ow b = some r → r ≠ .w → (upd H L.w (.ins C.world dx (nWorld.zip (vWorld L { s with good := g, wrong := w, liars := f, now := t, events := e })))) b = H b := fun q d => upd_ne (role_ne q S.ow d)
  refine ⟨S.keep S.ow, S.free, S.trk', S.ow, S.oml, S.onl, S.oll, S.osl, S.oms, S.ons, S.oss, ⟨dx, upd_same⟩, (eq S.oml (by simp)).trans S.hml, (eq S.onl (by simp)).trans S.hnl, S.hll.kept (eq S.oll (by simp)) fun x y z => z.imm i, (eq S.osl (by simp)).trans S.hsl,
    ⟨S.ms.len, fun j x y h1 h2 => (S.ms.get j x y h1 h2).kept i (eq (S.oms j x h1) (by simp))⟩, ⟨S.ns.len, fun j x y h1 h2 => ?_⟩, ⟨S.ss.len, fun j x y h1 h2 => (S.ss.get j x y h1 h2).kept (eq (S.oss j x h1) (by simp))⟩⟩
  obtain ⟨o1, o2, o3⟩ := S.ons j x h1
  exact (S.ns.get j x y h1 h2).kept i (eq o1 (by simp)) (eq o2 (by simp)) (eq o3 (by simp))
/-- a master -/
theorem St.setMaster {dx : Addr} {k : Nat} {o : HO} (S : St C H0 H L s) (hk : L.ms[k]? = some a) (h : H a = some o) (hi : imm o = false) (m : Master) (cl : V) (hc : SpanV C (upd H a (.ins C.master dx (nMaster.zip [vN m.off, cl, .bl m.lied]))) cl m.lie) :
    St C H0 (upd H a (.ins C.master dx (nMaster.zip [vN m.off, cl, .bl m.lied]))) L { s with masters := s.masters.set k m } := by
  have i : Imm H (upd H a (.ins C.master dx (nMaster.zip [vN m.off, cl, .bl m.lied]))) := .upd h hi
  have eq : ∀ {b : Addr} {r : Role}, L.ow b = some r → r ≠ .ms k → (upd H a (.ins C.master dx (nMaster.zip [vN m.off, cl, .bl m.lied]))) b = H b := fun q d => upd_ne (role_ne q (S.oms k a hk) d)
  refine ⟨S.keep (S.oms k a hk), S.free, S.trk', S.ow, S.oml, S.onl, S.oll, S.osl, S.oms, S.ons, S.oss, ?_, (eq S.oml (by simp)).trans S.hml, (eq S.onl (by simp)).trans S.hnl, S.hll.kept (eq S.oll (by simp)) fun x y z => z.imm i, (eq S.osl (by simp)).trans S.hsl,
    S.ms.setR hk m ⟨cl, ⟨dx, upd_same⟩, hc⟩ fun j u v ne h1 h2 z => z.kept i (eq (S.oms j u h1) (by simpa using ne)), ⟨S.ns.len, fun j x y h1 h2 => ?_⟩, ⟨S.ss.len, fun j x y h1 h2 => (S.ss.get j x y h1 h2).kept (eq (S.oss j x h1) (by simp))⟩⟩
  · obtain ⟨d, e⟩ := S.hw
    exact ⟨d, (eq S.ow (by simp)).trans e⟩
  · obtain ⟨o1, o2, o3⟩ := S.ons j x h1
    exact (S.ns.get j x y h1 h2).kept i (eq o1 (by simp)) (eq o2 (by simp)) (eq o3 (by simp))
/-- a node's own numbers -/
theorem St.setNode {dx : Addr} {k : Nat} {p : NA} {n : Node} (S : St C H0 H L s) (hk : L.ns[k]? = some p) (hn : s.nodes[k]? = some n) (up : Bool) (cl la co : Nat) :
    St C H0 (upd H p.a (.ins C.node dx (nNode.zip [.bl up, vN cl, vN la, vN co, .ref p.wl, .ref p.kl]))) L { s with nodes := s.nodes.set k { n with up := up, clock := cl, last := la, count := co } } := by
  have N := S.ns.get k p n hk hn
  obtain ⟨d0, h⟩ := N.ob
  have i : Imm H (upd H p.a (.ins C.node dx (nNode.zip [.bl up, vN cl, vN la, vN co, .ref p.wl, .ref p.kl]))) := .upd h (imm_obj rfl im_node)
  have o := S.ons k p hk
  have eq : ∀ {b : Addr} {r : Role}, L.ow b = some r → r ≠ .nd k → (upd H p.a (.ins C.node dx (nNode.zip [.bl up, vN cl, vN la, vN co, .ref p.wl, .ref p.kl]))) b = H b := fun q d => upd_ne (role_ne q o.1 d)
  refine ⟨S.keep o.1, S.free, S.trk', S.ow, S.oml, S.onl, S.oll, S.osl, S.oms, S.ons, S.oss, ?_, (eq S.oml (by simp)).trans S.hml, (eq S.onl (by simp)).trans S.hnl, S.hll.kept (eq S.oll (by simp)) fun x y z => z.imm i, (eq S.osl (by simp)).trans S.hsl,
    ⟨S.ms.len, fun j x y h1 h2 => (S.ms.get j x y h1 h2).kept i (eq (S.oms j x h1) (by simp))⟩, S.ns.setR hk _ ⟨⟨dx, upd_same⟩, N.ws.kept (eq o.2.1 (by simp)) fun x y z => z.imm i, N.ks.kept (eq o.2.2 (by simp)) fun x y z => z.imm i⟩ fun j u v ne h1 h2 z => ?_, ⟨S.ss.len, fun j x y h1 h2 => (S.ss.get j x y h1 h2).kept (eq (S.oss j x h1) (by simp))⟩⟩
  · obtain ⟨d, e⟩ := S.hw
    exact ⟨d, (eq S.ow (by simp)).trans e⟩
  · obtain ⟨o1, o2, o3⟩ := S.ons j u h1
    exact z.kept i (eq o1 (by simpa using ne)) (eq o2 (by simp)) (eq o3 (by simp))
/-- what a node waits for -/
theorem St.setWait {k : Nat} {p : NA} {n : Node} {vs : List V} {as : List Ask} (S : St C H0 H L s) (hk : L.ns[k]? = some p) (hn : s.nodes[k]? = some n) (hv : All2 (WaitV C H) vs as) :
    St C H0 (upd H p.wl (.lst vs)) L { s with nodes := s.nodes.set k { n with asks := as } } := by
  have N := S.ns.get k p n hk hn
  obtain ⟨v0, h, _⟩ := N.ws
  have i : Imm H (upd H p.wl (.lst vs)) := .upd h rfl
  have o := S.ons k p hk
  have eq : ∀ {b : Addr} {r : Role}, L.ow b = some r → r ≠ .wl k → (upd H p.wl (.lst vs)) b = H b := fun q d => upd_ne (role_ne q o.2.1 d)
  refine ⟨S.keep o.2.1, S.free, S.trk', S.ow, S.oml, S.onl, S.oll, S.osl, S.oms, S.ons, S.oss, ?_, (eq S.oml (by simp)).trans S.hml, (eq S.onl (by simp)).trans S.hnl, S.hll.kept (eq S.oll (by simp)) fun x y z => z.imm i, (eq S.osl (by simp)).trans S.hsl,
    ⟨S.ms.len, fun j x y h1 h2 => (S.ms.get j x y h1 h2).kept i (eq (S.oms j x h1) (by simp))⟩, S.ns.setR hk _ ⟨?_, ⟨vs, upd_same, hv.imp fun x y z => z.imm i⟩, N.ks.kept (eq o.2.2 (by simp)) fun x y z => z.imm i⟩ fun j u v ne h1 h2 z => ?_, ⟨S.ss.len, fun j x y h1 h2 => (S.ss.get j x y h1 h2).kept (eq (S.oss j x h1) (by simp))⟩⟩
  · obtain ⟨d, e⟩ := S.hw
    exact ⟨d, (eq S.ow (by simp)).trans e⟩
  · obtain ⟨d, e⟩ := N.ob
    exact ⟨d, (eq o.1 (by simp)).trans e⟩
  · obtain ⟨o1, o2, o3⟩ := S.ons j u h1
    exact z.kept i (eq o1 (by simp)) (eq o2 (by simpa using ne)) (eq o3 (by simp))
/-- what a node knows -/
theorem St.setKnown {k : Nat} {p : NA} {n : Node} {vs : List V} {ks : List (Option (Nat × Span))} (S : St C H0 H L s) (hk : L.ns[k]? = some p) (hn : s.nodes[k]? = some n) (hv : All2 (KnownV C H) vs ks) :
    St C H0 (upd H p.kl (.lst vs)) L { s with nodes := s.nodes.set k { n with known := ks } } := by
  have N := S.ns.get k p n hk hn
  obtain ⟨v0, h, _⟩ := N.ks
  have i : Imm H (upd H p.kl (.lst vs)) := .upd h rfl
  have o := S.ons k p hk
  have eq : ∀ {b : Addr} {r : Role}, L.ow b = some r → r ≠ .kl k → (upd H p.kl (.lst vs)) b = H b := fun q d => upd_ne (role_ne q o.2.2 d)
  refine ⟨S.keep o.2.2, S.free, S.trk', S.ow, S.oml, S.onl, S.oll, S.osl, S.oms, S.ons, S.oss, ?_, (eq S.oml (by simp)).trans S.hml, (eq S.onl (by simp)).trans S.hnl, S.hll.kept (eq S.oll (by simp)) fun x y z => z.imm i, (eq S.osl (by simp)).trans S.hsl,
    ⟨S.ms.len, fun j x y h1 h2 => (S.ms.get j x y h1 h2).kept i (eq (S.oms j x h1) (by simp))⟩, S.ns.setR hk _ ⟨?_, N.ws.kept (eq o.2.1 (by simp)) fun x y z => z.imm i, ⟨vs, upd_same, hv.imp fun x y z => z.imm i⟩⟩ fun j u v ne h1 h2 z => ?_, ⟨S.ss.len, fun j x y h1 h2 => (S.ss.get j x y h1 h2).kept (eq (S.oss j x h1) (by simp))⟩⟩
  · obtain ⟨d, e⟩ := S.hw
    exact ⟨d, (eq S.ow (by simp)).trans e⟩
  · obtain ⟨d, e⟩ := N.ob
    exact ⟨d, (eq o.1 (by simp)).trans e⟩
  · obtain ⟨o1, o2, o3⟩ := S.ons j u h1
    exact z.kept i (eq o1 (by simp)) (eq o2 (by simp)) (eq o3 (by simpa using ne))
/-- the row of letters -/
theorem St.setLetters {vs : List V} {ls : List Letter} (S : St C H0 H L s) (hv : All2 (LetterV C H) vs ls) : St C H0 (upd H L.ll (.lst vs)) L { s with letters := ls } := by
  obtain ⟨v0, h, _⟩ := S.hll
  have i : Imm H (upd H L.ll (.lst vs)) := .upd h rfl
  have eq : ∀ {b : Addr} {r : Role}, L.ow b = some r → r ≠ .ll → (upd H L.ll (.lst vs)) b = H b := fun q d => upd_ne (role_ne q S.oll d)
  refine ⟨S.keep S.oll, S.free, S.trk', S.ow, S.oml, S.onl, S.oll, S.osl, S.oms, S.ons, S.oss, ?_, (eq S.oml (by simp)).trans S.hml, (eq S.onl (by simp)).trans S.hnl, ⟨vs, upd_same, hv.imp fun x y z => z.imm i⟩, (eq S.osl (by simp)).trans S.hsl,
    ⟨S.ms.len, fun j x y h1 h2 => (S.ms.get j x y h1 h2).kept i (eq (S.oms j x h1) (by simp))⟩, ⟨S.ns.len, fun j x y h1 h2 => ?_⟩, ⟨S.ss.len, fun j x y h1 h2 => (S.ss.get j x y h1 h2).kept (eq (S.oss j x h1) (by simp))⟩⟩
  · obtain ⟨d, e⟩ := S.hw
    exact ⟨d, (eq S.ow (by simp)).trans e⟩
  · obtain ⟨o1, o2, o3⟩ := S.ons j x h1
    exact (S.ns.get j x y h1 h2).kept i (eq o1 (by simp)) (eq o2 (by simp)) (eq o3 (by simp))
/-- a stamp -/
theorem St.setStamp {dx : Addr} {k : Nat} {o : HO} (S : St C H0 H L s) (hk : L.ss[k]? = some a) (h : H a = some o) (hi : imm o = false) (x : Stamp) :
    St C H0 (upd H a (.ins C.stamp dx (nStamp.zip [vN x.node, vN x.value, vN x.begun, pastV x.ended]))) L { s with stamps := s.stamps.set k x } := by
  have i : Imm H (upd H a (.ins C.stamp dx (nStamp.zip [vN x.node, vN x.value, vN x.begun, pastV x.ended]))) := .upd h hi
  have eq : ∀ {b : Addr} {r : Role}, L.ow b = some r → r ≠ .st k → (upd H a (.ins C.stamp dx (nStamp.zip [vN x.node, vN x.value, vN x.begun, pastV x.ended]))) b = H b := fun q d => upd_ne (role_ne q (S.oss k a hk) d)
  refine ⟨S.keep (S.oss k a hk), S.free, S.trk', S.ow, S.oml, S.onl, S.oll, S.osl, S.oms, S.ons, S.oss, ?_, (eq S.oml (by simp)).trans S.hml, (eq S.onl (by simp)).trans S.hnl, S.hll.kept (eq S.oll (by simp)) fun x y z => z.imm i, (eq S.osl (by simp)).trans S.hsl,
    ⟨S.ms.len, fun j x y h1 h2 => (S.ms.get j x y h1 h2).kept i (eq (S.oms j x h1) (by simp))⟩, ⟨S.ns.len, fun j x y h1 h2 => ?_⟩, S.ss.setR hk x ⟨dx, upd_same⟩ fun j u v ne h1 h2 z => z.kept (eq (S.oss j u h1) (by simpa using ne))⟩
  · obtain ⟨d, e⟩ := S.hw
    exact ⟨d, (eq S.ow (by simp)).trans e⟩
  · obtain ⟨o1, o2, o3⟩ := S.ons j x h1
    exact (S.ns.get j x y h1 h2).kept i (eq o1 (by simp)) (eq o2 (by simp)) (eq o3 (by simp))
/-- the layout with one stamp more -/
def Lay.addStamp (L : Lay) (a : Addr) : Lay := { L with ow := fun b => if b = a then some (.st L.ss.length) else L.ow b, ss := L.ss ++ [a] }
/-- a new stamp, at an address that is nobody's -/
theorem St.addStamp (S : St C H0 H L s) {x : Stamp} (h0 : H0 a = none) (ha : L.ow a = none) (h : StampAt C H a x) : St C H0 (upd H L.sl (.lst (L.ss.map V.ref ++ [.ref a]))) (L.addStamp a) { s with stamps := s.stamps ++ [x] } := by
  obtain ⟨dx, hx⟩ := h
  have i : Imm H (upd H L.sl (.lst (L.ss.map V.ref ++ [.ref a]))) := .upd S.hsl rfl
  have eq : ∀ {b : Addr} {r : Role}, L.ow b = some r → r ≠ .sl → (upd H L.sl (.lst (L.ss.map V.ref ++ [.ref a]))) b = H b := fun q d => upd_ne (role_ne q S.osl d)
  have ow : ∀ {b : Addr} {r : Role}, L.ow b = some r → (L.addStamp a).ow b = some r := fun {b r} q => by
    show (if b = a then _ else L.ow b) = some r
    have ne : b ≠ a := fun z => by rw [z, ha] at q; cases q
    rw [if_neg ne]; exact q
  have nsl : a ≠ L.sl := fun z => by rw [z, S.osl] at ha; cases ha
  refine ⟨S.keep S.osl, fun b r q => ?_, fun b r q => ?_, ow S.ow, ow S.oml, ow S.onl, ow S.oll, ow S.osl, fun j x q => ow (S.oms j x q), fun j p q => ⟨ow (S.ons j p q).1, ow (S.ons j p q).2.1, ow (S.ons j p q).2.2⟩, fun j b q => ?_, ?_, (eq S.oml (by simp)).trans S.hml, (eq S.onl (by simp)).trans S.hnl, S.hll.kept (eq S.oll (by simp)) fun x y z => z.imm i, ?_,
    ⟨S.ms.len, fun j x y h1 h2 => (S.ms.get j x y h1 h2).kept i (eq (S.oms j x h1) (by simp))⟩, ⟨S.ns.len, fun j x y h1 h2 => ?_⟩, ?_⟩
  · have q : (if b = a then some (Role.st L.ss.length) else L.ow b) = some r := q
    by_cases e : b = a
    · rw [e]; exact h0
    · rw [if_neg e] at q; exact S.free b r q
  · have q : (if b = a then some (Role.st L.ss.length) else L.ow b) = some r := q
    by_cases e : b = a
    · rw [e, upd_ne nsl]; exact ⟨_, hx⟩
    · rw [if_neg e] at q; exact S.trk' b r q
  · have q : (L.ss ++ [a])[j]? = some b := q
    show (if b = a then some (Role.st L.ss.length) else L.ow b) = some (.st j)
    by_cases c : j < L.ss.length
    · rw [List.getElem?_append_left c] at q
      exact ow (S.oss j b q)
    · rw [List.getElem?_append_right (by omega)] at q
      cases e : j - L.ss.length with
      | zero =>
        rw [e] at q
        have q : a = b := by simpa using q
        rw [if_pos q.symm, show j = L.ss.length by omega]
      | succ n => rw [e] at q; simp at q
  · obtain ⟨d, e⟩ := S.hw
    exact ⟨d, (eq S.ow (by simp)).trans e⟩
  · show (upd H L.sl (.lst (L.ss.map V.ref ++ [.ref a]))) L.sl = some (.lst ((L.ss ++ [a]).map V.ref))
    rw [upd_same, List.map_append]
    rfl
  · obtain ⟨o1, o2, o3⟩ := S.ons j x h1
    exact (S.ns.get j x y h1 h2).kept i (eq o1 (by simp)) (eq o2 (by simp)) (eq o3 (by simp))
  · have q : All2 (StampAt C (upd H L.sl (.lst (L.ss.map V.ref ++ [.ref a])))) L.ss s.stamps := ⟨S.ss.len, fun j x y h1 h2 => (S.ss.get j x y h1 h2).kept (eq (S.oss j x h1) (by simp))⟩
    exact q.snoc ⟨dx, (upd_ne nsl).trans hx⟩
end
end Hc
set_option Elab.async false
set_option maxRecDepth 100000
set_option maxHeartbeats 2000000
/-! The text by its places; what of it stands; a def's promise by its body. -/
namespace Hc
open PySem PySem.Spec PyProof.Rows L2
def topS (i : Nat) : Stmt := PySem.Challenge.pw_honestclocks_s01_answers.main.body.getD i (.Pass ⟨0, 0, 0, 0⟩)
abbrev s_Master : Stmt := inClass (topS 1) 0
abbrev s_Waiting : Stmt := inClass (topS 2) 0
abbrev s_Known : Stmt := inClass (topS 3) 0
abbrev s_Node : Stmt := inClass (topS 4) 0
abbrev s_Letter : Stmt := inClass (topS 5) 0
abbrev s_Stamp : Stmt := inClass (topS 6) 0
abbrev s_World : Stmt := inClass (topS 7) 0
abbrev s_Span : Stmt := inClass (topS 9) 0
abbrev s_least_passed : Stmt := topS 10
abbrev s_most_passed : Stmt := topS 11
abbrev s_grown : Stmt := topS 12
abbrev s_common : Stmt := topS 13
abbrev s_holders : Stmt := topS 14
abbrev s_agreed : Stmt := topS 15
abbrev s_said_by : Stmt := topS 17
abbrev s_known_now : Stmt := topS 18
abbrev s_time_by : Stmt := topS 19
abbrev s_learn : Stmt := topS 20
abbrev s_forget : Stmt := topS 21
abbrev s_send : Stmt := topS 29
abbrev s_send_ask : Stmt := topS 30
abbrev s_hand_over : Stmt := topS 31
abbrev s_answer_ask : Stmt := topS 32
abbrev s_hear_answer : Stmt := topS 33
abbrev s_waited_for_at : Stmt := topS 34
abbrev s_ends : Stmt := topS 37
abbrev s_letter_shown : Stmt := topS 38
abbrev s_letters_shown : Stmt := topS 39
abbrev s_time_shown : Stmt := topS 40
abbrev s_known_shown : Stmt := topS 41
abbrev s_node_shown : Stmt := topS 42
abbrev s_master_shown : Stmt := topS 43
abbrev s_stamp_shown : Stmt := topS 44
abbrev s_stamps_shown : Stmt := topS 45
abbrev s_Line : Stmt := inClass (topS 54) 0
abbrev s_there : Stmt := topS 55
abbrev s_begin : Stmt := topS 56
abbrev s_goes_right : Stmt := topS 57
abbrev s_pass_time : Stmt := topS 58
abbrev s_skew : Stmt := topS 59
abbrev s_lie : Stmt := topS 60
abbrev s_ask : Stmt := topS 61
abbrev s_new_event : Stmt := topS 62
abbrev s_give_stamp : Stmt := topS 63
abbrev s_settle : Stmt := topS 64
abbrev s_take : Stmt := topS 65
abbrev s_keep : Stmt := topS 66
abbrev s_lose : Stmt := topS 67
abbrev s_stop : Stmt := topS 68
abbrev s_start : Stmt := topS 69
abbrev s_show_letters : Stmt := topS 70
abbrev s_show_time : Stmt := topS 71
abbrev s_show_node : Stmt := topS 72
abbrev s_show_master : Stmt := topS 73
abbrev s_show_stamps : Stmt := topS 74
abbrev s_answer_to : Stmt := topS 77
abbrev s_end_of_call : Stmt := topS 81
abbrev s_answers : Stmt := topS 82
theorem sc_Master : FnScope ["self", "off"] ["self", "off"] (defScope s_Master) := ⟨rfl, rfl, rfl, by decide +kernel, rfl, by decide +kernel, by decide +kernel⟩
theorem sc_Waiting : FnScope ["self", "number", "master", "since"] ["self", "number", "master", "since"] (defScope s_Waiting) := ⟨rfl, rfl, rfl, by decide +kernel, rfl, by decide +kernel, by decide +kernel⟩
theorem sc_Known : FnScope ["self", "when", "span"] ["self", "when", "span"] (defScope s_Known) := ⟨rfl, rfl, rfl, by decide +kernel, rfl, by decide +kernel, by decide +kernel⟩
theorem sc_Node : FnScope ["self", "masters"] ["self", "masters"] (defScope s_Node) := ⟨rfl, rfl, rfl, by decide +kernel, rfl, by decide +kernel, by decide +kernel⟩
theorem sc_Letter : FnScope ["self", "kind", "node", "master", "number", "span"] ["self", "kind", "node", "master", "number", "span"] (defScope s_Letter) := ⟨rfl, rfl, rfl, by decide +kernel, rfl, by decide +kernel, by decide +kernel⟩
theorem sc_Stamp : FnScope ["self", "node", "value", "given"] ["self", "node", "value", "given"] (defScope s_Stamp) := ⟨rfl, rfl, rfl, by decide +kernel, rfl, by decide +kernel, by decide +kernel⟩
theorem sc_World : FnScope ["self", "g", "w", "f", "masters", "nodes", "place"] ["self", "g", "w", "f", "masters", "nodes"] (defScope s_World) := ⟨rfl, rfl, rfl, by decide +kernel, rfl, by decide +kernel, by decide +kernel⟩
theorem sc_Span : FnScope ["self", "least", "greatest"] ["self", "least", "greatest"] (defScope s_Span) := ⟨rfl, rfl, rfl, by decide +kernel, rfl, by decide +kernel, by decide +kernel⟩
theorem sc_least_passed : FnScope ["by_clock", "wrong"] ["by_clock", "wrong"] (defScope s_least_passed) := ⟨rfl, rfl, rfl, by decide +kernel, rfl, by decide +kernel, by decide +kernel⟩
theorem sc_most_passed : FnScope ["by_clock", "wrong"] ["by_clock", "wrong"] (defScope s_most_passed) := ⟨rfl, rfl, rfl, by decide +kernel, rfl, by decide +kernel, by decide +kernel⟩
theorem sc_grown : FnScope ["span", "by_clock", "wrong", "least", "greatest"] ["span", "by_clock", "wrong"] (defScope s_grown) := ⟨rfl, rfl, rfl, by decide +kernel, rfl, by decide +kernel, by decide +kernel⟩
theorem sc_common : FnScope ["one", "other", "least", "greatest"] ["one", "other"] (defScope s_common) := ⟨rfl, rfl, rfl, by decide +kernel, rfl, by decide +kernel, by decide +kernel⟩
theorem sc_holders : FnScope ["spans", "number", "span"] ["spans", "number"] (defScope s_holders) := ⟨rfl, rfl, rfl, by decide +kernel, rfl, by decide +kernel, by decide +kernel⟩
theorem sc_agreed : FnScope ["spans", "enough", "lows", "highs", "span"] ["spans", "enough"] (defScope s_agreed) := ⟨rfl, rfl, rfl, by decide +kernel, rfl, by decide +kernel, by decide +kernel⟩
theorem sc_said_by : FnScope ["world", "master", "greatest"] ["world", "master"] (defScope s_said_by) := ⟨rfl, rfl, rfl, by decide +kernel, rfl, by decide +kernel, by decide +kernel⟩
theorem sc_known_now : FnScope ["world", "node", "known"] ["world", "node", "known"] (defScope s_known_now) := ⟨rfl, rfl, rfl, by decide +kernel, rfl, by decide +kernel, by decide +kernel⟩
theorem sc_time_by : FnScope ["world", "node", "spans", "known"] ["world", "node"] (defScope s_time_by) := ⟨rfl, rfl, rfl, by decide +kernel, rfl, by decide +kernel, by decide +kernel⟩
theorem sc_learn : FnScope ["world", "node", "waiting", "told", "since_asked", "span", "before", "both"] ["world", "node", "waiting", "told"] (defScope s_learn) := ⟨rfl, rfl, rfl, by decide +kernel, rfl, by decide +kernel, by decide +kernel⟩
theorem sc_forget : FnScope ["node"] ["node"] (defScope s_forget) := ⟨rfl, rfl, rfl, by decide +kernel, rfl, by decide +kernel, by decide +kernel⟩
theorem sc_send : FnScope ["world", "letter"] ["world", "letter"] (defScope s_send) := ⟨rfl, rfl, rfl, by decide +kernel, rfl, by decide +kernel, by decide +kernel⟩
theorem sc_send_ask : FnScope ["world", "node", "master", "number"] ["world", "node", "master", "number"] (defScope s_send_ask) := ⟨rfl, rfl, rfl, by decide +kernel, rfl, by decide +kernel, by decide +kernel⟩
theorem sc_hand_over : FnScope ["world", "letter"] ["world", "letter"] (defScope s_hand_over) := ⟨rfl, rfl, rfl, by decide +kernel, rfl, by decide +kernel, by decide +kernel⟩
theorem sc_answer_ask : FnScope ["world", "letter", "span"] ["world", "letter"] (defScope s_answer_ask) := ⟨rfl, rfl, rfl, by decide +kernel, rfl, by decide +kernel, by decide +kernel⟩
theorem sc_hear_answer : FnScope ["world", "letter", "node", "place"] ["world", "letter"] (defScope s_hear_answer) := ⟨rfl, rfl, rfl, by decide +kernel, rfl, by decide +kernel, by decide +kernel⟩
theorem sc_waited_for_at : FnScope ["node", "letter", "place", "waiting"] ["node", "letter"] (defScope s_waited_for_at) := ⟨rfl, rfl, rfl, by decide +kernel, rfl, by decide +kernel, by decide +kernel⟩
theorem sc_ends : FnScope ["span"] ["span"] (defScope s_ends) := ⟨rfl, rfl, rfl, by decide +kernel, rfl, by decide +kernel, by decide +kernel⟩
theorem sc_letter_shown : FnScope ["letter", "shown"] ["letter"] (defScope s_letter_shown) := ⟨rfl, rfl, rfl, by decide +kernel, rfl, by decide +kernel, by decide +kernel⟩
theorem sc_letters_shown : FnScope ["world", "shown", "letter"] ["world"] (defScope s_letters_shown) := ⟨rfl, rfl, rfl, by decide +kernel, rfl, by decide +kernel, by decide +kernel⟩
theorem sc_time_shown : FnScope ["world", "node", "span"] ["world", "node"] (defScope s_time_shown) := ⟨rfl, rfl, rfl, by decide +kernel, rfl, by decide +kernel, by decide +kernel⟩
theorem sc_known_shown : FnScope ["known"] ["known"] (defScope s_known_shown) := ⟨rfl, rfl, rfl, by decide +kernel, rfl, by decide +kernel, by decide +kernel⟩
theorem sc_node_shown : FnScope ["node", "shown", "waiting", "known"] ["node"] (defScope s_node_shown) := ⟨rfl, rfl, rfl, by decide +kernel, rfl, by decide +kernel, by decide +kernel⟩
theorem sc_master_shown : FnScope ["world", "master"] ["world", "master"] (defScope s_master_shown) := ⟨rfl, rfl, rfl, by decide +kernel, rfl, by decide +kernel, by decide +kernel⟩
theorem sc_stamp_shown : FnScope ["stamp", "past"] ["stamp"] (defScope s_stamp_shown) := ⟨rfl, rfl, rfl, by decide +kernel, rfl, by decide +kernel, by decide +kernel⟩
theorem sc_stamps_shown : FnScope ["world", "shown", "stamp"] ["world"] (defScope s_stamps_shown) := ⟨rfl, rfl, rfl, by decide +kernel, rfl, by decide +kernel, by decide +kernel⟩
theorem sc_Line : FnScope ["self"] ["self"] (defScope s_Line) := ⟨rfl, rfl, rfl, by decide +kernel, rfl, by decide +kernel, by decide +kernel⟩
theorem sc_there : FnScope ["things", "place"] ["things", "place"] (defScope s_there) := ⟨rfl, rfl, rfl, by decide +kernel, rfl, by decide +kernel, by decide +kernel⟩
theorem sc_begin : FnScope ["line", "handed", "g", "w", "f", "masters", "nodes"] ["line", "handed"] (defScope s_begin) := ⟨rfl, rfl, rfl, by decide +kernel, rfl, by decide +kernel, by decide +kernel⟩
theorem sc_goes_right : FnScope ["world", "d", "step"] ["world", "d", "step"] (defScope s_goes_right) := ⟨rfl, rfl, rfl, by decide +kernel, rfl, by decide +kernel, by decide +kernel⟩
theorem sc_pass_time : FnScope ["world", "handed", "d", "steps", "step", "node"] ["world", "handed"] (defScope s_pass_time) := ⟨rfl, rfl, rfl, by decide +kernel, rfl, by decide +kernel, by decide +kernel⟩
theorem sc_skew : FnScope ["world", "handed", "off", "master"] ["world", "handed"] (defScope s_skew) := ⟨rfl, rfl, rfl, by decide +kernel, rfl, by decide +kernel, by decide +kernel⟩
theorem sc_lie : FnScope ["world", "handed", "least", "greatest", "master"] ["world", "handed"] (defScope s_lie) := ⟨rfl, rfl, rfl, by decide +kernel, rfl, by decide +kernel, by decide +kernel⟩
theorem sc_ask : FnScope ["world", "handed", "node"] ["world", "handed"] (defScope s_ask) := ⟨rfl, rfl, rfl, by decide +kernel, rfl, by decide +kernel, by decide +kernel⟩
theorem sc_new_event : FnScope ["world", "number"] ["world"] (defScope s_new_event) := ⟨rfl, rfl, rfl, by decide +kernel, rfl, by decide +kernel, by decide +kernel⟩
theorem sc_give_stamp : FnScope ["world", "handed", "node", "span"] ["world", "handed"] (defScope s_give_stamp) := ⟨rfl, rfl, rfl, by decide +kernel, rfl, by decide +kernel, by decide +kernel⟩
theorem sc_settle : FnScope ["world", "handed", "stamp", "node", "span"] ["world", "handed"] (defScope s_settle) := ⟨rfl, rfl, rfl, by decide +kernel, rfl, by decide +kernel, by decide +kernel⟩
theorem sc_take : FnScope ["world", "handed", "letter"] ["world", "handed"] (defScope s_take) := ⟨rfl, rfl, rfl, by decide +kernel, rfl, by decide +kernel, by decide +kernel⟩
theorem sc_keep : FnScope ["world", "handed"] ["world", "handed"] (defScope s_keep) := ⟨rfl, rfl, rfl, by decide +kernel, rfl, by decide +kernel, by decide +kernel⟩
theorem sc_lose : FnScope ["world", "handed"] ["world", "handed"] (defScope s_lose) := ⟨rfl, rfl, rfl, by decide +kernel, rfl, by decide +kernel, by decide +kernel⟩
theorem sc_stop : FnScope ["world", "handed", "node"] ["world", "handed"] (defScope s_stop) := ⟨rfl, rfl, rfl, by decide +kernel, rfl, by decide +kernel, by decide +kernel⟩
theorem sc_start : FnScope ["world", "handed", "node"] ["world", "handed"] (defScope s_start) := ⟨rfl, rfl, rfl, by decide +kernel, rfl, by decide +kernel, by decide +kernel⟩
theorem sc_show_letters : FnScope ["world", "handed"] ["world", "handed"] (defScope s_show_letters) := ⟨rfl, rfl, rfl, by decide +kernel, rfl, by decide +kernel, by decide +kernel⟩
theorem sc_show_time : FnScope ["world", "handed"] ["world", "handed"] (defScope s_show_time) := ⟨rfl, rfl, rfl, by decide +kernel, rfl, by decide +kernel, by decide +kernel⟩
theorem sc_show_node : FnScope ["world", "handed"] ["world", "handed"] (defScope s_show_node) := ⟨rfl, rfl, rfl, by decide +kernel, rfl, by decide +kernel, by decide +kernel⟩
theorem sc_show_master : FnScope ["world", "handed"] ["world", "handed"] (defScope s_show_master) := ⟨rfl, rfl, rfl, by decide +kernel, rfl, by decide +kernel, by decide +kernel⟩
theorem sc_show_stamps : FnScope ["world", "handed"] ["world", "handed"] (defScope s_show_stamps) := ⟨rfl, rfl, rfl, by decide +kernel, rfl, by decide +kernel, by decide +kernel⟩
theorem sc_answer_to : FnScope ["line", "call", "handed"] ["line", "call", "handed"] (defScope s_answer_to) := ⟨rfl, rfl, rfl, by decide +kernel, rfl, by decide +kernel, by decide +kernel⟩
theorem sc_end_of_call : FnScope ["calls", "place", "end"] ["calls", "place"] (defScope s_end_of_call) := ⟨rfl, rfl, rfl, by decide +kernel, rfl, by decide +kernel, by decide +kernel⟩
theorem sc_answers : FnScope ["calls", "line", "result", "place", "end", "answer"] ["calls"] (defScope s_answers) := ⟨rfl, rfl, rfl, by decide +kernel, rfl, by decide +kernel, by decide +kernel⟩
/-- a whole number of the module -/
def GInt (mg : Str → Option Value) (x : Str) (i : Int) : Prop := ∃ t, mg x = some (.int i t)
theorem pe_const {X : Cx} {x : Str} {i : Int} {pos : Pos} (hg : Gl X x) (h : GInt X.mg x i) (hdb : (x == ("__debug__" : Str)) = false := by decide) : PE X (.Name x pos) (tC (.int i)) := by
  obtain ⟨t, e⟩ := h
  exact pe_glob hg e ⟨t, rfl⟩ hdb
theorem pe_globR {X : Cx} {x : Str} {a : Addr} {pos : Pos} (hg : Gl X x) (h : X.mg x = some (.ref a)) (hdb : (x == ("__debug__" : Str)) = false := by decide) : PE X (.Name x pos) (tC (.ref a)) := pe_glob hg h rfl hdb
/-- what of the text stands: the classes, the built-ins, the module's numbers -/
structure Txt (K : PySem.W.Frag) (mg : Str → Option Value) (C : Cs) : Prop where
  master : ClsOk K C.master nMaster
  waiting : ClsOk K C.waiting nWaiting
  known : ClsOk K C.known nKnown
  node : ClsOk K C.node nNode
  letter : ClsOk K C.letter nLetter
  stamp : ClsOk K C.stamp nStamp
  world : ClsOk K C.world nWorld
  span : ClsOk K C.span nSpan
  line : ClsOk K C.line nLine
  len : mg "len" = none
  max : mg "max" = none
  min : mg "min" = none
  all : mg "all" = none
  zip : mg "zip" = none
  enumerate : mg "enumerate" = none
  range : mg "range" = none
  gROOM : GInt mg "ROOM" 100
  gASK : GInt mg "ASK" 0
  gANSWER : GInt mg "ANSWER" 1
  gNO_USE : GInt mg "NO_USE" 0
  gANSWERED : GInt mg "ANSWERED" 1
  gHEARD : GInt mg "HEARD" 2
  gDONE : GInt mg "DONE" 0
  gNOT_FITTING : GInt mg "NOT_FITTING" (-1)
  gSO_ALREADY : GInt mg "SO_ALREADY" (-2)
  gNONE_YET : GInt mg "NONE_YET" (-1)
  gHAS_STOPPED : GInt mg "HAS_STOPPED" (-3)
  gTIME_UNKNOWN : GInt mg "TIME_UNKNOWN" (-6)
  gNOT_YET_PAST : GInt mg "NOT_YET_PAST" (-7)
  gNO_WORLD : GInt mg "NO_WORLD" (-9)
  gBEGIN : GInt mg "BEGIN" 0
  gPASS : GInt mg "PASS" 1
/-- a def of the module under its name -/
def Fn (K : PySem.W.Frag) (mg : Str → Option Value) (x : Str) (st : Stmt) : Prop := ∃ (f : Addr) (fd : FuncData), L2.Fun K x x st f fd ∧ mg x = some (.ref f)
/-- a class's __init__ -/
def Cl (K : PySem.W.Frag) (mg : Str → Option Value) (x qual : Str) (st : Stmt) (C : Addr) : Prop := ∃ (f : Addr) (fd : FuncData), L2.Fun K "__init__" qual st f fd ∧ Mk K C f ∧ mg x = some (.ref C)
section
variable {P : Program} {w : World} {K : PySem.W.Frag} {mg : Str → Option Value} {base : Heap}
theorem cal_of {x : Str} {st : Stmt} {N ps : List Str} {k : Nat} {sp : Sp} (F : Fn K mg x st) (S : FnScope N ps (defScope st))
    (hb : ∀ (kV doc pm : Value) (an : Option Addr) (cdv ct : Value) (us : List Value), us.length = ps.length → bindArgs (PySem.W.fnOf x x (defArgs st) (defBody st) (defScope st) .none kV doc pm an cdv ct) ⟨us, []⟩ = pure (ps.zip us))
    (len : ∀ vs H Q E, sp vs H Q E → vs.length = ps.length)
    (hbody : ∀ (f : Addr) (cdv : Value) (A : Around) (outer : List Env) (s : Shared) (H : Hp) (vs : List V) (Q : VK) (E : XK), Room k (A.deeper (envOfC x (defScope st) s.heap.objs.size f cdv)) → sp vs H Q E →
      ∃ t, PSs (cxOf CX0 P w K mg base N x (defScope st) f cdv A outer s H E).nox (defBody st) t ∧ t { nx := fun _ H' => Q .non H', rt := Q } (start N vs) H) : C8.Cal P w K mg base (k + 1) x sp [] := by
  obtain ⟨f, fd, F, hm⟩ := F
  exact ⟨f, fd, ps, [], F.ok S len (hbody f), hm, F.kp, F.binds hb, .nil⟩
theorem mak_of {x qual : Str} {C : Addr} {st : Stmt} {N ps : List Str} {k : Nat} {sp : Sp} (F : Cl K mg x qual st C) (S : FnScope N ps (defScope st))
    (hb : ∀ (kV doc pm : Value) (an : Option Addr) (cdv ct : Value) (us : List Value), us.length = ps.length → bindArgs (PySem.W.fnOf "__init__" qual (defArgs st) (defBody st) (defScope st) .none kV doc pm an cdv ct) ⟨us, []⟩ = pure (ps.zip us))
    (len : ∀ vs H Q E, sp vs H Q E → vs.length = ps.length)
    (hbody : ∀ (f : Addr) (cdv : Value) (A : Around) (outer : List Env) (s : Shared) (H : Hp) (vs : List V) (Q : VK) (E : XK), Room k (A.deeper (envOfC qual (defScope st) s.heap.objs.size f cdv)) → sp vs H Q E →
      ∃ t, PSs (cxOf CX0 P w K mg base N qual (defScope st) f cdv A outer s H E).nox (defBody st) t ∧ t { nx := fun _ H' => Q .non H', rt := Q } (start N vs) H) : C8.Mak P w K mg base (k + 1) x C sp [] := by
  obtain ⟨f, fd, F, M, hm⟩ := F
  exact ⟨f, fd, ps, [], M, F.ok S len (hbody f), hm, F.binds hb, .nil⟩
theorem pe_mk0 {X : Cx} {k j : Nat} {C : Addr} {x : Str} {sp : Sp} {p pos : Pos} (c : C8.Mak X.prog X.w X.K X.mg X.base k x C sp []) (hr : Room j X.A) (hk : k + 1 ≤ j) (hg : Gl X x)
    (hdb : (x == ("__debug__" : Str)) = false := by decide) : PE X (.Call (.Name x p) [] [] pos) (tMake C sp [] E0 tNil) := by
  obtain ⟨f, fd, ps, ds, M, F, hm, b, d⟩ := c.ex
  exact pe_make0 M F (hr.mono hk) hg hm b d pass0 hdb
end
/-! ### a call of what a table holds -/
/-- the def at f keeps sp -/
def tCallAt (P : Program) (w : World) (K : PySem.W.Frag) (mg : Str → Option Value) (base : Heap) (j : Nat) (tf : TE) (t : TA) : TE := fun σ H Q => tf σ H fun y H1 => ∃ (f : Addr) (k : Nat) (sp : Sp), y = .ref f ∧ C8.CalAt P w K mg base k f sp ∧ k ≤ j ∧ t σ H1 fun vs H2 => sp vs H2 Q E0
theorem pe_callAt {X : Cx} {j : Nat} {fe e : Expr} {es : List Expr} {pos : Pos} {tf : TE} {t : TA} (hf : PE X fe tf) (hr : Room j X.A) (ha : PA X (e :: es) t)
    (ht : eval (.Call fe (e :: es) [] pos) X.env = (do callWith pos (← eval fe X.env) [] (backTo pos (starEach (e :: es) X.env)) (backToKw pos (keywordEach [] X.env))) := by rfl)
    (he : starEach (e :: es) X.env = (false, eval e X.env) :: starEach es X.env := by rfl) (hpl : (backTo pos (starEach es X.env)).any (·.1) = false := by rfl) : PE X (.Call fe (e :: es) [] pos) (tCallAt X.prog X.w X.K X.mg X.base j tf t) := by
  refine ⟨fun pins s σ H Q I h => ?_⟩
  refine Call_ (thn (hf.run pins s σ H _ I h) fun u s1 ⟨y, H1, I1, ry, f, k, sp, ey, c, hk, q⟩ => ?_) ht
  subst ey
  obtain rfl : u = Value.ref f := ry
  obtain ⟨fd, ps, F, kp, b⟩ := c.ex
  refine PySem.W.callWith_K (h₀ := X.base) I.ok.mod.kin kp (thn (ha.run pos pins s1 σ H1 _ I1 q) fun us s2 ⟨vs, H2, I2, r, q2⟩ => ⟨I2.kIn, ?_⟩) he hpl
  exact run_fn F (hr.mono hk) b .nil pass0 I2 r (by rw [List.append_nil]; exact q2)
/-- a dict of the module whose keys are whole numbers -/
def KDctI (K : PySem.W.Frag) (a : Addr) (i : Int) (v : V) : Prop :=
  ∃ es n u, K.lookup a = some ⟨.type "dict", none, .dict es n, #[]⟩ ∧ (∀ e ∈ es.toList, ∃ k t, e.key = .int k t ∧ e.hash = hashInt k) ∧ PySem.findBy Value.isInt es i = some u ∧ RelV v u
def rIxDI (K : PySem.W.Frag) : R2 := fun x y H Q => ∃ p i v, x = .ref p ∧ y = .int i ∧ KDctI K p i v ∧ Q v H
theorem ix_kdictI {X : Cx} : IxR X (rIxDI X.K) := by
  intro value slice pins s σ H x y v u Q I rx ry h hs
  obtain ⟨p, i, r, rfl, rfl, ⟨es, n, u0, hl, hk, e, ru⟩, q⟩ := h
  obtain rfl : v = Value.ref p := rx
  obtain ⟨t, rfl⟩ := ry
  have hm : s.heap.MapOf (intKind X.prog X.w) p (fun k => findBy Value.isInt es k) :=
    ⟨_, es, n, I.kIn _ _ hl, ⟨rfl, rfl, rfl⟩, rfl, fun d hd => by
      obtain ⟨k, t, e1, e2⟩ := hk d (Array.mem_toList_iff.mpr hd)
      exact ⟨k, by rw [e1]; exact intKind_is X.prog X.w k t, e2⟩, fun _ => rfl⟩
  exact tail_any hm.typeIs slot_dict_getitem.lookup (wpAny_getItem_of (intKind_is X.prog X.w i t) hm e ⟨r, H, I.tok _, ru, q⟩) hs
end Hc
set_option Elab.async false
set_option maxRecDepth 100000
set_option maxHeartbeats 2000000
/-! The classes' __init__, the spans. -/
namespace Hc
open PySem PySem.Spec PyProof.Rows L2
open Ag01 (Span Master Ask Node Letter Stamp State)
section
variable {P : Program} {w : World} {K : PySem.W.Frag} {mg : Str → Option Value} {base : Heap} {C : Cs}
theorem ClsOk.na {Ca : Addr} {ns : List Str} {f : Str} {i : Nat} (T : ClsOk K Ca ns) (h : ixOf f ns = some i) : NoAttr K Ca f := T.no f (ixOf_mem h)
theorem len_init {Ca : Addr} {n m : Nat} {ns : List Str} {mk : List V → List V} (hm : m = n + 1) : ∀ vs H Q E, spInit Ca n ns mk vs H Q E → vs.length = m := by
  rintro vs H Q E ⟨p, dx, args, rfl, hl, _⟩
  rw [List.length_cons, hl, hm]
theorem mk_Span (F : Cl K mg "Span" "Span.__init__" s_Span C.span) (T : Txt K mg C) : C8.Mak P w K mg base 1 "Span" C.span (spInit C.span 2 nSpan id) [] := by
  refine mak_of F sc_Span (fun _ _ _ _ _ _ us hl => match us, hl with | [_, _, _], _ => rfl) (len_init rfl) ?_
  rintro f cdv A outer s H vs Q E hr ⟨p, dx, args, rfl, hl, hp, k⟩
  match args, hl with
  | [a, b], _ =>
    refine ⟨_, (pss_cons (ps_fld (pv 0) (pv 1) rfl)
    (pss_one (ps_fld (pv 0) (pv 2) rfl))), ?_⟩
    refine ⟨_, rfl, _, rfl, wrn (ns := []) (vs := []) hp T.span.cl (T.span.na (i := 0) (by decide +kernel)) rfl rfl (by decide) ?_⟩
    refine ⟨_, rfl, _, rfl, wrn upd_same T.span.cl (T.span.na (i := 1) (by decide +kernel)) (by decide +kernel) rfl (by decide) ?_⟩
    exact k _ upd_same fun b hb => by rw [upd_ne hb, upd_ne hb]
theorem mk_Master (F : Cl K mg "Master" "Master.__init__" s_Master C.master) (T : Txt K mg C) : C8.Mak P w K mg base 1 "Master" C.master (spInit C.master 1 nMaster (fun vs => vs ++ [.non, .bl false])) [] := by
  refine mak_of F sc_Master (fun _ _ _ _ _ _ us hl => match us, hl with | [_, _], _ => rfl) (len_init rfl) ?_
  rintro f cdv A outer s H vs Q E hr ⟨p, dx, args, rfl, hl, hp, k⟩
  match args, hl with
  | [a], _ =>
    refine ⟨_, (pss_cons (ps_fld (pv 0) (pv 1) rfl)
    (pss_cons (ps_fld (pv 0) pe_non rfl)
    (pss_one (ps_fld (pv 0) pe_bl rfl)))), ?_⟩
    refine ⟨_, rfl, _, rfl, wrn (ns := []) (vs := []) hp T.master.cl (T.master.na (i := 0) (by decide +kernel)) rfl rfl (by decide) ?_⟩
    refine ⟨_, rfl, wrn upd_same T.master.cl (T.master.na (i := 1) (by decide +kernel)) (by decide +kernel) rfl (by decide) ?_⟩
    refine ⟨_, rfl, wrn upd_same T.master.cl (T.master.na (i := 2) (by decide +kernel)) (by decide +kernel) rfl (by decide) ?_⟩
    exact k _ upd_same fun b hb => by rw [upd_ne hb, upd_ne hb, upd_ne hb]
theorem mk_Waiting (F : Cl K mg "Waiting" "Waiting.__init__" s_Waiting C.waiting) (T : Txt K mg C) : C8.Mak P w K mg base 1 "Waiting" C.waiting (spInit C.waiting 3 nWaiting id) [] := by
  refine mak_of F sc_Waiting (fun _ _ _ _ _ _ us hl => match us, hl with | [_, _, _, _], _ => rfl) (len_init rfl) ?_
  rintro f cdv A outer s H vs Q E hr ⟨p, dx, args, rfl, hl, hp, k⟩
  match args, hl with
  | [a, b, c], _ =>
    refine ⟨_, (pss_cons (ps_fld (pv 0) (pv 1) rfl)
    (pss_cons (ps_fld (pv 0) (pv 2) rfl)
    (pss_one (ps_fld (pv 0) (pv 3) rfl)))), ?_⟩
    refine ⟨_, rfl, _, rfl, wrn (ns := []) (vs := []) hp T.waiting.cl (T.waiting.na (i := 0) (by decide +kernel)) rfl rfl (by decide) ?_⟩
    refine ⟨_, rfl, _, rfl, wrn upd_same T.waiting.cl (T.waiting.na (i := 1) (by decide +kernel)) (by decide +kernel) rfl (by decide) ?_⟩
    refine ⟨_, rfl, _, rfl, wrn upd_same T.waiting.cl (T.waiting.na (i := 2) (by decide +kernel)) (by decide +kernel) rfl (by decide) ?_⟩
    exact k _ upd_same fun b hb => by rw [upd_ne hb, upd_ne hb, upd_ne hb]
theorem mk_Known (F : Cl K mg "Known" "Known.__init__" s_Known C.known) (T : Txt K mg C) : C8.Mak P w K mg base 1 "Known" C.known (spInit C.known 2 nKnown id) [] := by
  refine mak_of F sc_Known (fun _ _ _ _ _ _ us hl => match us, hl with | [_, _, _], _ => rfl) (len_init rfl) ?_
  rintro f cdv A outer s H vs Q E hr ⟨p, dx, args, rfl, hl, hp, k⟩
  match args, hl with
  | [a, b], _ =>
    refine ⟨_, (pss_cons (ps_fld (pv 0) (pv 1) rfl)
    (pss_one (ps_fld (pv 0) (pv 2) rfl))), ?_⟩
    refine ⟨_, rfl, _, rfl, wrn (ns := []) (vs := []) hp T.known.cl (T.known.na (i := 0) (by decide +kernel)) rfl rfl (by decide) ?_⟩
    refine ⟨_, rfl, _, rfl, wrn upd_same T.known.cl (T.known.na (i := 1) (by decide +kernel)) (by decide +kernel) rfl (by decide) ?_⟩
    exact k _ upd_same fun b hb => by rw [upd_ne hb, upd_ne hb]
theorem mk_Letter (F : Cl K mg "Letter" "Letter.__init__" s_Letter C.letter) (T : Txt K mg C) : C8.Mak P w K mg base 1 "Letter" C.letter (spInit C.letter 5 nLetter id) [] := by
  refine mak_of F sc_Letter (fun _ _ _ _ _ _ us hl => match us, hl with | [_, _, _, _, _, _], _ => rfl) (len_init rfl) ?_
  rintro f cdv A outer s H vs Q E hr ⟨p, dx, args, rfl, hl, hp, k⟩
  match args, hl with
  | [a, b, c, d, e], _ =>
    refine ⟨_, (pss_cons (ps_fld (pv 0) (pv 1) rfl)
    (pss_cons (ps_fld (pv 0) (pv 2) rfl)
    (pss_cons (ps_fld (pv 0) (pv 3) rfl)
    (pss_cons (ps_fld (pv 0) (pv 4) rfl)
    (pss_one (ps_fld (pv 0) (pv 5) rfl)))))), ?_⟩
    refine ⟨_, rfl, _, rfl, wrn (ns := []) (vs := []) hp T.letter.cl (T.letter.na (i := 0) (by decide +kernel)) rfl rfl (by decide) ?_⟩
    refine ⟨_, rfl, _, rfl, wrn upd_same T.letter.cl (T.letter.na (i := 1) (by decide +kernel)) (by decide +kernel) rfl (by decide) ?_⟩
    refine ⟨_, rfl, _, rfl, wrn upd_same T.letter.cl (T.letter.na (i := 2) (by decide +kernel)) (by decide +kernel) rfl (by decide) ?_⟩
    refine ⟨_, rfl, _, rfl, wrn upd_same T.letter.cl (T.letter.na (i := 3) (by decide +kernel)) (by decide +kernel) rfl (by decide) ?_⟩
    refine ⟨_, rfl, _, rfl, wrn upd_same T.letter.cl (T.letter.na (i := 4) (by decide +kernel)) (by decide +kernel) rfl (by decide) ?_⟩
    exact k _ upd_same fun b hb => by rw [upd_ne hb, upd_ne hb, upd_ne hb, upd_ne hb, upd_ne hb]
theorem mk_Stamp (F : Cl K mg "Stamp" "Stamp.__init__" s_Stamp C.stamp) (T : Txt K mg C) : C8.Mak P w K mg base 1 "Stamp" C.stamp (spInit C.stamp 3 nStamp (fun vs => vs ++ [.non])) [] := by
  refine mak_of F sc_Stamp (fun _ _ _ _ _ _ us hl => match us, hl with | [_, _, _, _], _ => rfl) (len_init rfl) ?_
  rintro f cdv A outer s H vs Q E hr ⟨p, dx, args, rfl, hl, hp, k⟩
  match args, hl with
  | [a, b, c], _ =>
    refine ⟨_, (pss_cons (ps_fld (pv 0) (pv 1) rfl)
    (pss_cons (ps_fld (pv 0) (pv 2) rfl)
    (pss_cons (ps_fld (pv 0) (pv 3) rfl)
    (pss_one (ps_fld (pv 0) pe_non rfl))))), ?_⟩
    refine ⟨_, rfl, _, rfl, wrn (ns := []) (vs := []) hp T.stamp.cl (T.stamp.na (i := 0) (by decide +kernel)) rfl rfl (by decide) ?_⟩
    refine ⟨_, rfl, _, rfl, wrn upd_same T.stamp.cl (T.stamp.na (i := 1) (by decide +kernel)) (by decide +kernel) rfl (by decide) ?_⟩
    refine ⟨_, rfl, _, rfl, wrn upd_same T.stamp.cl (T.stamp.na (i := 2) (by decide +kernel)) (by decide +kernel) rfl (by decide) ?_⟩
    refine ⟨_, rfl, wrn upd_same T.stamp.cl (T.stamp.na (i := 3) (by decide +kernel)) (by decide +kernel) rfl (by decide) ?_⟩
    exact k _ upd_same fun b hb => by rw [upd_ne hb, upd_ne hb, upd_ne hb, upd_ne hb]
theorem mk_Line (F : Cl K mg "Line" "Line.__init__" s_Line C.line) (T : Txt K mg C) : C8.Mak P w K mg base 1 "Line" C.line (spInit C.line 0 nLine (fun _ => [.non])) [] := by
  refine mak_of F sc_Line (fun _ _ _ _ _ _ us hl => match us, hl with | [_], _ => rfl) (len_init rfl) ?_
  rintro f cdv A outer s H vs Q E hr ⟨p, dx, args, rfl, hl, hp, k⟩
  match args, hl with
  | [], _ =>
    refine ⟨_, (pss_one (ps_fld (pv 0) pe_non rfl)), ?_⟩
    refine ⟨_, rfl, wrn (ns := []) (vs := []) hp T.line.cl (T.line.na (i := 0) (by decide +kernel)) rfl rfl (by decide) ?_⟩
    exact k _ upd_same fun b hb => by rw [upd_ne hb]
end
end Hc
set_option Elab.async false
set_option maxRecDepth 100000
set_option maxHeartbeats 2000000
/-! The classes' __init__, the spans. -/
namespace Hc
open PySem PySem.Spec PyProof.Rows L2
open Ag01 (Span Master Ask Node Letter Stamp State)
section
variable {P : Program} {w : World} {K : PySem.W.Frag} {mg : Str → Option Value} {base : Heap} {C : Cs}
/-! ### spans -/
/-- two whole numbers to a whole number -/
def spNum2 (g : Nat → Nat → Nat) : Sp := fun vs H Q _ => ∃ e z : Nat, vs = [vN e, vN z] ∧ z ≤ 200 ∧ Q (vN (g z e)) H
theorem fdiv_nat (a b : Nat) : Int.fdiv (a : Int) (b : Int) = ((a / b : Nat) : Int) := by
  rw [Int.fdiv_eq_ediv_of_nonneg _ (Int.natCast_nonneg b)]
  exact (Int.natCast_ediv a b).symm
theorem cal_least_passed (F : Fn K mg "least_passed" s_least_passed) : C8.Cal P w K mg base 1 "least_passed" (spNum2 Ag01.atLeast) [] := by
  refine cal_of F sc_least_passed (fun _ _ _ _ _ _ us hl => match us, hl with | [_, _], _ => rfl) (fun vs H Q E ⟨_, _, e, _⟩ => by rw [e]; rfl) ?_
  rintro f cdv A outer s H vs Q E hr ⟨e, z, rfl, hz, k⟩
  refine ⟨_, (pss_one (ps_ret (pe_op op_fdivN (pe_op op_add (pe_op op_add (pe_op op_mul pe_int (pv 0)) pe_int) (pv 1)) (pe_op op_add pe_int (pv 1))))), ?_⟩
  refine ⟨_, rfl, _, _, rfl, rfl, .inl ⟨by decide, by decide⟩, _, _, rfl, rfl, _, rfl, _, _, rfl, rfl, _, rfl, _, _, rfl, rfl, _, _, rfl, rfl, ⟨by omega, by omega⟩, ?_⟩
  have q : (1000 * (e : Int) + 999 + (z : Int)).fdiv (1000 + (z : Int)) = ((Ag01.atLeast z e : Nat) : Int) := by
    have := fdiv_nat (1000 * e + (999 + z)) (1000 + z)
    rw [show 1000 * (e : Int) + 999 + (z : Int) = ((1000 * e + (999 + z) : Nat) : Int) by omega, show (1000 : Int) + (z : Int) = ((1000 + z : Nat) : Int) by omega, this]
    rfl
  show Q (.int _) H
  rw [q]
  exact k
theorem cal_most_passed (F : Fn K mg "most_passed" s_most_passed) : C8.Cal P w K mg base 1 "most_passed" (spNum2 Ag01.atMost) [] := by
  refine cal_of F sc_most_passed (fun _ _ _ _ _ _ us hl => match us, hl with | [_, _], _ => rfl) (fun vs H Q E ⟨_, _, e, _⟩ => by rw [e]; rfl) ?_
  rintro f cdv A outer s H vs Q E hr ⟨e, z, rfl, hz, k⟩
  refine ⟨_, (pss_one (ps_ret (pe_op op_fdivN (pe_op op_mul pe_int (pv 0)) (pe_op op_sub pe_int (pv 1))))), ?_⟩
  refine ⟨_, rfl, _, _, rfl, rfl, .inl ⟨by decide, by decide⟩, _, rfl, _, _, rfl, rfl, _, _, rfl, rfl, ⟨by omega, by omega⟩, ?_⟩
  have q : (1000 * (e : Int)).fdiv (1000 - (z : Int)) = ((Ag01.atMost z e : Nat) : Int) := by
    have := fdiv_nat (1000 * e) (1000 - z)
    rw [show 1000 * (e : Int) = ((1000 * e : Nat) : Int) by omega, show (1000 : Int) - (z : Int) = ((1000 - z : Nat) : Int) by omega, this]
    rfl
  show Q (.int _) H
  rw [q]
  exact k
/-- a new span -/
def NewSpan (C : Cs) (H : Hp) (Q : VK) (x : Span) : Prop := ∀ (p : Addr) (H' : Hp), H p = none → Same H H' → SpanAt C H' p x → Q (.ref p) H'
theorem new_span {H : Hp} {Q : VK} {E : XK} {a b : Nat} (q : NewSpan C H Q (a, b)) :
    ∀ x dx, H x = none → H dx = none → dx ≠ x → spInit C.span 2 nSpan id (.ref x :: ([vN a, vN b] ++ [])) (upd (upd H dx (.own x)) x (.ins C.span dx [])) (fun v H2 => v = .non ∧ Q (.ref x) H2) E :=
  made rfl fun x H2 hx sm o => q x H2 hx sm o
def spGrown (C : Cs) : Sp := fun vs H Q _ => ∃ (a : Addr) (x : Span) (e z : Nat), vs = [.ref a, vN e, vN z] ∧ z ≤ 200 ∧ SpanAt C H a x ∧ NewSpan C H Q (x.1 + Ag01.atLeast z e, x.2 + Ag01.atMost z e)
theorem cal_grown (F : Fn K mg "grown" s_grown) (T : Txt K mg C) (m_Span : C8.Mak P w K mg base 1 "Span" C.span (spInit C.span 2 nSpan id) []) (c_least_passed : C8.Cal P w K mg base 1 "least_passed" (spNum2 Ag01.atLeast) []) (c_most_passed : C8.Cal P w K mg base 1 "most_passed" (spNum2 Ag01.atMost) []) :
    C8.Cal P w K mg base 3 "grown" (spGrown C) [] := by
  refine cal_of F sc_grown (fun _ _ _ _ _ _ us hl => match us, hl with | [_, _, _], _ => rfl) (fun vs H Q E ⟨_, _, _, _, e, _⟩ => by rw [e]; rfl) ?_
  rintro f cdv A outer s H vs Q E hr ⟨a, x, e, z, rfl, hz, hx, k⟩
  refine ⟨_, (pss_cons (ps_set (i := 3) sc_grown.nd rfl (.inl rfl) (pe_op op_add (pe_fld (pv 0) rfl) (C8.pe_c c_least_passed hr (by decide) rfl (pa_cons (pv 1) (pa_cons (pv 2) pa_nil)))))
    (pss_cons (ps_set (i := 4) sc_grown.nd rfl (.inl rfl) (pe_op op_add (pe_fld (pv 0) rfl) (C8.pe_c c_most_passed hr (by decide) rfl (pa_cons (pv 1) (pa_cons (pv 2) pa_nil)))))
    (pss_one (ps_ret (C8.pe_mk m_Span hr (by decide) rfl (pa_cons (pv 3) (pa_cons (pv 4) pa_nil))))))), ?_⟩
  refine ⟨_, rfl, rd hx T.span (i := 0) (by decide +kernel) rfl ⟨_, rfl, _, rfl, e, z, rfl, hz, _, _, rfl, rfl, ?_⟩⟩
  refine ⟨_, rfl, rd hx T.span (i := 1) (by decide +kernel) rfl ⟨_, rfl, _, rfl, e, z, rfl, hz, _, _, rfl, rfl, ?_⟩⟩
  refine ⟨_, rfl, _, rfl, ?_⟩
  exact new_span k
end
end Hc
set_option Elab.async false
set_option maxRecDepth 100000
set_option maxHeartbeats 2000000
/-! What spans have in common. -/
namespace Hc
open PySem PySem.Spec PyProof.Rows L2
open Ag01 (Span Master Ask Node Letter Stamp State)
section
variable {P : Program} {w : World} {K : PySem.W.Frag} {mg : Str → Option Value} {base : Heap} {C : Cs}
def spCommon (C : Cs) : Sp := fun vs H Q _ => ∃ (a b : Addr) (x y : Span), vs = [.ref a, .ref b] ∧ SpanAt C H a x ∧ SpanAt C H b y ∧ (¬ max x.1 y.1 ≤ min x.2 y.2 → Q .non H) ∧ (max x.1 y.1 ≤ min x.2 y.2 → NewSpan C H Q (max x.1 y.1, min x.2 y.2))
theorem max_cast (i j : Nat) : (if (j : Int) > (i : Int) then (j : Int) else (i : Int)) = ((max i j : Nat) : Int) := by
  split <;> omega
theorem min_cast (i j : Nat) : (if (j : Int) < (i : Int) then (j : Int) else (i : Int)) = ((min i j : Nat) : Int) := by
  split <;> omega
theorem cal_common (F : Fn K mg "common" s_common) (T : Txt K mg C) (m_Span : C8.Mak P w K mg base 1 "Span" C.span (spInit C.span 2 nSpan id) []) : C8.Cal P w K mg base 3 "common" (spCommon C) [] := by
  refine cal_of F sc_common (fun _ _ _ _ _ _ us hl => match us, hl with | [_, _], _ => rfl) (fun vs H Q E ⟨_, _, _, _, e, _⟩ => by rw [e]; rfl) ?_
  rintro f cdv A outer s H vs Q E hr ⟨a, b, x, y, rfl, hx, hy, k0, k1⟩
  refine ⟨_, (pss_cons (ps_set (i := 2) sc_common.nd rfl (.inl rfl) (pe_callB (call_max2 rfl) (by rfl) T.max (by decide +kernel) (pa_cons (pe_fld (pv 0) rfl) (pa_cons (pe_fld (pv 1) rfl) pa_nil))))
    (pss_cons (ps_set (i := 3) sc_common.nd rfl (.inl rfl) (pe_callB (call_min2 rfl) (by rfl) T.min (by decide +kernel) (pa_cons (pe_fld (pv 0) rfl) (pa_cons (pe_fld (pv 1) rfl) pa_nil))))
    (pss_cons (ps_if (pt_cmpR op_lt (pv 3) (pv 2) (nomark _)) (pss_one (ps_ret pe_non)) pss_nil)
    (pss_one (ps_ret (C8.pe_mk m_Span hr (by decide) rfl (pa_cons (pv 2) (pa_cons (pv 3) pa_nil)))))))), ?_⟩
  refine ⟨_, rfl, rd hx T.span (i := 0) (by decide +kernel) rfl ⟨_, rfl, rd hy T.span (i := 0) (by decide +kernel) rfl ⟨_, _, rfl, ?_⟩⟩⟩
  refine ⟨_, rfl, rd hx T.span (i := 1) (by decide +kernel) rfl ⟨_, rfl, rd hy T.span (i := 1) (by decide +kernel) rfl ⟨_, _, rfl, ?_⟩⟩⟩
  rw [max_cast, min_cast]
  refine ⟨_, rfl, _, rfl, _, _, rfl, rfl, _, rfl, ?_⟩
  by_cases c : max x.1 y.1 ≤ min x.2 y.2
  · rw [decide_eq_false (by omega)]
    refine iteF ⟨_, rfl, _, rfl, ?_⟩
    exact new_span (k1 c)
  · rw [decide_eq_true (by omega)]
    exact iteT (k0 c)
/-! ### how many have a number in them -/
theorem covers_take {l : List Span} {i t : Nat} {x : Span} (h : l[i]? = some x) : Ag01.covers (l.take (i + 1)) t = Ag01.covers (l.take i) t + (if x.1 ≤ t ∧ t ≤ x.2 then 1 else 0) := by
  unfold Ag01.covers
  rw [List.take_add_one, h, List.filter_append, List.length_append]
  congr 1
  by_cases c : x.1 ≤ t ∧ t ≤ x.2
  · rw [if_pos c]; simp [c.1, c.2]
  · rw [if_neg c]
    have : (decide (x.1 ≤ t) && decide (t ≤ x.2)) = false := by
      rw [Bool.and_eq_false_iff]
      by_cases c1 : x.1 ≤ t
      · exact .inr (decide_eq_false fun c2 => c ⟨c1, c2⟩)
      · exact .inl (decide_eq_false c1)
    simp [this]
/-- a list of spans -/
def SpansAt (C : Cs) (H : Hp) (a : Addr) (l : List Span) : Prop := LstAt H a (fun v x => SpanV C H v (some x)) l
theorem SpansAt.more {H H' : Hp} {a : Addr} {l : List Span} (h : SpansAt C H a l) (k : Same H H') : SpansAt C H' a l := by
  obtain ⟨vs, e, q⟩ := h
  exact ⟨vs, k _ _ e, q.imp fun x y z => z.imm (.of k)⟩
def spHolders (C : Cs) : Sp := fun vs H Q _ => ∃ (a : Addr) (l : List Span) (t : Nat), vs = [.ref a, vN t] ∧ SpansAt C H a l ∧ l.length ≤ 5 ∧ ∀ H', Same H H' → Q (vN (Ag01.covers l t)) H'
theorem cal_holders (F : Fn K mg "holders" s_holders) (T : Txt K mg C) : C8.Cal P w K mg base 1 "holders" (spHolders C) [] := by
  refine cal_of F sc_holders (fun _ _ _ _ _ _ us hl => match us, hl with | [_, _], _ => rfl) (fun vs H Q E ⟨_, _, _, e, _⟩ => by rw [e]; rfl) ?_
  rintro f cdv A outer s H vs Q E hr ⟨a, l, t, rfl, ⟨us, hu, au⟩, hl, k⟩
  refine ⟨_, (pss_one (ps_ret (pe_callB call_len_seq (by rfl) T.len PySem.boot_len (pa_cons (pe_lc (own := [("span", 2)]) (g := gName 2) (tt := (tTest (tChain _ _ (tFld K (tVar 2) "least") (tVar 1) (tFld K (tVar 2) "greatest")))) (te := (tVar 2)) rfl sc_holders.nd (pi_list (pv 0)) (blkOk_by (own := [("span", 2)]) (N := ["spans", "number", "span"]) (sc := defScope s_holders) (by decide +kernel)) (fun _ _ _ _ _ => (pg_name (i := 2) sc_holders.nd rfl (.inl rfl))) (fun _ _ _ _ _ => pts_one (pt_chain op_le op_le (pe_fld (pv 2) rfl) (pv 1) (pe_fld (pv 2) rfl))) (fun _ _ _ _ _ => (pv 2))) pa_nil)))), ?_⟩
  refine ⟨_, rfl, a, rfl, ⟨_, SqL.of hu⟩, fun D hD => lc_list (K := K) (a := a) (xs := us) (fun i H' => Same H H' ∧ ∃ acc, H' D = some (.lst acc) ∧ acc.length = Ag01.covers (l.take i) t)
    ⟨Same.upd hD, [], upd_same, rfl⟩ (fun i H' _ ⟨q, _⟩ => SqL.of (q _ _ hu)) ?_ ?_⟩
  · rintro i x H' hi ⟨sm, acc, hacc, hlen⟩
    obtain ⟨y, hy, b, rfl, hb⟩ := au.right hi
    have hb' : SpanAt C H' b y := hb.imm (.of sm)
    have smD : Same H (upd H' D (.lst (acc ++ [.ref b]))) := fun c o e => by
      rw [upd_ne (ne_of_none e hD)]; exact sm _ _ e
    have ht := covers_take (t := t) hy
    have hc5 : acc.length ≤ 5 := by
      rw [hlen]
      refine Nat.le_trans (List.length_filter_le _ _) (by rw [List.length_take]; omega)
    refine ⟨rfl, _, rfl, rd hb' T.span (i := 0) (by decide +kernel) rfl ⟨_, rfl, _, _, rfl, rfl, _, rfl, ?_⟩⟩
    by_cases c1 : y.1 ≤ t
    · rw [decide_eq_true (by omega)]
      refine iteT ⟨_, rfl, rd hb' T.span (i := 1) (by decide +kernel) rfl ⟨_, _, rfl, rfl, _, rfl, ?_⟩⟩
      by_cases c2 : t ≤ y.2
      · rw [decide_eq_true (by omega)]
        refine iteT ⟨_, rfl, acc, hacc, Nat.lt_of_le_of_lt hc5 (by decide), smD, _, upd_same, ?_⟩
        rw [List.length_append, hlen, ht, if_pos ⟨c1, c2⟩]; rfl
      · rw [decide_eq_false (by omega)]
        refine iteF ⟨sm, acc, hacc, ?_⟩
        rw [hlen, ht, if_neg (fun z => c2 z.2)]; rfl
    · rw [decide_eq_false (by omega)]
      refine iteF ⟨_, rfl, iteF ⟨sm, acc, hacc, ?_⟩⟩
      rw [hlen, ht, if_neg (fun z => c1 z.1)]; rfl
  · rintro H' ⟨sm, acc, hacc, hlen⟩
    refine ⟨D, acc, rfl, .inl (SqL.of hacc), ?_⟩
    rw [hlen, List.take_of_length_le (by rw [au.len]; exact Nat.le_refl _)]
    exact k H' sm
end
end Hc
set_option Elab.async false
set_option maxRecDepth 100000
set_option maxHeartbeats 2000000
/-! Where enough of the spans agree. -/
namespace Hc
open PySem PySem.Spec PyProof.Rows L2
open Ag01 (Span Master Ask Node Letter Stamp State)
/-- those of the first i -/
def endsI (g : Span → Nat) (k : Nat) (l : List Span) (i : Nat) : List Nat := ((l.take i).map g).filter fun (t : Nat) => decide (k ≤ Ag01.covers l t)
theorem endsI_yes {g : Span → Nat} {k i : Nat} {l : List Span} {x : Span} (h : l[i]? = some x) (c : k ≤ Ag01.covers l (g x)) : endsI g k l (i + 1) = endsI g k l i ++ [g x] := by
  unfold endsI
  rw [List.take_add_one, h, List.map_append, List.filter_append]
  simp [c]
theorem endsI_no {g : Span → Nat} {k i : Nat} {l : List Span} {x : Span} (h : l[i]? = some x) (c : ¬ k ≤ Ag01.covers l (g x)) : endsI g k l (i + 1) = endsI g k l i := by
  unfold endsI
  rw [List.take_add_one, h, List.map_append, List.filter_append]
  simp [c]
theorem endsI_len {g : Span → Nat} {k i : Nat} {l : List Span} (h : l.length ≤ 5) : (endsI g k l i).length ≤ 5 := by
  unfold endsI
  refine Nat.le_trans (List.length_filter_le _ _) ?_
  rw [List.length_map, List.length_take]
  omega
theorem vN_map (l : List Nat) : l.map vN = (l.map fun n : Nat => (n : Int)).map V.int := by
  rw [List.map_map]
  rfl
section
variable {P : Program} {w : World} {K : PySem.W.Frag} {mg : Str → Option Value} {base : Heap} {C : Cs}
def spAgreed (C : Cs) : Sp := fun vs H Q _ => ∃ (a : Addr) (l : List Span) (k : Nat), vs = [.ref a, vN k] ∧ SpansAt C H a l ∧ l.length ≤ 5 ∧ 1 ≤ k ∧ (lows k l = [] → ∀ H', Same H H' → Q .non H') ∧
  (∀ x p y q, lows k l = x :: p → highs k l = y :: q → ∀ r H', H r = none → Same H H' → SpanAt C H' r (p.foldl min x, q.foldl max y) → Q (.ref r) H')
theorem cal_agreed (F : Fn K mg "agreed" s_agreed) (T : Txt K mg C) (m_Span : C8.Mak P w K mg base 1 "Span" C.span (spInit C.span 2 nSpan id) []) (c_holders : C8.Cal P w K mg base 1 "holders" (spHolders C) []) : C8.Cal P w K mg base 3 "agreed" (spAgreed C) [] := by
  refine cal_of F sc_agreed (fun _ _ _ _ _ _ us hl => match us, hl with | [_, _], _ => rfl) (fun vs H Q E ⟨_, _, _, e, _⟩ => by rw [e]; rfl) ?_
  rintro f cdv A outer s H vs Q E hr ⟨a, l, k, rfl, hsp, hl, hk, kN, kS⟩
  obtain ⟨us, hu, au⟩ := id hsp
  refine ⟨_, (pss_cons (ps_setLc (i := 2) (own := [("span", 4)]) (g := gName 4) (tt := (tTest (tOp _ (tCall (spHolders C) [] _ (tCons (tVar 0) (tCons (tFld K (tVar 4) "least") tNil))) (tVar 1)))) (te := (tFld K (tVar 4) "least")) rfl sc_agreed.nd rfl rfl (sw_true rfl rfl rfl (by decide +kernel)) (pi_list (pv 0)) (blkOk_by (own := [("span", 4)]) (N := ["spans", "enough", "lows", "highs", "span"]) (sc := defScope s_agreed) (by decide +kernel)) (fun _ _ _ _ _ => (pg_name (i := 4) sc_agreed.nd rfl (.inl rfl))) (fun _ _ _ _ _ => pts_one (pt_cmpR op_ge (C8.pe_c c_holders hr (by decide) rfl (pa_cons (pv 0) (pa_cons (pe_fld (pv 4) rfl) pa_nil))) (pv 1) (nomark _))) (fun _ _ _ _ _ => (pe_fld (pv 4) rfl)))
    (pss_cons (ps_setLc (i := 3) (own := [("span", 4)]) (g := gName 4) (tt := (tTest (tOp _ (tCall (spHolders C) [] _ (tCons (tVar 0) (tCons (tFld K (tVar 4) "greatest") tNil))) (tVar 1)))) (te := (tFld K (tVar 4) "greatest")) rfl sc_agreed.nd rfl rfl (sw_true rfl rfl rfl (by decide +kernel)) (pi_list (pv 0)) (blkOk_by (own := [("span", 4)]) (N := ["spans", "enough", "lows", "highs", "span"]) (sc := defScope s_agreed) (by decide +kernel)) (fun _ _ _ _ _ => (pg_name (i := 4) sc_agreed.nd rfl (.inl rfl))) (fun _ _ _ _ _ => pts_one (pt_cmpR op_ge (C8.pe_c c_holders hr (by decide) rfl (pa_cons (pv 0) (pa_cons (pe_fld (pv 4) rfl) pa_nil))) (pv 1) (nomark _))) (fun _ _ _ _ _ => (pe_fld (pv 4) rfl)))
    (pss_cons (ps_if (pt_cmpR op_eq (pe_callB call_len_seq (by rfl) T.len PySem.boot_len (pa_cons (pv 2) pa_nil)) pe_int (nomark _)) (pss_one (ps_ret pe_non)) pss_nil)
    (pss_one (ps_ret (C8.pe_mk m_Span hr (by decide) rfl (pa_cons (pe_callB (cr_min rfl) (by rfl) T.min (by decide +kernel) (pa_cons (pv 2) pa_nil)) (pa_cons (pe_callB (cr_max rfl) (by rfl) T.max (by decide +kernel) (pa_cons (pv 3) pa_nil)) pa_nil)))))))), ?_⟩
  -- lows
  refine ⟨_, rfl, a, rfl, ⟨_, SqL.of hu⟩, fun D hD => lc_list (K := K) (a := a) (xs := us) (fun i H' => Same H H' ∧ H' D = some (.lst ((endsI (fun x => x.1) k l i).map vN)))
    ⟨Same.upd hD, upd_same⟩ (fun i H' _ ⟨q, _⟩ => SqL.of (q _ _ hu)) ?_ ?_⟩
  · rintro i v H1 hi ⟨sm, hacc⟩
    obtain ⟨y, hy, b, rfl, hb⟩ := au.right hi
    have hb1 : SpanAt C H1 b y := hb.imm (.of sm)
    refine ⟨rfl, _, rfl, _, rfl, rd hb1 T.span (i := 0) (by decide +kernel) rfl ⟨a, l, y.1, rfl, hsp.more sm, hl, fun H2 sm2 => ⟨_, rfl, _, _, rfl, rfl, _, rfl, ?_⟩⟩⟩
    have s2 : Same H H2 := sm.trans sm2
    by_cases c : k ≤ Ag01.covers l y.1
    · rw [decide_eq_true (by omega)]
      refine iteT ⟨_, rfl, rd (hb.imm (.of s2)) T.span (i := 0) (by decide +kernel) rfl ⟨_, sm2 _ _ hacc, ?_, fun c' o e => ?_, ?_⟩⟩
      · rw [List.length_map]; exact Nat.lt_of_le_of_lt (endsI_len hl) (by decide)
      · rw [upd_ne (ne_of_none e hD)]; exact s2 _ _ e
      · rw [upd_same, endsI_yes (g := fun x => x.1) hy c, List.map_append]; rfl
    · rw [decide_eq_false (by omega)]
      refine iteF ⟨s2, ?_⟩
      rw [sm2 _ _ hacc, endsI_no (g := fun x => x.1) hy c]
  rintro H1 ⟨sm1, hD1⟩
  have eD : endsI (fun x => x.1) k l us.length = lows k l := by
    unfold endsI lows
    rw [List.take_of_length_le (by rw [au.len]; exact Nat.le_refl _)]
  rw [eD] at hD1
  have hsp1 := hsp.more sm1
  -- highs
  refine ⟨_, rfl, a, rfl, ⟨_, SqL.of (sm1 _ _ hu)⟩, fun G hG => lc_list (K := K) (a := a) (xs := us) (fun i H' => Same H1 H' ∧ H' G = some (.lst ((endsI (fun x => x.2) k l i).map vN)))
    ⟨Same.upd hG, upd_same⟩ (fun i H' _ ⟨q, _⟩ => SqL.of (q _ _ (sm1 _ _ hu))) ?_ ?_⟩
  · rintro i v H2 hi ⟨sm, hacc⟩
    obtain ⟨y, hy, b, rfl, hb⟩ := au.right hi
    have hb1 : SpanAt C H2 b y := hb.imm (.of (sm1.trans sm))
    refine ⟨rfl, _, rfl, _, rfl, rd hb1 T.span (i := 1) (by decide +kernel) rfl ⟨a, l, y.2, rfl, hsp1.more sm, hl, fun H3 sm2 => ⟨_, rfl, _, _, rfl, rfl, _, rfl, ?_⟩⟩⟩
    have s2 : Same H1 H3 := sm.trans sm2
    by_cases c : k ≤ Ag01.covers l y.2
    · rw [decide_eq_true (by omega)]
      refine iteT ⟨_, rfl, rd (hb.imm (.of (sm1.trans s2))) T.span (i := 1) (by decide +kernel) rfl ⟨_, sm2 _ _ hacc, ?_, fun c' o e => ?_, ?_⟩⟩
      · rw [List.length_map]; exact Nat.lt_of_le_of_lt (endsI_len hl) (by decide)
      · rw [upd_ne (ne_of_none e hG)]; exact s2 _ _ e
      · rw [upd_same, endsI_yes (g := fun x => x.2) hy c, List.map_append]; rfl
    · rw [decide_eq_false (by omega)]
      refine iteF ⟨s2, ?_⟩
      rw [sm2 _ _ hacc, endsI_no (g := fun x => x.2) hy c]
  rintro H2 ⟨sm2, hG2⟩
  have eG : endsI (fun x => x.2) k l us.length = highs k l := by
    unfold endsI highs
    rw [List.take_of_length_le (by rw [au.len]; exact Nat.le_refl _)]
  rw [eG] at hG2
  have s2 : Same H H2 := sm1.trans sm2
  -- if len(lows) == 0
  refine ⟨_, rfl, D, _, rfl, .inl (SqL.of (sm2 _ _ hD1)), rfl, _, rfl, ?_⟩
  cases eL : lows k l with
  | nil =>
    exact iteT (kN eL H2 s2)
  | cons x p =>
    refine iteF ?_
    cases eH : highs k l with
    | nil => exact absurd eH (highs_of_lows hk (by rw [eL]; exact List.cons_ne_nil _ _))
    | cons y q =>
      rw [eL, vN_map] at hD1
      rw [eH, vN_map] at hG2
      refine ⟨_, rfl, D, _, rfl, SqL.of (sm2 _ _ hD1), Nat.succ_pos _, fun m hm hle => ⟨_, rfl, G, _, rfl, SqL.of hG2, Nat.succ_pos _, fun n hn hge => ?_⟩⟩
      rw [min_is hm hle, max_is hn hge]
      refine new_span fun r H3 hr3 s3 h3 => kS x p y q eL eH r H3 (s2.free hr3) (s2.trans s3) h3
end
end Hc
set_option Elab.async false
set_option maxRecDepth 100000
set_option maxHeartbeats 2000000
/-! What masters say, what nodes know. -/
namespace Hc
open PySem PySem.Spec PyProof.Rows L2
open Ag01 (Span Master Ask Node Letter Stamp State)
section
variable {P : Program} {w : World} {K : PySem.W.Frag} {mg : Str → Option Value} {base : Heap} {C : Cs}
def spSaidBy (C : Cs) : Sp := fun vs H Q _ => ∃ (H0 : Hp) (L : Lay) (s : State) (m : Nat) (a : Addr), vs = [.ref L.w, .ref a] ∧ St C H0 H L s ∧ L.ms[m]? = some a ∧ 2 * s.good ≤ s.now ∧
  ∀ p H', Same H H' → SpanAt C H' p (Ag01.says s m) → Q (.ref p) H'
theorem cal_said_by (F : Fn K mg "said_by" s_said_by) (T : Txt K mg C) (m_Span : C8.Mak P w K mg base 1 "Span" C.span (spInit C.span 2 nSpan id) []) : C8.Cal P w K mg base 3 "said_by" (spSaidBy C) [] := by
  refine cal_of F sc_said_by (fun _ _ _ _ _ _ us hl => match us, hl with | [_, _], _ => rfl) (fun vs H Q E ⟨_, _, _, _, _, e, _⟩ => by rw [e]; rfl) ?_
  rintro f cdv A outer s0 H vs Q E hr ⟨H0, L, s, m, a, rfl, S, hm, hnow, k⟩
  refine ⟨_, (pss_cons (ps_if (pt_cmpR op_notN (pe_fld (pv 1) rfl) pe_non (nomark _)) (pss_one (ps_ret (pe_fld (pv 1) rfl))) pss_nil)
    (pss_cons (ps_set (i := 2) sc_said_by.nd rfl (.inl rfl) (pe_op op_add (pe_fld (pv 0) rfl) (pe_fld (pv 1) rfl)))
    (pss_one (ps_ret (C8.pe_mk m_Span hr (by decide) rfl (pa_cons (pe_op op_sub (pv 2) (pe_op op_mul pe_int (pe_fld (pv 0) rfl))) (pa_cons (pv 2) pa_nil))))))), ?_⟩
  obtain ⟨x, hx, cl, ho, hc⟩ := S.ms.right hm
  have e : Ag01.master s m = x := master_of hx
  refine ⟨_, rfl, rd ho T.master (i := 1) (by decide +kernel) rfl ⟨rfl, _, rfl, ?_⟩⟩
  cases hl : x.lie with
  | some y =>
    rw [hl] at hc
    obtain ⟨b, rfl, hb⟩ := hc
    refine iteT ⟨_, rfl, rd ho T.master (i := 1) (by decide +kernel) rfl ?_⟩
    refine k b H (.refl H) ?_
    have q : Ag01.says s m = y := by
      unfold Ag01.says
      rw [e, hl]
    rw [q]; exact hb
  | none =>
    rw [hl] at hc
    obtain rfl : cl = V.non := hc
    refine iteF ⟨_, rfl, rd S.hw T.world (i := 3) (by decide +kernel) rfl ⟨_, rfl, rd ho T.master (i := 0) (by decide +kernel) rfl ⟨_, _, rfl, rfl, ?_⟩⟩⟩
    refine ⟨_, rfl, _, rfl, rd S.hw T.world (i := 0) (by decide +kernel) rfl ⟨_, _, rfl, rfl, .inl ⟨by decide, by decide⟩, _, _, rfl, rfl, _, rfl, ?_⟩⟩
    have q : Ag01.says s m = (s.now + x.off - 2 * s.good, s.now + x.off) := by
      unfold Ag01.says
      rw [e, hl]
    have e1 : (s.now : Int) + (x.off : Int) - 2 * (s.good : Int) = ((s.now + x.off - 2 * s.good : Nat) : Int) := by omega
    have e2 : (s.now : Int) + (x.off : Int) = ((s.now + x.off : Nat) : Int) := by omega
    dsimp only
    rw [e1, e2]
    refine new_span fun p H' _ sm h => k p H' sm ?_
    rw [q]; exact h
def spKnownNow (C : Cs) : Sp := fun vs H Q _ => ∃ (H0 : Hp) (L : Lay) (s : State) (i : Nat) (p : NA) (n : Node) (a : Addr) (x : Nat × Span), vs = [.ref L.w, .ref p.a, .ref a] ∧ St C H0 H L s ∧ L.ns[i]? = some p ∧ s.nodes[i]? = some n ∧
  KnownV C H (.ref a) (some x) ∧ x.1 ≤ n.clock ∧ s.wrong ≤ 200 ∧ NewSpan C H Q (Ag01.aged s.wrong n.clock x)
theorem cal_known_now (F : Fn K mg "known_now" s_known_now) (T : Txt K mg C) (c_grown : C8.Cal P w K mg base 3 "grown" (spGrown C) []) : C8.Cal P w K mg base 4 "known_now" (spKnownNow C) [] := by
  refine cal_of F sc_known_now (fun _ _ _ _ _ _ us hl => match us, hl with | [_, _, _], _ => rfl) (fun vs H Q E ⟨_, _, _, _, _, _, _, _, e, _⟩ => by rw [e]; rfl) ?_
  rintro f cdv A outer s0 H vs Q E hr ⟨H0, L, s, i, p, n, a, x, rfl, S, hp, hn, ⟨a', b, ea, ho, hb⟩, ht, hw, k⟩
  injection ea with ea
  subst ea
  have N := S.ns.get i p n hp hn
  refine ⟨_, (pss_one (ps_ret (C8.pe_c c_grown hr (by decide) rfl (pa_cons (pe_fld (pv 2) rfl) (pa_cons (pe_op op_sub (pe_fld (pv 1) rfl) (pe_fld (pv 2) rfl)) (pa_cons (pe_fld (pv 0) rfl) pa_nil)))))), ?_⟩
  refine ⟨_, rfl, rd ho T.known (i := 1) (by decide +kernel) rfl ⟨_, rfl, rd N.ob T.node (i := 1) (by decide +kernel) rfl ⟨_, rfl, rd ho T.known (i := 0) (by decide +kernel) rfl ⟨_, _, rfl, rfl, _, rfl, rd S.hw T.world (i := 1) (by decide +kernel) rfl ?_⟩⟩⟩⟩
  have e1 : (n.clock : Int) - (x.1 : Int) = ((n.clock - x.1 : Nat) : Int) := by omega
  dsimp only
  rw [e1]
  exact ⟨b, x.2, n.clock - x.1, s.wrong, rfl, hw, hb, k⟩
/-! ### the time by a node -/
def heardI (s : State) (n : Node) (i : Nat) : List Span := (n.known.take i).filterMap fun (x : Option (Nat × Span)) => x.map (Ag01.aged s.wrong n.clock)
theorem heardI_none {s : State} {n : Node} {i : Nat} (h : n.known[i]? = some none) : heardI s n (i + 1) = heardI s n i := by
  unfold heardI
  rw [List.take_add_one, h, List.filterMap_append]
  simp
theorem heardI_some {s : State} {n : Node} {i : Nat} {x : Nat × Span} (h : n.known[i]? = some (some x)) : heardI s n (i + 1) = heardI s n i ++ [Ag01.aged s.wrong n.clock x] := by
  unfold heardI
  rw [List.take_add_one, h, List.filterMap_append]
  rfl
theorem heardI_all {s : State} {n : Node} {i j : Nat} (hn : s.nodes[i]? = some n) (h : j = n.known.length) : heardI s n j = Ag01.heard s i := by
  unfold heardI Ag01.heard
  rw [node_of hn, List.take_of_length_le (by omega)]
def spTimeBy (C : Cs) : Sp := fun vs H Q _ => ∃ (H0 : Hp) (L : Lay) (s : State) (i : Nat) (p : NA) (n : Node), vs = [.ref L.w, .ref p.a] ∧ St C H0 H L s ∧ L.ns[i]? = some p ∧ s.nodes[i]? = some n ∧
  n.known.length ≤ 5 ∧ (∀ t x, some (t, x) ∈ n.known → t ≤ n.clock) ∧ s.wrong ≤ 200 ∧ (Ag01.time s i = none → ∀ H', Same H H' → Q .non H') ∧ (∀ x, Ag01.time s i = some x → ∀ q H', Same H H' → SpanAt C H' q x → Q (.ref q) H')
theorem cal_time_by (F : Fn K mg "time_by" s_time_by) (T : Txt K mg C) (c_known_now : C8.Cal P w K mg base 4 "known_now" (spKnownNow C) []) (c_agreed : C8.Cal P w K mg base 3 "agreed" (spAgreed C) []) : C8.Cal P w K mg base 5 "time_by" (spTimeBy C) [] := by
  refine cal_of F sc_time_by (fun _ _ _ _ _ _ us hl => match us, hl with | [_, _], _ => rfl) (fun vs H Q E ⟨_, _, _, _, _, _, e, _⟩ => by rw [e]; rfl) ?_
  rintro f cdv A outer s0 H vs Q E hr ⟨H0, L, s, i, p, n, rfl, S, hp, hn, h5, ht, hw, kN, kS⟩
  have N := S.ns.get i p n hp hn
  obtain ⟨us, hu, au⟩ := N.ks
  refine ⟨_, (pss_cons (ps_setLc (i := 2) (own := [("known", 3)]) (g := gName 3) (tt := (tTest (tOp _ (tVar 3) (tC .non)))) (te := (tCall (spKnownNow C) [] _ (tCons (tVar 0) (tCons (tVar 1) (tCons (tVar 3) tNil))))) rfl sc_time_by.nd rfl rfl (sw_true rfl rfl rfl (by decide +kernel)) (pi_list (pe_fld (pv 1) rfl)) (blkOk_by (own := [("known", 3)]) (N := ["world", "node", "spans", "known"]) (sc := defScope s_time_by) (by decide +kernel)) (fun _ _ _ _ _ => (pg_name (i := 3) sc_time_by.nd rfl (.inl rfl))) (fun _ _ _ _ _ => pts_one (pt_cmpR op_notN (pv 3) pe_non (nomark _))) (fun _ _ _ _ _ => (C8.pe_c c_known_now hr (by decide) rfl (pa_cons (pv 0) (pa_cons (pv 1) (pa_cons (pv 3) pa_nil))))))
    (pss_cons (ps_if (pt_cmpR op_le (pe_callB call_len_seq (by rfl) T.len PySem.boot_len (pa_cons (pv 2) pa_nil)) (pe_fld (pv 0) rfl) (nomark _)) (pss_one (ps_ret pe_non)) pss_nil)
    (pss_one (ps_ret (C8.pe_c c_agreed hr (by decide) rfl (pa_cons (pv 2) (pa_cons (pe_op op_sub (pe_callB call_len_seq (by rfl) T.len PySem.boot_len (pa_cons (pv 2) pa_nil)) (pe_fld (pv 0) rfl)) pa_nil))))))), ?_⟩
  refine ⟨_, rfl, rd N.ob T.node (i := 5) (by decide +kernel) rfl ⟨p.kl, rfl, ⟨_, SqL.of hu⟩, fun D hD => lc_list (K := K) (a := p.kl) (xs := us) (fun j H' => Same H H' ∧ ∃ zs, H' D = some (.lst zs) ∧ All2 (fun v x => SpanV C H' v (some x)) zs (heardI s n j))
    ⟨Same.upd hD, [], upd_same, All2.nil⟩ (fun j H' _ ⟨q, _⟩ => SqL.of (q _ _ hu)) ?_ ?_⟩⟩
  · rintro j v H1 hj ⟨sm, zs, hz, az⟩
    obtain ⟨y, hy, hv⟩ := au.right hj
    refine ⟨rfl, _, rfl, rfl, _, rfl, ?_⟩
    cases y with
    | none =>
      obtain rfl : v = V.non := hv
      refine iteF ⟨sm, zs, hz, ?_⟩
      rw [heardI_none hy]; exact az
    | some y =>
      obtain ⟨a, b, rfl, ho, hb⟩ := id hv
      refine iteT ⟨_, rfl, _, rfl, _, rfl, H0, L, s, i, p, n, a, y, rfl, S.more sm, hp, hn, KnownV.imm (x := some y) hv (.of sm), ht y.1 y.2 (List.mem_of_getElem? hy), hw, fun q H2 hq sm2 h2 => ?_⟩
      have lz : zs.length ≤ 5 := by
        rw [az.len]
        unfold heardI
        refine Nat.le_trans (List.length_filterMap_le _ _) (by rw [List.length_take]; omega)
      have k2 : Imm H2 (upd H2 D (.lst (zs ++ [.ref q]))) := .upd (sm2 _ _ hz) rfl
      refine ⟨zs, sm2 _ _ hz, Nat.lt_of_le_of_lt lz (by decide), fun c o e => ?_, _, upd_same, ?_⟩
      · rw [upd_ne (ne_of_none e hD)]; exact sm2 _ _ (sm _ _ e)
      · rw [heardI_some hy]
        refine (az.imp fun u z h => SpanV.imm (SpanV.imm h (.of sm2)) k2).snoc ⟨q, rfl, h2.imm k2⟩
  rintro H1 ⟨sm, zs, hz, az⟩
  rw [heardI_all hn (by rw [au.len])] at az
  have hlen : (Ag01.heard s i).length ≤ 5 := by
    unfold Ag01.heard
    refine Nat.le_trans (List.length_filterMap_le _ _) ?_
    rw [node_of hn]; exact h5
  have S1 := S.more sm
  refine ⟨_, rfl, D, _, rfl, .inl (SqL.of hz), _, rfl, rd S1.hw T.world (i := 2) (by decide +kernel) rfl ⟨_, _, rfl, rfl, _, rfl, ?_⟩⟩
  have et : Ag01.time s i = Ag01.between s.liars (Ag01.heard s i) := rfl
  by_cases c : (Ag01.heard s i).length ≤ s.liars
  · rw [decide_eq_true (by rw [az.len]; omega)]
    exact iteT (kN (et.trans (between_small c)) H1 sm)
  · rw [decide_eq_false (by rw [az.len]; omega)]
    refine iteF ⟨_, rfl, _, rfl, D, _, rfl, .inl (SqL.of hz), _, rfl, rd S1.hw T.world (i := 2) (by decide +kernel) rfl ⟨_, _, rfl, rfl, ?_⟩⟩
    have e1 : (zs.length : Int) - (s.liars : Int) = (((Ag01.heard s i).length - s.liars : Nat) : Int) := by rw [az.len]; omega
    dsimp only
    rw [e1]
    refine ⟨D, Ag01.heard s i, (Ag01.heard s i).length - s.liars, rfl, ⟨zs, hz, az⟩, hlen, by omega, fun e H2 s2 => ?_, fun x p' y q e1 e2 r H2 _ s2 h2 => ?_⟩
    · exact kN (et.trans (between_none c e)) H2 (sm.trans s2)
    · exact kS _ (et.trans (between_some c e1 e2)) r H2 (sm.trans s2) h2
/-! ### an answer heard -/
def learnt (s : State) (n : Node) (a : Ask) (x : Span) : Span := match (n.known.getD a.master none).map (Ag01.aged s.wrong n.clock) with
  | none => (x.1, x.2 + Ag01.atMost s.wrong (n.clock - a.sent))
  | some o => Ag01.meet o (x.1, x.2 + Ag01.atMost s.wrong (n.clock - a.sent))
def spLearn (C : Cs) : Sp := fun vs H Q _ => ∃ (H0 : Hp) (L : Lay) (s : State) (i : Nat) (p : NA) (n : Node) (wa ta : Addr) (a : Ask) (x : Span), vs = [.ref L.w, .ref p.a, .ref wa, .ref ta] ∧ St C H0 H L s ∧ L.ns[i]? = some p ∧ s.nodes[i]? = some n ∧
  WaitV C H (.ref wa) a ∧ SpanAt C H ta x ∧ a.sent ≤ n.clock ∧ a.master < n.known.length ∧ (∀ t x, some (t, x) ∈ n.known → t ≤ n.clock) ∧ s.wrong ≤ 200 ∧
  ∀ H', St C H0 H' L { s with nodes := s.nodes.set i { n with known := n.known.set a.master (some (n.clock, learnt s n a x)) } } → Q .non H'
theorem cal_learn (F : Fn K mg "learn" s_learn) (T : Txt K mg C) (m_Span : C8.Mak P w K mg base 1 "Span" C.span (spInit C.span 2 nSpan id) []) (m_Known : C8.Mak P w K mg base 1 "Known" C.known (spInit C.known 2 nKnown id) [])
    (c_most_passed : C8.Cal P w K mg base 1 "most_passed" (spNum2 Ag01.atMost) []) (c_common : C8.Cal P w K mg base 3 "common" (spCommon C) []) (c_known_now : C8.Cal P w K mg base 4 "known_now" (spKnownNow C) []) : C8.Cal P w K mg base 5 "learn" (spLearn C) [] := by
  refine cal_of F sc_learn (fun _ _ _ _ _ _ us hl => match us, hl with | [_, _, _, _], _ => rfl) (fun vs H Q E ⟨_, _, _, _, _, _, _, _, _, _, e, _⟩ => by rw [e]; rfl) ?_
  rintro f cdv A outer s0 H vs Q E hr ⟨H0, L, s, i, p, n, wa, ta, a, x, rfl, S, hp, hn, ⟨wa', ew, hwa⟩, hta, hs, hm, ht, hw, k⟩
  injection ew with ew
  subst ew
  have N := S.ns.get i p n hp hn
  refine ⟨_, (pss_cons (ps_set (i := 4) sc_learn.nd rfl (.inl rfl) (C8.pe_c c_most_passed hr (by decide) rfl (pa_cons (pe_op op_sub (pe_fld (pv 1) rfl) (pe_fld (pv 2) rfl)) (pa_cons (pe_fld (pv 0) rfl) pa_nil))))
    (pss_cons (ps_set (i := 5) sc_learn.nd rfl (.inl rfl) (C8.pe_mk m_Span hr (by decide) rfl (pa_cons (pe_fld (pv 3) rfl) (pa_cons (pe_op op_add (pe_fld (pv 3) rfl) (pv 4)) pa_nil))))
    (pss_cons (ps_set (i := 6) sc_learn.nd rfl (.inl rfl) (pe_ix ix_list (pe_fld (pv 1) rfl) (pe_fld (pv 2) rfl) (fun _ _ => rfl)))
    (pss_cons (ps_if (pt_cmpR op_notN (pv 6) pe_non (nomark _)) (pss_cons (ps_set (i := 7) sc_learn.nd rfl (.inl rfl) (C8.pe_c c_common hr (by decide) rfl (pa_cons (C8.pe_c c_known_now hr (by decide) rfl (pa_cons (pv 0) (pa_cons (pv 1) (pa_cons (pv 6) pa_nil)))) (pa_cons (pv 5) pa_nil))))
    (pss_one (ps_if (pt_cmpR op_notN (pv 7) pe_non (nomark _)) (pss_one (ps_set (i := 5) sc_learn.nd rfl (.inl rfl) (pv 7))) pss_nil))) pss_nil)
    (pss_one (ps_asg (C8.pe_mk m_Known hr (by decide) rfl (pa_cons (pe_fld (pv 1) rfl) (pa_cons (pv 5) pa_nil))) (pg_sub (pe_fld (pv 1) rfl) (pe_fld (pv 2) rfl) set_list))))))), ?_⟩
  -- the end: node.known[waiting.master] = Known(node.clock, span)
  have fin : ∀ (H1 : Hp) (b : Addr) (y : Span), Same H H1 → SpanAt C H1 b y → y = learnt s n a x → ∀ (kp : Addr) (H2 : Hp), Same H1 H2 → Obj H2 kp C.known nKnown [vN n.clock, .ref b] →
      ∃ us, H2 p.kl = some (.lst us) ∧ ixN us.length (a.master : Int) = some a.master ∧ Q .non (upd H2 p.kl (.lst (us.set a.master (.ref kp)))) := by
    intro H1 b y sm hb ey kp H2 sm2 hk
    have S2 := S.more (sm.trans sm2)
    have N2 := S2.ns.get i p n hp hn
    obtain ⟨us, hu, au⟩ := N2.ks
    refine ⟨us, hu, ?_, k _ ?_⟩
    · unfold ixN
      have hl : a.master < us.length := by rw [au.len]; exact hm
      rw [if_pos (by omega), if_pos (by omega)]
      rfl
    · rw [← ey]
      exact S2.setKnown hp hn (au.set (R' := KnownV C H2) (.ref kp) (some (n.clock, y)) ⟨kp, b, rfl, hk, hb.imm (.of sm2)⟩ fun j u v _ _ _ z => z)
  refine ⟨_, rfl, rd N.ob T.node (i := 1) (by decide +kernel) rfl ⟨_, rfl, rd hwa T.waiting (i := 2) (by decide +kernel) rfl ⟨_, _, rfl, rfl, _, rfl, rd S.hw T.world (i := 1) (by decide +kernel) rfl ?_⟩⟩⟩
  have e1 : (n.clock : Int) - (a.sent : Int) = ((n.clock - a.sent : Nat) : Int) := by omega
  dsimp only
  rw [e1]
  refine ⟨n.clock - a.sent, s.wrong, rfl, hw, ?_⟩
  -- span = Span(told.least, told.greatest + since_asked)
  refine ⟨_, rfl, rd hta T.span (i := 0) (by decide +kernel) rfl ⟨_, rfl, rd hta T.span (i := 1) (by decide +kernel) rfl ⟨_, rfl, _, _, rfl, rfl, ?_⟩⟩⟩
  have e2 : (x.2 : Int) + (Ag01.atMost s.wrong (n.clock - a.sent) : Int) = ((x.2 + Ag01.atMost s.wrong (n.clock - a.sent) : Nat) : Int) := by omega
  dsimp only
  rw [e2]
  intro b dx0 nb nd0 _
  refine ⟨b, dx0, _, rfl, rfl, upd_same, fun H1 hb1 kk => ⟨rfl, ?_⟩⟩
  have sm1 : Same H H1 := made_same nb nd0 kk
  have hb : SpanAt C H1 b (x.1, x.2 + Ag01.atMost s.wrong (n.clock - a.sent)) := ⟨dx0, hb1⟩
  have S1 := S.more sm1
  have N1 := S1.ns.get i p n hp hn
  obtain ⟨us, hu, au⟩ := N1.ks
  obtain ⟨y, hy⟩ : ∃ y, n.known[a.master]? = some y := ⟨_, List.getElem?_eq_getElem hm⟩
  obtain ⟨v, hv, kv⟩ := au.left hy
  have hwa1 := Hc.Same.obj sm1 hwa
  have gd : n.known.getD a.master none = y := by rw [List.getD_eq_getElem?_getD, hy]; rfl
  -- before = node.known[waiting.master]
  refine ⟨_, rfl, rd N1.ob T.node (i := 5) (by decide +kernel) rfl ⟨_, rfl, rd hwa1 T.waiting (i := 1) (by decide +kernel) rfl ⟨p.kl, _, _, _, rfl, rfl, SqL.of hu, atI_nat hv, ?_⟩⟩⟩
  refine ⟨_, rfl, rfl, _, rfl, ?_⟩
  cases y with
  | none =>
    obtain rfl : v = V.non := kv
    refine iteF ⟨_, rfl, rd N1.ob T.node (i := 1) (by decide +kernel) rfl ⟨_, rfl, fun kp dk nk nkd _ => ⟨kp, dk, _, rfl, rfl, upd_same, fun H2 hk kk => ⟨rfl, ?_⟩⟩⟩⟩
    have sm2 : Same H1 H2 := made_same nk nkd kk
    have ok : Obj H2 kp C.known nKnown [vN n.clock, .ref b] := ⟨dk, hk⟩
    have N2 := (S1.more sm2).ns.get i p n hp hn
    have ey : (x.1, x.2 + Ag01.atMost s.wrong (n.clock - a.sent)) = learnt s n a x := by
      unfold learnt
      rw [gd]
      rfl
    obtain ⟨us', h1, h2, h3⟩ := fin H1 b _ sm1 hb ey kp H2 sm2 ok
    exact ⟨_, rfl, rd N2.ob T.node (i := 5) (by decide +kernel) rfl ⟨_, rfl, rd (Hc.Same.obj sm2 hwa1) T.waiting (i := 1) (by decide +kernel) rfl ⟨p.kl, _, _, _, rfl, rfl, h1, h2, h3⟩⟩⟩
  | some y =>
    obtain ⟨ka, kb, rfl, ok1, ok2⟩ := id kv
    refine iteT ⟨_, rfl, _, rfl, _, rfl, H0, L, s, i, p, n, ka, y, rfl, S1, hp, hn, kv, ht y.1 y.2 (List.mem_of_getElem? hy), hw, fun q H2 hq sm2 h2 => ?_⟩
    have S2 := S1.more sm2
    have hb2 := hb.imm (.of sm2)
    have lr : learnt s n a x = Ag01.meet (Ag01.aged s.wrong n.clock y) (x.1, x.2 + Ag01.atMost s.wrong (n.clock - a.sent)) := by
      unfold learnt
      rw [gd]
      rfl
    refine ⟨_, rfl, q, b, _, _, rfl, h2, hb2, fun c => ?_, fun c r H3 hr3 sm3 h3 => ?_⟩
    · -- nothing in common
      refine ⟨_, rfl, rfl, _, rfl, iteF ?_⟩
      have N2 := S2.ns.get i p n hp hn
      refine ⟨_, rfl, rd N2.ob T.node (i := 1) (by decide +kernel) rfl ⟨_, rfl, fun kp dk nk nkd _ => ⟨kp, dk, _, rfl, rfl, upd_same, fun H4 hk kk => ⟨rfl, ?_⟩⟩⟩⟩
      have sm4 : Same H2 H4 := made_same nk nkd kk
      have ok : Obj H4 kp C.known nKnown [vN n.clock, .ref b] := ⟨dk, hk⟩
      have N4 := (S2.more sm4).ns.get i p n hp hn
      have ey : (x.1, x.2 + Ag01.atMost s.wrong (n.clock - a.sent)) = learnt s n a x := by
        rw [lr]
        unfold Ag01.meet
        rw [if_neg c]
      obtain ⟨us', h1, h2', h3'⟩ := fin H2 b _ (sm1.trans sm2) hb2 ey kp H4 sm4 ok
      exact ⟨_, rfl, rd N4.ob T.node (i := 5) (by decide +kernel) rfl ⟨_, rfl, rd (Hc.Same.obj (sm2.trans sm4) hwa1) T.waiting (i := 1) (by decide +kernel) rfl ⟨p.kl, _, _, _, rfl, rfl, h1, h2', h3'⟩⟩⟩
    · refine ⟨_, rfl, rfl, _, rfl, iteT ⟨_, rfl, ?_⟩⟩
      have S3 := S2.more sm3
      have N3 := S3.ns.get i p n hp hn
      refine ⟨_, rfl, rd N3.ob T.node (i := 1) (by decide +kernel) rfl ⟨_, rfl, fun kp dk nk nkd _ => ⟨kp, dk, _, rfl, rfl, upd_same, fun H4 hk kk => ⟨rfl, ?_⟩⟩⟩⟩
      have sm4 : Same H3 H4 := made_same nk nkd kk
      have ok : Obj H4 kp C.known nKnown [vN n.clock, .ref r] := ⟨dk, hk⟩
      have N4 := (S3.more sm4).ns.get i p n hp hn
      have ey : (max (Ag01.aged s.wrong n.clock y).1 x.1, min (Ag01.aged s.wrong n.clock y).2 (x.2 + Ag01.atMost s.wrong (n.clock - a.sent))) = learnt s n a x := by
        rw [lr]
        unfold Ag01.meet
        rw [if_pos c]
      obtain ⟨us', h1, h2', h3'⟩ := fin H3 r _ ((sm1.trans sm2).trans sm3) h3 ey kp H4 sm4 ok
      exact ⟨_, rfl, rd N4.ob T.node (i := 5) (by decide +kernel) rfl ⟨_, rfl, rd (Hc.Same.obj ((sm2.trans sm3).trans sm4) hwa1) T.waiting (i := 1) (by decide +kernel) rfl ⟨p.kl, _, _, _, rfl, rfl, h1, h2', h3'⟩⟩⟩
end
end Hc
set_option Elab.async false
set_option maxRecDepth 100000
set_option maxHeartbeats 2000000
/-! The net: letters sent, handed over. -/
namespace Hc
open PySem PySem.Spec PyProof.Rows L2
open Ag01 (Span Master Ask Node Letter Stamp State)
theorem ixN_nat {n k : Nat} (h : k < n) : ixN n (k : Int) = some k := by
  unfold ixN
  rw [if_pos (by omega), if_pos (by omega)]
  rfl
theorem seq_nat {n k : Nat} (h : k < n) : seqIndex? (k : Int) n = some k := (ixN_seq (ixN_nat h)).1
theorem hand_ask {s : State} {x : Letter} (h : x.kind = 0) : Ag01.hand s x = (Ag01.send s [⟨1, x.node, x.master, x.num, Ag01.says s x.master⟩], [1]) := by
  unfold Ag01.hand
  rw [h]
  rfl
def fits (x : Letter) (a : Ask) : Bool := a.num == x.num && a.master == x.master
theorem hand_answer {s : State} {x : Letter} {n : Node} (h : x.kind = 1) (hn : s.nodes[x.node]? = some n) : Ag01.hand s x = if n.up = false then ((s, [0]) : State × List Int) else match n.asks.find? (fits x) with
    | none => (s, [0])
    | some a => (Ag01.setNode s x.node { n with asks := n.asks.filter (fun (b : Ask) => b.num != a.num), known := n.known.set x.master (some (n.clock, match (n.known.getD x.master none).map (Ag01.aged s.wrong n.clock) with
      | none => (x.says.1, x.says.2 + Ag01.atMost s.wrong (n.clock - a.sent))
      | some o => Ag01.meet o (x.says.1, x.says.2 + Ag01.atMost s.wrong (n.clock - a.sent)))) }, [2]) := by
  unfold Ag01.hand
  rw [h, node_of hn]
  rfl
section
variable {P : Program} {w : World} {K : PySem.W.Frag} {mg : Str → Option Value} {base : Heap} {C : Cs}
def spSend (C : Cs) : Sp := fun vs H Q _ => ∃ (H0 : Hp) (L : Lay) (s : State) (a : Addr) (x : Letter), vs = [.ref L.w, .ref a] ∧ St C H0 H L s ∧ LetterV C H (.ref a) x ∧ s.letters.length ≤ 100 ∧ ∀ H', St C H0 H' L (Ag01.send s [x]) → Q .non H'
theorem cal_send (F : Fn K mg "send" s_send) (T : Txt K mg C) : C8.Cal P w K mg base 1 "send" (spSend C) [] := by
  refine cal_of F sc_send (fun _ _ _ _ _ _ us hl => match us, hl with | [_, _], _ => rfl) (fun vs H Q E ⟨_, _, _, _, _, e, _⟩ => by rw [e]; rfl) ?_
  rintro f cdv A outer s0 H vs Q E hr ⟨H0, L, s, a, x, rfl, S, hx, hl, k⟩
  obtain ⟨us, hu, au⟩ := S.hll
  refine ⟨_, (pss_one (ps_if (pt_cmpR op_lt (pe_callB call_len_seq (by rfl) T.len PySem.boot_len (pa_cons (pe_fld (pv 0) rfl) pa_nil)) (pe_const rfl T.gROOM) (nomark _)) (pss_one (ps_expr (pe_bm PySem.F.plainAttrs_list PySem.F.slot_list_append PySem.F.type_list_append mt_append (pe_fld (pv 0) rfl) (pa_cons (pv 1) pa_nil)))) pss_nil)), ?_⟩
  refine ⟨_, rfl, rd S.hw T.world (i := 6) (by decide +kernel) rfl ⟨L.ll, us, rfl, .inl (SqL.of hu), _, _, rfl, rfl, _, rfl, ?_⟩⟩
  by_cases c : s.letters.length < 100
  · rw [decide_eq_true (by rw [au.len]; omega)]
    refine iteT ⟨_, rfl, rd S.hw T.world (i := 6) (by decide +kernel) rfl ⟨.inl ⟨rfl, _, SqL.of hu⟩, _, rfl, L.ll, us, _, rfl, rfl, hu, ?_, ?_⟩⟩
    · rw [au.len]; exact Nat.lt_of_lt_of_le c (by decide)
    · refine k _ ?_
      rw [send_room c]
      exact S.setLetters (au.snoc hx)
  · rw [decide_eq_false (by rw [au.len]; omega)]
    refine iteF (k H ?_)
    rw [send_full c hl]
    exact S
def spSendAsk (C : Cs) : Sp := fun vs H Q _ => ∃ (H0 : Hp) (L : Lay) (s : State) (i m n : Nat), vs = [.ref L.w, vN i, vN m, vN n] ∧ St C H0 H L s ∧ s.letters.length ≤ 100 ∧ ∀ H', St C H0 H' L (Ag01.send s [⟨0, i, m, n, (0, 0)⟩]) → Q .non H'
theorem cal_send_ask (F : Fn K mg "send_ask" s_send_ask) (T : Txt K mg C) (m_Letter : C8.Mak P w K mg base 1 "Letter" C.letter (spInit C.letter 5 nLetter id) []) (c_send : C8.Cal P w K mg base 1 "send" (spSend C) []) : C8.Cal P w K mg base 3 "send_ask" (spSendAsk C) [] := by
  refine cal_of F sc_send_ask (fun _ _ _ _ _ _ us hl => match us, hl with | [_, _, _, _], _ => rfl) (fun vs H Q E ⟨_, _, _, _, _, _, e, _⟩ => by rw [e]; rfl) ?_
  rintro f cdv A outer s0 H vs Q E hr ⟨H0, L, s, i, m, n, rfl, S, hl, k⟩
  refine ⟨_, (pss_one (ps_expr (C8.pe_c c_send hr (by decide) rfl (pa_cons (pv 0) (pa_cons (C8.pe_mk m_Letter hr (by decide) rfl (pa_cons (pe_const rfl T.gASK) (pa_cons (pv 1) (pa_cons (pv 2) (pa_cons (pv 3) (pa_cons pe_non pa_nil)))))) pa_nil))))), ?_⟩
  refine ⟨_, rfl, _, rfl, _, rfl, _, rfl, fun a dx na nd _ => ⟨a, dx, _, rfl, rfl, upd_same, fun H1 ha kk => ⟨rfl, ?_⟩⟩⟩
  have sm : Same H H1 := made_same na nd kk
  exact ⟨H0, L, s, a, ⟨0, i, m, n, (0, 0)⟩, rfl, S.more sm, ⟨a, .non, rfl, ⟨dx, ha⟩, rfl⟩, hl, k⟩
def spAnswerAsk (C : Cs) : Sp := fun vs H Q _ => ∃ (H0 : Hp) (L : Lay) (s : State) (a : Addr) (x : Letter), vs = [.ref L.w, .ref a] ∧ St C H0 H L s ∧ LetterV C H (.ref a) x ∧ x.master < s.masters.length ∧ 2 * s.good ≤ s.now ∧ s.letters.length ≤ 100 ∧
  ∀ H', St C H0 H' L (Ag01.send s [⟨1, x.node, x.master, x.num, Ag01.says s x.master⟩]) → Q (.int 1) H'
theorem cal_answer_ask (F : Fn K mg "answer_ask" s_answer_ask) (T : Txt K mg C) (m_Letter : C8.Mak P w K mg base 1 "Letter" C.letter (spInit C.letter 5 nLetter id) []) (c_send : C8.Cal P w K mg base 1 "send" (spSend C) []) (c_said_by : C8.Cal P w K mg base 3 "said_by" (spSaidBy C) []) :
    C8.Cal P w K mg base 4 "answer_ask" (spAnswerAsk C) [] := by
  refine cal_of F sc_answer_ask (fun _ _ _ _ _ _ us hl => match us, hl with | [_, _], _ => rfl) (fun vs H Q E ⟨_, _, _, _, _, e, _⟩ => by rw [e]; rfl) ?_
  rintro f cdv A outer s0 H vs Q E hr ⟨H0, L, s, a, x, rfl, S, ⟨a', sp, ea, ho, hs⟩, hm, hnow, hl, k⟩
  injection ea with ea
  subst ea
  refine ⟨_, (pss_cons (ps_set (i := 2) sc_answer_ask.nd rfl (.inl rfl) (C8.pe_c c_said_by hr (by decide) rfl (pa_cons (pv 0) (pa_cons (pe_ix ix_list (pe_fld (pv 0) rfl) (pe_fld (pv 1) rfl) (fun _ _ => rfl)) pa_nil))))
    (pss_cons (ps_expr (C8.pe_c c_send hr (by decide) rfl (pa_cons (pv 0) (pa_cons (C8.pe_mk m_Letter hr (by decide) rfl (pa_cons (pe_const rfl T.gANSWER) (pa_cons (pe_fld (pv 1) rfl) (pa_cons (pe_fld (pv 1) rfl) (pa_cons (pe_fld (pv 1) rfl) (pa_cons (pv 2) pa_nil)))))) pa_nil))))
    (pss_one (ps_ret (pe_const rfl T.gANSWERED))))), ?_⟩
  obtain ⟨ma, hma, _⟩ := S.ms.left (master_at hm)
  have hma' : (L.ms.map V.ref)[x.master]? = some (.ref ma) := by rw [List.getElem?_map, hma]; rfl
  refine ⟨_, rfl, _, rfl, rd S.hw T.world (i := 4) (by decide +kernel) rfl ⟨_, rfl, rd ho T.letter (i := 2) (by decide +kernel) rfl ⟨L.ml, _, _, _, rfl, rfl, SqL.of S.hml, atI_nat hma', ?_⟩⟩⟩
  refine ⟨H0, L, s, x.master, ma, rfl, S, hma, hnow, fun q H1 sm1 hq => ?_⟩
  have S1 := S.more sm1
  have ho1 := Hc.Same.obj sm1 ho
  refine ⟨_, rfl, _, rfl, rd ho1 T.letter (i := 1) (by decide +kernel) rfl ⟨_, rfl, rd ho1 T.letter (i := 2) (by decide +kernel) rfl ⟨_, rfl, rd ho1 T.letter (i := 3) (by decide +kernel) rfl ⟨_, rfl, fun b dx nb nd _ => ⟨b, dx, _, rfl, rfl, upd_same, fun H2 hb kk => ⟨rfl, ?_⟩⟩⟩⟩⟩⟩
  have sm2 : Same H1 H2 := made_same nb nd kk
  exact ⟨H0, L, s, b, ⟨1, x.node, x.master, x.num, Ag01.says s x.master⟩, rfl, S1.more sm2, ⟨b, .ref q, rfl, ⟨dx, hb⟩, ⟨q, rfl, hq.imm (.of sm2)⟩⟩, hl, k⟩
/-! ### what an answer was waited for by -/
def spWaited (C : Cs) : Sp := fun vs H Q _ => ∃ (H0 : Hp) (L : Lay) (s : State) (i : Nat) (p : NA) (n : Node) (a : Addr) (x : Letter), vs = [.ref p.a, .ref a] ∧ St C H0 H L s ∧ L.ns[i]? = some p ∧ s.nodes[i]? = some n ∧ LetterV C H (.ref a) x ∧
  (∀ (k : Nat) (b : Ask), n.asks[k]? = some b → fits x b = true → (∀ j c, j < k → n.asks[j]? = some c → fits x c = false) → ∀ H', Same H H' → Q (vN k) H') ∧
  ((∀ (j : Nat) (c : Ask), n.asks[j]? = some c → fits x c = false) → ∀ H', Same H H' → Q .non H')
theorem cal_waited_for_at (F : Fn K mg "waited_for_at" s_waited_for_at) (T : Txt K mg C) : C8.Cal P w K mg base 1 "waited_for_at" (spWaited C) [] := by
  refine cal_of F sc_waited_for_at (fun _ _ _ _ _ _ us hl => match us, hl with | [_, _], _ => rfl) (fun vs H Q E ⟨_, _, _, _, _, _, _, _, e, _⟩ => by rw [e]; rfl) ?_
  rintro f cdv A outer s0 H vs Q E hr ⟨H0, L, s, i, p, n, a, x, rfl, S, hp, hn, ⟨a', sp, ea, ho, hs⟩, kS, kN⟩
  injection ea with ea
  subst ea
  have N := S.ns.get i p n hp hn
  obtain ⟨us, hu, au⟩ := N.ws
  refine ⟨_, (pss_cons (ps_for PassesOwn.never rfl (pi_enum (by rfl) T.enumerate (pa_cons (pe_fld (pv 0) rfl) pa_nil)) (pg_tup rfl (pgs_cons (pg_name (i := 2) sc_waited_for_at.nd rfl (.inl rfl)) (pgs_cons (pg_name (i := 3) sc_waited_for_at.nd rfl (.inl rfl)) pgs_nil))) (pss_one (ps_if (PW.pt (pw_and (pt_cmpR op_eq (pe_fld (pv 3) rfl) (pe_fld (pv 1) rfl) (nomark _)) (pw_and1 (pt_cmpR op_eq (pe_fld (pv 3) rfl) (pe_fld (pv 1) rfl) (nomark _))))) (pss_one (ps_ret (pv 2))) pss_nil)))
    (pss_one (ps_ret pe_non))), ?_⟩
  refine ⟨_, rfl, rd N.ob T.node (i := 4) (by decide +kernel) rfl ⟨p.wl, us, rfl, SqL.of hu, for_it (walk_enum (K := K) (a := p.wl) (xs := us)) (fun j σ H' => ∃ v2 v3, σ = [some (.ref p.a), some (.ref a), v2, v3] ∧ Same H H' ∧ ∀ (j' : Nat) (c : Ask), j' < j → n.asks[j']? = some c → fits x c = false)
    ⟨none, none, rfl, .refl H, fun _ _ h => absurd h (Nat.not_lt_zero _)⟩ (fun j σ H' _ ⟨_, _, _, q, _⟩ => SqL.of (q _ _ hu)) ?_ ?_⟩⟩
  · rintro j v σ H1 H2 hj ⟨v2, v3, rfl, sm, hno⟩ ⟨t, x1, x2, rfl, ht, rfl, e1, e2⟩
    injection e1 with e1
    subst e1
    obtain ⟨b, hb, ba, rfl, ob⟩ := au.right e2
    have sm2 : Same H (upd H1 t (.tup [.int (j : Nat), .ref ba])) := sm.trans (Hc.Same.upd ht)
    have ob2 := Hc.Same.obj sm2 ob
    have ho2 := Hc.Same.obj sm2 ho
    refine ⟨t, _, rfl, SqT.of upd_same, rfl, _, _, rfl, _, _, rfl, rfl, ?_⟩
    refine ⟨_, rfl, rd ob2 T.waiting (i := 0) (by decide +kernel) rfl ⟨_, rfl, rd ho2 T.letter (i := 3) (by decide +kernel) rfl ⟨rfl, _, rfl, ?_⟩⟩⟩
    by_cases c1 : b.num = x.num
    · rw [decide_eq_true (by rw [c1])]
      refine iteT ⟨_, rfl, rd ob2 T.waiting (i := 1) (by decide +kernel) rfl ⟨_, rfl, rd ho2 T.letter (i := 2) (by decide +kernel) rfl ⟨rfl, _, rfl, ?_⟩⟩⟩
      by_cases c2 : b.master = x.master
      · rw [decide_eq_true (by rw [c2])]
        refine iteT ⟨_, rfl, kS j b hb ?_ hno _ sm2⟩
        unfold fits
        rw [c1, c2]
        simp
      · rw [decide_eq_false (fun z => c2 (by injection z with z; omega))]
        refine iteF ⟨_, _, rfl, sm2, fun j' c hj' hc => ?_⟩
        by_cases e : j' = j
        · subst e
          rw [hb] at hc
          injection hc with hc
          subst hc
          unfold fits
          rw [beq_eq_false_iff_ne.mpr c2, Bool.and_false]
        · exact hno j' c (by omega) hc
    · rw [decide_eq_false (fun z => c1 (by injection z with z; omega))]
      refine iteF (iteF ⟨_, _, rfl, sm2, fun j' c hj' hc => ?_⟩)
      by_cases e : j' = j
      · subst e
        rw [hb] at hc
        injection hc with hc
        subst hc
        unfold fits
        rw [beq_eq_false_iff_ne.mpr c1, Bool.false_and]
      · exact hno j' c (by omega) hc
  · rintro σ H1 ⟨v2, v3, rfl, sm, hno⟩
    refine kN (fun j c hc => hno j c ?_ hc) H1 sm
    rw [au.len]
    exact (List.getElem?_eq_some_iff.mp hc).1
def spHand (C : Cs) (good : Letter → Prop) : Sp := fun vs H Q _ => ∃ (H0 : Hp) (L : Lay) (s : State) (M : Nat) (a : Addr) (x : Letter), vs = [.ref L.w, .ref a] ∧ St C H0 H L s ∧ LetterV C H (.ref a) x ∧ Good M s ∧ M ≤ 1000 ∧ x.node < s.nodes.length ∧ x.master < s.masters.length ∧ good x ∧
  ∀ H' r, (Ag01.hand s x).2 = [r] → St C H0 H' L (Ag01.hand s x).1 → Q (.int r) H'
theorem cal_hear_answer (F : Fn K mg "hear_answer" s_hear_answer) (T : Txt K mg C) (c_waited_for_at : C8.Cal P w K mg base 1 "waited_for_at" (spWaited C) []) (c_learn : C8.Cal P w K mg base 5 "learn" (spLearn C) []) :
    C8.Cal P w K mg base 6 "hear_answer" (spHand C (fun x => x.kind = 1)) [] := by
  refine cal_of F sc_hear_answer (fun _ _ _ _ _ _ us hl => match us, hl with | [_, _], _ => rfl) (fun vs H Q E ⟨_, _, _, _, _, _, e, _⟩ => by rw [e]; rfl) ?_
  rintro f cdv A outer s0 H vs Q E hr ⟨H0, L, s, M, a, x, rfl, S, hx, G, hM1, hxn, hxm, hk, k⟩
  obtain ⟨a', sp, ea, ho, hs⟩ := id hx
  injection ea with ea
  subst ea
  rw [if_neg (by omega)] at hs
  obtain ⟨b, rfl, hb⟩ := hs
  obtain ⟨n, hn⟩ : ∃ n, s.nodes[x.node]? = some n := ⟨_, List.getElem?_eq_getElem hxn⟩
  have gn : GNode s.masters.length M n := G.nodes n (List.mem_of_getElem? hn)
  obtain ⟨p, hp, N⟩ := S.ns.left hn
  have hp' : (L.ns.map fun p => V.ref p.a)[x.node]? = some (.ref p.a) := by rw [List.getElem?_map, hp]; rfl
  have hh := hand_answer hk hn
  refine ⟨_, (pss_cons (ps_set (i := 2) sc_hear_answer.nd rfl (.inl rfl) (pe_ix ix_list (pe_fld (pv 0) rfl) (pe_fld (pv 1) rfl) (fun _ _ => rfl)))
    (pss_cons (ps_set (i := 3) sc_hear_answer.nd rfl (.inl rfl) (C8.pe_c c_waited_for_at hr (by decide) rfl (pa_cons (pv 2) (pa_cons (pv 1) pa_nil))))
    (pss_cons (ps_if (PW.pt (pw_or (pt_not (pt_val (pe_fld (pv 2) rfl))) (pw_or1 (pt_cmpR op_isN (pv 3) pe_non (nomark _))))) (pss_one (ps_ret (pe_const rfl T.gNO_USE))) pss_nil)
    (pss_cons (ps_expr (C8.pe_c c_learn hr (by decide) rfl (pa_cons (pv 0) (pa_cons (pv 2) (pa_cons (pe_bm PySem.F.plainAttrs_list PySem.F.slot_list_pop PySem.F.type_list_pop mt_popAt (pe_fld (pv 2) rfl) (pa_cons (pv 3) pa_nil)) (pa_cons (pe_fld (pv 1) rfl) pa_nil))))))
    (pss_one (ps_ret (pe_const rfl T.gHEARD))))))), ?_⟩
  refine ⟨_, rfl, rd S.hw T.world (i := 5) (by decide +kernel) rfl ⟨_, rfl, rd ho T.letter (i := 1) (by decide +kernel) rfl ⟨L.nl, _, _, _, rfl, rfl, SqL.of S.hnl, atI_nat hp', ?_⟩⟩⟩
  refine ⟨_, rfl, _, rfl, H0, L, s, x.node, p, n, a, x, rfl, S, hp, hn, hx, fun kk c hc hf hno H1 sm => ?_, fun hno H1 sm => ?_⟩
  · -- it is waited for
    have S1 := S.more sm
    have N1 := S1.ns.get _ p n hp hn
    have hfind : n.asks.find? (fits x) = some c := find_idx hc hf hno
    refine ⟨_, rfl, rd N1.ob T.node (i := 0) (by decide +kernel) rfl ⟨_, rfl, ?_⟩⟩
    cases hup : n.up with
    | false =>
      rw [if_pos hup] at hh
      refine iteT (iteT ?_)
      refine k H1 0 (by rw [hh]) ?_
      rw [hh]; exact S1
    | true =>
      rw [if_neg (by rw [hup]; simp), hfind] at hh
      refine iteF ⟨_, rfl, rfl, _, rfl, iteF ?_⟩
      obtain ⟨us, hu, au⟩ := N1.ws
      obtain ⟨v, hv, hw⟩ := au.left hc
      obtain ⟨wa, rfl, ow⟩ := id hw
      have hlt : kk < us.length := (List.getElem?_eq_some_iff.mp hv).1
      have hM : us.length ≤ M := by rw [au.len]; exact gn.al
      have S2 := S1.setWait hp hn (au.erase kk)
      have i2 : Imm H1 (upd H1 p.wl (.lst (us.eraseIdx kk))) := .upd hu rfl
      have ho2 := i2.obj (Hc.Same.obj sm ho) rfl im_letter
      have hn2 : ({ s with nodes := s.nodes.set x.node { n with asks := n.asks.eraseIdx kk } } : State).nodes[x.node]? = some { n with asks := n.asks.eraseIdx kk } := by
        show (s.nodes.set x.node _)[x.node]? = _
        rw [List.getElem?_set_self hxn]
      have fc := gn.as c (List.mem_of_getElem? hc)
      have cm : c.master = x.master := by
        unfold fits at hf
        rw [Bool.and_eq_true] at hf
        exact eq_of_beq hf.2
      refine ⟨_, rfl, _, rfl, _, rfl, rd N1.ob T.node (i := 4) (by decide +kernel) rfl ⟨.inl ⟨rfl, _, SqL.of hu⟩, _, rfl, p.wl, us, _, kk, _, rfl, rfl, hu, by omega, ?_, seq_nat hlt, hv, ?_⟩⟩
      · have := Nat.lt_of_lt_of_le hlt hM
        have : (kk : Int) < 1000 := by omega
        exact Int.lt_of_lt_of_le this (by decide)
      refine ⟨_, rfl, rd ho2 T.letter (i := 4) (by decide +kernel) rfl ?_⟩
      refine ⟨H0, L, _, x.node, p, _, wa, b, c, x.says, rfl, S2, hp, hn2, hw.imm i2, (hb.imm (.of sm)).imm i2, fc.1, by rw [gn.kn]; exact fc.2.1, gn.kt, G.w, fun H3 S3 => ?_⟩
      refine k H3 2 (by rw [hh]) ?_
      rw [hh]
      have e1 : ({ s with nodes := s.nodes.set x.node { n with asks := n.asks.eraseIdx kk } } : State).nodes.set x.node { ({ n with asks := n.asks.eraseIdx kk } : Node) with known := n.known.set c.master (some (n.clock, learnt { s with nodes := s.nodes.set x.node { n with asks := n.asks.eraseIdx kk } } { n with asks := n.asks.eraseIdx kk } c x.says)) } = s.nodes.set x.node { n with asks := n.asks.filter (fun (b : Ask) => b.num != c.num), known := n.known.set x.master (some (n.clock, learnt s n c x.says)) } := by
        show (s.nodes.set x.node _).set x.node _ = _
        rw [List.set_set, filter_erase gn.nd hc, cm]
        rfl
      have e2 : (match (n.known.getD x.master none).map (Ag01.aged s.wrong n.clock) with
        | none => (x.says.1, x.says.2 + Ag01.atMost s.wrong (n.clock - c.sent))
        | some o => Ag01.meet o (x.says.1, x.says.2 + Ag01.atMost s.wrong (n.clock - c.sent))) = learnt s n c x.says := by
        rw [← cm]
        rfl
      show St C H0 H3 L (Ag01.setNode s x.node { n with asks := n.asks.filter (fun (b : Ask) => b.num != c.num), known := n.known.set x.master (some (n.clock, _)) })
      rw [e2]
      unfold Ag01.setNode
      rw [← e1]
      exact S3
  · -- nothing waits for it
    have S1 := S.more sm
    have N1 := S1.ns.get _ p n hp hn
    have hfind : n.asks.find? (fits x) = none := find_none hno
    rw [hfind] at hh
    have hh2 : Ag01.hand s x = (s, [0]) := by rw [hh]; split <;> rfl
    refine ⟨_, rfl, rd N1.ob T.node (i := 0) (by decide +kernel) rfl ⟨_, rfl, ?_⟩⟩
    have fin : Q (.int 0) H1 := k H1 0 (by rw [hh2]) (by rw [hh2]; exact S1)
    cases hup : n.up with
    | false => exact iteT (iteT fin)
    | true => exact iteF ⟨_, rfl, rfl, _, rfl, iteT fin⟩
theorem cal_hand_over (F : Fn K mg "hand_over" s_hand_over) (T : Txt K mg C) (c_answer_ask : C8.Cal P w K mg base 4 "answer_ask" (spAnswerAsk C) []) (c_hear_answer : C8.Cal P w K mg base 6 "hear_answer" (spHand C (fun x => x.kind = 1)) []) :
    C8.Cal P w K mg base 7 "hand_over" (spHand C (fun x => x.kind ≤ 1)) [] := by
  refine cal_of F sc_hand_over (fun _ _ _ _ _ _ us hl => match us, hl with | [_, _], _ => rfl) (fun vs H Q E ⟨_, _, _, _, _, _, e, _⟩ => by rw [e]; rfl) ?_
  rintro f cdv A outer s0 H vs Q E hr ⟨H0, L, s, M, a, x, rfl, S, hx, G, hM1, hxn, hxm, hk, k⟩
  obtain ⟨a', sp, ea, ho, hs⟩ := id hx
  injection ea with ea
  subst ea
  refine ⟨_, (pss_cons (ps_if (pt_cmpR op_eq (pe_fld (pv 1) rfl) (pe_const rfl T.gASK) (nomark _)) (pss_one (ps_ret (C8.pe_c c_answer_ask hr (by decide) rfl (pa_cons (pv 0) (pa_cons (pv 1) pa_nil))))) pss_nil)
    (pss_one (ps_ret (C8.pe_c c_hear_answer hr (by decide) rfl (pa_cons (pv 0) (pa_cons (pv 1) pa_nil)))))), ?_⟩
  refine ⟨_, rfl, rd ho T.letter (i := 0) (by decide +kernel) rfl ⟨rfl, _, rfl, ?_⟩⟩
  by_cases c : x.kind = 0
  · rw [decide_eq_true (by rw [c]; rfl)]
    refine iteT ⟨_, rfl, _, rfl, H0, L, s, a, x, rfl, S, hx, hxm, G.now, G.ll, fun H' S' => ?_⟩
    have hh := hand_ask (s := s) c
    exact k H' 1 (by rw [hh]) (by rw [hh]; exact S')
  · rw [decide_eq_false (fun z => c (by injection z with z; omega))]
    exact iteF ⟨_, rfl, _, rfl, H0, L, s, M, a, x, rfl, S, hx, G, hM1, hxn, hxm, by omega, k⟩
end
end Hc
set_option Elab.async false
set_option maxRecDepth 100000
set_option maxHeartbeats 2000000
/-! The calls on a world: skew, lie, ask, take, keep. -/
namespace Hc
open PySem PySem.Spec PyProof.Rows L2
open Ag01 (Span Master Ask Node Letter Stamp State Call)
/-- a call on a world: its number k, what it is handed -/
def spOn (C : Cs) (k : Nat) : Sp := fun vs H Q _ => ∃ (H0 : Hp) (L : Lay) (s : State) (M : Nat) (h : Addr) (l : List Nat) (c : Call), vs = [.ref L.w, .ref h] ∧ flat c = (k, l) ∧ St C H0 H L s ∧ H0 h = some (.lst (l.map vN)) ∧ Good M s ∧ M ≤ 1000 ∧
  ∀ H' L' s' p, (Ag01.step (some s) c).1 = some s' → St C H0 H' L' s' → L'.w = L.w → H0 p = none → H' p = some (.lst ((Ag01.step (some s) c).2.map V.int)) → Q (.ref p) H'
theorem len_on {C : Cs} {k : Nat} : ∀ vs H Q E, spOn C k vs H Q E → vs.length = 2 := by
  rintro vs H Q E ⟨_, _, _, _, _, _, _, rfl, _⟩
  rfl
/-- the answer is a new list -/
theorem ret_on {C : Cs} {H0 H1 : Hp} {L L' : Lay} {s s' : State} {c : Call} {Q : VK} {ans : List Int} (k : ∀ H' L' s' p, (Ag01.step (some s) c).1 = some s' → St C H0 H' L' s' → L'.w = L.w → H0 p = none → H' p = some (.lst ((Ag01.step (some s) c).2.map V.int)) → Q (.ref p) H')
    (S : St C H0 H1 L' s') (hw : L'.w = L.w) (e : Ag01.step (some s) c = (some s', ans)) : ∀ p, H1 p = none → Q (.ref p) (upd H1 p (.lst (ans.map V.int))) := fun p hp =>
  k _ L' s' p (by rw [e]) (S.more (Hc.Same.upd hp)) hw (S.same.free hp) (by rw [e]; exact upd_same)
theorem flat_2 {c : Call} {l : List Nat} (h : flat c = (2, l)) : ∃ m o, c = .skew m o ∧ l = [m, o] := by
  cases c <;> simp [flat] at h
  exact ⟨_, _, rfl, h.symm⟩
theorem flat_3 {c : Call} {l : List Nat} (h : flat c = (3, l)) : ∃ m a b, c = .lie m a b ∧ l = [m, a, b] := by
  cases c <;> simp [flat] at h
  exact ⟨_, _, _, rfl, h.symm⟩
theorem flat_4 {c : Call} {l : List Nat} (h : flat c = (4, l)) : ∃ i m, c = .ask i m ∧ l = [i, m] := by
  cases c <;> simp [flat] at h
  exact ⟨_, _, rfl, h.symm⟩
theorem flat_5 {c : Call} {l : List Nat} (h : flat c = (5, l)) : ∃ i, c = .stamp i ∧ l = [i] := by
  cases c <;> simp [flat] at h
  exact ⟨_, rfl, h.symm⟩
theorem flat_6 {c : Call} {l : List Nat} (h : flat c = (6, l)) : ∃ i, c = .settle i ∧ l = [i] := by
  cases c <;> simp [flat] at h
  exact ⟨_, rfl, h.symm⟩
theorem flat_7 {c : Call} {l : List Nat} (h : flat c = (7, l)) : ∃ i, c = .take i ∧ l = [i] := by
  cases c <;> simp [flat] at h
  exact ⟨_, rfl, h.symm⟩
theorem flat_8 {c : Call} {l : List Nat} (h : flat c = (8, l)) : ∃ i, c = .keep i ∧ l = [i] := by
  cases c <;> simp [flat] at h
  exact ⟨_, rfl, h.symm⟩
section
variable {P : Program} {w : World} {K : PySem.W.Frag} {mg : Str → Option Value} {base : Heap} {C : Cs}
def spThere : Sp := fun vs H Q _ => ∃ (a : Addr) (xs : List V) (i n : Nat), vs = [.ref a, vN i] ∧ H a = some (.lst xs) ∧ xs.length = n ∧ Q (.bl (decide (i < n))) H
theorem cal_there (F : Fn K mg "there" s_there) (T : Txt K mg C) : C8.Cal P w K mg base 1 "there" spThere [] := by
  refine cal_of F sc_there (fun _ _ _ _ _ _ us hl => match us, hl with | [_, _], _ => rfl) (fun vs H Q E ⟨_, _, _, _, e, _⟩ => by rw [e]; rfl) ?_
  rintro f cdv A outer s0 H vs Q E hr ⟨a, xs, i, n, rfl, ha, hn, k⟩
  refine ⟨_, (pss_one (ps_ret (pe_chain op_le op_lt pe_int (pv 1) (pe_callB call_len_seq (by rfl) T.len PySem.boot_len (pa_cons (pv 0) pa_nil))))), ?_⟩
  refine ⟨_, rfl, _, _, rfl, rfl, _, rfl, ?_⟩
  rw [decide_eq_true (by omega)]
  refine iteT ⟨_, rfl, a, xs, rfl, .inl (SqL.of ha), _, _, rfl, rfl, ?_⟩
  have e : decide ((i : Int) < (xs.length : Int)) = decide (i < n) := by
    rw [hn]
    by_cases c : i < n
    · rw [decide_eq_true c, decide_eq_true (by omega)]
    · rw [decide_eq_false c, decide_eq_false (by omega)]
  show Q (.bl (decide ((i : Int) < (xs.length : Int)))) H
  rw [e]
  exact k
theorem cal_skew (F : Fn K mg "skew" s_skew) (T : Txt K mg C) (c_there : C8.Cal P w K mg base 1 "there" spThere []) : C8.Cal P w K mg base 2 "skew" (spOn C 2) [] := by
  refine cal_of F sc_skew (fun _ _ _ _ _ _ us hl => match us, hl with | [_, _], _ => rfl) len_on ?_
  rintro f cdv A outer s0 H vs Q E hr ⟨H0, L, s, M, h, l, c, rfl, hc, S, hh, G, hM, k⟩
  obtain ⟨m, o, rfl, rfl⟩ := flat_2 hc
  have hH := S.same _ _ hh
  refine ⟨_, (pss_cons (ps_set (i := 2) sc_skew.nd rfl (.inl rfl) (pe_ix ix_list (pv 1) pe_int (fun _ _ => rfl)))
    (pss_cons (ps_if (PW.pt (pw_or (pt_not (pt_val (C8.pe_c c_there hr (by decide) rfl (pa_cons (pe_fld (pv 0) rfl) (pa_cons (pe_ix ix_list (pv 1) pe_int (fun _ _ => rfl)) pa_nil))))) (pw_or1 (pt_cmpR op_gt (pv 2) (pe_op op_mul pe_int (pe_fld (pv 0) rfl)) (nomark _))))) (pss_one (ps_ret (pe_lst (pa_cons (pe_const rfl T.gNOT_FITTING) pa_nil)))) pss_nil)
    (pss_cons (ps_set (i := 3) sc_skew.nd rfl (.inl rfl) (pe_ix ix_list (pe_fld (pv 0) rfl) (pe_ix ix_list (pv 1) pe_int (fun _ _ => rfl)) (fun _ _ => rfl)))
    (pss_cons (ps_fld (pv 3) (pv 2) rfl)
    (pss_cons (ps_fld (pv 3) pe_non rfl)
    (pss_one (ps_ret (pe_lst (pa_cons (pe_const rfl T.gDONE) pa_nil))))))))), ?_⟩
  refine ⟨_, rfl, h, _, _, _, rfl, rfl, SqL.of hH, rfl, ?_⟩
  refine ⟨_, rfl, rd S.hw T.world (i := 4) (by decide +kernel) rfl ⟨_, rfl, h, _, _, _, rfl, rfl, SqL.of hH, rfl, L.ml, _, m, s.masters.length, rfl, S.hml, by rw [List.length_map, S.ms.len], _, rfl, ?_⟩⟩
  by_cases c1 : m < s.masters.length
  · rw [decide_eq_true c1]
    refine iteF ⟨_, rfl, _, rfl, rd S.hw T.world (i := 0) (by decide +kernel) rfl ⟨_, _, rfl, rfl, .inl ⟨by decide, by decide⟩, _, _, rfl, rfl, _, rfl, ?_⟩⟩
    by_cases c2 : 2 * s.good < o
    · rw [decide_eq_true (by omega)]
      refine iteT ⟨by decide, ret_on k S rfl (ans := [-1]) ?_⟩
      simp only [Ag01.step]
      rw [if_pos (.inr c2)]
    · rw [decide_eq_false (by omega)]
      obtain ⟨x, hx⟩ : ∃ x, s.masters[m]? = some x := ⟨_, List.getElem?_eq_getElem c1⟩
      obtain ⟨ma, hma, cl, ⟨dm, hm⟩, hcl⟩ := S.ms.left hx
      have hma' : (L.ms.map V.ref)[m]? = some (.ref ma) := by rw [List.getElem?_map, hma]; rfl
      refine iteF ⟨_, rfl, rd S.hw T.world (i := 4) (by decide +kernel) rfl ⟨_, rfl, h, _, _, _, rfl, rfl, SqL.of hH, rfl, L.ml, _, _, _, rfl, rfl, SqL.of S.hml, atI_nat hma', ?_⟩⟩
      refine ⟨_, rfl, _, rfl, wr hm T.master (i := 0) (by decide +kernel) rfl (by decide) ?_⟩
      refine ⟨_, rfl, wr upd_same T.master (i := 1) (by decide +kernel) rfl (by decide) ?_⟩
      rw [upd_upd]
      have S2 := S.setMaster (dx := dm) hma hm (imm_obj rfl im_master) ⟨o, none, x.lied⟩ .non rfl
      refine ⟨by decide, ret_on k S2 rfl (ans := [0]) ?_⟩
      simp only [Ag01.step]
      rw [if_neg (by omega), master_of hx]
  · rw [decide_eq_false c1]
    refine iteT (iteT ⟨by decide, ret_on k S rfl (ans := [-1]) ?_⟩)
    simp only [Ag01.step]
    rw [if_pos (.inl (by omega))]
theorem cal_lie (F : Fn K mg "lie" s_lie) (T : Txt K mg C) (m_Span : C8.Mak P w K mg base 1 "Span" C.span (spInit C.span 2 nSpan id) []) (c_there : C8.Cal P w K mg base 1 "there" spThere []) : C8.Cal P w K mg base 3 "lie" (spOn C 3) [] := by
  refine cal_of F sc_lie (fun _ _ _ _ _ _ us hl => match us, hl with | [_, _], _ => rfl) len_on ?_
  rintro f cdv A outer s0 H vs Q E hr ⟨H0, L, s, M, h, l, c, rfl, hc, S, hh, G, hM, k⟩
  obtain ⟨m, a, b, rfl, rfl⟩ := flat_3 hc
  have hH := S.same _ _ hh
  refine ⟨_, (pss_cons (ps_set (i := 2) sc_lie.nd rfl (.inl rfl) (pe_ix ix_list (pv 1) pe_int (fun _ _ => rfl)))
    (pss_cons (ps_set (i := 3) sc_lie.nd rfl (.inl rfl) (pe_ix ix_list (pv 1) pe_int (fun _ _ => rfl)))
    (pss_cons (ps_if (PW.pt (pw_or (pt_not (pt_val (C8.pe_c c_there hr (by decide) rfl (pa_cons (pe_fld (pv 0) rfl) (pa_cons (pe_ix ix_list (pv 1) pe_int (fun _ _ => rfl)) pa_nil))))) (pw_or1 (pt_cmpR op_lt (pv 3) (pv 2) (nomark _))))) (pss_one (ps_ret (pe_lst (pa_cons (pe_const rfl T.gNOT_FITTING) pa_nil)))) pss_nil)
    (pss_cons (ps_set (i := 4) sc_lie.nd rfl (.inl rfl) (pe_ix ix_list (pe_fld (pv 0) rfl) (pe_ix ix_list (pv 1) pe_int (fun _ _ => rfl)) (fun _ _ => rfl)))
    (pss_cons (ps_fld (pv 4) (C8.pe_mk m_Span hr (by decide) rfl (pa_cons (pv 2) (pa_cons (pv 3) pa_nil))) rfl)
    (pss_cons (ps_fld (pv 4) pe_bl rfl)
    (pss_one (ps_ret (pe_lst (pa_cons (pe_const rfl T.gDONE) pa_nil)))))))))), ?_⟩
  refine ⟨_, rfl, h, _, _, _, rfl, rfl, SqL.of hH, rfl, ?_⟩
  refine ⟨_, rfl, h, _, _, _, rfl, rfl, SqL.of hH, rfl, ?_⟩
  refine ⟨_, rfl, rd S.hw T.world (i := 4) (by decide +kernel) rfl ⟨_, rfl, h, _, _, _, rfl, rfl, SqL.of hH, rfl, L.ml, _, m, s.masters.length, rfl, S.hml, by rw [List.length_map, S.ms.len], _, rfl, ?_⟩⟩
  by_cases c1 : m < s.masters.length
  · rw [decide_eq_true c1]
    refine iteF ⟨_, rfl, _, rfl, _, _, rfl, rfl, _, rfl, ?_⟩
    by_cases c2 : b < a
    · rw [decide_eq_true (by omega)]
      refine iteT ⟨by decide, ret_on k S rfl (ans := [-1]) ?_⟩
      simp only [Ag01.step]
      rw [if_pos (.inr c2)]
    · rw [decide_eq_false (by omega)]
      obtain ⟨x, hx⟩ : ∃ x, s.masters[m]? = some x := ⟨_, List.getElem?_eq_getElem c1⟩
      obtain ⟨ma, hma, cl, ⟨dm, hm⟩, hcl⟩ := S.ms.left hx
      have hma' : (L.ms.map V.ref)[m]? = some (.ref ma) := by rw [List.getElem?_map, hma]; rfl
      refine iteF ⟨_, rfl, rd S.hw T.world (i := 4) (by decide +kernel) rfl ⟨_, rfl, h, _, _, _, rfl, rfl, SqL.of hH, rfl, L.ml, _, _, _, rfl, rfl, SqL.of S.hml, atI_nat hma', ?_⟩⟩
      refine ⟨_, rfl, _, rfl, fun q dx nq nd _ => ⟨q, dx, _, rfl, rfl, upd_same, fun H1 hq kk => ⟨rfl, ?_⟩⟩⟩
      have sm : Same H H1 := made_same nq nd kk
      have S1 := S.more sm
      have hm1 := sm _ _ hm
      have sp1 : SpanAt C H1 q (a, b) := ⟨dx, hq⟩
      refine ⟨_, rfl, wr hm1 T.master (i := 1) (by decide +kernel) rfl (by decide) ?_⟩
      refine ⟨_, rfl, wr upd_same T.master (i := 2) (by decide +kernel) rfl (by decide) ?_⟩
      rw [upd_upd]
      have im : Imm H1 (upd H1 ma (.ins C.master dm (nMaster.zip [vN x.off, .ref q, .bl true]))) := .upd hm1 (imm_obj rfl im_master)
      have S2 := S1.setMaster (dx := dm) hma hm1 (imm_obj rfl im_master) ⟨x.off, some (a, b), true⟩ (.ref q) ⟨q, rfl, sp1.imm im⟩
      refine ⟨by decide, ret_on k S2 rfl (ans := [0]) ?_⟩
      simp only [Ag01.step]
      rw [if_neg (by omega), master_of hx]
  · rw [decide_eq_false c1]
    refine iteT (iteT ⟨by decide, ret_on k S rfl (ans := [-1]) ?_⟩)
    simp only [Ag01.step]
    rw [if_pos (.inl (by omega))]
end
end Hc
set_option Elab.async false
set_option maxRecDepth 100000
set_option maxHeartbeats 2000000
/-! The calls on a world: ask, stamp, settle, take, keep. -/
namespace Hc
open PySem PySem.Spec PyProof.Rows L2
open Ag01 (Span Master Ask Node Letter Stamp State Call)
theorem one_le : 1 ≤ sizeLine := by decide
theorem two_le : 2 ≤ sizeLine := by decide
theorem Good.erase {N : Nat} {s : State} (h : Good N s) (k : Nat) : Good N { s with letters := s.letters.eraseIdx k } :=
  ⟨h.g, h.w, h.now, h.m, h.n, h.nodes, fun y hy => h.lets y ((List.eraseIdx_sublist _ _).subset hy), Nat.le_trans (List.eraseIdx_sublist _ _).length_le h.ll, h.st, h.sl⟩
section
variable {P : Program} {w : World} {K : PySem.W.Frag} {mg : Str → Option Value} {base : Heap} {C : Cs}
/-- a node by its number: where it lies -/
theorem St.node {H0 H : Hp} {L : Lay} {s : State} {i : Nat} {n : Node} (S : St C H0 H L s) (h : s.nodes[i]? = some n) : ∃ p, L.ns[i]? = some p ∧ NodeAt C H p n ∧ (L.ns.map fun p => V.ref p.a)[i]? = some (.ref p.a) := by
  obtain ⟨p, hp, N⟩ := S.ns.left h
  exact ⟨p, hp, N, by rw [List.getElem?_map, hp]; rfl⟩
theorem St.nlen {H0 H : Hp} {L : Lay} {s : State} (S : St C H0 H L s) : (L.ns.map fun p => V.ref p.a).length = s.nodes.length := by rw [List.length_map, S.ns.len]
theorem St.mlen {H0 H : Hp} {L : Lay} {s : State} (S : St C H0 H L s) : (L.ms.map V.ref).length = s.masters.length := by rw [List.length_map, S.ms.len]
theorem St.slen {H0 H : Hp} {L : Lay} {s : State} (S : St C H0 H L s) : (L.ss.map V.ref).length = s.stamps.length := by rw [List.length_map, S.ss.len]
theorem cal_ask (F : Fn K mg "ask" s_ask) (T : Txt K mg C) (m_Waiting : C8.Mak P w K mg base 1 "Waiting" C.waiting (spInit C.waiting 3 nWaiting id) []) (c_there : C8.Cal P w K mg base 1 "there" spThere []) (c_send_ask : C8.Cal P w K mg base 3 "send_ask" (spSendAsk C) []) :
    C8.Cal P w K mg base 4 "ask" (spOn C 4) [] := by
  refine cal_of F sc_ask (fun _ _ _ _ _ _ us hl => match us, hl with | [_, _], _ => rfl) len_on ?_
  rintro f cdv A outer s0 H vs Q E hr ⟨H0, L, s, M, h, l, c, rfl, hc, S, hh, G, hM, k⟩
  obtain ⟨i, m, rfl, rfl⟩ := flat_4 hc
  have hH := S.same _ _ hh
  refine ⟨_, (pss_cons (ps_if (PW.pt (pw_or (pt_not (pt_val (C8.pe_c c_there hr (by decide) rfl (pa_cons (pe_fld (pv 0) rfl) (pa_cons (pe_ix ix_list (pv 1) pe_int (fun _ _ => rfl)) pa_nil))))) (pw_or1 (pt_not (pt_val (C8.pe_c c_there hr (by decide) rfl (pa_cons (pe_fld (pv 0) rfl) (pa_cons (pe_ix ix_list (pv 1) pe_int (fun _ _ => rfl)) pa_nil)))))))) (pss_one (ps_ret (pe_lst (pa_cons (pe_const rfl T.gNOT_FITTING) pa_nil)))) pss_nil)
    (pss_cons (ps_set (i := 2) sc_ask.nd rfl (.inl rfl) (pe_ix ix_list (pe_fld (pv 0) rfl) (pe_ix ix_list (pv 1) pe_int (fun _ _ => rfl)) (fun _ _ => rfl)))
    (pss_cons (ps_if (pt_not (pt_val (pe_fld (pv 2) rfl))) (pss_one (ps_ret (pe_lst (pa_cons (pe_const rfl T.gHAS_STOPPED) pa_nil)))) pss_nil)
    (pss_cons (ps_fld (pv 2) (pe_op op_add (pe_fld (pv 2) rfl) pe_int) rfl)
    (pss_cons (ps_expr (pe_bm PySem.F.plainAttrs_list PySem.F.slot_list_append PySem.F.type_list_append mt_append (pe_fld (pv 2) rfl) (pa_cons (C8.pe_mk m_Waiting hr (by decide) rfl (pa_cons (pe_fld (pv 2) rfl) (pa_cons (pe_ix ix_list (pv 1) pe_int (fun _ _ => rfl)) (pa_cons (pe_fld (pv 2) rfl) pa_nil)))) pa_nil)))
    (pss_cons (ps_expr (C8.pe_c c_send_ask hr (by decide) rfl (pa_cons (pv 0) (pa_cons (pe_ix ix_list (pv 1) pe_int (fun _ _ => rfl)) (pa_cons (pe_ix ix_list (pv 1) pe_int (fun _ _ => rfl)) (pa_cons (pe_fld (pv 2) rfl) pa_nil))))))
    (pss_one (ps_ret (pe_lst (pa_cons (pe_fld (pv 2) rfl) pa_nil)))))))))), ?_⟩
  refine ⟨_, rfl, rd S.hw T.world (i := 5) (by decide +kernel) rfl ⟨_, rfl, h, _, _, _, rfl, rfl, SqL.of hH, rfl, L.nl, _, i, s.nodes.length, rfl, S.hnl, S.nlen, _, rfl, ?_⟩⟩
  by_cases c1 : i < s.nodes.length
  · rw [decide_eq_true c1]
    refine iteF ⟨_, rfl, rd S.hw T.world (i := 4) (by decide +kernel) rfl ⟨_, rfl, h, _, _, _, rfl, rfl, SqL.of hH, rfl, L.ml, _, m, s.masters.length, rfl, S.hml, S.mlen, _, rfl, ?_⟩⟩
    by_cases c2 : m < s.masters.length
    · rw [decide_eq_true c2]
      obtain ⟨n, hn⟩ : ∃ n, s.nodes[i]? = some n := ⟨_, List.getElem?_eq_getElem c1⟩
      obtain ⟨p, hp, N, hp'⟩ := S.node hn
      have gn : GNode s.masters.length M n := G.nodes n (List.mem_of_getElem? hn)
      refine iteF ⟨_, rfl, rd S.hw T.world (i := 5) (by decide +kernel) rfl ⟨_, rfl, h, _, _, _, rfl, rfl, SqL.of hH, rfl, L.nl, _, _, _, rfl, rfl, SqL.of S.hnl, atI_nat hp', ?_⟩⟩
      refine ⟨_, rfl, rd N.ob T.node (i := 0) (by decide +kernel) rfl ⟨_, rfl, ?_⟩⟩
      cases hup : n.up with
      | false =>
        refine iteT ⟨by decide, ret_on k S rfl (ans := [-3]) ?_⟩
        simp only [Ag01.step]
        rw [if_neg (by omega), node_of hn, if_pos hup]
      | true =>
        obtain ⟨dn, hob⟩ := N.ob
        -- node.asked = node.asked + 1
        refine iteF ⟨_, rfl, rd N.ob T.node (i := 3) (by decide +kernel) rfl ⟨_, _, rfl, rfl, _, rfl, wr hob T.node (i := 3) (by decide +kernel) rfl (by decide) ?_⟩⟩
        have S1 := S.setNode (dx := dn) hp hn n.up n.clock n.last (n.count + 1)
        have hn1 : ({ s with nodes := s.nodes.set i { n with up := n.up, clock := n.clock, last := n.last, count := n.count + 1 } } : State).nodes[i]? = some { n with count := n.count + 1 } := by
          show (s.nodes.set i _)[i]? = _
          rw [List.getElem?_set_self c1]
        have N1 := S1.ns.get i p _ hp hn1
        have hH1 := S1.same _ _ hh
        -- node.waiting.append(Waiting(node.asked, handed[1], node.clock))
        obtain ⟨us, hu, au⟩ := N1.ws
        refine ⟨_, rfl, rd N1.ob T.node (i := 4) (by decide +kernel) rfl ⟨.inl ⟨rfl, _, SqL.of hu⟩, _, rfl, rd N1.ob T.node (i := 3) (by decide +kernel) rfl ⟨_, rfl, h, _, _, _, rfl, rfl, SqL.of hH1, rfl, _, rfl, rd N1.ob T.node (i := 1) (by decide +kernel) rfl (fun q dx nq nd _ => ⟨q, dx, _, rfl, rfl, upd_same, fun H2 hq kk => ⟨rfl, ?_⟩⟩)⟩⟩⟩
        have sm := made_same nq nd kk
        have S2 := S1.more sm
        have N2 := S2.ns.get i p _ hp hn1
        refine ⟨p.wl, us, _, rfl, rfl, sm _ _ hu, ?_, ?_⟩
        · rw [au.len]; exact Nat.lt_of_le_of_lt (Nat.le_trans gn.al hM) (by decide)
        have S3 := S2.setWait (as := n.asks ++ [⟨n.count + 1, m, n.clock⟩]) hp hn1 (All2.snoc (R := WaitV C H2) (au.imp fun x y z => z.imm (.of sm)) (x := .ref q) (y := (⟨n.count + 1, m, n.clock⟩ : Ask)) ⟨q, rfl, ⟨dx, hq⟩⟩)
        have hH3 := S3.same _ _ hh
        generalize hs3 : ({ ({ s with nodes := s.nodes.set i { n with up := n.up, clock := n.clock, last := n.last, count := n.count + 1 } } : State) with nodes := ({ s with nodes := s.nodes.set i { n with up := n.up, clock := n.clock, last := n.last, count := n.count + 1 } } : State).nodes.set i { ({ n with up := n.up, clock := n.clock, last := n.last, count := n.count + 1 } : Node) with asks := n.asks ++ [⟨n.count + 1, m, n.clock⟩] } } : State) = s3 at S3
        have e3 : s3 = Ag01.setNode s i { n with count := n.count + 1, asks := n.asks ++ [⟨n.count + 1, m, n.clock⟩] } := by
          rw [← hs3]
          unfold Ag01.setNode
          show ({ s with nodes := (s.nodes.set i _).set i _ } : State) = _
          rw [List.set_set]
        have hn3 : s3.nodes[i]? = some { n with count := n.count + 1, asks := n.asks ++ [⟨n.count + 1, m, n.clock⟩] } := by
          rw [e3]
          show (s.nodes.set i _)[i]? = _
          rw [List.getElem?_set_self c1]
        have N3 := S3.ns.get i p _ hp hn3
        have hl3 : s3.letters.length ≤ 100 := by rw [e3]; exact G.ll
        -- send_ask(world, handed[0], handed[1], node.asked)
        refine ⟨_, rfl, _, rfl, h, _, _, _, rfl, rfl, SqL.of hH3, rfl, _, rfl, h, _, _, _, rfl, rfl, SqL.of hH3, rfl, _, rfl, rd N3.ob T.node (i := 3) (by decide +kernel) rfl ?_⟩
        refine ⟨H0, L, s3, i, m, n.count + 1, rfl, S3, hl3, fun H4 S4 => ?_⟩
        have N4 := S4.ns.get i p _ hp hn3
        refine ⟨_, rfl, rd N4.ob T.node (i := 3) (by decide +kernel) rfl ⟨one_le, ret_on k S4 rfl (ans := [((n.count + 1 : Nat) : Int)]) ?_⟩⟩
        simp only [Ag01.step]
        rw [if_neg (by omega), node_of hn, if_neg (by rw [hup]; simp), e3]
    · rw [decide_eq_false c2]
      refine iteT ⟨by decide, ret_on k S rfl (ans := [-1]) ?_⟩
      simp only [Ag01.step]
      rw [if_pos (.inr (by omega))]
  · rw [decide_eq_false c1]
    refine iteT (iteT ⟨by decide, ret_on k S rfl (ans := [-1]) ?_⟩)
    simp only [Ag01.step]
    rw [if_pos (.inl (by omega))]
def spNewEvent (C : Cs) : Sp := fun vs H Q _ => ∃ (H0 : Hp) (L : Lay) (s : State), vs = [.ref L.w] ∧ St C H0 H L s ∧ ∀ H', St C H0 H' L { s with events := s.events + 1 } → Q (vN s.events) H'
theorem cal_new_event (F : Fn K mg "new_event" s_new_event) (T : Txt K mg C) : C8.Cal P w K mg base 1 "new_event" (spNewEvent C) [] := by
  refine cal_of F sc_new_event (fun _ _ _ _ _ _ us hl => match us, hl with | [_], _ => rfl) (fun vs H Q E ⟨_, _, _, e, _⟩ => by rw [e]; rfl) ?_
  rintro f cdv A outer s0 H vs Q E hr ⟨H0, L, s, rfl, S, k⟩
  obtain ⟨dx, hw⟩ := S.hw
  refine ⟨_, (pss_cons (ps_set (i := 1) sc_new_event.nd rfl (.inl rfl) (pe_fld (pv 0) rfl))
    (pss_cons (ps_fld (pv 0) (pe_op op_add (pv 1) pe_int) rfl)
    (pss_one (ps_ret (pv 1))))), ?_⟩
  refine ⟨_, rfl, rd S.hw T.world (i := 8) (by decide +kernel) rfl ?_⟩
  refine ⟨_, rfl, _, _, rfl, rfl, _, rfl, wr hw T.world (i := 8) (by decide +kernel) rfl (by decide) ?_⟩
  exact ⟨_, rfl, k _ (S.setWorld hw s.good s.wrong s.liars s.now (s.events + 1))⟩
theorem cal_take (F : Fn K mg "take" s_take) (T : Txt K mg C) (c_there : C8.Cal P w K mg base 1 "there" spThere []) (c_hand_over : C8.Cal P w K mg base 7 "hand_over" (spHand C (fun x => x.kind ≤ 1)) []) : C8.Cal P w K mg base 8 "take" (spOn C 7) [] := by
  refine cal_of F sc_take (fun _ _ _ _ _ _ us hl => match us, hl with | [_, _], _ => rfl) len_on ?_
  rintro f cdv A outer s0 H vs Q E hr ⟨H0, L, s, M, h, l, c, rfl, hc, S, hh, G, hM, k⟩
  obtain ⟨i, rfl, rfl⟩ := flat_7 hc
  have hH := S.same _ _ hh
  obtain ⟨us, hu, au⟩ := S.hll
  refine ⟨_, (pss_cons (ps_if (pt_not (pt_val (C8.pe_c c_there hr (by decide) rfl (pa_cons (pe_fld (pv 0) rfl) (pa_cons (pe_ix ix_list (pv 1) pe_int (fun _ _ => rfl)) pa_nil))))) (pss_one (ps_ret (pe_lst (pa_cons (pe_const rfl T.gNOT_FITTING) pa_nil)))) pss_nil)
    (pss_cons (ps_set (i := 2) sc_take.nd rfl (.inl rfl) (pe_bm PySem.F.plainAttrs_list PySem.F.slot_list_pop PySem.F.type_list_pop mt_popAt (pe_fld (pv 0) rfl) (pa_cons (pe_ix ix_list (pv 1) pe_int (fun _ _ => rfl)) pa_nil)))
    (pss_one (ps_ret (pe_lst (pa_cons (C8.pe_c c_hand_over hr (by decide) rfl (pa_cons (pv 0) (pa_cons (pv 2) pa_nil))) pa_nil)))))), ?_⟩
  refine ⟨_, rfl, rd S.hw T.world (i := 6) (by decide +kernel) rfl ⟨_, rfl, h, _, _, _, rfl, rfl, SqL.of hH, rfl, L.ll, _, i, s.letters.length, rfl, hu, au.len, _, rfl, ?_⟩⟩
  by_cases c1 : i < s.letters.length
  · rw [decide_eq_true c1]
    obtain ⟨x, hx⟩ : ∃ x, s.letters[i]? = some x := ⟨_, List.getElem?_eq_getElem c1⟩
    obtain ⟨v, hv, lv⟩ := au.left hx
    obtain ⟨a, sp, rfl, ho, hs⟩ := id lv
    have hlt : i < us.length := by rw [au.len]; exact c1
    have hsmall : (i : Int) < 2 ^ 63 := by
      have := G.ll
      have : (i : Int) < 1000 := by omega
      exact Int.lt_of_lt_of_le this (by decide)
    refine iteF ⟨_, rfl, rd S.hw T.world (i := 6) (by decide +kernel) rfl ⟨.inl ⟨rfl, _, SqL.of hu⟩, _, rfl, h, _, _, _, rfl, rfl, SqL.of hH, rfl, L.ll, us, _, i, _, rfl, rfl, hu, by omega, hsmall, seq_nat hlt, hv, ?_⟩⟩
    have S1 := S.setLetters (au.erase i)
    have im : Imm H (upd H L.ll (.lst (us.eraseIdx i))) := .upd hu rfl
    have gx := G.lets x (List.mem_of_getElem? hx)
    refine ⟨_, rfl, _, rfl, H0, L, _, M, a, x, rfl, S1, lv.imm im, G.erase i, hM, gx.2.1, gx.2.2, gx.1, fun H2 r er S2 => ?_⟩
    refine ⟨one_le, ret_on k S2 rfl (ans := [r]) ?_⟩
    simp only [Ag01.step]
    rw [hx]
    show (some (Ag01.hand { s with letters := s.letters.eraseIdx i } x).1, (Ag01.hand { s with letters := s.letters.eraseIdx i } x).2) = _
    rw [er]
  · rw [decide_eq_false c1]
    refine iteT ⟨by decide, ret_on k S rfl (ans := [-1]) ?_⟩
    simp only [Ag01.step]
    rw [List.getElem?_eq_none (by omega)]
theorem cal_keep (F : Fn K mg "keep" s_keep) (T : Txt K mg C) (c_there : C8.Cal P w K mg base 1 "there" spThere []) (c_hand_over : C8.Cal P w K mg base 7 "hand_over" (spHand C (fun x => x.kind ≤ 1)) []) : C8.Cal P w K mg base 8 "keep" (spOn C 8) [] := by
  refine cal_of F sc_keep (fun _ _ _ _ _ _ us hl => match us, hl with | [_, _], _ => rfl) len_on ?_
  rintro f cdv A outer s0 H vs Q E hr ⟨H0, L, s, M, h, l, c, rfl, hc, S, hh, G, hM, k⟩
  obtain ⟨i, rfl, rfl⟩ := flat_8 hc
  have hH := S.same _ _ hh
  obtain ⟨us, hu, au⟩ := S.hll
  refine ⟨_, (pss_cons (ps_if (pt_not (pt_val (C8.pe_c c_there hr (by decide) rfl (pa_cons (pe_fld (pv 0) rfl) (pa_cons (pe_ix ix_list (pv 1) pe_int (fun _ _ => rfl)) pa_nil))))) (pss_one (ps_ret (pe_lst (pa_cons (pe_const rfl T.gNOT_FITTING) pa_nil)))) pss_nil)
    (pss_one (ps_ret (pe_lst (pa_cons (C8.pe_c c_hand_over hr (by decide) rfl (pa_cons (pv 0) (pa_cons (pe_ix ix_list (pe_fld (pv 0) rfl) (pe_ix ix_list (pv 1) pe_int (fun _ _ => rfl)) (fun _ _ => rfl)) pa_nil))) pa_nil))))), ?_⟩
  refine ⟨_, rfl, rd S.hw T.world (i := 6) (by decide +kernel) rfl ⟨_, rfl, h, _, _, _, rfl, rfl, SqL.of hH, rfl, L.ll, _, i, s.letters.length, rfl, hu, au.len, _, rfl, ?_⟩⟩
  by_cases c1 : i < s.letters.length
  · rw [decide_eq_true c1]
    obtain ⟨x, hx⟩ : ∃ x, s.letters[i]? = some x := ⟨_, List.getElem?_eq_getElem c1⟩
    obtain ⟨v, hv, lv⟩ := au.left hx
    obtain ⟨a, sp, rfl, ho, hs⟩ := id lv
    have gx := G.lets x (List.mem_of_getElem? hx)
    refine iteF ⟨_, rfl, _, rfl, rd S.hw T.world (i := 6) (by decide +kernel) rfl ⟨_, rfl, h, _, _, _, rfl, rfl, SqL.of hH, rfl, L.ll, us, _, _, rfl, rfl, SqL.of hu, atI_nat hv, ?_⟩⟩
    refine ⟨H0, L, s, M, a, x, rfl, S, lv, G, hM, gx.2.1, gx.2.2, gx.1, fun H2 r er S2 => ?_⟩
    refine ⟨one_le, ret_on k S2 rfl (ans := [r]) ?_⟩
    simp only [Ag01.step]
    rw [hx]
    show (some (Ag01.hand s x).1, (Ag01.hand s x).2) = _
    rw [er]
  · rw [decide_eq_false c1]
    refine iteT ⟨by decide, ret_on k S rfl (ans := [-1]) ?_⟩
    simp only [Ag01.step]
    rw [List.getElem?_eq_none (by omega)]
theorem cal_give_stamp (F : Fn K mg "give_stamp" s_give_stamp) (T : Txt K mg C) (m_Stamp : C8.Mak P w K mg base 1 "Stamp" C.stamp (spInit C.stamp 3 nStamp (fun vs => vs ++ [.non])) []) (c_there : C8.Cal P w K mg base 1 "there" spThere [])
    (c_time_by : C8.Cal P w K mg base 5 "time_by" (spTimeBy C) []) (c_new_event : C8.Cal P w K mg base 1 "new_event" (spNewEvent C) []) : C8.Cal P w K mg base 6 "give_stamp" (spOn C 5) [] := by
  refine cal_of F sc_give_stamp (fun _ _ _ _ _ _ us hl => match us, hl with | [_, _], _ => rfl) len_on ?_
  rintro f cdv A outer s0 H vs Q E hr ⟨H0, L, s, M, h, l, c, rfl, hc, S, hh, G, hM, k⟩
  obtain ⟨i, rfl, rfl⟩ := flat_5 hc
  have hH := S.same _ _ hh
  refine ⟨_, (pss_cons (ps_if (pt_not (pt_val (C8.pe_c c_there hr (by decide) rfl (pa_cons (pe_fld (pv 0) rfl) (pa_cons (pe_ix ix_list (pv 1) pe_int (fun _ _ => rfl)) pa_nil))))) (pss_one (ps_ret (pe_lst (pa_cons (pe_const rfl T.gNOT_FITTING) pa_nil)))) pss_nil)
    (pss_cons (ps_set (i := 2) sc_give_stamp.nd rfl (.inl rfl) (pe_ix ix_list (pe_fld (pv 0) rfl) (pe_ix ix_list (pv 1) pe_int (fun _ _ => rfl)) (fun _ _ => rfl)))
    (pss_cons (ps_if (pt_not (pt_val (pe_fld (pv 2) rfl))) (pss_one (ps_ret (pe_lst (pa_cons (pe_const rfl T.gHAS_STOPPED) pa_nil)))) pss_nil)
    (pss_cons (ps_set (i := 3) sc_give_stamp.nd rfl (.inl rfl) (C8.pe_c c_time_by hr (by decide) rfl (pa_cons (pv 0) (pa_cons (pv 2) pa_nil))))
    (pss_cons (ps_if (pt_cmpR op_isN (pv 3) pe_non (nomark _)) (pss_one (ps_ret (pe_lst (pa_cons (pe_const rfl T.gTIME_UNKNOWN) pa_nil)))) pss_nil)
    (pss_cons (ps_fld (pv 2) (pe_callB (call_max2 rfl) (by rfl) T.max (by decide +kernel) (pa_cons (pe_fld (pv 3) rfl) (pa_cons (pe_op op_add (pe_fld (pv 2) rfl) pe_int) pa_nil))) rfl)
    (pss_cons (ps_expr (pe_bm PySem.F.plainAttrs_list PySem.F.slot_list_append PySem.F.type_list_append mt_append (pe_fld (pv 0) rfl) (pa_cons (C8.pe_mk m_Stamp hr (by decide) rfl (pa_cons (pe_ix ix_list (pv 1) pe_int (fun _ _ => rfl)) (pa_cons (pe_fld (pv 2) rfl) (pa_cons (C8.pe_c c_new_event hr (by decide) rfl (pa_cons (pv 0) pa_nil)) pa_nil)))) pa_nil)))
    (pss_one (ps_ret (pe_lst (pa_cons (pe_op op_sub (pe_callB call_len_seq (by rfl) T.len PySem.boot_len (pa_cons (pe_fld (pv 0) rfl) pa_nil)) pe_int) (pa_cons (pe_fld (pv 2) rfl) pa_nil)))))))))))), ?_⟩
  refine ⟨_, rfl, rd S.hw T.world (i := 5) (by decide +kernel) rfl ⟨_, rfl, h, _, _, _, rfl, rfl, SqL.of hH, rfl, L.nl, _, i, s.nodes.length, rfl, S.hnl, S.nlen, _, rfl, ?_⟩⟩
  by_cases c1 : i < s.nodes.length
  · rw [decide_eq_true c1]
    obtain ⟨n, hn⟩ : ∃ n, s.nodes[i]? = some n := ⟨_, List.getElem?_eq_getElem c1⟩
    obtain ⟨p, hp, N, hp'⟩ := S.node hn
    have gn : GNode s.masters.length M n := G.nodes n (List.mem_of_getElem? hn)
    refine iteF ⟨_, rfl, rd S.hw T.world (i := 5) (by decide +kernel) rfl ⟨_, rfl, h, _, _, _, rfl, rfl, SqL.of hH, rfl, L.nl, _, _, _, rfl, rfl, SqL.of S.hnl, atI_nat hp', ?_⟩⟩
    refine ⟨_, rfl, rd N.ob T.node (i := 0) (by decide +kernel) rfl ⟨_, rfl, ?_⟩⟩
    cases hup : n.up with
    | false =>
      refine iteT ⟨by decide, ret_on k S rfl (ans := [-3]) ?_⟩
      simp only [Ag01.step]
      rw [if_neg (by omega), node_of hn, if_pos hup]
    | true =>
      refine iteF ⟨_, rfl, _, rfl, H0, L, s, i, p, n, rfl, S, hp, hn, by rw [gn.kn]; exact G.m, gn.kt, G.w, fun et H1 sm => ?_, fun x et q H1 sm hq => ?_⟩
      · refine ⟨_, rfl, rfl, _, rfl, iteT ⟨by decide, ret_on k (S.more sm) rfl (ans := [-6]) ?_⟩⟩
        simp only [Ag01.step]
        rw [if_neg (by omega), node_of hn, if_neg (by rw [hup]; simp), et]
      · refine ⟨_, rfl, rfl, _, rfl, iteF ?_⟩
        have S1 := S.more sm
        have N1 := S1.ns.get i p n hp hn
        obtain ⟨dn, hob⟩ := N1.ob
        -- node.last_stamp = max(span.greatest, node.last_stamp + 1)
        refine ⟨_, rfl, rd hq T.span (i := 1) (by decide +kernel) rfl ⟨_, rfl, rd N1.ob T.node (i := 2) (by decide +kernel) rfl ⟨_, _, rfl, rfl, _, _, rfl, _, rfl, wr hob T.node (i := 2) (by decide +kernel) rfl (by decide) ?_⟩⟩⟩
        have ev : (if ((n.last : Int) + 1) > (x.2 : Int) then ((n.last : Int) + 1) else (x.2 : Int)) = ((max x.2 (n.last + 1) : Nat) : Int) := by
          split <;> omega
        rw [ev]
        have S2 := S1.setNode (dx := dn) hp hn n.up n.clock (max x.2 (n.last + 1)) n.count
        have hn2 : ({ s with nodes := s.nodes.set i { n with up := n.up, clock := n.clock, last := max x.2 (n.last + 1), count := n.count } } : State).nodes[i]? = some { n with last := max x.2 (n.last + 1) } := by
          show (s.nodes.set i _)[i]? = _
          rw [List.getElem?_set_self c1]
        have N2 := S2.ns.get i p _ hp hn2
        have hH2 := S2.same _ _ hh
        -- world.stamps.append(Stamp(handed[0], node.last_stamp, new_event(world)))
        refine ⟨_, rfl, rd S2.hw T.world (i := 7) (by decide +kernel) rfl ⟨.inl ⟨rfl, _, SqL.of S2.hsl⟩, _, rfl, h, _, _, _, rfl, rfl, SqL.of hH2, rfl, _, rfl, rd N2.ob T.node (i := 2) (by decide +kernel) rfl ⟨_, rfl, H0, L, _, rfl, S2, fun H3 S3 => (fun a dx na nd _ => ⟨a, dx, _, rfl, rfl, upd_same, fun H4 ha kk => ⟨rfl, ?_⟩⟩)⟩⟩⟩
        have sm4 := made_same na nd kk
        have S4 := S3.more sm4
        have ha0 : L.ow a = none := by
          cases e : L.ow a with
          | none => rfl
          | some r =>
            obtain ⟨o, eo⟩ := S3.trk a r e
            rw [na] at eo
            cases eo
        have S5 := S4.addStamp (x := ⟨i, max x.2 (n.last + 1), s.events, none⟩) (S3.same.free na) ha0 ⟨dx, ha⟩
        refine ⟨L.sl, _, _, rfl, rfl, S4.hsl, ?_, ?_⟩
        · rw [S4.slen]; exact Nat.lt_of_le_of_lt (Nat.le_trans G.sl hM) (by decide)
        have hp5 : (L.addStamp a).ns[i]? = some p := hp
        have N5 := S5.ns.get i p _ hp5 hn2
        refine ⟨_, rfl, rd S5.hw T.world (i := 7) (by decide +kernel) rfl ⟨L.sl, _, rfl, .inl (SqL.of S5.hsl), _, _, rfl, rfl, _, rfl, rd N5.ob T.node (i := 2) (by decide +kernel) rfl ⟨two_le, ?_⟩⟩⟩
        have el : ((((L.ss ++ [a]).map V.ref).length : Nat) : Int) - 1 = (s.stamps.length : Int) := by
          have := S.ss.len
          rw [List.length_map, List.length_append, List.length_singleton]
          omega
        show ∀ p, _ → Q (.ref p) (upd _ p (.lst [.int (((((L.ss ++ [a]).map V.ref).length : Nat) : Int) - 1), .int _]))
        rw [el]
        refine ret_on k S5 rfl (ans := [(s.stamps.length : Int), ((max x.2 (n.last + 1) : Nat) : Int)]) ?_
        simp only [Ag01.step]
        rw [if_neg (by omega), node_of hn, if_neg (by rw [hup]; simp), et]
        rfl
  · rw [decide_eq_false c1]
    refine iteT ⟨by decide, ret_on k S rfl (ans := [-1]) ?_⟩
    simp only [Ag01.step]
    rw [if_pos (by omega)]
theorem cal_settle (F : Fn K mg "settle" s_settle) (T : Txt K mg C) (c_there : C8.Cal P w K mg base 1 "there" spThere [])
    (c_time_by : C8.Cal P w K mg base 5 "time_by" (spTimeBy C) []) (c_new_event : C8.Cal P w K mg base 1 "new_event" (spNewEvent C) []) : C8.Cal P w K mg base 6 "settle" (spOn C 6) [] := by
  refine cal_of F sc_settle (fun _ _ _ _ _ _ us hl => match us, hl with | [_, _], _ => rfl) len_on ?_
  rintro f cdv A outer s0 H vs Q E hr ⟨H0, L, s, M, h, l, c, rfl, hc, S, hh, G, hM, k⟩
  obtain ⟨j, rfl, rfl⟩ := flat_6 hc
  have hH := S.same _ _ hh
  refine ⟨_, (pss_cons (ps_if (pt_not (pt_val (C8.pe_c c_there hr (by decide) rfl (pa_cons (pe_fld (pv 0) rfl) (pa_cons (pe_ix ix_list (pv 1) pe_int (fun _ _ => rfl)) pa_nil))))) (pss_one (ps_ret (pe_lst (pa_cons (pe_const rfl T.gNOT_FITTING) pa_nil)))) pss_nil)
    (pss_cons (ps_set (i := 2) sc_settle.nd rfl (.inl rfl) (pe_ix ix_list (pe_fld (pv 0) rfl) (pe_ix ix_list (pv 1) pe_int (fun _ _ => rfl)) (fun _ _ => rfl)))
    (pss_cons (ps_set (i := 3) sc_settle.nd rfl (.inl rfl) (pe_ix ix_list (pe_fld (pv 0) rfl) (pe_fld (pv 2) rfl) (fun _ _ => rfl)))
    (pss_cons (ps_if (pt_not (pt_val (pe_fld (pv 3) rfl))) (pss_one (ps_ret (pe_lst (pa_cons (pe_const rfl T.gHAS_STOPPED) pa_nil)))) pss_nil)
    (pss_cons (ps_if (pt_cmpR op_notN (pe_fld (pv 2) rfl) pe_non (nomark _)) (pss_one (ps_ret (pe_lst (pa_cons (pe_const rfl T.gSO_ALREADY) pa_nil)))) pss_nil)
    (pss_cons (ps_set (i := 4) sc_settle.nd rfl (.inl rfl) (C8.pe_c c_time_by hr (by decide) rfl (pa_cons (pv 0) (pa_cons (pv 3) pa_nil))))
    (pss_cons (ps_if (pt_cmpR op_isN (pv 4) pe_non (nomark _)) (pss_one (ps_ret (pe_lst (pa_cons (pe_const rfl T.gTIME_UNKNOWN) pa_nil)))) pss_nil)
    (pss_cons (ps_if (pt_cmpR op_le (pe_fld (pv 4) rfl) (pe_fld (pv 2) rfl) (nomark _)) (pss_one (ps_ret (pe_lst (pa_cons (pe_const rfl T.gNOT_YET_PAST) pa_nil)))) pss_nil)
    (pss_cons (ps_fld (pv 2) (C8.pe_c c_new_event hr (by decide) rfl (pa_cons (pv 0) pa_nil)) rfl)
    (pss_one (ps_ret (pe_lst (pa_cons (pe_fld (pv 2) rfl) pa_nil))))))))))))), ?_⟩
  refine ⟨_, rfl, rd S.hw T.world (i := 7) (by decide +kernel) rfl ⟨_, rfl, h, _, _, _, rfl, rfl, SqL.of hH, rfl, L.sl, _, j, s.stamps.length, rfl, S.hsl, S.slen, _, rfl, ?_⟩⟩
  by_cases c1 : j < s.stamps.length
  · rw [decide_eq_true c1]
    obtain ⟨x, hx⟩ : ∃ x, s.stamps[j]? = some x := ⟨_, List.getElem?_eq_getElem c1⟩
    obtain ⟨sa, hsa, hst⟩ := S.ss.left hx
    have hsa' : (L.ss.map V.ref)[j]? = some (.ref sa) := by rw [List.getElem?_map, hsa]; rfl
    have hxn := G.st x (List.mem_of_getElem? hx)
    obtain ⟨n, hn⟩ : ∃ n, s.nodes[x.node]? = some n := ⟨_, List.getElem?_eq_getElem hxn⟩
    obtain ⟨p, hp, N, hp'⟩ := S.node hn
    have gn : GNode s.masters.length M n := G.nodes n (List.mem_of_getElem? hn)
    refine iteF ⟨_, rfl, rd S.hw T.world (i := 7) (by decide +kernel) rfl ⟨_, rfl, h, _, _, _, rfl, rfl, SqL.of hH, rfl, L.sl, _, _, _, rfl, rfl, SqL.of S.hsl, atI_nat hsa', ?_⟩⟩
    refine ⟨_, rfl, rd S.hw T.world (i := 5) (by decide +kernel) rfl ⟨_, rfl, rd hst T.stamp (i := 0) (by decide +kernel) rfl ⟨L.nl, _, _, _, rfl, rfl, SqL.of S.hnl, atI_nat hp', ?_⟩⟩⟩
    refine ⟨_, rfl, rd N.ob T.node (i := 0) (by decide +kernel) rfl ⟨_, rfl, ?_⟩⟩
    cases hup : n.up with
    | false =>
      refine iteT ⟨by decide, ret_on k S rfl (ans := [-3]) ?_⟩
      simp only [Ag01.step]
      rw [hx]
      dsimp only
      rw [node_of hn, if_pos hup]
    | true =>
      refine iteF ⟨_, rfl, rd hst T.stamp (i := 3) (by decide +kernel) rfl ⟨rfl, _, rfl, ?_⟩⟩
      cases hend : x.ended with
      | some e =>
        refine iteT ⟨by decide, ret_on k S rfl (ans := [-2]) ?_⟩
        simp only [Ag01.step]
        rw [hx]
        dsimp only
        rw [node_of hn, if_neg (by rw [hup]; simp), if_pos (by rw [hend]; rfl)]
      | none =>
        refine iteF ⟨_, rfl, _, rfl, H0, L, s, x.node, p, n, rfl, S, hp, hn, by rw [gn.kn]; exact G.m, gn.kt, G.w, fun et H1 sm => ?_, fun t et q H1 sm hq => ?_⟩
        · refine ⟨_, rfl, rfl, _, rfl, iteT ⟨by decide, ret_on k (S.more sm) rfl (ans := [-6]) ?_⟩⟩
          simp only [Ag01.step]
          rw [hx]
          dsimp only
          rw [node_of hn, if_neg (by rw [hup]; simp), if_neg (by rw [hend]; simp), et]
        · have S1 := S.more sm
          have hst1 := Hc.Same.obj sm hst
          refine ⟨_, rfl, rfl, _, rfl, iteF ⟨_, rfl, rd hq T.span (i := 0) (by decide +kernel) rfl ⟨_, rfl, rd hst1 T.stamp (i := 1) (by decide +kernel) rfl ⟨_, _, rfl, rfl, _, rfl, ?_⟩⟩⟩⟩
          by_cases c2 : t.1 ≤ x.value
          · rw [decide_eq_true (by omega)]
            refine iteT ⟨by decide, ret_on k S1 rfl (ans := [-7]) ?_⟩
            simp only [Ag01.step]
            rw [hx]
            dsimp only
            rw [node_of hn, if_neg (by rw [hup]; simp), if_neg (by rw [hend]; simp), et]
            dsimp only
            rw [if_pos c2]
          · rw [decide_eq_false (by omega)]
            refine iteF ⟨_, rfl, H0, L, s, rfl, S1, fun H2 S2 => ?_⟩
            obtain ⟨dst, hst2⟩ := S2.ss.get j sa x hsa hx
            refine ⟨_, rfl, wr hst2 T.stamp (i := 3) (by decide +kernel) rfl (by decide) ?_⟩
            have S3 := S2.setStamp (dx := dst) hsa hst2 (imm_obj rfl im_stamp) { x with ended := some s.events }
            have hx3 : ({ s with events := s.events + 1, stamps := s.stamps.set j { x with ended := some s.events } } : State).stamps[j]? = some { x with ended := some s.events } := by
              show (s.stamps.set j _)[j]? = _
              rw [List.getElem?_set_self c1]
            have hst3 := S3.ss.get j sa _ hsa hx3
            refine ⟨_, rfl, rd hst3 T.stamp (i := 1) (by decide +kernel) rfl ⟨one_le, ret_on k S3 rfl (ans := [(x.value : Int)]) ?_⟩⟩
            simp only [Ag01.step]
            rw [hx]
            dsimp only
            rw [node_of hn, if_neg (by rw [hup]; simp), if_neg (by rw [hend]; simp), et]
            dsimp only
            rw [if_neg c2]
  · rw [decide_eq_false c1]
    refine iteT ⟨by decide, ret_on k S rfl (ans := [-1]) ?_⟩
    simp only [Ag01.step]
    rw [List.getElem?_eq_none (by omega)]
end
end Hc
set_option Elab.async false
set_option maxRecDepth 100000
set_option maxHeartbeats 2000000
/-! The calls on a world: pass. -/
namespace Hc
open PySem PySem.Spec PyProof.Rows L2
open Ag01 (Span Master Ask Node Letter Stamp State Call)
theorem flat_1 {c : Call} {l : List Nat} (h : flat c = (1, l)) : ∃ d a, c = .pass d a ∧ l = d :: a.length :: a := by
  cases c <;> simp [flat] at h
  exact ⟨_, _, rfl, h.symm⟩
/-- xs[a:b] -/
theorem cutV_nat (xs : List V) (a b : Nat) : cutV xs (some (a : Int)) (some (b : Int)) = (xs.drop a).take (b - a) := by
  unfold cutV
  rw [HT.sIx_nat, HT.sIx_nat]
  by_cases c : a ≤ xs.length
  · rw [Nat.min_eq_left c]
    by_cases d : b ≤ xs.length
    · rw [Nat.min_eq_left d]
    · rw [Nat.min_eq_right (by omega), List.take_of_length_le (by rw [List.length_drop]; omega), List.take_of_length_le (by rw [List.length_drop]; omega)]
  · rw [List.drop_eq_nil_of_le (by omega : xs.length ≤ a), List.drop_eq_nil_of_le (by omega), List.take_nil, List.take_nil]
theorem cutV_from (xs : List V) (a : Nat) : cutV xs (some (a : Int)) none = xs.drop a := by
  unfold cutV
  rw [HT.sIx_nat, HT.sIx_none]
  by_cases c : a ≤ xs.length
  · rw [Nat.min_eq_left c, List.take_of_length_le (by rw [List.length_drop]; exact Nat.le_refl _)]
  · rw [List.drop_eq_nil_of_le (by omega : xs.length ≤ a), List.drop_eq_nil_of_le (by omega), List.take_nil]
/-- the first j clocks have gone on -/
def advN (l : List Nat) (j : Nat) (ns : List Node) : List Node := ns.zipIdx.map fun (x : Node × Nat) => if x.2 < j then { x.1 with clock := x.1.clock + l.getD x.2 0 } else x.1
theorem advN_get (l : List Nat) (j : Nat) (ns : List Node) (i : Nat) : (advN l j ns)[i]? = ns[i]?.map fun n => if i < j then { n with clock := n.clock + l.getD i 0 } else n := by
  unfold advN
  rw [List.getElem?_map, List.getElem?_zipIdx]
  cases ns[i]? with
  | none => rfl
  | some n => simp
theorem advN_zero (l : List Nat) (ns : List Node) : advN l 0 ns = ns := by
  refine List.ext_getElem? fun i => ?_
  rw [advN_get]
  cases ns[i]? with
  | none => rfl
  | some n => simp
theorem advN_all (l : List Nat) (ns : List Node) {j : Nat} (h : ns.length ≤ j) : advN l j ns = ns.zipIdx.map fun (x : Node × Nat) => { x.1 with clock := x.1.clock + l.getD x.2 0 } := by
  refine List.ext_getElem? fun i => ?_
  rw [advN_get, List.getElem?_map, List.getElem?_zipIdx]
  cases e : ns[i]? with
  | none => rfl
  | some n =>
    have : i < ns.length := (List.getElem?_eq_some_iff.mp e).1
    simp [show i < j by omega]
theorem advN_succ (l : List Nat) (ns : List Node) {j a : Nat} {n : Node} (h : ns[j]? = some n) (ha : l[j]? = some a) : advN l (j + 1) ns = (advN l j ns).set j { n with clock := n.clock + a } := by
  have hj : j < ns.length := (List.getElem?_eq_some_iff.mp h).1
  have hl : (advN l j ns).length = ns.length := by unfold advN; rw [List.length_map, List.length_zipIdx]
  refine List.ext_getElem? fun i => ?_
  by_cases e : j = i
  · subst e
    rw [List.getElem?_set_self (by rw [hl]; exact hj), advN_get, h]
    have : l.getD j 0 = a := by rw [List.getD_eq_getElem?_getD, ha]; rfl
    simp only [Option.map_some, Nat.lt_succ_self, if_true, this]
  · rw [List.getElem?_set_ne e, advN_get, advN_get]
    cases ns[i]? with
    | none => rfl
    | some n =>
      by_cases c : i < j
      · simp [c, show i < j + 1 by omega]
      · simp [c, show ¬ i < j + 1 by omega]
section
variable {P : Program} {w : World} {K : PySem.W.Frag} {mg : Str → Option Value} {base : Heap} {C : Cs}
def spGoesRight (C : Cs) : Sp := fun vs H Q _ => ∃ (H0 : Hp) (L : Lay) (s : State) (d a : Nat), vs = [.ref L.w, vN d, vN a] ∧ St C H0 H L s ∧ s.wrong ≤ 200 ∧ d ≤ 1000 ∧ Q (.bl (Ag01.fair s.wrong d a)) H
theorem cal_goes_right (F : Fn K mg "goes_right" s_goes_right) (T : Txt K mg C) : C8.Cal P w K mg base 1 "goes_right" (spGoesRight C) [] := by
  refine cal_of F sc_goes_right (fun _ _ _ _ _ _ us hl => match us, hl with | [_, _, _], _ => rfl) (fun vs H Q E ⟨_, _, _, _, _, e, _⟩ => by rw [e]; rfl) ?_
  rintro f cdv A outer s0 H vs Q E hr ⟨H0, L, s, d, a, rfl, S, hw, hd, k⟩
  refine ⟨_, (pss_one (ps_ret (pe_chain op_le op_le (pe_op op_mul (pv 1) (pe_op op_sub pe_int (pe_fld (pv 0) rfl))) (pe_op op_mul pe_int (pv 2)) (pe_op op_mul (pv 1) (pe_op op_add pe_int (pe_fld (pv 0) rfl)))))), ?_⟩
  refine ⟨_, rfl, _, rfl, rd S.hw T.world (i := 1) (by decide +kernel) rfl ⟨_, _, rfl, rfl, _, _, rfl, rfl, .inl ⟨by omega, by omega⟩, _, rfl, _, _, rfl, rfl, .inl ⟨by decide, by decide⟩, _, _, rfl, rfl, _, rfl, ?_⟩⟩
  have e1 : (d : Int) * (1000 - (s.wrong : Int)) = ((d * (1000 - s.wrong) : Nat) : Int) := by
    rw [show (1000 : Int) - (s.wrong : Int) = ((1000 - s.wrong : Nat) : Int) by omega]
    exact (Int.natCast_mul _ _).symm
  have e2 : (d : Int) * (1000 + (s.wrong : Int)) = ((d * (1000 + s.wrong) : Nat) : Int) := by
    rw [show (1000 : Int) + (s.wrong : Int) = ((1000 + s.wrong : Nat) : Int) by omega]
    exact (Int.natCast_mul _ _).symm
  dsimp only
  rw [e1]
  unfold Ag01.fair at k
  generalize d * (1000 - s.wrong) = x at k ⊢
  by_cases c1 : x ≤ 1000 * a
  · rw [decide_eq_true (by omega)]
    rw [decide_eq_true c1, Bool.true_and] at k
    refine iteT ⟨_, rfl, _, rfl, rd S.hw T.world (i := 1) (by decide +kernel) rfl ⟨_, _, rfl, rfl, _, _, rfl, rfl, .inl ⟨by omega, by omega⟩, _, _, rfl, rfl, ?_⟩⟩
    dsimp only
    rw [e2]
    generalize d * (1000 + s.wrong) = y at k ⊢
    have e3 : decide (1000 * (a : Int) ≤ (y : Int)) = decide (1000 * a ≤ y) := by
      by_cases c2 : 1000 * a ≤ y
      · rw [decide_eq_true c2, decide_eq_true (by omega)]
      · rw [decide_eq_false c2, decide_eq_false (by omega)]
    rw [e3]
    exact k
  · rw [decide_eq_false (by omega)]
    rw [decide_eq_false c1, Bool.false_and] at k
    exact iteF k
theorem cal_pass_time (F : Fn K mg "pass_time" s_pass_time) (T : Txt K mg C) (c_goes_right : C8.Cal P w K mg base 1 "goes_right" (spGoesRight C) []) : C8.Cal P w K mg base 2 "pass_time" (spOn C 1) [] := by
  refine cal_of F sc_pass_time (fun _ _ _ _ _ _ us hl => match us, hl with | [_, _], _ => rfl) len_on ?_
  rintro f cdv A outer s0 H vs Q E hr ⟨H0, L, s, M, h, l', c, rfl, hc, S, hh, G, hM, k⟩
  obtain ⟨d, l, rfl, rfl⟩ := flat_1 hc
  have hH := S.same _ _ hh
  refine ⟨_, (pss_cons (ps_set (i := 2) sc_pass_time.nd rfl (.inr rfl) (pe_ix ix_list (pv 1) pe_int (fun _ _ => rfl)))
    (pss_cons (ps_set (i := 3) sc_pass_time.nd rfl (.inl rfl) (pe_slice sl_list (pv 1) (po_some pe_int) po_none))
    (pss_cons (ps_if (PW.pt (pw_or (pt_cmpR op_gt (pv 2) pe_int (nomark _)) (pw_or1 (pt_cmpR op_ne (pe_callB call_len_seq (by rfl) T.len PySem.boot_len (pa_cons (pv 3) pa_nil)) (pe_callB call_len_seq (by rfl) T.len PySem.boot_len (pa_cons (pe_fld (pv 0) rfl) pa_nil)) (nomark _))))) (pss_one (ps_ret (pe_lst (pa_cons (pe_const rfl T.gNOT_FITTING) pa_nil)))) pss_nil)
    (pss_cons (ps_if (pt_not (pt_val (pe_callB (cr_all rfl) (by rfl) T.all (by decide +kernel) (pa_cons (pe_lc (own := [("step", 4)]) (g := gName 4) (tt := tYes) (te := (tCall (spGoesRight C) [] _ (tCons (tVar 0) (tCons (tVar 2) (tCons (tVar 4) tNil))))) rfl sc_pass_time.nd (pi_list (pv 3)) (blkOk_by (own := [("step", 4)]) (N := ["world", "handed", "d", "steps", "step", "node"]) (sc := defScope s_pass_time) (by decide +kernel)) (fun _ _ _ _ _ => (pg_name (i := 4) sc_pass_time.nd rfl (.inl rfl))) (fun _ _ _ _ _ => pts_nil) (fun _ _ _ _ _ => (C8.pe_c c_goes_right hr (by decide) rfl (pa_cons (pv 0) (pa_cons (pv 2) (pa_cons (pv 4) pa_nil)))))) pa_nil)))) (pss_one (ps_ret (pe_lst (pa_cons (pe_const rfl T.gNOT_FITTING) pa_nil)))) pss_nil)
    (pss_cons (ps_fld (pv 0) (pe_op op_add (pe_fld (pv 0) rfl) (pv 2)) rfl)
    (pss_cons (ps_for PassesOwn.never rfl (pi_zip (by rfl) T.zip (pa_cons (pe_fld (pv 0) rfl) (pa_cons (pv 3) pa_nil))) (pg_tup rfl (pgs_cons (pg_name (i := 5) sc_pass_time.nd rfl (.inl rfl)) (pgs_cons (pg_name (i := 4) sc_pass_time.nd rfl (.inl rfl)) pgs_nil))) (pss_one (ps_fld (pv 5) (pe_op op_add (pe_fld (pv 5) rfl) (pv 4)) rfl)))
    (pss_one (ps_ret (pe_lst (pa_cons (pe_fld (pv 0) rfl) pa_nil)))))))))), ?_⟩
  refine ⟨_, rfl, h, _, _, _, rfl, rfl, SqL.of hH, atI_nat (j := 0) rfl, ?_⟩
  -- steps = handed[2:]
  refine ⟨_, rfl, ⟨_, rfl, h, _, rfl, SqL.of hH, fun q hq => ?_⟩⟩
  have ecut : cutV ((d :: l.length :: l).map vN) (some 2) none = l.map vN := cutV_from _ 2
  rw [ecut]
  have sm0 : Same H (upd H q (.lst (l.map vN))) := Hc.Same.upd hq
  have S1 := S.more sm0
  have hq1 : (upd H q (.lst (l.map vN))) q = some (.lst (l.map vN)) := upd_same
  generalize upd H q (.lst (l.map vN)) = H1 at sm0 S1 hq1 ⊢
  have bad : ∀ (H2 : Hp), St C H0 H2 L s → (1000 < d ∨ (l.length ≠ s.nodes.length ∨ l.all (Ag01.fair s.wrong d) = false)) → ∀ p, H2 p = none → Q (.ref p) (upd H2 p (.lst [.int (-1)])) := fun H2 S2 c => ret_on k S2 rfl (ans := [-1]) (by
    simp only [Ag01.step]
    rw [if_pos c])
  refine ⟨_, rfl, _, _, rfl, rfl, _, rfl, ?_⟩
  by_cases c1 : 1000 < d
  · rw [decide_eq_true (by omega)]
    exact iteT (iteT ⟨by decide, bad H1 S1 (.inl c1)⟩)
  rw [decide_eq_false (by omega)]
  refine iteF ⟨_, rfl, q, _, rfl, .inl (SqL.of hq1), _, rfl, rd S1.hw T.world (i := 5) (by decide +kernel) rfl ⟨L.nl, _, rfl, .inl (SqL.of S1.hnl), rfl, _, rfl, ?_⟩⟩
  rw [S1.nlen, List.length_map]
  by_cases c2 : l.length = s.nodes.length
  case neg =>
    rw [decide_eq_false (fun z => c2 (by injection z with z; omega))]
    exact iteT ⟨by decide, bad H1 S1 (.inr (.inl c2))⟩
  rw [decide_eq_true (by rw [c2])]
  refine iteF ?_
  have hl3 : l.length ≤ 3 := by rw [c2]; exact G.n
  -- if not all([goes_right(world, d, step) for step in steps])
  refine ⟨_, rfl, q, rfl, ⟨_, SqL.of hq1⟩, fun D hD => lc_list (K := K) (a := q) (xs := l.map vN) (fun j H' => Same H1 H' ∧ H' D = some (.lst ((l.take j).map fun a => V.bl (Ag01.fair s.wrong d a))))
    ⟨Hc.Same.upd hD, upd_same⟩ (fun i H' _ ⟨z, _⟩ => SqL.of (z _ _ hq1)) ?_ ?_⟩
  · rintro j v H2 hj ⟨sm, hacc⟩
    rw [List.getElem?_map] at hj
    cases ej : l[j]? with
    | none => rw [ej] at hj; cases hj
    | some a =>
      rw [ej] at hj
      injection hj with hj
      subst hj
      refine ⟨rfl, ?_⟩
      unfold tYes
      dsimp only
      refine iteT ⟨_, rfl, _, rfl, _, rfl, H0, L, s, d, a, rfl, S1.more sm, G.w, by omega, _, hacc, ?_, fun c' o e => ?_, ?_⟩
      · rw [List.length_map, List.length_take]
        exact Nat.lt_of_le_of_lt (Nat.le_trans (Nat.min_le_right _ _) hl3) (by decide)
      · rw [upd_ne (ne_of_none e hD)]; exact sm _ _ e
      · rw [upd_same, List.take_add_one, ej, List.map_append]; rfl
  rintro H2 ⟨sm2, hD2⟩
  rw [List.length_map, List.take_length] at hD2
  have hD2' : H2 D = some (.lst ((l.map (Ag01.fair s.wrong d)).map V.bl)) := by
    rw [List.map_map]; exact hD2
  have S2 := S1.more sm2
  have hq2 := sm2 _ _ hq1
  refine ⟨D, _, rfl, SqL.of hD2', _, rfl, ?_⟩
  have eall : (l.map (Ag01.fair s.wrong d)).all id = l.all (Ag01.fair s.wrong d) := by rw [List.all_map]; rfl
  rw [eall]
  cases c3 : l.all (Ag01.fair s.wrong d) with
  | false => exact iteT ⟨by decide, bad H2 S2 (.inr (.inr c3))⟩
  | true =>
    obtain ⟨dw, hw⟩ := S2.hw
    -- world.true_time = world.true_time + d
    refine iteF ⟨_, rfl, rd S2.hw T.world (i := 3) (by decide +kernel) rfl ⟨_, rfl, _, _, rfl, rfl, _, rfl, wr hw T.world (i := 3) (by decide +kernel) rfl (by decide) ?_⟩⟩
    have S3 := S2.setWorld hw s.good s.wrong s.liars (s.now + d) s.events
    have hq3 : (upd H2 L.w (.ins C.world dw (nWorld.zip (vWorld L { s with now := s.now + d })))) q = some (.lst (l.map vN)) := by
      rw [upd_ne (ne_of hq2 hw (by intro z; cases z))]; exact hq2
    have e3 : (upd H2 L.w (.ins C.world dw (nWorld.zip ((vWorld L s).set 3 (.int ((s.now : Int) + (d : Int))))))) = upd H2 L.w (.ins C.world dw (nWorld.zip (vWorld L { s with now := s.now + d }))) := rfl
    dsimp only
    rw [e3]
    have S3 : St C H0 (upd H2 L.w (.ins C.world dw (nWorld.zip (vWorld L { s with now := s.now + d })))) L { s with now := s.now + d } := S3
    generalize upd H2 L.w (.ins C.world dw (nWorld.zip (vWorld L { s with now := s.now + d }))) = H3 at S3 hq3 ⊢
    -- for node, step in zip(world.nodes, steps)
    refine ⟨_, rfl, rd S3.hw T.world (i := 5) (by decide +kernel) rfl ⟨_, rfl, L.nl, q, _, _, rfl, SqL.of S3.hnl, SqL.of hq3, for_it (walk_zip (K := K) (a := L.nl) (b := q) (xs := L.ns.map fun p => V.ref p.a) (ys := l.map vN) (n := l.length) (by rw [S3.nlen, List.length_map, c2]; exact (Nat.min_self _).symm))
      (fun j σ H' => ∃ v4 v5, σ = [some (.ref L.w), some (.ref h), some (vN d), some (.ref q), v4, v5] ∧ H' q = some (.lst (l.map vN)) ∧ St C H0 H' L { s with now := s.now + d, nodes := advN l j s.nodes })
      ⟨none, none, rfl, hq3, by rw [advN_zero]; exact S3⟩ (fun j σ H' _ ⟨_, _, _, z, S'⟩ => ⟨SqL.of S'.hnl, SqL.of z⟩) ?_ ?_⟩⟩
    · rintro j v σ H4 H5 hj ⟨v4, v5, rfl, hq4, S4⟩ ⟨t, x1, x2, rfl, ht, rfl, e1, e2⟩
      have hjn : j < s.nodes.length := by omega
      obtain ⟨n, hn⟩ : ∃ n, s.nodes[j]? = some n := ⟨_, List.getElem?_eq_getElem hjn⟩
      obtain ⟨a, ha⟩ : ∃ a, l[j]? = some a := ⟨_, List.getElem?_eq_getElem hj⟩
      have hn4 : ({ s with now := s.now + d, nodes := advN l j s.nodes } : State).nodes[j]? = some n := by
        show (advN l j s.nodes)[j]? = _
        rw [advN_get, hn]
        simp
      obtain ⟨p, hp, N4, hp'⟩ := S4.node hn4
      dsimp only at e1 e2
      rw [hp'] at e1
      injection e1 with e1
      subst e1
      rw [List.getElem?_map, ha] at e2
      injection e2 with e2
      subst e2
      have sm5 : Same H4 (upd H4 t (.tup [.ref p.a, vN a])) := Hc.Same.upd ht
      have S5 := S4.more sm5
      have hq5 := sm5 _ _ hq4
      have N5 := S5.ns.get j p n hp hn4
      refine ⟨t, _, rfl, SqT.of upd_same, rfl, _, _, rfl, _, _, rfl, rfl, ?_⟩
      generalize upd H4 t (.tup [.ref p.a, vN a]) = H5 at S5 hq5 N5 ⊢
      obtain ⟨dn, hob⟩ := N5.ob
      refine ⟨_, rfl, rd N5.ob T.node (i := 1) (by decide +kernel) rfl ⟨_, rfl, _, _, rfl, rfl, _, rfl, wr hob T.node (i := 1) (by decide +kernel) rfl (by decide) ?_⟩⟩
      refine ⟨_, _, rfl, ?_, ?_⟩
      · rw [upd_ne (ne_of hq5 hob (by intro z; cases z))]; exact hq5
      · rw [advN_succ l s.nodes hn ha]
        exact S5.setNode (dx := dn) hp hn4 n.up (n.clock + a) n.last n.count
    · rintro σ H6 ⟨v4, v5, rfl, hq6, S6⟩
      rw [advN_all l s.nodes (by omega)] at S6
      refine ⟨_, rfl, rd S6.hw T.world (i := 3) (by decide +kernel) rfl ⟨one_le, ret_on k S6 rfl (ans := [((s.now + d : Nat) : Int)]) ?_⟩⟩
      simp only [Ag01.step]
      rw [if_neg]
      intro z
      rcases z with z | z | z
      · exact c1 z
      · exact z c2
      · rw [c3] at z; cases z
end
end Hc
set_option Elab.async false
set_option maxRecDepth 100000
set_option maxHeartbeats 4000000
/-! A world as at first; begin. -/
namespace Hc
open PySem PySem.Spec PyProof.Rows L2
open Ag01 (Span Master Ask Node Letter Stamp State Call)
def first (g w f m n : Nat) : State := ⟨g, w, f, 2 * g, List.replicate m ⟨g, none, false⟩, List.replicate n ⟨true, 0, 0, 0, [], List.replicate m none⟩, [], [], 0⟩
theorem rep_non (m : Nat) : (List.replicate (m : Int).toNat [V.non]).flatten = List.replicate m V.non := by
  show (List.replicate m [V.non]).flatten = _
  induction m with
  | zero => rfl
  | succ m ih => rw [List.replicate_succ, List.flatten_cons, ih]; rfl
section
variable {P : Program} {w : World} {K : PySem.W.Frag} {mg : Str → Option Value} {base : Heap} {C : Cs}
def spNode (C : Cs) : Sp := fun vs H Q _ => ∃ (p dx : Addr) (m : Nat), vs = [.ref p, vN m] ∧ m ≤ 5 ∧ H p = some (.ins C.node dx []) ∧
  ∀ (H' : Hp) (wl kl : Addr), H' p = some (.ins C.node dx (nNode.zip [.bl true, vN 0, vN 0, vN 0, .ref wl, .ref kl])) → H wl = none → H kl = none → wl ≠ kl → H' wl = some (.lst []) → H' kl = some (.lst (List.replicate m .non)) → (∀ b o, H b = some o → b ≠ p → H' b = some o) → Q .non H'
theorem mk_Node (F : Cl K mg "Node" "Node.__init__" s_Node C.node) (T : Txt K mg C) : C8.Mak P w K mg base 1 "Node" C.node (spNode C) [] := by
  refine mak_of F sc_Node (fun _ _ _ _ _ _ us hl => match us, hl with | [_, _], _ => rfl) (fun vs H Q E ⟨_, _, _, e, _⟩ => by rw [e]; rfl) ?_
  rintro f cdv A outer s H vs Q E hr ⟨p, dx, m, rfl, hm, hp, k⟩
  refine ⟨_, (pss_cons (ps_fld (pv 0) pe_bl rfl)
    (pss_cons (ps_fld (pv 0) pe_int rfl)
    (pss_cons (ps_fld (pv 0) pe_int rfl)
    (pss_cons (ps_fld (pv 0) pe_int rfl)
    (pss_cons (ps_fld (pv 0) (pe_lst pa_nil) rfl)
    (pss_one (ps_fld (pv 0) (pe_op op_rep (pe_lst (pa_cons pe_non pa_nil)) (pv 1)) rfl))))))), ?_⟩
  refine ⟨_, rfl, wrn (ns := []) (vs := []) hp T.node.cl (T.node.na (i := 0) (by decide +kernel)) rfl rfl (by decide) ?_⟩
  refine ⟨_, rfl, wrn upd_same T.node.cl (T.node.na (i := 1) (by decide +kernel)) (by decide +kernel) rfl (by decide) ?_⟩
  refine ⟨_, rfl, wrn upd_same T.node.cl (T.node.na (i := 2) (by decide +kernel)) (by decide +kernel) rfl (by decide) ?_⟩
  refine ⟨_, rfl, wrn upd_same T.node.cl (T.node.na (i := 3) (by decide +kernel)) (by decide +kernel) rfl (by decide) ?_⟩
  rw [upd_upd, upd_upd, upd_upd]
  refine ⟨Nat.zero_le _, fun wl hwl => ?_⟩
  have nw : p ≠ wl := ne_of_none upd_same hwl
  have hwl0 : H wl = none := by rw [upd_ne nw.symm] at hwl; exact hwl
  refine ⟨_, rfl, wrn ((upd_ne nw).trans upd_same) T.node.cl (T.node.na (i := 4) (by decide +kernel)) (by decide +kernel) rfl (by decide) ?_⟩
  refine ⟨one_le, fun t ht => ?_⟩
  have nt : p ≠ t := ne_of_none upd_same ht
  have ht0 : wl ≠ t := ne_of_none ((upd_ne nw.symm).trans upd_same) ht
  have ht1 : H t = none := by rw [upd_ne nt.symm, upd_ne ht0.symm, upd_ne nt.symm] at ht; exact ht
  refine ⟨_, rfl, t, _, _, rfl, rfl, upd_same, by omega, by omega, ?_, fun kl hkl => ?_⟩
  · show 1 * m ≤ sizeLine
    rw [Nat.one_mul]
    exact Nat.le_trans hm (by decide)
  rw [rep_non] at *
  have nk : t ≠ kl := ne_of_none upd_same hkl
  have nk2 : p ≠ kl := ne_of_none ((upd_ne nt).trans upd_same) hkl
  have nk3 : wl ≠ kl := ne_of_none ((upd_ne ht0).trans ((upd_ne nw.symm).trans upd_same)) hkl
  have hkl0 : H kl = none := by
    rw [upd_ne nk.symm, upd_ne nk2.symm, upd_ne nk3.symm, upd_ne nk2.symm] at hkl
    exact hkl
  refine ⟨_, rfl, wrn ((upd_ne nk2).trans ((upd_ne nt).trans upd_same)) T.node.cl (T.node.na (i := 5) (by decide +kernel)) (by decide +kernel) rfl (by decide) ?_⟩
  refine k _ wl kl upd_same hwl0 hkl0 nk3 ?_ ?_ fun b o e hb => ?_
  · rw [upd_ne nw.symm, upd_ne nk3, upd_ne ht0, upd_ne nw.symm, upd_same]
  · rw [upd_ne nk2.symm, upd_same]
  · rw [upd_ne hb, upd_ne (ne_of_none e hkl0), upd_ne (ne_of_none e ht1), upd_ne hb, upd_ne (ne_of_none e hwl0), upd_ne hb]
    exact e
/-! ### who is whose, while a world is made -/
abbrev OW := Addr → Option Role
def Own (H0 H : Hp) (ow : OW) : Prop := ∀ a r, ow a = some r → H0 a = none ∧ ∃ o, H a = some o
def give (ow : OW) (a : Addr) (r : Role) : OW := fun b => if b = a then some r else ow b
def Tr (H H' : Hp) : Prop := ∀ b o, H b = some o → ∃ o', H' b = some o'
theorem give_same {ow : OW} {a : Addr} {r : Role} : give ow a r a = some r := if_pos rfl
theorem give_old {H0 H : Hp} {ow : OW} {a b : Addr} {r r' : Role} (O : Own H0 H ow) (hn : H a = none) (h : ow b = some r') : give ow a r b = some r' := by
  obtain ⟨_, o, e⟩ := O b r' h
  show (if b = a then _ else ow b) = _
  rw [if_neg (ne_of_none e hn)]; exact h
theorem Own.give {H0 H H' : Hp} {ow : OW} {a : Addr} {r : Role} (O : Own H0 H ow) (h0 : H0 a = none) (t : Tr H H') (ha : ∃ o, H' a = some o) : Own H0 H' (give ow a r) := fun b r' e => by
  have e : (if b = a then some r else ow b) = some r' := e
  by_cases c : b = a
  · rw [c]; exact ⟨h0, ha⟩
  · rw [if_neg c] at e
    obtain ⟨z, o, q⟩ := O b r' e
    exact ⟨z, t _ _ q⟩
theorem Own.more {H0 H H' : Hp} {ow : OW} (O : Own H0 H ow) (t : Tr H H') : Own H0 H' ow := fun b r e => by
  obtain ⟨z, o, q⟩ := O b r e
  exact ⟨z, t _ _ q⟩
theorem Tr.of {H H' : Hp} (s : Same H H') : Tr H H' := fun b o e => ⟨o, s b o e⟩
theorem Tr.upd {H : Hp} {a : Addr} {o : HO} : Tr H (upd H a o) := fun b u e => by
  by_cases c : b = a
  · rw [c]; exact ⟨o, upd_same⟩
  · rw [upd_ne c]; exact ⟨u, e⟩
theorem Tr.trans {H H1 H2 : Hp} (s : Tr H H1) (t : Tr H1 H2) : Tr H H2 := fun b o e => let ⟨_, q⟩ := s b o e; t _ _ q
theorem ow_ne {ow : OW} {a b : Addr} {r r' : Role} (h : ow a = some r) (h' : ow b = some r') (d : r ≠ r') : a ≠ b := fun e => by
  rw [e, h'] at h
  injection h with h
  exact d h.symm
/-- the masters made so far -/
structure PMs (C : Cs) (H : Hp) (ow : OW) (D : Addr) (g : Nat) (ms : List Addr) : Prop where
  od : ow D = some .ml
  hd : H D = some (.lst (ms.map V.ref))
  ms : ∀ (i : Nat) (a : Addr), ms[i]? = some a → ow a = some (.ms i) ∧ Obj H a C.master nMaster [vN g, .non, .bl false]
/-- the nodes made so far -/
structure PNs (C : Cs) (H : Hp) (ow : OW) (D : Addr) (m : Nat) (ns : List NA) : Prop where
  od : ow D = some .nl
  hd : H D = some (.lst (ns.map fun q => V.ref q.a))
  ns : ∀ (i : Nat) (q : NA), ns[i]? = some q → (ow q.a = some (.nd i) ∧ ow q.wl = some (.wl i) ∧ ow q.kl = some (.kl i)) ∧ Obj H q.a C.node nNode [.bl true, vN 0, vN 0, vN 0, .ref q.wl, .ref q.kl] ∧ H q.wl = some (.lst []) ∧ H q.kl = some (.lst (List.replicate m .non))
theorem PMs.keep {H H' : Hp} {ow ow' : OW} {D g : Nat} {ms : List Addr} (p : PMs C H ow D g ms) (ho : ∀ b r, ow b = some r → ow' b = some r) (he : ∀ b r, ow b = some r → r ≠ .w → r ≠ .nl → H' b = H b) : PMs C H' ow' D g ms := by
  refine ⟨ho _ _ p.od, (he _ _ p.od (by simp) (by simp)).trans p.hd, fun i a h => ?_⟩
  obtain ⟨h1, dx, h2⟩ := p.ms i a h
  exact ⟨ho _ _ h1, dx, (he _ _ h1 (by simp) (by simp)).trans h2⟩
theorem PNs.keep {H H' : Hp} {ow ow' : OW} {D m : Nat} {ns : List NA} (p : PNs C H ow D m ns) (ho : ∀ b r, ow b = some r → ow' b = some r) (he : ∀ b r, ow b = some r → r ≠ .w → H' b = H b) : PNs C H' ow' D m ns := by
  refine ⟨ho _ _ p.od, (he _ _ p.od (by simp)).trans p.hd, fun i q h => ?_⟩
  obtain ⟨⟨h1, h2, h3⟩, ⟨dx, h4⟩, h5, h6⟩ := p.ns i q h
  exact ⟨⟨ho _ _ h1, ho _ _ h2, ho _ _ h3⟩, ⟨dx, (he _ _ h1 (by simp)).trans h4⟩, (he _ _ h2 (by simp)).trans h5, (he _ _ h3 (by simp)).trans h6⟩
def spWorld (C : Cs) : Sp := fun vs H Q _ => ∃ (H0 : Hp) (p dx g z f m n : Nat), vs = [.ref p, vN g, vN z, vN f, vN m, vN n] ∧ m ≤ 5 ∧ n ≤ 3 ∧ Same H0 H ∧ H0 p = none ∧ H p = some (.ins C.world dx []) ∧ ∀ H' L, St C H0 H' L (first g z f m n) → L.w = p → Q .non H'
theorem mk_World (F : Cl K mg "World" "World.__init__" s_World C.world) (T : Txt K mg C) (m_Master : C8.Mak P w K mg base 1 "Master" C.master (spInit C.master 1 nMaster (fun vs => vs ++ [.non, .bl false])) []) (m_Node : C8.Mak P w K mg base 1 "Node" C.node (spNode C) []) :
    C8.Mak P w K mg base 3 "World" C.world (spWorld C) [] := by
  refine mak_of F sc_World (fun _ _ _ _ _ _ us hl => match us, hl with | [_, _, _, _, _, _], _ => rfl) (fun vs H Q E ⟨_, _, _, _, _, _, _, _, e, _⟩ => by rw [e]; rfl) ?_
  rintro f' cdv A outer s0 H vs Q E hr ⟨H0, p, dx, g, z, f, m, n, rfl, hm, hn, sm, hp0, hp, k⟩
  refine ⟨_, (pss_cons (ps_fld (pv 0) (pv 1) rfl)
    (pss_cons (ps_fld (pv 0) (pv 2) rfl)
    (pss_cons (ps_fld (pv 0) (pv 3) rfl)
    (pss_cons (ps_fld (pv 0) (pe_op op_mul pe_int (pv 1)) rfl)
    (pss_cons (ps_fld (pv 0) (pe_lc (own := [("place", 6)]) (g := gName 6) (tt := tYes) (te := (tMake C.master (spInit C.master 1 nMaster (fun vs => vs ++ [V.non, V.bl false])) [] _ (tCons (tVar 1) tNil))) rfl sc_World.nd (pi_range1 rfl T.range (pa_cons (pv 4) pa_nil)) (blkOk_by (own := [("place", 6)]) (N := ["self", "g", "w", "f", "masters", "nodes", "place"]) (sc := defScope s_World) (by decide +kernel)) (fun _ _ _ _ _ => (pg_name (i := 6) sc_World.nd rfl (.inl rfl))) (fun _ _ _ _ _ => pts_nil) (fun _ _ _ _ _ => (C8.pe_mk m_Master hr (by decide) rfl (pa_cons (pv 1) pa_nil)))) rfl)
    (pss_cons (ps_fld (pv 0) (pe_lc (own := [("place", 6)]) (g := gName 6) (tt := tYes) (te := (tMake C.node (spNode C) [] _ (tCons (tVar 4) tNil))) rfl sc_World.nd (pi_range1 rfl T.range (pa_cons (pv 5) pa_nil)) (blkOk_by (own := [("place", 6)]) (N := ["self", "g", "w", "f", "masters", "nodes", "place"]) (sc := defScope s_World) (by decide +kernel)) (fun _ _ _ _ _ => (pg_name (i := 6) sc_World.nd rfl (.inl rfl))) (fun _ _ _ _ _ => pts_nil) (fun _ _ _ _ _ => (C8.pe_mk m_Node hr (by decide) rfl (pa_cons (pv 4) pa_nil)))) rfl)
    (pss_cons (ps_fld (pv 0) (pe_lst pa_nil) rfl)
    (pss_cons (ps_fld (pv 0) (pe_lst pa_nil) rfl)
    (pss_one (ps_fld (pv 0) pe_int rfl)))))))))), ?_⟩
  refine ⟨_, rfl, _, rfl, wrn (ns := []) (vs := []) hp T.world.cl (T.world.na (i := 0) (by decide +kernel)) rfl rfl (by decide) ?_⟩
  refine ⟨_, rfl, _, rfl, wrn upd_same T.world.cl (T.world.na (i := 1) (by decide +kernel)) (by decide +kernel) rfl (by decide) ?_⟩
  refine ⟨_, rfl, _, rfl, wrn upd_same T.world.cl (T.world.na (i := 2) (by decide +kernel)) (by decide +kernel) rfl (by decide) ?_⟩
  refine ⟨_, rfl, _, _, rfl, rfl, .inl ⟨by decide, by decide⟩, _, rfl, wrn upd_same T.world.cl (T.world.na (i := 3) (by decide +kernel)) (by decide +kernel) rfl (by decide) ?_⟩
  rw [upd_upd, upd_upd, upd_upd]
  dsimp only
  rw [show (2 : Int) * (g : Int) = ((2 * g : Nat) : Int) by omega]
  generalize hH4 : upd H p _ = H4
  have hp4 : H4 p = some (.ins C.world dx ((["g", "w", "f", "true_time"] : List Str).zip [vN g, vN z, vN f, vN (2 * g)])) := by rw [← hH4]; exact upd_same
  have s4 : Same H0 H4 := fun b o e => by
    rw [← hH4, upd_ne (ne_of_none e hp0)]; exact sm _ _ e
  have O4 : Own H0 H4 (give (fun _ => none) p .w) := Own.give (H := H4) (fun _ _ e => by cases e) hp0 (.of (.refl _)) ⟨_, hp4⟩
  clear hH4 hp sm
  -- self.masters
  refine ⟨_, rfl, _, rfl, by omega, by omega, fun D1 hD1 => lc_range (lo := 0) (n := m) (fun j H' => ∃ ms ow, ms.length = j ∧ Own H0 H' ow ∧ Same H0 H' ∧ ow p = some .w ∧ H' p = some (.ins C.world dx ((["g", "w", "f", "true_time"] : List Str).zip [vN g, vN z, vN f, vN (2 * g)])) ∧ PMs C H' ow D1 g ms) ?_ ?_ ?_⟩
  · refine ⟨[], give (give (fun _ => none) p .w) D1 .ml, rfl, O4.give (s4.free hD1) .upd ⟨_, upd_same⟩, s4.trans (Hc.Same.upd hD1), give_old O4 hD1 give_same, ?_, give_same, upd_same, fun i a h => by simp at h⟩
    rw [upd_ne (ne_of_none hp4 hD1)]; exact hp4
  · rintro j H' hj ⟨ms, ow, hl, O, s', op, hp', M⟩
    refine ⟨rfl, ?_⟩
    unfold tYes
    dsimp only
    refine iteT ⟨_, rfl, fun a dm na nd _ => ⟨a, dm, _, rfl, rfl, upd_same, fun H2 ha kk => ⟨rfl, ms.map V.ref, ?_⟩⟩⟩
    have s2 : Same H' H2 := made_same na nd kk
    have naD : D1 ≠ a := ne_of_none M.hd na
    have nap : p ≠ a := ne_of_none hp' na
    have npD : p ≠ D1 := ow_ne op M.od (by simp)
    refine ⟨s2 _ _ M.hd, ?_, ms ++ [a], give ow a (.ms j), ?_, O.give (s'.free na) ((Tr.of s2).trans .upd) ?_, ?_, give_old O na op, ?_, ?_⟩
    · rw [List.length_map, hl]; exact Nat.lt_of_lt_of_le hj (Nat.le_trans hm (by decide))
    · rw [List.length_append, hl]; rfl
    · rw [upd_ne naD.symm]; exact ⟨_, ha⟩
    · intro b o e
      have nb : b ≠ D1 := fun q => by rw [q, (O _ _ M.od).1] at e; cases e
      rw [upd_ne nb]; exact s2 _ _ (s' _ _ e)
    · rw [upd_ne npD]; exact s2 _ _ hp'
    · refine ⟨give_old O na M.od, ?_, fun i b h => ?_⟩
      · rw [upd_same, List.map_append]; rfl
      · by_cases c : i < ms.length
        · rw [List.getElem?_append_left c] at h
          obtain ⟨h1, d, h2⟩ := M.ms i b h
          exact ⟨give_old O na h1, d, by rw [upd_ne (ow_ne h1 M.od (by simp))]; exact s2 _ _ h2⟩
        · rw [List.getElem?_append_right (by omega)] at h
          cases e : i - ms.length with
          | succ x => rw [e] at h; simp at h
          | zero =>
            rw [e] at h
            have h : a = b := by simpa using h
            subst h
            exact ⟨by rw [give_same, show i = j by omega], dm, by rw [upd_ne naD.symm]; exact ha⟩
  rintro H5 ⟨ms, ow5, hl5, O5, s5, op5, hp5, M5⟩
  refine ⟨_, rfl, wrn hp5 T.world.cl (T.world.na (i := 4) (by decide +kernel)) (by decide +kernel) rfl (by decide) ?_⟩
  generalize hH6 : upd H5 p _ = H6
  have hp6 : H6 p = some (.ins C.world dx ((["g", "w", "f", "true_time", "masters"] : List Str).zip [vN g, vN z, vN f, vN (2 * g), .ref D1])) := by rw [← hH6]; exact upd_same
  have O6 : Own H0 H6 ow5 := by rw [← hH6]; exact O5.more .upd
  have s6 : Same H0 H6 := fun b o e => by rw [← hH6, upd_ne (ne_of_none e hp0)]; exact s5 _ _ e
  have M6 : PMs C H6 ow5 D1 g ms := M5.keep (fun _ _ h => h) fun b r h1 h2 _ => by rw [← hH6]; exact upd_ne (ow_ne h1 op5 h2)
  clear hH6
  -- self.nodes
  refine ⟨_, rfl, _, rfl, by omega, by omega, fun D2 hD2 => lc_range (lo := 0) (n := n) (fun j H' => ∃ ns ow, ns.length = j ∧ Own H0 H' ow ∧ Same H0 H' ∧ ow p = some .w ∧ H' p = some (.ins C.world dx ((["g", "w", "f", "true_time", "masters"] : List Str).zip [vN g, vN z, vN f, vN (2 * g), .ref D1])) ∧ PMs C H' ow D1 g ms ∧ PNs C H' ow D2 m ns) ?_ ?_ ?_⟩
  · refine ⟨[], give ow5 D2 .nl, rfl, O6.give (s6.free hD2) .upd ⟨_, upd_same⟩, s6.trans (Hc.Same.upd hD2), give_old O6 hD2 op5, ?_, M6.keep (fun b r h => give_old O6 hD2 h) (fun b r h _ _ => ?_), give_same, upd_same, fun i a h => by simp at h⟩
    · rw [upd_ne (ne_of_none hp6 hD2)]; exact hp6
    · obtain ⟨_, o, e⟩ := O6 b r h
      exact upd_ne (ne_of_none e hD2)
  · rintro j H' hj ⟨ns, ow, hl, O, s', op, hp', M, N⟩
    refine ⟨rfl, ?_⟩
    unfold tYes
    dsimp only
    refine iteT ⟨_, rfl, fun a dm na nd ne => ⟨a, dm, m, rfl, hm, upd_same, fun H2 wl kl ha hwl hkl nwk hw2 hk2 kk => ⟨rfl, ns.map (fun q => V.ref q.a), ?_⟩⟩⟩
    have nwa : wl ≠ a := fun q => by rw [q, upd_same] at hwl; cases hwl
    have nka : kl ≠ a := fun q => by rw [q, upd_same] at hkl; cases hkl
    have nwd : wl ≠ dm := fun q => by rw [upd_ne nwa, q, upd_same] at hwl; cases hwl
    have nkd : kl ≠ dm := fun q => by rw [upd_ne nka, q, upd_same] at hkl; cases hkl
    have hwl' : H' wl = none := by rw [upd_ne nwa, upd_ne nwd] at hwl; exact hwl
    have hkl' : H' kl = none := by rw [upd_ne nka, upd_ne nkd] at hkl; exact hkl
    have s2 : Same H' H2 := fun b o e => kk b o (by rw [upd_ne (ne_of_none e na), upd_ne (ne_of_none e nd)]; exact e) (ne_of_none e na)
    have nD : ∀ {b}, H' b = none → b ≠ D2 := fun {b} q e => by rw [e, N.hd] at q; cases q
    have npD : p ≠ D2 := ow_ne op N.od (by simp)
    have O1 : Own H0 H2 (give ow a (.nd j)) := O.give (s'.free na) (.of s2) ⟨_, ha⟩
    -- who is whose, thrice
    have g1 : ∀ b r, ow b = some r → give (give (give ow a (.nd j)) wl (.wl j)) kl (.kl j) b = some r := fun b r h => by
      obtain ⟨_, o, e⟩ := O b r h
      show (if b = kl then _ else if b = wl then _ else if b = a then _ else ow b) = some r
      rw [if_neg (ne_of_none e hkl'), if_neg (ne_of_none e hwl'), if_neg (ne_of_none e na)]; exact h
    have ga : give (give (give ow a (.nd j)) wl (.wl j)) kl (.kl j) a = some (.nd j) := by
      show (if a = kl then _ else if a = wl then _ else if a = a then some (Role.nd j) else ow a) = _
      rw [if_neg nka.symm, if_neg nwa.symm, if_pos rfl]
    have gw : give (give (give ow a (.nd j)) wl (.wl j)) kl (.kl j) wl = some (.wl j) := by
      show (if wl = kl then _ else if wl = wl then some (Role.wl j) else _) = _
      rw [if_neg nwk, if_pos rfl]
    have gk : give (give (give ow a (.nd j)) wl (.wl j)) kl (.kl j) kl = some (.kl j) := give_same
    have keep : ∀ b r, ow b = some r → r ≠ .w → r ≠ .nl → (upd H2 D2 (.lst (ns.map (fun q => V.ref q.a) ++ [.ref a]))) b = H' b := fun b r h _ h2 => by
      obtain ⟨_, o, e⟩ := O b r h
      rw [upd_ne (ow_ne h N.od h2), s2 _ _ e, e]
    refine ⟨s2 _ _ N.hd, ?_, ns ++ [⟨a, wl, kl⟩], give (give (give ow a (.nd j)) wl (.wl j)) kl (.kl j), ?_, ?_, ?_, g1 _ _ op, ?_, M.keep g1 keep, g1 _ _ N.od, ?_, fun i q h => ?_⟩
    · rw [List.length_map, hl]; exact Nat.lt_of_lt_of_le hj (Nat.le_trans hn (by decide))
    · rw [List.length_append, hl]; rfl
    · refine Own.more ?_ .upd
      exact (O1.give (s'.free hwl') (.of (.refl _)) ⟨_, hw2⟩).give (s'.free hkl') (.of (.refl _)) ⟨_, hk2⟩
    · intro b o e
      have nb : b ≠ D2 := fun q => by rw [q, (O _ _ N.od).1] at e; cases e
      rw [upd_ne nb]; exact s2 _ _ (s' _ _ e)
    · rw [upd_ne npD]; exact s2 _ _ hp'
    · rw [upd_same, List.map_append]; rfl
    · by_cases c : i < ns.length
      · rw [List.getElem?_append_left c] at h
        obtain ⟨⟨h1, h2, h3⟩, ⟨d, h4⟩, h5, h6⟩ := N.ns i q h
        exact ⟨⟨g1 _ _ h1, g1 _ _ h2, g1 _ _ h3⟩, ⟨d, (keep _ _ h1 (by simp) (by simp)).trans h4⟩, (keep _ _ h2 (by simp) (by simp)).trans h5, (keep _ _ h3 (by simp) (by simp)).trans h6⟩
      · rw [List.getElem?_append_right (by omega)] at h
        cases e : i - ns.length with
        | succ x => rw [e] at h; simp at h
        | zero =>
          rw [e] at h
          have h : (⟨a, wl, kl⟩ : NA) = q := by simpa using h
          subst h
          have ei : i = j := by omega
          subst ei
          exact ⟨⟨ga, gw, gk⟩, ⟨dm, (upd_ne (nD na)).trans ha⟩, (upd_ne (nD hwl')).trans hw2, (upd_ne (nD hkl')).trans hk2⟩
  rintro H7 ⟨ns, ow7, hl7, O7, s7, op7, hp7, M7, N7⟩
  refine ⟨_, rfl, wrn hp7 T.world.cl (T.world.na (i := 5) (by decide +kernel)) (by decide +kernel) rfl (by decide) ?_⟩
  -- self.letters = []
  refine ⟨Nat.zero_le _, fun D3 hD3 => ?_⟩
  have np3 : p ≠ D3 := ne_of_none upd_same hD3
  refine ⟨_, rfl, wrn ((upd_ne np3).trans upd_same) T.world.cl (T.world.na (i := 6) (by decide +kernel)) (by decide +kernel) rfl (by decide) ?_⟩
  refine ⟨Nat.zero_le _, fun D4 hD4 => ?_⟩
  have np4 : p ≠ D4 := ne_of_none upd_same hD4
  have n34 : D3 ≠ D4 := ne_of_none ((upd_ne np3.symm).trans upd_same) hD4
  refine ⟨_, rfl, wrn ((upd_ne np4).trans upd_same) T.world.cl (T.world.na (i := 7) (by decide +kernel)) (by decide +kernel) rfl (by decide) ?_⟩
  refine ⟨_, rfl, wrn upd_same T.world.cl (T.world.na (i := 8) (by decide +kernel)) (by decide +kernel) rfl (by decide) ?_⟩
  have h3 : H7 D3 = none := by rw [upd_ne np3.symm] at hD3; exact hD3
  have h4 : H7 D4 = none := by rw [upd_ne np4.symm, upd_ne n34.symm, upd_ne np4.symm] at hD4; exact hD4
  rw [upd_upd]
  generalize hH8 : upd _ p _ = H8
  have hp8 : H8 p = some (.ins C.world dx (nWorld.zip [vN g, vN z, vN f, vN (2 * g), .ref D1, .ref D2, .ref D3, .ref D4, vN 0])) := by rw [← hH8]; exact upd_same
  have h83 : H8 D3 = some (.lst []) := by rw [← hH8, upd_ne np3.symm, upd_ne n34, upd_ne np3.symm, upd_same]
  have h84 : H8 D4 = some (.lst []) := by rw [← hH8, upd_ne np4.symm, upd_same]
  have s78 : ∀ b o, H7 b = some o → b ≠ p → H8 b = some o := fun b o e hb => by
    rw [← hH8, upd_ne hb, upd_ne (ne_of_none e h4), upd_ne hb, upd_ne (ne_of_none e h3), upd_ne hb]; exact e
  clear hH8
  have t78 : Tr H7 H8 := fun b o e => by
    by_cases c : b = p
    · rw [c]; exact ⟨_, hp8⟩
    · exact ⟨_, s78 b o e c⟩
  have g1 : ∀ b r, ow7 b = some r → give (give ow7 D3 .ll) D4 .sl b = some r := fun b r h => by
    obtain ⟨_, o, e⟩ := O7 b r h
    show (if b = D4 then _ else if b = D3 then _ else ow7 b) = some r
    rw [if_neg (ne_of_none e h4), if_neg (ne_of_none e h3)]; exact h
  have keep : ∀ b r, ow7 b = some r → r ≠ .w → H8 b = H7 b := fun b r h h2 => by
    obtain ⟨_, o, e⟩ := O7 b r h
    rw [e]; exact s78 _ _ e (ow_ne h op7 h2)
  have M8 := M7.keep g1 fun b r h h1 _ => keep b r h h1
  have N8 := N7.keep g1 keep
  have O8 : Own H0 H8 (give (give ow7 D3 .ll) D4 .sl) := (O7.give (s7.free h3) t78 ⟨_, h83⟩).give (s7.free h4) (.of (.refl _)) ⟨_, h84⟩
  have go3 : give (give ow7 D3 .ll) D4 .sl D3 = some .ll := by
    show (if D3 = D4 then _ else if D3 = D3 then some Role.ll else _) = _
    rw [if_neg n34, if_pos rfl]
  have s8 : Same H0 H8 := fun b o e => s78 _ _ (s7 _ _ e) (ne_of_none e hp0)
  refine k H8 ⟨give (give ow7 D3 .ll) D4 .sl, p, D1, D2, D3, D4, ms, ns, []⟩ ?_ rfl
  refine ⟨s8, fun a r h => (O8 a r h).1, fun a r h => (O8 a r h).2, g1 _ _ op7, M8.od, N8.od, go3, give_same, fun i a h => (M8.ms i a h).1, fun i q h => (N8.ns i q h).1, fun i a h => by simp at h, ⟨dx, hp8⟩, M8.hd, N8.hd, ⟨[], h83, All2.nil⟩, h84, ⟨?_, fun i a y h1 h2 => ?_⟩, ⟨?_, fun i q y h1 h2 => ?_⟩, All2.nil⟩
  · show ms.length = (List.replicate m _).length
    rw [List.length_replicate, hl5]
  · have e := List.eq_of_mem_replicate (List.mem_of_getElem? h2)
    subst e
    exact ⟨.non, (M8.ms i a h1).2, rfl⟩
  · show ns.length = (List.replicate n _).length
    rw [List.length_replicate, hl7]
  · have e := List.eq_of_mem_replicate (List.mem_of_getElem? h2)
    subst e
    obtain ⟨_, q1, q2, q3⟩ := N8.ns i q h1
    exact ⟨q1, ⟨[], q2, All2.nil⟩, ⟨_, q3, All2.rep m rfl⟩⟩
end
end Hc
set_option Elab.async false
set_option maxRecDepth 100000
set_option maxHeartbeats 4000000
/-! The line: begin, a call's answer, all of them. -/
namespace Hc
open PySem PySem.Spec PyProof.Rows L2
open Ag01 (Span Master Ask Node Letter Stamp State Call)
theorem im_line : (decide (nLine = nSpan) || (decide (nLine = nWaiting) || (decide (nLine = nKnown) || decide (nLine = nLetter)))) = false := by decide +kernel
theorem flat_0 {c : Call} {l : List Nat} (h : flat c = (0, l)) : ∃ g z f m n, c = .begin_ g z f m n ∧ l = [g, z, f, m, n] := by
  cases c <;> simp [flat] at h
  exact ⟨_, _, _, _, _, rfl, h.symm⟩
section
variable {P : Program} {w : World} {K : PySem.W.Frag} {mg : Str → Option Value} {base : Heap} {C : Cs}
/-- a store to what is not the world's -/
theorem St.other {H0 H : Hp} {L : Lay} {s : State} {a : Addr} {o o' : HO} (S : St C H0 H L s) (h0 : H0 a = none) (ha : L.ow a = none) (h : H a = some o) (hi : imm o = false) : St C H0 (upd H a o') L s := by
  have i : Imm H (upd H a o') := .upd h hi
  have eq : ∀ {b : Addr} {r : Role}, L.ow b = some r → (upd H a o') b = H b := fun {b r} q => upd_ne fun e => by rw [e, ha] at q; cases q
  refine ⟨fun b u e => ?_, S.free, S.trk', S.ow, S.oml, S.onl, S.oll, S.osl, S.oms, S.ons, S.oss, ?_, (eq S.oml).trans S.hml, (eq S.onl).trans S.hnl, S.hll.kept (eq S.oll) fun x y z => z.imm i, (eq S.osl).trans S.hsl,
    ⟨S.ms.len, fun j x y h1 h2 => (S.ms.get j x y h1 h2).kept i (eq (S.oms j x h1))⟩, ⟨S.ns.len, fun j x y h1 h2 => ?_⟩, ⟨S.ss.len, fun j x y h1 h2 => (S.ss.get j x y h1 h2).kept (eq (S.oss j x h1))⟩⟩
  · rw [upd_ne (ne_of_none e h0)]; exact S.same _ _ e
  · obtain ⟨d, e⟩ := S.hw
    exact ⟨d, (eq S.ow).trans e⟩
  · obtain ⟨o1, o2, o3⟩ := S.ons j x h1
    exact (S.ns.get j x y h1 h2).kept i (eq o1) (eq o2) (eq o3)
/-- the line at li, with the state o; H0: what stood before and stands -/
structure Al (C : Cs) (H0 H : Hp) (li : Addr) (o : Option State) : Prop where
  same : Same H0 H
  li0 : H0 li = none
  at_ : match o with
    | none => Obj H li C.line nLine [.non]
    | some s => ∃ L, St C H0 H L s ∧ L.ow li = none ∧ Obj H li C.line nLine [.ref L.w]
theorem Al.more {H0 H H' : Hp} {li : Addr} {o : Option State} (a : Al C H0 H li o) (k : Same H H') : Al C H0 H' li o := by
  refine ⟨a.same.trans k, a.li0, ?_⟩
  have q := a.at_
  cases o with
  | none => exact Hc.Same.obj k q
  | some s =>
    obtain ⟨L, S, h1, h2⟩ := q
    exact ⟨L, S.more k, h1, Hc.Same.obj k h2⟩
/-- the answer to a call, at a line -/
def spAns (C : Cs) (k : Option Nat) : Sp := fun vs H Q _ => ∃ (H0 : Hp) (li h : Addr) (o : Option State) (M : Nat) (c : Call), vs = (match k with | none => [.ref li, vN (flat c).1, .ref h] | some _ => [.ref li, .ref h]) ∧ (∀ n, k = some n → (flat c).1 = n) ∧ Al C H0 H li o ∧ H0 h = some (.lst ((flat c).2.map vN)) ∧ (∀ s, o = some s → Good M s) ∧ M ≤ 1000 ∧
  ∀ H' p, Al C H0 H' li (Ag01.step o c).1 → H0 p = none → H' p = some (.lst ((Ag01.step o c).2.map V.int)) → Q (.ref p) H'
theorem ret_al {H0 H1 : Hp} {li : Addr} {o o' : Option State} {c : Call} {Q : VK} {ans : List Int} (k : ∀ H' p, Al C H0 H' li (Ag01.step o c).1 → H0 p = none → H' p = some (.lst ((Ag01.step o c).2.map V.int)) → Q (.ref p) H')
    (A : Al C H0 H1 li o') (e : Ag01.step o c = (o', ans)) : ∀ p, H1 p = none → Q (.ref p) (upd H1 p (.lst (ans.map V.int))) := fun p hp =>
  k _ p (by rw [e]; exact A.more (Hc.Same.upd hp)) (A.same.free hp) (by rw [e]; exact upd_same)
theorem step_begin (o : Option State) (g z f m n : Nat) : Ag01.step o (.begin_ g z f m n) = if 100 < g ∨ (200 < z ∨ (m = 0 ∨ (5 < m ∨ (m ≤ f ∨ (n = 0 ∨ 3 < n))))) then (o, [-1]) else (some (first g z f m n), [0]) := by
  cases o <;> rfl
theorem cal_begin (F : Fn K mg "begin" s_begin) (T : Txt K mg C) (m_World : C8.Mak P w K mg base 3 "World" C.world (spWorld C) []) : C8.Cal P w K mg base 5 "begin" (spAns C (some 0)) [] := by
  refine cal_of F sc_begin (fun _ _ _ _ _ _ us hl => match us, hl with | [_, _], _ => rfl) (fun vs H Q E ⟨_, _, _, _, _, _, e, _⟩ => by rw [e]; rfl) ?_
  rintro f' cdv A outer s0 H vs Q E hr ⟨H0, li, h, o, M, c, rfl, hc, Ao, hh, G, hM, k⟩
  have hc := hc 0 rfl
  obtain ⟨g, z, f, m, n, rfl, el⟩ := flat_0 (c := c) (l := (flat c).2) (by rw [← hc])
  have hh : H0 h = some (.lst ([g, z, f, m, n].map vN)) := hh
  have hH := Ao.same _ _ hh
  refine ⟨_, (pss_cons (ps_set (i := 2) sc_begin.nd rfl (.inl rfl) (pe_ix ix_list (pv 1) pe_int (fun _ _ => rfl)))
    (pss_cons (ps_set (i := 3) sc_begin.nd rfl (.inl rfl) (pe_ix ix_list (pv 1) pe_int (fun _ _ => rfl)))
    (pss_cons (ps_set (i := 4) sc_begin.nd rfl (.inl rfl) (pe_ix ix_list (pv 1) pe_int (fun _ _ => rfl)))
    (pss_cons (ps_set (i := 5) sc_begin.nd rfl (.inl rfl) (pe_ix ix_list (pv 1) pe_int (fun _ _ => rfl)))
    (pss_cons (ps_set (i := 6) sc_begin.nd rfl (.inl rfl) (pe_ix ix_list (pv 1) pe_int (fun _ _ => rfl)))
    (pss_cons (ps_if (PW.pt (pw_or (pt_cmpR op_gt (pv 2) pe_int (nomark _)) (pw_or (pt_cmpR op_gt (pv 3) pe_int (nomark _)) (pw_or (pt_not (pt_chain op_le op_le pe_int (pv 5) pe_int)) (pw_or (pt_cmpR op_ge (pv 4) (pv 5) (nomark _)) (pw_or1 (pt_not (pt_chain op_le op_le pe_int (pv 6) pe_int)))))))) (pss_one (ps_ret (pe_lst (pa_cons (pe_const rfl T.gNOT_FITTING) pa_nil)))) pss_nil)
    (pss_cons (ps_fld (pv 0) (C8.pe_mk m_World hr (by decide) rfl (pa_cons (pv 2) (pa_cons (pv 3) (pa_cons (pv 4) (pa_cons (pv 5) (pa_cons (pv 6) pa_nil)))))) rfl)
    (pss_one (ps_ret (pe_lst (pa_cons (pe_const rfl T.gDONE) pa_nil))))))))))), ?_⟩
  refine ⟨_, rfl, h, _, _, _, rfl, rfl, SqL.of hH, rfl, ?_⟩
  refine ⟨_, rfl, h, _, _, _, rfl, rfl, SqL.of hH, rfl, ?_⟩
  refine ⟨_, rfl, h, _, _, _, rfl, rfl, SqL.of hH, rfl, ?_⟩
  refine ⟨_, rfl, h, _, _, _, rfl, rfl, SqL.of hH, rfl, ?_⟩
  refine ⟨_, rfl, h, _, _, _, rfl, rfl, SqL.of hH, rfl, ?_⟩
  have bad : (100 < g ∨ (200 < z ∨ (m = 0 ∨ (5 < m ∨ (m ≤ f ∨ (n = 0 ∨ 3 < n)))))) → ∀ p, H p = none → Q (.ref p) (upd H p (.lst [.int (-1)])) := fun c => ret_al k Ao (ans := [-1]) (by rw [step_begin, if_pos c])
  refine ⟨_, rfl, _, _, rfl, rfl, _, rfl, ?_⟩
  by_cases c1 : 100 < g
  · rw [decide_eq_true (by omega)]
    exact iteT (iteT ⟨by decide, bad (.inl c1)⟩)
  rw [decide_eq_false (by omega)]
  refine iteF ⟨_, rfl, _, _, rfl, rfl, _, rfl, ?_⟩
  by_cases c2 : 200 < z
  · rw [decide_eq_true (by omega)]
    exact iteT (iteT ⟨by decide, bad (.inr (.inl c2))⟩)
  rw [decide_eq_false (by omega)]
  refine iteF ⟨_, rfl, _, _, rfl, rfl, _, rfl, ?_⟩
  by_cases c3 : m = 0
  · rw [decide_eq_false (by omega)]
    exact iteF ⟨_, rfl, iteT (iteT ⟨by decide, bad (by omega)⟩)⟩
  rw [decide_eq_true (by omega)]
  refine iteT ⟨_, _, rfl, rfl, _, rfl, ?_⟩
  by_cases c4 : 5 < m
  · rw [decide_eq_false (by omega)]
    exact iteT (iteT ⟨by decide, bad (by omega)⟩)
  rw [decide_eq_true (by omega)]
  refine iteF ⟨_, rfl, _, rfl, _, _, rfl, rfl, _, rfl, ?_⟩
  by_cases c5 : m ≤ f
  · rw [decide_eq_true (by omega)]
    exact iteT (iteT ⟨by decide, bad (by omega)⟩)
  rw [decide_eq_false (by omega)]
  refine iteF ⟨_, rfl, _, _, rfl, rfl, _, rfl, ?_⟩
  by_cases c6 : n = 0
  · rw [decide_eq_false (by omega)]
    exact iteF ⟨_, rfl, iteT ⟨by decide, bad (by omega)⟩⟩
  rw [decide_eq_true (by omega)]
  refine iteT ⟨_, _, rfl, rfl, _, rfl, ?_⟩
  by_cases c7 : 3 < n
  · rw [decide_eq_false (by omega)]
    exact iteT ⟨by decide, bad (by omega)⟩
  rw [decide_eq_true (by omega)]
  -- line.world = World(g, w, f, masters, nodes)
  refine iteF ⟨_, rfl, _, rfl, _, rfl, _, rfl, _, rfl, fun p dx np nd ne => ⟨H, p, dx, g, z, f, m, n, rfl, by omega, by omega, fun b u e => ?_, np, upd_same, fun H1 L S1 hw => ⟨rfl, ?_⟩⟩⟩
  · rw [upd_ne (ne_of_none e np), upd_ne (ne_of_none e nd)]; exact e
  obtain ⟨v, dl, hl⟩ : ∃ v dl, H li = some (.ins C.line dl (nLine.zip [v])) := by
    have q := Ao.at_
    cases o with
    | none => obtain ⟨dl, e⟩ := q; exact ⟨_, dl, e⟩
    | some s => obtain ⟨L, _, _, dl, e⟩ := q; exact ⟨_, dl, e⟩
  have hl1 := S1.same _ _ hl
  refine ⟨_, rfl, wr hl1 T.line (i := 0) (by decide +kernel) rfl (by decide) ?_⟩
  have noli : L.ow li = none := by
    cases e : L.ow li with
    | none => rfl
    | some r =>
      have := S1.free li r e
      rw [hl] at this
      cases this
  have S2 : St C H0 H1 L (first g z f m n) := S1.from (Ao.same.trans S1.same) fun a r q => Ao.same.free (S1.free a r q)
  have S3 := S2.other (o' := .ins C.line dl (nLine.zip [.ref L.w])) Ao.li0 noli hl1 (imm_obj rfl im_line)
  rw [← hw]
  refine ⟨by decide, ret_al k (o' := some (first g z f m n)) ⟨S3.same, Ao.li0, L, S3, noli, dl, upd_same⟩ (ans := [0]) ?_⟩
  rw [step_begin, if_neg (by omega)]
/-! ### a call's answer -/
theorem step_none {c : Call} (h : (flat c).1 ≠ 0) : Ag01.step none c = (none, [-9]) := by
  cases c <;> first | rfl | exact absurd rfl h
theorem flat_le (c : Call) : (flat c).1 ≤ 16 := by cases c <;> simp [flat]
/-- the table of the calls on a world -/
def Table (P : Program) (w : World) (K : PySem.W.Frag) (mg : Str → Option Value) (base : Heap) (C : Cs) (t : Addr) (j : Nat) : Prop := ∀ k : Nat, 1 ≤ k → k ≤ 16 → ∃ (f : Addr) (i : Nat), KDctI K t (k : Int) (.ref f) ∧ C8.CalAt P w K mg base i f (spOn C k) ∧ i ≤ j
theorem step_some {s : State} {c : Call} : ∃ s', (Ag01.step (some s) c).1 = some s' := by
  cases c <;> simp only [Ag01.step] <;> (repeat' (split <;> try exact ⟨_, rfl⟩)) <;> exact ⟨_, rfl⟩
theorem cal_answer_to (F : Fn K mg "answer_to" s_answer_to) (T : Txt K mg C) {t : Addr} (g_ON_A_WORLD : mg "ON_A_WORLD" = some (.ref t)) (tab : Table P w K mg base C t 8) (c_begin : C8.Cal P w K mg base 5 "begin" (spAns C (some 0)) []) :
    C8.Cal P w K mg base 9 "answer_to" (spAns C none) [] := by
  refine cal_of F sc_answer_to (fun _ _ _ _ _ _ us hl => match us, hl with | [_, _, _], _ => rfl) (fun vs H Q E ⟨_, _, _, _, _, _, e, _⟩ => by rw [e]; rfl) ?_
  rintro f' cdv A outer s0 H vs Q E hr ⟨H0, li, h, o, M, c, rfl, _, Ao, hh, G, hM, k⟩
  refine ⟨_, (pss_cons (ps_if (pt_cmpR op_eq (pv 1) (pe_const rfl T.gBEGIN) (nomark _)) (pss_one (ps_ret (C8.pe_c c_begin hr (by decide) rfl (pa_cons (pv 0) (pa_cons (pv 2) pa_nil))))) pss_nil)
    (pss_cons (ps_if (pt_cmpR op_isN (pe_fld (pv 0) rfl) pe_non (nomark _)) (pss_one (ps_ret (pe_lst (pa_cons (pe_const rfl T.gNO_WORLD) pa_nil)))) pss_nil)
    (pss_one (ps_ret (pe_callAt (pe_ix ix_kdictI (pe_globR rfl g_ON_A_WORLD) (pv 1) (fun _ _ => rfl)) hr (pa_cons (pe_fld (pv 0) rfl) (pa_cons (pv 2) pa_nil))))))), ?_⟩
  refine ⟨_, rfl, rfl, _, rfl, ?_⟩
  by_cases c0 : (flat c).1 = 0
  · rw [decide_eq_true (by rw [c0]; rfl)]
    exact iteT ⟨_, rfl, _, rfl, H0, li, h, o, M, c, rfl, fun n e => by injection e with e; rw [← e]; exact c0, Ao, hh, G, hM, k⟩
  rw [decide_eq_false (fun z => c0 (by injection z with z; omega))]
  have q := Ao.at_
  cases o with
  | none =>
    refine iteF ⟨_, rfl, rd q T.line (i := 0) (by decide +kernel) rfl ⟨rfl, _, rfl, iteT ⟨by decide, ret_al k Ao (ans := [-9]) (step_none c0)⟩⟩⟩
  | some s =>
    obtain ⟨L, S, noli, dl, hl⟩ := q
    have ol : Obj H li C.line nLine [.ref L.w] := ⟨dl, hl⟩
    refine iteF ⟨_, rfl, rd ol T.line (i := 0) (by decide +kernel) rfl ⟨rfl, _, rfl, iteF ?_⟩⟩
    obtain ⟨f, i, kd, cal, hi⟩ := tab (flat c).1 (by omega) (flat_le c)
    refine ⟨_, rfl, t, _, _, rfl, rfl, kd, f, i, _, rfl, cal, hi, _, rfl, rd ol T.line (i := 0) (by decide +kernel) rfl ⟨_, rfl, ?_⟩⟩
    -- the line belongs to what stands
    let H9 : Hp := fun b => if b = li then H li else H0 b
    have h9 : ∀ b, b ≠ li → H9 b = H0 b := fun b hb => if_neg hb
    have h9l : H9 li = H li := if_pos rfl
    have sm9 : Same H9 H := fun b u e => by
      by_cases cb : b = li
      · rw [cb, h9l] at e; rw [cb]; exact e
      · rw [h9 b cb] at e; exact Ao.same _ _ e
    have S9 : St C H9 H L s := S.from sm9 fun a r qa => by
      have na : a ≠ li := fun e => by rw [e, noli] at qa; cases qa
      rw [h9 a na]; exact S.free a r qa
    have nh : h ≠ li := fun e => by rw [e, Ao.li0] at hh; cases hh
    refine ⟨H9, L, s, M, h, (flat c).2, c, rfl, rfl, S9, by rw [h9 h nh]; exact hh, G s rfl, hM, fun H' L' s' p e1 S' hw' hp0 hp => ?_⟩
    have s0 : Same H0 H9 := fun b u e => by
      have nb : b ≠ li := fun z => by rw [z, Ao.li0] at e; cases e
      rw [h9 b nb]; exact e
    have npl : p ≠ li := fun e => by rw [e, h9l, hl] at hp0; cases hp0
    have noli' : L'.ow li = none := by
      cases e : L'.ow li with
      | none => rfl
      | some r =>
        have := S'.free li r e
        rw [h9l, hl] at this
        cases this
    refine k H' p ⟨s0.trans S'.same, Ao.li0, ?_⟩ (by rw [h9 p npl] at hp0; exact hp0) hp
    rw [e1]
    refine ⟨L', S'.from (s0.trans S'.same) fun a r qa => s0.free (S'.free a r qa), noli', dl, ?_⟩
    rw [hw']
    exact S'.same _ _ (h9l.trans hl)
end
end Hc
set_option Elab.async false
set_option maxRecDepth 100000
set_option maxHeartbeats 4000000
/-! A node's lists made anew. -/
namespace Hc
open PySem PySem.Spec PyProof.Rows L2
open Ag01 (Span Master Ask Node Letter Stamp State Call)
section
variable {C : Cs} {H H' H0 : Hp} {a b : Addr} {v : V} {L : Lay} {s : State}
def Lay.newWait (L : Lay) (k : Nat) (p : NA) (a : Addr) : Lay := { L with ow := fun b => if b = a then some (.wl k) else L.ow b, ns := L.ns.set k { p with wl := a } }
def Lay.newKnown (L : Lay) (k : Nat) (p : NA) (a : Addr) : Lay := { L with ow := fun b => if b = a then some (.kl k) else L.ow b, ns := L.ns.set k { p with kl := a } }
theorem set_get {α : Type} {l : List α} {k j : Nat} {x y : α} (h : (l.set k x)[j]? = some y) : (j = k ∧ y = x) ∨ (j ≠ k ∧ l[j]? = some y) := by
  by_cases e : k = j
  · subst e
    rw [List.getElem?_set_self'] at h
    cases q : l[k]? with
    | none => rw [q] at h; cases h
    | some z => rw [q] at h; cases h; exact .inl ⟨rfl, rfl⟩
  · rw [List.getElem?_set_ne e] at h
    exact .inr ⟨fun z => e z.symm, h⟩
theorem map_set_same {α β : Type} {g : α → β} {l : List α} {k : Nat} {x y : α} (h : l[k]? = some x) (e : g y = g x) : (l.set k y).map g = l.map g := by
  rw [List.map_set, e]
  exact set_self (by rw [List.getElem?_map, h]; rfl)
/-- a node waits by a new list -/
theorem St.newWait {dx : Addr} {k : Nat} {p : NA} {n : Node} {vs : List V} {as : List Ask} (S : St C H0 H L s) (hk : L.ns[k]? = some p) (hn : s.nodes[k]? = some n) (h : H a = some (.lst vs)) (h0 : H0 a = none) (ha : L.ow a = none) (hv : All2 (WaitV C H) vs as) :
    St C H0 (upd H p.a (.ins C.node dx (nNode.zip [.bl n.up, vN n.clock, vN n.last, vN n.count, .ref a, .ref p.kl]))) (L.newWait k p a) { s with nodes := s.nodes.set k { n with asks := as } } := by
  have N := S.ns.get k p n hk hn
  obtain ⟨d0, hN⟩ := N.ob
  have i : Imm H (upd H p.a (.ins C.node dx (nNode.zip [.bl n.up, vN n.clock, vN n.last, vN n.count, .ref a, .ref p.kl]))) := .upd hN (imm_obj rfl im_node)
  have o := S.ons k p hk
  have eq : ∀ {b : Addr} {r : Role}, L.ow b = some r → r ≠ .nd k → (upd H p.a (.ins C.node dx (nNode.zip [.bl n.up, vN n.clock, vN n.last, vN n.count, .ref a, .ref p.kl]))) b = H b := fun q d => upd_ne (role_ne q o.1 d)
  have ow : ∀ {b : Addr} {r : Role}, L.ow b = some r → (L.newWait k p a).ow b = some r := fun {b r} q => by
    show (if b = a then _ else L.ow b) = some r
    have ne : b ≠ a := fun z => by rw [z, ha] at q; cases q
    rw [if_neg ne]; exact q
  have na : a ≠ p.a := fun z => by rw [z, o.1] at ha; cases ha
  have owa : (L.newWait k p a).ow a = some (.wl k) := if_pos rfl
  refine ⟨S.keep o.1, fun b r q => ?_, fun b r q => ?_, ow S.ow, ow S.oml, ow S.onl, ow S.oll, ow S.osl, fun j x q => ow (S.oms j x q), fun j x q => ?_, fun j x q => ow (S.oss j x q), ?_, (eq S.oml (by simp)).trans S.hml, ?_, S.hll.kept (eq S.oll (by simp)) fun x y z => z.imm i, (eq S.osl (by simp)).trans S.hsl,
    ⟨S.ms.len, fun j x y h1 h2 => (S.ms.get j x y h1 h2).kept i (eq (S.oms j x h1) (by simp))⟩, S.ns.set _ _ ⟨⟨dx, upd_same⟩, ⟨vs, (upd_ne na).trans h, hv.imp fun x y z => z.imm i⟩, N.ks.kept (eq o.2.2 (by simp)) fun x y z => z.imm i⟩ fun j u v ne h1 h2 z => ?_, ⟨S.ss.len, fun j x y h1 h2 => (S.ss.get j x y h1 h2).kept (eq (S.oss j x h1) (by simp))⟩⟩
  · have q : (if b = a then some (Role.wl k) else L.ow b) = some r := q
    by_cases e : b = a
    · rw [e]; exact h0
    · rw [if_neg e] at q; exact S.free b r q
  · have q : (if b = a then some (Role.wl k) else L.ow b) = some r := q
    by_cases e : b = a
    · rw [e, upd_ne na]; exact ⟨_, h⟩
    · rw [if_neg e] at q; exact S.trk' b r q
  · rcases set_get q with ⟨rfl, rfl⟩ | ⟨_, q⟩
    · exact ⟨ow o.1, owa, ow o.2.2⟩
    · exact ⟨ow (S.ons j x q).1, ow (S.ons j x q).2.1, ow (S.ons j x q).2.2⟩
  · obtain ⟨d, e⟩ := S.hw
    exact ⟨d, (eq S.ow (by simp)).trans e⟩
  · show (upd H p.a _) L.nl = some (.lst ((L.ns.set k { p with wl := a }).map fun p => V.ref p.a))
    rw [map_set_same (g := fun (q : NA) => V.ref q.a) (y := { p with wl := a }) hk rfl]
    exact (eq S.onl (by simp)).trans S.hnl
  · obtain ⟨o1, o2, o3⟩ := S.ons j u h1
    exact z.kept i (eq o1 (by simpa using ne)) (eq o2 (by simp)) (eq o3 (by simp))
/-- a node knows by a new list -/
theorem St.newKnown {dx : Addr} {k : Nat} {p : NA} {n : Node} {vs : List V} {ks : List (Option (Nat × Span))} (S : St C H0 H L s) (hk : L.ns[k]? = some p) (hn : s.nodes[k]? = some n) (h : H a = some (.lst vs)) (h0 : H0 a = none) (ha : L.ow a = none) (hv : All2 (KnownV C H) vs ks) :
    St C H0 (upd H p.a (.ins C.node dx (nNode.zip [.bl n.up, vN n.clock, vN n.last, vN n.count, .ref p.wl, .ref a]))) (L.newKnown k p a) { s with nodes := s.nodes.set k { n with known := ks } } := by
  have N := S.ns.get k p n hk hn
  obtain ⟨d0, hN⟩ := N.ob
  have i : Imm H (upd H p.a (.ins C.node dx (nNode.zip [.bl n.up, vN n.clock, vN n.last, vN n.count, .ref p.wl, .ref a]))) := .upd hN (imm_obj rfl im_node)
  have o := S.ons k p hk
  have eq : ∀ {b : Addr} {r : Role}, L.ow b = some r → r ≠ .nd k → (upd H p.a (.ins C.node dx (nNode.zip [.bl n.up, vN n.clock, vN n.last, vN n.count, .ref p.wl, .ref a]))) b = H b := fun q d => upd_ne (role_ne q o.1 d)
  have ow : ∀ {b : Addr} {r : Role}, L.ow b = some r → (L.newKnown k p a).ow b = some r := fun {b r} q => by
    show (if b = a then _ else L.ow b) = some r
    have ne : b ≠ a := fun z => by rw [z, ha] at q; cases q
    rw [if_neg ne]; exact q
  have na : a ≠ p.a := fun z => by rw [z, o.1] at ha; cases ha
  have owa : (L.newKnown k p a).ow a = some (.kl k) := if_pos rfl
  refine ⟨S.keep o.1, fun b r q => ?_, fun b r q => ?_, ow S.ow, ow S.oml, ow S.onl, ow S.oll, ow S.osl, fun j x q => ow (S.oms j x q), fun j x q => ?_, fun j x q => ow (S.oss j x q), ?_, (eq S.oml (by simp)).trans S.hml, ?_, S.hll.kept (eq S.oll (by simp)) fun x y z => z.imm i, (eq S.osl (by simp)).trans S.hsl,
    ⟨S.ms.len, fun j x y h1 h2 => (S.ms.get j x y h1 h2).kept i (eq (S.oms j x h1) (by simp))⟩, S.ns.set _ _ ⟨⟨dx, upd_same⟩, N.ws.kept (eq o.2.1 (by simp)) fun x y z => z.imm i, ⟨vs, (upd_ne na).trans h, hv.imp fun x y z => z.imm i⟩⟩ fun j u v ne h1 h2 z => ?_, ⟨S.ss.len, fun j x y h1 h2 => (S.ss.get j x y h1 h2).kept (eq (S.oss j x h1) (by simp))⟩⟩
  · have q : (if b = a then some (Role.kl k) else L.ow b) = some r := q
    by_cases e : b = a
    · rw [e]; exact h0
    · rw [if_neg e] at q; exact S.free b r q
  · have q : (if b = a then some (Role.kl k) else L.ow b) = some r := q
    by_cases e : b = a
    · rw [e, upd_ne na]; exact ⟨_, h⟩
    · rw [if_neg e] at q; exact S.trk' b r q
  · rcases set_get q with ⟨rfl, rfl⟩ | ⟨_, q⟩
    · exact ⟨ow o.1, ow o.2.1, owa⟩
    · exact ⟨ow (S.ons j x q).1, ow (S.ons j x q).2.1, ow (S.ons j x q).2.2⟩
  · obtain ⟨d, e⟩ := S.hw
    exact ⟨d, (eq S.ow (by simp)).trans e⟩
  · show (upd H p.a _) L.nl = some (.lst ((L.ns.set k { p with kl := a }).map fun p => V.ref p.a))
    rw [map_set_same (g := fun (q : NA) => V.ref q.a) (y := { p with kl := a }) hk rfl]
    exact (eq S.onl (by simp)).trans S.hnl
  · obtain ⟨o1, o2, o3⟩ := S.ons j u h1
    exact z.kept i (eq o1 (by simpa using ne)) (eq o2 (by simp)) (eq o3 (by simp))
end
end Hc
set_option Elab.async false
set_option maxRecDepth 100000
set_option maxHeartbeats 4000000
/-! The calls on a world: lose, stop, start. -/
namespace Hc
open PySem PySem.Spec PyProof.Rows L2
open Ag01 (Span Master Ask Node Letter Stamp State Call)
theorem flat_9 {c : Call} {l : List Nat} (h : flat c = (9, l)) : ∃ i, c = .lose i ∧ l = [i] := by
  cases c <;> simp [flat] at h
  exact ⟨_, rfl, h.symm⟩
theorem flat_10 {c : Call} {l : List Nat} (h : flat c = (10, l)) : ∃ i, c = .halt_ i ∧ l = [i] := by
  cases c <;> simp [flat] at h
  exact ⟨_, rfl, h.symm⟩
theorem flat_11 {c : Call} {l : List Nat} (h : flat c = (11, l)) : ∃ i, c = .start i ∧ l = [i] := by
  cases c <;> simp [flat] at h
  exact ⟨_, rfl, h.symm⟩
theorem flat_12 {c : Call} {l : List Nat} (h : flat c = (12, l)) : c = .letters ∧ l = [] := by
  cases c <;> simp [flat] at h
  exact ⟨rfl, h⟩
theorem flat_13 {c : Call} {l : List Nat} (h : flat c = (13, l)) : ∃ i, c = .time i ∧ l = [i] := by
  cases c <;> simp [flat] at h
  exact ⟨_, rfl, h.symm⟩
theorem flat_14 {c : Call} {l : List Nat} (h : flat c = (14, l)) : ∃ i, c = .node i ∧ l = [i] := by
  cases c <;> simp [flat] at h
  exact ⟨_, rfl, h.symm⟩
theorem flat_15 {c : Call} {l : List Nat} (h : flat c = (15, l)) : ∃ i, c = .master i ∧ l = [i] := by
  cases c <;> simp [flat] at h
  exact ⟨_, rfl, h.symm⟩
theorem flat_16 {c : Call} {l : List Nat} (h : flat c = (16, l)) : c = .stamps ∧ l = [] := by
  cases c <;> simp [flat] at h
  exact ⟨rfl, h⟩
section
variable {P : Program} {w : World} {K : PySem.W.Frag} {mg : Str → Option Value} {base : Heap} {C : Cs}
theorem St.nobody {H0 H : Hp} {L : Lay} {s : State} {a : Addr} (S : St C H0 H L s) (h : H a = none) : L.ow a = none := by
  cases e : L.ow a with
  | none => rfl
  | some r =>
    obtain ⟨o, eo⟩ := S.trk a r e
    rw [h] at eo
    cases eo
theorem cal_lose (F : Fn K mg "lose" s_lose) (T : Txt K mg C) (c_there : C8.Cal P w K mg base 1 "there" spThere []) : C8.Cal P w K mg base 2 "lose" (spOn C 9) [] := by
  refine cal_of F sc_lose (fun _ _ _ _ _ _ us hl => match us, hl with | [_, _], _ => rfl) len_on ?_
  rintro f cdv A outer s0 H vs Q E hr ⟨H0, L, s, M, h, l, c, rfl, hc, S, hh, G, hM, k⟩
  obtain ⟨i, rfl, rfl⟩ := flat_9 hc
  have hH := S.same _ _ hh
  obtain ⟨us, hu, au⟩ := S.hll
  refine ⟨_, (pss_cons (ps_if (pt_not (pt_val (C8.pe_c c_there hr (by decide) rfl (pa_cons (pe_fld (pv 0) rfl) (pa_cons (pe_ix ix_list (pv 1) pe_int (fun _ _ => rfl)) pa_nil))))) (pss_one (ps_ret (pe_lst (pa_cons (pe_const rfl T.gNOT_FITTING) pa_nil)))) pss_nil)
    (pss_cons (ps_expr (pe_bm PySem.F.plainAttrs_list PySem.F.slot_list_pop PySem.F.type_list_pop mt_popAt (pe_fld (pv 0) rfl) (pa_cons (pe_ix ix_list (pv 1) pe_int (fun _ _ => rfl)) pa_nil)))
    (pss_one (ps_ret (pe_lst (pa_cons (pe_const rfl T.gDONE) pa_nil)))))), ?_⟩
  refine ⟨_, rfl, rd S.hw T.world (i := 6) (by decide +kernel) rfl ⟨_, rfl, h, _, _, _, rfl, rfl, SqL.of hH, rfl, L.ll, _, i, s.letters.length, rfl, hu, au.len, _, rfl, ?_⟩⟩
  by_cases c1 : i < s.letters.length
  · rw [decide_eq_true c1]
    obtain ⟨x, hx⟩ : ∃ x, s.letters[i]? = some x := ⟨_, List.getElem?_eq_getElem c1⟩
    obtain ⟨v, hv, lv⟩ := au.left hx
    have hlt : i < us.length := by rw [au.len]; exact c1
    have hsmall : (i : Int) < 2 ^ 63 := by
      have := G.ll
      have : (i : Int) < 1000 := by omega
      exact Int.lt_of_lt_of_le this (by decide)
    refine iteF ⟨_, rfl, rd S.hw T.world (i := 6) (by decide +kernel) rfl ⟨.inl ⟨rfl, _, SqL.of hu⟩, _, rfl, h, _, _, _, rfl, rfl, SqL.of hH, rfl, L.ll, us, _, i, _, rfl, rfl, hu, by omega, hsmall, seq_nat hlt, hv, ?_⟩⟩
    have S1 := S.setLetters (au.erase i)
    refine ⟨by decide, ret_on k S1 rfl (ans := [0]) ?_⟩
    simp only [Ag01.step]
    rw [if_neg (by omega)]
  · rw [decide_eq_false c1]
    refine iteT ⟨by decide, ret_on k S rfl (ans := [-1]) ?_⟩
    simp only [Ag01.step]
    rw [if_pos (by omega)]
theorem cal_stop (F : Fn K mg "stop" s_stop) (T : Txt K mg C) (c_there : C8.Cal P w K mg base 1 "there" spThere []) : C8.Cal P w K mg base 2 "stop" (spOn C 10) [] := by
  refine cal_of F sc_stop (fun _ _ _ _ _ _ us hl => match us, hl with | [_, _], _ => rfl) len_on ?_
  rintro f cdv A outer s0 H vs Q E hr ⟨H0, L, s, M, h, l, c, rfl, hc, S, hh, G, hM, k⟩
  obtain ⟨i, rfl, rfl⟩ := flat_10 hc
  have hH := S.same _ _ hh
  refine ⟨_, (pss_cons (ps_if (pt_not (pt_val (C8.pe_c c_there hr (by decide) rfl (pa_cons (pe_fld (pv 0) rfl) (pa_cons (pe_ix ix_list (pv 1) pe_int (fun _ _ => rfl)) pa_nil))))) (pss_one (ps_ret (pe_lst (pa_cons (pe_const rfl T.gNOT_FITTING) pa_nil)))) pss_nil)
    (pss_cons (ps_set (i := 2) sc_stop.nd rfl (.inl rfl) (pe_ix ix_list (pe_fld (pv 0) rfl) (pe_ix ix_list (pv 1) pe_int (fun _ _ => rfl)) (fun _ _ => rfl)))
    (pss_cons (ps_if (pt_not (pt_val (pe_fld (pv 2) rfl))) (pss_one (ps_ret (pe_lst (pa_cons (pe_const rfl T.gSO_ALREADY) pa_nil)))) pss_nil)
    (pss_cons (ps_fld (pv 2) pe_bl rfl)
    (pss_one (ps_ret (pe_lst (pa_cons (pe_const rfl T.gDONE) pa_nil)))))))), ?_⟩
  refine ⟨_, rfl, rd S.hw T.world (i := 5) (by decide +kernel) rfl ⟨_, rfl, h, _, _, _, rfl, rfl, SqL.of hH, rfl, L.nl, _, i, s.nodes.length, rfl, S.hnl, S.nlen, _, rfl, ?_⟩⟩
  by_cases c1 : i < s.nodes.length
  · rw [decide_eq_true c1]
    obtain ⟨n, hn⟩ : ∃ n, s.nodes[i]? = some n := ⟨_, List.getElem?_eq_getElem c1⟩
    obtain ⟨p, hp, N, hp'⟩ := S.node hn
    refine iteF ⟨_, rfl, rd S.hw T.world (i := 5) (by decide +kernel) rfl ⟨_, rfl, h, _, _, _, rfl, rfl, SqL.of hH, rfl, L.nl, _, _, _, rfl, rfl, SqL.of S.hnl, atI_nat hp', ?_⟩⟩
    refine ⟨_, rfl, rd N.ob T.node (i := 0) (by decide +kernel) rfl ⟨_, rfl, ?_⟩⟩
    cases hup : n.up with
    | false =>
      refine iteT ⟨by decide, ret_on k S rfl (ans := [-2]) ?_⟩
      simp only [Ag01.step]
      rw [if_neg (by omega), node_of hn, if_pos hup]
    | true =>
      obtain ⟨dn, hob⟩ := N.ob
      refine iteF ⟨_, rfl, wr hob T.node (i := 0) (by decide +kernel) rfl (by decide) ?_⟩
      have S1 := S.setNode (dx := dn) hp hn false n.clock n.last n.count
      refine ⟨by decide, ret_on k S1 rfl (ans := [0]) ?_⟩
      simp only [Ag01.step]
      rw [if_neg (by omega), node_of hn, if_neg (by rw [hup]; simp)]
      rfl
  · rw [decide_eq_false c1]
    refine iteT ⟨by decide, ret_on k S rfl (ans := [-1]) ?_⟩
    simp only [Ag01.step]
    rw [if_pos (by omega)]
/-- a node's memory as at first -/
def spForget (C : Cs) : Sp := fun vs H Q _ => ∃ (H0 : Hp) (L : Lay) (s : State) (i : Nat) (p : NA) (n : Node), vs = [.ref p.a] ∧ St C H0 H L s ∧ L.ns[i]? = some p ∧ s.nodes[i]? = some n ∧ n.known.length ≤ 5 ∧
  ∀ H' L', L'.w = L.w → St C H0 H' L' { s with nodes := s.nodes.set i { n with asks := [], known := List.replicate n.known.length none } } → Q .non H'
theorem cal_forget (F : Fn K mg "forget" s_forget) (T : Txt K mg C) : C8.Cal P w K mg base 1 "forget" (spForget C) [] := by
  refine cal_of F sc_forget (fun _ _ _ _ _ _ us hl => match us, hl with | [_], _ => rfl) (fun vs H Q E ⟨_, _, _, _, _, _, e, _⟩ => by rw [e]; rfl) ?_
  rintro f cdv A outer s0 H vs Q E hr ⟨H0, L, s, i, p, n, rfl, S, hp, hn, h5, k⟩
  have hi : i < s.nodes.length := (List.getElem?_eq_some_iff.mp hn).1
  have hiL : i < L.ns.length := (List.getElem?_eq_some_iff.mp hp).1
  refine ⟨_, (pss_cons (ps_fld (pv 0) (pe_lst pa_nil) rfl)
    (pss_one (ps_fld (pv 0) (pe_op op_rep (pe_lst (pa_cons pe_non pa_nil)) (pe_callB call_len_seq (by rfl) T.len PySem.boot_len (pa_cons (pe_fld (pv 0) rfl) pa_nil))) rfl))), ?_⟩
  -- node.waiting = []
  refine ⟨Nat.zero_le _, fun wl hwl => ?_⟩
  have sm1 : Same H (upd H wl (.lst [])) := Hc.Same.upd hwl
  have S1 := S.more sm1
  have hw1 : (upd H wl (.lst [])) wl = some (.lst []) := upd_same
  generalize upd H wl (.lst []) = H1 at sm1 S1 hw1 ⊢
  have N1 := S1.ns.get i p n hp hn
  obtain ⟨dn, hob⟩ := N1.ob
  refine ⟨_, rfl, wr hob T.node (i := 4) (by decide +kernel) rfl (by decide) ?_⟩
  have S2 := S1.newWait (dx := dn) (as := []) hp hn hw1 (S.same.free hwl) (S.nobody hwl) All2.nil
  have hp2 : (L.newWait i p wl).ns[i]? = some { p with wl := wl } := by
    show (L.ns.set i _)[i]? = _
    rw [List.getElem?_set_self hiL]
  have hn2 : ({ s with nodes := s.nodes.set i { n with asks := [] } } : State).nodes[i]? = some { n with asks := [] } := by
    show (s.nodes.set i _)[i]? = _
    rw [List.getElem?_set_self hi]
  -- node.known = [None] * len(node.known)
  refine ⟨one_le, fun t ht => ?_⟩
  have S3 := S2.more (Hc.Same.upd (o := .lst [.non]) ht)
  have ht3 : (upd (upd H1 p.a (.ins C.node dn (nNode.zip [.bl n.up, vN n.clock, vN n.last, vN n.count, .ref wl, .ref p.kl]))) t (.lst [.non])) t = some (.lst [.non]) := upd_same
  have N3 := S3.ns.get i _ _ hp2 hn2
  obtain ⟨us, hu, au⟩ := N3.ks
  have hul : us.length = n.known.length := au.len
  refine ⟨_, rfl, rd N3.ob T.node (i := 5) (by decide +kernel) rfl ⟨p.kl, us, rfl, .inl (SqL.of hu), t, _, _, rfl, rfl, ht3, by omega, by omega, ?_, fun kl hkl => ?_⟩⟩
  · show 1 * us.length ≤ sizeLine
    rw [Nat.one_mul, hul]
    exact Nat.le_trans h5 (by decide)
  rw [rep_non, hul]
  have S4 := S3.more (Hc.Same.upd (o := .lst (List.replicate n.known.length .non)) hkl)
  have N4 := S4.ns.get i _ _ hp2 hn2
  obtain ⟨dn4, hob4⟩ := N4.ob
  refine ⟨_, rfl, wr hob4 T.node (i := 5) (by decide +kernel) rfl (by decide) ?_⟩
  have S5 := S4.newKnown (dx := dn4) (ks := List.replicate n.known.length none) hp2 hn2 upd_same (S3.same.free hkl) (S3.nobody hkl) (All2.rep _ rfl)
  refine k _ ((L.newWait i p wl).newKnown i { p with wl := wl } kl) rfl ?_
  have e : ({ s with nodes := (s.nodes.set i { n with asks := [] }).set i { n with asks := [], known := List.replicate n.known.length none } } : State) = { s with nodes := s.nodes.set i { n with asks := [], known := List.replicate n.known.length none } } := by
    rw [List.set_set]
  rw [← e]
  exact S5
theorem cal_start (F : Fn K mg "start" s_start) (T : Txt K mg C) (c_there : C8.Cal P w K mg base 1 "there" spThere []) (c_forget : C8.Cal P w K mg base 1 "forget" (spForget C) []) : C8.Cal P w K mg base 2 "start" (spOn C 11) [] := by
  refine cal_of F sc_start (fun _ _ _ _ _ _ us hl => match us, hl with | [_, _], _ => rfl) len_on ?_
  rintro f cdv A outer s0 H vs Q E hr ⟨H0, L, s, M, h, l, c, rfl, hc, S, hh, G, hM, k⟩
  obtain ⟨i, rfl, rfl⟩ := flat_11 hc
  have hH := S.same _ _ hh
  refine ⟨_, (pss_cons (ps_if (pt_not (pt_val (C8.pe_c c_there hr (by decide) rfl (pa_cons (pe_fld (pv 0) rfl) (pa_cons (pe_ix ix_list (pv 1) pe_int (fun _ _ => rfl)) pa_nil))))) (pss_one (ps_ret (pe_lst (pa_cons (pe_const rfl T.gNOT_FITTING) pa_nil)))) pss_nil)
    (pss_cons (ps_set (i := 2) sc_start.nd rfl (.inl rfl) (pe_ix ix_list (pe_fld (pv 0) rfl) (pe_ix ix_list (pv 1) pe_int (fun _ _ => rfl)) (fun _ _ => rfl)))
    (pss_cons (ps_if (pt_val (pe_fld (pv 2) rfl)) (pss_one (ps_ret (pe_lst (pa_cons (pe_const rfl T.gSO_ALREADY) pa_nil)))) pss_nil)
    (pss_cons (ps_fld (pv 2) pe_bl rfl)
    (pss_cons (ps_expr (C8.pe_c c_forget hr (by decide) rfl (pa_cons (pv 2) pa_nil)))
    (pss_one (ps_ret (pe_lst (pa_cons (pe_const rfl T.gDONE) pa_nil))))))))), ?_⟩
  refine ⟨_, rfl, rd S.hw T.world (i := 5) (by decide +kernel) rfl ⟨_, rfl, h, _, _, _, rfl, rfl, SqL.of hH, rfl, L.nl, _, i, s.nodes.length, rfl, S.hnl, S.nlen, _, rfl, ?_⟩⟩
  by_cases c1 : i < s.nodes.length
  · rw [decide_eq_true c1]
    obtain ⟨n, hn⟩ : ∃ n, s.nodes[i]? = some n := ⟨_, List.getElem?_eq_getElem c1⟩
    obtain ⟨p, hp, N, hp'⟩ := S.node hn
    have gn : GNode s.masters.length M n := G.nodes n (List.mem_of_getElem? hn)
    refine iteF ⟨_, rfl, rd S.hw T.world (i := 5) (by decide +kernel) rfl ⟨_, rfl, h, _, _, _, rfl, rfl, SqL.of hH, rfl, L.nl, _, _, _, rfl, rfl, SqL.of S.hnl, atI_nat hp', ?_⟩⟩
    refine ⟨_, rfl, rd N.ob T.node (i := 0) (by decide +kernel) rfl ⟨_, rfl, ?_⟩⟩
    cases hup : n.up with
    | true =>
      refine iteT ⟨by decide, ret_on k S rfl (ans := [-2]) ?_⟩
      simp only [Ag01.step]
      rw [if_neg (by omega), node_of hn, if_pos hup]
    | false =>
      obtain ⟨dn, hob⟩ := N.ob
      refine iteF ⟨_, rfl, wr hob T.node (i := 0) (by decide +kernel) rfl (by decide) ?_⟩
      have S1 := S.setNode (dx := dn) hp hn true n.clock n.last n.count
      have hn1 : ({ s with nodes := s.nodes.set i { n with up := true, clock := n.clock, last := n.last, count := n.count } } : State).nodes[i]? = some { n with up := true } := by
        show (s.nodes.set i _)[i]? = _
        rw [List.getElem?_set_self c1]
      refine ⟨_, rfl, H0, L, _, i, p, _, rfl, S1, hp, hn1, by show n.known.length ≤ 5; rw [gn.kn]; exact G.m, fun H2 L9 hw2 S2 => ?_⟩
      refine ⟨by decide, ret_on k S2 hw2 (ans := [0]) ?_⟩
      simp only [Ag01.step]
      rw [if_neg (by omega), node_of hn, if_neg (by rw [hup]; simp)]
      unfold Ag01.setNode
      rw [← gn.kn]
      show _ = (some ({ s with nodes := (s.nodes.set i _).set i _ } : State), _)
      rw [List.set_set]
  · rw [decide_eq_false c1]
    refine iteT ⟨by decide, ret_on k S rfl (ans := [-1]) ?_⟩
    simp only [Ag01.step]
    rw [if_pos (by omega)]
end
end Hc
set_option Elab.async false
set_option maxRecDepth 100000
set_option maxHeartbeats 4000000
/-! What a world tells of itself: letters, time, node, master, stamps. -/
namespace Hc
open PySem PySem.Spec PyProof.Rows L2
open Ag01 (Span Master Ask Node Letter Stamp State Call)
/-- a new list of whole numbers, and nothing else changed -/
def NewL (H : Hp) (Q : VK) (ans : List Int) : Prop := ∀ p H', H p = none → Same H H' → H' p = some (.lst (ans.map V.int)) → Q (.ref p) H'
theorem ret_new {H H1 : Hp} {Q : VK} {ans : List Int} (k : NewL H Q ans) (sm : Same H H1) : ∀ p, H1 p = none → Q (.ref p) (upd H1 p (.lst (ans.map V.int))) := fun p hp => k p _ (sm.free hp) (sm.trans (Hc.Same.upd hp)) upd_same
theorem NewL.more {H H1 : Hp} {Q : VK} {ans : List Int} (k : NewL H Q ans) (sm : Same H H1) : NewL H1 Q ans := fun p H' hp s h => k p H' (sm.free hp) (sm.trans s) h
theorem show_on {C : Cs} {H0 H : Hp} {L : Lay} {s : State} {c : Call} {Q : VK} {ans : List Int} (k : ∀ H' L' s' p, (Ag01.step (some s) c).1 = some s' → St C H0 H' L' s' → L'.w = L.w → H0 p = none → H' p = some (.lst ((Ag01.step (some s) c).2.map V.int)) → Q (.ref p) H')
    (S : St C H0 H L s) (e : Ag01.step (some s) c = (some s, ans)) : NewL H Q ans := fun p H' hp sm h => k H' L s p (by rw [e]) (S.more sm) rfl (S.same.free hp) (by rw [e]; exact h)
theorem tIf_bit {σ : L2.St} {H : Hp} {Q : VK} {b : Bool} (q : Q (vN (Ag01.bit b)) H) : if b = true then tC (.int 1) σ H Q else tC (.int 0) σ H Q := by
  cases b
  · exact iteF q
  · exact iteT q
theorem take_flat {α β : Type} {xs : List α} {f : α → List β} {j : Nat} {x : α} (h : xs[j]? = some x) : (xs.take (j + 1)).flatMap f = (xs.take j).flatMap f ++ f x := by
  rw [List.take_add_one, h, List.flatMap_append]
  simp
theorem flat_len {α β : Type} {f : α → List β} {c : Nat} (h : ∀ x, (f x).length ≤ c) : ∀ l : List α, (l.flatMap f).length ≤ c * l.length
  | [] => Nat.zero_le _
  | x :: l => by
    have ih := flat_len h l
    have hx := h x
    rw [List.flatMap_cons, List.length_append, List.length_cons, Nat.mul_succ]
    omega
theorem nums_flat {α : Type} (f : α → List Nat) (l : List α) : Ag01.nums (l.flatMap f) = l.flatMap fun x => Ag01.nums (f x) := by
  unfold Ag01.nums
  rw [List.map_flatMap]
theorem three_le : 3 ≤ sizeLine := by decide
theorem four_le : 4 ≤ sizeLine := by decide
theorem five_le : 5 ≤ sizeLine := by decide
theorem six_le : 6 ≤ sizeLine := by decide
theorem big_le : 100000 ≤ sizeLine := by decide
/-! ### what is told of each -/
def letterN (x : Letter) : List Nat := [x.kind, x.node, x.master, x.num] ++ (if x.kind = 0 then [] else [x.says.1, x.says.2])
def knownI (x : Option (Nat × Span)) : List Int := match x with
  | none => [-1, -1, -1]
  | some y => Ag01.nums [y.1, y.2.1, y.2.2]
def stampI (x : Stamp) : List Int := Ag01.nums [x.node, x.value, x.begun] ++ [match x.ended with
  | none => -1
  | some e => (e : Int)]
def askN (a : Ask) : List Nat := [a.num, a.master, a.sent]
theorem letter_len (x : Letter) : (Ag01.nums (letterN x)).length ≤ 6 := by
  unfold Ag01.nums letterN
  split <;> simp
theorem known_len (x : Option (Nat × Span)) : (knownI x).length ≤ 3 := by
  cases x <;> simp [knownI, Ag01.nums]
theorem stamp_len (x : Stamp) : (stampI x).length ≤ 4 := by
  simp [stampI, Ag01.nums]
theorem ask_len (x : Ask) : (Ag01.nums (askN x)).length ≤ 3 := by
  simp [askN, Ag01.nums]
section
variable {P : Program} {w : World} {K : PySem.W.Frag} {mg : Str → Option Value} {base : Heap} {C : Cs}
def spEnds (C : Cs) : Sp := fun vs H Q _ => ∃ (a : Addr) (x : Span), vs = [.ref a] ∧ SpanAt C H a x ∧ NewL H Q (Ag01.nums [x.1, x.2])
theorem cal_ends (F : Fn K mg "ends" s_ends) (T : Txt K mg C) : C8.Cal P w K mg base 1 "ends" (spEnds C) [] := by
  refine cal_of F sc_ends (fun _ _ _ _ _ _ us hl => match us, hl with | [_], _ => rfl) (fun vs H Q E ⟨_, _, e, _⟩ => by rw [e]; rfl) ?_
  rintro f cdv A outer s0 H vs Q E hr ⟨a, x, rfl, h, k⟩
  refine ⟨_, (pss_one (ps_ret (pe_lst (pa_cons (pe_fld (pv 0) rfl) (pa_cons (pe_fld (pv 0) rfl) pa_nil))))), ?_⟩
  exact ⟨_, rfl, rd h T.span (i := 0) (by decide +kernel) rfl ⟨_, rfl, rd h T.span (i := 1) (by decide +kernel) rfl ⟨two_le, ret_new k (.refl H)⟩⟩⟩
def spLetterShown (C : Cs) : Sp := fun vs H Q _ => ∃ (a : Addr) (x : Letter), vs = [.ref a] ∧ LetterV C H (.ref a) x ∧ NewL H Q (Ag01.nums (letterN x))
theorem cal_letter_shown (F : Fn K mg "letter_shown" s_letter_shown) (T : Txt K mg C) (c_ends : C8.Cal P w K mg base 1 "ends" (spEnds C) []) : C8.Cal P w K mg base 2 "letter_shown" (spLetterShown C) [] := by
  refine cal_of F sc_letter_shown (fun _ _ _ _ _ _ us hl => match us, hl with | [_], _ => rfl) (fun vs H Q E ⟨_, _, e, _⟩ => by rw [e]; rfl) ?_
  rintro f cdv A outer s0 H vs Q E hr ⟨a, x, rfl, ⟨a', sp, ea, ho, hs⟩, k⟩
  injection ea with ea
  subst ea
  refine ⟨_, (pss_cons (ps_set (i := 1) sc_letter_shown.nd rfl (.inl rfl) (pe_lst (pa_cons (pe_fld (pv 0) rfl) (pa_cons (pe_fld (pv 0) rfl) (pa_cons (pe_fld (pv 0) rfl) (pa_cons (pe_fld (pv 0) rfl) pa_nil))))))
    (pss_cons (ps_if (pt_cmpR op_notN (pe_fld (pv 0) rfl) pe_non (nomark _)) (pss_one (ps_expr (pe_bm PySem.F.plainAttrs_list PySem.F.slot_list_extend PySem.F.type_list_extend mt_extend (pv 1) (pa_cons (C8.pe_c c_ends hr (by decide) rfl (pa_cons (pe_fld (pv 0) rfl) pa_nil)) pa_nil)))) pss_nil)
    (pss_one (ps_ret (pv 1))))), ?_⟩
  refine ⟨_, rfl, rd ho T.letter (i := 0) (by decide +kernel) rfl ⟨_, rfl, rd ho T.letter (i := 1) (by decide +kernel) rfl ⟨_, rfl, rd ho T.letter (i := 2) (by decide +kernel) rfl ⟨_, rfl, rd ho T.letter (i := 3) (by decide +kernel) rfl ⟨four_le, fun D hD => ?_⟩⟩⟩⟩⟩
  have sm1 : Same H (upd H D (.lst [vN x.kind, vN x.node, vN x.master, vN x.num])) := Hc.Same.upd hD
  have hD1 : (upd H D (.lst [vN x.kind, vN x.node, vN x.master, vN x.num])) D = some (.lst [vN x.kind, vN x.node, vN x.master, vN x.num]) := upd_same
  have ho1 := Hc.Same.obj sm1 ho
  generalize upd H D (.lst [vN x.kind, vN x.node, vN x.master, vN x.num]) = H1 at sm1 hD1 ho1 ⊢
  refine ⟨_, rfl, rd ho1 T.letter (i := 4) (by decide +kernel) rfl ⟨rfl, _, rfl, ?_⟩⟩
  by_cases c : x.kind = 0
  · rw [if_pos c] at hs
    obtain rfl : sp = V.non := hs
    refine iteF ⟨_, rfl, k D H1 hD sm1 ?_⟩
    rw [hD1]
    unfold letterN
    rw [if_pos c]
    rfl
  · rw [if_neg c] at hs
    obtain ⟨b, rfl, hb⟩ := hs
    refine iteT ⟨_, rfl, .inl ⟨rfl, _, SqL.of hD1⟩, _, rfl, rd ho1 T.letter (i := 4) (by decide +kernel) rfl ⟨b, x.says, rfl, hb.imm (.of sm1), fun p H2 hp sm2 hp2 => ?_⟩⟩
    refine ⟨D, p, _, _, rfl, rfl, sm2 _ _ hD1, hp2, six_le, _, rfl, k D _ hD (fun c u e => ?_) ?_⟩
    · rw [upd_ne (ne_of_none e hD)]; exact sm2 _ _ (sm1 _ _ e)
    · rw [upd_same]
      unfold letterN
      rw [if_neg c]
      rfl
def spLettersShown (C : Cs) : Sp := fun vs H Q _ => ∃ (H0 : Hp) (L : Lay) (s : State), vs = [.ref L.w] ∧ St C H0 H L s ∧ s.letters.length ≤ 100 ∧ NewL H Q ((s.letters.length : Int) :: s.letters.flatMap fun x => Ag01.nums (letterN x))
theorem cal_letters_shown (F : Fn K mg "letters_shown" s_letters_shown) (T : Txt K mg C) (c_letter_shown : C8.Cal P w K mg base 2 "letter_shown" (spLetterShown C) []) : C8.Cal P w K mg base 3 "letters_shown" (spLettersShown C) [] := by
  refine cal_of F sc_letters_shown (fun _ _ _ _ _ _ us hl => match us, hl with | [_], _ => rfl) (fun vs H Q E ⟨_, _, _, e, _⟩ => by rw [e]; rfl) ?_
  rintro f cdv A outer s0 H vs Q E hr ⟨H0, L, s, rfl, S, hl, k⟩
  obtain ⟨us, hu, au⟩ := S.hll
  refine ⟨_, (pss_cons (ps_set (i := 1) sc_letters_shown.nd rfl (.inl rfl) (pe_lst (pa_cons (pe_callB call_len_seq (by rfl) T.len PySem.boot_len (pa_cons (pe_fld (pv 0) rfl) pa_nil)) pa_nil)))
    (pss_cons (ps_for PassesOwn.never rfl (pi_list (pe_fld (pv 0) rfl)) (pg_name (i := 2) sc_letters_shown.nd rfl (.inl rfl)) (pss_one (ps_expr (pe_bm PySem.F.plainAttrs_list PySem.F.slot_list_extend PySem.F.type_list_extend mt_extend (pv 1) (pa_cons (C8.pe_c c_letter_shown hr (by decide) rfl (pa_cons (pv 2) pa_nil)) pa_nil)))))
    (pss_one (ps_ret (pv 1))))), ?_⟩
  refine ⟨_, rfl, rd S.hw T.world (i := 6) (by decide +kernel) rfl ⟨L.ll, us, rfl, .inl (SqL.of hu), one_le, fun D hD => ?_⟩⟩
  rw [au.len]
  have sm1 : Same H (upd H D (.lst [.int (s.letters.length : Nat)])) := Hc.Same.upd hD
  have hD1 : (upd H D (.lst [.int (s.letters.length : Nat)])) D = some (.lst [.int (s.letters.length : Nat)]) := upd_same
  generalize upd H D (.lst [.int (s.letters.length : Nat)]) = H1 at sm1 hD1 ⊢
  have S1 := S.more sm1
  refine ⟨_, rfl, rd S1.hw T.world (i := 6) (by decide +kernel) rfl ⟨L.ll, rfl, ⟨_, SqL.of (sm1 _ _ hu)⟩, for_list (K := K) (a := L.ll) (xs := us) (fun j σ H' => ∃ v2, σ = [some (.ref L.w), some (.ref D), v2] ∧ Same H H' ∧ H' D = some (.lst (((s.letters.length : Int) :: (s.letters.take j).flatMap fun x => Ag01.nums (letterN x)).map V.int)))
    ⟨none, rfl, sm1, hD1⟩ (fun j σ H' _ ⟨_, _, q, _⟩ => SqL.of (q _ _ hu)) ?_ ?_⟩⟩
  · rintro j v σ H2 hj ⟨v2, rfl, sm, hD2⟩
    obtain ⟨x, hx, lv⟩ := au.right hj
    obtain ⟨b, sp, rfl, ho, hs⟩ := id lv
    refine ⟨_, rfl, .inl ⟨rfl, _, SqL.of hD2⟩, _, rfl, b, x, rfl, lv.imm (.of sm), fun p H3 hp sm3 hp3 => ?_⟩
    refine ⟨D, p, _, _, rfl, rfl, sm3 _ _ hD2, hp3, ?_, _, rfl, fun c u e => ?_, ?_⟩
    · have h1 := flat_len letter_len (s.letters.take j)
      have h2 := letter_len x
      have h3 : (s.letters.take j).length ≤ 100 := by rw [List.length_take]; omega
      refine Nat.le_trans ?_ big_le
      rw [List.length_map, List.length_map, List.length_cons]
      omega
    · rw [upd_ne (ne_of_none e hD)]; exact sm3 _ _ (sm _ _ e)
    · rw [upd_same, take_flat hx, ← List.map_append]
      rfl
  · rintro σ H2 ⟨v2, rfl, sm, hD2⟩
    rw [List.take_of_length_le (by rw [au.len]; exact Nat.le_refl _)] at hD2
    exact ⟨_, rfl, k D H2 hD sm hD2⟩
theorem cal_show_letters (F : Fn K mg "show_letters" s_show_letters) (T : Txt K mg C) (c_letters_shown : C8.Cal P w K mg base 3 "letters_shown" (spLettersShown C) []) : C8.Cal P w K mg base 4 "show_letters" (spOn C 12) [] := by
  refine cal_of F sc_show_letters (fun _ _ _ _ _ _ us hl => match us, hl with | [_, _], _ => rfl) len_on ?_
  rintro f cdv A outer s0 H vs Q E hr ⟨H0, L, s, M, h, l, c, rfl, hc, S, hh, G, hM, k⟩
  obtain ⟨rfl, rfl⟩ := flat_12 hc
  refine ⟨_, (pss_one (ps_ret (C8.pe_c c_letters_shown hr (by decide) rfl (pa_cons (pv 0) pa_nil)))), ?_⟩
  refine ⟨_, rfl, H0, L, s, rfl, S, G.ll, show_on k S ?_⟩
  rw [← nums_flat]
  rfl
/-! ### time -/
def spTimeShown (C : Cs) : Sp := fun vs H Q _ => ∃ (H0 : Hp) (L : Lay) (s : State) (i : Nat) (p : NA) (n : Node), vs = [.ref L.w, .ref p.a] ∧ St C H0 H L s ∧ L.ns[i]? = some p ∧ s.nodes[i]? = some n ∧
  n.known.length ≤ 5 ∧ (∀ t x, some (t, x) ∈ n.known → t ≤ n.clock) ∧ s.wrong ≤ 200 ∧ NewL H Q (Ag01.spanOf (Ag01.time s i))
theorem cal_time_shown (F : Fn K mg "time_shown" s_time_shown) (T : Txt K mg C) (c_ends : C8.Cal P w K mg base 1 "ends" (spEnds C) []) (c_time_by : C8.Cal P w K mg base 5 "time_by" (spTimeBy C) []) : C8.Cal P w K mg base 6 "time_shown" (spTimeShown C) [] := by
  refine cal_of F sc_time_shown (fun _ _ _ _ _ _ us hl => match us, hl with | [_, _], _ => rfl) (fun vs H Q E ⟨_, _, _, _, _, _, e, _⟩ => by rw [e]; rfl) ?_
  rintro f cdv A outer s0 H vs Q E hr ⟨H0, L, s, i, p, n, rfl, S, hp, hn, h5, ht, hw, k⟩
  refine ⟨_, (pss_cons (ps_set (i := 2) sc_time_shown.nd rfl (.inl rfl) (C8.pe_c c_time_by hr (by decide) rfl (pa_cons (pv 0) (pa_cons (pv 1) pa_nil))))
    (pss_cons (ps_if (pt_cmpR op_isN (pv 2) pe_non (nomark _)) (pss_one (ps_ret (pe_lst (pa_cons (pe_const rfl T.gNONE_YET) (pa_cons (pe_const rfl T.gNONE_YET) pa_nil))))) pss_nil)
    (pss_one (ps_ret (C8.pe_c c_ends hr (by decide) rfl (pa_cons (pv 2) pa_nil)))))), ?_⟩
  refine ⟨_, rfl, _, rfl, H0, L, s, i, p, n, rfl, S, hp, hn, h5, ht, hw, fun et H1 sm => ?_, fun x et q H1 sm hq => ?_⟩
  · rw [et] at k
    exact ⟨_, rfl, rfl, _, rfl, iteT ⟨two_le, ret_new k sm⟩⟩
  · rw [et] at k
    exact ⟨_, rfl, rfl, _, rfl, iteF ⟨_, rfl, q, x, rfl, hq, k.more sm⟩⟩
theorem cal_show_time (F : Fn K mg "show_time" s_show_time) (T : Txt K mg C) (c_there : C8.Cal P w K mg base 1 "there" spThere []) (c_time_shown : C8.Cal P w K mg base 6 "time_shown" (spTimeShown C) []) : C8.Cal P w K mg base 7 "show_time" (spOn C 13) [] := by
  refine cal_of F sc_show_time (fun _ _ _ _ _ _ us hl => match us, hl with | [_, _], _ => rfl) len_on ?_
  rintro f cdv A outer s0 H vs Q E hr ⟨H0, L, s, M, h, l, c, rfl, hc, S, hh, G, hM, k⟩
  obtain ⟨i, rfl, rfl⟩ := flat_13 hc
  have hH := S.same _ _ hh
  refine ⟨_, (pss_cons (ps_if (pt_not (pt_val (C8.pe_c c_there hr (by decide) rfl (pa_cons (pe_fld (pv 0) rfl) (pa_cons (pe_ix ix_list (pv 1) pe_int (fun _ _ => rfl)) pa_nil))))) (pss_one (ps_ret (pe_lst (pa_cons (pe_const rfl T.gNOT_FITTING) pa_nil)))) pss_nil)
    (pss_one (ps_ret (C8.pe_c c_time_shown hr (by decide) rfl (pa_cons (pv 0) (pa_cons (pe_ix ix_list (pe_fld (pv 0) rfl) (pe_ix ix_list (pv 1) pe_int (fun _ _ => rfl)) (fun _ _ => rfl)) pa_nil)))))), ?_⟩
  refine ⟨_, rfl, rd S.hw T.world (i := 5) (by decide +kernel) rfl ⟨_, rfl, h, _, _, _, rfl, rfl, SqL.of hH, rfl, L.nl, _, i, s.nodes.length, rfl, S.hnl, S.nlen, _, rfl, ?_⟩⟩
  by_cases c1 : i < s.nodes.length
  · rw [decide_eq_true c1]
    obtain ⟨n, hn⟩ : ∃ n, s.nodes[i]? = some n := ⟨_, List.getElem?_eq_getElem c1⟩
    obtain ⟨p, hp, N, hp'⟩ := S.node hn
    have gn : GNode s.masters.length M n := G.nodes n (List.mem_of_getElem? hn)
    refine iteF ⟨_, rfl, _, rfl, rd S.hw T.world (i := 5) (by decide +kernel) rfl ⟨_, rfl, h, _, _, _, rfl, rfl, SqL.of hH, rfl, L.nl, _, _, _, rfl, rfl, SqL.of S.hnl, atI_nat hp', ?_⟩⟩
    refine ⟨H0, L, s, i, p, n, rfl, S, hp, hn, by rw [gn.kn]; exact G.m, gn.kt, G.w, show_on k S ?_⟩
    simp only [Ag01.step]
    rw [if_neg (by omega)]
  · rw [decide_eq_false c1]
    refine iteT ⟨by decide, ret_on k S rfl (ans := [-1]) ?_⟩
    simp only [Ag01.step]
    rw [if_pos (by omega)]
/-! ### node -/
def spKnownShown (C : Cs) : Sp := fun vs H Q _ => ∃ (v : V) (x : Option (Nat × Span)), vs = [v] ∧ KnownV C H v x ∧ NewL H Q (knownI x)
theorem cal_known_shown (F : Fn K mg "known_shown" s_known_shown) (T : Txt K mg C) (c_ends : C8.Cal P w K mg base 1 "ends" (spEnds C) []) : C8.Cal P w K mg base 2 "known_shown" (spKnownShown C) [] := by
  refine cal_of F sc_known_shown (fun _ _ _ _ _ _ us hl => match us, hl with | [_], _ => rfl) (fun vs H Q E ⟨_, _, e, _⟩ => by rw [e]; rfl) ?_
  rintro f cdv A outer s0 H vs Q E hr ⟨v, x, rfl, hv, k⟩
  refine ⟨_, (pss_cons (ps_if (pt_cmpR op_isN (pv 0) pe_non (nomark _)) (pss_one (ps_ret (pe_lst (pa_cons (pe_const rfl T.gNONE_YET) (pa_cons (pe_const rfl T.gNONE_YET) (pa_cons (pe_const rfl T.gNONE_YET) pa_nil)))))) pss_nil)
    (pss_one (ps_ret (pe_op op_cat (pe_lst (pa_cons (pe_fld (pv 0) rfl) pa_nil)) (C8.pe_c c_ends hr (by decide) rfl (pa_cons (pe_fld (pv 0) rfl) pa_nil)))))), ?_⟩
  refine ⟨_, rfl, rfl, _, rfl, ?_⟩
  cases x with
  | none =>
    obtain rfl : v = V.non := hv
    exact iteT ⟨three_le, ret_new k (.refl H)⟩
  | some y =>
    obtain ⟨a, b, rfl, ho, hb⟩ := hv
    refine iteF ⟨_, rfl, rd ho T.known (i := 0) (by decide +kernel) rfl ⟨one_le, fun D hD => ?_⟩⟩
    have sm1 : Same H (upd H D (.lst [vN y.1])) := Hc.Same.upd hD
    have hD1 : (upd H D (.lst [vN y.1])) D = some (.lst [vN y.1]) := upd_same
    have ho1 := Hc.Same.obj sm1 ho
    generalize upd H D (.lst [vN y.1]) = H1 at sm1 hD1 ho1 ⊢
    refine ⟨_, rfl, rd ho1 T.known (i := 1) (by decide +kernel) rfl ⟨b, y.2, rfl, hb.imm (.of sm1), fun p H2 hp sm2 hp2 => ?_⟩⟩
    exact ⟨D, p, _, _, rfl, rfl, sm2 _ _ hD1, hp2, three_le, ret_new k (sm1.trans sm2)⟩
def nodeI (n : Node) : List Int := Ag01.nums ([Ag01.bit n.up, n.clock, n.last, n.count, n.asks.length] ++ n.asks.flatMap askN) ++ n.known.flatMap knownI
def nodeH (n : Node) : List Int := Ag01.nums [Ag01.bit n.up, n.clock, n.last, n.count, n.asks.length]
theorem nodeI_is (n : Node) : nodeI n = (nodeH n ++ n.asks.flatMap fun a => Ag01.nums (askN a)) ++ n.known.flatMap knownI := by
  unfold nodeI nodeH
  rw [← nums_flat]
  unfold Ag01.nums
  rw [List.map_append]
def spNodeShown (C : Cs) : Sp := fun vs H Q _ => ∃ (p : NA) (n : Node), vs = [.ref p.a] ∧ NodeAt C H p n ∧ n.asks.length ≤ 1000 ∧ n.known.length ≤ 5 ∧ NewL H Q (nodeI n)
theorem cal_node_shown (F : Fn K mg "node_shown" s_node_shown) (T : Txt K mg C) (c_known_shown : C8.Cal P w K mg base 2 "known_shown" (spKnownShown C) []) : C8.Cal P w K mg base 3 "node_shown" (spNodeShown C) [] := by
  refine cal_of F sc_node_shown (fun _ _ _ _ _ _ us hl => match us, hl with | [_], _ => rfl) (fun vs H Q E ⟨_, _, e, _⟩ => by rw [e]; rfl) ?_
  rintro f cdv A outer s0 H vs Q E hr ⟨p, n, rfl, N, ha, hk, k⟩
  obtain ⟨us, hu, au⟩ := N.ws
  obtain ⟨ks, hks, ak⟩ := N.ks
  refine ⟨_, (pss_cons (ps_set (i := 1) sc_node_shown.nd rfl (.inl rfl) (pe_lst (pa_cons (pe_ifExp (pt_val (pe_fld (pv 0) rfl)) pe_int pe_int) (pa_cons (pe_fld (pv 0) rfl) (pa_cons (pe_fld (pv 0) rfl) (pa_cons (pe_fld (pv 0) rfl) (pa_cons (pe_callB call_len_seq (by rfl) T.len PySem.boot_len (pa_cons (pe_fld (pv 0) rfl) pa_nil)) pa_nil)))))))
    (pss_cons (ps_for PassesOwn.never rfl (pi_list (pe_fld (pv 0) rfl)) (pg_name (i := 2) sc_node_shown.nd rfl (.inl rfl)) (pss_one (ps_expr (pe_bm PySem.F.plainAttrs_list PySem.F.slot_list_extend PySem.F.type_list_extend mt_extend (pv 1) (pa_cons (pe_lst (pa_cons (pe_fld (pv 2) rfl) (pa_cons (pe_fld (pv 2) rfl) (pa_cons (pe_fld (pv 2) rfl) pa_nil)))) pa_nil)))))
    (pss_cons (ps_for PassesOwn.never rfl (pi_list (pe_fld (pv 0) rfl)) (pg_name (i := 3) sc_node_shown.nd rfl (.inl rfl)) (pss_one (ps_expr (pe_bm PySem.F.plainAttrs_list PySem.F.slot_list_extend PySem.F.type_list_extend mt_extend (pv 1) (pa_cons (C8.pe_c c_known_shown hr (by decide) rfl (pa_cons (pv 3) pa_nil)) pa_nil)))))
    (pss_one (ps_ret (pv 1)))))), ?_⟩
  refine ⟨_, rfl, rd N.ob T.node (i := 0) (by decide +kernel) rfl ⟨_, rfl, ?_⟩⟩
  refine tIf_bit ⟨_, rfl, rd N.ob T.node (i := 1) (by decide +kernel) rfl ⟨_, rfl, rd N.ob T.node (i := 2) (by decide +kernel) rfl ⟨_, rfl, rd N.ob T.node (i := 3) (by decide +kernel) rfl ⟨_, rfl, rd N.ob T.node (i := 4) (by decide +kernel) rfl ⟨p.wl, us, rfl, .inl (SqL.of hu), five_le, fun D hD => ?_⟩⟩⟩⟩⟩
  rw [au.len]
  have e0 : ([vN (Ag01.bit n.up), vN n.clock, vN n.last, vN n.count, .int (n.asks.length : Nat)] : List V) = (nodeH n).map V.int := rfl
  rw [e0]
  have sm1 : Same H (upd H D (.lst ((nodeH n).map V.int))) := Hc.Same.upd hD
  have hD1 : (upd H D (.lst ((nodeH n).map V.int))) D = some (.lst ((nodeH n).map V.int)) := upd_same
  generalize upd H D (.lst ((nodeH n).map V.int)) = H1 at sm1 hD1 ⊢
  have hl0 : (nodeH n).length = 5 := rfl
  -- for waiting in node.waiting
  refine ⟨_, rfl, rd (Hc.Same.obj sm1 N.ob) T.node (i := 4) (by decide +kernel) rfl ⟨p.wl, rfl, ⟨_, SqL.of (sm1 _ _ hu)⟩, for_list (K := K) (a := p.wl) (xs := us) (fun j σ H' => ∃ v2, σ = [some (.ref p.a), some (.ref D), v2, none] ∧ Same H H' ∧ H' D = some (.lst ((nodeH n ++ (n.asks.take j).flatMap fun a => Ag01.nums (askN a)).map V.int)))
    ⟨none, rfl, sm1, by rw [hD1]; show _ = some (HO.lst ((nodeH n ++ []).map V.int)); rw [List.append_nil]⟩ (fun j σ H' _ ⟨_, _, q, _⟩ => SqL.of (q _ _ hu)) ?_ ?_⟩⟩
  · rintro j v σ H2 hj ⟨v2, rfl, sm, hD2⟩
    obtain ⟨x, hx, b, rfl, ob⟩ := au.right hj
    have ob2 := Hc.Same.obj sm ob
    refine ⟨_, rfl, .inl ⟨rfl, _, SqL.of hD2⟩, _, rfl, rd ob2 T.waiting (i := 0) (by decide +kernel) rfl ⟨_, rfl, rd ob2 T.waiting (i := 1) (by decide +kernel) rfl ⟨_, rfl, rd ob2 T.waiting (i := 2) (by decide +kernel) rfl ⟨three_le, fun q hq => ?_⟩⟩⟩⟩
    have sm3 : Same H2 (upd H2 q (.lst ((Ag01.nums (askN x)).map V.int))) := Hc.Same.upd hq
    refine ⟨D, q, _, _, rfl, rfl, sm3 _ _ hD2, upd_same, ?_, _, rfl, fun c u e => ?_, ?_⟩
    · have h1 := flat_len ask_len (n.asks.take j)
      have h3 : (n.asks.take j).length ≤ 1000 := by rw [List.length_take]; omega
      refine Nat.le_trans ?_ big_le
      rw [List.length_map, List.length_append]
      show _ + 3 ≤ _
      omega
    · rw [upd_ne (ne_of_none e hD)]; exact sm3 _ _ (sm _ _ e)
    · rw [upd_same, take_flat hx, ← List.append_assoc, List.map_append (l₂ := Ag01.nums (askN x))]
      rfl
  · rintro σ H2 ⟨v2, rfl, sm, hD2⟩
    rw [List.take_of_length_le (by rw [au.len]; exact Nat.le_refl _)] at hD2
    have hl2 : (nodeH n ++ n.asks.flatMap fun a => Ag01.nums (askN a)).length ≤ 5000 := by
      have h1 := flat_len ask_len n.asks
      rw [List.length_append]
      omega
    rw [nodeI_is] at k
    generalize nodeH n ++ n.asks.flatMap (fun a => Ag01.nums (askN a)) = hd at hD2 hl2 k
    -- for known in node.known
    refine ⟨_, rfl, rd (Hc.Same.obj sm N.ob) T.node (i := 5) (by decide +kernel) rfl ⟨p.kl, rfl, ⟨_, SqL.of (sm _ _ hks)⟩, for_list (K := K) (a := p.kl) (xs := ks) (fun j σ H' => ∃ v3, σ = [some (.ref p.a), some (.ref D), v2, v3] ∧ Same H H' ∧ H' D = some (.lst ((hd ++ (n.known.take j).flatMap knownI).map V.int)))
      ⟨none, rfl, sm, by rw [hD2]; show _ = some (HO.lst ((hd ++ []).map V.int)); rw [List.append_nil]⟩ (fun j σ H' _ ⟨_, _, q, _⟩ => SqL.of (q _ _ hks)) ?_ ?_⟩⟩
    · rintro j v σ H3 hj ⟨v3, rfl, sm3, hD3⟩
      obtain ⟨x, hx, kv⟩ := ak.right hj
      refine ⟨_, rfl, .inl ⟨rfl, _, SqL.of hD3⟩, _, rfl, v, x, rfl, kv.imm (.of sm3), fun q H4 hq sm4 hq4 => ?_⟩
      refine ⟨D, q, _, _, rfl, rfl, sm4 _ _ hD3, hq4, ?_, _, rfl, fun c u e => ?_, ?_⟩
      · have h1 := flat_len known_len (n.known.take j)
        have h2 := known_len x
        have h3 : (n.known.take j).length ≤ 5 := by rw [List.length_take]; omega
        refine Nat.le_trans ?_ big_le
        rw [List.length_map, List.length_map, List.length_append]
        omega
      · rw [upd_ne (ne_of_none e hD)]; exact sm4 _ _ (sm3 _ _ e)
      · rw [upd_same, take_flat hx, ← List.append_assoc, List.map_append (l₂ := knownI x)]
    · rintro σ H3 ⟨v3, rfl, sm3, hD3⟩
      rw [List.take_of_length_le (by rw [ak.len]; exact Nat.le_refl _)] at hD3
      exact ⟨_, rfl, k D H3 hD sm3 hD3⟩
theorem cal_show_node (F : Fn K mg "show_node" s_show_node) (T : Txt K mg C) (c_there : C8.Cal P w K mg base 1 "there" spThere []) (c_node_shown : C8.Cal P w K mg base 3 "node_shown" (spNodeShown C) []) : C8.Cal P w K mg base 4 "show_node" (spOn C 14) [] := by
  refine cal_of F sc_show_node (fun _ _ _ _ _ _ us hl => match us, hl with | [_, _], _ => rfl) len_on ?_
  rintro f cdv A outer s0 H vs Q E hr ⟨H0, L, s, M, h, l, c, rfl, hc, S, hh, G, hM, k⟩
  obtain ⟨i, rfl, rfl⟩ := flat_14 hc
  have hH := S.same _ _ hh
  refine ⟨_, (pss_cons (ps_if (pt_not (pt_val (C8.pe_c c_there hr (by decide) rfl (pa_cons (pe_fld (pv 0) rfl) (pa_cons (pe_ix ix_list (pv 1) pe_int (fun _ _ => rfl)) pa_nil))))) (pss_one (ps_ret (pe_lst (pa_cons (pe_const rfl T.gNOT_FITTING) pa_nil)))) pss_nil)
    (pss_one (ps_ret (C8.pe_c c_node_shown hr (by decide) rfl (pa_cons (pe_ix ix_list (pe_fld (pv 0) rfl) (pe_ix ix_list (pv 1) pe_int (fun _ _ => rfl)) (fun _ _ => rfl)) pa_nil))))), ?_⟩
  refine ⟨_, rfl, rd S.hw T.world (i := 5) (by decide +kernel) rfl ⟨_, rfl, h, _, _, _, rfl, rfl, SqL.of hH, rfl, L.nl, _, i, s.nodes.length, rfl, S.hnl, S.nlen, _, rfl, ?_⟩⟩
  by_cases c1 : i < s.nodes.length
  · rw [decide_eq_true c1]
    obtain ⟨n, hn⟩ : ∃ n, s.nodes[i]? = some n := ⟨_, List.getElem?_eq_getElem c1⟩
    obtain ⟨p, hp, N, hp'⟩ := S.node hn
    have gn : GNode s.masters.length M n := G.nodes n (List.mem_of_getElem? hn)
    refine iteF ⟨_, rfl, rd S.hw T.world (i := 5) (by decide +kernel) rfl ⟨_, rfl, h, _, _, _, rfl, rfl, SqL.of hH, rfl, L.nl, _, _, _, rfl, rfl, SqL.of S.hnl, atI_nat hp', ?_⟩⟩
    refine ⟨p, n, rfl, N, Nat.le_trans gn.al hM, by rw [gn.kn]; exact G.m, show_on k S ?_⟩
    simp only [Ag01.step]
    rw [if_neg (by omega), node_of hn]
    rfl
  · rw [decide_eq_false c1]
    refine iteT ⟨by decide, ret_on k S rfl (ans := [-1]) ?_⟩
    simp only [Ag01.step]
    rw [if_pos (by omega)]
/-! ### master -/
def spMasterShown (C : Cs) : Sp := fun vs H Q _ => ∃ (H0 : Hp) (L : Lay) (s : State) (m : Nat) (a : Addr), vs = [.ref L.w, .ref a] ∧ St C H0 H L s ∧ L.ms[m]? = some a ∧ 2 * s.good ≤ s.now ∧ NewL H Q (Ag01.nums [Ag01.bit (Ag01.master s m).lied, (Ag01.says s m).1, (Ag01.says s m).2])
theorem cal_master_shown (F : Fn K mg "master_shown" s_master_shown) (T : Txt K mg C) (c_ends : C8.Cal P w K mg base 1 "ends" (spEnds C) []) (c_said_by : C8.Cal P w K mg base 3 "said_by" (spSaidBy C) []) : C8.Cal P w K mg base 4 "master_shown" (spMasterShown C) [] := by
  refine cal_of F sc_master_shown (fun _ _ _ _ _ _ us hl => match us, hl with | [_, _], _ => rfl) (fun vs H Q E ⟨_, _, _, _, _, e, _⟩ => by rw [e]; rfl) ?_
  rintro f cdv A outer s0 H vs Q E hr ⟨H0, L, s, m, a, rfl, S, hm, hnow, k⟩
  obtain ⟨x, hx, cl, ho, hcl⟩ := S.ms.right hm
  rw [master_of hx] at k
  refine ⟨_, (pss_one (ps_ret (pe_op op_cat (pe_lst (pa_cons (pe_ifExp (pt_val (pe_fld (pv 1) rfl)) pe_int pe_int) pa_nil)) (C8.pe_c c_ends hr (by decide) rfl (pa_cons (C8.pe_c c_said_by hr (by decide) rfl (pa_cons (pv 0) (pa_cons (pv 1) pa_nil))) pa_nil))))), ?_⟩
  refine ⟨_, rfl, rd ho T.master (i := 2) (by decide +kernel) rfl ⟨_, rfl, ?_⟩⟩
  refine tIf_bit ⟨one_le, fun D hD => ?_⟩
  have sm1 : Same H (upd H D (.lst [vN (Ag01.bit x.lied)])) := Hc.Same.upd hD
  have hD1 : (upd H D (.lst [vN (Ag01.bit x.lied)])) D = some (.lst [vN (Ag01.bit x.lied)]) := upd_same
  generalize upd H D (.lst [vN (Ag01.bit x.lied)]) = H1 at sm1 hD1 ⊢
  refine ⟨_, rfl, _, rfl, H0, L, s, m, a, rfl, S.more sm1, hm, hnow, fun p H2 sm2 hp => ?_⟩
  refine ⟨p, _, rfl, hp, fun q H3 hq sm3 hq3 => ?_⟩
  exact ⟨D, q, _, _, rfl, rfl, sm3 _ _ (sm2 _ _ hD1), hq3, three_le, ret_new k (sm1.trans (sm2.trans sm3))⟩
theorem cal_show_master (F : Fn K mg "show_master" s_show_master) (T : Txt K mg C) (c_there : C8.Cal P w K mg base 1 "there" spThere []) (c_master_shown : C8.Cal P w K mg base 4 "master_shown" (spMasterShown C) []) : C8.Cal P w K mg base 5 "show_master" (spOn C 15) [] := by
  refine cal_of F sc_show_master (fun _ _ _ _ _ _ us hl => match us, hl with | [_, _], _ => rfl) len_on ?_
  rintro f cdv A outer s0 H vs Q E hr ⟨H0, L, s, M, h, l, c, rfl, hc, S, hh, G, hM, k⟩
  obtain ⟨m, rfl, rfl⟩ := flat_15 hc
  have hH := S.same _ _ hh
  refine ⟨_, (pss_cons (ps_if (pt_not (pt_val (C8.pe_c c_there hr (by decide) rfl (pa_cons (pe_fld (pv 0) rfl) (pa_cons (pe_ix ix_list (pv 1) pe_int (fun _ _ => rfl)) pa_nil))))) (pss_one (ps_ret (pe_lst (pa_cons (pe_const rfl T.gNOT_FITTING) pa_nil)))) pss_nil)
    (pss_one (ps_ret (C8.pe_c c_master_shown hr (by decide) rfl (pa_cons (pv 0) (pa_cons (pe_ix ix_list (pe_fld (pv 0) rfl) (pe_ix ix_list (pv 1) pe_int (fun _ _ => rfl)) (fun _ _ => rfl)) pa_nil)))))), ?_⟩
  refine ⟨_, rfl, rd S.hw T.world (i := 4) (by decide +kernel) rfl ⟨_, rfl, h, _, _, _, rfl, rfl, SqL.of hH, rfl, L.ml, _, m, s.masters.length, rfl, S.hml, S.mlen, _, rfl, ?_⟩⟩
  by_cases c1 : m < s.masters.length
  · rw [decide_eq_true c1]
    obtain ⟨x, hx⟩ : ∃ x, s.masters[m]? = some x := ⟨_, List.getElem?_eq_getElem c1⟩
    obtain ⟨ma, hma, _⟩ := S.ms.left hx
    have hma' : (L.ms.map V.ref)[m]? = some (.ref ma) := by rw [List.getElem?_map, hma]; rfl
    refine iteF ⟨_, rfl, _, rfl, rd S.hw T.world (i := 4) (by decide +kernel) rfl ⟨_, rfl, h, _, _, _, rfl, rfl, SqL.of hH, rfl, L.ml, _, _, _, rfl, rfl, SqL.of S.hml, atI_nat hma', ?_⟩⟩
    refine ⟨H0, L, s, m, ma, rfl, S, hma, G.now, show_on k S ?_⟩
    simp only [Ag01.step]
    rw [if_neg (by omega)]
  · rw [decide_eq_false c1]
    refine iteT ⟨by decide, ret_on k S rfl (ans := [-1]) ?_⟩
    simp only [Ag01.step]
    rw [if_pos (by omega)]
/-! ### stamps -/
def spStampShown (C : Cs) : Sp := fun vs H Q _ => ∃ (a : Addr) (x : Stamp), vs = [.ref a] ∧ StampAt C H a x ∧ NewL H Q (stampI x)
theorem cal_stamp_shown (F : Fn K mg "stamp_shown" s_stamp_shown) (T : Txt K mg C) : C8.Cal P w K mg base 1 "stamp_shown" (spStampShown C) [] := by
  refine cal_of F sc_stamp_shown (fun _ _ _ _ _ _ us hl => match us, hl with | [_], _ => rfl) (fun vs H Q E ⟨_, _, e, _⟩ => by rw [e]; rfl) ?_
  rintro f cdv A outer s0 H vs Q E hr ⟨a, ⟨node, value, begun, ended⟩, rfl, h, k⟩
  refine ⟨_, (pss_cons (ps_set (i := 1) sc_stamp_shown.nd rfl (.inl rfl) (pe_ifExp (pt_cmpR op_isN (pe_fld (pv 0) rfl) pe_non (nomark _)) (pe_const rfl T.gNONE_YET) (pe_fld (pv 0) rfl)))
    (pss_one (ps_ret (pe_lst (pa_cons (pe_fld (pv 0) rfl) (pa_cons (pe_fld (pv 0) rfl) (pa_cons (pe_fld (pv 0) rfl) (pa_cons (pv 1) pa_nil)))))))), ?_⟩
  refine ⟨_, rfl, rd h T.stamp (i := 3) (by decide +kernel) rfl ⟨rfl, _, rfl, ?_⟩⟩
  cases ended with
  | none => exact iteT ⟨_, rfl, rd h T.stamp (i := 0) (by decide +kernel) rfl ⟨_, rfl, rd h T.stamp (i := 1) (by decide +kernel) rfl ⟨_, rfl, rd h T.stamp (i := 2) (by decide +kernel) rfl ⟨_, rfl, four_le, ret_new k (.refl H)⟩⟩⟩⟩
  | some e => exact iteF ⟨_, rfl, rd h T.stamp (i := 3) (by decide +kernel) rfl ⟨_, rfl, rd h T.stamp (i := 0) (by decide +kernel) rfl ⟨_, rfl, rd h T.stamp (i := 1) (by decide +kernel) rfl ⟨_, rfl, rd h T.stamp (i := 2) (by decide +kernel) rfl ⟨_, rfl, four_le, ret_new k (.refl H)⟩⟩⟩⟩⟩
def spStampsShown (C : Cs) : Sp := fun vs H Q _ => ∃ (H0 : Hp) (L : Lay) (s : State), vs = [.ref L.w] ∧ St C H0 H L s ∧ s.stamps.length ≤ 1000 ∧ NewL H Q ((s.stamps.length : Int) :: s.stamps.flatMap stampI)
theorem cal_stamps_shown (F : Fn K mg "stamps_shown" s_stamps_shown) (T : Txt K mg C) (c_stamp_shown : C8.Cal P w K mg base 1 "stamp_shown" (spStampShown C) []) : C8.Cal P w K mg base 2 "stamps_shown" (spStampsShown C) [] := by
  refine cal_of F sc_stamps_shown (fun _ _ _ _ _ _ us hl => match us, hl with | [_], _ => rfl) (fun vs H Q E ⟨_, _, _, e, _⟩ => by rw [e]; rfl) ?_
  rintro f cdv A outer s0 H vs Q E hr ⟨H0, L, s, rfl, S, hl, k⟩
  refine ⟨_, (pss_cons (ps_set (i := 1) sc_stamps_shown.nd rfl (.inl rfl) (pe_lst (pa_cons (pe_callB call_len_seq (by rfl) T.len PySem.boot_len (pa_cons (pe_fld (pv 0) rfl) pa_nil)) pa_nil)))
    (pss_cons (ps_for PassesOwn.never rfl (pi_list (pe_fld (pv 0) rfl)) (pg_name (i := 2) sc_stamps_shown.nd rfl (.inl rfl)) (pss_one (ps_expr (pe_bm PySem.F.plainAttrs_list PySem.F.slot_list_extend PySem.F.type_list_extend mt_extend (pv 1) (pa_cons (C8.pe_c c_stamp_shown hr (by decide) rfl (pa_cons (pv 2) pa_nil)) pa_nil)))))
    (pss_one (ps_ret (pv 1))))), ?_⟩
  refine ⟨_, rfl, rd S.hw T.world (i := 7) (by decide +kernel) rfl ⟨L.sl, _, rfl, .inl (SqL.of S.hsl), one_le, fun D hD => ?_⟩⟩
  rw [S.slen]
  have sm1 : Same H (upd H D (.lst [.int (s.stamps.length : Nat)])) := Hc.Same.upd hD
  have hD1 : (upd H D (.lst [.int (s.stamps.length : Nat)])) D = some (.lst [.int (s.stamps.length : Nat)]) := upd_same
  generalize upd H D (.lst [.int (s.stamps.length : Nat)]) = H1 at sm1 hD1 ⊢
  have S1 := S.more sm1
  refine ⟨_, rfl, rd S1.hw T.world (i := 7) (by decide +kernel) rfl ⟨L.sl, rfl, ⟨_, SqL.of S1.hsl⟩, for_list (K := K) (a := L.sl) (xs := L.ss.map V.ref) (fun j σ H' => ∃ v2, σ = [some (.ref L.w), some (.ref D), v2] ∧ Same H H' ∧ H' D = some (.lst (((s.stamps.length : Int) :: (s.stamps.take j).flatMap stampI).map V.int)))
    ⟨none, rfl, sm1, hD1⟩ (fun j σ H' _ ⟨_, _, q, _⟩ => SqL.of (q _ _ S.hsl)) ?_ ?_⟩⟩
  · rintro j v σ H2 hj ⟨v2, rfl, sm, hD2⟩
    rw [List.getElem?_map] at hj
    cases ej : L.ss[j]? with
    | none => rw [ej] at hj; cases hj
    | some b =>
      rw [ej] at hj
      injection hj with hj
      subst hj
      obtain ⟨x, hx, hst⟩ := S.ss.right ej
      refine ⟨_, rfl, .inl ⟨rfl, _, SqL.of hD2⟩, _, rfl, b, x, rfl, Hc.Same.obj sm hst, fun p H3 hp sm3 hp3 => ?_⟩
      refine ⟨D, p, _, _, rfl, rfl, sm3 _ _ hD2, hp3, ?_, _, rfl, fun c u e => ?_, ?_⟩
      · have h1 := flat_len stamp_len (s.stamps.take j)
        have h2 := stamp_len x
        have h3 : (s.stamps.take j).length ≤ 1000 := by rw [List.length_take]; omega
        refine Nat.le_trans ?_ big_le
        rw [List.length_map, List.length_map, List.length_cons]
        omega
      · rw [upd_ne (ne_of_none e hD)]; exact sm3 _ _ (sm _ _ e)
      · rw [upd_same, take_flat hx, ← List.map_append]
        rfl
  · rintro σ H2 ⟨v2, rfl, sm, hD2⟩
    rw [List.take_of_length_le (by rw [S.slen]; exact Nat.le_refl _)] at hD2
    exact ⟨_, rfl, k D H2 hD sm hD2⟩
theorem cal_show_stamps (F : Fn K mg "show_stamps" s_show_stamps) (T : Txt K mg C) (c_stamps_shown : C8.Cal P w K mg base 2 "stamps_shown" (spStampsShown C) []) : C8.Cal P w K mg base 3 "show_stamps" (spOn C 16) [] := by
  refine cal_of F sc_show_stamps (fun _ _ _ _ _ _ us hl => match us, hl with | [_, _], _ => rfl) len_on ?_
  rintro f cdv A outer s0 H vs Q E hr ⟨H0, L, s, M, h, l, c, rfl, hc, S, hh, G, hM, k⟩
  obtain ⟨rfl, rfl⟩ := flat_16 hc
  refine ⟨_, (pss_one (ps_ret (C8.pe_c c_stamps_shown hr (by decide) rfl (pa_cons (pv 0) pa_nil)))), ?_⟩
  exact ⟨_, rfl, H0, L, s, rfl, S, Nat.le_trans G.sl hM, show_on k S rfl⟩
end
end Hc
set_option Elab.async false
set_option maxRecDepth 100000
set_option maxHeartbeats 4000000
/-! All the calls of a line. -/
namespace Hc
open PySem PySem.Spec PyProof.Rows L2
open Ag01 (Span Master Ask Node Letter Stamp State Call)
theorem get_of_drop {α : Type} {l r : List α} {i : Nat} {x : α} (h : l.drop i = x :: r) : l[i]? = some x := by
  have q : (l.drop i)[0]? = some x := by rw [h]; rfl
  rw [List.getElem?_drop] at q
  exact q
theorem drop_more {α : Type} {l r : List α} {i : Nat} {x : α} (h : l.drop i = x :: r) : l.drop (i + 1) = r := by
  have q : (l.drop i).drop 1 = r := by rw [h]; rfl
  rw [List.drop_drop] at q
  exact q
def numbers : List Nat := [5, 1, 2, 3, 2, 1, 1, 1, 1, 1, 1, 1, 0, 1, 1, 1, 0]
theorem num_plain {c : Call} (h : (flat c).1 ≠ 1) : numbers[(flat c).1]? = some (flat c).2.length := by
  cases c <;> first | rfl | exact absurd rfl h
section
variable {P : Program} {w : World} {K : PySem.W.Frag} {mg : Str → Option Value} {base : Heap} {C : Cs}
def spEnd (K : PySem.W.Frag) : Sp := fun vs H Q _ => ∃ (a : Addr) (ns rest : List Int) (i : Nat) (c : Call), vs = [.ref a, vN i] ∧ SqL K H a (ns.map V.int) ∧ ns.drop i = ((flat c).1 : Int) :: (intsL (flat c).2 ++ rest) ∧ Q (vN (i + 1 + (flat c).2.length)) H
theorem cal_end_of_call (F : Fn K mg "end_of_call" s_end_of_call) (T : Txt K mg C) {t : Addr} (g_NUMBERS : mg "NUMBERS" = some (.ref t)) (hN : ∀ H, SqT K H t (numbers.map vN)) : C8.Cal P w K mg base 1 "end_of_call" (spEnd K) [] := by
  refine cal_of F sc_end_of_call (fun _ _ _ _ _ _ us hl => match us, hl with | [_, _], _ => rfl) (fun vs H Q E ⟨_, _, _, _, _, e, _⟩ => by rw [e]; rfl) ?_
  rintro f' cdv A outer s0 H vs Q E hr ⟨a, ns, rest, i, c, rfl, ha, hd, k⟩
  have h1 : (ns.map V.int)[i]? = some (vN (flat c).1) := by rw [List.getElem?_map, get_of_drop hd]; rfl
  refine ⟨_, (pss_cons (ps_set (i := 2) sc_end_of_call.nd rfl (.inl rfl) (pe_op op_add (pe_op op_add (pv 1) pe_int) (pe_ix ix_tup (pe_globR rfl g_NUMBERS) (pe_ix ix_list (pv 0) (pv 1) (fun _ _ => rfl)) (fun _ _ => rfl))))
    (pss_cons (ps_if (pt_cmpR op_eq (pe_ix ix_list (pv 0) (pv 1) (fun _ _ => rfl)) (pe_const rfl T.gPASS) (nomark _)) (pss_one (ps_set (i := 2) sc_end_of_call.nd rfl (.inl rfl) (pe_op op_add (pe_op op_add (pv 2) pe_int) (pe_ix ix_list (pv 0) (pv 2) (fun _ _ => rfl))))) pss_nil)
    (pss_one (ps_ret (pv 2))))), ?_⟩
  by_cases c1 : (flat c).1 = 1
  · obtain ⟨d, l, rfl, el⟩ := flat_1 (c := c) (l := (flat c).2) (by rw [← c1])
    have hd : ns.drop i = 1 :: (d : Int) :: (l.length : Int) :: (intsL l ++ rest) := hd
    have h2 : (ns.map V.int)[i + 2]? = some (vN l.length) := by
      rw [List.getElem?_map, get_of_drop (drop_more (drop_more hd))]; rfl
    have hn : (numbers.map vN)[1]? = some (vN 1) := rfl
    refine ⟨_, rfl, _, _, rfl, rfl, _, rfl, _, rfl, a, _, _, _, rfl, rfl, ha, atI_nat h1, t, _, _, _, rfl, rfl, hN H, atI_nat (j := 1) hn, _, _, rfl, rfl, ?_⟩
    refine ⟨_, rfl, _, rfl, a, _, _, _, rfl, rfl, ha, atI_nat h1, rfl, _, rfl, iteT ?_⟩
    refine ⟨_, rfl, _, _, rfl, rfl, _, rfl, _, rfl, a, _, _, _, rfl, rfl, ha, (show atI (ns.map V.int) ((i : Int) + 1 + ((1 : Nat) : Int)) = some (vN l.length) from ?_), _, _, rfl, rfl, ?_⟩
    · rw [show (i : Int) + 1 + ((1 : Nat) : Int) = ((i + 2 : Nat) : Int) by omega]
      exact atI_nat h2
    · refine ⟨_, rfl, ?_⟩
      have e : (i : Int) + 1 + ((1 : Nat) : Int) + 1 + (l.length : Int) = ((i + 1 + (l.length + 1 + 1) : Nat) : Int) := by omega
      show Q (.int ((i : Int) + 1 + ((1 : Nat) : Int) + 1 + (l.length : Int))) H
      rw [e]
      exact k
  · have hn : (numbers.map vN)[(flat c).1]? = some (vN (flat c).2.length) := by rw [List.getElem?_map, num_plain c1]; rfl
    refine ⟨_, rfl, _, _, rfl, rfl, _, rfl, _, rfl, a, _, _, _, rfl, rfl, ha, atI_nat h1, t, _, _, _, rfl, rfl, hN H, atI_nat hn, _, _, rfl, rfl, ?_⟩
    refine ⟨_, rfl, _, rfl, a, _, _, _, rfl, rfl, ha, atI_nat h1, rfl, _, rfl, ?_⟩
    rw [decide_eq_false (fun z => c1 (by injection z with z; omega))]
    refine iteF ⟨_, rfl, ?_⟩
    have e : (i : Int) + 1 + ((flat c).2.length : Int) = ((i + 1 + (flat c).2.length : Nat) : Int) := by omega
    show Q (.int ((i : Int) + 1 + ((flat c).2.length : Int))) H
    rw [e]
    exact k
/-! ### the line's base -/
theorem Al.tracked {H0 H : Hp} {li : Addr} {o : Option State} (A : Al C H0 H li o) : ∃ u, H li = some u := by
  have q := A.at_
  cases o with
  | none => obtain ⟨dx, e⟩ := q; exact ⟨_, e⟩
  | some s => obtain ⟨L, S, h1, dx, e⟩ := q; exact ⟨_, e⟩
/-- one thing more stands -/
theorem Al.add {H0 H : Hp} {li h : Addr} {o : Option State} (A : Al C H0 H li o) (hh : H h = none) (u : HO) : Al C (upd H0 h u) (upd H h u) li o := by
  have nl : li ≠ h := by
    obtain ⟨u, e⟩ := A.tracked
    exact ne_of_none e hh
  have sm : Same (upd H0 h u) (upd H h u) := fun b v e => by
    by_cases c : b = h
    · rw [c, upd_same] at e; rw [c, upd_same]; exact e
    · rw [upd_ne c] at e; rw [upd_ne c]; exact A.same _ _ e
  refine ⟨sm, by rw [upd_ne nl]; exact A.li0, ?_⟩
  have q := A.at_
  cases o with
  | none => exact Hc.Same.obj (Hc.Same.upd hh) q
  | some s =>
    obtain ⟨L, S, h1, h2⟩ := q
    refine ⟨L, (S.more (Hc.Same.upd hh)).from sm fun a r e => ?_, h1, Hc.Same.obj (Hc.Same.upd hh) h2⟩
    obtain ⟨v, ev⟩ := S.trk a r e
    rw [upd_ne (ne_of_none ev hh)]
    exact S.free a r e
/-- a list that stands is changed -/
theorem Al.put {H0 H : Hp} {li r : Addr} {o : Option State} {xs ys : List V} (A : Al C H0 H li o) (hr : H0 r = some (.lst xs)) : Al C (upd H0 r (.lst ys)) (upd H r (.lst ys)) li o := by
  have nl : li ≠ r := fun e => by rw [← e, A.li0] at hr; cases hr
  have hH := A.same _ _ hr
  have sm : Same (upd H0 r (.lst ys)) (upd H r (.lst ys)) := fun b v e => by
    by_cases c : b = r
    · rw [c, upd_same] at e; rw [c, upd_same]; exact e
    · rw [upd_ne c] at e; rw [upd_ne c]; exact A.same _ _ e
  refine ⟨sm, by rw [upd_ne nl]; exact A.li0, ?_⟩
  have q := A.at_
  cases o with
  | none =>
    obtain ⟨dx, e⟩ := q
    exact ⟨dx, (upd_ne nl).trans e⟩
  | some s =>
    obtain ⟨L, S, h1, dx, h2⟩ := q
    have nr : L.ow r = none := by
      cases e : L.ow r with
      | none => rfl
      | some x =>
        have := S.free r x e
        rw [hr] at this
        cases this
    have S1 : St C (fun b => if b = r then none else H0 b) H L s := S.from (fun b v e => by
      by_cases c : b = r
      · have e : (if b = r then none else H0 b) = some v := e
        rw [if_pos c] at e; cases e
      · have e : (if b = r then none else H0 b) = some v := e
        rw [if_neg c] at e; exact A.same _ _ e) fun a x e => by
      have na : a ≠ r := fun z => by rw [z, nr] at e; cases e
      show (if a = r then none else H0 a) = none
      rw [if_neg na]; exact S.free a x e
    have S2 := S1.other (o' := .lst ys) (if_pos rfl) nr hH rfl
    refine ⟨L, S2.from sm fun a x e => ?_, h1, dx, (upd_ne nl).trans h2⟩
    have na : a ≠ r := fun z => by rw [z, nr] at e; cases e
    rw [upd_ne na]; exact S.free a x e
/-! ### the loop -/
/-- what holds between two turns; m: what is left -/
def LI (C : Cs) (H : Hp) (ns : List Int) (a li r m : Nat) (σ : L2.St) (H' : Hp) : Prop := ∃ (i f M : Nat) (cs : List (List (List Int))) (o : Option State) (out : List Int) (Hb : Hp) (v4 v5 : Option V),
  m = ns.length - i ∧ i ≤ ns.length ∧ σ = [some (.ref a), some (.ref li), some (.ref r), some (vN i), v4, v5] ∧ PyFlat.calls PyAg01.shape f (ns.drop i) = some cs ∧ (∀ c ∈ cs, Ag01Neutral.asked1 (PyAg01.whole c) = true) ∧
  PyAg01.answers ns = out ++ PyFlat.told (PyFlat.played Ag01Neutral.step o (cs.map PyAg01.whole)) ∧ M + cs.length ≤ 100 ∧ (∀ s, o = some s → Good M s) ∧ Al C Hb H' li o ∧ Same H Hb ∧ Hb r = some (.lst (out.map V.int))
def spAll (K : PySem.W.Frag) : Sp := fun vs H Q _ => ∃ (a : Addr) (ns : List Int), vs = [.ref a] ∧ SqL K H a (ns.map V.int) ∧ PyAg01.answers_asked ns = true ∧ ∀ H' p, H' p = some (.lst ((PyAg01.answers ns).map V.int)) → Q (.ref p) H'
theorem asked_parts {ns : List Int} (h : PyAg01.answers_asked ns = true) : ∃ raw, PyFlat.calls PyAg01.shape ns.length ns = some raw ∧ raw.length ≤ 100 ∧ (∀ c ∈ raw, Ag01Neutral.asked1 (PyAg01.whole c) = true) ∧ (PyAg01.answers ns).length ≤ 10000000 := by
  unfold PyAg01.answers_asked at h
  cases e : PyFlat.calls PyAg01.shape ns.length ns with
  | none => rw [e] at h; cases h
  | some raw =>
    rw [e] at h
    simp only [Bool.and_eq_true] at h
    obtain ⟨⟨⟨⟨_, h1⟩, _⟩, h2⟩, h3⟩ := h
    refine ⟨raw, rfl, of_decide_eq_true h1, fun c hc => ?_, of_decide_eq_true h3⟩
    unfold Ag01Neutral.asked at h2
    simp only [Bool.and_eq_true] at h2
    exact List.all_eq_true.mp h2.2.2 _ (List.mem_map.mpr ⟨c, hc, rfl⟩)
theorem answers_is {ns : List Int} {raw : List (List (List Int))} (h : PyFlat.calls PyAg01.shape ns.length ns = some raw) : PyAg01.answers ns = PyFlat.told (PyFlat.played Ag01Neutral.step none (raw.map PyAg01.whole)) := by
  unfold PyAg01.answers PyAg01.calls
  rw [h]
  rfl
theorem good_next {o : Option State} {M : Nat} {x : Call} (h : ∀ s, o = some s → Good M s) : ∀ s, (Ag01.step o x).1 = some s → Good (M + 1) s := fun s e => by
  cases o with
  | none => exact (Good.first x e).mono (by omega)
  | some s0 => exact (h s0 rfl).step x e
theorem ok_answers {fa : Addr} {fd : FuncData} (F : L2.Fun K "answers" "answers" s_answers fa fd) (T : Txt K mg C) (m_Line : C8.Mak P w K mg base 1 "Line" C.line (spInit C.line 0 nLine (fun _ => [.non])) []) (c_end_of_call : C8.Cal P w K mg base 1 "end_of_call" (spEnd K) []) (c_answer_to : C8.Cal P w K mg base 9 "answer_to" (spAns C none) []) :
    FnOk P w K mg base CX0 10 fa fd ["calls"] (spAll K) := by
  refine F.ok sc_answers (fun vs H Q E ⟨_, _, e, _⟩ => by rw [e]; rfl) ?_
  rintro cdv A outer s0 H vs Q E hr ⟨a, ns, rfl, ha, hask, k⟩
  obtain ⟨raw, hraw, hlen, hall, hshort⟩ := asked_parts hask
  refine ⟨_, (pss_cons (ps_set (i := 1) sc_answers.nd rfl (.inl rfl) (pe_mk0 m_Line hr (by decide) rfl))
    (pss_cons (ps_set (i := 2) sc_answers.nd rfl (.inl rfl) (pe_lst pa_nil))
    (pss_cons (ps_set (i := 3) sc_answers.nd rfl (.inl rfl) pe_int)
    (pss_cons (ps_while PassesOwn.never (pt_cmpR op_lt (pv 3) (pe_callB call_len_seq (by rfl) T.len PySem.boot_len (pa_cons (pv 0) pa_nil)) (nomark _)) (pss_cons (ps_set (i := 4) sc_answers.nd rfl (.inl rfl) (C8.pe_c c_end_of_call hr (by decide) rfl (pa_cons (pv 0) (pa_cons (pv 3) pa_nil))))
    (pss_cons (ps_set (i := 5) sc_answers.nd rfl (.inl rfl) (C8.pe_c c_answer_to hr (by decide) rfl (pa_cons (pv 1) (pa_cons (pe_ix ix_list (pv 0) (pv 3) (fun _ _ => rfl)) (pa_cons (pe_slice sl_list (pv 0) (po_some (pe_op op_add (pv 3) pe_int)) (po_some (pv 4))) pa_nil)))))
    (pss_cons (ps_expr (pe_bm PySem.F.plainAttrs_list PySem.F.slot_list_append PySem.F.type_list_append mt_append (pv 2) (pa_cons (pe_callB call_len_seq (by rfl) T.len PySem.boot_len (pa_cons (pv 5) pa_nil)) pa_nil)))
    (pss_cons (ps_expr (pe_bm PySem.F.plainAttrs_list PySem.F.slot_list_extend PySem.F.type_list_extend mt_extend (pv 2) (pa_cons (pv 5) pa_nil)))
    (pss_one (ps_set (i := 3) sc_answers.nd rfl (.inl rfl) (pv 4))))))))
    (pss_one (ps_ret (pv 2))))))), ?_⟩
  -- line = Line()
  intro li dl nli ndl nel
  refine ⟨li, dl, [], rfl, rfl, upd_same, fun H1 hli kk => ⟨rfl, ?_⟩⟩
  have sm1 : Same H H1 := made_same nli ndl kk
  -- result = []
  refine ⟨Nat.zero_le _, fun r hr1 => ?_⟩
  have A0 : Al C H H1 li none := ⟨sm1, nli, dl, hli⟩
  have hr0 : H r = none := sm1.free hr1
  have A1 := A0.add hr1 (.lst [])
  have sm2 : Same H (upd H r (.lst [])) := Hc.Same.upd hr0
  refine ⟨fun m σ H' => LI C H ns a li r m σ H', ⟨_, 0, ns.length, 0, raw, none, [], upd H r (.lst []), none, none, rfl, Nat.zero_le _, rfl, hraw, hall, answers_is hraw, by omega, (fun s e => by cases e), A1, sm2, upd_same⟩, ?_⟩
  rintro m σ H2 ⟨i, f, M, cs, o, out, Hb, v4, v5, rfl, hi, rfl, hcs, hall2, hans, hM, hG, Ao, smb, hbr⟩
  have sH2 : Same H H2 := smb.trans Ao.same
  have ha2 : SqL K H2 a (ns.map V.int) := sH2.seq ha
  refine ⟨_, rfl, _, rfl, a, _, rfl, .inl ha2, _, _, rfl, rfl, _, rfl, ?_⟩
  by_cases c1 : i < ns.length
  case neg =>
    rw [decide_eq_false (by rw [List.length_map]; omega)]
    refine iteF ⟨_, rfl, ?_⟩
    have ed : ns.drop i = [] := List.drop_eq_nil_of_le (by omega)
    rw [ed] at hcs
    have ecs : cs = [] := by
      cases f <;> (injection hcs with hcs; exact hcs.symm)
    subst ecs
    have eo : PyAg01.answers ns = out := by rw [hans]; exact List.append_nil _
    refine k H2 r ?_
    rw [eo]
    exact Ao.same _ _ hbr
  rw [decide_eq_true (by rw [List.length_map]; omega)]
  refine iteT ⟨fun σ' H' => ∃ m', m' < ns.length - i ∧ LI C H ns a li r m' σ' H', fun σ' H' z => z, ?_⟩
  obtain ⟨p, rs, hd⟩ : ∃ p rs, ns.drop i = p :: rs := by
    cases e : ns.drop i with
    | nil => rw [List.drop_eq_nil_iff] at e; omega
    | cons p rs => exact ⟨p, rs, rfl⟩
  rw [hd] at hcs
  obtain ⟨c, cs', f2, x, rest, rfl, Fi⟩ := parse hcs hall2
  have hdx : ns.drop i = ((flat x).1 : Int) :: (intsL (flat x).2 ++ rest) := hd.trans Fi.eq
  have h1 : (ns.map V.int)[i]? = some (vN (flat x).1) := by rw [List.getElem?_map, get_of_drop hdx]; rfl
  -- end = end_of_call(calls, place)
  refine ⟨_, rfl, _, rfl, a, ns, rest, i, x, rfl, ha2, hdx, ?_⟩
  -- answer = answer_to(line, calls[place], calls[place + 1:end])
  refine ⟨_, rfl, _, rfl, _, rfl, a, _, _, _, rfl, rfl, ha2, atI_nat h1, _, rfl, ⟨_, rfl, _, _, rfl, rfl, _, rfl, ⟨_, rfl, _, rfl, a, _, rfl, ha2, fun h hh => ?_⟩⟩⟩
  have ecut : cutV (ns.map V.int) (some ((i : Int) + 1)) (some ((i + 1 + (flat x).2.length : Nat) : Int)) = (flat x).2.map vN := by
    rw [show (i : Int) + 1 = ((i + 1 : Nat) : Int) by omega, cutV_nat, ← List.map_drop, drop_more hdx, List.map_append, show i + 1 + (flat x).2.length - (i + 1) = (flat x).2.length by omega, List.take_left' (by unfold intsL; rw [List.length_map, List.length_map])]
    unfold intsL
    rw [List.map_map]
    rfl
  dsimp only
  rw [ecut]
  have A2 := Ao.add hh (.lst ((flat x).2.map vN))
  have nrh : r ≠ h := ne_of_none (Ao.same _ _ hbr) hh
  have nbh : Hb h = none := Ao.same.free hh
  refine ⟨upd Hb h (.lst ((flat x).2.map vN)), li, h, o, M, x, rfl, (fun n e => by cases e), A2, upd_same, hG, by omega, fun H3 q A3 hq0 hq3 => ?_⟩
  have hbr3 : (upd Hb h (.lst ((flat x).2.map vN))) r = some (.lst (out.map V.int)) := by rw [upd_ne nrh]; exact hbr
  have hr3 := A3.same _ _ hbr3
  have nrq : r ≠ q := ne_of_none hbr3 hq0
  -- what the rest is
  have est : Ag01Neutral.step o (PyAg01.whole c) = Ag01.step o x := by
    unfold Ag01Neutral.step
    rw [Fi.is]
  have hans2 : PyAg01.answers ns = (out ++ (((Ag01.step o x).2.length : Int) :: (Ag01.step o x).2)) ++ PyFlat.told (PyFlat.played Ag01Neutral.step (Ag01.step o x).1 (cs'.map PyAg01.whole)) := by
    rw [hans, List.map_cons]
    show out ++ PyFlat.told ((Ag01Neutral.step o (PyAg01.whole c)).2 :: PyFlat.played Ag01Neutral.step (Ag01Neutral.step o (PyAg01.whole c)).1 (cs'.map PyAg01.whole)) = _
    rw [est]
    unfold PyFlat.told
    rw [List.flatMap_cons, List.append_assoc]
  have hsize : out.length + 1 + (Ag01.step o x).2.length ≤ 10000000 := by
    rw [hans2] at hshort
    simp only [List.length_append, List.length_cons] at hshort
    omega
  have hline : (10000000 : Nat) < sizeLine := by decide
  -- result.append(len(answer))
  refine ⟨_, rfl, .inl ⟨rfl, _, SqL.of hr3⟩, _, rfl, q, _, rfl, .inl (SqL.of hq3), r, _, _, rfl, rfl, hr3, ?_, ?_⟩
  · rw [List.length_map]; omega
  -- result.extend(answer)
  refine ⟨_, rfl, .inl ⟨rfl, _, SqL.of upd_same⟩, _, rfl, r, q, _, _, rfl, rfl, upd_same, (upd_ne nrq.symm).trans hq3, ?_, ?_⟩
  · simp only [List.length_append, List.length_map, List.length_singleton]; omega
  -- place = end
  refine ⟨_, rfl, ns.length - (i + 1 + (flat x).2.length), ?_, ?_⟩
  · omega
  have hle : i + 1 + (flat x).2.length ≤ ns.length := by
    have e := congrArg List.length hdx
    simp only [List.length_drop, List.length_cons, List.length_append] at e
    have : (intsL (flat x).2).length = (flat x).2.length := by unfold intsL; rw [List.length_map]
    omega
  have edrop : ns.drop (i + 1 + (flat x).2.length) = rest := by
    rw [← List.drop_drop, drop_more hdx, List.drop_left' (by unfold intsL; rw [List.length_map])]
  refine ⟨i + 1 + (flat x).2.length, f2, M + 1, cs', (Ag01.step o x).1, out ++ (((Ag01.step o x).2.length : Int) :: (Ag01.step o x).2), upd (upd Hb h (.lst ((flat x).2.map vN))) r (.lst ((out ++ (((Ag01.step o x).2.length : Int) :: (Ag01.step o x).2)).map V.int)), _, _, rfl, hle, rfl, by rw [edrop]; exact Fi.more, fun d hd => hall2 d (.tail _ hd), hans2, ?_, good_next hG, ?_, ?_, upd_same⟩
  · rw [List.length_cons] at hM; omega
  · have e5 : ∀ z : Int, upd (upd H3 r (.lst (out.map V.int ++ [.int z]))) r (.lst (out.map V.int ++ [.int z] ++ (Ag01.step o x).2.map V.int)) = upd H3 r (.lst ((out ++ (z :: (Ag01.step o x).2)).map V.int)) := fun z => by
      rw [upd_upd, List.map_append, List.map_cons, List.append_assoc]
      rfl
    rw [e5, List.length_map]
    exact A3.put hbr3
  · intro b u e
    have nbr : b ≠ r := ne_of_none e hr0
    rw [upd_ne nbr, upd_ne (ne_of_none (smb _ _ e) nbh)]
    exact smb _ _ e
end
end Hc
set_option Elab.async false
set_option maxRecDepth 100000
set_option maxHeartbeats 4000000
/-! What the top has written, fact by fact. -/
namespace Hc
open PySem PySem.Spec PyProof.Rows L2
section
variable {K : PySem.W.Frag} {h : Heap} {mg : Str → Option Value}
theorem fn_mk {x : Str} {st : Stmt} {f : Addr} {oc : Value} {od an : Option Addr} {sl : Array (Option Value)} {kV dc pm cd ct : Value} (X : K.In h) (G : h.Ns mainGlobals mg) (a : PySem.W.nsIn K mainGlobals x = some (some (.ref f)))
    (l : K.lookup f = some ⟨oc, od, .func (PySem.W.fnOf x x (defArgs st) (defBody st) (defScope st) .none kV dc pm an cd ct), sl⟩) (c : PySem.W.codeIn K cd x = true) (k : PySem.W.keepIn K (.ref f) = true) : Fn K mg x st :=
  ⟨f, _, fun_mk l c k, PySem.W.mg_of X G a⟩
theorem cl_mk {x qual : Str} {st : Stmt} {C f : Addr} {oc : Value} {od an : Option Addr} {sl : Array (Option Value)} {kV dc pm cd ct : Value} (X : K.In h) (G : h.Ns mainGlobals mg) (aC : PySem.W.nsIn K mainGlobals x = some (some (.ref C)))
    (a : PySem.W.findIn K (.ref C) "__init__" = some (some (.ref f))) (i : PySem.W.isFn K (.ref f) = true) (l : K.lookup f = some ⟨oc, od, .func (PySem.W.fnOf "__init__" qual (defArgs st) (defBody st) (defScope st) .none kV dc pm an cd ct), sl⟩) (c : PySem.W.codeIn K cd qual = true)
    (k : PySem.W.keepIn K (.ref f) = true) (mk : PySem.W.makesIn K C = true) (kc : PySem.W.keepIn K (.ref C) = true) : Cl K mg x qual st C := ⟨f, _, fun_mk l c k, ⟨mk, a, i, kc⟩, PySem.W.mg_of X G aC⟩
theorem gint_mk {x : Str} {i : Int} {t : Tok} (X : K.In h) (G : h.Ns mainGlobals mg) (a : PySem.W.nsIn K mainGlobals x = some (some (.int i t))) : GInt mg x i := ⟨t, PySem.W.mg_of X G a⟩
theorem no_nil {C : Addr} : ∀ f ∈ ([] : List Str), NoAttr K C f := fun f hf => by cases hf
theorem no_cons {C : Addr} {f : Str} {ns : List Str} (h : PySem.W.findIn K (.ref C) f = some none) (t : ∀ g ∈ ns, NoAttr K C g) : ∀ g ∈ f :: ns, NoAttr K C g := fun g hg => by
  cases hg with
  | head => exact h
  | tail _ m => exact t g m
theorem cls_mk {x qual : Str} {st : Stmt} {ns : List Str} {C f : Addr} {oc : Value} {od an : Option Addr} {sl : Array (Option Value)} {kV dc pm cd ct : Value} (X : K.In h) (G : h.Ns mainGlobals mg) (aC : PySem.W.nsIn K mainGlobals x = some (some (.ref C)))
    (a : PySem.W.findIn K (.ref C) "__init__" = some (some (.ref f))) (i : PySem.W.isFn K (.ref f) = true) (l : K.lookup f = some ⟨oc, od, .func (PySem.W.fnOf "__init__" qual (defArgs st) (defBody st) (defScope st) .none kV dc pm an cd ct), sl⟩) (c : PySem.W.codeIn K cd qual = true)
    (k : PySem.W.keepIn K (.ref f) = true) (mk : PySem.W.makesIn K C = true) (kc : PySem.W.keepIn K (.ref C) = true)
    (pg : PySem.W.plainGet K C Str.empty = true) (hd : PySem.W.hasDictIn K C = true) (po : PySem.W.plainOver K C = true) (sa : PySem.W.findIn K (.ref C) "__setattr__" = some (some (.builtin "object.__setattr__"))) (no : ∀ f ∈ ns, NoAttr K C f) :
    ∃ C, Cl K mg x qual st C ∧ ClsOk K C ns := ⟨C, cl_mk X G aC a i l c k mk kc, ⟨⟨pg, hd, po, sa⟩, no⟩⟩
theorem numbers_mk {t : Addr} {od : Option Addr} {n : Nat} {sl : Array (Option Value)} {t0 t1 t2 t3 t4 t5 t6 t7 t8 t9 t10 t11 t12 t13 t14 t15 t16 : Tok}
    (l : K.lookup t = some ⟨.type "tuple", od, .seq #[.int 5 t0, .int 1 t1, .int 2 t2, .int 3 t3, .int 2 t4, .int 1 t5, .int 1 t6, .int 1 t7, .int 1 t8, .int 1 t9, .int 1 t10, .int 1 t11, .int 0 t12, .int 1 t13, .int 1 t14, .int 1 t15, .int 0 t16] n, sl⟩) : ∀ H, SqT K H t (numbers.map vN) := fun H =>
  .inr ⟨_, _, n, l, rfl, rfl, (by show 17 ≤ sizeLine; decide), .cons ⟨_, rfl⟩ (.cons ⟨_, rfl⟩ (.cons ⟨_, rfl⟩ (.cons ⟨_, rfl⟩ (.cons ⟨_, rfl⟩ (.cons ⟨_, rfl⟩ (.cons ⟨_, rfl⟩ (.cons ⟨_, rfl⟩ (.cons ⟨_, rfl⟩ (.cons ⟨_, rfl⟩ (.cons ⟨_, rfl⟩ (.cons ⟨_, rfl⟩ (.cons ⟨_, rfl⟩ (.cons ⟨_, rfl⟩ (.cons ⟨_, rfl⟩ (.cons ⟨_, rfl⟩ (.cons ⟨_, rfl⟩ .nil))))))))))))))))⟩
/-- an entry of a table: its keys one after another from a on -/
def rowsFrom : Nat → List Addr → List Tok → List DictEntry
  | a, f :: fs, t :: ts => ⟨hashInt (a : Int), .int (a : Int) t, .ref f⟩ :: rowsFrom (a + 1) fs ts
  | _, _, _ => []
theorem rows_keys : ∀ (a : Nat) (fs : List Addr) (ts : List Tok), ∀ e ∈ rowsFrom a fs ts, ∃ k t, e.key = .int k t ∧ e.hash = hashInt k
  | a, [], _, e, h => by cases h
  | a, _ :: _, [], e, h => by cases h
  | a, f :: fs, t :: ts, e, h => by
    cases h with
    | head => exact ⟨_, _, rfl, rfl⟩
    | tail _ m => exact rows_keys (a + 1) fs ts e m
theorem rows_find : ∀ (a : Nat) (fs : List Addr) (ts : List Tok) (i : Nat) (f : Addr), fs.length = ts.length → fs[i]? = some f → ((rowsFrom a fs ts).find? fun e => Value.isInt ((a + i : Nat) : Int) e.key).map (·.val) = some (.ref f)
  | a, [], _, i, f, _, h => by simp at h
  | a, _ :: _, [], i, f, hl, _ => by simp at hl
  | a, g :: fs, t :: ts, 0, f, hl, h => by
    have e : g = f := by simpa using h
    subst e
    show (((⟨hashInt (a : Int), .int (a : Int) t, .ref g⟩ : DictEntry) :: rowsFrom (a + 1) fs ts).find? _).map (·.val) = _
    rw [List.find?_cons]
    have q : Value.isInt ((a + 0 : Nat) : Int) (.int (a : Int) t) = true := by simp [Value.isInt]
    dsimp only
    rw [q]
    rfl
  | a, g :: fs, t :: ts, i + 1, f, hl, h => by
    show (((⟨hashInt (a : Int), .int (a : Int) t, .ref g⟩ : DictEntry) :: rowsFrom (a + 1) fs ts).find? _).map (·.val) = _
    rw [List.find?_cons]
    have q : Value.isInt ((a + (i + 1) : Nat) : Int) (.int (a : Int) t) = false := by
      simp only [Value.isInt, beq_eq_false_iff_ne]
      omega
    dsimp only
    rw [q]
    have ih := rows_find (a + 1) fs ts i f (by simpa using hl) (by simpa using h)
    rw [show a + 1 + i = a + (i + 1) by omega] at ih
    exact ih
theorem numbers_ex {t : Addr} {od : Option Addr} {n : Nat} {sl : Array (Option Value)} {t0 t1 t2 t3 t4 t5 t6 t7 t8 t9 t10 t11 t12 t13 t14 t15 t16 : Tok} (X : K.In h) (G : h.Ns mainGlobals mg) (a : PySem.W.nsIn K mainGlobals "NUMBERS" = some (some (.ref t)))
    (l : K.lookup t = some ⟨.type "tuple", od, .seq #[.int 5 t0, .int 1 t1, .int 2 t2, .int 3 t3, .int 2 t4, .int 1 t5, .int 1 t6, .int 1 t7, .int 1 t8, .int 1 t9, .int 1 t10, .int 1 t11, .int 0 t12, .int 1 t13, .int 1 t14, .int 1 t15, .int 0 t16] n, sl⟩) :
    ∃ t, mg "NUMBERS" = some (.ref t) ∧ ∀ H, SqT K H t (numbers.map vN) := ⟨t, PySem.W.mg_of X G a, numbers_mk l⟩
theorem kdct_mk {t : Addr} {n : Nat} {fs : List Addr} {ts : List Tok} (l : K.lookup t = some ⟨.type "dict", none, .dict (rowsFrom 1 fs ts).toArray n, #[]⟩) (hl : fs.length = ts.length) {i : Nat} {f : Addr} (hf : fs[i]? = some f) : KDctI K t ((1 + i : Nat) : Int) (.ref f) := by
  refine ⟨_, n, .ref f, l, fun e he => rows_keys 1 fs ts e he, ?_, rfl⟩
  unfold findBy
  rw [List.find?_toArray]
  exact rows_find 1 fs ts i f hl hf
/-! ### the table of the calls on a world -/
variable {P : Program} {w : World} {base : Heap} {C : Cs}
theorem calAt_of {x : Str} {k : Nat} {sp : Sp} {f : Addr} (c : C8.Cal P w K mg base k x sp []) (m : mg x = some (.ref f)) : C8.CalAt P w K mg base k f sp := by
  obtain ⟨g, fd, ps, ds, F, hm, kp, b, d⟩ := c.ex
  rw [hm] at m
  injection m with m
  injection m with m
  subst m
  cases d
  exact ⟨fd, ps, F, kp, b⟩
/-- the defs of a table from the a-th call on -/
def TabL (P : Program) (w : World) (K : PySem.W.Frag) (mg : Str → Option Value) (base : Heap) (C : Cs) (j : Nat) : Nat → List Addr → Prop
  | _, [] => True
  | a, f :: fs => (∃ i, C8.CalAt P w K mg base i f (spOn C a) ∧ i ≤ j) ∧ TabL P w K mg base C j (a + 1) fs
theorem TabL.at {j : Nat} : ∀ {fs : List Addr} {a i : Nat} {f : Addr}, TabL P w K mg base C j a fs → fs[i]? = some f → ∃ x, C8.CalAt P w K mg base x f (spOn C (a + i)) ∧ x ≤ j
  | [], _, i, _, _, h => by simp at h
  | g :: fs, a, 0, f, t, h => by
    have e : g = f := by simpa using h
    subst e
    exact t.1
  | g :: fs, a, i + 1, f, t, h => by
    have q := TabL.at (a := a + 1) (i := i) t.2 (by simpa using h)
    rw [show a + 1 + i = a + (i + 1) by omega] at q
    exact q
theorem table_mk {t : Addr} {n j : Nat} {fs : List Addr} {ts : List Tok} (l : K.lookup t = some ⟨.type "dict", none, .dict (rowsFrom 1 fs ts).toArray n, #[]⟩) (hl : fs.length = ts.length) (h16 : fs.length = 16) (T : TabL P w K mg base C j 1 fs) : Table P w K mg base C t j := fun k h1 h2 => by
  obtain ⟨f, hf⟩ : ∃ f, fs[k - 1]? = some f := ⟨_, List.getElem?_eq_getElem (by omega)⟩
  obtain ⟨x, cx, hx⟩ := T.at hf
  have kd := kdct_mk l hl hf
  rw [show 1 + (k - 1) = k by omega] at kd cx
  exact ⟨f, x, kd, cx, hx⟩
end
end Hc
set_option Elab.async false
set_option maxRecDepth 100000
set_option maxHeartbeats 4000000
/-! The defs together: the table of the sixteen calls, the whole. -/
namespace Hc
open PySem PySem.Spec PyProof.Rows L2
section
variable {P : Program} {w : World} {K : PySem.W.Frag} {h : Heap} {mg : Str → Option Value} {base : Heap} {C : Cs}
/-- where the table lies, and what it holds -/
structure Tab (K : PySem.W.Frag) (mg : Str → Option Value) (t : Addr) : Prop where
  at_ : mg "ON_A_WORLD" = some (.ref t)
  ex : ∃ (n : Nat) (f1 f2 f3 f4 f5 f6 f7 f8 f9 f10 f11 f12 f13 f14 f15 f16 : Addr) (ts : List Tok), ts.length = 16 ∧ K.lookup t = some ⟨.type "dict", none, .dict (rowsFrom 1 [f1, f2, f3, f4, f5, f6, f7, f8, f9, f10, f11, f12, f13, f14, f15, f16] ts).toArray n, #[]⟩ ∧ mg "pass_time" = some (.ref f1) ∧ mg "skew" = some (.ref f2) ∧ mg "lie" = some (.ref f3) ∧ mg "ask" = some (.ref f4) ∧ mg "give_stamp" = some (.ref f5) ∧ mg "settle" = some (.ref f6) ∧ mg "take" = some (.ref f7) ∧ mg "keep" = some (.ref f8) ∧ mg "lose" = some (.ref f9) ∧ mg "stop" = some (.ref f10) ∧ mg "start" = some (.ref f11) ∧ mg "show_letters" = some (.ref f12) ∧ mg "show_time" = some (.ref f13) ∧ mg "show_node" = some (.ref f14) ∧ mg "show_master" = some (.ref f15) ∧ mg "show_stamps" = some (.ref f16)
theorem tab_mk {t n f1 f2 f3 f4 f5 f6 f7 f8 f9 f10 f11 f12 f13 f14 f15 f16 : Nat} {t1 t2 t3 t4 t5 t6 t7 t8 t9 t10 t11 t12 t13 t14 t15 t16 : Tok} (X : K.In h) (G : h.Ns mainGlobals mg) (a : PySem.W.nsIn K mainGlobals "ON_A_WORLD" = some (some (.ref t)))
    (l : K.lookup t = some ⟨.type "dict", none, .dict #[⟨hashInt 1, .int 1 t1, .ref f1⟩, ⟨hashInt 2, .int 2 t2, .ref f2⟩, ⟨hashInt 3, .int 3 t3, .ref f3⟩, ⟨hashInt 4, .int 4 t4, .ref f4⟩, ⟨hashInt 5, .int 5 t5, .ref f5⟩, ⟨hashInt 6, .int 6 t6, .ref f6⟩, ⟨hashInt 7, .int 7 t7, .ref f7⟩, ⟨hashInt 8, .int 8 t8, .ref f8⟩, ⟨hashInt 9, .int 9 t9, .ref f9⟩, ⟨hashInt 10, .int 10 t10, .ref f10⟩, ⟨hashInt 11, .int 11 t11, .ref f11⟩, ⟨hashInt 12, .int 12 t12, .ref f12⟩, ⟨hashInt 13, .int 13 t13, .ref f13⟩, ⟨hashInt 14, .int 14 t14, .ref f14⟩, ⟨hashInt 15, .int 15 t15, .ref f15⟩, ⟨hashInt 16, .int 16 t16, .ref f16⟩] n, #[]⟩)
    (m1 : PySem.W.nsIn K mainGlobals "pass_time" = some (some (.ref f1)))
    (m2 : PySem.W.nsIn K mainGlobals "skew" = some (some (.ref f2)))
    (m3 : PySem.W.nsIn K mainGlobals "lie" = some (some (.ref f3)))
    (m4 : PySem.W.nsIn K mainGlobals "ask" = some (some (.ref f4)))
    (m5 : PySem.W.nsIn K mainGlobals "give_stamp" = some (some (.ref f5)))
    (m6 : PySem.W.nsIn K mainGlobals "settle" = some (some (.ref f6)))
    (m7 : PySem.W.nsIn K mainGlobals "take" = some (some (.ref f7)))
    (m8 : PySem.W.nsIn K mainGlobals "keep" = some (some (.ref f8)))
    (m9 : PySem.W.nsIn K mainGlobals "lose" = some (some (.ref f9)))
    (m10 : PySem.W.nsIn K mainGlobals "stop" = some (some (.ref f10)))
    (m11 : PySem.W.nsIn K mainGlobals "start" = some (some (.ref f11)))
    (m12 : PySem.W.nsIn K mainGlobals "show_letters" = some (some (.ref f12)))
    (m13 : PySem.W.nsIn K mainGlobals "show_time" = some (some (.ref f13)))
    (m14 : PySem.W.nsIn K mainGlobals "show_node" = some (some (.ref f14)))
    (m15 : PySem.W.nsIn K mainGlobals "show_master" = some (some (.ref f15)))
    (m16 : PySem.W.nsIn K mainGlobals "show_stamps" = some (some (.ref f16)))
    : ∃ t, Tab K mg t :=
  ⟨t, PySem.W.mg_of X G a, n, f1, f2, f3, f4, f5, f6, f7, f8, f9, f10, f11, f12, f13, f14, f15, f16, [t1, t2, t3, t4, t5, t6, t7, t8, t9, t10, t11, t12, t13, t14, t15, t16], rfl, l, PySem.W.mg_of X G m1, PySem.W.mg_of X G m2, PySem.W.mg_of X G m3, PySem.W.mg_of X G m4, PySem.W.mg_of X G m5, PySem.W.mg_of X G m6, PySem.W.mg_of X G m7, PySem.W.mg_of X G m8, PySem.W.mg_of X G m9, PySem.W.mg_of X G m10, PySem.W.mg_of X G m11, PySem.W.mg_of X G m12, PySem.W.mg_of X G m13, PySem.W.mg_of X G m14, PySem.W.mg_of X G m15, PySem.W.mg_of X G m16⟩
/-- every def keeps its promise: so the whole does -/
theorem whole {fa : Addr} {fd : FuncData} (F : L2.Fun K "answers" "answers" s_answers fa fd) (T : Txt K mg C) (cl_Master : Cl K mg "Master" "Master.__init__" s_Master C.master) (cl_Waiting : Cl K mg "Waiting" "Waiting.__init__" s_Waiting C.waiting) (cl_Known : Cl K mg "Known" "Known.__init__" s_Known C.known) (cl_Node : Cl K mg "Node" "Node.__init__" s_Node C.node) (cl_Letter : Cl K mg "Letter" "Letter.__init__" s_Letter C.letter) (cl_Stamp : Cl K mg "Stamp" "Stamp.__init__" s_Stamp C.stamp) (cl_World : Cl K mg "World" "World.__init__" s_World C.world) (cl_Span : Cl K mg "Span" "Span.__init__" s_Span C.span) (cl_Line : Cl K mg "Line" "Line.__init__" s_Line C.line) (F_least_passed : Fn K mg "least_passed" s_least_passed) (F_most_passed : Fn K mg "most_passed" s_most_passed) (F_grown : Fn K mg "grown" s_grown) (F_common : Fn K mg "common" s_common) (F_holders : Fn K mg "holders" s_holders) (F_agreed : Fn K mg "agreed" s_agreed) (F_said_by : Fn K mg "said_by" s_said_by) (F_known_now : Fn K mg "known_now" s_known_now) (F_time_by : Fn K mg "time_by" s_time_by) (F_learn : Fn K mg "learn" s_learn) (F_forget : Fn K mg "forget" s_forget) (F_send : Fn K mg "send" s_send) (F_send_ask : Fn K mg "send_ask" s_send_ask) (F_hand_over : Fn K mg "hand_over" s_hand_over) (F_answer_ask : Fn K mg "answer_ask" s_answer_ask) (F_hear_answer : Fn K mg "hear_answer" s_hear_answer) (F_waited_for_at : Fn K mg "waited_for_at" s_waited_for_at) (F_ends : Fn K mg "ends" s_ends) (F_letter_shown : Fn K mg "letter_shown" s_letter_shown) (F_letters_shown : Fn K mg "letters_shown" s_letters_shown) (F_time_shown : Fn K mg "time_shown" s_time_shown) (F_known_shown : Fn K mg "known_shown" s_known_shown) (F_node_shown : Fn K mg "node_shown" s_node_shown) (F_master_shown : Fn K mg "master_shown" s_master_shown) (F_stamp_shown : Fn K mg "stamp_shown" s_stamp_shown) (F_stamps_shown : Fn K mg "stamps_shown" s_stamps_shown) (F_there : Fn K mg "there" s_there) (F_begin : Fn K mg "begin" s_begin) (F_goes_right : Fn K mg "goes_right" s_goes_right) (F_pass_time : Fn K mg "pass_time" s_pass_time) (F_skew : Fn K mg "skew" s_skew) (F_lie : Fn K mg "lie" s_lie) (F_ask : Fn K mg "ask" s_ask) (F_new_event : Fn K mg "new_event" s_new_event) (F_give_stamp : Fn K mg "give_stamp" s_give_stamp) (F_settle : Fn K mg "settle" s_settle) (F_take : Fn K mg "take" s_take) (F_keep : Fn K mg "keep" s_keep) (F_lose : Fn K mg "lose" s_lose) (F_stop : Fn K mg "stop" s_stop) (F_start : Fn K mg "start" s_start) (F_show_letters : Fn K mg "show_letters" s_show_letters) (F_show_time : Fn K mg "show_time" s_show_time) (F_show_node : Fn K mg "show_node" s_show_node) (F_show_master : Fn K mg "show_master" s_show_master) (F_show_stamps : Fn K mg "show_stamps" s_show_stamps) (F_answer_to : Fn K mg "answer_to" s_answer_to) (F_end_of_call : Fn K mg "end_of_call" s_end_of_call) {tN t : Addr} (g_NUMBERS : mg "NUMBERS" = some (.ref tN)) (hN : ∀ H, SqT K H tN (numbers.map vN)) (tb : Tab K mg t) : FnOk P w K mg base CX0 10 fa fd ["calls"] (spAll K) := by
  have m_Span := mk_Span (P := P) (w := w) (base := base) cl_Span T
  have m_Master := mk_Master (P := P) (w := w) (base := base) cl_Master T
  have m_Waiting := mk_Waiting (P := P) (w := w) (base := base) cl_Waiting T
  have m_Known := mk_Known (P := P) (w := w) (base := base) cl_Known T
  have m_Letter := mk_Letter (P := P) (w := w) (base := base) cl_Letter T
  have m_Stamp := mk_Stamp (P := P) (w := w) (base := base) cl_Stamp T
  have m_Line := mk_Line (P := P) (w := w) (base := base) cl_Line T
  have m_Node := mk_Node (P := P) (w := w) (base := base) cl_Node T
  have m_World := mk_World (P := P) (w := w) (base := base) cl_World T m_Master m_Node
  have c_least_passed := cal_least_passed (P := P) (w := w) (base := base) F_least_passed 
  have c_most_passed := cal_most_passed (P := P) (w := w) (base := base) F_most_passed 
  have c_grown := cal_grown (P := P) (w := w) (base := base) F_grown T m_Span c_least_passed c_most_passed
  have c_common := cal_common (P := P) (w := w) (base := base) F_common T m_Span
  have c_holders := cal_holders (P := P) (w := w) (base := base) F_holders T
  have c_agreed := cal_agreed (P := P) (w := w) (base := base) F_agreed T m_Span c_holders
  have c_said_by := cal_said_by (P := P) (w := w) (base := base) F_said_by T m_Span
  have c_known_now := cal_known_now (P := P) (w := w) (base := base) F_known_now T c_grown
  have c_time_by := cal_time_by (P := P) (w := w) (base := base) F_time_by T c_known_now c_agreed
  have c_learn := cal_learn (P := P) (w := w) (base := base) F_learn T m_Span m_Known c_most_passed c_common c_known_now
  have c_forget := cal_forget (P := P) (w := w) (base := base) F_forget T
  have c_send := cal_send (P := P) (w := w) (base := base) F_send T
  have c_send_ask := cal_send_ask (P := P) (w := w) (base := base) F_send_ask T m_Letter c_send
  have c_answer_ask := cal_answer_ask (P := P) (w := w) (base := base) F_answer_ask T m_Letter c_send c_said_by
  have c_waited_for_at := cal_waited_for_at (P := P) (w := w) (base := base) F_waited_for_at T
  have c_hear_answer := cal_hear_answer (P := P) (w := w) (base := base) F_hear_answer T c_waited_for_at c_learn
  have c_hand_over := cal_hand_over (P := P) (w := w) (base := base) F_hand_over T c_answer_ask c_hear_answer
  have c_there := cal_there (P := P) (w := w) (base := base) F_there T
  have c_skew := cal_skew (P := P) (w := w) (base := base) F_skew T c_there
  have c_lie := cal_lie (P := P) (w := w) (base := base) F_lie T m_Span c_there
  have c_ask := cal_ask (P := P) (w := w) (base := base) F_ask T m_Waiting c_there c_send_ask
  have c_new_event := cal_new_event (P := P) (w := w) (base := base) F_new_event T
  have c_take := cal_take (P := P) (w := w) (base := base) F_take T c_there c_hand_over
  have c_keep := cal_keep (P := P) (w := w) (base := base) F_keep T c_there c_hand_over
  have c_give_stamp := cal_give_stamp (P := P) (w := w) (base := base) F_give_stamp T m_Stamp c_there c_time_by c_new_event
  have c_settle := cal_settle (P := P) (w := w) (base := base) F_settle T c_there c_time_by c_new_event
  have c_goes_right := cal_goes_right (P := P) (w := w) (base := base) F_goes_right T
  have c_pass_time := cal_pass_time (P := P) (w := w) (base := base) F_pass_time T c_goes_right
  have c_lose := cal_lose (P := P) (w := w) (base := base) F_lose T c_there
  have c_stop := cal_stop (P := P) (w := w) (base := base) F_stop T c_there
  have c_start := cal_start (P := P) (w := w) (base := base) F_start T c_there c_forget
  have c_ends := cal_ends (P := P) (w := w) (base := base) F_ends T
  have c_letter_shown := cal_letter_shown (P := P) (w := w) (base := base) F_letter_shown T c_ends
  have c_letters_shown := cal_letters_shown (P := P) (w := w) (base := base) F_letters_shown T c_letter_shown
  have c_show_letters := cal_show_letters (P := P) (w := w) (base := base) F_show_letters T c_letters_shown
  have c_time_shown := cal_time_shown (P := P) (w := w) (base := base) F_time_shown T c_ends c_time_by
  have c_show_time := cal_show_time (P := P) (w := w) (base := base) F_show_time T c_there c_time_shown
  have c_known_shown := cal_known_shown (P := P) (w := w) (base := base) F_known_shown T c_ends
  have c_node_shown := cal_node_shown (P := P) (w := w) (base := base) F_node_shown T c_known_shown
  have c_show_node := cal_show_node (P := P) (w := w) (base := base) F_show_node T c_there c_node_shown
  have c_master_shown := cal_master_shown (P := P) (w := w) (base := base) F_master_shown T c_ends c_said_by
  have c_show_master := cal_show_master (P := P) (w := w) (base := base) F_show_master T c_there c_master_shown
  have c_stamp_shown := cal_stamp_shown (P := P) (w := w) (base := base) F_stamp_shown T
  have c_stamps_shown := cal_stamps_shown (P := P) (w := w) (base := base) F_stamps_shown T c_stamp_shown
  have c_show_stamps := cal_show_stamps (P := P) (w := w) (base := base) F_show_stamps T c_stamps_shown
  have c_begin := cal_begin (P := P) (w := w) (base := base) F_begin T m_World
  have c_end_of_call := cal_end_of_call (P := P) (w := w) (base := base) F_end_of_call T g_NUMBERS hN
  obtain ⟨n, f1, f2, f3, f4, f5, f6, f7, f8, f9, f10, f11, f12, f13, f14, f15, f16, ts, hts, l, m1, m2, m3, m4, m5, m6, m7, m8, m9, m10, m11, m12, m13, m14, m15, m16⟩ := tb.ex
  have tl : TabL P w K mg base C 8 1 [f1, f2, f3, f4, f5, f6, f7, f8, f9, f10, f11, f12, f13, f14, f15, f16] := ⟨⟨_, calAt_of c_pass_time m1, by decide⟩, ⟨⟨_, calAt_of c_skew m2, by decide⟩, ⟨⟨_, calAt_of c_lie m3, by decide⟩, ⟨⟨_, calAt_of c_ask m4, by decide⟩, ⟨⟨_, calAt_of c_give_stamp m5, by decide⟩, ⟨⟨_, calAt_of c_settle m6, by decide⟩, ⟨⟨_, calAt_of c_take m7, by decide⟩, ⟨⟨_, calAt_of c_keep m8, by decide⟩, ⟨⟨_, calAt_of c_lose m9, by decide⟩, ⟨⟨_, calAt_of c_stop m10, by decide⟩, ⟨⟨_, calAt_of c_start m11, by decide⟩, ⟨⟨_, calAt_of c_show_letters m12, by decide⟩, ⟨⟨_, calAt_of c_show_time m13, by decide⟩, ⟨⟨_, calAt_of c_show_node m14, by decide⟩, ⟨⟨_, calAt_of c_show_master m15, by decide⟩, ⟨⟨_, calAt_of c_show_stamps m16, by decide⟩, trivial⟩⟩⟩⟩⟩⟩⟩⟩⟩⟩⟩⟩⟩⟩⟩⟩
  have tab : Table P w K mg base C t 8 := table_mk l hts.symm rfl tl
  have c_answer_to := cal_answer_to (P := P) (w := w) (base := base) F_answer_to T tb.at_ tab c_begin
  exact ok_answers F T m_Line c_end_of_call c_answer_to
theorem whole_ex {fa : Addr} (FA : Fn K mg "answers" s_answers) (hmg : mg "answers" = some (.ref fa)) (T : Txt K mg C) (cl_Master : Cl K mg "Master" "Master.__init__" s_Master C.master) (cl_Waiting : Cl K mg "Waiting" "Waiting.__init__" s_Waiting C.waiting) (cl_Known : Cl K mg "Known" "Known.__init__" s_Known C.known) (cl_Node : Cl K mg "Node" "Node.__init__" s_Node C.node) (cl_Letter : Cl K mg "Letter" "Letter.__init__" s_Letter C.letter) (cl_Stamp : Cl K mg "Stamp" "Stamp.__init__" s_Stamp C.stamp) (cl_World : Cl K mg "World" "World.__init__" s_World C.world) (cl_Span : Cl K mg "Span" "Span.__init__" s_Span C.span) (cl_Line : Cl K mg "Line" "Line.__init__" s_Line C.line) (F_least_passed : Fn K mg "least_passed" s_least_passed) (F_most_passed : Fn K mg "most_passed" s_most_passed) (F_grown : Fn K mg "grown" s_grown) (F_common : Fn K mg "common" s_common) (F_holders : Fn K mg "holders" s_holders) (F_agreed : Fn K mg "agreed" s_agreed) (F_said_by : Fn K mg "said_by" s_said_by) (F_known_now : Fn K mg "known_now" s_known_now) (F_time_by : Fn K mg "time_by" s_time_by) (F_learn : Fn K mg "learn" s_learn) (F_forget : Fn K mg "forget" s_forget) (F_send : Fn K mg "send" s_send) (F_send_ask : Fn K mg "send_ask" s_send_ask) (F_hand_over : Fn K mg "hand_over" s_hand_over) (F_answer_ask : Fn K mg "answer_ask" s_answer_ask) (F_hear_answer : Fn K mg "hear_answer" s_hear_answer) (F_waited_for_at : Fn K mg "waited_for_at" s_waited_for_at) (F_ends : Fn K mg "ends" s_ends) (F_letter_shown : Fn K mg "letter_shown" s_letter_shown) (F_letters_shown : Fn K mg "letters_shown" s_letters_shown) (F_time_shown : Fn K mg "time_shown" s_time_shown) (F_known_shown : Fn K mg "known_shown" s_known_shown) (F_node_shown : Fn K mg "node_shown" s_node_shown) (F_master_shown : Fn K mg "master_shown" s_master_shown) (F_stamp_shown : Fn K mg "stamp_shown" s_stamp_shown) (F_stamps_shown : Fn K mg "stamps_shown" s_stamps_shown) (F_there : Fn K mg "there" s_there) (F_begin : Fn K mg "begin" s_begin) (F_goes_right : Fn K mg "goes_right" s_goes_right) (F_pass_time : Fn K mg "pass_time" s_pass_time) (F_skew : Fn K mg "skew" s_skew) (F_lie : Fn K mg "lie" s_lie) (F_ask : Fn K mg "ask" s_ask) (F_new_event : Fn K mg "new_event" s_new_event) (F_give_stamp : Fn K mg "give_stamp" s_give_stamp) (F_settle : Fn K mg "settle" s_settle) (F_take : Fn K mg "take" s_take) (F_keep : Fn K mg "keep" s_keep) (F_lose : Fn K mg "lose" s_lose) (F_stop : Fn K mg "stop" s_stop) (F_start : Fn K mg "start" s_start) (F_show_letters : Fn K mg "show_letters" s_show_letters) (F_show_time : Fn K mg "show_time" s_show_time) (F_show_node : Fn K mg "show_node" s_show_node) (F_show_master : Fn K mg "show_master" s_show_master) (F_show_stamps : Fn K mg "show_stamps" s_show_stamps) (F_answer_to : Fn K mg "answer_to" s_answer_to) (F_end_of_call : Fn K mg "end_of_call" s_end_of_call) {tN t : Addr} (g_NUMBERS : mg "NUMBERS" = some (.ref tN)) (hN : ∀ H, SqT K H tN (numbers.map vN)) (tb : Tab K mg t) :
    ∃ fd : FuncData, (∀ (s : Shared) (us : List Value), us.length = (["calls"] : List Str).length → BindsTo s fd ⟨us, []⟩ ((["calls"] : List Str).zip us)) ∧ ∀ base : Heap, K.In base → base.Ns mainGlobals mg → FnOk P w K mg base CX0 10 fa fd ["calls"] (spAll K) := by
  obtain ⟨f, fd, F, hm⟩ := FA
  rw [hm] at hmg
  injection hmg with hmg
  injection hmg with hmg
  subst hmg
  have F' := F
  obtain ⟨oc, od, kV, doc, pm, an, cdv, ct, osl, rfl, lk, hcd⟩ := F'.ex
  exact ⟨_, fun s us hu => match us, hu with | [_], _ => .of_eq rfl, fun base _ _ => whole F T cl_Master cl_Waiting cl_Known cl_Node cl_Letter cl_Stamp cl_World cl_Span cl_Line F_least_passed F_most_passed F_grown F_common F_holders F_agreed F_said_by F_known_now F_time_by F_learn F_forget F_send F_send_ask F_hand_over F_answer_ask F_hear_answer F_waited_for_at F_ends F_letter_shown F_letters_shown F_time_shown F_known_shown F_node_shown F_master_shown F_stamp_shown F_stamps_shown F_there F_begin F_goes_right F_pass_time F_skew F_lie F_ask F_new_event F_give_stamp F_settle F_take F_keep F_lose F_stop F_start F_show_letters F_show_time F_show_node F_show_master F_show_stamps F_answer_to F_end_of_call g_NUMBERS hN tb⟩
end
end Hc
set_option Elab.async false
set_option maxRecDepth 100000
open PySem PySem.W PyProof.Rows
set_option maxRecDepth 100000 in
set_option maxHeartbeats 0 in
theorem PySem.Challenge.cw_honestclocks_s01_answers_holds : PySem.Challenge.rw_honestclocks_s01_answers.Holds := by
  w_on; k_headS; (case hw => exact ⟨[.list [.int 12]], by decide +kernel, by decide +kernel⟩)
  k_fillS
  refine L2.walk_specK (r := PySem.Challenge.rw_honestclocks_s01_answers) (k := 10) (CX := L2.CX0) (ps := ["calls"]) (sp := Hc.spAll) (by decide +kernel) rfl rfl ⟨rfl, by decide, by decide⟩ (fun w h Y => PySem.W.kIn_of Y) ?F ?S (fun _ _ _ _ z => z)
  case F =>
    intro w mg fa h Y KX G hmg
    obtain ⟨C_Master, cl_Master, ok_Master⟩ : ∃ C, Hc.Cl (PySem.Challenge.cw_honestclocks_s01_answers_holds.heap_1 w.params) mg "Master" "Master.__init__" Hc.s_Master C ∧ Hc.ClsOk (PySem.Challenge.cw_honestclocks_s01_answers_holds.heap_1 w.params) C Hc.nMaster := by
      refine' Hc.cls_mk KX G ?aC ?a ?i ?l ?c ?k ?mk ?kc ?pg ?hd ?po ?sa (Hc.no_cons ?n0 (Hc.no_cons ?n1 (Hc.no_cons ?n2 Hc.no_nil)))
      (case aC => k_is)
      (case a => k_is)
      (case i => k_is)
      (case l => k_is)
      (case c => k_is)
      (case k => k_is)
      (case mk => k_is)
      (case kc => k_is)
      (case pg => k_is)
      (case hd => k_is)
      (case po => k_is)
      (case sa => k_is)
      (case n0 => k_is)
      (case n1 => k_is)
      (case n2 => k_is)
    obtain ⟨C_Waiting, cl_Waiting, ok_Waiting⟩ : ∃ C, Hc.Cl (PySem.Challenge.cw_honestclocks_s01_answers_holds.heap_1 w.params) mg "Waiting" "Waiting.__init__" Hc.s_Waiting C ∧ Hc.ClsOk (PySem.Challenge.cw_honestclocks_s01_answers_holds.heap_1 w.params) C Hc.nWaiting := by
      refine' Hc.cls_mk KX G ?aC ?a ?i ?l ?c ?k ?mk ?kc ?pg ?hd ?po ?sa (Hc.no_cons ?n0 (Hc.no_cons ?n1 (Hc.no_cons ?n2 Hc.no_nil)))
      (case aC => k_is)
      (case a => k_is)
      (case i => k_is)
      (case l => k_is)
      (case c => k_is)
      (case k => k_is)
      (case mk => k_is)
      (case kc => k_is)
      (case pg => k_is)
      (case hd => k_is)
      (case po => k_is)
      (case sa => k_is)
      (case n0 => k_is)
      (case n1 => k_is)
      (case n2 => k_is)
    obtain ⟨C_Known, cl_Known, ok_Known⟩ : ∃ C, Hc.Cl (PySem.Challenge.cw_honestclocks_s01_answers_holds.heap_1 w.params) mg "Known" "Known.__init__" Hc.s_Known C ∧ Hc.ClsOk (PySem.Challenge.cw_honestclocks_s01_answers_holds.heap_1 w.params) C Hc.nKnown := by
      refine' Hc.cls_mk KX G ?aC ?a ?i ?l ?c ?k ?mk ?kc ?pg ?hd ?po ?sa (Hc.no_cons ?n0 (Hc.no_cons ?n1 Hc.no_nil))
      (case aC => k_is)
      (case a => k_is)
      (case i => k_is)
      (case l => k_is)
      (case c => k_is)
      (case k => k_is)
      (case mk => k_is)
      (case kc => k_is)
      (case pg => k_is)
      (case hd => k_is)
      (case po => k_is)
      (case sa => k_is)
      (case n0 => k_is)
      (case n1 => k_is)
    obtain ⟨C_Node, cl_Node, ok_Node⟩ : ∃ C, Hc.Cl (PySem.Challenge.cw_honestclocks_s01_answers_holds.heap_1 w.params) mg "Node" "Node.__init__" Hc.s_Node C ∧ Hc.ClsOk (PySem.Challenge.cw_honestclocks_s01_answers_holds.heap_1 w.params) C Hc.nNode := by
      refine' Hc.cls_mk KX G ?aC ?a ?i ?l ?c ?k ?mk ?kc ?pg ?hd ?po ?sa (Hc.no_cons ?n0 (Hc.no_cons ?n1 (Hc.no_cons ?n2 (Hc.no_cons ?n3 (Hc.no_cons ?n4 (Hc.no_cons ?n5 Hc.no_nil))))))
      (case aC => k_is)
      (case a => k_is)
      (case i => k_is)
      (case l => k_is)
      (case c => k_is)
      (case k => k_is)
      (case mk => k_is)
      (case kc => k_is)
      (case pg => k_is)
      (case hd => k_is)
      (case po => k_is)
      (case sa => k_is)
      (case n0 => k_is)
      (case n1 => k_is)
      (case n2 => k_is)
      (case n3 => k_is)
      (case n4 => k_is)
      (case n5 => k_is)
    obtain ⟨C_Letter, cl_Letter, ok_Letter⟩ : ∃ C, Hc.Cl (PySem.Challenge.cw_honestclocks_s01_answers_holds.heap_1 w.params) mg "Letter" "Letter.__init__" Hc.s_Letter C ∧ Hc.ClsOk (PySem.Challenge.cw_honestclocks_s01_answers_holds.heap_1 w.params) C Hc.nLetter := by
      refine' Hc.cls_mk KX G ?aC ?a ?i ?l ?c ?k ?mk ?kc ?pg ?hd ?po ?sa (Hc.no_cons ?n0 (Hc.no_cons ?n1 (Hc.no_cons ?n2 (Hc.no_cons ?n3 (Hc.no_cons ?n4 Hc.no_nil)))))
      (case aC => k_is)
      (case a => k_is)
      (case i => k_is)
      (case l => k_is)
      (case c => k_is)
      (case k => k_is)
      (case mk => k_is)
      (case kc => k_is)
      (case pg => k_is)
      (case hd => k_is)
      (case po => k_is)
      (case sa => k_is)
      (case n0 => k_is)
      (case n1 => k_is)
      (case n2 => k_is)
      (case n3 => k_is)
      (case n4 => k_is)
    obtain ⟨C_Stamp, cl_Stamp, ok_Stamp⟩ : ∃ C, Hc.Cl (PySem.Challenge.cw_honestclocks_s01_answers_holds.heap_1 w.params) mg "Stamp" "Stamp.__init__" Hc.s_Stamp C ∧ Hc.ClsOk (PySem.Challenge.cw_honestclocks_s01_answers_holds.heap_1 w.params) C Hc.nStamp := by
      refine' Hc.cls_mk KX G ?aC ?a ?i ?l ?c ?k ?mk ?kc ?pg ?hd ?po ?sa (Hc.no_cons ?n0 (Hc.no_cons ?n1 (Hc.no_cons ?n2 (Hc.no_cons ?n3 Hc.no_nil))))
      (case aC => k_is)
      (case a => k_is)
      (case i => k_is)
      (case l => k_is)
      (case c => k_is)
      (case k => k_is)
      (case mk => k_is)
      (case kc => k_is)
      (case pg => k_is)
      (case hd => k_is)
      (case po => k_is)
      (case sa => k_is)
      (case n0 => k_is)
      (case n1 => k_is)
      (case n2 => k_is)
      (case n3 => k_is)
    obtain ⟨C_World, cl_World, ok_World⟩ : ∃ C, Hc.Cl (PySem.Challenge.cw_honestclocks_s01_answers_holds.heap_1 w.params) mg "World" "World.__init__" Hc.s_World C ∧ Hc.ClsOk (PySem.Challenge.cw_honestclocks_s01_answers_holds.heap_1 w.params) C Hc.nWorld := by
      refine' Hc.cls_mk KX G ?aC ?a ?i ?l ?c ?k ?mk ?kc ?pg ?hd ?po ?sa (Hc.no_cons ?n0 (Hc.no_cons ?n1 (Hc.no_cons ?n2 (Hc.no_cons ?n3 (Hc.no_cons ?n4 (Hc.no_cons ?n5 (Hc.no_cons ?n6 (Hc.no_cons ?n7 (Hc.no_cons ?n8 Hc.no_nil)))))))))
      (case aC => k_is)
      (case a => k_is)
      (case i => k_is)
      (case l => k_is)
      (case c => k_is)
      (case k => k_is)
      (case mk => k_is)
      (case kc => k_is)
      (case pg => k_is)
      (case hd => k_is)
      (case po => k_is)
      (case sa => k_is)
      (case n0 => k_is)
      (case n1 => k_is)
      (case n2 => k_is)
      (case n3 => k_is)
      (case n4 => k_is)
      (case n5 => k_is)
      (case n6 => k_is)
      (case n7 => k_is)
      (case n8 => k_is)
    obtain ⟨C_Span, cl_Span, ok_Span⟩ : ∃ C, Hc.Cl (PySem.Challenge.cw_honestclocks_s01_answers_holds.heap_1 w.params) mg "Span" "Span.__init__" Hc.s_Span C ∧ Hc.ClsOk (PySem.Challenge.cw_honestclocks_s01_answers_holds.heap_1 w.params) C Hc.nSpan := by
      refine' Hc.cls_mk KX G ?aC ?a ?i ?l ?c ?k ?mk ?kc ?pg ?hd ?po ?sa (Hc.no_cons ?n0 (Hc.no_cons ?n1 Hc.no_nil))
      (case aC => k_is)
      (case a => k_is)
      (case i => k_is)
      (case l => k_is)
      (case c => k_is)
      (case k => k_is)
      (case mk => k_is)
      (case kc => k_is)
      (case pg => k_is)
      (case hd => k_is)
      (case po => k_is)
      (case sa => k_is)
      (case n0 => k_is)
      (case n1 => k_is)
    obtain ⟨C_Line, cl_Line, ok_Line⟩ : ∃ C, Hc.Cl (PySem.Challenge.cw_honestclocks_s01_answers_holds.heap_1 w.params) mg "Line" "Line.__init__" Hc.s_Line C ∧ Hc.ClsOk (PySem.Challenge.cw_honestclocks_s01_answers_holds.heap_1 w.params) C Hc.nLine := by
      refine' Hc.cls_mk KX G ?aC ?a ?i ?l ?c ?k ?mk ?kc ?pg ?hd ?po ?sa (Hc.no_cons ?n0 Hc.no_nil)
      (case aC => k_is)
      (case a => k_is)
      (case i => k_is)
      (case l => k_is)
      (case c => k_is)
      (case k => k_is)
      (case mk => k_is)
      (case kc => k_is)
      (case pg => k_is)
      (case hd => k_is)
      (case po => k_is)
      (case sa => k_is)
      (case n0 => k_is)
    have F_least_passed : Hc.Fn (PySem.Challenge.cw_honestclocks_s01_answers_holds.heap_1 w.params) mg "least_passed" Hc.s_least_passed := by
      refine' Hc.fn_mk KX G ?a ?l ?c ?k
      (case a => k_is)
      (case l => k_is)
      (case c => k_is)
      (case k => k_is)
    have F_most_passed : Hc.Fn (PySem.Challenge.cw_honestclocks_s01_answers_holds.heap_1 w.params) mg "most_passed" Hc.s_most_passed := by
      refine' Hc.fn_mk KX G ?a ?l ?c ?k
      (case a => k_is)
      (case l => k_is)
      (case c => k_is)
      (case k => k_is)
    have F_grown : Hc.Fn (PySem.Challenge.cw_honestclocks_s01_answers_holds.heap_1 w.params) mg "grown" Hc.s_grown := by
      refine' Hc.fn_mk KX G ?a ?l ?c ?k
      (case a => k_is)
      (case l => k_is)
      (case c => k_is)
      (case k => k_is)
    have F_common : Hc.Fn (PySem.Challenge.cw_honestclocks_s01_answers_holds.heap_1 w.params) mg "common" Hc.s_common := by
      refine' Hc.fn_mk KX G ?a ?l ?c ?k
      (case a => k_is)
      (case l => k_is)
      (case c => k_is)
      (case k => k_is)
    have F_holders : Hc.Fn (PySem.Challenge.cw_honestclocks_s01_answers_holds.heap_1 w.params) mg "holders" Hc.s_holders := by
      refine' Hc.fn_mk KX G ?a ?l ?c ?k
      (case a => k_is)
      (case l => k_is)
      (case c => k_is)
      (case k => k_is)
    have F_agreed : Hc.Fn (PySem.Challenge.cw_honestclocks_s01_answers_holds.heap_1 w.params) mg "agreed" Hc.s_agreed := by
      refine' Hc.fn_mk KX G ?a ?l ?c ?k
      (case a => k_is)
      (case l => k_is)
      (case c => k_is)
      (case k => k_is)
    have F_said_by : Hc.Fn (PySem.Challenge.cw_honestclocks_s01_answers_holds.heap_1 w.params) mg "said_by" Hc.s_said_by := by
      refine' Hc.fn_mk KX G ?a ?l ?c ?k
      (case a => k_is)
      (case l => k_is)
      (case c => k_is)
      (case k => k_is)
    have F_known_now : Hc.Fn (PySem.Challenge.cw_honestclocks_s01_answers_holds.heap_1 w.params) mg "known_now" Hc.s_known_now := by
      refine' Hc.fn_mk KX G ?a ?l ?c ?k
      (case a => k_is)
      (case l => k_is)
      (case c => k_is)
      (case k => k_is)
    have F_time_by : Hc.Fn (PySem.Challenge.cw_honestclocks_s01_answers_holds.heap_1 w.params) mg "time_by" Hc.s_time_by := by
      refine' Hc.fn_mk KX G ?a ?l ?c ?k
      (case a => k_is)
      (case l => k_is)
      (case c => k_is)
      (case k => k_is)
    have F_learn : Hc.Fn (PySem.Challenge.cw_honestclocks_s01_answers_holds.heap_1 w.params) mg "learn" Hc.s_learn := by
      refine' Hc.fn_mk KX G ?a ?l ?c ?k
      (case a => k_is)
      (case l => k_is)
      (case c => k_is)
      (case k => k_is)
    have F_forget : Hc.Fn (PySem.Challenge.cw_honestclocks_s01_answers_holds.heap_1 w.params) mg "forget" Hc.s_forget := by
      refine' Hc.fn_mk KX G ?a ?l ?c ?k
      (case a => k_is)
      (case l => k_is)
      (case c => k_is)
      (case k => k_is)
    have F_send : Hc.Fn (PySem.Challenge.cw_honestclocks_s01_answers_holds.heap_1 w.params) mg "send" Hc.s_send := by
      refine' Hc.fn_mk KX G ?a ?l ?c ?k
      (case a => k_is)
      (case l => k_is)
      (case c => k_is)
      (case k => k_is)
    have F_send_ask : Hc.Fn (PySem.Challenge.cw_honestclocks_s01_answers_holds.heap_1 w.params) mg "send_ask" Hc.s_send_ask := by
      refine' Hc.fn_mk KX G ?a ?l ?c ?k
      (case a => k_is)
      (case l => k_is)
      (case c => k_is)
      (case k => k_is)
    have F_hand_over : Hc.Fn (PySem.Challenge.cw_honestclocks_s01_answers_holds.heap_1 w.params) mg "hand_over" Hc.s_hand_over := by
      refine' Hc.fn_mk KX G ?a ?l ?c ?k
      (case a => k_is)
      (case l => k_is)
      (case c => k_is)
      (case k => k_is)
    have F_answer_ask : Hc.Fn (PySem.Challenge.cw_honestclocks_s01_answers_holds.heap_1 w.params) mg "answer_ask" Hc.s_answer_ask := by
      refine' Hc.fn_mk KX G ?a ?l ?c ?k
      (case a => k_is)
      (case l => k_is)
      (case c => k_is)
      (case k => k_is)
    have F_hear_answer : Hc.Fn (PySem.Challenge.cw_honestclocks_s01_answers_holds.heap_1 w.params) mg "hear_answer" Hc.s_hear_answer := by
      refine' Hc.fn_mk KX G ?a ?l ?c ?k
      (case a => k_is)
      (case l => k_is)
      (case c => k_is)
      (case k => k_is)
    have F_waited_for_at : Hc.Fn (PySem.Challenge.cw_honestclocks_s01_answers_holds.heap_1 w.params) mg "waited_for_at" Hc.s_waited_for_at := by
      refine' Hc.fn_mk KX G ?a ?l ?c ?k
      (case a => k_is)
      (case l => k_is)
      (case c => k_is)
      (case k => k_is)
    have F_ends : Hc.Fn (PySem.Challenge.cw_honestclocks_s01_answers_holds.heap_1 w.params) mg "ends" Hc.s_ends := by
      refine' Hc.fn_mk KX G ?a ?l ?c ?k
      (case a => k_is)
      (case l => k_is)
      (case c => k_is)
      (case k => k_is)
    have F_letter_shown : Hc.Fn (PySem.Challenge.cw_honestclocks_s01_answers_holds.heap_1 w.params) mg "letter_shown" Hc.s_letter_shown := by
      refine' Hc.fn_mk KX G ?a ?l ?c ?k
      (case a => k_is)
      (case l => k_is)
      (case c => k_is)
      (case k => k_is)
    have F_letters_shown : Hc.Fn (PySem.Challenge.cw_honestclocks_s01_answers_holds.heap_1 w.params) mg "letters_shown" Hc.s_letters_shown := by
      refine' Hc.fn_mk KX G ?a ?l ?c ?k
      (case a => k_is)
      (case l => k_is)
      (case c => k_is)
      (case k => k_is)
    have F_time_shown : Hc.Fn (PySem.Challenge.cw_honestclocks_s01_answers_holds.heap_1 w.params) mg "time_shown" Hc.s_time_shown := by
      refine' Hc.fn_mk KX G ?a ?l ?c ?k
      (case a => k_is)
      (case l => k_is)
      (case c => k_is)
      (case k => k_is)
    have F_known_shown : Hc.Fn (PySem.Challenge.cw_honestclocks_s01_answers_holds.heap_1 w.params) mg "known_shown" Hc.s_known_shown := by
      refine' Hc.fn_mk KX G ?a ?l ?c ?k
      (case a => k_is)
      (case l => k_is)
      (case c => k_is)
      (case k => k_is)
    have F_node_shown : Hc.Fn (PySem.Challenge.cw_honestclocks_s01_answers_holds.heap_1 w.params) mg "node_shown" Hc.s_node_shown := by
      refine' Hc.fn_mk KX G ?a ?l ?c ?k
      (case a => k_is)
      (case l => k_is)
      (case c => k_is)
      (case k => k_is)
    have F_master_shown : Hc.Fn (PySem.Challenge.cw_honestclocks_s01_answers_holds.heap_1 w.params) mg "master_shown" Hc.s_master_shown := by
      refine' Hc.fn_mk KX G ?a ?l ?c ?k
      (case a => k_is)
      (case l => k_is)
      (case c => k_is)
      (case k => k_is)
    have F_stamp_shown : Hc.Fn (PySem.Challenge.cw_honestclocks_s01_answers_holds.heap_1 w.params) mg "stamp_shown" Hc.s_stamp_shown := by
      refine' Hc.fn_mk KX G ?a ?l ?c ?k
      (case a => k_is)
      (case l => k_is)
      (case c => k_is)
      (case k => k_is)
    have F_stamps_shown : Hc.Fn (PySem.Challenge.cw_honestclocks_s01_answers_holds.heap_1 w.params) mg "stamps_shown" Hc.s_stamps_shown := by
      refine' Hc.fn_mk KX G ?a ?l ?c ?k
      (case a => k_is)
      (case l => k_is)
      (case c => k_is)
      (case k => k_is)
    have F_there : Hc.Fn (PySem.Challenge.cw_honestclocks_s01_answers_holds.heap_1 w.params) mg "there" Hc.s_there := by
      refine' Hc.fn_mk KX G ?a ?l ?c ?k
      (case a => k_is)
      (case l => k_is)
      (case c => k_is)
      (case k => k_is)
    have F_begin : Hc.Fn (PySem.Challenge.cw_honestclocks_s01_answers_holds.heap_1 w.params) mg "begin" Hc.s_begin := by
      refine' Hc.fn_mk KX G ?a ?l ?c ?k
      (case a => k_is)
      (case l => k_is)
      (case c => k_is)
      (case k => k_is)
    have F_goes_right : Hc.Fn (PySem.Challenge.cw_honestclocks_s01_answers_holds.heap_1 w.params) mg "goes_right" Hc.s_goes_right := by
      refine' Hc.fn_mk KX G ?a ?l ?c ?k
      (case a => k_is)
      (case l => k_is)
      (case c => k_is)
      (case k => k_is)
    have F_pass_time : Hc.Fn (PySem.Challenge.cw_honestclocks_s01_answers_holds.heap_1 w.params) mg "pass_time" Hc.s_pass_time := by
      refine' Hc.fn_mk KX G ?a ?l ?c ?k
      (case a => k_is)
      (case l => k_is)
      (case c => k_is)
      (case k => k_is)
    have F_skew : Hc.Fn (PySem.Challenge.cw_honestclocks_s01_answers_holds.heap_1 w.params) mg "skew" Hc.s_skew := by
      refine' Hc.fn_mk KX G ?a ?l ?c ?k
      (case a => k_is)
      (case l => k_is)
      (case c => k_is)
      (case k => k_is)
    have F_lie : Hc.Fn (PySem.Challenge.cw_honestclocks_s01_answers_holds.heap_1 w.params) mg "lie" Hc.s_lie := by
      refine' Hc.fn_mk KX G ?a ?l ?c ?k
      (case a => k_is)
      (case l => k_is)
      (case c => k_is)
      (case k => k_is)
    have F_ask : Hc.Fn (PySem.Challenge.cw_honestclocks_s01_answers_holds.heap_1 w.params) mg "ask" Hc.s_ask := by
      refine' Hc.fn_mk KX G ?a ?l ?c ?k
      (case a => k_is)
      (case l => k_is)
      (case c => k_is)
      (case k => k_is)
    have F_new_event : Hc.Fn (PySem.Challenge.cw_honestclocks_s01_answers_holds.heap_1 w.params) mg "new_event" Hc.s_new_event := by
      refine' Hc.fn_mk KX G ?a ?l ?c ?k
      (case a => k_is)
      (case l => k_is)
      (case c => k_is)
      (case k => k_is)
    have F_give_stamp : Hc.Fn (PySem.Challenge.cw_honestclocks_s01_answers_holds.heap_1 w.params) mg "give_stamp" Hc.s_give_stamp := by
      refine' Hc.fn_mk KX G ?a ?l ?c ?k
      (case a => k_is)
      (case l => k_is)
      (case c => k_is)
      (case k => k_is)
    have F_settle : Hc.Fn (PySem.Challenge.cw_honestclocks_s01_answers_holds.heap_1 w.params) mg "settle" Hc.s_settle := by
      refine' Hc.fn_mk KX G ?a ?l ?c ?k
      (case a => k_is)
      (case l => k_is)
      (case c => k_is)
      (case k => k_is)
    have F_take : Hc.Fn (PySem.Challenge.cw_honestclocks_s01_answers_holds.heap_1 w.params) mg "take" Hc.s_take := by
      refine' Hc.fn_mk KX G ?a ?l ?c ?k
      (case a => k_is)
      (case l => k_is)
      (case c => k_is)
      (case k => k_is)
    have F_keep : Hc.Fn (PySem.Challenge.cw_honestclocks_s01_answers_holds.heap_1 w.params) mg "keep" Hc.s_keep := by
      refine' Hc.fn_mk KX G ?a ?l ?c ?k
      (case a => k_is)
      (case l => k_is)
      (case c => k_is)
      (case k => k_is)
    have F_lose : Hc.Fn (PySem.Challenge.cw_honestclocks_s01_answers_holds.heap_1 w.params) mg "lose" Hc.s_lose := by
      refine' Hc.fn_mk KX G ?a ?l ?c ?k
      (case a => k_is)
      (case l => k_is)
      (case c => k_is)
      (case k => k_is)
    have F_stop : Hc.Fn (PySem.Challenge.cw_honestclocks_s01_answers_holds.heap_1 w.params) mg "stop" Hc.s_stop := by
      refine' Hc.fn_mk KX G ?a ?l ?c ?k
      (case a => k_is)
      (case l => k_is)
      (case c => k_is)
      (case k => k_is)
    have F_start : Hc.Fn (PySem.Challenge.cw_honestclocks_s01_answers_holds.heap_1 w.params) mg "start" Hc.s_start := by
      refine' Hc.fn_mk KX G ?a ?l ?c ?k
      (case a => k_is)
      (case l => k_is)
      (case c => k_is)
      (case k => k_is)
    have F_show_letters : Hc.Fn (PySem.Challenge.cw_honestclocks_s01_answers_holds.heap_1 w.params) mg "show_letters" Hc.s_show_letters := by
      refine' Hc.fn_mk KX G ?a ?l ?c ?k
      (case a => k_is)
      (case l => k_is)
      (case c => k_is)
      (case k => k_is)
    have F_show_time : Hc.Fn (PySem.Challenge.cw_honestclocks_s01_answers_holds.heap_1 w.params) mg "show_time" Hc.s_show_time := by
      refine' Hc.fn_mk KX G ?a ?l ?c ?k
      (case a => k_is)
      (case l => k_is)
      (case c => k_is)
      (case k => k_is)
    have F_show_node : Hc.Fn (PySem.Challenge.cw_honestclocks_s01_answers_holds.heap_1 w.params) mg "show_node" Hc.s_show_node := by
      refine' Hc.fn_mk KX G ?a ?l ?c ?k
      (case a => k_is)
      (case l => k_is)
      (case c => k_is)
      (case k => k_is)
    have F_show_master : Hc.Fn (PySem.Challenge.cw_honestclocks_s01_answers_holds.heap_1 w.params) mg "show_master" Hc.s_show_master := by
      refine' Hc.fn_mk KX G ?a ?l ?c ?k
      (case a => k_is)
      (case l => k_is)
      (case c => k_is)
      (case k => k_is)
    have F_show_stamps : Hc.Fn (PySem.Challenge.cw_honestclocks_s01_answers_holds.heap_1 w.params) mg "show_stamps" Hc.s_show_stamps := by
      refine' Hc.fn_mk KX G ?a ?l ?c ?k
      (case a => k_is)
      (case l => k_is)
      (case c => k_is)
      (case k => k_is)
    have F_answer_to : Hc.Fn (PySem.Challenge.cw_honestclocks_s01_answers_holds.heap_1 w.params) mg "answer_to" Hc.s_answer_to := by
      refine' Hc.fn_mk KX G ?a ?l ?c ?k
      (case a => k_is)
      (case l => k_is)
      (case c => k_is)
      (case k => k_is)
    have F_end_of_call : Hc.Fn (PySem.Challenge.cw_honestclocks_s01_answers_holds.heap_1 w.params) mg "end_of_call" Hc.s_end_of_call := by
      refine' Hc.fn_mk KX G ?a ?l ?c ?k
      (case a => k_is)
      (case l => k_is)
      (case c => k_is)
      (case k => k_is)
    have F_answers : Hc.Fn (PySem.Challenge.cw_honestclocks_s01_answers_holds.heap_1 w.params) mg "answers" Hc.s_answers := by
      refine' Hc.fn_mk KX G ?a ?l ?c ?k
      (case a => k_is)
      (case l => k_is)
      (case c => k_is)
      (case k => k_is)
    have b_len : mg "len" = none := by
      refine' PySem.W.mg_none_of KX G ?a
      (case a => k_is)
    have b_max : mg "max" = none := by
      refine' PySem.W.mg_none_of KX G ?a
      (case a => k_is)
    have b_min : mg "min" = none := by
      refine' PySem.W.mg_none_of KX G ?a
      (case a => k_is)
    have b_all : mg "all" = none := by
      refine' PySem.W.mg_none_of KX G ?a
      (case a => k_is)
    have b_zip : mg "zip" = none := by
      refine' PySem.W.mg_none_of KX G ?a
      (case a => k_is)
    have b_enumerate : mg "enumerate" = none := by
      refine' PySem.W.mg_none_of KX G ?a
      (case a => k_is)
    have b_range : mg "range" = none := by
      refine' PySem.W.mg_none_of KX G ?a
      (case a => k_is)
    have g_ROOM : Hc.GInt mg "ROOM" 100 := by
      refine' Hc.gint_mk KX G ?a
      (case a => k_is)
    have g_ASK : Hc.GInt mg "ASK" 0 := by
      refine' Hc.gint_mk KX G ?a
      (case a => k_is)
    have g_ANSWER : Hc.GInt mg "ANSWER" 1 := by
      refine' Hc.gint_mk KX G ?a
      (case a => k_is)
    have g_NO_USE : Hc.GInt mg "NO_USE" 0 := by
      refine' Hc.gint_mk KX G ?a
      (case a => k_is)
    have g_ANSWERED : Hc.GInt mg "ANSWERED" 1 := by
      refine' Hc.gint_mk KX G ?a
      (case a => k_is)
    have g_HEARD : Hc.GInt mg "HEARD" 2 := by
      refine' Hc.gint_mk KX G ?a
      (case a => k_is)
    have g_NONE_YET : Hc.GInt mg "NONE_YET" (-1) := by
      refine' Hc.gint_mk KX G ?a
      (case a => k_is)
    have g_DONE : Hc.GInt mg "DONE" 0 := by
      refine' Hc.gint_mk KX G ?a
      (case a => k_is)
    have g_NOT_FITTING : Hc.GInt mg "NOT_FITTING" (-1) := by
      refine' Hc.gint_mk KX G ?a
      (case a => k_is)
    have g_SO_ALREADY : Hc.GInt mg "SO_ALREADY" (-2) := by
      refine' Hc.gint_mk KX G ?a
      (case a => k_is)
    have g_HAS_STOPPED : Hc.GInt mg "HAS_STOPPED" (-3) := by
      refine' Hc.gint_mk KX G ?a
      (case a => k_is)
    have g_TIME_UNKNOWN : Hc.GInt mg "TIME_UNKNOWN" (-6) := by
      refine' Hc.gint_mk KX G ?a
      (case a => k_is)
    have g_NOT_YET_PAST : Hc.GInt mg "NOT_YET_PAST" (-7) := by
      refine' Hc.gint_mk KX G ?a
      (case a => k_is)
    have g_NO_WORLD : Hc.GInt mg "NO_WORLD" (-9) := by
      refine' Hc.gint_mk KX G ?a
      (case a => k_is)
    have g_BEGIN : Hc.GInt mg "BEGIN" 0 := by
      refine' Hc.gint_mk KX G ?a
      (case a => k_is)
    have g_PASS : Hc.GInt mg "PASS" 1 := by
      refine' Hc.gint_mk KX G ?a
      (case a => k_is)
    obtain ⟨t_NUMBERS, g_NUMBERS, hN⟩ : ∃ t, mg "NUMBERS" = some (.ref t) ∧ ∀ H, L2.SqT (PySem.Challenge.cw_honestclocks_s01_answers_holds.heap_1 w.params) H t (Hc.numbers.map Hc.vN) := by
      refine' Hc.numbers_ex KX G ?a ?l
      (case a => k_is)
      (case l => k_is)
    obtain ⟨t, tb⟩ : ∃ t, Hc.Tab (PySem.Challenge.cw_honestclocks_s01_answers_holds.heap_1 w.params) mg t := by
      refine' Hc.tab_mk KX G ?a ?l ?m1 ?m2 ?m3 ?m4 ?m5 ?m6 ?m7 ?m8 ?m9 ?m10 ?m11 ?m12 ?m13 ?m14 ?m15 ?m16
      (case a => k_is)
      (case l => k_is)
      (case m1 => k_is)
      (case m2 => k_is)
      (case m3 => k_is)
      (case m4 => k_is)
      (case m5 => k_is)
      (case m6 => k_is)
      (case m7 => k_is)
      (case m8 => k_is)
      (case m9 => k_is)
      (case m10 => k_is)
      (case m11 => k_is)
      (case m12 => k_is)
      (case m13 => k_is)
      (case m14 => k_is)
      (case m15 => k_is)
      (case m16 => k_is)
    have T : Hc.Txt (PySem.Challenge.cw_honestclocks_s01_answers_holds.heap_1 w.params) mg ⟨C_Master, C_Waiting, C_Known, C_Node, C_Letter, C_Stamp, C_World, C_Span, C_Line⟩ := ⟨ok_Master, ok_Waiting, ok_Known, ok_Node, ok_Letter, ok_Stamp, ok_World, ok_Span, ok_Line, b_len, b_max, b_min, b_all, b_zip, b_enumerate, b_range, g_ROOM, g_ASK, g_ANSWER, g_NO_USE, g_ANSWERED, g_HEARD, g_DONE, g_NOT_FITTING, g_SO_ALREADY, g_NONE_YET, g_HAS_STOPPED, g_TIME_UNKNOWN, g_NOT_YET_PAST, g_NO_WORLD, g_BEGIN, g_PASS⟩
    exact Hc.whole_ex F_answers hmg T cl_Master cl_Waiting cl_Known cl_Node cl_Letter cl_Stamp cl_World cl_Span cl_Line F_least_passed F_most_passed F_grown F_common F_holders F_agreed F_said_by F_known_now F_time_by F_learn F_forget F_send F_send_ask F_hand_over F_answer_ask F_hear_answer F_waited_for_at F_ends F_letter_shown F_letters_shown F_time_shown F_known_shown F_node_shown F_master_shown F_stamp_shown F_stamps_shown F_there F_begin F_goes_right F_pass_time F_skew F_lie F_ask F_new_event F_give_stamp F_settle F_take F_keep F_lose F_stop F_start F_show_letters F_show_time F_show_node F_show_master F_show_stamps F_answer_to F_end_of_call g_NUMBERS hN tb
  case S =>
    intro K H xs a hO hwi hask hx
    cases hx with
    | cons h1 h2 =>
      cases h2
      cases h1 with
      | lst hs ha =>
        have e := L2.ints_dw a.1 _ ha
        subst e
        exact ⟨_, a.1, rfl, hs, hask, fun H' p hp => .lst (L2.SqL.of hp) (L2.dw_ints _)⟩
