import PyProof.Rows.All
import Wide.All
import OpenK.AllK
import Wide.FinOn
import PyKqi2
import PyFlatLaws
import Open.SpecLaws
import KE.OsGo
import KE.KRevIter
import PyProof.ListNew
import PyProof.ListRange
import HandS.ForSpec
import HandS.ForMost
import HandS.TupSets
import HandS.Rev
import HandS.RevTup
import HandS.CallLocal
import HandS.SetFor
import HandS.More
import HandS.Deep
import PySem.Challenge.RW_layerwords_s01_answers
set_option Elab.async false
set_option maxRecDepth 100000
set_option maxHeartbeats 2000000
namespace Lw
open Kqi2

/-! ### Words -/
def W01 (w : List Nat) : Prop := ∀ x ∈ w, x ≤ 1
/-- a word as the specification has it -/
structure Wd (w : List Nat) : Prop where
  lo : 1 ≤ w.length
  hi : w.length ≤ 10
  b : W01 w
theorem isWord_iff {l : List Nat} : isWord STEPS l = true ↔ Wd l := by
  unfold isWord STEPS
  simp only [Bool.and_eq_true, decide_eq_true_eq, List.all_eq_true]
  exact ⟨fun h => ⟨h.1.1, h.1.2, h.2⟩, fun h => ⟨⟨h.lo, h.hi⟩, h.b⟩⟩
theorem begun_len (w : List Nat) (k : Nat) (h : k ≤ w.length) : (begun w k).length = w.length := by
  unfold begun
  simp only [List.length_append, List.length_drop, List.length_take]
  omega
theorem opposite_len (w : List Nat) : (opposite w).length = w.length := by simp [opposite]
theorem begun_01 {w : List Nat} (h : W01 w) (k : Nat) : W01 (begun w k) := fun x hx => by
  unfold begun at hx
  rcases List.mem_append.mp hx with h1 | h1
  · exact h x (List.mem_of_mem_drop h1)
  · exact h x (List.mem_of_mem_take h1)
theorem opposite_01 (w : List Nat) : W01 (opposite w) := fun x hx => by
  unfold opposite at hx
  obtain ⟨y, _, rfl⟩ := List.mem_map.mp hx
  omega
theorem rev_01 {w : List Nat} (h : W01 w) : W01 w.reverse := fun x hx => h x (List.mem_reverse.mp hx)
theorem wd_begun {w : List Nat} (h : Wd w) {k : Nat} (hk : k ≤ w.length) : Wd (begun w k) := ⟨by rw [begun_len w k hk]; exact h.lo, by rw [begun_len w k hk]; exact h.hi, begun_01 h.b k⟩
theorem wd_opposite {w : List Nat} (h : Wd w) : Wd (opposite w) := ⟨by rw [opposite_len]; exact h.lo, by rw [opposite_len]; exact h.hi, opposite_01 w⟩
theorem wd_rev {w : List Nat} (h : Wd w) : Wd w.reverse := ⟨by rw [List.length_reverse]; exact h.lo, by rw [List.length_reverse]; exact h.hi, rev_01 h.b⟩
theorem wd_turn {w : List Nat} (h : Wd w) (i : Nat) : Wd (w.set i (1 - at_ w i)) := ⟨by rw [List.length_set]; exact h.lo, by rw [List.length_set]; exact h.hi, fun x hx => by
  rcases List.mem_or_eq_of_mem_set hx with h1 | h1
  · exact h.b x h1
  · omega⟩
theorem way_len (w : List Nat) (t : Nat) (hn : 1 ≤ w.length) : (way w t).length = w.length := by
  have hk : t % w.length ≤ w.length := Nat.le_of_lt (Nat.mod_lt _ hn)
  unfold way
  dsimp only
  split <;> split <;> simp only [List.length_reverse, opposite_len, begun_len w _ hk]
theorem way_01 {w : List Nat} (h : W01 w) (t : Nat) : W01 (way w t) := by
  unfold way
  dsimp only
  split <;> split <;> first | exact rev_01 (opposite_01 _) | exact rev_01 (begun_01 h _) | exact opposite_01 _ | exact begun_01 h _
theorem wd_way {w : List Nat} (h : Wd w) (t : Nat) : Wd (way w t) := ⟨by rw [way_len w t h.lo]; exact h.lo, by rw [way_len w t h.lo]; exact h.hi, way_01 h.b t⟩
/-- the kind of a way -/
theorem kind_lt {n t : Nat} (h : t < 4 * n) : t / n < 4 := Nat.div_lt_of_lt_mul (by rw [Nat.mul_comm]; exact h)
theorem kind_odd {n t : Nat} (h : t < 4 * n) : (t / n % 2 = 1) ↔ (t / n = 1 ∨ t / n = 3) := by
  have := kind_lt h
  generalize t / n = q at *
  omega
theorem kind_back {n t : Nat} (hn : 1 ≤ n) (h : t < 4 * n) : (2 * n ≤ t) ↔ (t / n = 2 ∨ t / n = 3) := by
  have h4 := kind_lt h
  have h2 : 2 ≤ t / n ↔ 2 * n ≤ t := Nat.le_div_iff_mul_le hn
  generalize t / n = q at *
  omega
/-- turned: the step of a place -/
theorem turn_cut {w : List Nat} {i x : Nat} (h : w[i]? = some x) : w.take i ++ [1 - x] ++ w.drop (i + 1) = w.set i (1 - at_ w i) := by
  have hi : i < w.length := (List.getElem?_eq_some_iff.mp h).1
  have e : at_ w i = x := by
    unfold at_
    rw [List.getD_eq_getElem?_getD, h]
    rfl
  rw [e, List.set_eq_take_append_cons_drop, if_pos hi, List.append_assoc]
  rfl

/-! ### The order, the names -/
theorem before_irrefl : ∀ (x : List Nat), before x x = false
  | [] => rfl
  | a :: l => by simp [before, before_irrefl l]
theorem before_trans : ∀ {x y z : List Nat}, before x y = true → before y z = true → before x z = true
  | [], _, _, h, _ => by simp [before] at h
  | _ :: _, [], _, h, _ => by simp [before] at h
  | _ :: _, _ :: _, [], _, h => by simp [before] at h
  | a :: x, b :: y, c :: z, h1, h2 => by
    simp only [before, Bool.or_eq_true, Bool.and_eq_true, decide_eq_true_eq, beq_iff_eq] at h1 h2 ⊢
    rcases h1 with h1 | ⟨e1, h1⟩ <;> rcases h2 with h2 | ⟨e2, h2⟩
    · exact .inl (by omega)
    · exact .inl (by omega)
    · exact .inl (by omega)
    · exact .inr ⟨by omega, before_trans h1 h2⟩
theorem before_tri : ∀ {x y : List Nat}, x.length = y.length → x = y ∨ before x y = true ∨ before y x = true
  | [], [], _ => .inl rfl
  | [], _ :: _, h => by simp at h
  | _ :: _, [], h => by simp at h
  | a :: x, b :: y, h => by
    have hl : x.length = y.length := by simpa using h
    simp only [before, Bool.or_eq_true, Bool.and_eq_true, decide_eq_true_eq, beq_iff_eq]
    rcases Nat.lt_trichotomy a b with h1 | h1 | h1
    · exact .inr (.inl (.inl h1))
    · subst h1
      rcases before_tri hl with e | e | e
      · exact .inl (by rw [e])
      · exact .inr (.inl (.inr ⟨rfl, e⟩))
      · exact .inr (.inr (.inr ⟨rfl, e⟩))
    · exact .inr (.inr (.inl h1))
theorem mem_insert_ {x y : List Nat} : ∀ {l : List (List Nat)}, y ∈ insert_ x l ↔ y = x ∨ y ∈ l
  | [] => by simp [insert_]
  | z :: l => by
    unfold insert_
    split
    · rename_i e
      subst e
      simp only [List.mem_cons]
      constructor
      · intro h; exact .inr h
      · rintro (h | h)
        · exact .inl h
        · exact h
    · split
      · simp only [List.mem_cons]
      · simp only [List.mem_cons, mem_insert_ (l := l)]
        constructor
        · rintro (h | h | h)
          · exact .inr (.inl h)
          · exact .inl h
          · exact .inr (.inr h)
        · rintro (h | h | h)
          · exact .inr (.inl h)
          · exact .inl h
          · exact .inr (.inr h)
abbrev Ord (l : List (List Nat)) : Prop := l.Pairwise fun a b => before a b = true
theorem ord_insert {n : Nat} {x : List Nat} (hx : x.length = n) : ∀ {l : List (List Nat)}, (∀ y ∈ l, y.length = n) → Ord l → Ord (insert_ x l)
  | [], _, _ => by simp [insert_, Ord]
  | z :: l, hl, h => by
    have h' := List.pairwise_cons.mp h
    unfold insert_
    split
    · exact h
    · split
      · rename_i hb
        refine List.pairwise_cons.mpr ⟨fun y hy => ?_, h⟩
        rcases List.mem_cons.mp hy with e | hy
        · rw [e]; exact hb
        · exact before_trans hb (h'.1 y hy)
      · rename_i hne hb
        have hz : before z x = true := by
          rcases before_tri (x := x) (y := z) (by rw [hx, hl z List.mem_cons_self]) with e | e | e
          · exact absurd e hne
          · exact absurd e hb
          · exact e
        refine List.pairwise_cons.mpr ⟨fun y hy => ?_, ord_insert hx (fun y hy => hl y (List.mem_cons_of_mem _ hy)) h'.2⟩
        rcases mem_insert_.mp hy with e | hy
        · rw [e]; exact hz
        · exact h'.1 y hy
theorem fold_names {n : Nat} : ∀ (l acc : List (List Nat)), (∀ y ∈ l, y.length = n) → (∀ y ∈ acc, y.length = n) → Ord acc →
    Ord (l.foldl (fun l x => insert_ x l) acc) ∧ ∀ y, y ∈ l.foldl (fun l x => insert_ x l) acc ↔ y ∈ l ∨ y ∈ acc
  | [], acc, _, _, ho => ⟨ho, fun y => by simp⟩
  | x :: l, acc, hl, ha, ho => by
    obtain ⟨h1, h2⟩ := fold_names (n := n) l (insert_ x acc) (fun y hy => hl y (List.mem_cons_of_mem _ hy)) (fun y hy => by
      rcases mem_insert_.mp hy with e | hy
      · rw [e]; exact hl x List.mem_cons_self
      · exact ha y hy) (ord_insert (hl x List.mem_cons_self) ha ho)
    refine ⟨h1, fun y => ?_⟩
    rw [List.foldl_cons, h2 y, mem_insert_, List.mem_cons]
    constructor
    · rintro (h | h | h)
      · exact .inl (.inr h)
      · exact .inl (.inl h)
      · exact .inr h
    · rintro ((h | h) | h)
      · exact .inr (.inl h)
      · exact .inl h
      · exact .inr (.inr h)
theorem ways_len {w : List Nat} (hn : 1 ≤ w.length) : ∀ y ∈ ways w, y.length = w.length := fun y hy => by
  unfold ways at hy
  obtain ⟨t, _, rfl⟩ := List.mem_map.mp hy
  exact way_len w t hn
theorem names_ord {w : List Nat} (hn : 1 ≤ w.length) : Ord (names w) := (fold_names (ways w) [] (ways_len hn) (fun _ h => nomatch h) .nil).1
theorem mem_names {w : List Nat} (hn : 1 ≤ w.length) (y : List Nat) : y ∈ names w ↔ y ∈ ways w := by
  have h := (fold_names (ways w) [] (ways_len hn) (fun _ h => nomatch h) .nil).2 y
  unfold names
  rw [h]
  simp
theorem names_len {w : List Nat} (hn : 1 ≤ w.length) : ∀ y ∈ names w, y.length = w.length := fun y hy => ways_len hn y ((mem_names hn y).mp hy)
theorem names_01 {w : List Nat} (h : Wd w) : ∀ y ∈ names w, W01 y := fun y hy => by
  have := (mem_names h.lo y).mp hy
  unfold ways at this
  obtain ⟨t, _, rfl⟩ := List.mem_map.mp this
  exact way_01 h.b t
/-- two lists in order with the same members are one -/
theorem ord_unique : ∀ {l m : List (List Nat)}, Ord l → Ord m → (∀ y, y ∈ l ↔ y ∈ m) → l = m
  | [], [], _, _, _ => rfl
  | [], b :: m, _, _, h => by have := (h b).mpr List.mem_cons_self; simp at this
  | a :: l, [], _, _, h => by have := (h a).mp List.mem_cons_self; simp at this
  | a :: l, b :: m, h1, h2, h => by
    have p1 := List.pairwise_cons.mp h1
    have p2 := List.pairwise_cons.mp h2
    have e : a = b := by
      rcases List.mem_cons.mp ((h a).mp List.mem_cons_self) with e | e
      · exact e
      · rcases List.mem_cons.mp ((h b).mpr List.mem_cons_self) with e' | e'
        · exact e'.symm
        · have q := before_trans (p2.1 a e) (p1.1 b e')
          rw [before_irrefl] at q
          cases q
    subst e
    refine congrArg (a :: ·) (ord_unique p1.2 p2.2 fun y => ?_)
    constructor
    · intro hy
      rcases List.mem_cons.mp ((h y).mp (List.mem_cons_of_mem _ hy)) with e | e
      · have q := p1.1 y hy
        rw [e, before_irrefl] at q
        cases q
      · exact e
    · intro hy
      rcases List.mem_cons.mp ((h y).mpr (List.mem_cons_of_mem _ hy)) with e | e
      · have q := p2.1 y hy
        rw [e, before_irrefl] at q
        cases q
      · exact e
theorem ord_nodup {l : List (List Nat)} (h : Ord l) : l.Nodup := h.imp fun {a b} hb e => by rw [e, before_irrefl] at hb; cases hb
theorem way0 {w : List Nat} (hn : 1 ≤ w.length) : way w 0 = w := by
  unfold way begun
  have h2 : ¬ (2 * w.length ≤ 0) := by omega
  simp [h2]
theorem names_ne {w : List Nat} (hn : 1 ≤ w.length) : names w ≠ [] := fun e => by
  have : way w 0 ∈ names w := (mem_names hn _).mpr (List.mem_map.mpr ⟨0, List.mem_range.mpr (by omega), rfl⟩)
  rw [e] at this
  cases this
theorem insert_length (x : List Nat) : ∀ (l : List (List Nat)), (insert_ x l).length ≤ l.length + 1
  | [] => by simp [insert_]
  | y :: l => by
    unfold insert_
    have := insert_length x l
    split
    · simp
    · split
      · simp
      · simp only [List.length_cons]; omega
theorem foldl_length : ∀ (l acc : List (List Nat)), (l.foldl (fun l x => insert_ x l) acc).length ≤ acc.length + l.length
  | [], acc => by simp
  | x :: l, acc => by
    have h1 := foldl_length l (insert_ x acc)
    have h2 := insert_length x acc
    rw [List.foldl_cons, List.length_cons]
    omega
theorem names_length (w : List Nat) : (names w).length ≤ 4 * w.length := by
  have := foldl_length (ways w) []
  unfold names
  simp only [ways, List.length_map, List.length_range, List.length_nil] at this ⊢
  omega
end Lw

set_option Elab.async false
set_option maxRecDepth 100000
set_option maxHeartbeats 2000000
namespace Lw
open Kqi2
/-! ### The calls of a line -/
inductive CallIs : List (List Int) → Int → List Int → Prop where
  | row {p : Int} {r : List Int} (hp : p = 0 ∨ p = 10 ∨ p = 13) (hr : ∀ z ∈ r, 0 ≤ z ∧ z ≤ 4294967295) (hl : r.length ≤ 60) : CallIs [[p], r] p r
  | num {p x : Int} (hp : p = 1 ∨ p = 5 ∨ p = 6 ∨ p = 9) (hx : 0 ≤ x ∧ x ≤ 4294967295) : CallIs [[p, x]] p [x]
  | bare {p : Int} (hp : p = 2 ∨ p = 3 ∨ p = 4 ∨ p = 7 ∨ p = 8 ∨ p = 11 ∨ p = 12 ∨ p = 14 ∨ p = 15 ∨ p = 16 ∨ p = 17) : CallIs [[p]] p []
theorem within_iff {lo hi z : Int} : PyInside.within lo hi z = true ↔ lo ≤ z ∧ z ≤ hi := by simp [PyInside.within]
theorem one_of {α : Type} {l : List α} (h : l.length = 1) : ∃ x, l = [x] := by
  match l, h with
  | [x], _ => exact ⟨x, rfl⟩
theorem shape_row {p : Int} (hp : p = 0 ∨ p = 10 ∨ p = 13) {r : List Int} (hb : PyInside.call PyKqi2.bound [[p], r] = true) : CallIs [[p], r] p r := by
  have hb' : (∀ z ∈ r, 0 ≤ z ∧ z ≤ 4294967295) ∧ r.length ≤ 60 := by
    rcases hp with rfl | rfl | rfl <;>
    · simp [PyInside.call, PyKqi2.bound, PyInside.each, PyInside.lists, within_iff, List.all_eq_true] at hb
      exact ⟨hb.2, hb.1⟩
  exact .row hp hb'.1 hb'.2
theorem shape_num {p x : Int} (hp : p = 1 ∨ p = 5 ∨ p = 6 ∨ p = 9) (hb : PyInside.call PyKqi2.bound [[p, x]] = true) : CallIs [[p, x]] p [x] := by
  have hb' : 0 ≤ x ∧ x ≤ 4294967295 := by
    rcases hp with rfl | rfl | rfl | rfl <;>
    · simp [PyInside.call, PyKqi2.bound, PyInside.each, PyInside.lists, within_iff] at hb
      exact hb
  exact .num hp hb'
theorem shape_cases {p : Int} {n k : Nat} (h : PyKqi2.shape p = some (n, k)) :
    ((p = 0 ∨ p = 10 ∨ p = 13) ∧ n = 0 ∧ k = 1) ∨ ((p = 1 ∨ p = 5 ∨ p = 6 ∨ p = 9) ∧ n = 1 ∧ k = 0) ∨ ((p = 2 ∨ p = 3 ∨ p = 4 ∨ p = 7 ∨ p = 8 ∨ p = 11 ∨ p = 12 ∨ p = 14 ∨ p = 15 ∨ p = 16 ∨ p = 17) ∧ n = 0 ∧ k = 0) := by
  unfold PyKqi2.shape at h
  by_cases h0 : p = 0
  · subst h0
    simp at h
    omega
  rw [if_neg h0] at h
  by_cases h1 : p = 1
  · subst h1
    simp at h
    omega
  rw [if_neg h1] at h
  by_cases h2 : p = 2
  · subst h2
    simp at h
    omega
  rw [if_neg h2] at h
  by_cases h3 : p = 3
  · subst h3
    simp at h
    omega
  rw [if_neg h3] at h
  by_cases h4 : p = 4
  · subst h4
    simp at h
    omega
  rw [if_neg h4] at h
  by_cases h5 : p = 5
  · subst h5
    simp at h
    omega
  rw [if_neg h5] at h
  by_cases h6 : p = 6
  · subst h6
    simp at h
    omega
  rw [if_neg h6] at h
  by_cases h7 : p = 7
  · subst h7
    simp at h
    omega
  rw [if_neg h7] at h
  by_cases h8 : p = 8
  · subst h8
    simp at h
    omega
  rw [if_neg h8] at h
  by_cases h9 : p = 9
  · subst h9
    simp at h
    omega
  rw [if_neg h9] at h
  by_cases h10 : p = 10
  · subst h10
    simp at h
    omega
  rw [if_neg h10] at h
  by_cases h11 : p = 11
  · subst h11
    simp at h
    omega
  rw [if_neg h11] at h
  by_cases h12 : p = 12
  · subst h12
    simp at h
    omega
  rw [if_neg h12] at h
  by_cases h13 : p = 13
  · subst h13
    simp at h
    omega
  rw [if_neg h13] at h
  by_cases h14 : p = 14
  · subst h14
    simp at h
    omega
  rw [if_neg h14] at h
  by_cases h15 : p = 15
  · subst h15
    simp at h
    omega
  rw [if_neg h15] at h
  by_cases h16 : p = 16
  · subst h16
    simp at h
    omega
  rw [if_neg h16] at h
  by_cases h17 : p = 17
  · subst h17
    simp at h
    omega
  rw [if_neg h17] at h
  cases h
theorem call_is {c : List (List Int)} (h : PyFlat.okCall PyKqi2.shape c) (hb : PyInside.call PyKqi2.bound c = true) : ∃ p told, CallIs c p told := by
  obtain ⟨p, a, xs, rfl, hs⟩ := h
  rcases shape_cases hs with ⟨hp, h1, h2⟩ | ⟨hp, h1, h2⟩ | ⟨hp, h1, h2⟩
  · obtain ⟨r, rfl⟩ := one_of h2
    have e := List.eq_nil_of_length_eq_zero h1
    subst e
    exact ⟨p, r, shape_row hp hb⟩
  · obtain ⟨x, rfl⟩ := one_of h1
    have e := List.eq_nil_of_length_eq_zero h2
    subst e
    exact ⟨p, [x], shape_num hp hb⟩
  · have e := List.eq_nil_of_length_eq_zero h1
    have e' := List.eq_nil_of_length_eq_zero h2
    subst e e'
    exact ⟨p, [], .bare hp⟩
theorem whole_of {c : List (List Int)} {p : Int} {told : List Int} (h : CallIs c p told) : PyKqi2.whole c = c := by
  cases h with
  | row hp _ _ => rcases hp with rfl | rfl | rfl <;> rfl
  | num hp _ => rcases hp with rfl | rfl | rfl | rfl <;> rfl
  | bare hp => rcases hp with rfl | rfl | rfl | rfl | rfl | rfl | rfl | rfl | rfl | rfl | rfl <;> rfl
/-- the state behind some calls -/
def behind (s : Kqi2Neutral.S) (cs : List (List (List Int))) : Kqi2Neutral.S := cs.foldl (fun s c => (Kqi2Neutral.step s c).1) s
theorem played_append (s : Kqi2Neutral.S) : ∀ (a b : List (List (List Int))), PyFlat.played Kqi2Neutral.step s (a ++ b) = PyFlat.played Kqi2Neutral.step s a ++ PyFlat.played Kqi2Neutral.step (behind s a) b
  | [], b => rfl
  | c :: a, b => by
    show (Kqi2Neutral.step s c).2 :: PyFlat.played Kqi2Neutral.step (Kqi2Neutral.step s c).1 (a ++ b) = _
    rw [played_append _ a b]
    rfl
theorem told_append (a b : List (List Int)) : PyFlat.told (a ++ b) = PyFlat.told a ++ PyFlat.told b := by simp [PyFlat.told]
/-- told so far -/
def soFar (cs : List (List (List Int))) : List Int := PyFlat.told (PyFlat.played Kqi2Neutral.step Kqi2Neutral.start cs)
theorem soFar_more (pre : List (List (List Int))) (c : List (List Int)) : soFar (pre ++ [c]) = soFar pre ++ ((((Kqi2Neutral.step (behind Kqi2Neutral.start pre) c).2.length : Nat) : Int) :: (Kqi2Neutral.step (behind Kqi2Neutral.start pre) c).2) := by
  unfold soFar
  rw [played_append, told_append]
  show _ ++ PyFlat.told [(Kqi2Neutral.step (behind Kqi2Neutral.start pre) c).2] = _
  simp [PyFlat.told]
theorem soFar_le (pre post : List (List (List Int))) : (soFar pre).length ≤ (soFar (pre ++ post)).length := by
  unfold soFar
  rw [played_append, told_append, List.length_append]
  omega
theorem behind_more (pre : List (List (List Int))) (c : List (List Int)) : behind Kqi2Neutral.start (pre ++ [c]) = (Kqi2Neutral.step (behind Kqi2Neutral.start pre) c).1 := by
  unfold behind
  rw [List.foldl_append]
  rfl
theorem put_append : ∀ (a b : List (List (List Int))), PyFlat.put (a ++ b) = PyFlat.put a ++ PyFlat.put b
  | [], _ => rfl
  | c :: a, b => by
    show PyFlat.put1 c ++ PyFlat.put (a ++ b) = (PyFlat.put1 c ++ PyFlat.put a) ++ PyFlat.put b
    rw [put_append a b, List.append_assoc]
/-- what a line that may be handed in is -/
structure Line (ns : List Int) (raw : List (List (List Int))) : Prop where
  put : ns = PyFlat.put raw
  is : ∀ c ∈ raw, ∃ p told, CallIs c p told
  ans : PyKqi2.answers ns = soFar raw
  few : (soFar raw).length ≤ 10000000
theorem line_of {ns : List Int} (h : PyKqi2.answers_asked ns = true) : ∃ raw, Line ns raw := by
  unfold PyKqi2.answers_asked at h
  cases e : PyFlat.calls PyKqi2.shape ns.length ns with
  | none => rw [e] at h; cases h
  | some raw =>
    rw [e] at h
    simp only [Bool.and_eq_true] at h
    obtain ⟨⟨⟨⟨_, _⟩, hb⟩, _⟩, hs⟩ := h
    obtain ⟨e1, hok⟩ := PyFlat.put_calls _ _ _ e
    have hi : ∀ c ∈ raw, ∃ p told, CallIs c p told := fun c hc => call_is (hok c hc) (List.all_eq_true.mp hb c hc)
    have hw : raw.map PyKqi2.whole = raw := by
      have : raw.map PyKqi2.whole = raw.map id := List.map_congr_left fun c hc => by
        obtain ⟨p, t, h⟩ := hi c hc
        exact whole_of h
      rw [this, List.map_id]
    have ha : PyKqi2.answers ns = soFar raw := by
      unfold PyKqi2.answers PyKqi2.calls
      rw [e]
      dsimp only
      rw [hw]
      rfl
    refine ⟨raw, e1, hi, ha, ?_⟩
    rw [← ha]
    unfold PyFlat.short at hs
    exact of_decide_eq_true hs
end Lw

set_option Elab.async false
set_option maxRecDepth 100000
namespace Lw
open Kqi2
/-! ### What the specification tells of ups, again, alike, leaves, four, handed, in other words -/
theorem ups_sum : ∀ {w : List Nat}, W01 w → (w.filter fun x => x == 1).length = w.sum
  | [], _ => rfl
  | x :: w, h => by
    have ih := ups_sum (w := w) fun y hy => h y (List.mem_cons_of_mem _ hy)
    have hx := h x List.mem_cons_self
    rw [List.sum_cons]
    rcases (by omega : x = 0 ∨ x = 1) with rfl | rfl
    · simp [ih]
    · simp [ih]
      omega
theorem ups_downs : ∀ {w : List Nat}, W01 w → (w.filter fun x => x == 1).length + (w.filter fun x => x == 0).length = w.length
  | [], _ => rfl
  | x :: w, h => by
    have ih := ups_downs (w := w) fun y hy => h y (List.mem_cons_of_mem _ hy)
    have hx := h x List.mem_cons_self
    rcases (by omega : x = 0 ∨ x = 1) with rfl | rfl
    · simp at ih ⊢
      omega
    · simp at ih ⊢
      omega
theorem ups_count (w : List Nat) (k : Nat) : (w.filter fun x => x == k).length = w.count k := by
  rw [List.count_eq_countP, List.countP_eq_length_filter]
theorem find_first {p : Nat → Bool} : ∀ {n k : Nat}, k < n → p k = true → (∀ j, j < k → p j = false) → (List.range n).find? p = some k
  | n, k, hk, hp, hb => by
    rw [List.find?_eq_some_iff_append]
    refine ⟨hp, List.range k, (List.range' (k + 1) (n - (k + 1))), ?_, fun j hj => ?_⟩
    · rw [List.range_eq_range', List.range_eq_range']
      have : n = k + (1 + (n - (k + 1))) := by omega
      conv => lhs; rw [this]
      rw [← List.range'_append_1, ← List.range'_append_1]
      simp
    · rw [hb j (List.mem_range.mp hj)]
      rfl
theorem find_none {p : Nat → Bool} {n : Nat} (hb : ∀ j, j < n → p j = false) : (List.range n).find? p = none := by
  rw [List.find?_eq_none]
  intro j hj
  rw [hb j (List.mem_range.mp hj)]
  exact Bool.false_ne_true
/-- the least k above 0 such that begun k later it's the same -/
def againN (w : List Nat) : Nat := ((List.range w.length).filter fun k => decide (0 < k) && begun w k == w).headD w.length
theorem again_at {w : List Nat} {k : Nat} (h0 : 0 < k) (hk : k < w.length) (he : begun w k = w) (hb : ∀ j, 0 < j → j < k → begun w j ≠ w) : againN w = k := by
  unfold againN
  rw [List.headD_eq_head?_getD, List.head?_filter, find_first (k := k) hk]
  · rfl
  · simp [h0, he]
  · intro j hj
    by_cases hj0 : 0 < j
    · have := hb j hj0 hj
      simp [hj0, this]
    · simp [hj0]
theorem again_none {w : List Nat} (hb : ∀ j, 0 < j → j < w.length → begun w j ≠ w) : againN w = w.length := by
  unfold againN
  rw [List.headD_eq_head?_getD, List.head?_filter, find_none]
  · rfl
  · intro j hj
    by_cases hj0 : 0 < j
    · have := hb j hj0 hj
      simp [hj0, this]
    · simp [hj0]
theorem becomes_at {w v : List Nat} {t : Nat} (ht : t < 4 * w.length) (he : way w t = v) (hb : ∀ j, j < t → way w j ≠ v) : becomes w v = some t := by
  unfold becomes
  refine find_first ht (by simp [he]) fun j hj => ?_
  have := hb j hj
  simp [this]
theorem becomes_none {w v : List Nat} (hb : ∀ j, j < 4 * w.length → way w j ≠ v) : becomes w v = none := by
  unfold becomes
  refine find_none fun j hj => ?_
  have := hb j hj
  simp [this]
theorem leaves_lt {w : List Nat} {t : Nat} (h : t ∈ leaves w) : t < 4 * w.length := by
  unfold leaves at h
  exact List.mem_range.mp (List.mem_filter.mp h).1
theorem leaves_len (w : List Nat) : (leaves w).length ≤ 4 * w.length := by
  unfold leaves
  have := List.length_filter_le (fun t => way w t == w) (List.range (4 * w.length))
  simpa using this
/-- which ways of the last two kinds leave it -/
theorem handed_iff {w : List Nat} : handed w = true ↔ ∀ t, 2 * w.length ≤ t → t < 4 * w.length → way w t ≠ w := by
  unfold handed leaves
  simp only [List.all_eq_true, List.mem_filter, List.mem_range, decide_eq_true_eq, beq_iff_eq]
  constructor
  · intro h t h1 h2 h3
    have := h t ⟨h2, h3⟩
    omega
  · intro h t ht
    rcases Nat.lt_or_ge t (2 * w.length) with h1 | h1
    · exact h1
    · exact absurd ht.2 (h t h1 ht.1)
/-- the names in another way: where a word stands -/
theorem contains_iff {w v : List Nat} (hw : 1 ≤ w.length) : (names w).contains v = true ↔ ∃ t, t < 4 * w.length ∧ way w t = v := by
  rw [List.contains_iff_mem, mem_names hw]
  unfold ways
  simp [List.mem_map]
end Lw

set_option Elab.async false
set_option linter.all false
set_option maxRecDepth 100000
set_option maxHeartbeats 4000000
/-! Rules that the layer lacks: list(reversed(xs)); an item of a written dict with int keys; a call of what an expression gives. -/
namespace Lw
open PySem PySem.Spec PyProof.Rows L2
section
variable {prog : Program} {w : World} {A : Around} {E : Value → Shared → Prop} {s : Shared}
theorem extend_rev {Res : Result → Shared → Prop} {it l : Addr} {items : Array Value} (hh : A.handled = none) (hit : s.heap.IsRevIter it l ((items.size : Int) - 1)) (hl : s.heap.IsList l items) (hApart : l ≠ it) (hFits : items.size ≤ sizeLine) (S : Addr) (hSi : S ≠ it) (hSl : S ≠ l) (back : Value) (cnt : Nat)
    (hNew : s.heap.get? S = some { cls := .type "list", data := .seq #[] cnt })
    (hGo : ∀ h' tk got c', (∀ b o, b ≠ S → b ≠ it → s.heap.get? b = some o → h'.get? b = some o) → h'.get? S = some { cls := .type "list", dict := none, data := .seq got c', slots := #[] } →
      ItemsOf (fun i v => items[items.size - 1 - i]? = some v) got items.size → Res (.ok (.ret back)) { s with heap := h', toks := tk }) :
    wpAny (model prog w) A.in1 (Builtin.List.listExtendWith (.ref S) (.ref it) back)
      (fun fin s' => match fin with | .done f => Res (.ok f) s' | .again c' => c'.quiet = true ∧ codeAny (model prog w) A c' Res s') (fun e s' => Res (.error e) s') s := by
  have walk := (Walks.listRev (prog := prog) (w := w) (A := A.in1) hh it l hApart items).toS
  have hOff : S ∉ [it, l] := by simp only [List.mem_cons, List.not_mem_nil, or_false, not_or]; exact ⟨hSi, hSl⟩
  have hKind : s.TypeIs (.ref it) "list_reverseiterator" := Heap.IsRevIter.typeIs hit
  have hOther : Builtin.List.listSameRef (.ref S) (.ref it) = false := by simp [Builtin.List.listSameRef, hSi]
  unfold Builtin.List.listExtendWith; refine wpAny_bind (wpAny_typeOf hKind ?_); rw [if_neg (by rw [hOther]; decide)]
  refine wpAny_bind (wpAny_pyIter_revIter hit ?_)
  refine wpAny_bind (wpAny_holding ?_); unfold Builtin.List.listLengthHint
  refine wpAny_bind (wpAny_specialOf hKind RT.nolen_lri ?_)
  show wpAny _ A.in1 (specialOf (Value.ref it) (Str.ofString "__length_hint__") >>= _) _ _ _
  refine wpAny_bind (wpAny_specialOf hKind RT.hint_lri ?_)
  generalize hName : ("list_reverseiterator.__length_hint__" : String) = nm
  wp_delta
  rw [show splitId nm = some ("list_reverseiterator", "__length_hint__") from by subst hName; decide +kernel]
  subst hName
  refine wpAny_bind (wpAny_isInstance (b := true) hKind (by rw [isSubtype_type]; kernel_rfl) ?_)
  refine wpAny_pure ?_
  rw [if_neg (by decide)]
  have hLast : ((items.size : Nat) : Int) - 1 - ((0 : Nat) : Int) = (items.size : Int) - 1 := by omega
  refine wpAny_pure ⟨plainId_quiet F.plain_extend_loop _, codeAny_extend_loopS walk hFits _ hOff _ items.size 0 _ _ _ rfl (Nat.zero_le _) ⟨Nat.zero_le _, by rw [hLast]; exact hit, hl⟩ hNew (ItemsOf.nil _) fun s' got c' hm hEnd hItems => ?_⟩
  rw [Moved.eq_with hm]
  refine hGo s'.heap s'.toks got c' (fun b o hb hb2 e => hm.heap b o (fun hIn => ?_) e) hEnd hItems
  rcases List.mem_cons.mp hIn with e' | hIn
  · exact hb e'
  · exact hb2 (List.mem_singleton.mp hIn)
theorem list_init_rev {Res : Result → Shared → Prop} {it l : Addr} {items : Array Value} (hh : A.handled = none) (hit : s.heap.IsRevIter it l ((items.size : Int) - 1)) (hl : s.heap.IsList l items) (hApart : l ≠ it) (hFits : items.size ≤ sizeLine) (S : Addr) (hSi : S ≠ it) (hSl : S ≠ l)
    (hNew : s.heap.get? S = some { cls := .type "list", data := .seq #[] })
    (hGo : ∀ h' tk got c', (∀ b o, b ≠ S → b ≠ it → s.heap.get? b = some o → h'.get? b = some o) → h'.get? S = some { cls := .type "list", dict := none, data := .seq got c', slots := #[] } →
      ItemsOf (fun i v => items[items.size - 1 - i]? = some v) got items.size → Res (.ok (.ret .none)) { s with heap := h', toks := tk }) :
    wpAny (model prog w) A.in1 (Builtin.«list.__init__» ⟨[.ref S, .ref it], []⟩)
      (fun fin s' => match fin with | .done f => Res (.ok f) s' | .again c' => c'.quiet = true ∧ codeAny (model prog w) A c' Res s') (fun e s' => Res (.error e) s') s := by
  show wpAny _ _ (do let old ← Builtin.List.listItems (.ref S); Builtin.List.listUpdate (.ref S) (fun _ => #[]); letGo old.toList.reverse; Builtin.List.listExtendWith (.ref S) (.ref it) .none) _ _ s
  refine wpAny_bind ?_
  unfold Builtin.List.listItems
  refine wpAny_bind (wpAny_seqItems hNew rfl (wpAny_pure ?_))
  show wpAny _ _ (updateSeq S (fun _ => #[]) >>= fun _ => letGo (#[] : Array Value).toList.reverse >>= fun _ => Builtin.List.listExtendWith (.ref S) (.ref it) .none) _ _ s
  refine wpAny_bind (wpAny_updateSeq hNew rfl ?_)
  have hNew2 := Heap.get?_update_self (Obj.mapSeq (fun _ => (#[] : Array Value))) hNew rfl
  have hRest : ∀ b o, b ≠ S → s.heap.get? b = some o → (s.heap.update S (Obj.mapSeq (fun _ => (#[] : Array Value)))).get? b = some o :=
    fun b o hb e => (Heap.get?_update_other _ _ (Ne.symm hb)).trans e
  refine wpAny_bind (wpAny_letGo ?_)
  refine extend_rev hh (hit.at fun o e => hRest it o (Ne.symm hSi) e) (hl.at fun o e => hRest l o (Ne.symm hSl) e) hApart hFits S hSi hSl .none _ hNew2 fun h' tk got c' hk hEnd hItems => ?_
  exact hGo h' tk got c' (fun b o hb hb2 e => hk b o hb hb2 (hRest b o hb e)) hEnd hItems
theorem call_list_rev {Q : Value → Shared → Prop} {it l : Addr} {items : Array Value} (hh : A.handled = none) (hit : s.heap.IsRevIter it l ((items.size : Int) - 1)) (hl : s.heap.IsList l items) (hApart : l ≠ it) (hFits : items.size ≤ sizeLine)
    (hQ : ∀ h' tk got c', (∀ b o, b ≠ it → s.heap.get? b = some o → h'.get? b = some o) →
      h'.get? s.heap.objs.size = some { cls := .type "list", dict := none, data := .seq got c', slots := #[] } → ItemsOf (fun i v => items[items.size - 1 - i]? = some v) got items.size → Q (.ref s.heap.objs.size) { s with heap := h', toks := tk }) :
    wpAny (model prog w) A (call (.type "list") [.ref it]) Q E s := by
  obtain ⟨oi, hIt, _⟩ := id hit
  obtain ⟨ol, hAt, _⟩ := id hl
  refine callType_codes (Q₁ := fun obj s1 => obj = .ref s.heap.objs.size ∧ s1 = { s with heap := s.heap.push { cls := .type "list", data := .seq #[] } }) F.called_list (F.typeCall_list_1 _) F.entry_list_init
    (code_list_new _ ⟨rfl, rfl⟩) fun obj s1 hOther => ?_
  obtain ⟨rfl, rfl⟩ := hOther
  have hNew : (s.heap.push { cls := .type "list", data := .seq #[] }).get? s.heap.objs.size = some { cls := .type "list", data := .seq #[] } := Heap.get?_push_size _ rfl
  refine ⟨⟨_, hNew, rfl⟩, F.args_list_init_2 _ _, list_init_rev (A := A.in1) hh (hit.at fun o e => Heap.get?_push_of_some _ e) (hl.push _) hApart hFits _ (Nat.ne_of_gt (Heap.lt_size hIt)) (Nat.ne_of_gt (Heap.lt_size hAt)) hNew fun h' tk got c' hk hEnd hItems => ?_⟩
  exact ⟨rfl, hQ h' tk got c' (fun b o hb e => hk b o (Nat.ne_of_lt (Heap.lt_size e)) hb (Heap.get?_push_of_some _ e)) hEnd hItems⟩
end
/-- list(reversed(x)), x a list: a new list -/
def tListRev (K : PySem.W.Frag) (te : TE) : TE := fun σ H Q => te σ H fun v H1 => ∃ (a : Addr) (xs : List V), v = .ref a ∧ SqL K H1 a xs ∧ ∀ q, H1 q = none → Q (.ref q) (upd H1 q (.lst xs.reverse))
section
variable {X : Cx}
theorem pe_listRev {e : Expr} {te : TE} {p p2 pos pos2 : Pos} (hc : X.calm = true) (hg : Gl X "list") (hm : X.mg "list" = none) (hg2 : Gl X "reversed") (hm2 : X.mg "reversed" = none) (he : PE X e te)
    (hs : starEach [e] X.env = (false, eval e X.env) :: starEach [] X.env := by rfl)
    (hs2 : starEach [.Call (.Name "reversed" p2) [e] [] pos2] X.env = (false, eval (.Call (.Name "reversed" p2) [e] [] pos2) X.env) :: starEach [] X.env := by rfl) :
    PE X (.Call (.Name "list" p) [.Call (.Name "reversed" p2) [e] [] pos2] [] pos) (tListRev X.K te) := by
  refine ⟨fun pins s σ H Q I hq0 => ?_⟩
  refine Call_ (ld_blt I hg hm boot_list (PyProof.Rows.callWith_type1 (args_cons (Call_ (ld_blt I hg2 hm2 PyProof.Rows.boot_reversed (PyProof.Rows.callWith_type1 (args_cons (thn (he.run pins s σ H _ I hq0) fun u s1 ⟨v, H1, I1, rOut, qv⟩ => args_nil ?_) hs) hs rfl))) hs2) hs2 rfl))
  obtain ⟨a, xs, ev, hq, q⟩ := qv
  subst ev
  obtain rfl : u = Value.ref a := rOut
  obtain ⟨its, rIts, pl, hz⟩ := I1.list hq
  refine call_reversed_list pl.isList (args_nil ?_)
  have hKeep : ∀ b o, s1.heap.get? b = some o → (s1.heap.push (revObj a ((its.toArray.size : Int) - 1))).get? b = some o := fun b o e => Heap.get?_push_of_some _ e
  have J2 : Inv X pins σ H1 { s1 with heap := s1.heap.push (revObj a ((its.toArray.size : Int) - 1)) } := I1.kept (t' := s1.toks) hKeep
  obtain ⟨g0, g1, g2, g3, g4, g5⟩ := I1.fpOk (H' := H1) (b := s1.heap.objs.size) (Nat.le_refl _) (I1.hok.fresh (Nat.le_refl _))
  have hl := pl.isList
  obtain ⟨ol, hAt, _⟩ := id hl
  have hApart : a ≠ s1.heap.objs.size := Nat.ne_of_lt (Heap.lt_size hAt)
  have hFits : its.toArray.size ≤ sizeLine := by rw [List.size_toArray, ← rIts.length]; exact hz
  refine call_list_rev (s := { s1 with heap := s1.heap.push (revObj a ((its.toArray.size : Int) - 1)) }) (I1.ok.hd hc) ⟨_, Heap.get?_push_size _ rfl, rfl, rfl⟩ (hl.push _) hApart hFits fun h' tk acc c' hk hEnd hi => ?_
  have hNew : ((s1.heap.push (revObj a ((its.toArray.size : Int) - 1))).push { cls := .type "list", dict := none, data := .seq acc c', slots := #[] }).get? (s1.heap.push (revObj a ((its.toArray.size : Int) - 1))).objs.size = some { cls := .type "list", dict := none, data := .seq acc c', slots := #[] } := Heap.get?_push_size _ rfl
  have hsz : (s1.heap.push (revObj a ((its.toArray.size : Int) - 1))).objs.size ≠ s1.heap.objs.size := by
    have hlt : s1.heap.objs.size < (s1.heap.push (revObj a ((its.toArray.size : Int) - 1))).objs.size := Heap.lt_size (show (s1.heap.push (revObj a ((its.toArray.size : Int) - 1))).get? s1.heap.objs.size = some (revObj a ((its.toArray.size : Int) - 1)) from Heap.get?_push_size _ rfl)
    exact Nat.ne_of_gt hlt
  have J3 : Inv X pins σ (upd H1 (s1.heap.push (revObj a ((its.toArray.size : Int) - 1))).objs.size (.lst xs.reverse)) { s1 with heap := (s1.heap.push (revObj a ((its.toArray.size : Int) - 1))).push { cls := .type "list", dict := none, data := .seq acc c', slots := #[] }, toks := tk } :=
    J2.laid (t' := tk) (fun c o e => Heap.get?_push_of_some _ e) (Nat.le_refl _) (show ObjOk X.prog X.w _ _ _ (.lst xs.reverse) from ⟨by rw [List.length_reverse]; exact hz, acc.toList, c', RT.vals_rev rIts hi, by rw [Array.toArray_toList]; exact hNew⟩)
  have J4 : Inv X pins σ (upd H1 (s1.heap.push (revObj a ((its.toArray.size : Int) - 1))).objs.size (.lst xs.reverse)) { s1 with heap := h', toks := tk } := by
    refine Inv.turned (s := { s1 with heap := (s1.heap.push (revObj a ((its.toArray.size : Int) - 1))).push { cls := .type "list", dict := none, data := .seq acc c', slots := #[] }, toks := tk }) (t' := tk) (it := s1.heap.objs.size) J3 (fun b o hb e => ?_) (by rw [upd_ne (Ne.symm hsz)]; exact g0) g1 g3 g4 g5
    rcases Heap.get?_push_cases e with ⟨rfl, rfl⟩ | e
    · exact hEnd
    · exact hk b o hb e
  exact ⟨.ref _, _, J4, rfl, q _ (J2.hok.fresh (Nat.le_refl _))⟩
end
/-! ### d[k], d a dict of the module with int keys -/
def KeysInt : List DictEntry → Prop
  | [] => True
  | e :: r => (∃ i t, e.key = .int i t ∧ e.hash = hashInt i) ∧ KeysInt r
theorem KeysInt.all : ∀ {l : List DictEntry}, KeysInt l → ∀ e ∈ l, ∃ i t, e.key = .int i t ∧ e.hash = hashInt i
  | _ :: _, ⟨h, _⟩, _, .head _ => h
  | _ :: _, ⟨_, r⟩, _, .tail _ m => r.all _ m
def intLooks : List DictEntry → Bool
  | [] => true
  | e :: r => (match e.key with | .int i _ => e.hash == hashInt i | _ => false) && intLooks r
theorem keysInt_of : ∀ {l : List DictEntry}, intLooks l = true → KeysInt l
  | [], _ => trivial
  | e :: r, h => by
    simp only [intLooks, Bool.and_eq_true] at h
    refine ⟨?_, keysInt_of h.2⟩
    have hOther := h.1
    split at hOther
    · rename_i i t hk
      exact ⟨i, t, hk, beq_iff_eq.mp hOther⟩
    · cases hOther
/-- the address that stands at this key -/
def addrAt (l : List DictEntry) (k : Int) : Option Addr := match (l.find? fun e => Value.isInt k e.key).map DictEntry.val with
  | some (Value.ref f) => some f
  | _ => none
theorem find_of_addrAt {es : Array DictEntry} {k : Int} {f : Addr} (h : addrAt es.toList k = some f) : findBy Value.isInt es k = some (.ref f) := by
  unfold addrAt at h
  unfold findBy
  rw [← Array.find?_toList]
  split at h
  · rename_i g e
    cases h
    exact e
  · cases h
theorem mapOfI_K {prog : Program} {w : World} {h : Heap} {K : PySem.W.Frag} {a : Addr} {es : Array DictEntry} {n : Nat} (X : K.In h) (hl : K.lookup a = some ⟨.type "dict", none, .dict es n, #[]⟩) (hk : KeysInt es.toList) : h.MapOf (PySem.intKind prog w) a (fun k => findBy Value.isInt es k) :=
  ⟨_, es, n, X _ _ hl, ⟨rfl, rfl, rfl⟩, rfl, fun e he => by
    obtain ⟨i, t, e1, e2⟩ := hk.all e (Array.mem_toList_iff.mpr he)
    exact ⟨i, by rw [e1]; exact intKind_is prog w i t, e2⟩, fun _ => rfl⟩
/-- at a stands a dict, whose int key k holds the def at f -/
def KDef (K : PySem.W.Frag) (a : Addr) (k : Int) (f : Addr) : Prop :=
  ∃ es n, K.lookup a = some ⟨.type "dict", none, .dict es n, #[]⟩ ∧ KeysInt es.toList ∧ addrAt es.toList k = some f
def rIxI (K : PySem.W.Frag) : R2 := fun x y H Q => ∃ p k f, x = .ref p ∧ y = .int k ∧ KDef K p k f ∧ Q (.ref f) H
section
variable {X : Cx}
theorem ix_kdef : IxR X (rIxI X.K) := by
  intro vl sl pins s σ H x y v u Q I rx ry h hs
  obtain ⟨p, k, f, rfl, rfl, ⟨es, n, hl, hk, e⟩, q⟩ := h
  obtain rfl : v = Value.ref p := rx
  obtain ⟨t, rfl⟩ := ry
  have hm := mapOfI_K (prog := X.prog) (w := X.w) I.kIn hl hk
  exact tail_any hm.typeIs slot_dict_getitem.lookup (wpAny_getItem_of (intKind_is X.prog X.w k t) hm (find_of_addrAt e) ⟨.ref f, H, I.tok _, rfl, q⟩) hs
end
/-! ### f(a, ..), f an expression -/
def tCallX (P : Program) (w : World) (K : PySem.W.Frag) (mg : Str → Option Value) (base : Heap) (k : Nat) (tf : TE) (t : TA) : TE := fun σ H Q => tf σ H fun v H1 => ∃ f sp, v = .ref f ∧ Held P w K mg base k f sp ∧ t σ H1 fun vs H2 => sp vs H2 Q (fun _ _ _ => False)
section
variable {X : Cx} {k : Nat} {pos : Pos} {fe e : Expr} {es : List Expr} {tf : TE} {t : TA}
theorem pe_callX (hf : PE X fe tf) (hr : Room k X.A) (ha : PA X (e :: es) t)
    (ht : eval (.Call fe (e :: es) [] pos) X.env = (do callWith pos (← eval fe X.env) [] (backTo pos (starEach (e :: es) X.env)) (backToKw pos (keywordEach [] X.env))) := by rfl)
    (he : starEach (e :: es) X.env = (false, eval e X.env) :: starEach es X.env := by rfl) (hpl : (backTo pos (starEach es X.env)).any (·.1) = false := by rfl) :
    PE X (.Call fe (e :: es) [] pos) (tCallX X.prog X.w X.K X.mg X.base k tf t) := by
  refine ⟨fun pins s σ H Q I hq0 => ?_⟩
  rw [ht]
  refine wpAny_bind (thn (hf.run pins s σ H _ I hq0) fun u s1 ⟨v, H1, I1, rOut, qv⟩ => ?_)
  obtain ⟨f, sp, rfl, Hd, q⟩ := qv
  obtain rfl : u = Value.ref f := rOut
  obtain ⟨fd, ps, F, hk, hb⟩ := Hd.ex
  refine PySem.W.callWith_K (h₀ := X.base) I.ok.mod.kin hk (thn (ha.run pos pins s1 σ H1 _ I1 q) fun us s2 ⟨vs, H2, J2, r, q2⟩ => ⟨J2.kIn, ?_⟩) he hpl
  refine run_fn (dvs := []) (ds := []) (E := fun _ _ _ => False) F hr hb .nil (fun _ _ _ _ _ _ _ z => z.elim) J2 r ?_
  rw [List.append_nil]
  exact q2
end
end Lw

set_option Elab.async false
set_option linter.all false
set_option maxRecDepth 100000
set_option maxHeartbeats 4000000
namespace Lw
open PySem PySem.Spec PyProof.Rows L2
open PySem.W (Codec)
/-- the i-th statement of the program -/
def top (i : Nat) : Stmt := PySem.Challenge.pw_layerwords_s01_answers.main.body.getD i (.Pass ⟨0, 0, 0, 0⟩)
/-! ### Values -/
/-- a list of numbers as values -/
def iv (w : List Nat) : List V := w.map fun (x : Nat) => V.int (x : Int)
theorem iv_len (w : List Nat) : (iv w).length = w.length := by simp [iv]
theorem iv_app (a b : List Nat) : iv (a ++ b) = iv a ++ iv b := by simp [iv]
theorem iv_ints (w : List Nat) : iv w = (w.map fun (x : Nat) => (x : Int)).map V.int := by simp [iv]
theorem iv_get {w : List Nat} {i : Nat} {x : V} (h : (iv w)[i]? = some x) : ∃ n : Nat, w[i]? = some n ∧ x = V.int (n : Int) := by
  unfold iv at h
  rw [List.getElem?_map] at h
  cases e : w[i]? with
  | none => rw [e] at h; cases h
  | some n => rw [e] at h; exact ⟨n, rfl, (Option.some.inj h).symm⟩
theorem iv_at {w : List Nat} {i n : Nat} (h : w[i]? = some n) : (iv w)[i]? = some (V.int (n : Int)) := by
  unfold iv
  rw [List.getElem?_map, h]
  rfl
theorem cut_from {w : List V} {k : Nat} : cutV w (some (k : Int)) none = w.drop k := by
  unfold cutV
  rw [HT.sIx_none, HT.sIx_nat]
  by_cases h : k ≤ w.length
  · rw [Nat.min_eq_left h, List.take_of_length_le (by rw [List.length_drop]; omega)]
  · rw [Nat.min_eq_right (by omega), List.drop_of_length_le (Nat.le_refl _), List.drop_of_length_le (by omega)]
    simp
theorem cut_to {w : List V} {k : Nat} : cutV w none (some (k : Int)) = w.take k := by
  unfold cutV
  rw [HT.sIx_none, HT.sIx_nat, Nat.sub_zero, List.drop_zero]
  by_cases h : k ≤ w.length
  · rw [Nat.min_eq_left h]
  · rw [Nat.min_eq_right (by omega), List.take_of_length_le (Nat.le_refl _), List.take_of_length_le (by omega)]
theorem cut_mid {w : List V} {j k : Nat} (h : k ≤ w.length) (hj : j ≤ k) : cutV w (some (j : Int)) (some (k : Int)) = (w.drop j).take (k - j) := by
  unfold cutV
  rw [HT.sIx_nat, HT.sIx_nat, Nat.min_eq_left h, Nat.min_eq_left (by omega)]
theorem size_ok {n : Nat} (h : n ≤ 1000) : n ≤ sizeLine := Nat.le_of_lt (small1000 h)
/-! ### Heaps -/
theorem _root_.L2.Same.new {H : Hp} {p : Addr} {o : HO} (h : H p = none) : Same H (upd H p o) := fun b u e => by
  rw [upd_ne (ne_of_none e h)]
  exact e
theorem _root_.L2.Same.new' {H H' : Hp} {p : Addr} {o : HO} (s : Same H H') (h : H' p = none) : Same H (upd H' p o) := s.trans (Same.new h)
theorem _root_.L2.Same.tup {K : PySem.W.Frag} {H H' : Hp} {a : Addr} {xs : List V} (e : Same H H') (h : SqT K H a xs) : SqT K H' a xs := by
  rcases h with (h | ⟨o, h⟩) | h
  · exact .inl (.inl (e _ _ h))
  · exact .inl (.inr ⟨o, e _ _ h⟩)
  · exact .inr h
theorem if_true_of {c : Bool} {A B : Prop} (hc : c = true) (h : A) : if c = true then A else B := by
  rw [if_pos hc]
  exact h
theorem if_false_of {c : Bool} {A B : Prop} (hc : c = false) (h : B) : if c = true then A else B := by
  rw [hc, if_neg Bool.false_ne_true]
  exact h
/-- the way of a test that is always passed -/
theorem yes_of {σ : L2.St} {H : Hp} {Q : Bool → Hp → Prop} (h : Q true H) : tYes σ H Q := h
/-! ### A def that stands in the module -/
structure Df (P : Program) (w : World) (K : PySem.W.Frag) (mg : Str → Option Value) (base : Heap) (k : Nat) (x : Str) (ps : List Str) (sp : Sp) : Prop where
  ex : ∃ (f : Addr) (fd : FuncData), FnOk P w K mg base CX0 k f fd ps sp ∧ mg x = some (.ref f) ∧ PySem.W.keepIn K (.ref f) = true ∧ Binds K fd ps []
section
variable {X : Cx} {k : Nat} {x : Str} {ps : List Str} {sp : Sp} {p pos : Pos} {e : Expr} {es : List Expr} {t : TA}
theorem pe_df (D : Df X.prog X.w X.K X.mg X.base k x ps sp) (hr : Room k X.A) (hg : Gl X x) (ha : PA X (e :: es) t) (hdb : (x == ("__debug__" : Str)) = false := by decide)
    (h1 : starEach (e :: es) X.env = (false, eval e X.env) :: starEach es X.env := by rfl) (h2 : (backTo pos (starEach es X.env)).any (·.1) = false := by rfl) :
    PE X (.Call (.Name x p) (e :: es) [] pos) (tCall sp [] E0 t) := by
  obtain ⟨f, fd, F, mgf, kp, b⟩ := D.ex
  exact pe_call F hr hg mgf kp b .nil pass0 ha hdb h1 h2
end
theorem Df.mono {P : Program} {w : World} {K : PySem.W.Frag} {mg : Str → Option Value} {base : Heap} {j k : Nat} {x : Str} {ps : List Str} {sp : Sp} (D : Df P w K mg base j x ps sp) (h : j ≤ k) : Df P w K mg base k x ps sp := by
  obtain ⟨f, fd, F, r⟩ := D.ex
  exact ⟨f, fd, F.mono h, r⟩
/-- what the top has written of a def: its place, its text -/
structure At (K : PySem.W.Frag) (mg : Str → Option Value) (x : Str) (st : Stmt) (ps : List Str) : Prop where
  ex : ∃ (f : Addr) (fd : FuncData), Fun K x x st f fd ∧ mg x = some (.ref f) ∧ PySem.W.keepIn K (.ref f) = true ∧ Binds K fd ps []
section
variable {P : Program} {w : World} {K : PySem.W.Frag} {mg : Str → Option Value} {base : Heap}
/-- a def's promise from its body's reading -/
theorem At.ok {x : Str} {st : Stmt} {N ps : List Str} {k : Nat} {sp : Sp} (F : At K mg x st ps) (S : FnScope N ps (defScope st)) (len : ∀ vs H Q E, sp vs H Q E → vs.length = ps.length)
    (hbody : ∀ (f : Addr) (cdv : Value) (A : Around) (outer : List Env) (s : Shared) (H : Hp) (vs : List V) (Q : VK) (E : XK), Room k (A.deeper (envOfC x (defScope st) s.heap.objs.size f cdv)) → sp vs H Q E →
      ∃ t, PSs (cxOf CX0 P w K mg base N x (defScope st) f cdv A outer s H E).nox (defBody st) t ∧ t { nx := fun _ H' => Q .non H', rt := Q } (start N vs) H) : Df P w K mg base (k + 1) x ps sp := by
  obtain ⟨f, fd, F, mgf, kp, b⟩ := F.ex
  exact ⟨f, fd, F.ok S len (hbody f), mgf, kp, b⟩
end
/-- Python's own names that the module does not bind -/
structure Own (mg : Str → Option Value) : Prop where
  len : mg "len" = none
  range : mg "range" = none
  list : mg "list" = none
  tuple : mg "tuple" = none
  reversed : mg "reversed" = none
  sorted : mg "sorted" = none
  set : mg "set" = none
  all : mg "all" = none
  min : mg "min" = none
end Lw

set_option Elab.async false
set_option linter.all false
set_option maxRecDepth 100000
set_option maxHeartbeats 4000000
namespace Lw
open PySem PySem.Spec PyProof.Rows L2
open PySem.W (Codec)
abbrev sIsWord : Stmt := top 3
abbrev sLater : Stmt := top 4
abbrev sOpposite : Stmt := top 5
abbrev sBackwards : Stmt := top 6
abbrev sOver : Stmt := top 7
abbrev sTurn : Stmt := top 8
abbrev sNumber : Stmt := top 9
abbrev sWay : Stmt := top 10
abbrev sNames : Stmt := top 11
/-- a new list of numbers is handed back, all else stands -/
def gives (H : Hp) (Q : VK) (r : List Nat) : Prop := ∀ (H' : Hp) (p : Addr), Same H H' → H p = none → H' p = some (.lst (iv r)) → Q (.ref p) H'
def spLater : Sp := fun vs H Q _ => ∃ (a : Addr) (w : List Nat) (k : Nat), vs = [.ref a, .int (k : Int)] ∧ H a = some (.lst (iv w)) ∧ w.length ≤ 10 ∧ gives H Q (Kqi2.begun w k)
def spOpposite : Sp := fun vs H Q _ => ∃ (a : Addr) (w : List Nat), vs = [.ref a] ∧ H a = some (.lst (iv w)) ∧ w.length ≤ 10 ∧ W01 w ∧ gives H Q (Kqi2.opposite w)
def spBackwards : Sp := fun vs H Q _ => ∃ (a : Addr) (w : List Nat), vs = [.ref a] ∧ H a = some (.lst (iv w)) ∧ w.length ≤ 10 ∧ gives H Q w.reverse
def spOver : Sp := fun vs H Q _ => ∃ (a : Addr) (w : List Nat), vs = [.ref a] ∧ H a = some (.lst (iv w)) ∧ w.length ≤ 10 ∧ W01 w ∧ gives H Q (Kqi2.opposite w.reverse)
section
variable {P : Program} {w : World} {K : PySem.W.Frag} {mg : Str → Option Value} {base : Heap}
theorem scLater : FnScope ["word", "k"] ["word", "k"] (defScope sLater) := ⟨rfl, rfl, rfl, by decide +kernel, rfl, by decide +kernel, by decide +kernel⟩
theorem ok_later (F : At K mg "later" sLater ["word", "k"]) : Df P w K mg base 1 "later" ["word", "k"] spLater := by
  refine F.ok scLater (fun vs H Q E h => ?_) (fun f cdv A outer s H vs Q E hr h => ?_)
  · obtain ⟨a, w, k, rfl, _⟩ := h
    rfl
  · obtain ⟨a, w, k, rfl, ha, hw, q⟩ := h
    refine ⟨_, pss_one (ps_ret (pe_op op_cat (pe_slice sl_list (pv 0) (po_some (pv 1)) po_none) (pe_slice sl_list (pv 0) po_none (po_some (pv 1))))), ?_⟩
    refine ⟨_, rfl, _, rfl, _, rfl, _, _, rfl, SqL.of ha, fun p np => ?_⟩
    have ha1 : upd H p (.lst (cutV (iv w) (some (k : Int)) none)) a = some (.lst (iv w)) := by rw [upd_ne (ne_of_none ha np)]; exact ha
    refine ⟨_, rfl, _, rfl, _, rfl, _, _, rfl, SqL.of ha1, fun p2 np2 => ?_⟩
    have hp : upd (upd H p (.lst (cutV (iv w) (some (k : Int)) none))) p2 (.lst (cutV (iv w) none (some (k : Int)))) p = some (.lst (cutV (iv w) (some (k : Int)) none)) := by
      rw [upd_ne (ne_of_none upd_same np2)]
      exact upd_same
    refine ⟨_, _, _, _, rfl, rfl, hp, upd_same, ?_, fun p3 np3 => ?_⟩
    · have h1 := cutV_length (iv w) (some (k : Int)) none
      have h2 := cutV_length (iv w) none (some (k : Int))
      rw [iv_len] at h1 h2
      exact size_ok (by omega)
    · refine q _ p3 (((Same.new np).new' np2).new' np3) (((Same.new np).trans (Same.new np2)).free np3) ?_
      rw [upd_same, cut_from, cut_to]
      unfold Kqi2.begun
      rw [iv_app]
      simp only [iv, List.map_drop, List.map_take]
theorem scOpposite : FnScope ["word", "step"] ["word"] (defScope sOpposite) := ⟨rfl, rfl, rfl, by decide +kernel, rfl, by decide +kernel, by decide +kernel⟩
theorem ok_opposite (F : At K mg "opposite" sOpposite ["word"]) : Df P w K mg base 1 "opposite" ["word"] spOpposite := by
  refine F.ok scOpposite (fun vs H Q E h => ?_) (fun f cdv A outer s H vs Q E hr h => ?_)
  · obtain ⟨a, w, rfl, _⟩ := h
    rfl
  · obtain ⟨a, w, rfl, ha, hw, hb, q⟩ := h
    refine ⟨_, pss_one (ps_ret (pe_lc (own := [("step", 1)]) (g := gName 1) (tt := tYes) rfl scOpposite.nd (pi_list (pv 0)) (blkOk_by (N := ["word", "step"]) (sc := defScope sOpposite) (by decide +kernel))
      (fun _ _ _ _ _ => pg_name (i := 1) scOpposite.nd rfl (Or.inl rfl)) (fun _ _ _ _ _ => pts_nil) (fun _ _ _ _ _ => pe_op op_sub pe_int (pv 1)))), ?_⟩
    refine ⟨_, rfl, a, rfl, ⟨_, SqL.of ha⟩, fun D nD => ?_⟩
    refine lc_list (K := K) (a := a) (xs := iv w) (fun i H' => H' D = some (.lst (iv (Kqi2.opposite (w.take i)))) ∧ Same H H') ⟨upd_same, Same.new nD⟩ (fun i H' _ hp => SqL.of (hp.2 a _ ha)) ?_ ?_
    · rintro i x H' hx ⟨hD, sm⟩
      obtain ⟨n, hn, rfl⟩ := iv_get hx
      have hn1 : n ≤ 1 := hb n (List.mem_of_getElem? hn)
      refine ⟨rfl, yes_of (if_true_of rfl ?_)⟩
      refine ⟨_, rfl, _, _, rfl, rfl, _, hD, ?_, ?_⟩
      · rw [iv_len, Kqi2.opposite, List.length_map, List.length_take]
        exact small1000 (by omega)
      · refine ⟨?_, fun b o e => ?_⟩
        · rw [upd_same]
          have e1 : w.take (i + 1) = w.take i ++ [n] := by
            rw [List.take_add_one, hn]
            rfl
          rw [e1]
          simp only [Kqi2.opposite, iv, List.map_append, List.map_cons, List.map_nil]
          have e2 : ((1 - n : Nat) : Int) = 1 - (n : Int) := by omega
          rw [e2]
        · rw [upd_ne (ne_of_none e nD)]
          exact sm b o e
    · rintro H' ⟨hD, sm⟩
      rw [iv_len, List.take_length] at hD
      exact q H' D sm nD hD
theorem scBackwards : FnScope ["word"] ["word"] (defScope sBackwards) := ⟨rfl, rfl, rfl, by decide +kernel, rfl, by decide +kernel, by decide +kernel⟩
theorem ok_backwards (O : Own mg) (F : At K mg "backwards" sBackwards ["word"]) : Df P w K mg base 1 "backwards" ["word"] spBackwards := by
  refine F.ok scBackwards (fun vs H Q E h => ?_) (fun f cdv A outer s H vs Q E hr h => ?_)
  · obtain ⟨a, w, rfl, _⟩ := h
    rfl
  · obtain ⟨a, w, rfl, ha, hw, q⟩ := h
    refine ⟨_, pss_one (ps_ret (pe_listRev rfl (by rfl) O.list (by rfl) O.reversed (pv 0))), ?_⟩
    refine ⟨_, rfl, _, _, rfl, SqL.of ha, fun p np => ?_⟩
    refine q _ p (Same.new np) np ?_
    rw [upd_same]
    simp only [iv, List.map_reverse]
theorem scOver : FnScope ["word"] ["word"] (defScope sOver) := ⟨rfl, rfl, rfl, by decide +kernel, rfl, by decide +kernel, by decide +kernel⟩
theorem ok_over (F : At K mg "over" sOver ["word"]) (B : Df P w K mg base 1 "backwards" ["word"] spBackwards) (O : Df P w K mg base 1 "opposite" ["word"] spOpposite) : Df P w K mg base 2 "over" ["word"] spOver := by
  refine F.ok scOver (fun vs H Q E h => ?_) (fun f cdv A outer s H vs Q E hr h => ?_)
  · obtain ⟨a, w, rfl, _⟩ := h
    rfl
  · obtain ⟨a, w, rfl, ha, hw, hb, q⟩ := h
    refine ⟨_, pss_one (ps_ret (pe_df O hr rfl (pa_cons (pe_df B hr rfl (pa_cons (pv 0) pa_nil)) pa_nil))), ?_⟩
    refine ⟨_, rfl, a, w, rfl, ha, hw, fun H1 p sm np hp => ?_⟩
    refine ⟨p, w.reverse, rfl, hp, by rw [List.length_reverse]; exact hw, rev_01 hb, fun H2 p2 sm2 np2 hp2 => ?_⟩
    exact q H2 p2 (sm.trans sm2) (sm.free np2) hp2
end
end Lw

set_option Elab.async false
set_option linter.all false
set_option maxRecDepth 100000
set_option maxHeartbeats 4000000
namespace Lw
open PySem PySem.Spec PyProof.Rows L2
open PySem.W (Codec)
def spTurn : Sp := fun vs H Q _ => ∃ (a : Addr) (w : List Nat) (i : Nat), vs = [.ref a, .int (i : Int)] ∧ H a = some (.lst (iv w)) ∧ w.length ≤ 10 ∧ W01 w ∧ i < w.length ∧ gives H Q (w.set i (1 - Kqi2.at_ w i))
def spNumber : Sp := fun vs H Q _ => ∃ (a : Addr) (w : List Nat), vs = [.ref a] ∧ H a = some (.lst (iv w)) ∧ Q (.int ((4 * w.length : Nat) : Int)) H
def spWay : Sp := fun vs H Q _ => ∃ (a : Addr) (w : List Nat) (t : Nat), vs = [.ref a, .int (t : Int)] ∧ H a = some (.lst (iv w)) ∧ Wd w ∧ t < 4 * w.length ∧ gives H Q (Kqi2.way w t)
/-- constants of the words' module -/
structure Cons (mg : Str → Option Value) : Prop where
  kinds : ∃ t, mg "KINDS_OF_WAYS" = some (.int 4 t)
  most : ∃ t, mg "MOST_STEPS" = some (.int 10 t)
theorem in_two {q a b : Nat} : inV (.int (q : Int)) [.int (a : Int), .int (b : Int)] = decide (q = a ∨ q = b) := by
  show ((a : Int) == (q : Int) || ((b : Int) == (q : Int) || false)) = _
  by_cases h1 : q = a
  · subst h1; simp
  · by_cases h2 : q = b
    · subst h2; simp
    · have e1 : ((a : Int) == (q : Int)) = false := by
        rw [beq_eq_false_iff_ne]
        omega
      have e2 : ((b : Int) == (q : Int)) = false := by
        rw [beq_eq_false_iff_ne]
        omega
      rw [e1, e2]
      simp [h1, h2]
section
variable {P : Program} {w : World} {K : PySem.W.Frag} {mg : Str → Option Value} {base : Heap}
theorem scTurn : FnScope ["word", "i"] ["word", "i"] (defScope sTurn) := ⟨rfl, rfl, rfl, by decide +kernel, rfl, by decide +kernel, by decide +kernel⟩
theorem ok_turn (F : At K mg "turn" sTurn ["word", "i"]) : Df P w K mg base 1 "turn" ["word", "i"] spTurn := by
  refine F.ok scTurn (fun vs H Q E h => ?_) (fun f cdv A outer s H vs Q E hr h => ?_)
  · obtain ⟨a, w, k, rfl, _⟩ := h
    rfl
  · obtain ⟨a, w, i, rfl, ha, hw, hb, hi, q⟩ := h
    refine ⟨_, pss_one (ps_ret (pe_op op_cat (pe_op op_cat (pe_slice sl_list (pv 0) po_none (po_some (pv 1))) (pe_lst (pa_cons (pe_op op_sub pe_int (pe_ix ix_list (pv 0) (pv 1) (fun _ _ => rfl))) pa_nil)))
      (pe_slice sl_list (pv 0) (po_some (pe_op op_add (pv 1) pe_int)) po_none))), ?_⟩
    obtain ⟨n, hn⟩ : ∃ n, w[i]? = some n := ⟨_, List.getElem?_eq_getElem hi⟩
    have hn1 : n ≤ 1 := hb n (List.mem_of_getElem? hn)
    refine ⟨_, rfl, _, rfl, _, rfl, _, _, rfl, SqL.of ha, fun p np => ?_⟩
    have s1 := Same.new (o := .lst (cutV (iv w) none (some (i : Int)))) np
    refine ⟨_, rfl, _, rfl, _, _, _, _, rfl, rfl, SqL.of (s1 a _ ha), atI_nat (iv_at hn), _, _, rfl, rfl, (by show 1 ≤ sizeLine; exact size_ok (by omega)), fun p2 np2 => ?_⟩
    have s2 := Same.new (o := .lst [V.int (1 - (n : Int))]) np2
    refine ⟨_, _, _, _, rfl, rfl, s2 p _ upd_same, upd_same, ?_, fun p3 np3 => ?_⟩
    · have h1 := cutV_length (iv w) none (some (i : Int))
      rw [iv_len] at h1
      exact size_ok (by show _ + 1 ≤ 1000; omega)
    have s3 := Same.new (o := .lst (cutV (iv w) none (some (i : Int)) ++ [V.int (1 - (n : Int))])) np3
    have sm := (s1.trans s2).trans s3
    refine ⟨_, rfl, _, rfl, _, _, rfl, rfl, _, rfl, _, _, rfl, SqL.of (sm a _ ha), fun p4 np4 => ?_⟩
    have e4 : ((i : Int) + 1) = ((i + 1 : Nat) : Int) := by omega
    rw [e4]
    have s4 := Same.new (o := .lst (cutV (iv w) (some ((i + 1 : Nat) : Int)) none)) np4
    refine ⟨_, _, _, _, rfl, rfl, s4 p3 _ upd_same, upd_same, ?_, fun p5 np5 => ?_⟩
    · have h1 := cutV_length (iv w) none (some (i : Int))
      have h2 := cutV_length (iv w) (some ((i + 1 : Nat) : Int)) none
      rw [iv_len] at h1 h2
      exact size_ok (by rw [List.length_append]; show _ + 1 + _ ≤ 1000; omega)
    · refine q _ p5 ((sm.trans s4).new' np5) ((sm.trans s4).free np5) ?_
      rw [upd_same, cut_from, cut_to, ← turn_cut hn, iv_app, iv_app]
      have e2 : ((1 - n : Nat) : Int) = 1 - (n : Int) := by omega
      simp only [iv, List.map_drop, List.map_take, List.map_cons, List.map_nil, e2]
theorem scNumber : FnScope ["word"] ["word"] (defScope sNumber) := ⟨rfl, rfl, rfl, by decide +kernel, rfl, by decide +kernel, by decide +kernel⟩
theorem ok_number (O : Own mg) (C : Cons mg) (F : At K mg "number_of_ways" sNumber ["word"]) : Df P w K mg base 1 "number_of_ways" ["word"] spNumber := by
  refine F.ok scNumber (fun vs H Q E h => ?_) (fun f cdv A outer s H vs Q E hr h => ?_)
  · obtain ⟨a, w, rfl, _⟩ := h
    rfl
  · obtain ⟨a, w, rfl, ha, q⟩ := h
    obtain ⟨t, hk⟩ := C.kinds
    refine ⟨_, pss_one (ps_ret (pe_op op_mul (pe_glob (v := .int 4) rfl hk ⟨_, rfl⟩) (pe_callB call_len_seq (by rfl) O.len PySem.boot_len (pa_cons (pv 0) pa_nil)))), ?_⟩
    refine ⟨_, rfl, _, _, rfl, .inl (SqL.of ha), _, _, rfl, rfl, .inl ⟨by decide, by decide⟩, ?_⟩
    rw [iv_len]
    have e : ((4 * w.length : Nat) : Int) = 4 * (w.length : Int) := by omega
    rw [e] at q
    exact q
theorem scWay : FnScope ["word", "t", "kind", "made"] ["word", "t"] (defScope sWay) := ⟨rfl, rfl, rfl, by decide +kernel, rfl, by decide +kernel, by decide +kernel⟩
theorem ok_way (O : Own mg) (F : At K mg "way" sWay ["word", "t"]) (L : Df P w K mg base 1 "later" ["word", "k"] spLater) (Op : Df P w K mg base 1 "opposite" ["word"] spOpposite) (B : Df P w K mg base 1 "backwards" ["word"] spBackwards) :
    Df P w K mg base 2 "way" ["word", "t"] spWay := by
  refine F.ok scWay (fun vs H Q E h => ?_) (fun f cdv A outer s H vs Q E hr h => ?_)
  · obtain ⟨a, w, k, rfl, _⟩ := h
    rfl
  · obtain ⟨a, w, t, rfl, ha, hw, ht, q⟩ := h
    refine ⟨_, pss_cons (ps_set (i := 2) scWay.nd rfl (Or.inl rfl) (pe_op op_fdiv (pv 1) (pe_callB call_len_seq (by rfl) O.len PySem.boot_len (pa_cons (pv 0) pa_nil))))
      (pss_cons (ps_set (i := 3) scWay.nd rfl (Or.inl rfl) (pe_df L hr rfl (pa_cons (pv 0) (pa_cons (pe_op op_mod (pv 1) (pe_callB call_len_seq (by rfl) O.len PySem.boot_len (pa_cons (pv 0) pa_nil))) pa_nil))))
      (pss_cons (ps_if (pt_cmpR op_in_seq (pv 2) (pe_tup (pa_cons pe_int (pa_cons pe_int pa_nil))) (by with_unfolding_all rfl)) (pss_one (ps_set (i := 3) scWay.nd rfl (Or.inl rfl) (pe_df Op hr rfl (pa_cons (pv 3) pa_nil)))) pss_nil)
      (pss_cons (ps_if (pt_cmpR op_in_seq (pv 2) (pe_tup (pa_cons pe_int (pa_cons pe_int pa_nil))) (by with_unfolding_all rfl)) (pss_one (ps_set (i := 3) scWay.nd rfl (Or.inl rfl) (pe_df B hr rfl (pa_cons (pv 3) pa_nil)))) pss_nil)
      (pss_one (ps_ret (pv 3)))))), ?_⟩
    have hn := hw.lo
    have hn10 := hw.hi
    refine ⟨_, rfl, _, rfl, _, _, rfl, .inl (SqL.of ha), _, _, rfl, rfl, ⟨by rw [iv_len]; omega, by rw [iv_len]; omega⟩, ?_⟩
    refine ⟨_, rfl, _, rfl, _, rfl, _, _, rfl, .inl (SqL.of ha), _, _, rfl, rfl, (by rw [iv_len]; omega), ?_⟩
    rw [iv_len]
    refine ⟨a, w, t % w.length, rfl, ha, hw.hi, fun H1 p1 sm1 np1 hp1 => ?_⟩
    -- behind the first if: the word there, all that was
    have step2 : ∀ (H2 : Hp) (p2 : Addr) (v : List Nat), Same H H2 → H p2 = none → H2 p2 = some (.lst (iv v)) → v.length ≤ 10 → (if 2 * w.length ≤ t then v.reverse else v) = Kqi2.way w t →
        tSeq (tIfS (tTest (tOp (rIn K false) (tVar 2) (tTup (tCons (tC (.int 2)) (tCons (tC (.int 3)) tNil))))) (tAsg (tCall spBackwards [] E0 (tCons (tVar 3) tNil)) (gName 3)) tNext) (tRet (tVar 3))
          { nx := fun _ H' => Q .non H', rt := Q } [some (.ref a), some (.int (t : Int)), some (.int ((t / w.length : Nat) : Int)), some (.ref p2)] H2 := by
      intro H2 p2 v sm2 np2 hp2 hv hfin
      refine ⟨_, rfl, size_ok (by show 2 ≤ 1000; omega), fun p np => ?_⟩
      refine ⟨_, _, rfl, .inr (SqT.of upd_same), rfl, rfl, _, rfl, ?_⟩
      have sm3 := sm2.new' (o := .tup [.int 2, .int 3]) np
      have hp3 : upd H2 p (.tup [.int 2, .int 3]) p2 = some (.lst (iv v)) := by rw [upd_ne (ne_of_none hp2 np)]; exact hp2
      have e := in_two (q := t / w.length) (a := 2) (b := 3)
      by_cases c : 2 * w.length ≤ t
      · have e' : inV (.int ((t / w.length : Nat) : Int)) [.int 2, .int 3] = true := e.trans (decide_eq_true ((kind_back hn ht).mp c))
        refine if_true_of e' ?_
        refine ⟨_, rfl, p2, v, rfl, hp3, hv, fun H4 p4 sm4 np4 hp4 => ?_⟩
        refine ⟨_, rfl, ?_⟩
        rw [if_pos c] at hfin
        refine q H4 p4 (sm3.trans sm4) (sm3.free np4) ?_
        rw [← hfin]
        exact hp4
      · have e' : inV (.int ((t / w.length : Nat) : Int)) [.int 2, .int 3] = false := e.trans (decide_eq_false fun z => c ((kind_back hn ht).mpr z))
        refine if_false_of e' ?_
        refine ⟨_, rfl, ?_⟩
        rw [if_neg c] at hfin
        refine q _ p2 sm3 np2 ?_
        rw [← hfin]
        exact hp3
    refine ⟨_, rfl, size_ok (by show 2 ≤ 1000; omega), fun p np => ?_⟩
    refine ⟨_, _, rfl, .inr (SqT.of upd_same), rfl, rfl, _, rfl, ?_⟩
    have sm3 := sm1.new' (o := .tup [.int 1, .int 3]) np
    have hp3 : upd H1 p (.tup [.int 1, .int 3]) p1 = some (.lst (iv (Kqi2.begun w (t % w.length)))) := by rw [upd_ne (ne_of_none hp1 np)]; exact hp1
    have e := in_two (q := t / w.length) (a := 1) (b := 3)
    have hlt : t % w.length ≤ w.length := Nat.le_of_lt (Nat.mod_lt _ hn)
    have hbl := begun_len w _ hlt
    by_cases c : t / w.length % 2 = 1
    · have e' : inV (.int ((t / w.length : Nat) : Int)) [.int 1, .int 3] = true := e.trans (decide_eq_true ((kind_odd ht).mp c))
      refine if_true_of e' ?_
      refine ⟨_, rfl, p1, _, rfl, hp3, by rw [hbl]; exact hn10, begun_01 hw.b _, fun H4 p4 sm4 np4 hp4 => ?_⟩
      refine step2 H4 p4 _ (sm3.trans sm4) (sm3.free np4) hp4 (by rw [opposite_len, hbl]; exact hn10) ?_
      unfold Kqi2.way
      simp only [if_pos c]
    · have e' : inV (.int ((t / w.length : Nat) : Int)) [.int 1, .int 3] = false := e.trans (decide_eq_false fun z => c ((kind_odd ht).mpr z))
      refine if_false_of e' ?_
      refine step2 _ p1 _ sm3 np1 hp3 (by rw [hbl]; exact hn10) ?_
      unfold Kqi2.way
      simp only [if_neg c]
end
end Lw

set_option Elab.async false
set_option linter.all false
set_option maxRecDepth 100000
set_option maxHeartbeats 4000000
namespace Lw
open PySem PySem.Spec PyProof.Rows L2
open PySem.W (Codec)
/-- numbers as ints -/
def up (v : List Nat) : List Int := v.map fun (x : Nat) => (x : Int)
theorem up_iv (v : List Nat) : (up v).map V.int = iv v := by simp [up, iv]
theorem up_len (v : List Nat) : (up v).length = v.length := by simp [up]
theorem up_down (v : List Nat) : (up v).map Int.toNat = v := by
  unfold up
  rw [List.map_map]
  have : (Int.toNat ∘ fun (x : Nat) => (x : Int)) = id := by funext x; simp
  rw [this, List.map_id]
theorem up_inj {a b : List Nat} (h : up a = up b) : a = b := by rw [← up_down a, h, up_down]
theorem up_bd {v : List Nat} (h : W01 v) : TS.Bd 2 (up v) := fun m hm => by
  unfold up at hm
  obtain ⟨n, hn, rfl⟩ := List.mem_map.mp hm
  have := h n hn
  omega
theorem code_before : ∀ {x y : List Nat}, x.length = y.length → W01 x → W01 y → Kqi2.before x y = true → TS.code 2 (up x) < TS.code 2 (up y)
  | [], _, _, _, _, h => by simp [Kqi2.before] at h
  | _ :: _, [], _, _, _, h => by simp [Kqi2.before] at h
  | a :: x, b :: y, hl, hx, hy, h => by
    have hl' : x.length = y.length := by simpa using hl
    have hx' : W01 x := fun z hz => hx z (List.mem_cons_of_mem _ hz)
    have hy' : W01 y := fun z hz => hy z (List.mem_cons_of_mem _ hz)
    simp only [Kqi2.before, Bool.or_eq_true, Bool.and_eq_true, decide_eq_true_eq, beq_iff_eq] at h
    show TS.code 2 ((a : Int) :: up x) < TS.code 2 ((b : Int) :: up y)
    rcases h with h | ⟨e, h⟩
    · exact TS.code_lt (by rw [up_len, up_len]; exact hl') (up_bd hx') (up_bd hy') (by omega)
    · subst e
      exact (TS.code_same (by rw [up_len, up_len]; exact hl')).mpr (code_before hl' hx' hy' h)
/-- the names, told by what sorted gives of the set of all that ways make -/
theorem names_of {w : List Nat} (hw : Wd w) {L : List (List Nat)} (hm : ∀ y, y ∈ L ↔ y ∈ Kqi2.ways w) (nd : L.Nodup) (pw : L.Pairwise fun a b => TS.code 2 (up a) ≤ TS.code 2 (up b)) : L = Kqi2.names w := by
  refine ord_unique ?_ (names_ord hw.lo) fun y => (hm y).trans (mem_names hw.lo y).symm
  have hl : ∀ y ∈ L, y.length = w.length ∧ W01 y := fun y hy => by
    have := (hm y).mp hy
    unfold Kqi2.ways at this
    obtain ⟨t, _, rfl⟩ := List.mem_map.mp this
    exact ⟨way_len w t hw.lo, way_01 hw.b t⟩
  have pw2 : L.Pairwise fun a b => a ≠ b ∧ TS.code 2 (up a) ≤ TS.code 2 (up b) := List.pairwise_and_iff.mpr ⟨nd, pw⟩
  refine List.Pairwise.imp_of_mem (fun {a b} ha hb hab => ?_) pw2
  obtain ⟨la, wa⟩ := hl a ha
  obtain ⟨lb, wb⟩ := hl b hb
  rcases before_tri (x := a) (y := b) (by rw [la, lb]) with e | e | e
  · exact absurd e hab.1
  · exact e
  · have := code_before (by rw [la, lb]) wb wa e
    have := hab.2
    omega
/-- at p stands a list of tuples, these words -/
def TupsAt (H : Hp) (p : Addr) (ws : List (List Nat)) : Prop := ∃ L : List (Addr × List Nat), H p = some (.lst (L.map fun q => V.ref q.1)) ∧ (∀ q ∈ L, H q.1 = some (.tup (iv q.2))) ∧ L.map (·.2) = ws
/-- tuple(x), x a list or a tuple -/
def rTupOf (K : PySem.W.Frag) : List V → Hp → VK → Prop := fun xs H Q => ∃ p ys, xs = [.ref p] ∧ ((SqL K H p ys ∧ ∀ l, H l = none → Q (.ref l) (upd H l (.tup ys))) ∨ (SqT K H p ys ∧ Q (.ref p) H))
theorem cr_tupOf {X : Cx} : CallR X (.type "tuple") (rTupOf X.K) := call_tuple_of
def spNames : Sp := fun vs H Q _ => ∃ (a : Addr) (w : List Nat), vs = [.ref a] ∧ H a = some (.lst (iv w)) ∧ Wd w ∧ ∀ (H' : Hp) (p : Addr), Same H H' → H p = none → TupsAt H' p (Kqi2.names w) → Q (.ref p) H'
section
variable {P : Program} {wo : World} {K : PySem.W.Frag} {mg : Str → Option Value} {base : Heap}
theorem scNames : FnScope ["word", "made", "t"] ["word"] (defScope sNames) := ⟨rfl, rfl, rfl, by decide +kernel, rfl, by decide +kernel, by decide +kernel⟩
theorem ok_names (O : Own mg) (F : At K mg "names" sNames ["word"]) (N : Df P wo K mg base 1 "number_of_ways" ["word"] spNumber) (W : Df P wo K mg base 2 "way" ["word", "t"] spWay) : Df P wo K mg base 3 "names" ["word"] spNames := by
  refine F.ok scNames (fun vs H Q E h => ?_) (fun f cdv A outer s H vs Q E hr h => ?_)
  · obtain ⟨a, w, rfl, _⟩ := h
    rfl
  · obtain ⟨a, w, rfl, ha, hw, q⟩ := h
    refine ⟨_, pss_cons (ps_setLc (i := 1) (own := [("t", 2)]) (g := gName 2) (tt := tYes) (te := tCB (rTupOf K) (tCons (tCall spWay [] E0 (tCons (tVar 0) (tCons (tVar 2) tNil))) tNil)) rfl scNames.nd rfl rfl (sw_true rfl rfl rfl (by decide +kernel)) (pi_range1 (by rfl) O.range (pa_cons (pe_df N (hr.mono (by decide)) rfl (pa_cons (pv 0) pa_nil)) pa_nil))
        (blkOk_by (N := ["word", "made", "t"]) (sc := defScope sNames) (by decide +kernel)) (fun _ _ _ _ _ => pg_name (i := 2) scNames.nd rfl (Or.inl rfl)) (fun _ _ _ _ _ => pts_nil)
        (fun _ _ _ _ _ => pe_callTy (T := "tuple") cr_tupOf (by rfl) O.tuple (by decide +kernel) (pa_cons (pe_df W hr rfl (pa_cons (pv 0) (pa_cons (pv 2) pa_nil))) pa_nil)))
      (pss_one (ps_ret (pe_callB (cr_sortedT rfl) (by rfl) O.sorted (by decide +kernel) (pa_cons (pe_callTy (cr_setOfT rfl hr.units) (by rfl) O.set (by decide +kernel) (pa_cons (pv 1) pa_nil)) pa_nil)))), ?_⟩
    have hn := hw.lo
    have hn10 := hw.hi
    refine ⟨_, rfl, a, w, rfl, ha, _, rfl, by omega, by omega, fun D nD => ?_⟩
    rw [Int.toNat_natCast]
    refine lc_range (lo := 0) (n := 4 * w.length) (fun i H' => ∃ L : List (Addr × List Nat), H' D = some (.lst (L.map fun q => V.ref q.1)) ∧ (∀ q ∈ L, H' q.1 = some (.tup (iv q.2))) ∧ L.map (·.2) = (List.range i).map (Kqi2.way w) ∧ Same H H')
      ⟨[], upd_same, (fun _ z => nomatch z), rfl, Same.new nD⟩ ?_ ?_
    · rintro i H' hi ⟨L, hD, hL, eL, sm⟩
      refine ⟨rfl, yes_of (if_true_of rfl ?_)⟩
      have ei : (0 : Int) + (i : Int) = (i : Int) := by omega
      rw [ei]
      refine ⟨_, rfl, _, rfl, a, w, i, rfl, sm a _ ha, hw, hi, fun H1 p1 sm1 np1 hp1 => ?_⟩
      refine ⟨_, _, rfl, .inl ⟨SqL.of hp1, fun l nl => ?_⟩⟩
      have hD1 := sm1 D _ hD
      have hD2 : upd H1 l (.tup (iv (Kqi2.way w i))) D = some (.lst (L.map fun q => V.ref q.1)) := by rw [upd_ne (ne_of_none hD1 nl)]; exact hD1
      have hlen : L.length = i := by
        have := congrArg List.length eL
        simpa using this
      refine ⟨_, hD2, by rw [List.length_map, hlen]; exact small1000 (by omega), ?_⟩
      have hlD : l ≠ D := fun e => by rw [e, hD1] at nl; cases nl
      refine ⟨L ++ [(l, Kqi2.way w i)], ?_, fun q hq => ?_, ?_, fun b o e => ?_⟩
      · rw [upd_same, List.map_append]
        rfl
      · have hqD : ∀ (q : Addr × List Nat), upd H1 l (.tup (iv (Kqi2.way w i))) q.1 = some (.tup (iv q.2)) → upd (upd H1 l (.tup (iv (Kqi2.way w i)))) D (.lst ((L.map fun q => V.ref q.1) ++ [V.ref l])) q.1 = some (.tup (iv q.2)) := fun q e => by
          rw [upd_ne (ne_of e hD2 (fun z => by cases z))]
          exact e
        refine hqD q ?_
        rcases List.mem_append.mp hq with h1 | h1
        · have e1 := sm1 _ _ (hL q h1)
          rw [upd_ne (ne_of_none e1 nl)]
          exact e1
        · have e1 := List.mem_singleton.mp h1
          rw [e1]
          exact upd_same
      · rw [List.map_append, eL, List.range_succ, List.map_append]
        rfl
      · have e1 := sm1 b o (sm b o e)
        rw [upd_ne (ne_of_none e nD), upd_ne (ne_of_none e1 nl)]
        exact e1
    · rintro H' ⟨L, hD, hL, eL, sm⟩
      -- set(made)
      let ks : List (Addr × List Int) := L.map fun q => (q.1, up q.2)
      have hlen : L.length = 4 * w.length := by
        have := congrArg List.length eL
        simpa using this
      have e1 : (ks.map fun p => V.ref p.1) = L.map fun q => V.ref q.1 := by simp [ks]
      have hks : ∀ p ∈ ks, ∃ v, v ∈ Kqi2.ways w ∧ p.2 = up v ∧ H' p.1 = some (.tup (iv v)) := fun p hp => by
        obtain ⟨q, hq, rfl⟩ := List.mem_map.mp hp
        refine ⟨q.2, ?_, rfl, hL q hq⟩
        have : q.2 ∈ L.map (·.2) := List.mem_map.mpr ⟨q, hq, rfl⟩
        rw [eL] at this
        exact this
      refine ⟨_, rfl, D, ks, rfl, SqL.of (by rw [e1]; exact hD), fun p hp => ?_, by simp only [ks, List.length_map]; omega, fun aS LS nS subS allS => ?_⟩
      · obtain ⟨v, _, e, h⟩ := hks p hp
        rw [e, up_iv]
        exact SqT.of h
      have keep : ∀ p ∈ LS, ∃ v, v ∈ Kqi2.ways w ∧ p.2 = up v ∧ upd H' aS (SetTO P wo aS LS) p.1 = some (.tup (iv v)) := fun p hp => by
        obtain ⟨v, h1, h2, h3⟩ := hks p (subS p hp)
        refine ⟨v, h1, h2, ?_⟩
        rw [upd_ne (ne_of_none h3 nS)]
        exact h3
      refine ⟨aS, LS, w.length, 2, rfl, upd_same, fun p hp => ?_, hn, fun p hp => ?_, fun L' p perm nd few pw np => ?_⟩
      · obtain ⟨v, _, e, h⟩ := keep p hp
        rw [e, up_iv]
        exact SqT.of h
      · obtain ⟨v, hv, e, h⟩ := keep p hp
        obtain ⟨t, _, rfl⟩ := List.mem_map.mp hv
        rw [e, up_len]
        exact ⟨way_len w t hn, up_bd (way_01 hw.b t)⟩
      · have sm2 : Same H (upd H' aS (SetTO P wo aS LS)) := sm.new' nS
        have back : ∀ p ∈ L', ∃ v, v ∈ Kqi2.ways w ∧ p.2 = up v ∧ upd H' aS (SetTO P wo aS LS) p.1 = some (.tup (iv v)) := fun p hp => keep p (perm.mem_iff.mp hp)
        refine q _ p (sm2.new' np) (sm2.free np) ⟨L'.map fun p => (p.1, p.2.map Int.toNat), ?_, fun r hr => ?_, ?_⟩
        · rw [upd_same, List.map_map]
          rfl
        · obtain ⟨p0, hp0, rfl⟩ := List.mem_map.mp hr
          obtain ⟨v, _, e, h⟩ := back p0 hp0
          show upd _ p _ p0.1 = some (.tup (iv (p0.2.map Int.toNat)))
          rw [upd_ne (ne_of_none h np), e, up_down]
          exact h
        · have eu : ((L'.map fun p => (p.1, p.2.map Int.toNat)).map (·.2)).map up = L'.map (·.2) := by
            rw [List.map_map, List.map_map]
            refine List.map_congr_left fun p hp => ?_
            obtain ⟨v, _, e, _⟩ := back p hp
            show up (p.2.map Int.toNat) = p.2
            rw [e, up_down]
          refine names_of hw (fun y => ?_) ?_ ?_
          · constructor
            · intro hy
              obtain ⟨r, hr, rfl⟩ := List.mem_map.mp hy
              obtain ⟨p0, hp0, rfl⟩ := List.mem_map.mp hr
              obtain ⟨v, hv, e, _⟩ := back p0 hp0
              show p0.2.map Int.toNat ∈ _
              rw [e, up_down]
              exact hv
            · intro hy
              have hy2 : y ∈ L.map (·.2) := by rw [eL]; exact hy
              obtain ⟨q0, hq0, rfl⟩ := List.mem_map.mp hy2
              have h1 := allS (q0.1, up q0.2) (List.mem_map.mpr ⟨q0, hq0, rfl⟩)
              obtain ⟨p1, hp1, e1⟩ := List.mem_map.mp h1
              have hp1' := perm.mem_iff.mpr hp1
              refine List.mem_map.mpr ⟨(p1.1, p1.2.map Int.toNat), List.mem_map.mpr ⟨p1, hp1', rfl⟩, ?_⟩
              show p1.2.map Int.toNat = q0.2
              rw [e1, up_down]
          · have nd2 := nd
            rw [← eu] at nd2
            exact List.Pairwise.of_map up (fun a b hab e => hab (congrArg up e)) nd2
          · rw [List.pairwise_map, List.pairwise_map]
            refine List.Pairwise.imp_of_mem (fun {x y} hx hy hxy => ?_) pw
            obtain ⟨v, _, e, _⟩ := back x hx
            obtain ⟨v', _, e', _⟩ := back y hy
            show TS.code 2 (up (x.2.map Int.toNat)) ≤ TS.code 2 (up (y.2.map Int.toNat))
            rw [e, e', up_down, up_down, ← e, ← e']
            exact hxy
end
end Lw

set_option Elab.async false
set_option linter.all false
set_option maxRecDepth 100000
set_option maxHeartbeats 4000000
namespace Lw
open PySem PySem.Spec PyProof.Rows L2
/-! ### Words as data: ==, in, index -/
def wds (w : List Nat) : List PyData := w.map fun (x : Nat) => PyData.int (x : Int)
def wL (w : List Nat) : PyData := .list (wds w)
def wT (w : List Nat) : PyData := .tuple (wds w)
theorem wds_lay : ∀ w : List Nat, PyData.canLayAll0 (wds w) = true
  | [] => rfl
  | x :: w => by
    show (PyData.canLay0 (.int (x : Int)) && PyData.canLayAll0 (wds w)) = true
    rw [wds_lay w]
    rfl
theorem wds_depth : ∀ w : List Nat, PyData.depthAll (wds w) = 0
  | [] => rfl
  | x :: w => by
    have := wds_depth w
    simp only [wds, List.map_cons, PyData.depthAll, PyData.depth] at this ⊢
    omega
theorem wL_shaped (w : List Nat) : SeqAt.shaped (wL w) = true := by
  unfold SeqAt.shaped wL
  simp only [PyData.canLay0, PyData.depth, wds_lay, wds_depth]
  decide
theorem wT_shaped (w : List Nat) : SeqAt.shaped (wT w) = true := by
  unfold SeqAt.shaped wT
  simp only [PyData.canLay0, PyData.depth, wds_lay, wds_depth]
  decide
theorem wTs_lay : ∀ ws : List (List Nat), PyData.canLayAll0 (ws.map wT) = true
  | [] => rfl
  | w :: ws => by
    show (PyData.canLay0 (wT w) && PyData.canLayAll0 (ws.map wT)) = true
    rw [wTs_lay ws, SeqAt.canLay_of_shaped (wT_shaped w)]
    rfl
theorem wTs_depth : ∀ ws : List (List Nat), PyData.depthAll (ws.map wT) ≤ 1
  | [] => by simp [PyData.depthAll]
  | w :: ws => by
    have h1 := wTs_depth ws
    have h2 : (wT w).depth = 1 := by simp only [wT, PyData.depth, wds_depth]
    simp only [List.map_cons, PyData.depthAll, h2]
    omega
theorem wTs_shaped (ws : List (List Nat)) : SeqAt.shaped (.list (ws.map wT)) = true := by
  have h := wTs_depth ws
  have hd : (PyData.list (ws.map wT)).depth ≤ 64 := by
    rw [PyData.depth]
    omega
  have hc : (PyData.list (ws.map wT)).canLay0 = true := by
    rw [PyData.canLay0]
    exact wTs_lay ws
  unfold SeqAt.shaped
  rw [hc, decide_eq_true hd]
  rfl
theorem wds_eqv : ∀ x y : List Nat, PyData.eqvAll (wds x) (wds y) = decide (x = y)
  | [], [] => by simp [wds, PyData.eqvAll]
  | [], _ :: _ => by simp [wds, PyData.eqvAll]
  | _ :: _, [] => by simp [wds, PyData.eqvAll]
  | a :: x, b :: y => by
    have ih := wds_eqv x y
    show (PyData.eqv (.int (a : Int)) (.int (b : Int)) && PyData.eqvAll (wds x) (wds y)) = _
    rw [ih]
    by_cases h : a = b
    · subst h
      simp [PyData.eqv]
    · have : ((a : Int) == (b : Int)) = false := by rw [beq_eq_false_iff_ne]; omega
      simp [PyData.eqv, this, h]
theorem wL_eqv (x y : List Nat) : PyData.eqv (wL x) (wL y) = decide (x = y) := by
  unfold wL
  rw [PyData.eqv]
  exact wds_eqv x y
theorem wT_eqv (x y : List Nat) : PyData.eqv (wT x) (wT y) = decide (x = y) := by
  unfold wT
  rw [PyData.eqv]
  exact wds_eqv x y
theorem dp_iv {K : PySem.W.Frag} {H : Hp} : ∀ w : List Nat, DpAll K H (iv w) (wds w)
  | [] => .nil
  | x :: w => .cons (.int _) (dp_iv w)
theorem dp_wL {K : PySem.W.Frag} {H : Hp} {a : Addr} {w : List Nat} (h : H a = some (.lst (iv w))) : Dp K H (.ref a) (wL w) := .lst (SqL.of h) (dp_iv w)
theorem dp_wT {K : PySem.W.Frag} {H : Hp} {a : Addr} {w : List Nat} (h : H a = some (.tup (iv w))) : Dp K H (.ref a) (wT w) := .tup (SqT.of h) (dp_iv w)
theorem dp_refs {K : PySem.W.Frag} {H : Hp} : ∀ L : List (Addr × List Nat), (∀ q ∈ L, H q.1 = some (.tup (iv q.2))) → DpAll K H (L.map fun q => V.ref q.1) (L.map fun q => wT q.2)
  | [], _ => .nil
  | q :: L, h => .cons (dp_wT (h q List.mem_cons_self)) (dp_refs L fun r hr => h r (List.mem_cons_of_mem _ hr))
theorem dp_tups {K : PySem.W.Frag} {H : Hp} {p : Addr} {ws : List (List Nat)} (h : TupsAt H p ws) : Dp K H (.ref p) (.list (ws.map wT)) := by
  obtain ⟨L, h1, h2, h3⟩ := h
  have := dp_refs (K := K) L h2
  rw [← h3, List.map_map]
  exact .lst (SqL.of h1) this
theorem any_eqv (ws : List (List Nat)) (w : List Nat) : ((ws.map wT).any fun z => PyData.eqv z (wT w)) = ws.contains w := by
  rw [List.any_map]
  induction ws with
  | nil => rfl
  | cons x ws ih =>
    rw [List.any_cons, List.contains_cons, ih]
    show (PyData.eqv (wT x) (wT w) || ws.contains w) = _
    rw [wT_eqv]
    by_cases e : x = w
    · subst e
      simp
    · have e' : ¬ w = x := fun z => e z.symm
      simp [e, e']
/-- == of two lists of numbers -/
def rEqW : R2 := fun x y H Q => ∃ (a b : Addr) (v w : List Nat), x = .ref a ∧ y = .ref b ∧ H a = some (.lst (iv v)) ∧ H b = some (.lst (iv w)) ∧ Q (.bl (decide (v = w))) H
theorem op_eqW {X : Cx} (hu : X.A.units + 64 < cLine) : OpR X (compareOp .Eq) rEqW := by
  intro pins s σ H x y v u Q I rx ry h
  obtain ⟨a, b, v1, w1, rfl, rfl, ha, hb, q⟩ := h
  refine op_eqD hu pins s σ H (.ref a) (.ref b) v u Q I rx ry ⟨wL v1, wL w1, dp_wL ha, dp_wL hb, wL_shaped _, wL_shaped _, ?_⟩
  rw [wL_eqv]
  exact q
/-- == of two tuples of numbers -/
def rEqT : R2 := fun x y H Q => ∃ (a b : Addr) (v w : List Nat), x = .ref a ∧ y = .ref b ∧ H a = some (.tup (iv v)) ∧ H b = some (.tup (iv w)) ∧ Q (.bl (decide (v = w))) H
theorem op_eqT {X : Cx} (hu : X.A.units + 64 < cLine) : OpR X (compareOp .Eq) rEqT := by
  intro pins s σ H x y v u Q I rx ry h
  obtain ⟨a, b, v1, w1, rfl, rfl, ha, hb, q⟩ := h
  refine op_eqD hu pins s σ H (.ref a) (.ref b) v u Q I rx ry ⟨wT v1, wT w1, dp_wT ha, dp_wT hb, wT_shaped _, wT_shaped _, ?_⟩
  rw [wT_eqv]
  exact q
/-- a tuple in, not in a list of tuples -/
def rInW (neg : Bool) : R2 := fun x y H Q => ∃ (a p : Addr) (w : List Nat) (ws : List (List Nat)), x = .ref a ∧ y = .ref p ∧ H a = some (.tup (iv w)) ∧ TupsAt H p ws ∧ Q (.bl (if neg then !ws.contains w else ws.contains w)) H
theorem op_inW {X : Cx} (hu : X.A.units + 65 < cLine) : OpR X (compareOp .In) (rInW false) := by
  intro pins s σ H x y v u Q I rx ry h
  obtain ⟨a, p, w, ws, rfl, rfl, ha, hp, q⟩ := h
  refine op_inD hu pins s σ H (.ref a) (.ref p) v u Q I rx ry ⟨wT w, ws.map wT, dp_wT ha, dp_tups hp, wT_shaped _, wTs_shaped _, ?_⟩
  rw [any_eqv]
  exact q
theorem op_notInW {X : Cx} (hu : X.A.units + 65 < cLine) : OpR X (compareOp .NotIn) (rInW true) := by
  intro pins s σ H x y v u Q I rx ry h
  obtain ⟨a, p, w, ws, rfl, rfl, ha, hp, q⟩ := h
  refine op_notInD hu pins s σ H (.ref a) (.ref p) v u Q I rx ry ⟨wT w, ws.map wT, dp_wT ha, dp_tups hp, wT_shaped _, wTs_shaped _, ?_⟩
  rw [any_eqv]
  exact q
/-- xs.index(t), t one of a list of tuples, each once: its place -/
def rIndexW : V → List V → Hp → VK → Prop := fun x xs H Q => ∃ (p a : Addr) (w : List Nat) (ws : List (List Nat)), x = .ref p ∧ xs = [.ref a] ∧ H a = some (.tup (iv w)) ∧ TupsAt H p ws ∧ w ∈ ws ∧ Q (.int ((ws.findIdx fun v => v == w : Nat) : Int)) H
theorem mt_indexW {X : Cx} (hu : X.A.units + 65 < cLine) : MtR X "list.index" rIndexW := by
  intro pins s σ H x xs v us Q I rx rxs h
  obtain ⟨p, a, w, ws, rfl, rfl, ha, hp, hm, q⟩ := h
  have hlt : ws.findIdx (fun v => v == w) < ws.length := List.findIdx_lt_length_of_exists ⟨w, hm, by simp⟩
  have heq : (ws[ws.findIdx fun v => v == w] == w) = true := List.findIdx_getElem (p := fun v => v == w) (w := hlt)
  have heq' : ws[ws.findIdx fun v => v == w] = w := by simpa using heq
  refine mt_indexD hu pins s σ H (.ref p) [.ref a] v us Q I rx rxs ⟨p, .ref a, wT w, ws.map wT, ws.findIdx fun v => v == w, wT w, rfl, rfl, dp_tups hp, dp_wT ha, wTs_shaped _, wT_shaped _, ?_, ?_, fun m z' hlm hz => ?_, q⟩
  · rw [List.getElem?_map, List.getElem?_eq_getElem hlt, heq']
    rfl
  · rw [wT_eqv]
    simp
  · rw [List.getElem?_map] at hz
    cases e : ws[m]? with
    | none => rw [e] at hz; cases hz
    | some v0 =>
      rw [e] at hz
      cases hz
      have hml : m < ws.length := (List.getElem?_eq_some_iff.mp e).1
      have hn := List.not_of_lt_findIdx (p := fun v => v == w) hlm
      have e0 : ws[m] = v0 := (List.getElem?_eq_some_iff.mp e).2
      rw [wT_eqv]
      refine decide_eq_false fun z => ?_
      rw [e0, z] at hn
      simp at hn
end Lw

set_option Elab.async false
set_option linter.all false
set_option maxRecDepth 100000
set_option maxHeartbeats 4000000
namespace Lw
open PySem PySem.Spec PyProof.Rows L2
open PySem.W (Codec)
abbrev sBetween : Stmt := top 12
abbrev sLeave : Stmt := top 13
abbrev sKinds : Stmt := top 14
abbrev sHanded : Stmt := top 15
abbrev sAgain : Stmt := top 16
/-! ### Mathematics -/
/-- the ways below n that make v of w -/
def waysB (w v : List Nat) (n : Nat) : List Nat := (List.range n).filter fun t => Kqi2.way w t == v
theorem waysB_yes {w v : List Nat} {i : Nat} (h : Kqi2.way w i = v) : waysB w v (i + 1) = waysB w v i ++ [i] := by
  unfold waysB
  rw [List.range_succ, List.filter_append]
  simp [h]
theorem waysB_no {w v : List Nat} {i : Nat} (h : ¬ Kqi2.way w i = v) : waysB w v (i + 1) = waysB w v i := by
  unfold waysB
  rw [List.range_succ, List.filter_append]
  simp [h]
theorem waysB_len (w v : List Nat) (n : Nat) : (waysB w v n).length ≤ n := by
  unfold waysB
  have := List.length_filter_le (fun t => Kqi2.way w t == v) (List.range n)
  simpa using this
theorem waysB_head (w v : List Nat) : (waysB w v (4 * w.length)).head? = Kqi2.becomes w v := by
  unfold waysB Kqi2.becomes
  rw [List.head?_filter]
/-- the kinds of the ways that leave it -/
def kindsOf (w : List Nat) : List Nat := (Kqi2.leaves w).map fun t => t / w.length
theorem kinds_four (w : List Nat) : Kqi2.four w = (List.range 4).map fun q => (kindsOf w).count q := by
  unfold Kqi2.four kindsOf
  show ([0, 1, 2, 3] : List Nat).map _ = ([0, 1, 2, 3] : List Nat).map _
  refine List.map_congr_left fun q _ => ?_
  rw [List.count_eq_countP, List.countP_map, List.countP_eq_length_filter]
  rfl
theorem kinds_len (w : List Nat) : (kindsOf w).length ≤ 4 * w.length := by
  unfold kindsOf
  rw [List.length_map]
  exact leaves_len w
theorem handed_four {w : List Nat} (hw : 1 ≤ w.length) : Kqi2.handed w = (decide ((kindsOf w).count 2 = 0) && decide ((kindsOf w).count 3 = 0)) := by
  rw [Bool.eq_iff_iff, Bool.and_eq_true, decide_eq_true_eq, decide_eq_true_eq, List.count_eq_zero, List.count_eq_zero]
  unfold Kqi2.handed kindsOf
  simp only [List.all_eq_true, decide_eq_true_eq, List.mem_map, not_exists, not_and]
  constructor
  · intro h
    constructor
    · intro t ht e
      have h1 := h t ht
      have h2 := (kind_back hw (leaves_lt ht)).mpr (.inl e)
      omega
    · intro t ht e
      have h1 := h t ht
      have h2 := (kind_back hw (leaves_lt ht)).mpr (.inr e)
      omega
  · rintro ⟨h2, h3⟩ t ht
    rcases Nat.lt_or_ge t (2 * w.length) with h | h
    · exact h
    · rcases (kind_back hw (leaves_lt ht)).mp h with e | e
      · exact absurd e (h2 t ht)
      · exact absurd e (h3 t ht)
theorem up_count (l : List Nat) (k : Nat) : (up l).count (k : Int) = l.count k := by
  unfold up
  induction l with
  | nil => rfl
  | cons x l ih =>
    rw [List.map_cons, List.count_cons, List.count_cons, ih]
    by_cases h : x = k
    · subst h; simp
    · have h2 : ¬ ((x : Int) = (k : Int)) := by omega
      simp [h, h2]
theorem begun_all (w : List Nat) : Kqi2.begun w w.length = w := by
  unfold Kqi2.begun
  simp
/-- the k from 1 to n such that begun k later it's the same -/
def agains (w : List Nat) (n : Nat) : List Nat := (List.range n).filterMap fun j => if Kqi2.begun w (j + 1) = w then some (j + 1) else none
theorem agains_yes {w : List Nat} {i : Nat} (h : Kqi2.begun w (i + 1) = w) : agains w (i + 1) = agains w i ++ [i + 1] := by
  unfold agains
  rw [List.range_succ, List.filterMap_append]
  simp [h]
theorem agains_no {w : List Nat} {i : Nat} (h : ¬ Kqi2.begun w (i + 1) = w) : agains w (i + 1) = agains w i := by
  unfold agains
  rw [List.range_succ, List.filterMap_append]
  simp [h]
theorem agains_mem {w : List Nat} {n k : Nat} : k ∈ agains w n ↔ 0 < k ∧ k ≤ n ∧ Kqi2.begun w k = w := by
  unfold agains
  rw [List.mem_filterMap]
  constructor
  · rintro ⟨j, hj, e⟩
    have := List.mem_range.mp hj
    by_cases h : Kqi2.begun w (j + 1) = w
    · rw [if_pos h] at e
      cases e
      exact ⟨by omega, by omega, h⟩
    · rw [if_neg h] at e
      cases e
  · rintro ⟨h1, h2, h3⟩
    refine ⟨k - 1, List.mem_range.mpr (by omega), ?_⟩
    have e : k - 1 + 1 = k := by omega
    rw [e, if_pos h3]
theorem agains_len (w : List Nat) (n : Nat) : (agains w n).length ≤ n := by
  unfold agains
  have := List.length_filterMap_le (fun j => if Kqi2.begun w (j + 1) = w then some (j + 1) else none) (List.range n)
  simpa using this
theorem again_min {w : List Nat} {m : Nat} (hm : m ∈ agains w w.length) (hle : ∀ y ∈ agains w w.length, m ≤ y) : againN w = m := by
  obtain ⟨h1, h2, h3⟩ := agains_mem.mp hm
  rcases Nat.lt_or_ge m w.length with h | h
  · refine again_at h1 h h3 fun j hj0 hj e => ?_
    have := hle j (agains_mem.mpr ⟨hj0, by omega, e⟩)
    omega
  · have e : m = w.length := by omega
    rw [e]
    refine again_none fun j hj0 hj e2 => ?_
    have := hle j (agains_mem.mpr ⟨hj0, by omega, e2⟩)
    omega
/-! ### Promises -/
def spBetween : Sp := fun vs H Q _ => ∃ (a b : Addr) (w v : List Nat), vs = [.ref a, .ref b] ∧ H a = some (.lst (iv w)) ∧ H b = some (.lst (iv v)) ∧ Wd w ∧ gives H Q (waysB w v (4 * w.length))
def spLeave : Sp := fun vs H Q _ => ∃ (a : Addr) (w : List Nat), vs = [.ref a] ∧ H a = some (.lst (iv w)) ∧ Wd w ∧ gives H Q (Kqi2.leaves w)
def spKinds : Sp := fun vs H Q _ => ∃ (a : Addr) (w : List Nat), vs = [.ref a] ∧ H a = some (.lst (iv w)) ∧ Wd w ∧ gives H Q (Kqi2.four w)
def spHanded : Sp := fun vs H Q _ => ∃ (a : Addr) (w : List Nat), vs = [.ref a] ∧ H a = some (.lst (iv w)) ∧ Wd w ∧ ∀ H', Same H H' → Q (.bl (Kqi2.handed w)) H'
def spAgain : Sp := fun vs H Q _ => ∃ (a : Addr) (w : List Nat), vs = [.ref a] ∧ H a = some (.lst (iv w)) ∧ Wd w ∧ ∀ H', Same H H' → Q (.int ((againN w : Nat) : Int)) H'
/-- len(x), x a list or a tuple -/
def rLenQ (K : PySem.W.Frag) : List V → Hp → VK → Prop := fun xs H Q => ∃ p ys, xs = [.ref p] ∧ (SqL K H p ys ∨ SqT K H p ys) ∧ Q (.int ys.length) H
theorem cr_lenQ {X : Cx} : CallR X (.builtin "len") (rLenQ X.K) := call_len_seq
section
variable {P : Program} {wo : World} {K : PySem.W.Frag} {mg : Str → Option Value} {base : Heap}
theorem scBetween : FnScope ["word", "other", "t"] ["word", "other"] (defScope sBetween) := ⟨rfl, rfl, rfl, by decide +kernel, rfl, by decide +kernel, by decide +kernel⟩
theorem ok_between (O : Own mg) (F : At K mg "ways_between" sBetween ["word", "other"]) (N : Df P wo K mg base 1 "number_of_ways" ["word"] spNumber) (W : Df P wo K mg base 2 "way" ["word", "t"] spWay) : Df P wo K mg base 3 "ways_between" ["word", "other"] spBetween := by
  refine F.ok scBetween (fun vs H Q E h => ?_) (fun f cdv A outer s H vs Q E hr h => ?_)
  · obtain ⟨a, b, w, v, rfl, _⟩ := h
    rfl
  · obtain ⟨a, b, w, v, rfl, ha, hb, hw, q⟩ := h
    refine ⟨_, pss_one (ps_ret (pe_lc (own := [("t", 2)]) (g := gName 2) (tt := tTest (tOp rEqW (tCall spWay [] E0 (tCons (tVar 0) (tCons (tVar 2) tNil))) (tVar 1))) (te := tVar 2) rfl scBetween.nd
        (pi_range1 (by rfl) O.range (pa_cons (pe_df N (hr.mono (by decide)) rfl (pa_cons (pv 0) pa_nil)) pa_nil))
        (blkOk_by (N := ["word", "other", "t"]) (sc := defScope sBetween) (by decide +kernel)) (fun _ _ _ _ _ => pg_name (i := 2) scBetween.nd rfl (Or.inl rfl))
        (fun _ _ _ _ _ => pts_one (pt_cmpR (op_eqW hr.units) (pe_df W hr rfl (pa_cons (pv 0) (pa_cons (pv 2) pa_nil))) (pv 1) (by with_unfolding_all rfl)))
        (fun _ _ _ _ _ => pv 2))), ?_⟩
    have hn := hw.lo
    have hn10 := hw.hi
    refine ⟨_, rfl, a, w, rfl, ha, _, rfl, by omega, by omega, fun D nD => ?_⟩
    rw [Int.toNat_natCast]
    refine lc_range (lo := 0) (n := 4 * w.length) (fun i H' => H' D = some (.lst (iv (waysB w v i))) ∧ Same H H') ⟨upd_same, Same.new nD⟩ ?_ ?_
    · rintro i H' hi ⟨hD, sm⟩
      have ei : (0 : Int) + (i : Int) = (i : Int) := by omega
      rw [ei]
      refine ⟨rfl, ?_⟩
      refine ⟨_, rfl, _, rfl, a, w, i, rfl, sm a _ ha, hw, hi, fun H1 p1 sm1 np1 hp1 => ?_⟩
      refine ⟨_, rfl, p1, b, _, v, rfl, rfl, hp1, sm1 b _ (sm b _ hb), _, rfl, ?_⟩
      have hD1 := sm1 D _ hD
      by_cases c : Kqi2.way w i = v
      · refine if_true_of (decide_eq_true c) ?_
        have hl := waysB_len w v i
        refine ⟨_, rfl, _, hD1, by rw [iv_len]; exact small1000 (by omega), ?_, fun b o e => ?_⟩
        · rw [upd_same, waysB_yes c, iv_app]
          rfl
        · rw [upd_ne (ne_of_none e nD)]
          exact sm1 b o (sm b o e)
      · refine if_false_of (decide_eq_false c) ⟨?_, sm.trans sm1⟩
        rw [waysB_no c]
        exact hD1
    · rintro H' ⟨hD, sm⟩
      exact q H' D sm nD hD
theorem scLeave : FnScope ["word"] ["word"] (defScope sLeave) := ⟨rfl, rfl, rfl, by decide +kernel, rfl, by decide +kernel, by decide +kernel⟩
theorem ok_leave (F : At K mg "ways_that_leave" sLeave ["word"]) (B : Df P wo K mg base 3 "ways_between" ["word", "other"] spBetween) : Df P wo K mg base 4 "ways_that_leave" ["word"] spLeave := by
  refine F.ok scLeave (fun vs H Q E h => ?_) (fun f cdv A outer s H vs Q E hr h => ?_)
  · obtain ⟨a, w, rfl, _⟩ := h
    rfl
  · obtain ⟨a, w, rfl, ha, hw, q⟩ := h
    refine ⟨_, pss_one (ps_ret (pe_df B hr rfl (pa_cons (pv 0) (pa_cons (pv 0) pa_nil)))), ?_⟩
    exact ⟨_, rfl, _, rfl, a, a, w, w, rfl, ha, ha, hw, q⟩
theorem scKinds : FnScope ["word", "kinds", "t", "kind"] ["word"] (defScope sKinds) := ⟨rfl, rfl, rfl, by decide +kernel, rfl, by decide +kernel, by decide +kernel⟩
theorem ok_kinds (O : Own mg) (C : Cons mg) (F : At K mg "leaving_of_each_kind" sKinds ["word"]) (L : Df P wo K mg base 4 "ways_that_leave" ["word"] spLeave) : Df P wo K mg base 5 "leaving_of_each_kind" ["word"] spKinds := by
  refine F.ok scKinds (fun vs H Q E h => ?_) (fun f cdv A outer s H vs Q E hr h => ?_)
  · obtain ⟨a, w, rfl, _⟩ := h
    rfl
  · obtain ⟨a, w, rfl, ha, hw, q⟩ := h
    obtain ⟨t4, hk⟩ := C.kinds
    refine ⟨_, pss_cons (ps_set (i := 1) scKinds.nd rfl (Or.inr rfl) (pe_lc (own := [("t", 2)]) (g := gName 2) (tt := tYes) (te := tOp (rI CDiv fun i j => .int (i / j)) (tVar 2) (tCB (rLenQ K) (tCons (tVar 0) tNil))) rfl scKinds.nd
        (pi_list (pe_df L hr rfl (pa_cons (pv 0) pa_nil))) (blkOk_by (N := ["word", "kinds", "t", "kind"]) (sc := defScope sKinds) (by decide +kernel)) (fun _ _ _ _ _ => pg_name (i := 2) scKinds.nd rfl (Or.inl rfl)) (fun _ _ _ _ _ => pts_nil)
        (fun _ _ _ _ _ => pe_op op_fdiv (pv 2) (pe_callB cr_lenQ (by rfl) O.len PySem.boot_len (pa_cons (pv 0) pa_nil)))))
      (pss_one (ps_ret (pe_lc (own := [("kind", 3)]) (g := gName 3) (tt := tYes) (te := tBM K "list" (rCntI K) (tVar 1) (tCons (tVar 3) tNil)) rfl scKinds.nd
        (pi_range1 (by rfl) O.range (pa_cons (pe_glob (v := .int 4) rfl hk ⟨_, rfl⟩) pa_nil)) (blkOk_by (N := ["word", "kinds", "t", "kind"]) (sc := defScope sKinds) (by decide +kernel)) (fun _ _ _ _ _ => pg_name (i := 3) scKinds.nd rfl (Or.inl rfl)) (fun _ _ _ _ _ => pts_nil)
        (fun _ _ _ _ _ => pe_bm PySem.F.plainAttrs_list PySem.F.slot_list_count PySem.F.type_list_count mt_lcount (pv 1) (pa_cons (pv 3) pa_nil))))), ?_⟩
    have hn := hw.lo
    have hn10 := hw.hi
    refine ⟨_, rfl, a, w, rfl, ha, hw, fun H0 l sm0 nl hl => ?_⟩
    refine ⟨l, rfl, ⟨_, SqL.of hl⟩, fun D nD => ?_⟩
    have hlv := leaves_len w
    refine lc_list (K := K) (a := l) (xs := iv (Kqi2.leaves w)) (fun i H' => H' D = some (.lst (iv (((Kqi2.leaves w).take i).map fun t => t / w.length))) ∧ Same H0 H') ⟨upd_same, Same.new nD⟩ (fun i H' _ hp => SqL.of (hp.2 l _ hl)) ?_ ?_
    · rintro i x H' hx ⟨hD, sm⟩
      obtain ⟨n, hn2, rfl⟩ := iv_get hx
      refine ⟨rfl, yes_of (if_true_of rfl ?_)⟩
      refine ⟨_, rfl, _, rfl, a, _, rfl, .inl (SqL.of (sm a _ (sm0 a _ ha))), _, _, rfl, rfl, ⟨by rw [iv_len]; omega, by rw [iv_len]; omega⟩, _, hD, ?_, ?_, fun b o e => ?_⟩
      · rw [iv_len, List.length_map, List.length_take]
        exact small1000 (by omega)
      · rw [upd_same, iv_len]
        have e1 : (Kqi2.leaves w).take (i + 1) = (Kqi2.leaves w).take i ++ [n] := by
          rw [List.take_add_one, hn2]
          rfl
        rw [e1, List.map_append, iv_app]
        rfl
      · rw [upd_ne (ne_of_none e nD)]
        exact sm b o e
    · rintro H1 ⟨hD, sm1⟩
      rw [iv_len, List.take_length] at hD
      have hD1 : H1 D = some (.lst (iv (kindsOf w))) := hD
      have sm2 := sm0.trans sm1
      refine ⟨4, rfl, by decide, by decide, fun D2 nD2 => ?_⟩
      refine lc_range (lo := 0) (n := 4) (fun i H' => H' D2 = some (.lst (iv ((List.range i).map fun q => (kindsOf w).count q))) ∧ Same H1 H') ⟨upd_same, Same.new nD2⟩ ?_ ?_
      · rintro i H' hi ⟨hE, sm⟩
        have ei : (0 : Int) + (i : Int) = (i : Int) := by omega
        rw [ei]
        have hD' := sm D _ hD1
        refine ⟨rfl, yes_of (if_true_of rfl ?_)⟩
        refine ⟨_, rfl, .inl ⟨rfl, _, SqL.of hD'⟩, _, rfl, D, up (kindsOf w), _, rfl, rfl, SqL.of (by rw [up_iv]; exact hD'), _, hE, ?_, ?_, fun b o e => ?_⟩
        · rw [iv_len, List.length_map, List.length_range]
          exact small1000 (by omega)
        · rw [upd_same, up_count, List.range_succ, List.map_append, iv_app]
          rfl
        · rw [upd_ne (ne_of_none e nD2)]
          exact sm b o e
      · rintro H2 ⟨hE, sm3⟩
        rw [← kinds_four] at hE
        exact q H2 D2 (sm2.trans sm3) (sm2.free nD2) hE
theorem scHanded : FnScope ["word", "counts"] ["word"] (defScope sHanded) := ⟨rfl, rfl, rfl, by decide +kernel, rfl, by decide +kernel, by decide +kernel⟩
theorem ok_handed (F : At K mg "is_handed" sHanded ["word"]) (L : Df P wo K mg base 5 "leaving_of_each_kind" ["word"] spKinds) : Df P wo K mg base 6 "is_handed" ["word"] spHanded := by
  refine F.ok scHanded (fun vs H Q E h => ?_) (fun f cdv A outer s H vs Q E hr h => ?_)
  · obtain ⟨a, w, rfl, _⟩ := h
    rfl
  · obtain ⟨a, w, rfl, ha, hw, q⟩ := h
    refine ⟨_, pss_cons (ps_set (i := 1) scHanded.nd rfl (Or.inl rfl) (pe_df L hr rfl (pa_cons (pv 0) pa_nil)))
      (pss_one (ps_ret (pe_and (pe_cmpR op_eq (pe_ix ix_list (pv 1) pe_int (fun _ _ => rfl)) pe_int (nomark _)) (pe_one (pe_cmpR op_eq (pe_ix ix_list (pv 1) pe_int (fun _ _ => rfl)) pe_int (nomark _)))))), ?_⟩
    refine ⟨_, rfl, a, w, rfl, ha, hw, fun H1 p1 sm1 np1 hp1 => ?_⟩
    rw [kinds_four] at hp1
    have g2 : atI (iv ((List.range 4).map fun q => (kindsOf w).count q)) (2 : Int) = some (.int (((kindsOf w).count 2 : Nat) : Int)) := rfl
    have g3 : atI (iv ((List.range 4).map fun q => (kindsOf w).count q)) (3 : Int) = some (.int (((kindsOf w).count 3 : Nat) : Int)) := rfl
    have q1 := q H1 sm1
    rw [handed_four hw.lo] at q1
    have dz : ∀ n : Nat, decide (V.int (n : Int) = V.int 0) = decide (n = 0) := fun n => by
      by_cases h : n = 0
      · subst h; rfl
      · rw [decide_eq_false h, decide_eq_false]
        intro z
        have := V.int.inj z
        omega
    refine ⟨_, rfl, _, _, _, _, rfl, rfl, SqL.of hp1, g2, rfl, _, rfl, ?_⟩
    by_cases c : (kindsOf w).count 2 = 0
    · refine if_true_of ((dz _).trans (decide_eq_true c)) ?_
      refine ⟨_, rfl, _, _, _, _, rfl, rfl, SqL.of hp1, g3, rfl, ?_⟩
      rw [decide_eq_true c, Bool.true_and] at q1
      rw [dz]
      exact q1
    · refine if_false_of ((dz _).trans (decide_eq_false c)) ?_
      rw [decide_eq_false c, Bool.false_and] at q1
      exact q1
theorem scAgain : FnScope ["word", "k"] ["word"] (defScope sAgain) := ⟨rfl, rfl, rfl, by decide +kernel, rfl, by decide +kernel, by decide +kernel⟩
theorem ok_again (O : Own mg) (F : At K mg "again" sAgain ["word"]) (L : Df P wo K mg base 1 "later" ["word", "k"] spLater) : Df P wo K mg base 2 "again" ["word"] spAgain := by
  refine F.ok scAgain (fun vs H Q E h => ?_) (fun f cdv A outer s H vs Q E hr h => ?_)
  · obtain ⟨a, w, rfl, _⟩ := h
    rfl
  · obtain ⟨a, w, rfl, ha, hw, q⟩ := h
    refine ⟨_, pss_one (ps_ret (pe_callB (cr_min rfl) (by rfl) O.min (by decide +kernel) (pa_cons (pe_lc (own := [("k", 1)]) (g := gName 1) (tt := tTest (tOp rEqW (tCall spLater [] E0 (tCons (tVar 0) (tCons (tVar 1) tNil))) (tVar 0))) (te := tVar 1) rfl scAgain.nd
        (pi_range2 (by rfl) O.range (pa_cons pe_int (pa_cons (pe_op op_add (pe_callB cr_lenQ (by rfl) O.len PySem.boot_len (pa_cons (pv 0) pa_nil)) pe_int) pa_nil)))
        (blkOk_by (N := ["word", "k"]) (sc := defScope sAgain) (by decide +kernel)) (fun _ _ _ _ _ => pg_name (i := 1) scAgain.nd rfl (Or.inl rfl))
        (fun _ _ _ _ _ => pts_one (pt_cmpR (op_eqW hr.units) (pe_df L hr rfl (pa_cons (pv 0) (pa_cons (pv 1) pa_nil))) (pv 0) (by with_unfolding_all rfl)))
        (fun _ _ _ _ _ => pv 1)) pa_nil))), ?_⟩
    have hn := hw.lo
    have hn10 := hw.hi
    refine ⟨_, rfl, a, _, rfl, .inl (SqL.of ha), _, _, rfl, rfl, 1, _, rfl, ?_⟩
    rw [iv_len]
    refine ⟨⟨by omega, by omega, by omega, by omega⟩, fun D nD => ?_⟩
    have en : ((w.length : Int) + 1 - 1).toNat = w.length := by omega
    rw [en]
    refine lc_range (lo := 1) (n := w.length) (fun i H' => H' D = some (.lst (iv (agains w i))) ∧ Same H H') ⟨upd_same, Same.new nD⟩ ?_ ?_
    · rintro i H' hi ⟨hD, sm⟩
      have ei : (1 : Int) + (i : Int) = ((i + 1 : Nat) : Int) := by omega
      rw [ei]
      refine ⟨rfl, ?_⟩
      refine ⟨_, rfl, _, rfl, a, w, i + 1, rfl, sm a _ ha, hn10, fun H1 p1 sm1 np1 hp1 => ?_⟩
      refine ⟨_, rfl, p1, a, _, w, rfl, rfl, hp1, sm1 a _ (sm a _ ha), _, rfl, ?_⟩
      have hD1 := sm1 D _ hD
      by_cases c : Kqi2.begun w (i + 1) = w
      · refine if_true_of (decide_eq_true c) ?_
        have hl := agains_len w i
        refine ⟨_, rfl, _, hD1, by rw [iv_len]; exact small1000 (by omega), ?_, fun b o e => ?_⟩
        · rw [upd_same, agains_yes c, iv_app]
          rfl
        · rw [upd_ne (ne_of_none e nD)]
          exact sm1 b o (sm b o e)
      · refine if_false_of (decide_eq_false c) ⟨?_, sm.trans sm1⟩
        rw [agains_no c]
        exact hD1
    · rintro H' ⟨hD, sm⟩
      have hmem : w.length ∈ agains w w.length := agains_mem.mpr ⟨by omega, by omega, begun_all w⟩
      refine ⟨D, up (agains w w.length), rfl, SqL.of (by rw [up_iv]; exact hD), by rw [up_len]; exact List.length_pos_of_mem hmem, fun m hm hle => ?_⟩
      obtain ⟨n, hn2, rfl⟩ := List.mem_map.mp hm
      have e := again_min hn2 fun y hy => by
        have := hle (y : Int) (List.mem_map.mpr ⟨y, hy, rfl⟩)
        omega
      rw [← e]
      exact q H' sm
end
end Lw

set_option Elab.async false
set_option linter.all false
set_option maxRecDepth 100000
set_option maxHeartbeats 4000000
namespace Lw
open PySem PySem.Spec PyProof.Rows L2
open PySem.W (Codec)
abbrev sHeld : Stmt := top 24
abbrev sInit : Stmt := inClass (top 24) 0
abbrev sTell : Stmt := top 25
abbrev sChange : Stmt := top 26
def spIsWord : Sp := fun vs H Q _ => ∃ (a : Addr) (r : List Nat), vs = [.ref a] ∧ H a = some (.lst (iv r)) ∧ r.length ≤ 60 ∧ ∀ H', Same H H' → Q (.bl (Kqi2.isWord Kqi2.STEPS r)) H'
def spTell : Sp := fun vs H Q _ => ∃ (a : Addr) (w : List Nat), vs = [.ref a] ∧ H a = some (.lst (iv w)) ∧ w.length ≤ 100 ∧ gives H Q (w.length :: w)
theorem le_one (q : Nat) : decide (q = 0 ∨ q = 1) = decide (q ≤ 1) := by
  by_cases h : q ≤ 1
  · rw [decide_eq_true h, decide_eq_true (by omega : q = 0 ∨ q = 1)]
  · rw [decide_eq_false h, decide_eq_false (by omega : ¬ (q = 0 ∨ q = 1))]
section
variable {P : Program} {wo : World} {K : PySem.W.Frag} {mg : Str → Option Value} {base : Heap}
theorem scIsWord : FnScope ["row", "step"] ["row"] (defScope sIsWord) := ⟨rfl, rfl, rfl, by decide +kernel, rfl, by decide +kernel, by decide +kernel⟩
theorem ok_isWord (O : Own mg) (C : Cons mg) (F : At K mg "is_word" sIsWord ["row"]) : Df P wo K mg base 1 "is_word" ["row"] spIsWord := by
  refine F.ok scIsWord (fun vs H Q E h => ?_) (fun f cdv A outer s H vs Q E hr h => ?_)
  · obtain ⟨a, w, rfl, _⟩ := h
    rfl
  · obtain ⟨a, r, rfl, ha, hl, q⟩ := h
    obtain ⟨t, hk⟩ := C.most
    refine ⟨_, pss_cons (ps_if (PW.pt (pw_or (pt_cmpR op_lt (pe_callB call_len_seq (by rfl) O.len PySem.boot_len (pa_cons (pv 0) pa_nil)) pe_int (nomark _))
        (pw_or1 (pt_cmpR op_gt (pe_callB call_len_seq (by rfl) O.len PySem.boot_len (pa_cons (pv 0) pa_nil)) (pe_glob (v := .int 10) rfl hk ⟨_, rfl⟩) (nomark _))))) (pss_one (ps_ret pe_bl)) pss_nil)
      (pss_one (ps_ret (pe_callB (cr_all rfl) (by rfl) O.all (by decide +kernel) (pa_cons (pe_lc (own := [("step", 1)]) (g := gName 1) (tt := tYes) (te := tOp (rIn K false) (tVar 1) (tTup (tCons (tC (.int 0)) (tCons (tC (.int 1)) tNil)))) rfl scIsWord.nd (pi_list (pv 0))
        (blkOk_by (N := ["row", "step"]) (sc := defScope sIsWord) (by decide +kernel)) (fun _ _ _ _ _ => pg_name (i := 1) scIsWord.nd rfl (Or.inl rfl)) (fun _ _ _ _ _ => pts_nil)
        (fun _ _ _ _ _ => pe_cmpR op_in_seq (pv 1) (pe_tup (pa_cons pe_int (pa_cons pe_int pa_nil))) (by with_unfolding_all rfl))) pa_nil)))), ?_⟩
    refine ⟨_, rfl, _, _, rfl, .inl (SqL.of ha), _, _, rfl, rfl, _, rfl, ?_⟩
    rw [iv_len]
    have fin : 1 ≤ r.length → r.length ≤ 10 → tRet (tCB (rAll K) (tCons (tLc (iList K (tVar 0)) (gName 1) tYes (tOp (rIn K false) (tVar 1) (tTup (tCons (tC (.int 0)) (tCons (tC (.int 1)) tNil)))) [1]) tNil)) { nx := fun _ H' => Q .non H', rt := Q } [some (.ref a), none] H := by
      intro h1 h2
      refine ⟨_, rfl, a, rfl, ⟨_, SqL.of ha⟩, fun D nD => ?_⟩
      refine lc_list (K := K) (a := a) (xs := iv r) (fun i H' => H' D = some (.lst (((r.take i).map fun x => decide (x ≤ 1)).map V.bl)) ∧ Same H H') ⟨upd_same, Same.new nD⟩ (fun i H' _ hp => SqL.of (hp.2 a _ ha)) ?_ ?_
      · rintro i x H' hx ⟨hD, sm⟩
        obtain ⟨n, hn, rfl⟩ := iv_get hx
        refine ⟨rfl, yes_of (if_true_of rfl ?_)⟩
        refine ⟨_, rfl, size_ok (by show 2 ≤ 1000; omega), fun p np => ?_⟩
        have hD2 : upd H' p (.tup [.int 0, .int 1]) D = some (.lst (((r.take i).map fun x => decide (x ≤ 1)).map V.bl)) := by rw [upd_ne (ne_of_none hD np)]; exact hD
        refine ⟨_, _, rfl, .inr (SqT.of upd_same), rfl, rfl, _, hD2, ?_, ?_, fun b o e => ?_⟩
        · rw [List.length_map, List.length_map, List.length_take]
          exact small1000 (by omega)
        · have e := in_two (q := n) (a := 0) (b := 1)
          rw [upd_same]
          have e1 : r.take (i + 1) = r.take i ++ [n] := by
            rw [List.take_add_one, hn]
            rfl
          rw [e1, List.map_append, List.map_append]
          have e2 : inV (.int (n : Int)) [.int 0, .int 1] = decide (n ≤ 1) := e.trans (le_one n)
          show some (HO.lst (_ ++ [V.bl (inV (.int (n : Int)) [.int 0, .int 1])])) = _
          rw [e2]
          rfl
        · have e1 := sm b o e
          rw [upd_ne (ne_of_none e nD), upd_ne (ne_of_none e1 np)]
          exact e1
      · rintro H' ⟨hD, sm⟩
        rw [iv_len, List.take_length] at hD
        refine ⟨_, _, rfl, SqL.of hD, ?_⟩
        have e : ((r.map fun x => decide (x ≤ 1)).all id) = Kqi2.isWord Kqi2.STEPS r := by
          unfold Kqi2.isWord Kqi2.STEPS
          rw [decide_eq_true h1, decide_eq_true h2, List.all_map]
          rfl
        rw [e]
        exact q H' sm
    by_cases c1 : r.length < 1
    · refine if_true_of (decide_eq_true (by omega : (r.length : Int) < 1)) (if_true_of rfl ?_)
      have e : Kqi2.isWord Kqi2.STEPS r = false := by
        unfold Kqi2.isWord
        rw [decide_eq_false (by omega : ¬ 1 ≤ r.length)]
        rfl
      have := q H (Same.refl H)
      rw [e] at this
      exact this
    · refine if_false_of (decide_eq_false (by omega : ¬ (r.length : Int) < 1)) ?_
      refine ⟨_, rfl, _, _, rfl, .inl (SqL.of ha), _, _, rfl, rfl, _, rfl, ?_⟩
      rw [iv_len]
      by_cases c2 : 10 < r.length
      · refine if_true_of (decide_eq_true (by omega : (10 : Int) < (r.length : Int))) ?_
        have e : Kqi2.isWord Kqi2.STEPS r = false := by
          unfold Kqi2.isWord Kqi2.STEPS
          rw [decide_eq_false (by omega : ¬ r.length ≤ 10), Bool.and_false]
          rfl
        have := q H (Same.refl H)
        rw [e] at this
        exact this
      · refine if_false_of (decide_eq_false (by omega : ¬ (10 : Int) < (r.length : Int))) ?_
        exact fin (by omega) (by omega)
theorem scTell : FnScope ["row"] ["row"] (defScope sTell) := ⟨rfl, rfl, rfl, by decide +kernel, rfl, by decide +kernel, by decide +kernel⟩
theorem ok_tell (O : Own mg) (F : At K mg "tell" sTell ["row"]) : Df P wo K mg base 1 "tell" ["row"] spTell := by
  refine F.ok scTell (fun vs H Q E h => ?_) (fun f cdv A outer s H vs Q E hr h => ?_)
  · obtain ⟨a, w, rfl, _⟩ := h
    rfl
  · obtain ⟨a, w, rfl, ha, hw, q⟩ := h
    refine ⟨_, pss_one (ps_ret (pe_op op_cat (pe_lst (pa_cons (pe_callB call_len_seq (by rfl) O.len PySem.boot_len (pa_cons (pv 0) pa_nil)) pa_nil)) (pv 0))), ?_⟩
    refine ⟨_, rfl, _, _, rfl, .inl (SqL.of ha), size_ok (by show 1 ≤ 1000; omega), fun p np => ?_⟩
    rw [iv_len] at *
    have s1 := Same.new (o := .lst [V.int (w.length : Int)]) np
    refine ⟨_, rfl, _, _, _, _, rfl, rfl, upd_same, s1 a _ ha, size_ok (by show 1 + _ ≤ 1000; rw [iv_len]; omega), fun p2 np2 => ?_⟩
    refine q _ p2 (s1.new' np2) (s1.free np2) ?_
    rw [upd_same]
    rfl
end
end Lw

set_option Elab.async false
set_option linter.all false
set_option maxRecDepth 100000
set_option maxHeartbeats 4000000
namespace Lw
open PySem PySem.Spec PyProof.Rows L2
open PySem.W (Codec)
/-! ### The object -/
def hF (v : V) : List (Str × V) := [("word", v)]
def HeldAt (C : Addr) (H : Hp) (a : Addr) (v : V) : Prop := ∃ dx, H a = some (.ins C dx (hF v))
def WordIs (H : Hp) (v : V) : Option (List Nat) → Prop
  | none => v = .non
  | some w => Wd w ∧ ∃ p, v = .ref p ∧ H p = some (.lst (iv w))
theorem hF_word (v : V) : (hF v).lookup ("word" : Str) = some v := by
  have e : (("word" : Str) == ("word" : Str)) = true := beq_self_eq_true _
  simp only [hF, List.lookup, e]
theorem hF_put (v y : V) : putF "word" y (hF v) = hF y := if_pos rfl
theorem hF_new (y : V) : putF "word" y [] = hF y := rfl
/-- what the top has written of the class -/
structure Cl (K : PySem.W.Frag) (C : Addr) : Prop where
  cl : Cls K C
  nW : NoAttr K C "word"
/-- constants of the calls' module -/
structure Cons2 (mg : Str → Option Value) : Prop where
  noStep : ∃ t, mg "NO_SUCH" = some (.int (-2) t)
  noWord : ∃ t, mg "NO_WORD" = some (.int (-11) t)
  notAs : ∃ t, mg "NOT_AS_TOLD" = some (.int (-22) t)
  notAlike : ∃ t, mg "NOT_ALIKE" = some (.int (-33) t)
/-- all but the object stands -/
def But (h : Addr) (H H' : Hp) : Prop := ∀ b o, H b = some o → b ≠ h → H' b = some o
theorem But.of {h : Addr} {H H' : Hp} (s : Same H H') : But h H H' := fun b o e _ => s b o e
theorem But.trans {h : Addr} {H H1 H2 : Hp} (a : But h H H1) (b : But h H1 H2) : But h H H2 := fun c o e n => b c o (a c o e n) n
/-- a call is answered: the object's value behind it, the state, the numbers -/
def answered (C : Addr) (H : Hp) (h : Addr) (v : V) (Q : VK) (s' : Option (List Nat)) (ans : List Int) : Prop :=
  ∀ (H' : Hp) (r : Addr) (v' : V), HeldAt C H' h v' → WordIs H' v' s' → (v' = v ∨ ∃ p, v' = .ref p ∧ H p = none) → But h H H' → H r = none → H' r = some (.lst (ans.map V.int)) → Q (.ref r) H'
def spCall (C : Addr) (p : Int) : Sp := fun vs H Q _ => ∃ (h a : Addr) (s : Option (List Nat)) (v : V) (c : List (List Int)) (told : List Int), vs = [.ref h, .ref a] ∧ HeldAt C H h v ∧ WordIs H v s ∧ H a = some (.lst (told.map V.int)) ∧ CallIs c p told ∧ (p = 0 ∨ s ≠ none) ∧
  answered C H h v Q (Kqi2Neutral.step s c).1 (Kqi2Neutral.step s c).2
def spInit (C : Addr) : Sp := fun vs H Q _ => ∃ (p dx : Addr), vs = [.ref p] ∧ H p = some (.ins C dx []) ∧ ∀ H' : Hp, HeldAt C H' p .non → But p H H' → Q .non H'
def spChange (C : Addr) : Sp := fun vs H Q _ => ∃ (h a : Addr) (v : V) (w : List Nat), vs = [.ref h, .ref a] ∧ HeldAt C H h v ∧ H a = some (.lst (iv w)) ∧ w.length ≤ 10 ∧
  ∀ (H' : Hp) (r : Addr), HeldAt C H' h (.ref a) → But h H H' → H r = none → H' r = some (.lst (iv (w.length :: w))) → Q (.ref r) H'
theorem told_nat {told : List Int} (h : ∀ z ∈ told, 0 ≤ z) : told.map V.int = iv (told.map Int.toNat) := by
  unfold iv
  rw [List.map_map]
  refine List.map_congr_left fun z hz => ?_
  have := h z hz
  show V.int z = V.int ((z.toNat : Nat) : Int)
  rw [Int.toNat_of_nonneg this]
theorem iv_up (w : List Nat) : iv w = (w.map fun (x : Nat) => (x : Int)).map V.int := by simp [iv]
/-- a new list is apart from the object -/
theorem apart {C : Addr} {H : Hp} {h b : Addr} {v : V} {xs : List V} (hh : HeldAt C H h v) (e : H b = some (.lst xs)) : b ≠ h := by
  obtain ⟨dx, hh⟩ := hh
  exact ne_of e hh (fun z => by cases z)
section
variable {P : Program} {wo : World} {K : PySem.W.Frag} {mg : Str → Option Value} {base : Heap} {C : Addr}
theorem scInit : FnScope ["self"] ["self"] (defScope sInit) := ⟨rfl, rfl, rfl, by decide +kernel, rfl, by decide +kernel, by decide +kernel⟩
theorem ok_init {f : Addr} {fd : FuncData} (F : Fun K "__init__" "Held.__init__" sInit f fd) (T : Cl K C) : FnOk P wo K mg base CX0 1 f fd ["self"] (spInit C) := by
  refine F.ok scInit (fun vs H Q E h => ?_) (fun cdv A outer s H vs Q E hr h => ?_)
  · obtain ⟨p, dx, rfl, _⟩ := h
    rfl
  · obtain ⟨p, dx, rfl, hp, q⟩ := h
    refine ⟨_, pss_one (ps_fld (pv 0) pe_non rfl), ?_⟩
    refine ⟨_, rfl, p, C, dx, [], rfl, hp, T.cl, T.nW, (by show 0 < 1000; decide), ?_⟩
    exact q _ ⟨dx, upd_same⟩ fun b o e hb => by
      rw [upd_ne hb]
      exact e
theorem scChange : FnScope ["held", "word"] ["held", "word"] (defScope sChange) := ⟨rfl, rfl, rfl, by decide +kernel, rfl, by decide +kernel, by decide +kernel⟩
theorem ok_change (T : Cl K C) (F : At K mg "change" sChange ["held", "word"]) (Te : Df P wo K mg base 1 "tell" ["row"] spTell) : Df P wo K mg base 2 "change" ["held", "word"] (spChange C) := by
  refine F.ok scChange (fun vs H Q E h => ?_) (fun f cdv A outer s H vs Q E hr h => ?_)
  · obtain ⟨h, a, v, w, rfl, _⟩ := h
    rfl
  · obtain ⟨h, a, v, w, rfl, hh, ha, hw, q⟩ := h
    refine ⟨_, pss_cons (ps_fld (pv 0) (pv 1) rfl) (pss_one (ps_ret (pe_df Te hr rfl (pa_cons (pv 1) pa_nil)))), ?_⟩
    have hne := apart hh ha
    obtain ⟨dx, hd⟩ := hh
    refine ⟨_, rfl, _, rfl, h, C, dx, _, rfl, hd, T.cl, T.nW, (by show 1 < 1000; decide), ?_⟩
    rw [hF_put]
    have ha2 : upd H h (.ins C dx (hF (.ref a))) a = some (.lst (iv w)) := by rw [upd_ne hne]; exact ha
    have bt : But h H (upd H h (.ins C dx (hF (.ref a)))) := fun b o e hb => by rw [upd_ne hb]; exact e
    refine ⟨_, rfl, a, w, rfl, ha2, by omega, fun H' r sm nr hr2 => ?_⟩
    refine q H' r ⟨dx, sm h _ upd_same⟩ (bt.trans (But.of sm)) ?_ hr2
    by_cases e : r = h
    · rw [e, upd_same] at nr
      cases nr
    · rw [upd_ne e] at nr
      exact nr
end
end Lw

set_option Elab.async false
set_option linter.all false
set_option maxRecDepth 100000
set_option maxHeartbeats 4000000
namespace Lw
open PySem PySem.Spec PyProof.Rows L2
open PySem.W (Codec)
abbrev sAStart : Stmt := top 27
abbrev sALater : Stmt := top 28
abbrev sAOpposite : Stmt := top 29
abbrev sABackwards : Stmt := top 30
abbrev sAOver : Stmt := top 31
abbrev sATurn : Stmt := top 32
abbrev sAWay : Stmt := top 33
abbrev sAFirst : Stmt := top 34
abbrev sANames : Stmt := top 35
/-! ### The specification's step, call by call -/
/-- a word told: how many, then they -/
def toldI (l : List Nat) : List Int := up (l.length :: l)
theorem toldI_iv (l : List Nat) : (toldI l).map V.int = iv (l.length :: l) := up_iv _
theorem st_start (s : Option (List Nat)) (r : List Int) : Kqi2Neutral.step s [[0], r] = if Kqi2.isWord Kqi2.STEPS (r.map Int.toNat) = false then (s, [-22]) else (some (r.map Int.toNat), [((r.map Int.toNat).length : Int)]) := by
  show ((Kqi2.step s (.start (r.map Int.toNat))).1, Kqi2Neutral.tell (Kqi2.step s (.start (r.map Int.toNat))).2) = _
  simp only [Kqi2.step]
  split <;> rfl
theorem st_later (w : List Nat) (x : Int) : Kqi2Neutral.step (some w) [[1, x]] = if w.length ≤ x.toNat then (some w, [-22]) else (some (Kqi2.begun w x.toNat), toldI (Kqi2.begun w x.toNat)) := by
  show ((Kqi2.step (some w) (.later x.toNat)).1, Kqi2Neutral.tell (Kqi2.step (some w) (.later x.toNat)).2) = _
  simp only [Kqi2.step]
  split <;> rfl
theorem st_opposite (w : List Nat) : Kqi2Neutral.step (some w) [[2]] = (some (Kqi2.opposite w), toldI (Kqi2.opposite w)) := rfl
theorem st_backwards (w : List Nat) : Kqi2Neutral.step (some w) [[3]] = (some w.reverse, toldI w.reverse) := rfl
theorem st_over (w : List Nat) : Kqi2Neutral.step (some w) [[4]] = (some (Kqi2.opposite w.reverse), toldI (Kqi2.opposite w.reverse)) := rfl
theorem st_turn (w : List Nat) (x : Int) : Kqi2Neutral.step (some w) [[5, x]] = if w.length ≤ x.toNat then (some w, [-2]) else (some (w.set x.toNat (1 - Kqi2.at_ w x.toNat)), toldI (w.set x.toNat (1 - Kqi2.at_ w x.toNat))) := by
  show ((Kqi2.step (some w) (.turn x.toNat)).1, Kqi2Neutral.tell (Kqi2.step (some w) (.turn x.toNat)).2) = _
  simp only [Kqi2.step]
  split <;> rfl
theorem st_way (w : List Nat) (x : Int) : Kqi2Neutral.step (some w) [[6, x]] = if 4 * w.length ≤ x.toNat then (some w, [-22]) else (some w, toldI (Kqi2.way w x.toNat)) := by
  show ((Kqi2.step (some w) (.way x.toNat)).1, Kqi2Neutral.tell (Kqi2.step (some w) (.way x.toNat)).2) = _
  simp only [Kqi2.step]
  split <;> rfl
theorem st_first (w : List Nat) : Kqi2Neutral.step (some w) [[7]] = (some w, toldI (Kqi2.first w)) := rfl
theorem st_names (w : List Nat) : Kqi2Neutral.step (some w) [[8]] = (some w, [((Kqi2.names w).length : Int)]) := rfl
/-! ### What a call tells -/
theorem is_num {c : List (List Int)} {p : Int} {told : List Int} (h : CallIs c p told) (hp : p = 1 ∨ p = 5 ∨ p = 6 ∨ p = 9) : ∃ k : Nat, c = [[p, (k : Int)]] ∧ told = [(k : Int)] := by
  cases h with
  | row hq _ _ => omega
  | @num p x hq hx => exact ⟨x.toNat, by rw [Int.toNat_of_nonneg hx.1], by rw [Int.toNat_of_nonneg hx.1]⟩
  | bare hq => omega
theorem is_bare {c : List (List Int)} {p : Int} {told : List Int} (h : CallIs c p told) (hp : p = 2 ∨ p = 3 ∨ p = 4 ∨ p = 7 ∨ p = 8 ∨ p = 11 ∨ p = 12 ∨ p = 14 ∨ p = 15 ∨ p = 16 ∨ p = 17) : c = [[p]] ∧ told = [] := by
  cases h with
  | row hq _ _ => omega
  | num hq hx => omega
  | bare hq => exact ⟨rfl, rfl⟩
theorem is_row {c : List (List Int)} {p : Int} {told : List Int} (h : CallIs c p told) (hp : p = 0 ∨ p = 10 ∨ p = 13) : c = [[p], told] ∧ (∀ z ∈ told, 0 ≤ z) ∧ told.length ≤ 60 := by
  cases h with
  | row hq hr hl => exact ⟨rfl, fun z hz => (hr z hz).1, hl⟩
  | num hq hx => omega
  | bare hq => omega
/-! ### Ends -/
/-- nothing is changed: a new list of numbers -/
theorem answered.plain {C : Addr} {H : Hp} {h : Addr} {v : V} {Q : VK} {w : List Nat} {ans : List Int} (q : answered C H h v Q (some w) ans) (hh : HeldAt C H h v) (hw : WordIs H v (some w)) {H' : Hp} {r : Addr} (sm : Same H H') (nr : H r = none) (e : H' r = some (.lst (ans.map V.int))) : Q (.ref r) H' := by
  obtain ⟨dx, hd⟩ := hh
  obtain ⟨h1, p, h2, h3⟩ := hw
  exact q H' r v ⟨dx, sm h _ hd⟩ ⟨h1, p, h2, sm p _ h3⟩ (.inl rfl) (But.of sm) nr e
/-- a refusal, or another answer of one number -/
theorem answered.one {C : Addr} {H : Hp} {h : Addr} {v : V} {Q : VK} {s : Option (List Nat)} {z : Int} (q : answered C H h v Q s [z]) (hh : HeldAt C H h v) (hw : WordIs H v s) {r : Addr} {H1 : Hp} (sm : Same H H1) (nr : H1 r = none) : Q (.ref r) (upd H1 r (.lst [V.int z])) := by
  obtain ⟨dx, hd⟩ := hh
  have s1 := sm.new' (o := .lst [V.int z]) nr
  refine q _ r v ⟨dx, s1 h _ hd⟩ ?_ (.inl rfl) (But.of s1) (sm.free nr) upd_same
  cases s with
  | none => exact hw
  | some w =>
    obtain ⟨h1, p, h2, h3⟩ := hw
    exact ⟨h1, p, h2, s1 p _ h3⟩
/-- the word is changed to what a def gave -/
theorem answered.changed {C : Addr} {H : Hp} {h : Addr} {v : V} {Q : VK} {w : List Nat} (q : answered C H h v Q (some w) (toldI w)) (hh : HeldAt C H h v) (hw : Wd w) {H1 : Hp} {a : Addr} (sm : Same H H1) (na : H a = none) (ea : H1 a = some (.lst (iv w))) :
    spChange C [.ref h, .ref a] H1 Q E0 := by
  obtain ⟨dx, hd⟩ := hh
  have hh1 : HeldAt C H1 h v := ⟨dx, sm h _ hd⟩
  refine ⟨h, a, v, w, rfl, hh1, ea, hw.hi, fun H' r h1 bt nr er => ?_⟩
  refine q H' r (.ref a) h1 ⟨hw, a, rfl, bt a _ ea (apart hh1 ea)⟩ (.inr ⟨a, rfl, na⟩) (fun b o e n => bt b o (sm b o e) n) (sm.free nr) ?_
  rw [toldI_iv]
  exact er
section
variable {P : Program} {wo : World} {K : PySem.W.Frag} {mg : Str → Option Value} {base : Heap} {C : Addr}
/-- held, told -/
abbrev HT2 : List Str := ["held", "told"]
theorem len_call {p : Int} (vs : List V) (H : Hp) (Q : VK) (E : XK) (h : spCall C p vs H Q E) : vs.length = HT2.length := by
  obtain ⟨h, a, s, v, c, told, rfl, _⟩ := h
  rfl
theorem scALater : FnScope HT2 HT2 (defScope sALater) := ⟨rfl, rfl, rfl, by decide +kernel, rfl, by decide +kernel, by decide +kernel⟩
theorem ok_aLater (O : Own mg) (T : Cl K C) (C2 : Cons2 mg) (F : At K mg "answer_later" sALater HT2) (Ch : Df P wo K mg base 2 "change" ["held", "word"] (spChange C)) (La : Df P wo K mg base 1 "later" ["word", "k"] spLater) :
    Df P wo K mg base 3 "answer_later" HT2 (spCall C 1) := by
  refine F.ok scALater len_call (fun f cdv A outer s0 H vs Q E hr h => ?_)
  obtain ⟨h, a, s, v, c, told, rfl, hh, hw, ha, hc, hs, q⟩ := h
  obtain ⟨t, hk⟩ := C2.notAs
  refine ⟨_, pss_cons (ps_if (pt_cmpR op_ge (pe_ix ix_list (pv 1) pe_int (fun _ _ => rfl)) (pe_callB call_len_seq (by rfl) O.len PySem.boot_len (pa_cons (pe_fld (pv 0) rfl) pa_nil)) (nomark _)) (pss_one (ps_ret (pe_lst (pa_cons (pe_glob (v := .int (-22)) rfl hk ⟨_, rfl⟩) pa_nil)))) pss_nil)
    (pss_one (ps_ret (pe_df Ch hr rfl (pa_cons (pv 0) (pa_cons (pe_df La (hr.mono (by decide)) rfl (pa_cons (pe_fld (pv 0) rfl) (pa_cons (pe_ix ix_list (pv 1) pe_int (fun _ _ => rfl)) pa_nil))) pa_nil))))), ?_⟩
  obtain ⟨k, rfl, rfl⟩ := is_num hc (by omega)
  cases s with
  | none => exact absurd rfl (hs.resolve_left (by decide))
  | some w =>
    have hw0 := hw
    obtain ⟨wd, p, rfl, hp⟩ := hw
    have hh0 := hh
    obtain ⟨dx, hd⟩ := hh
    have hat : atI ([(k : Int)].map V.int) (0 : Int) = some (V.int (k : Int)) := rfl
    refine ⟨_, rfl, _, _, _, _, rfl, rfl, SqL.of ha, hat, _, rfl, h, C, dx, _, _, rfl, hd, T.cl, T.nW, hF_word _, _, _, rfl, .inl (SqL.of hp), _, _, rfl, rfl, _, rfl, ?_⟩
    rw [iv_len]
    rw [st_later] at q
    by_cases c1 : w.length ≤ k
    · refine if_true_of (decide_eq_true (by omega : (w.length : Int) ≤ (k : Int))) ?_
      rw [if_pos (by rw [Int.toNat_natCast]; exact c1)] at q
      exact ⟨size_ok (by show 1 ≤ 1000; omega), fun r nr => q.one hh0 hw0 (Same.refl H) nr⟩
    · refine if_false_of (decide_eq_false (by omega : ¬ (w.length : Int) ≤ (k : Int))) ?_
      rw [if_neg (by rw [Int.toNat_natCast]; exact c1), Int.toNat_natCast] at q
      refine ⟨_, rfl, _, rfl, h, C, dx, _, _, rfl, hd, T.cl, T.nW, hF_word _, _, rfl, _, _, _, _, rfl, rfl, SqL.of ha, hat, p, w, k, rfl, hp, wd.hi, fun H1 p1 sm1 np1 hp1 => ?_⟩
      exact q.changed hh0 (wd_begun wd (by omega)) sm1 np1 hp1
theorem scAOpposite : FnScope HT2 HT2 (defScope sAOpposite) := ⟨rfl, rfl, rfl, by decide +kernel, rfl, by decide +kernel, by decide +kernel⟩
theorem ok_aOpposite (T : Cl K C) (F : At K mg "answer_opposite" sAOpposite HT2) (Ch : Df P wo K mg base 2 "change" ["held", "word"] (spChange C)) (Op : Df P wo K mg base 1 "opposite" ["word"] spOpposite) :
    Df P wo K mg base 3 "answer_opposite" HT2 (spCall C 2) := by
  refine F.ok scAOpposite len_call (fun f cdv A outer s0 H vs Q E hr h => ?_)
  obtain ⟨h, a, s, v, c, told, rfl, hh, hw, ha, hc, hs, q⟩ := h
  refine ⟨_, pss_one (ps_ret (pe_df Ch hr rfl (pa_cons (pv 0) (pa_cons (pe_df Op (hr.mono (by decide)) rfl (pa_cons (pe_fld (pv 0) rfl) pa_nil)) pa_nil)))), ?_⟩
  obtain ⟨rfl, rfl⟩ := is_bare hc (by omega)
  cases s with
  | none => exact absurd rfl (hs.resolve_left (by decide))
  | some w =>
    obtain ⟨wd, p, rfl, hp⟩ := hw
    have hh0 := hh
    obtain ⟨dx, hd⟩ := hh
    refine ⟨_, rfl, _, rfl, h, C, dx, _, _, rfl, hd, T.cl, T.nW, hF_word _, p, w, rfl, hp, wd.hi, wd.b, fun H1 p1 sm1 np1 hp1 => ?_⟩
    exact answered.changed (w := Kqi2.opposite w) q hh0 (wd_opposite wd) sm1 np1 hp1
theorem scABackwards : FnScope HT2 HT2 (defScope sABackwards) := ⟨rfl, rfl, rfl, by decide +kernel, rfl, by decide +kernel, by decide +kernel⟩
theorem ok_aBackwards (T : Cl K C) (F : At K mg "answer_backwards" sABackwards HT2) (Ch : Df P wo K mg base 2 "change" ["held", "word"] (spChange C)) (B : Df P wo K mg base 1 "backwards" ["word"] spBackwards) :
    Df P wo K mg base 3 "answer_backwards" HT2 (spCall C 3) := by
  refine F.ok scABackwards len_call (fun f cdv A outer s0 H vs Q E hr h => ?_)
  obtain ⟨h, a, s, v, c, told, rfl, hh, hw, ha, hc, hs, q⟩ := h
  refine ⟨_, pss_one (ps_ret (pe_df Ch hr rfl (pa_cons (pv 0) (pa_cons (pe_df B (hr.mono (by decide)) rfl (pa_cons (pe_fld (pv 0) rfl) pa_nil)) pa_nil)))), ?_⟩
  obtain ⟨rfl, rfl⟩ := is_bare hc (by omega)
  cases s with
  | none => exact absurd rfl (hs.resolve_left (by decide))
  | some w =>
    obtain ⟨wd, p, rfl, hp⟩ := hw
    have hh0 := hh
    obtain ⟨dx, hd⟩ := hh
    refine ⟨_, rfl, _, rfl, h, C, dx, _, _, rfl, hd, T.cl, T.nW, hF_word _, p, w, rfl, hp, wd.hi, fun H1 p1 sm1 np1 hp1 => ?_⟩
    exact answered.changed (w := w.reverse) q hh0 (wd_rev wd) sm1 np1 hp1
theorem scAOver : FnScope HT2 HT2 (defScope sAOver) := ⟨rfl, rfl, rfl, by decide +kernel, rfl, by decide +kernel, by decide +kernel⟩
theorem ok_aOver (T : Cl K C) (F : At K mg "answer_over" sAOver HT2) (Ch : Df P wo K mg base 2 "change" ["held", "word"] (spChange C)) (B : Df P wo K mg base 2 "over" ["word"] spOver) :
    Df P wo K mg base 3 "answer_over" HT2 (spCall C 4) := by
  refine F.ok scAOver len_call (fun f cdv A outer s0 H vs Q E hr h => ?_)
  obtain ⟨h, a, s, v, c, told, rfl, hh, hw, ha, hc, hs, q⟩ := h
  refine ⟨_, pss_one (ps_ret (pe_df Ch hr rfl (pa_cons (pv 0) (pa_cons (pe_df B hr rfl (pa_cons (pe_fld (pv 0) rfl) pa_nil)) pa_nil)))), ?_⟩
  obtain ⟨rfl, rfl⟩ := is_bare hc (by omega)
  cases s with
  | none => exact absurd rfl (hs.resolve_left (by decide))
  | some w =>
    obtain ⟨wd, p, rfl, hp⟩ := hw
    have hh0 := hh
    obtain ⟨dx, hd⟩ := hh
    refine ⟨_, rfl, _, rfl, h, C, dx, _, _, rfl, hd, T.cl, T.nW, hF_word _, p, w, rfl, hp, wd.hi, wd.b, fun H1 p1 sm1 np1 hp1 => ?_⟩
    exact answered.changed (w := Kqi2.opposite w.reverse) q hh0 (wd_opposite (wd_rev wd)) sm1 np1 hp1
theorem scATurn : FnScope HT2 HT2 (defScope sATurn) := ⟨rfl, rfl, rfl, by decide +kernel, rfl, by decide +kernel, by decide +kernel⟩
theorem ok_aTurn (O : Own mg) (T : Cl K C) (C2 : Cons2 mg) (F : At K mg "answer_turn" sATurn HT2) (Ch : Df P wo K mg base 2 "change" ["held", "word"] (spChange C)) (La : Df P wo K mg base 1 "turn" ["word", "i"] spTurn) :
    Df P wo K mg base 3 "answer_turn" HT2 (spCall C 5) := by
  refine F.ok scATurn len_call (fun f cdv A outer s0 H vs Q E hr h => ?_)
  obtain ⟨h, a, s, v, c, told, rfl, hh, hw, ha, hc, hs, q⟩ := h
  obtain ⟨t, hk⟩ := C2.noStep
  refine ⟨_, pss_cons (ps_if (pt_cmpR op_ge (pe_ix ix_list (pv 1) pe_int (fun _ _ => rfl)) (pe_callB call_len_seq (by rfl) O.len PySem.boot_len (pa_cons (pe_fld (pv 0) rfl) pa_nil)) (nomark _)) (pss_one (ps_ret (pe_lst (pa_cons (pe_glob (v := .int (-2)) rfl hk ⟨_, rfl⟩) pa_nil)))) pss_nil)
    (pss_one (ps_ret (pe_df Ch hr rfl (pa_cons (pv 0) (pa_cons (pe_df La (hr.mono (by decide)) rfl (pa_cons (pe_fld (pv 0) rfl) (pa_cons (pe_ix ix_list (pv 1) pe_int (fun _ _ => rfl)) pa_nil))) pa_nil))))), ?_⟩
  obtain ⟨k, rfl, rfl⟩ := is_num hc (by omega)
  cases s with
  | none => exact absurd rfl (hs.resolve_left (by decide))
  | some w =>
    have hw0 := hw
    obtain ⟨wd, p, rfl, hp⟩ := hw
    have hh0 := hh
    obtain ⟨dx, hd⟩ := hh
    have hat : atI ([(k : Int)].map V.int) (0 : Int) = some (V.int (k : Int)) := rfl
    refine ⟨_, rfl, _, _, _, _, rfl, rfl, SqL.of ha, hat, _, rfl, h, C, dx, _, _, rfl, hd, T.cl, T.nW, hF_word _, _, _, rfl, .inl (SqL.of hp), _, _, rfl, rfl, _, rfl, ?_⟩
    rw [iv_len]
    rw [st_turn] at q
    by_cases c1 : w.length ≤ k
    · refine if_true_of (decide_eq_true (by omega : (w.length : Int) ≤ (k : Int))) ?_
      rw [if_pos (by rw [Int.toNat_natCast]; exact c1)] at q
      exact ⟨size_ok (by show 1 ≤ 1000; omega), fun r nr => q.one hh0 hw0 (Same.refl H) nr⟩
    · refine if_false_of (decide_eq_false (by omega : ¬ (w.length : Int) ≤ (k : Int))) ?_
      rw [if_neg (by rw [Int.toNat_natCast]; exact c1), Int.toNat_natCast] at q
      refine ⟨_, rfl, _, rfl, h, C, dx, _, _, rfl, hd, T.cl, T.nW, hF_word _, _, rfl, _, _, _, _, rfl, rfl, SqL.of ha, hat, p, w, k, rfl, hp, wd.hi, wd.b, by omega, fun H1 p1 sm1 np1 hp1 => ?_⟩
      exact q.changed hh0 (wd_turn wd k) sm1 np1 hp1
end
end Lw

set_option Elab.async false
set_option linter.all false
set_option maxRecDepth 100000
set_option maxHeartbeats 4000000
namespace Lw
open PySem PySem.Spec PyProof.Rows L2
open PySem.W (Codec)
section
variable {P : Program} {wo : World} {K : PySem.W.Frag} {mg : Str → Option Value} {base : Heap} {C : Addr}
theorem scAWay : FnScope HT2 HT2 (defScope sAWay) := ⟨rfl, rfl, rfl, by decide +kernel, rfl, by decide +kernel, by decide +kernel⟩
theorem ok_aWay (T : Cl K C) (C2 : Cons2 mg) (F : At K mg "answer_way" sAWay HT2) (N : Df P wo K mg base 1 "number_of_ways" ["word"] spNumber) (W : Df P wo K mg base 2 "way" ["word", "t"] spWay) (Te : Df P wo K mg base 1 "tell" ["row"] spTell) :
    Df P wo K mg base 3 "answer_way" HT2 (spCall C 6) := by
  refine F.ok scAWay len_call (fun f cdv A outer s0 H vs Q E hr h => ?_)
  obtain ⟨h, a, s, v, c, told, rfl, hh, hw, ha, hc, hs, q⟩ := h
  obtain ⟨t, hk⟩ := C2.notAs
  refine ⟨_, pss_cons (ps_if (pt_cmpR op_ge (pe_ix ix_list (pv 1) pe_int (fun _ _ => rfl)) (pe_df N (hr.mono (by decide)) rfl (pa_cons (pe_fld (pv 0) rfl) pa_nil)) (nomark _)) (pss_one (ps_ret (pe_lst (pa_cons (pe_glob (v := .int (-22)) rfl hk ⟨_, rfl⟩) pa_nil)))) pss_nil)
    (pss_one (ps_ret (pe_df Te (hr.mono (by decide)) rfl (pa_cons (pe_df W hr rfl (pa_cons (pe_fld (pv 0) rfl) (pa_cons (pe_ix ix_list (pv 1) pe_int (fun _ _ => rfl)) pa_nil))) pa_nil)))), ?_⟩
  obtain ⟨k, rfl, rfl⟩ := is_num hc (by omega)
  cases s with
  | none => exact absurd rfl (hs.resolve_left (by decide))
  | some w =>
    have hw0 := hw
    obtain ⟨wd, p, rfl, hp⟩ := hw
    have hh0 := hh
    obtain ⟨dx, hd⟩ := hh
    have hat : atI ([(k : Int)].map V.int) (0 : Int) = some (V.int (k : Int)) := rfl
    refine ⟨_, rfl, _, _, _, _, rfl, rfl, SqL.of ha, hat, _, rfl, h, C, dx, _, _, rfl, hd, T.cl, T.nW, hF_word _, p, w, rfl, hp, _, _, rfl, rfl, _, rfl, ?_⟩
    rw [st_way] at q
    by_cases c1 : 4 * w.length ≤ k
    · refine if_true_of (decide_eq_true (by omega : ((4 * w.length : Nat) : Int) ≤ (k : Int))) ?_
      rw [if_pos (by rw [Int.toNat_natCast]; exact c1)] at q
      exact ⟨size_ok (by show 1 ≤ 1000; omega), fun r nr => q.one hh0 hw0 (Same.refl H) nr⟩
    · refine if_false_of (decide_eq_false (by omega : ¬ ((4 * w.length : Nat) : Int) ≤ (k : Int))) ?_
      rw [if_neg (by rw [Int.toNat_natCast]; exact c1), Int.toNat_natCast] at q
      refine ⟨_, rfl, h, C, dx, _, _, rfl, hd, T.cl, T.nW, hF_word _, _, rfl, _, _, _, _, rfl, rfl, SqL.of ha, hat, p, w, k, rfl, hp, wd, by omega, fun H1 p1 sm1 np1 hp1 => ?_⟩
      refine ⟨p1, _, rfl, hp1, by rw [way_len w k wd.lo]; have := wd.hi; omega, fun H2 p2 sm2 np2 hp2 => ?_⟩
      exact q.plain hh0 hw0 (sm1.trans sm2) (sm1.free np2) (by rw [toldI_iv]; exact hp2)
theorem scAStart : FnScope HT2 HT2 (defScope sAStart) := ⟨rfl, rfl, rfl, by decide +kernel, rfl, by decide +kernel, by decide +kernel⟩
theorem ok_aStart (O : Own mg) (T : Cl K C) (C2 : Cons2 mg) (F : At K mg "answer_start" sAStart HT2) (I : Df P wo K mg base 1 "is_word" ["row"] spIsWord) :
    Df P wo K mg base 2 "answer_start" HT2 (spCall C 0) := by
  refine F.ok scAStart len_call (fun f cdv A outer s0 H vs Q E hr h => ?_)
  obtain ⟨h, a, s, v, c, told, rfl, hh, hw, ha, hc, hs, q⟩ := h
  obtain ⟨t, hk⟩ := C2.notAs
  refine ⟨_, pss_cons (ps_if (pt_not (pt_val (pe_df I hr rfl (pa_cons (pv 1) pa_nil)))) (pss_one (ps_ret (pe_lst (pa_cons (pe_glob (v := .int (-22)) rfl hk ⟨_, rfl⟩) pa_nil)))) pss_nil)
    (pss_cons (ps_fld (pv 0) (pe_callTy call_list_of (by rfl) O.list (by decide +kernel) (pa_cons (pv 1) pa_nil)) rfl)
    (pss_one (ps_ret (pe_lst (pa_cons (pe_callB call_len_seq (by rfl) O.len PySem.boot_len (pa_cons (pv 1) pa_nil)) pa_nil))))), ?_⟩
  obtain ⟨rfl, h0, hl⟩ := is_row hc (by omega)
  rw [told_nat h0] at ha
  generalize hr0 : told.map Int.toNat = r at *
  have hlr : r.length ≤ 60 := by rw [← hr0, List.length_map]; exact hl
  rw [st_start, hr0] at q
  refine ⟨_, rfl, a, r, rfl, ha, hlr, fun H1 sm1 => ⟨_, rfl, ?_⟩⟩
  have hh0 := hh
  obtain ⟨dx, hd⟩ := hh
  cases e : Kqi2.isWord Kqi2.STEPS r with
  | false =>
    rw [if_pos e] at q
    refine if_true_of rfl ?_
    exact ⟨size_ok (by show 1 ≤ 1000; omega), fun r nr => q.one hh0 hw sm1 nr⟩
  | true =>
    rw [if_neg (by rw [e]; exact Bool.noConfusion)] at q
    refine if_false_of rfl ?_
    have wd := isWord_iff.mp e
    have ha1 := sm1 a _ ha
    refine ⟨_, rfl, _, _, rfl, .inl (SqL.of ha1), fun l nl => ?_⟩
    have s2 := Same.new (o := .lst (iv r)) nl
    have hd2 := s2 h _ (sm1 h _ hd)
    refine ⟨_, rfl, h, C, dx, _, rfl, hd2, T.cl, T.nW, (by show 1 < 1000; decide), ?_⟩
    rw [hF_put]
    have hla : l ≠ h := fun z => by rw [z, sm1 h _ hd] at nl; cases nl
    have hah : a ≠ h := ne_of ha hd (fun z => by cases z)
    refine ⟨_, rfl, _, _, rfl, .inl (SqL.of (show upd (upd H1 l (.lst (iv r))) h (.ins C dx (hF (.ref l))) a = some (.lst (iv r)) by rw [upd_ne hah]; exact s2 a _ ha1)), size_ok (by show 1 ≤ 1000; omega), fun p np => ?_⟩
    rw [iv_len]
    have np1 : upd H1 l (.lst (iv r)) p = none := by
      by_cases z : p = h
      · rw [z, upd_same] at np; cases np
      · rw [upd_ne z] at np; exact np
    have hph : p ≠ h := fun z => by rw [z, hd2] at np1; cases np1
    have nl0 : H l = none := sm1.free nl
    have np0 : H p = none := sm1.free (s2.free np1)
    have hpl : l ≠ p := fun z => by rw [← z, upd_same] at np1; cases np1
    refine q _ p (.ref l) ⟨dx, ?_⟩ ⟨wd, l, rfl, ?_⟩ (.inr ⟨l, rfl, nl0⟩) (fun b o eb nb => ?_) np0 ?_
    · rw [upd_ne (Ne.symm hph), upd_same]
    · rw [upd_ne hpl, upd_ne hla, upd_same]
    · have e1 := sm1 b o eb
      rw [upd_ne (ne_of_none eb np0), upd_ne nb, upd_ne (ne_of_none e1 nl)]
      exact e1
    · exact upd_same
theorem scAFirst : FnScope HT2 HT2 (defScope sAFirst) := ⟨rfl, rfl, rfl, by decide +kernel, rfl, by decide +kernel, by decide +kernel⟩
theorem ok_aFirst (O : Own mg) (T : Cl K C) (F : At K mg "answer_first" sAFirst HT2) (N : Df P wo K mg base 3 "names" ["word"] spNames) (Te : Df P wo K mg base 1 "tell" ["row"] spTell) :
    Df P wo K mg base 4 "answer_first" HT2 (spCall C 7) := by
  refine F.ok scAFirst len_call (fun f cdv A outer s0 H vs Q E hr h => ?_)
  obtain ⟨h, a, s, v, c, told, rfl, hh, hw, ha, hc, hs, q⟩ := h
  refine ⟨_, pss_one (ps_ret (pe_df Te (hr.mono (by decide)) rfl (pa_cons (pe_callTy call_list_of (by rfl) O.list (by decide +kernel) (pa_cons (pe_ix ix_list (pe_df N hr rfl (pa_cons (pe_fld (pv 0) rfl) pa_nil)) pe_int (fun _ _ => rfl)) pa_nil)) pa_nil))), ?_⟩
  obtain ⟨rfl, rfl⟩ := is_bare hc (by omega)
  cases s with
  | none => exact absurd rfl (hs.resolve_left (by decide))
  | some w =>
    have hw0 := hw
    obtain ⟨wd, p, rfl, hp⟩ := hw
    have hh0 := hh
    obtain ⟨dx, hd⟩ := hh
    refine ⟨_, rfl, h, C, dx, _, _, rfl, hd, T.cl, T.nW, hF_word _, p, w, rfl, hp, wd, fun H1 p1 sm1 np1 ⟨L, hL, hT, eL⟩ => ?_⟩
    cases L with
    | nil => exact absurd eL.symm (names_ne wd.lo)
    | cons q0 L' =>
      have e0 : Kqi2.first w = q0.2 := by
        unfold Kqi2.first
        rw [← eL]
        rfl
      have hm : q0.2 ∈ Kqi2.names w := by rw [← eL]; exact List.mem_cons_self
      have hlen := names_len wd.lo _ hm
      have ht := hT q0 List.mem_cons_self
      refine ⟨_, _, _, _, rfl, rfl, SqL.of hL, (atI_nat (j := 0) (rfl : ((q0 :: L').map fun q => V.ref q.1)[0]? = some (V.ref q0.1))), ?_⟩
      refine ⟨_, _, rfl, .inr (SqT.of ht), fun l nl => ?_⟩
      have s2 := sm1.new' (o := .lst (iv q0.2)) nl
      refine ⟨l, q0.2, rfl, upd_same, by have := wd.hi; omega, fun H2 p2 sm2 np2 hp2 => ?_⟩
      refine answered.plain (ans := toldI (Kqi2.first w)) q hh0 hw0 (s2.trans sm2) (s2.free np2) ?_
      rw [toldI_iv, e0]
      exact hp2
theorem scANames : FnScope HT2 HT2 (defScope sANames) := ⟨rfl, rfl, rfl, by decide +kernel, rfl, by decide +kernel, by decide +kernel⟩
theorem ok_aNames (O : Own mg) (T : Cl K C) (F : At K mg "answer_names" sANames HT2) (N : Df P wo K mg base 3 "names" ["word"] spNames) :
    Df P wo K mg base 4 "answer_names" HT2 (spCall C 8) := by
  refine F.ok scANames len_call (fun f cdv A outer s0 H vs Q E hr h => ?_)
  obtain ⟨h, a, s, v, c, told, rfl, hh, hw, ha, hc, hs, q⟩ := h
  refine ⟨_, pss_one (ps_ret (pe_lst (pa_cons (pe_callB call_len_seq (by rfl) O.len PySem.boot_len (pa_cons (pe_df N hr rfl (pa_cons (pe_fld (pv 0) rfl) pa_nil)) pa_nil)) pa_nil))), ?_⟩
  obtain ⟨rfl, rfl⟩ := is_bare hc (by omega)
  cases s with
  | none => exact absurd rfl (hs.resolve_left (by decide))
  | some w =>
    have hw0 := hw
    obtain ⟨wd, p, rfl, hp⟩ := hw
    have hh0 := hh
    obtain ⟨dx, hd⟩ := hh
    refine ⟨_, rfl, h, C, dx, _, _, rfl, hd, T.cl, T.nW, hF_word _, p, w, rfl, hp, wd, fun H1 p1 sm1 np1 ⟨L, hL, hT, eL⟩ => ?_⟩
    refine ⟨_, _, rfl, .inl (SqL.of hL), size_ok (by show 1 ≤ 1000; omega), fun r nr => ?_⟩
    have e : (L.map fun q => V.ref q.1).length = (Kqi2.names w).length := by rw [← eL, List.length_map, List.length_map]
    rw [e]
    exact answered.one (z := ((Kqi2.names w).length : Int)) q hh0 hw0 sm1 nr
end
end Lw

set_option Elab.async false
set_option linter.all false
set_option maxRecDepth 100000
set_option maxHeartbeats 4000000
namespace Lw
open PySem PySem.Spec PyProof.Rows L2
open PySem.W (Codec)
abbrev sANth : Stmt := top 36
abbrev sAWhich : Stmt := top 37
abbrev sALeaves : Stmt := top 38
abbrev sAFour : Stmt := top 39
abbrev sAAlike : Stmt := top 40
abbrev sAHanded : Stmt := top 41
abbrev sAAgain : Stmt := top 42
abbrev sAUps : Stmt := top 43
abbrev sAState : Stmt := top 44
/-! ### The specification's step, call by call -/
theorem st_nth (w : List Nat) (x : Int) : Kqi2Neutral.step (some w) [[9, x]] = (some w, match (Kqi2.names w)[x.toNat]? with | none => [-2] | some v => toldI v) := by
  show ((Kqi2.step (some w) (.nth x.toNat)).1, Kqi2Neutral.tell (Kqi2.step (some w) (.nth x.toNat)).2) = _
  simp only [Kqi2.step]
  cases (Kqi2.names w)[x.toNat]? <;> rfl
theorem st_which (w : List Nat) (r : List Int) : Kqi2Neutral.step (some w) [[10], r] = if Kqi2.isWord Kqi2.STEPS (r.map Int.toNat) = false then (some w, [-22]) else
    if (Kqi2.names w).contains (r.map Int.toNat) = false then (some w, [-33]) else (some w, [(((Kqi2.names w).findIdx fun v => v == r.map Int.toNat : Nat) : Int)]) := by
  show ((Kqi2.step (some w) (.which (r.map Int.toNat))).1, Kqi2Neutral.tell (Kqi2.step (some w) (.which (r.map Int.toNat))).2) = _
  simp only [Kqi2.step]
  by_cases c1 : Kqi2.isWord Kqi2.STEPS (r.map Int.toNat) = false
  · rw [if_pos c1, if_pos c1]
    rfl
  · rw [if_neg c1, if_neg c1]
    by_cases c2 : (Kqi2.names w).contains (r.map Int.toNat) = false
    · rw [if_pos c2, if_pos c2]
      rfl
    · rw [if_neg c2, if_neg c2]
      rfl
theorem st_leaves (w : List Nat) : Kqi2Neutral.step (some w) [[11]] = (some w, toldI (Kqi2.leaves w)) := rfl
theorem st_four (w : List Nat) : Kqi2Neutral.step (some w) [[12]] = (some w, toldI (Kqi2.four w)) := rfl
theorem st_alike (w : List Nat) (r : List Int) : Kqi2Neutral.step (some w) [[13], r] = if Kqi2.isWord Kqi2.STEPS (r.map Int.toNat) = false then (some w, [-22]) else
    (some w, match Kqi2.becomes w (r.map Int.toNat) with | none => [-33] | some t => [((t : Nat) : Int)]) := by
  show ((Kqi2.step (some w) (.alike (r.map Int.toNat))).1, Kqi2Neutral.tell (Kqi2.step (some w) (.alike (r.map Int.toNat))).2) = _
  simp only [Kqi2.step]
  by_cases c1 : Kqi2.isWord Kqi2.STEPS (r.map Int.toNat) = false
  · rw [if_pos c1, if_pos c1]
    rfl
  · rw [if_neg c1, if_neg c1]
    cases Kqi2.becomes w (r.map Int.toNat) <;> rfl
theorem st_handed (w : List Nat) : Kqi2Neutral.step (some w) [[14]] = (some w, [if Kqi2.handed w then 1 else 0]) := rfl
theorem st_again (w : List Nat) : Kqi2Neutral.step (some w) [[15]] = (some w, [((againN w : Nat) : Int)]) := rfl
theorem st_ups (w : List Nat) : Kqi2Neutral.step (some w) [[16]] = (some w, [((w.count 1 : Nat) : Int), ((w.count 0 : Nat) : Int)]) := by
  rw [← ups_count, ← ups_count]
  rfl
theorem st_state (w : List Nat) : Kqi2Neutral.step (some w) [[17]] = (some w, toldI w) := rfl
theorem TupsAt.same {H H' : Hp} {p : Addr} {ws : List (List Nat)} (s : Same H H') (h : TupsAt H p ws) : TupsAt H' p ws := by
  obtain ⟨L, h1, h2, h3⟩ := h
  exact ⟨L, s p _ h1, fun q hq => s q.1 _ (h2 q hq), h3⟩
section
variable {P : Program} {wo : World} {K : PySem.W.Frag} {mg : Str → Option Value} {base : Heap} {C : Addr}
theorem room65 {k : Nat} {A : Around} (r : Room k A) : A.units + 65 < cLine := by have := r.un; omega
/-- held, told, found -/
abbrev HT3 : List Str := ["held", "told", "found"]
theorem scANth : FnScope HT3 HT2 (defScope sANth) := ⟨rfl, rfl, rfl, by decide +kernel, rfl, by decide +kernel, by decide +kernel⟩
theorem ok_aNth (O : Own mg) (T : Cl K C) (C2 : Cons2 mg) (F : At K mg "answer_nth" sANth HT2) (N : Df P wo K mg base 3 "names" ["word"] spNames) (Te : Df P wo K mg base 1 "tell" ["row"] spTell) :
    Df P wo K mg base 4 "answer_nth" HT2 (spCall C 9) := by
  refine F.ok scANth len_call (fun f cdv A outer s0 H vs Q E hr h => ?_)
  obtain ⟨h, a, s, v, c, told, rfl, hh, hw, ha, hc, hs, q⟩ := h
  obtain ⟨t, hk⟩ := C2.noStep
  refine ⟨_, pss_cons (ps_set (i := 2) scANth.nd rfl (Or.inl rfl) (pe_df N hr rfl (pa_cons (pe_fld (pv 0) rfl) pa_nil)))
    (pss_cons (ps_if (pt_cmpR op_ge (pe_ix ix_list (pv 1) pe_int (fun _ _ => rfl)) (pe_callB call_len_seq (by rfl) O.len PySem.boot_len (pa_cons (pv 2) pa_nil)) (nomark _)) (pss_one (ps_ret (pe_lst (pa_cons (pe_glob (v := .int (-2)) rfl hk ⟨_, rfl⟩) pa_nil)))) pss_nil)
    (pss_one (ps_ret (pe_df Te (hr.mono (by decide)) rfl (pa_cons (pe_callTy call_list_of (by rfl) O.list (by decide +kernel) (pa_cons (pe_ix ix_list (pv 2) (pe_ix ix_list (pv 1) pe_int (fun _ _ => rfl)) (fun _ _ => rfl)) pa_nil)) pa_nil))))), ?_⟩
  obtain ⟨k, rfl, rfl⟩ := is_num hc (by omega)
  cases s with
  | none => exact absurd rfl (hs.resolve_left (by decide))
  | some w =>
    have hw0 := hw
    obtain ⟨wd, p, rfl, hp⟩ := hw
    have hh0 := hh
    obtain ⟨dx, hd⟩ := hh
    have hat : atI ([(k : Int)].map V.int) (0 : Int) = some (V.int (k : Int)) := rfl
    rw [st_nth, Int.toNat_natCast] at q
    refine ⟨_, rfl, h, C, dx, _, _, rfl, hd, T.cl, T.nW, hF_word _, p, w, rfl, hp, wd, fun H1 p1 sm1 np1 ⟨L, hL, hT, eL⟩ => ?_⟩
    have ha1 := sm1 a _ ha
    refine ⟨_, rfl, _, _, _, _, rfl, rfl, SqL.of ha1, hat, _, rfl, _, _, rfl, .inl (SqL.of hL), _, _, rfl, rfl, _, rfl, ?_⟩
    have el : (L.map fun q => V.ref q.1).length = (Kqi2.names w).length := by rw [← eL, List.length_map, List.length_map]
    rw [el]
    by_cases c1 : (Kqi2.names w).length ≤ k
    · refine if_true_of (decide_eq_true (by omega : ((Kqi2.names w).length : Int) ≤ (k : Int))) ?_
      rw [List.getElem?_eq_none c1] at q
      exact ⟨size_ok (by show 1 ≤ 1000; omega), fun r nr => answered.one (z := -2) q hh0 hw0 sm1 nr⟩
    · refine if_false_of (decide_eq_false (by omega : ¬ ((Kqi2.names w).length : Int) ≤ (k : Int))) ?_
      have hkL : k < L.length := by rw [← eL, List.length_map] at c1; omega
      obtain ⟨q0, hq0⟩ : ∃ q0, L[k]? = some q0 := ⟨_, List.getElem?_eq_getElem hkL⟩
      have hn : (Kqi2.names w)[k]? = some q0.2 := by rw [← eL, List.getElem?_map, hq0]; rfl
      rw [hn] at q
      have hm : q0.2 ∈ Kqi2.names w := List.mem_of_getElem? hn
      have hlen := names_len wd.lo _ hm
      have ht := hT q0 (List.mem_of_getElem? hq0)
      have hr0 : (L.map fun q => V.ref q.1)[k]? = some (V.ref q0.1) := by rw [List.getElem?_map, hq0]; rfl
      refine ⟨_, rfl, _, rfl, _, _, _, _, rfl, rfl, SqL.of ha1, hat, _, _, _, _, rfl, rfl, SqL.of hL, atI_nat hr0, ?_⟩
      refine ⟨_, _, rfl, .inr (SqT.of ht), fun l nl => ?_⟩
      have s2 := sm1.new' (o := .lst (iv q0.2)) nl
      refine ⟨l, q0.2, rfl, upd_same, by have := wd.hi; omega, fun H2 p2 sm2 np2 hp2 => ?_⟩
      refine answered.plain (ans := toldI q0.2) q hh0 hw0 (s2.trans sm2) (s2.free np2) ?_
      rw [toldI_iv]
      exact hp2
theorem scAWhich : FnScope HT3 HT2 (defScope sAWhich) := ⟨rfl, rfl, rfl, by decide +kernel, rfl, by decide +kernel, by decide +kernel⟩
theorem ok_aWhich (O : Own mg) (T : Cl K C) (C2 : Cons2 mg) (F : At K mg "answer_which" sAWhich HT2) (I : Df P wo K mg base 1 "is_word" ["row"] spIsWord) (N : Df P wo K mg base 3 "names" ["word"] spNames) :
    Df P wo K mg base 4 "answer_which" HT2 (spCall C 10) := by
  refine F.ok scAWhich len_call (fun f cdv A outer s0 H vs Q E hr h => ?_)
  obtain ⟨h, a, s, v, c, told, rfl, hh, hw, ha, hc, hs, q⟩ := h
  obtain ⟨t, hk⟩ := C2.notAs
  obtain ⟨t2, hk2⟩ := C2.notAlike
  refine ⟨_, pss_cons (ps_if (pt_not (pt_val (pe_df I (hr.mono (by decide)) rfl (pa_cons (pv 1) pa_nil)))) (pss_one (ps_ret (pe_lst (pa_cons (pe_glob (v := .int (-22)) rfl hk ⟨_, rfl⟩) pa_nil)))) pss_nil)
    (pss_cons (ps_set (i := 2) scAWhich.nd rfl (Or.inl rfl) (pe_df N hr rfl (pa_cons (pe_fld (pv 0) rfl) pa_nil)))
    (pss_cons (ps_if (pt_cmpR (op_notInW (room65 hr)) (pe_callTy (T := "tuple") cr_tupOf (by rfl) O.tuple (by decide +kernel) (pa_cons (pv 1) pa_nil)) (pv 2) (by with_unfolding_all rfl)) (pss_one (ps_ret (pe_lst (pa_cons (pe_glob (v := .int (-33)) rfl hk2 ⟨_, rfl⟩) pa_nil)))) pss_nil)
    (pss_one (ps_ret (pe_lst (pa_cons (pe_bm PySem.F.plainAttrs_list PySem.F.slot_list_index PySem.F.type_list_index (mt_indexW (room65 hr)) (pv 2) (pa_cons (pe_callTy (T := "tuple") cr_tupOf (by rfl) O.tuple (by decide +kernel) (pa_cons (pv 1) pa_nil)) pa_nil)) pa_nil)))))), ?_⟩
  obtain ⟨rfl, h0, hl⟩ := is_row hc (by omega)
  rw [told_nat h0] at ha
  cases s with
  | none => exact absurd rfl (hs.resolve_left (by decide))
  | some w =>
    rw [st_which] at q
    generalize hr0 : told.map Int.toNat = r at *
    have hlr : r.length ≤ 60 := by rw [← hr0, List.length_map]; exact hl
    have hw0 := hw
    obtain ⟨wd, p, rfl, hp⟩ := hw
    have hh0 := hh
    obtain ⟨dx, hd⟩ := hh
    refine ⟨_, rfl, a, r, rfl, ha, hlr, fun H1 sm1 => ⟨_, rfl, ?_⟩⟩
    cases e : Kqi2.isWord Kqi2.STEPS r with
    | false =>
      rw [if_pos e] at q
      refine if_true_of rfl ?_
      exact ⟨size_ok (by show 1 ≤ 1000; omega), fun r nr => q.one hh0 hw0 sm1 nr⟩
    | true =>
      rw [if_neg (by rw [e]; exact Bool.noConfusion)] at q
      refine if_false_of rfl ?_
      refine ⟨_, rfl, h, C, dx, _, _, rfl, sm1 h _ hd, T.cl, T.nW, hF_word _, p, w, rfl, sm1 p _ hp, wd, fun H2 p2 sm2 np2 hT => ?_⟩
      have sm12 := sm1.trans sm2
      refine ⟨_, rfl, _, _, rfl, .inl ⟨SqL.of (sm12 a _ ha), fun l nl => ?_⟩⟩
      have sm3 := sm12.new' (o := .tup (iv r)) nl
      have sn3 := Same.new (o := .tup (iv r)) nl
      refine ⟨_, rfl, l, p2, r, _, rfl, rfl, upd_same, hT.same sn3, _, rfl, ?_⟩
      cases e2 : (Kqi2.names w).contains r with
      | false =>
        rw [if_pos e2] at q
        refine if_true_of rfl ?_
        exact ⟨size_ok (by show 1 ≤ 1000; omega), fun r nr => answered.one (z := -33) q hh0 hw0 sm3 nr⟩
      | true =>
        rw [if_neg (by rw [e2]; exact Bool.noConfusion)] at q
        refine if_false_of rfl ?_
        have hT3 := hT.same sn3
        obtain ⟨L, hL, hT4, eL⟩ := hT3
        refine ⟨_, rfl, .inl ⟨rfl, _, SqL.of hL⟩, _, rfl, _, _, rfl, .inl ⟨SqL.of (sm3 a _ ha), fun l2 nl2 => ?_⟩⟩
        have sm4 := sm3.new' (o := .tup (iv r)) nl2
        have sn4 := Same.new (o := .tup (iv r)) nl2
        refine ⟨p2, l2, r, Kqi2.names w, rfl, rfl, upd_same, (hT.same sn3).same sn4, List.contains_iff_mem.mp e2, size_ok (by show 1 ≤ 1000; omega), fun r nr => ?_⟩
        exact answered.one q hh0 hw0 sm4 nr
theorem scALeaves : FnScope HT2 HT2 (defScope sALeaves) := ⟨rfl, rfl, rfl, by decide +kernel, rfl, by decide +kernel, by decide +kernel⟩
theorem ok_aLeaves (T : Cl K C) (F : At K mg "answer_leaves" sALeaves HT2) (L : Df P wo K mg base 4 "ways_that_leave" ["word"] spLeave) (Te : Df P wo K mg base 1 "tell" ["row"] spTell) :
    Df P wo K mg base 5 "answer_leaves" HT2 (spCall C 11) := by
  refine F.ok scALeaves len_call (fun f cdv A outer s0 H vs Q E hr h => ?_)
  obtain ⟨h, a, s, v, c, told, rfl, hh, hw, ha, hc, hs, q⟩ := h
  refine ⟨_, pss_one (ps_ret (pe_df Te (hr.mono (by decide)) rfl (pa_cons (pe_df L hr rfl (pa_cons (pe_fld (pv 0) rfl) pa_nil)) pa_nil))), ?_⟩
  obtain ⟨rfl, rfl⟩ := is_bare hc (by omega)
  cases s with
  | none => exact absurd rfl (hs.resolve_left (by decide))
  | some w =>
    have hw0 := hw
    obtain ⟨wd, p, rfl, hp⟩ := hw
    have hh0 := hh
    obtain ⟨dx, hd⟩ := hh
    rw [st_leaves] at q
    refine ⟨_, rfl, h, C, dx, _, _, rfl, hd, T.cl, T.nW, hF_word _, p, w, rfl, hp, wd, fun H1 p1 sm1 np1 hp1 => ?_⟩
    refine ⟨p1, _, rfl, hp1, by have := leaves_len w; have := wd.hi; omega, fun H2 p2 sm2 np2 hp2 => ?_⟩
    exact answered.plain (ans := toldI (Kqi2.leaves w)) q hh0 hw0 (sm1.trans sm2) (sm1.free np2) (by rw [toldI_iv]; exact hp2)
theorem scAFour : FnScope HT2 HT2 (defScope sAFour) := ⟨rfl, rfl, rfl, by decide +kernel, rfl, by decide +kernel, by decide +kernel⟩
theorem ok_aFour (T : Cl K C) (F : At K mg "answer_four" sAFour HT2) (L : Df P wo K mg base 5 "leaving_of_each_kind" ["word"] spKinds) (Te : Df P wo K mg base 1 "tell" ["row"] spTell) :
    Df P wo K mg base 6 "answer_four" HT2 (spCall C 12) := by
  refine F.ok scAFour len_call (fun f cdv A outer s0 H vs Q E hr h => ?_)
  obtain ⟨h, a, s, v, c, told, rfl, hh, hw, ha, hc, hs, q⟩ := h
  refine ⟨_, pss_one (ps_ret (pe_df Te (hr.mono (by decide)) rfl (pa_cons (pe_df L hr rfl (pa_cons (pe_fld (pv 0) rfl) pa_nil)) pa_nil))), ?_⟩
  obtain ⟨rfl, rfl⟩ := is_bare hc (by omega)
  cases s with
  | none => exact absurd rfl (hs.resolve_left (by decide))
  | some w =>
    have hw0 := hw
    obtain ⟨wd, p, rfl, hp⟩ := hw
    have hh0 := hh
    obtain ⟨dx, hd⟩ := hh
    rw [st_four] at q
    refine ⟨_, rfl, h, C, dx, _, _, rfl, hd, T.cl, T.nW, hF_word _, p, w, rfl, hp, wd, fun H1 p1 sm1 np1 hp1 => ?_⟩
    refine ⟨p1, _, rfl, hp1, by show 4 ≤ 100; omega, fun H2 p2 sm2 np2 hp2 => ?_⟩
    exact answered.plain (ans := toldI (Kqi2.four w)) q hh0 hw0 (sm1.trans sm2) (sm1.free np2) (by rw [toldI_iv]; exact hp2)
theorem scAAlike : FnScope HT3 HT2 (defScope sAAlike) := ⟨rfl, rfl, rfl, by decide +kernel, rfl, by decide +kernel, by decide +kernel⟩
theorem ok_aAlike (O : Own mg) (T : Cl K C) (C2 : Cons2 mg) (F : At K mg "answer_alike" sAAlike HT2) (I : Df P wo K mg base 1 "is_word" ["row"] spIsWord) (B : Df P wo K mg base 3 "ways_between" ["word", "other"] spBetween) :
    Df P wo K mg base 4 "answer_alike" HT2 (spCall C 13) := by
  refine F.ok scAAlike len_call (fun f cdv A outer s0 H vs Q E hr h => ?_)
  obtain ⟨h, a, s, v, c, told, rfl, hh, hw, ha, hc, hs, q⟩ := h
  obtain ⟨t, hk⟩ := C2.notAs
  obtain ⟨t2, hk2⟩ := C2.notAlike
  refine ⟨_, pss_cons (ps_if (pt_not (pt_val (pe_df I (hr.mono (by decide)) rfl (pa_cons (pv 1) pa_nil)))) (pss_one (ps_ret (pe_lst (pa_cons (pe_glob (v := .int (-22)) rfl hk ⟨_, rfl⟩) pa_nil)))) pss_nil)
    (pss_cons (ps_set (i := 2) scAAlike.nd rfl (Or.inl rfl) (pe_df B hr rfl (pa_cons (pe_fld (pv 0) rfl) (pa_cons (pv 1) pa_nil))))
    (pss_cons (ps_if (pt_cmpR op_eq (pe_callB call_len_seq (by rfl) O.len PySem.boot_len (pa_cons (pv 2) pa_nil)) pe_int (nomark _)) (pss_one (ps_ret (pe_lst (pa_cons (pe_glob (v := .int (-33)) rfl hk2 ⟨_, rfl⟩) pa_nil)))) pss_nil)
    (pss_one (ps_ret (pe_lst (pa_cons (pe_ix ix_list (pv 2) pe_int (fun _ _ => rfl)) pa_nil)))))), ?_⟩
  obtain ⟨rfl, h0, hl⟩ := is_row hc (by omega)
  rw [told_nat h0] at ha
  cases s with
  | none => exact absurd rfl (hs.resolve_left (by decide))
  | some w =>
    rw [st_alike] at q
    generalize hr0 : told.map Int.toNat = r at *
    have hlr : r.length ≤ 60 := by rw [← hr0, List.length_map]; exact hl
    have hw0 := hw
    obtain ⟨wd, p, rfl, hp⟩ := hw
    have hh0 := hh
    obtain ⟨dx, hd⟩ := hh
    refine ⟨_, rfl, a, r, rfl, ha, hlr, fun H1 sm1 => ⟨_, rfl, ?_⟩⟩
    cases e : Kqi2.isWord Kqi2.STEPS r with
    | false =>
      rw [if_pos e] at q
      refine if_true_of rfl ?_
      exact ⟨size_ok (by show 1 ≤ 1000; omega), fun r nr => q.one hh0 hw0 sm1 nr⟩
    | true =>
      rw [if_neg (by rw [e]; exact Bool.noConfusion)] at q
      refine if_false_of rfl ?_
      refine ⟨_, rfl, h, C, dx, _, _, rfl, sm1 h _ hd, T.cl, T.nW, hF_word _, _, rfl, p, a, w, r, rfl, sm1 p _ hp, sm1 a _ ha, wd, fun H2 p2 sm2 np2 hp2 => ?_⟩
      have sm12 := sm1.trans sm2
      have hb := waysB_head w r
      refine ⟨_, rfl, _, _, rfl, .inl (SqL.of hp2), rfl, _, rfl, ?_⟩
      rw [iv_len]
      cases eb : waysB w r (4 * w.length) with
      | nil =>
        rw [eb] at hb
        rw [← hb] at q
        refine if_true_of rfl ?_
        exact ⟨size_ok (by show 1 ≤ 1000; omega), fun r nr => answered.one (z := -33) q hh0 hw0 sm12 nr⟩
      | cons t0 ts =>
        rw [eb] at hb hp2
        rw [← hb] at q
        have hne : ¬ (V.int (((t0 :: ts).length : Nat) : Int) = V.int 0) := fun z => by
          have := V.int.inj z
          rw [List.length_cons] at this
          omega
        refine if_false_of (decide_eq_false hne) ?_
        refine ⟨_, rfl, _, _, _, _, rfl, rfl, SqL.of hp2, (atI_nat (j := 0) (rfl : (iv (t0 :: ts))[0]? = some (V.int (t0 : Int)))), size_ok (by show 1 ≤ 1000; omega), fun r nr => ?_⟩
        exact answered.one (z := (t0 : Int)) q hh0 hw0 sm12 nr
theorem scAHanded : FnScope HT2 HT2 (defScope sAHanded) := ⟨rfl, rfl, rfl, by decide +kernel, rfl, by decide +kernel, by decide +kernel⟩
theorem ok_aHanded (T : Cl K C) (F : At K mg "answer_handed" sAHanded HT2) (L : Df P wo K mg base 6 "is_handed" ["word"] spHanded) :
    Df P wo K mg base 7 "answer_handed" HT2 (spCall C 14) := by
  refine F.ok scAHanded len_call (fun f cdv A outer s0 H vs Q E hr h => ?_)
  obtain ⟨h, a, s, v, c, told, rfl, hh, hw, ha, hc, hs, q⟩ := h
  refine ⟨_, pss_one (ps_ret (pe_lst (pa_cons (pe_ifExp (pt_val (pe_df L hr rfl (pa_cons (pe_fld (pv 0) rfl) pa_nil))) pe_int pe_int) pa_nil))), ?_⟩
  obtain ⟨rfl, rfl⟩ := is_bare hc (by omega)
  cases s with
  | none => exact absurd rfl (hs.resolve_left (by decide))
  | some w =>
    have hw0 := hw
    obtain ⟨wd, p, rfl, hp⟩ := hw
    have hh0 := hh
    obtain ⟨dx, hd⟩ := hh
    rw [st_handed] at q
    refine ⟨_, rfl, h, C, dx, _, _, rfl, hd, T.cl, T.nW, hF_word _, p, w, rfl, hp, wd, fun H1 sm1 => ⟨_, rfl, ?_⟩⟩
    cases e : Kqi2.handed w with
    | true =>
      rw [e] at q
      exact if_true_of rfl ⟨size_ok (by show 1 ≤ 1000; omega), fun r nr => answered.one (z := 1) q hh0 hw0 sm1 nr⟩
    | false =>
      rw [e] at q
      exact if_false_of rfl ⟨size_ok (by show 1 ≤ 1000; omega), fun r nr => answered.one (z := 0) q hh0 hw0 sm1 nr⟩
theorem scAAgain : FnScope HT2 HT2 (defScope sAAgain) := ⟨rfl, rfl, rfl, by decide +kernel, rfl, by decide +kernel, by decide +kernel⟩
theorem ok_aAgain (T : Cl K C) (F : At K mg "answer_again" sAAgain HT2) (L : Df P wo K mg base 2 "again" ["word"] spAgain) :
    Df P wo K mg base 3 "answer_again" HT2 (spCall C 15) := by
  refine F.ok scAAgain len_call (fun f cdv A outer s0 H vs Q E hr h => ?_)
  obtain ⟨h, a, s, v, c, told, rfl, hh, hw, ha, hc, hs, q⟩ := h
  refine ⟨_, pss_one (ps_ret (pe_lst (pa_cons (pe_df L hr rfl (pa_cons (pe_fld (pv 0) rfl) pa_nil)) pa_nil))), ?_⟩
  obtain ⟨rfl, rfl⟩ := is_bare hc (by omega)
  cases s with
  | none => exact absurd rfl (hs.resolve_left (by decide))
  | some w =>
    have hw0 := hw
    obtain ⟨wd, p, rfl, hp⟩ := hw
    have hh0 := hh
    obtain ⟨dx, hd⟩ := hh
    rw [st_again] at q
    refine ⟨_, rfl, h, C, dx, _, _, rfl, hd, T.cl, T.nW, hF_word _, p, w, rfl, hp, wd, fun H1 sm1 => ?_⟩
    exact ⟨size_ok (by show 1 ≤ 1000; omega), fun r nr => answered.one (z := ((againN w : Nat) : Int)) q hh0 hw0 sm1 nr⟩
theorem scAUps : FnScope HT2 HT2 (defScope sAUps) := ⟨rfl, rfl, rfl, by decide +kernel, rfl, by decide +kernel, by decide +kernel⟩
theorem ok_aUps (T : Cl K C) (F : At K mg "answer_ups" sAUps HT2) : Df P wo K mg base 1 "answer_ups" HT2 (spCall C 16) := by
  refine F.ok scAUps len_call (fun f cdv A outer s0 H vs Q E hr h => ?_)
  obtain ⟨h, a, s, v, c, told, rfl, hh, hw, ha, hc, hs, q⟩ := h
  refine ⟨_, pss_one (ps_ret (pe_lst (pa_cons (pe_bm PySem.F.plainAttrs_list PySem.F.slot_list_count PySem.F.type_list_count mt_lcount (pe_fld (pv 0) rfl) (pa_cons pe_int pa_nil))
    (pa_cons (pe_bm PySem.F.plainAttrs_list PySem.F.slot_list_count PySem.F.type_list_count mt_lcount (pe_fld (pv 0) rfl) (pa_cons pe_int pa_nil)) pa_nil)))), ?_⟩
  obtain ⟨rfl, rfl⟩ := is_bare hc (by omega)
  cases s with
  | none => exact absurd rfl (hs.resolve_left (by decide))
  | some w =>
    have hw0 := hw
    obtain ⟨wd, p, rfl, hp⟩ := hw
    have hh0 := hh
    obtain ⟨dx, hd⟩ := hh
    rw [st_ups] at q
    have hp1 : H p = some (.lst ((up w).map V.int)) := by rw [up_iv]; exact hp
    refine ⟨_, rfl, h, C, dx, _, _, rfl, hd, T.cl, T.nW, hF_word _, .inl ⟨rfl, _, SqL.of hp⟩, p, up w, _, rfl, rfl, SqL.of hp1, _, rfl, h, C, dx, _, _, rfl, hd, T.cl, T.nW, hF_word _, .inl ⟨rfl, _, SqL.of hp⟩, p, up w, _, rfl, rfl, SqL.of hp1,
      size_ok (by show 2 ≤ 1000; omega), fun r nr => ?_⟩
    refine answered.plain (ans := [((w.count 1 : Nat) : Int), ((w.count 0 : Nat) : Int)]) q hh0 hw0 (Same.new nr) nr ?_
    have e1 : (up w).count (1 : Int) = w.count 1 := up_count w 1
    have e0 : (up w).count (0 : Int) = w.count 0 := up_count w 0
    rw [upd_same, e1, e0]
    rfl
theorem scAState : FnScope HT2 HT2 (defScope sAState) := ⟨rfl, rfl, rfl, by decide +kernel, rfl, by decide +kernel, by decide +kernel⟩
theorem ok_aState (T : Cl K C) (F : At K mg "answer_state" sAState HT2) (Te : Df P wo K mg base 1 "tell" ["row"] spTell) :
    Df P wo K mg base 2 "answer_state" HT2 (spCall C 17) := by
  refine F.ok scAState len_call (fun f cdv A outer s0 H vs Q E hr h => ?_)
  obtain ⟨h, a, s, v, c, told, rfl, hh, hw, ha, hc, hs, q⟩ := h
  refine ⟨_, pss_one (ps_ret (pe_df Te hr rfl (pa_cons (pe_fld (pv 0) rfl) pa_nil))), ?_⟩
  obtain ⟨rfl, rfl⟩ := is_bare hc (by omega)
  cases s with
  | none => exact absurd rfl (hs.resolve_left (by decide))
  | some w =>
    have hw0 := hw
    obtain ⟨wd, p, rfl, hp⟩ := hw
    have hh0 := hh
    obtain ⟨dx, hd⟩ := hh
    rw [st_state] at q
    refine ⟨_, rfl, h, C, dx, _, _, rfl, hd, T.cl, T.nW, hF_word _, p, w, rfl, hp, by have := wd.hi; omega, fun H1 p1 sm1 np1 hp1 => ?_⟩
    exact answered.plain (ans := toldI w) q hh0 hw0 sm1 np1 (by rw [toldI_iv]; exact hp1)
end
end Lw

set_option Elab.async false
set_option linter.all false
set_option maxRecDepth 100000
set_option maxHeartbeats 4000000
namespace Lw
open PySem PySem.Spec PyProof.Rows L2
open PySem.W (Codec)
abbrev sCall : Stmt := top 46
abbrev sFrom : Stmt := top 47
abbrev sEnd : Stmt := top 48
abbrev sAnswers : Stmt := top 49
/-! ### Where a call's numbers begin, where it ends -/
def isRow (p : Int) : Prop := p = 0 ∨ p = 10 ∨ p = 13
def isNum (p : Int) : Prop := p = 1 ∨ p = 5 ∨ p = 6 ∨ p = 9
instance (p : Int) : Decidable (isRow p) := inferInstanceAs (Decidable (_ ∨ _))
instance (p : Int) : Decidable (isNum p) := inferInstanceAs (Decidable (_ ∨ _))
theorem eq_cases (p a : Int) : (a == p) = decide (p = a) := by
  by_cases h : p = a
  · subst h; simp
  · rw [decide_eq_false h, beq_eq_false_iff_ne]
    exact fun z => h z.symm
theorem in_row (p : Int) : inV (.int p) [.int 0, .int 10, .int 13] = decide (isRow p) := by
  show ((0 : Int) == p || ((10 : Int) == p || ((13 : Int) == p || false))) = _
  rw [eq_cases, eq_cases, eq_cases, Bool.or_false, ← Bool.decide_or, ← Bool.decide_or]
  rfl
theorem in_num (p : Int) : inV (.int p) [.int 1, .int 5, .int 6, .int 9] = decide (isNum p) := by
  show ((1 : Int) == p || ((5 : Int) == p || ((6 : Int) == p || ((9 : Int) == p || false)))) = _
  rw [eq_cases, eq_cases, eq_cases, eq_cases, Bool.or_false, ← Bool.decide_or, ← Bool.decide_or, ← Bool.decide_or]
  rfl
/-- tuples of the calls' module -/
structure Tups (K : PySem.W.Frag) (mg : Str → Option Value) : Prop where
  row : ∃ a, mg "CALLS_WITH_A_ROW" = some (.ref a) ∧ ∀ H, SqT K H a [.int 0, .int 10, .int 13]
  num : ∃ a, mg "CALLS_WITH_A_NUMBER" = some (.ref a) ∧ ∀ H, SqT K H a [.int 1, .int 5, .int 6, .int 9]
def spFrom (K : PySem.W.Frag) : Sp := fun vs H Q _ => ∃ (a : Addr) (ns : List Int) (i : Nat) (p : Int), vs = [.ref a, .int (i : Int)] ∧ SqL K H a (ns.map V.int) ∧ ns[i]? = some p ∧ Q (.int ((i + (if isRow p then 2 else 1) : Nat) : Int)) H
def spEnd (K : PySem.W.Frag) : Sp := fun vs H Q _ => ∃ (a : Addr) (ns : List Int) (i n : Nat) (p : Int), vs = [.ref a, .int (i : Int)] ∧ SqL K H a (ns.map V.int) ∧ ns[i]? = some p ∧ (isRow p → ns[i + 1]? = some (n : Int)) ∧
  Q (.int ((i + (if isRow p then 2 + n else if isNum p then 2 else 1) : Nat) : Int)) H
theorem get_int {ns : List Int} {i : Nat} {p : Int} (h : ns[i]? = some p) : (ns.map V.int)[i]? = some (V.int p) := by
  rw [List.getElem?_map, h]
  rfl
section
variable {P : Program} {wo : World} {K : PySem.W.Frag} {mg : Str → Option Value} {base : Heap} {C : Addr}
theorem scFrom : FnScope ["calls", "at"] ["calls", "at"] (defScope sFrom) := ⟨rfl, rfl, rfl, by decide +kernel, rfl, by decide +kernel, by decide +kernel⟩
theorem ok_from (U : Tups K mg) (F : At K mg "told_from" sFrom ["calls", "at"]) : Df P wo K mg base 1 "told_from" ["calls", "at"] (spFrom K) := by
  refine F.ok scFrom (fun vs H Q E h => ?_) (fun f cdv A outer s H vs Q E hr h => ?_)
  · obtain ⟨a, ns, i, p, rfl, _⟩ := h
    rfl
  · obtain ⟨a, ns, i, p, rfl, ha, hp, q⟩ := h
    obtain ⟨tr, hm, ht⟩ := U.row
    refine ⟨_, pss_one (ps_ret (pe_ifExp (pt_cmpR op_in_seq (pe_ix ix_list (pv 0) (pv 1) (fun _ _ => rfl)) (pe_glob (v := .ref tr) rfl hm rfl) (by with_unfolding_all rfl)) (pe_op op_add (pv 1) pe_int) (pe_op op_add (pv 1) pe_int))), ?_⟩
    refine ⟨_, rfl, _, rfl, _, _, _, _, rfl, rfl, ha, atI_nat (get_int hp), _, _, rfl, .inr (ht H), rfl, rfl, _, rfl, ?_⟩
    by_cases c : isRow p
    · refine if_true_of ((in_row p).trans (decide_eq_true c)) ?_
      refine ⟨_, rfl, _, _, rfl, rfl, ?_⟩
      rw [if_pos c] at q
      exact q
    · refine if_false_of ((in_row p).trans (decide_eq_false c)) ?_
      refine ⟨_, rfl, _, _, rfl, rfl, ?_⟩
      rw [if_neg c] at q
      exact q
theorem scEnd : FnScope ["calls", "at"] ["calls", "at"] (defScope sEnd) := ⟨rfl, rfl, rfl, by decide +kernel, rfl, by decide +kernel, by decide +kernel⟩
theorem ok_end (U : Tups K mg) (F : At K mg "call_end" sEnd ["calls", "at"]) : Df P wo K mg base 1 "call_end" ["calls", "at"] (spEnd K) := by
  refine F.ok scEnd (fun vs H Q E h => ?_) (fun f cdv A outer s H vs Q E hr h => ?_)
  · obtain ⟨a, ns, i, n, p, rfl, _⟩ := h
    rfl
  · obtain ⟨a, ns, i, n, p, rfl, ha, hp, hn, q⟩ := h
    obtain ⟨tr, hm, ht⟩ := U.row
    obtain ⟨tn, hm2, ht2⟩ := U.num
    refine ⟨_, pss_cons (ps_if (pt_cmpR op_in_seq (pe_ix ix_list (pv 0) (pv 1) (fun _ _ => rfl)) (pe_glob (v := .ref tr) rfl hm rfl) (by with_unfolding_all rfl))
        (pss_one (ps_ret (pe_op op_add (pe_op op_add (pv 1) pe_int) (pe_ix ix_list (pv 0) (pe_op op_add (pv 1) pe_int) (fun _ _ => rfl))))) pss_nil)
      (pss_cons (ps_if (pt_cmpR op_in_seq (pe_ix ix_list (pv 0) (pv 1) (fun _ _ => rfl)) (pe_glob (v := .ref tn) rfl hm2 rfl) (by with_unfolding_all rfl)) (pss_one (ps_ret (pe_op op_add (pv 1) pe_int))) pss_nil)
      (pss_one (ps_ret (pe_op op_add (pv 1) pe_int)))), ?_⟩
    refine ⟨_, rfl, _, rfl, _, _, _, _, rfl, rfl, ha, atI_nat (get_int hp), _, _, rfl, .inr (ht H), rfl, rfl, _, rfl, ?_⟩
    by_cases c : isRow p
    · refine if_true_of ((in_row p).trans (decide_eq_true c)) ?_
      refine ⟨_, rfl, _, _, rfl, rfl, _, rfl, _, rfl, _, _, rfl, rfl, _, _, _, _, rfl, rfl, ha, atI_nat (j := i + 1) (get_int (hn c)), _, _, rfl, rfl, ?_⟩
      rw [if_pos c] at q
      have e : ((i + (2 + n) : Nat) : Int) = (i : Int) + 2 + (n : Int) := by omega
      rw [e] at q
      exact q
    · refine if_false_of ((in_row p).trans (decide_eq_false c)) ?_
      refine ⟨_, rfl, _, rfl, _, _, _, _, rfl, rfl, ha, atI_nat (get_int hp), _, _, rfl, .inr (ht2 H), rfl, rfl, _, rfl, ?_⟩
      rw [if_neg c] at q
      by_cases c2 : isNum p
      · refine if_true_of ((in_num p).trans (decide_eq_true c2)) ?_
        refine ⟨_, rfl, _, _, rfl, rfl, ?_⟩
        rw [if_pos c2] at q
        exact q
      · refine if_false_of ((in_num p).trans (decide_eq_false c2)) ?_
        refine ⟨_, rfl, _, _, rfl, rfl, ?_⟩
        rw [if_neg c2] at q
        exact q
end
/-! ### One call -/
theorem st_none {c : List (List Int)} {p : Int} {told : List Int} (h : CallIs c p told) (hp : p ≠ 0) : Kqi2Neutral.step none c = (none, [-11]) := by
  cases h with
  | row hq _ _ =>
    rcases hq with rfl | rfl | rfl
    · exact absurd rfl hp
    · rfl
    · rfl
  | num hq _ => rcases hq with rfl | rfl | rfl | rfl <;> rfl
  | bare hq => rcases hq with rfl | rfl | rfl | rfl | rfl | rfl | rfl | rfl | rfl | rfl | rfl <;> rfl
def spAnswer (C : Addr) : Sp := fun vs H Q _ => ∃ (h a : Addr) (s : Option (List Nat)) (v : V) (c : List (List Int)) (p : Int) (told : List Int), vs = [.ref h, .int p, .ref a] ∧ HeldAt C H h v ∧ WordIs H v s ∧ H a = some (.lst (told.map V.int)) ∧ CallIs c p told ∧
  answered C H h v Q (Kqi2Neutral.step s c).1 (Kqi2Neutral.step s c).2
/-- the table of the answers -/
structure Tab (P : Program) (wo : World) (K : PySem.W.Frag) (mg : Str → Option Value) (base : Heap) (k : Nat) (C : Addr) : Prop where
  ex : ∃ dA, mg "ANSWERED_BY" = some (.ref dA) ∧ ∀ p c told, CallIs c p told → ∃ f, KDef K dA p f ∧ Held P wo K mg base k f (spCall C p)
section
variable {P : Program} {wo : World} {K : PySem.W.Frag} {mg : Str → Option Value} {base : Heap} {C : Addr}
theorem scCall : FnScope ["held", "call", "told"] ["held", "call", "told"] (defScope sCall) := ⟨rfl, rfl, rfl, by decide +kernel, rfl, by decide +kernel, by decide +kernel⟩
theorem ok_call (T : Cl K C) (C2 : Cons2 mg) (F : At K mg "answer_call" sCall ["held", "call", "told"]) (B : Tab P wo K mg base 7 C) : Df P wo K mg base 8 "answer_call" ["held", "call", "told"] (spAnswer C) := by
  refine F.ok scCall (fun vs H Q E h => ?_) (fun f cdv A outer s0 H vs Q E hr h => ?_)
  · obtain ⟨h, a, s, v, c, p, told, rfl, _⟩ := h
    rfl
  · obtain ⟨h, a, s, v, c, p, told, rfl, hh, hw, ha, hc, q⟩ := h
    obtain ⟨dA, hdA, tab⟩ := B.ex
    obtain ⟨t, hk⟩ := C2.noWord
    refine ⟨_, pss_cons (ps_if (PW.pt (pw_and (pt_cmp (pc_isN (pe_fld (pv 0) rfl)) rfl) (pw_and1 (pt_cmpR op_ne (pv 1) pe_int (nomark _))))) (pss_one (ps_ret (pe_lst (pa_cons (pe_glob (v := .int (-11)) rfl hk ⟨_, rfl⟩) pa_nil)))) pss_nil)
      (pss_one (ps_ret (pe_callX (k := 7) (pe_ix ix_kdef (pe_glob (v := .ref dA) rfl hdA rfl) (pv 1) (fun _ _ => rfl)) hr (pa_cons (pv 0) (pa_cons (pv 2) pa_nil))))), ?_⟩
    have hh0 := hh
    obtain ⟨dx, hd⟩ := hh
    obtain ⟨f1, kd, hf1⟩ := tab p c told hc
    have fin : (p = 0 ∨ s ≠ none) → tRet (tCallX P wo K mg base 7 (tOp (rIxI K) (tC (.ref dA)) (tVar 1)) (tCons (tVar 0) (tCons (tVar 2) tNil))) { nx := fun _ H' => Q .non H', rt := Q } [some (.ref h), some (.int p), some (.ref a)] H := fun hps =>
      ⟨_, rfl, _, _, _, rfl, rfl, kd, f1, _, rfl, hf1, _, rfl, _, rfl, h, a, s, v, c, told, rfl, hh0, hw, ha, hc, hps, q⟩
    refine ⟨_, rfl, h, C, dx, _, _, rfl, hd, T.cl, T.nW, hF_word _, _, rfl, ?_⟩
    cases s with
    | none =>
      have ev : v = .non := hw
      subst ev
      refine if_true_of rfl ?_
      refine ⟨_, rfl, rfl, _, rfl, ?_⟩
      by_cases c0 : p = 0
      · subst c0
        exact if_false_of rfl (fin (.inl rfl))
      · refine if_true_of ?_ ?_
        · show (!decide (V.int p = V.int 0)) = true
          rw [decide_eq_false (fun z => c0 (V.int.inj z))]
          rfl
        · rw [st_none hc c0] at q
          exact ⟨size_ok (by show 1 ≤ 1000; omega), fun r nr => q.one hh0 hw (Same.refl H) nr⟩
    | some w =>
      obtain ⟨wd, p1, rfl, hp1⟩ := hw
      exact if_false_of rfl (fin (.inr (fun z => nomatch z)))
end
end Lw

set_option Elab.async false
set_option linter.all false
set_option maxRecDepth 100000
set_option maxHeartbeats 4000000
namespace Lw
open PySem PySem.Spec PyProof.Rows L2
open PySem.W (Codec)
/-! ### A turn: where the call stands -/
def pad (p : Int) (told : List Int) : List Int := if isRow p then [(told.length : Int)] else []
theorem put1_is {c : List (List Int)} {p : Int} {told : List Int} (h : CallIs c p told) : PyFlat.put1 c = (p :: pad p told) ++ told ∧ (¬ isRow p → told.length = if isNum p then 1 else 0) := by
  cases h with
  | row hp _ _ =>
    have hr : isRow p := hp
    refine ⟨?_, fun z => absurd hr z⟩
    unfold pad
    rw [if_pos hr]
    show [p] ++ (((told.length : Int) :: told) ++ []) = _
    rw [List.append_nil]
    rfl
  | @num p x hp _ =>
    have hr : ¬ isRow p := by unfold isRow; omega
    have hn : isNum p := hp
    refine ⟨?_, fun _ => by rw [if_pos hn]; rfl⟩
    unfold pad
    rw [if_neg hr]
    rfl
  | bare hp =>
    have hr : ¬ isRow p := by unfold isRow; omega
    have hn : ¬ isNum p := by unfold isNum; omega
    refine ⟨?_, fun _ => by rw [if_neg hn]; rfl⟩
    unfold pad
    rw [if_neg hr]
    rfl
structure TurnAt (ns : List Int) (i : Nat) (p : Int) (told : List Int) (fr en : Nat) : Prop where
  at_ : ns[i]? = some p
  cnt : isRow p → ns[i + 1]? = some (told.length : Int)
  from_ : fr = i + (if isRow p then 2 else 1)
  end_ : en = i + (if isRow p then 2 + told.length else if isNum p then 2 else 1)
  cut : cutV (ns.map V.int) (some (fr : Int)) (some (en : Int)) = told.map V.int
  more : i < en
  fits : en ≤ ns.length
theorem turn_at {raw pre post : List (List (List Int))} {c : List (List Int)} {p : Int} {told : List Int} (hr : raw = pre ++ c :: post) (hc : CallIs c p told) :
    ∃ fr, TurnAt (PyFlat.put raw) (PyFlat.put pre).length p told fr (PyFlat.put (pre ++ [c])).length := by
  obtain ⟨e1, e2⟩ := put1_is hc
  have hns : PyFlat.put raw = PyFlat.put pre ++ ((p :: pad p told) ++ (told ++ PyFlat.put post)) := by
    rw [hr, put_append]
    show PyFlat.put pre ++ (PyFlat.put1 c ++ PyFlat.put post) = _
    rw [e1, List.append_assoc]
  have hen : (PyFlat.put (pre ++ [c])).length = (PyFlat.put pre).length + (1 + (pad p told).length + told.length) := by
    rw [put_append, List.length_append]
    show _ + (PyFlat.put1 c ++ []).length = _
    rw [List.append_nil, e1, List.length_append, List.length_cons]
    omega
  have hfr : (PyFlat.put pre).length + (if isRow p then 2 else 1) = (PyFlat.put pre ++ (p :: pad p told)).length := by
    rw [List.length_append, List.length_cons]
    unfold pad
    split <;> simp
  refine ⟨(PyFlat.put pre).length + (if isRow p then 2 else 1), ?_, fun h => ?_, rfl, ?_, ?_, ?_, ?_⟩
  · rw [hns, List.getElem?_append_right (Nat.le_refl _), Nat.sub_self]
    rfl
  · rw [hns, List.getElem?_append_right (by omega)]
    have : (PyFlat.put pre).length + 1 - (PyFlat.put pre).length = 1 := by omega
    rw [this]
    unfold pad
    rw [if_pos h]
    rfl
  · rw [hen]
    unfold pad
    by_cases h : isRow p
    · rw [if_pos h, if_pos h]
      simp
    · rw [if_neg h, if_neg h, e2 h]
      split <;> simp
  · have hfit : (PyFlat.put (pre ++ [c])).length ≤ ((PyFlat.put raw).map V.int).length := by
      rw [List.length_map, hns, hen, List.length_append, List.length_append, List.length_append, List.length_cons]
      omega
    rw [cut_mid hfit (by rw [hfr, hen, List.length_append, List.length_cons]; omega)]
    have e3 : (PyFlat.put raw).map V.int = (PyFlat.put pre ++ (p :: pad p told)).map V.int ++ (told.map V.int ++ (PyFlat.put post).map V.int) := by
      rw [hns, ← List.append_assoc]
      simp only [List.map_append]
    have e4 : (PyFlat.put pre).length + (if isRow p then 2 else 1) = ((PyFlat.put pre ++ (p :: pad p told)).map V.int).length := by rw [List.length_map]; exact hfr
    have e5 : (PyFlat.put (pre ++ [c])).length - ((PyFlat.put pre).length + (if isRow p then 2 else 1)) = (told.map V.int).length := by
      rw [hfr, hen, List.length_append, List.length_cons, List.length_map]
      omega
    rw [e5, e3, e4, List.drop_left, List.take_left]
  · rw [hen]; omega
  · rw [hns, hen, List.length_append, List.length_append, List.length_append, List.length_cons]
    omega
def spAnswers (K : PySem.W.Frag) : Sp := fun vs H Q _ => ∃ (a : Addr) (ns : List Int), vs = [.ref a] ∧ SqL K H a (ns.map V.int) ∧ PyKqi2.answers_asked ns = true ∧
  ∀ (H' : Hp) (p : Addr), H' p = some (.lst ((PyKqi2.answers ns).map V.int)) → Q (.ref p) H'
section
variable {P : Program} {wo : World} {K : PySem.W.Frag} {mg : Str → Option Value} {base : Heap} {C : Addr}
abbrev NA : List Str := ["calls", "held", "given", "at", "end", "answer"]
theorem scAnswers : FnScope NA ["calls"] (defScope sAnswers) := ⟨rfl, rfl, rfl, by decide +kernel, rfl, by decide +kernel, by decide +kernel⟩
theorem big_ok {n : Nat} (h : n ≤ 10000000) : n ≤ sizeLine := Nat.le_trans h (by rw [sizeLine_eq]; decide)
theorem ok_answers (O : Own mg) (gC : mg "Held" = some (.ref C)) {fI : Addr} {fdI : FuncData} (M : Mk K C fI) (GI : FnOk P wo K mg base CX0 1 fI fdI ["self"] (spInit C)) (bI : Binds K fdI ["self"] [])
    {f3 : Addr} {fd3 : FuncData} (F : Fun K "answers" "answers" sAnswers f3 fd3) (Ca : Df P wo K mg base 8 "answer_call" ["held", "call", "told"] (spAnswer C)) (Fr : Df P wo K mg base 1 "told_from" ["calls", "at"] (spFrom K)) (En : Df P wo K mg base 1 "call_end" ["calls", "at"] (spEnd K)) :
    FnOk P wo K mg base CX0 9 f3 fd3 ["calls"] (spAnswers K) := by
  refine F.ok scAnswers (fun vs H Q E h => ?_) (fun cdv A outer s0 H vs Q E hr h => ?_)
  · obtain ⟨a, ns, rfl, _⟩ := h
    rfl
  · obtain ⟨a, ns, rfl, ha, hask, q⟩ := h
    obtain ⟨raw, ln⟩ := line_of hask
    refine ⟨_, pss_cons (ps_set (i := 1) scAnswers.nd rfl (Or.inl rfl) (pe_make0 M GI (hr.mono (by decide)) rfl gC bI .nil pass0))
      (pss_cons (ps_set (i := 2) scAnswers.nd rfl (Or.inl rfl) (pe_lst pa_nil))
      (pss_cons (ps_set (i := 3) scAnswers.nd rfl (Or.inl rfl) pe_int)
      (pss_cons (ps_while PassesOwn.never (pt_cmpR op_lt (pv 3) (pe_callB call_len_seq (by rfl) O.len PySem.boot_len (pa_cons (pv 0) pa_nil)) (nomark _))
        (pss_cons (ps_set (i := 4) scAnswers.nd rfl (Or.inl rfl) (pe_df En (hr.mono (by decide)) rfl (pa_cons (pv 0) (pa_cons (pv 3) pa_nil))))
        (pss_cons (ps_set (i := 5) scAnswers.nd rfl (Or.inl rfl) (pe_df Ca hr rfl (pa_cons (pv 1) (pa_cons (pe_ix ix_list (pv 0) (pv 3) (fun _ _ => rfl)) (pa_cons (pe_slice sl_list (pv 0) (po_some (pe_df Fr (hr.mono (by decide)) rfl (pa_cons (pv 0) (pa_cons (pv 3) pa_nil)))) (po_some (pv 4))) pa_nil)))))
        (pss_cons (ps_expr (pe_bm PySem.F.plainAttrs_list PySem.F.slot_list_append PySem.F.type_list_append mt_append (pv 2) (pa_cons (pe_callB call_len_seq (by rfl) O.len PySem.boot_len (pa_cons (pv 5) pa_nil)) pa_nil)))
        (pss_cons (ps_expr (pe_bm PySem.F.plainAttrs_list PySem.F.slot_list_extend PySem.F.type_list_extend mt_extend (pv 2) (pa_cons (pv 5) pa_nil)))
        (pss_one (ps_set (i := 3) scAnswers.nd rfl (Or.inl rfl) (pv 4))))))))
      (pss_one (ps_ret (pv 2)))))), ?_⟩
    intro h dx nh ndx nex
    refine ⟨h, dx, rfl, upd_same, fun H1 hh1 bt1 => ⟨rfl, ?_⟩⟩
    have sm1 : Same H H1 := Same.made nh ndx bt1
    refine ⟨size_ok (by show 0 ≤ 1000; omega), fun g ng => ?_⟩
    have sm2 : Same H (upd H1 g (.lst [])) := sm1.new' ng
    have ngH : H g = none := sm1.free ng
    have hhg : h ≠ g := fun z => by
      obtain ⟨d2, hd2⟩ := hh1
      rw [← z, hd2] at ng
      cases ng
    refine while_by (fun σ H' => ∃ pre post v x4 x5, raw = pre ++ post ∧ σ = [some (.ref a), some (.ref h), some (.ref g), some (.int ((PyFlat.put pre).length : Int)), x4, x5] ∧ Same H H' ∧ HeldAt C H' h v ∧ WordIs H' v (behind Kqi2Neutral.start pre) ∧
        H' g = some (.lst ((soFar pre).map V.int)) ∧ (∀ p, v = .ref p → p ≠ g)) (fun σ H' => match σ with | [_, _, _, some (.int i), _, _] => ns.length - i.toNat | _ => 0) ?_ ?_ ?_
    · refine ⟨[], raw, .non, none, none, rfl, rfl, sm2, ?_, rfl, upd_same, (fun p z => nomatch z)⟩
      obtain ⟨d2, hd2⟩ := hh1
      exact ⟨d2, by rw [upd_ne hhg]; exact hd2⟩
    · rintro σ H' ⟨pre, post, v, x4, x5, hraw, rfl, sm, hh, hw, hg, hvg⟩
      have ha' := sm.seq ha
      refine ⟨_, rfl, _, rfl, _, _, rfl, .inl ha', _, _, rfl, rfl, _, rfl, ?_⟩
      rw [List.length_map]
      cases post with
      | nil =>
        rw [List.append_nil] at hraw
        subst hraw
        have e : ¬ (((PyFlat.put raw).length : Int) < (ns.length : Int)) := by rw [← ln.put]; omega
        refine if_false_of (decide_eq_false e) ?_
        refine ⟨_, rfl, ?_⟩
        refine q H' g ?_
        rw [ln.ans]
        exact hg
      | cons c post =>
        obtain ⟨p, told, hc⟩ := ln.is c (by rw [hraw]; exact List.mem_append_right _ List.mem_cons_self)
        obtain ⟨fr, tn⟩ := turn_at hraw hc
        rw [← ln.put] at tn
        have hlt := tn.more
        have hfit := tn.fits
        have e : ((PyFlat.put pre).length : Int) < (ns.length : Int) := by omega
        refine if_true_of (decide_eq_true e) ?_
        -- end = call_end(calls, at)
        refine ⟨_, rfl, _, rfl, a, ns, (PyFlat.put pre).length, told.length, p, rfl, ha', tn.at_, tn.cnt, ?_⟩
        rw [← tn.end_]
        -- answer = answer_call(held, calls[at], calls[told_from(calls, at):end])
        refine ⟨_, rfl, _, rfl, _, rfl, _, _, _, _, rfl, rfl, ha', atI_nat (get_int tn.at_), ?_⟩
        refine ⟨_, rfl, _, rfl, _, rfl, a, ns, (PyFlat.put pre).length, p, rfl, ha', tn.at_, ?_⟩
        rw [← tn.from_]
        refine ⟨_, rfl, _, rfl, _, rfl, _, _, rfl, ha', fun t nt => ?_⟩
        rw [tn.cut]
        have s3 := Same.new (o := .lst (told.map V.int)) nt
        obtain ⟨d2, hd2⟩ := hh
        have hh3 : HeldAt C (upd H' t (.lst (told.map V.int))) h v := ⟨d2, s3 h _ hd2⟩
        have hw3 : WordIs (upd H' t (.lst (told.map V.int))) v (behind Kqi2Neutral.start pre) := by
          cases eb : behind Kqi2Neutral.start pre with
          | none => rw [eb] at hw; exact hw
          | some w =>
            rw [eb] at hw
            obtain ⟨h1, p1, h2, h3⟩ := hw
            exact ⟨h1, p1, h2, s3 p1 _ h3⟩
        refine ⟨h, t, _, v, c, p, told, rfl, hh3, hw3, upd_same, hc, fun H4 r v4 hh4 hw4 hv4 bt4 nr hr4 => ?_⟩
        have hg3 := s3 g _ hg
        have hg4 : H4 g = some (.lst ((soFar pre).map V.int)) := bt4 g _ hg3 (Ne.symm hhg)
        have hrg : r ≠ g := fun z => by rw [z, hg3] at nr; cases nr
        have hrh : r ≠ h := apart hh4 hr4
        have hlen : (soFar (pre ++ [c])).length ≤ 10000000 := by
          have h1 := soFar_le (pre ++ [c]) post
          rw [List.append_assoc] at h1
          have h2 := ln.few
          rw [hraw] at h2
          exact Nat.le_trans h1 h2
        have hso := soFar_more pre c
        generalize hans : (Kqi2Neutral.step (behind Kqi2Neutral.start pre) c).2 = ans at *
        have hlen2 : (soFar pre).length + (ans.length + 1) ≤ 10000000 := by
          rw [hso, List.length_append, List.length_cons] at hlen
          exact hlen
        -- given.append(len(answer))
        refine ⟨_, rfl, .inl ⟨rfl, _, SqL.of hg4⟩, _, rfl, _, _, rfl, .inl (SqL.of hr4), g, _, _, rfl, rfl, hg4, ?_, ?_⟩
        · rw [List.length_map]
          exact Nat.lt_of_lt_of_le (Nat.lt_succ_self _) (big_ok (by omega))
        have hr5 : upd H4 g (.lst ((soFar pre).map V.int ++ [V.int ((ans.map V.int).length : Int)])) r = some (.lst (ans.map V.int)) := by rw [upd_ne hrg]; exact hr4
        -- given.extend(answer)
        refine ⟨_, rfl, .inl ⟨rfl, _, SqL.of upd_same⟩, _, rfl, g, r, _, _, rfl, rfl, upd_same, hr5, ?_, ?_⟩
        · rw [List.length_append, List.length_map, List.length_map]
          exact big_ok (by show _ + 1 + _ ≤ _; omega)
        rw [upd_upd]
        -- at = end
        refine ⟨_, rfl, ⟨pre ++ [c], post, v4, some (.int ((PyFlat.put (pre ++ [c])).length : Int)), some (.ref r), ?_, rfl, fun b o eb => ?_, ?_, ?_, ?_, ?_⟩, ?_⟩
        · rw [hraw, List.append_assoc]
          rfl
        · have hb : b ≠ g := ne_of_none eb ngH
          have hbh : b ≠ h := ne_of_none eb nh
          rw [upd_ne hb]
          exact bt4 b o (s3 b o (sm b o eb)) hbh
        · obtain ⟨d4, hd4⟩ := hh4
          exact ⟨d4, by rw [upd_ne hhg]; exact hd4⟩
        · rw [behind_more]
          have hv4g : ∀ p, v4 = .ref p → p ≠ g := fun p z => by
            rcases hv4 with e4 | ⟨p', e4, n4⟩
            · exact hvg p (e4.symm.trans z)
            · rw [z] at e4
              cases e4
              exact fun z => by rw [z, hg3] at n4; cases n4
          cases eb : (Kqi2Neutral.step (behind Kqi2Neutral.start pre) c).1 with
          | none => rw [eb] at hw4; exact hw4
          | some w =>
            rw [eb] at hw4
            obtain ⟨h1, p1, h2, h3⟩ := hw4
            exact ⟨h1, p1, h2, by rw [upd_ne (hv4g p1 h2)]; exact h3⟩
        · rw [upd_same, hso, List.map_append, List.map_cons, List.length_map, List.append_assoc]
          rfl
        · intro p z
          rcases hv4 with e4 | ⟨p', e4, n4⟩
          · exact hvg p (e4.symm.trans z)
          · rw [z] at e4
            cases e4
            exact fun z => by rw [z, hg3] at n4; cases n4
        · show ns.length - ((PyFlat.put (pre ++ [c])).length : Int).toNat < ns.length - ((PyFlat.put pre).length : Int).toNat
          rw [Int.toNat_natCast, Int.toNat_natCast]
          omega
    · rintro σ H' Q1 Q2 hq ⟨x, e1, y, e2, p, ys, e3, e4, i, j, e5, e6, k, e7, e8⟩
      exact ⟨x, e1, y, e2, p, ys, e3, e4, i, j, e5, e6, k, e7, hq _ _ e8⟩
end
end Lw

set_option Elab.async false
set_option linter.all false
set_option maxRecDepth 100000
set_option maxHeartbeats 4000000
namespace Lw
open PySem PySem.Spec PyProof.Rows L2
open PySem.W (Codec)
/-- a def as the top has left it -/
def FnIn (K : PySem.W.Frag) (x : Str) (st : Stmt) : Prop := ∃ (f : Addr) (oc : Value) (od an : Option Addr) (sl : Array (Option Value)) (kV dc pm cd ct : Value), PySem.W.nsIn K mainGlobals x = some (some (.ref f)) ∧
  K.lookup f = some ⟨oc, od, .func (PySem.W.fnOf x x (defArgs st) (defBody st) (defScope st) .none kV dc pm an cd ct), sl⟩ ∧ PySem.W.codeIn K cd x = true ∧ PySem.W.keepIn K (.ref f) = true
theorem FnIn.mk {K : PySem.W.Frag} {x : Str} {st : Stmt} {f : Addr} {oc : Value} {od an : Option Addr} {sl : Array (Option Value)} {kV dc pm cd ct : Value} (a : PySem.W.nsIn K mainGlobals x = some (some (.ref f)))
    (l : K.lookup f = some ⟨oc, od, .func (PySem.W.fnOf x x (defArgs st) (defBody st) (defScope st) .none kV dc pm an cd ct), sl⟩) (c : PySem.W.codeIn K cd x = true) (k : PySem.W.keepIn K (.ref f) = true) : FnIn K x st := ⟨_, _, _, _, _, _, _, _, _, _, a, l, c, k⟩
theorem FnIn.at {K : PySem.W.Frag} {h : Heap} {mg : Str → Option Value} {x : Str} {st : Stmt} {ps : List Str} (X : K.In h) (G : h.Ns mainGlobals mg) (F : FnIn K x st)
    (hb : ∀ (kV doc pm : Value) (an : Option Addr) (cdv ct : Value) (us : List Value), us.length = ps.length → bindArgs (PySem.W.fnOf x x (defArgs st) (defBody st) (defScope st) .none kV doc pm an cdv ct) ⟨us, []⟩ = pure (ps.zip us)) : At K mg x st ps := by
  obtain ⟨f, oc, od, an, sl, kV, dc, pm, cd, ct, a, l, c, k⟩ := F
  have Fu := fun_mk (st := st) l c k
  exact ⟨f, _, Fu, PySem.W.mg_of X G a, k, Fu.binds hb⟩
/-- an int, a tuple as the top has left it -/
def IntIn (K : PySem.W.Frag) (x : Str) (i : Int) : Prop := ∃ t, PySem.W.nsIn K mainGlobals x = some (some (.int i t))
theorem IntIn.mk {K : PySem.W.Frag} {x : Str} {i : Int} {t : Tok} (a : PySem.W.nsIn K mainGlobals x = some (some (.int i t))) : IntIn K x i := ⟨t, a⟩
theorem IntIn.at {K : PySem.W.Frag} {h : Heap} {mg : Str → Option Value} {x : Str} {i : Int} (X : K.In h) (G : h.Ns mainGlobals mg) (F : IntIn K x i) : ∃ t, mg x = some (.int i t) := by
  obtain ⟨t, a⟩ := F
  exact ⟨t, PySem.W.mg_of X G a⟩
/-- a tuple as the top has left it -/
def TupIn (K : PySem.W.Frag) (x : Str) (xs : List V) : Prop := ∃ (a : Addr) (o : Obj) (its : Array Value) (n : Nat), PySem.W.nsIn K mainGlobals x = some (some (.ref a)) ∧ K.lookup a = some o ∧ o.cls = .type "tuple" ∧ o.data = .seq its n ∧ its.size ≤ sizeLine ∧ Vals xs its.toList
theorem TupIn.mk {K : PySem.W.Frag} {x : Str} {xs : List V} {a : Addr} {o : Obj} {its : Array Value} {n : Nat} (e : PySem.W.nsIn K mainGlobals x = some (some (.ref a))) (l : K.lookup a = some o) (c : o.cls = .type "tuple") (d : o.data = .seq its n) (z : its.size ≤ sizeLine) (v : Vals xs its.toList) : TupIn K x xs := ⟨a, o, its, n, e, l, c, d, z, v⟩
theorem TupIn.at {K : PySem.W.Frag} {h : Heap} {mg : Str → Option Value} {x : Str} {xs : List V} (X : K.In h) (G : h.Ns mainGlobals mg) (F : TupIn K x xs) : ∃ a, mg x = some (.ref a) ∧ ∀ H, SqT K H a xs := by
  obtain ⟨a, o, its, n, e, l, c, d, z, v⟩ := F
  exact ⟨a, PySem.W.mg_of X G e, fun H => .inr ⟨o, its, n, l, c, d, z, v⟩⟩
/-- the class as the top has left it -/
def ClIn (K : PySem.W.Frag) (C fI : Addr) : Prop := ∃ (oc : Value) (od an : Option Addr) (sl : Array (Option Value)) (kV dc pm cd ct : Value), PySem.W.nsIn K mainGlobals "Held" = some (some (.ref C)) ∧
  PySem.W.findIn K (.ref C) "__init__" = some (some (.ref fI)) ∧ PySem.W.isFn K (.ref fI) = true ∧ K.lookup fI = some ⟨oc, od, .func (PySem.W.fnOf "__init__" "Held.__init__" (defArgs sInit) (defBody sInit) (defScope sInit) .none kV dc pm an cd ct), sl⟩ ∧ PySem.W.codeIn K cd "Held.__init__" = true ∧ PySem.W.keepIn K (.ref fI) = true ∧
  PySem.W.plainGet K C Str.empty = true ∧ PySem.W.hasDictIn K C = true ∧ PySem.W.plainOver K C = true ∧ PySem.W.findIn K (.ref C) "__setattr__" = some (some (.builtin "object.__setattr__")) ∧ PySem.W.makesIn K C = true ∧ PySem.W.keepIn K (.ref C) = true ∧ PySem.W.findIn K (.ref C) "word" = some none
theorem ClIn.mk {K : PySem.W.Frag} {C fI : Addr} {oc : Value} {od an : Option Addr} {sl : Array (Option Value)} {kV dc pm cd ct : Value} (a : PySem.W.nsIn K mainGlobals "Held" = some (some (.ref C)))
  (b : PySem.W.findIn K (.ref C) "__init__" = some (some (.ref fI))) (c : PySem.W.isFn K (.ref fI) = true) (d : K.lookup fI = some ⟨oc, od, .func (PySem.W.fnOf "__init__" "Held.__init__" (defArgs sInit) (defBody sInit) (defScope sInit) .none kV dc pm an cd ct), sl⟩) (e : PySem.W.codeIn K cd "Held.__init__" = true) (f : PySem.W.keepIn K (.ref fI) = true)
  (g : PySem.W.plainGet K C Str.empty = true) (h : PySem.W.hasDictIn K C = true) (i : PySem.W.plainOver K C = true) (j : PySem.W.findIn K (.ref C) "__setattr__" = some (some (.builtin "object.__setattr__"))) (k : PySem.W.makesIn K C = true) (l : PySem.W.keepIn K (.ref C) = true) (m : PySem.W.findIn K (.ref C) "word" = some none) :
  ∃ C fI, ClIn K C fI := ⟨C, fI, _, _, _, _, _, _, _, _, _, a, b, c, d, e, f, g, h, i, j, k, l, m⟩
/-- the table as the top has left it: at each key the def of that name -/
def AllAt (K : PySem.W.Frag) (l : List DictEntry) : List (Int × Str) → Prop
  | [] => True
  | p :: r => (∃ f, addrAt l p.1 = some f ∧ PySem.W.nsIn K mainGlobals p.2 = some (some (.ref f))) ∧ AllAt K l r
theorem AllAt.get {K : PySem.W.Frag} {l : List DictEntry} : ∀ {fs : List (Int × Str)}, AllAt K l fs → ∀ p ∈ fs, ∃ f, addrAt l p.1 = some f ∧ PySem.W.nsIn K mainGlobals p.2 = some (some (.ref f))
  | q :: r, h, p, hp => by
    rcases List.mem_cons.mp hp with e | hp
    · rw [e]
      exact h.1
    · exact AllAt.get h.2 p hp
def TabIn (K : PySem.W.Frag) (x : Str) (fs : List (Int × Str)) : Prop := ∃ (a : Addr) (es : Array DictEntry) (n : Nat), PySem.W.nsIn K mainGlobals x = some (some (.ref a)) ∧ K.lookup a = some ⟨.type "dict", none, .dict es n, #[]⟩ ∧ intLooks es.toList = true ∧ AllAt K es.toList fs
theorem TabIn.mk {K : PySem.W.Frag} {x : Str} {fs : List (Int × Str)} {a : Addr} {es : Array DictEntry} {n : Nat} (e : PySem.W.nsIn K mainGlobals x = some (some (.ref a))) (l : K.lookup a = some ⟨.type "dict", none, .dict es n, #[]⟩) (i : intLooks es.toList = true) (t : AllAt K es.toList fs) : TabIn K x fs := ⟨a, es, n, e, l, i, t⟩
theorem AllAt.cons {K : PySem.W.Frag} {l : List DictEntry} {k : Int} {x : Str} {r : List (Int × Str)} {f : Addr} (h1 : addrAt l k = some f) (h2 : PySem.W.nsIn K mainGlobals x = some (some (.ref f))) (h3 : AllAt K l r) : AllAt K l ((k, x) :: r) := ⟨⟨f, h1, h2⟩, h3⟩
/-- a def of the table, by its name -/
theorem tab_of {P : Program} {wo : World} {K : PySem.W.Frag} {h : Heap} {mg : Str → Option Value} {base : Heap} {k : Nat} {C : Addr} {l : List DictEntry} {fs : List (Int × Str)} (X : K.In h) (G : h.Ns mainGlobals mg) (t : AllAt K l fs) {p : Int} {x : Str} (hp : (p, x) ∈ fs) (D : Df P wo K mg base k x HT2 (spCall C p)) :
    ∃ f, addrAt l p = some f ∧ Held P wo K mg base k f (spCall C p) := by
  obtain ⟨f, h1, h2⟩ := t.get _ hp
  obtain ⟨f', fd, F, m, kp, b⟩ := D.ex
  have e := m.symm.trans (PySem.W.mg_of X G h2)
  cases e
  exact ⟨f, h1, ⟨fd, HT2, F, kp, b⟩⟩
end Lw

set_option Elab.async false
set_option linter.all false
set_option maxRecDepth 100000
set_option maxHeartbeats 4000000
namespace Lw
open PySem PySem.Spec PyProof.Rows L2
theorem all_mk {P : Program} {wo : World} {K : PySem.W.Frag} {h : Heap} {mg : Str → Option Value} {fa : Addr} (X : K.In h) (G : h.Ns mainGlobals mg) (hfa : mg "answers" = some (.ref fa))
    (d_is_word : FnIn K "is_word" sIsWord)
    (d_later : FnIn K "later" sLater)
    (d_opposite : FnIn K "opposite" sOpposite)
    (d_backwards : FnIn K "backwards" sBackwards)
    (d_over : FnIn K "over" sOver)
    (d_turn : FnIn K "turn" sTurn)
    (d_number_of_ways : FnIn K "number_of_ways" sNumber)
    (d_way : FnIn K "way" sWay)
    (d_names : FnIn K "names" sNames)
    (d_ways_between : FnIn K "ways_between" sBetween)
    (d_ways_that_leave : FnIn K "ways_that_leave" sLeave)
    (d_leaving_of_each_kind : FnIn K "leaving_of_each_kind" sKinds)
    (d_is_handed : FnIn K "is_handed" sHanded)
    (d_again : FnIn K "again" sAgain)
    (d_tell : FnIn K "tell" sTell)
    (d_change : FnIn K "change" sChange)
    (d_answer_start : FnIn K "answer_start" sAStart)
    (d_answer_later : FnIn K "answer_later" sALater)
    (d_answer_opposite : FnIn K "answer_opposite" sAOpposite)
    (d_answer_backwards : FnIn K "answer_backwards" sABackwards)
    (d_answer_over : FnIn K "answer_over" sAOver)
    (d_answer_turn : FnIn K "answer_turn" sATurn)
    (d_answer_way : FnIn K "answer_way" sAWay)
    (d_answer_first : FnIn K "answer_first" sAFirst)
    (d_answer_names : FnIn K "answer_names" sANames)
    (d_answer_nth : FnIn K "answer_nth" sANth)
    (d_answer_which : FnIn K "answer_which" sAWhich)
    (d_answer_leaves : FnIn K "answer_leaves" sALeaves)
    (d_answer_four : FnIn K "answer_four" sAFour)
    (d_answer_alike : FnIn K "answer_alike" sAAlike)
    (d_answer_handed : FnIn K "answer_handed" sAHanded)
    (d_answer_again : FnIn K "answer_again" sAAgain)
    (d_answer_ups : FnIn K "answer_ups" sAUps)
    (d_answer_state : FnIn K "answer_state" sAState)
    (d_answer_call : FnIn K "answer_call" sCall)
    (d_told_from : FnIn K "told_from" sFrom)
    (d_call_end : FnIn K "call_end" sEnd)
    (d_answers : FnIn K "answers" sAnswers)
    (o_len : PySem.W.nsIn K mainGlobals "len" = some none)
    (o_range : PySem.W.nsIn K mainGlobals "range" = some none)
    (o_list : PySem.W.nsIn K mainGlobals "list" = some none)
    (o_tuple : PySem.W.nsIn K mainGlobals "tuple" = some none)
    (o_reversed : PySem.W.nsIn K mainGlobals "reversed" = some none)
    (o_sorted : PySem.W.nsIn K mainGlobals "sorted" = some none)
    (o_set : PySem.W.nsIn K mainGlobals "set" = some none)
    (o_all : PySem.W.nsIn K mainGlobals "all" = some none)
    (o_min : PySem.W.nsIn K mainGlobals "min" = some none)
    (i_KINDS_OF_WAYS : IntIn K "KINDS_OF_WAYS" (4))
    (i_MOST_STEPS : IntIn K "MOST_STEPS" (10))
    (i_NO_SUCH : IntIn K "NO_SUCH" (-2))
    (i_NO_WORD : IntIn K "NO_WORD" (-11))
    (i_NOT_AS_TOLD : IntIn K "NOT_AS_TOLD" (-22))
    (i_NOT_ALIKE : IntIn K "NOT_ALIKE" (-33))
    (t_CALLS_WITH_A_ROW : TupIn K "CALLS_WITH_A_ROW" [.int 0, .int 10, .int 13])
    (t_CALLS_WITH_A_NUMBER : TupIn K "CALLS_WITH_A_NUMBER" [.int 1, .int 5, .int 6, .int 9])
    (cl : ∃ C fI, ClIn K C fI)
    (tb : TabIn K "ANSWERED_BY" [(0, "answer_start"), (1, "answer_later"), (2, "answer_opposite"), (3, "answer_backwards"), (4, "answer_over"), (5, "answer_turn"), (6, "answer_way"), (7, "answer_first"), (8, "answer_names"), (9, "answer_nth"), (10, "answer_which"), (11, "answer_leaves"), (12, "answer_four"), (13, "answer_alike"), (14, "answer_handed"), (15, "answer_again"), (16, "answer_ups"), (17, "answer_state")])
    : ∃ fd : FuncData, (∀ (s : Shared) (us : List Value), us.length = (["calls"] : List Str).length → BindsTo s fd ⟨us, []⟩ ((["calls"] : List Str).zip us)) ∧ ∀ base : Heap, K.In base → base.Ns mainGlobals mg → FnOk P wo K mg base CX0 9 fa fd ["calls"] (spAnswers K) := by
  have A_is_word : At K mg "is_word" sIsWord ["row"] := d_is_word.at X G fun _ _ _ _ _ _ us hl => match us, hl with | [_], _ => rfl
  have A_later : At K mg "later" sLater ["word", "k"] := d_later.at X G fun _ _ _ _ _ _ us hl => match us, hl with | [_, _], _ => rfl
  have A_opposite : At K mg "opposite" sOpposite ["word"] := d_opposite.at X G fun _ _ _ _ _ _ us hl => match us, hl with | [_], _ => rfl
  have A_backwards : At K mg "backwards" sBackwards ["word"] := d_backwards.at X G fun _ _ _ _ _ _ us hl => match us, hl with | [_], _ => rfl
  have A_over : At K mg "over" sOver ["word"] := d_over.at X G fun _ _ _ _ _ _ us hl => match us, hl with | [_], _ => rfl
  have A_turn : At K mg "turn" sTurn ["word", "i"] := d_turn.at X G fun _ _ _ _ _ _ us hl => match us, hl with | [_, _], _ => rfl
  have A_number_of_ways : At K mg "number_of_ways" sNumber ["word"] := d_number_of_ways.at X G fun _ _ _ _ _ _ us hl => match us, hl with | [_], _ => rfl
  have A_way : At K mg "way" sWay ["word", "t"] := d_way.at X G fun _ _ _ _ _ _ us hl => match us, hl with | [_, _], _ => rfl
  have A_names : At K mg "names" sNames ["word"] := d_names.at X G fun _ _ _ _ _ _ us hl => match us, hl with | [_], _ => rfl
  have A_ways_between : At K mg "ways_between" sBetween ["word", "other"] := d_ways_between.at X G fun _ _ _ _ _ _ us hl => match us, hl with | [_, _], _ => rfl
  have A_ways_that_leave : At K mg "ways_that_leave" sLeave ["word"] := d_ways_that_leave.at X G fun _ _ _ _ _ _ us hl => match us, hl with | [_], _ => rfl
  have A_leaving_of_each_kind : At K mg "leaving_of_each_kind" sKinds ["word"] := d_leaving_of_each_kind.at X G fun _ _ _ _ _ _ us hl => match us, hl with | [_], _ => rfl
  have A_is_handed : At K mg "is_handed" sHanded ["word"] := d_is_handed.at X G fun _ _ _ _ _ _ us hl => match us, hl with | [_], _ => rfl
  have A_again : At K mg "again" sAgain ["word"] := d_again.at X G fun _ _ _ _ _ _ us hl => match us, hl with | [_], _ => rfl
  have A_tell : At K mg "tell" sTell ["row"] := d_tell.at X G fun _ _ _ _ _ _ us hl => match us, hl with | [_], _ => rfl
  have A_change : At K mg "change" sChange ["held", "word"] := d_change.at X G fun _ _ _ _ _ _ us hl => match us, hl with | [_, _], _ => rfl
  have A_answer_start : At K mg "answer_start" sAStart ["held", "told"] := d_answer_start.at X G fun _ _ _ _ _ _ us hl => match us, hl with | [_, _], _ => rfl
  have A_answer_later : At K mg "answer_later" sALater ["held", "told"] := d_answer_later.at X G fun _ _ _ _ _ _ us hl => match us, hl with | [_, _], _ => rfl
  have A_answer_opposite : At K mg "answer_opposite" sAOpposite ["held", "told"] := d_answer_opposite.at X G fun _ _ _ _ _ _ us hl => match us, hl with | [_, _], _ => rfl
  have A_answer_backwards : At K mg "answer_backwards" sABackwards ["held", "told"] := d_answer_backwards.at X G fun _ _ _ _ _ _ us hl => match us, hl with | [_, _], _ => rfl
  have A_answer_over : At K mg "answer_over" sAOver ["held", "told"] := d_answer_over.at X G fun _ _ _ _ _ _ us hl => match us, hl with | [_, _], _ => rfl
  have A_answer_turn : At K mg "answer_turn" sATurn ["held", "told"] := d_answer_turn.at X G fun _ _ _ _ _ _ us hl => match us, hl with | [_, _], _ => rfl
  have A_answer_way : At K mg "answer_way" sAWay ["held", "told"] := d_answer_way.at X G fun _ _ _ _ _ _ us hl => match us, hl with | [_, _], _ => rfl
  have A_answer_first : At K mg "answer_first" sAFirst ["held", "told"] := d_answer_first.at X G fun _ _ _ _ _ _ us hl => match us, hl with | [_, _], _ => rfl
  have A_answer_names : At K mg "answer_names" sANames ["held", "told"] := d_answer_names.at X G fun _ _ _ _ _ _ us hl => match us, hl with | [_, _], _ => rfl
  have A_answer_nth : At K mg "answer_nth" sANth ["held", "told"] := d_answer_nth.at X G fun _ _ _ _ _ _ us hl => match us, hl with | [_, _], _ => rfl
  have A_answer_which : At K mg "answer_which" sAWhich ["held", "told"] := d_answer_which.at X G fun _ _ _ _ _ _ us hl => match us, hl with | [_, _], _ => rfl
  have A_answer_leaves : At K mg "answer_leaves" sALeaves ["held", "told"] := d_answer_leaves.at X G fun _ _ _ _ _ _ us hl => match us, hl with | [_, _], _ => rfl
  have A_answer_four : At K mg "answer_four" sAFour ["held", "told"] := d_answer_four.at X G fun _ _ _ _ _ _ us hl => match us, hl with | [_, _], _ => rfl
  have A_answer_alike : At K mg "answer_alike" sAAlike ["held", "told"] := d_answer_alike.at X G fun _ _ _ _ _ _ us hl => match us, hl with | [_, _], _ => rfl
  have A_answer_handed : At K mg "answer_handed" sAHanded ["held", "told"] := d_answer_handed.at X G fun _ _ _ _ _ _ us hl => match us, hl with | [_, _], _ => rfl
  have A_answer_again : At K mg "answer_again" sAAgain ["held", "told"] := d_answer_again.at X G fun _ _ _ _ _ _ us hl => match us, hl with | [_, _], _ => rfl
  have A_answer_ups : At K mg "answer_ups" sAUps ["held", "told"] := d_answer_ups.at X G fun _ _ _ _ _ _ us hl => match us, hl with | [_, _], _ => rfl
  have A_answer_state : At K mg "answer_state" sAState ["held", "told"] := d_answer_state.at X G fun _ _ _ _ _ _ us hl => match us, hl with | [_, _], _ => rfl
  have A_answer_call : At K mg "answer_call" sCall ["held", "call", "told"] := d_answer_call.at X G fun _ _ _ _ _ _ us hl => match us, hl with | [_, _, _], _ => rfl
  have A_told_from : At K mg "told_from" sFrom ["calls", "at"] := d_told_from.at X G fun _ _ _ _ _ _ us hl => match us, hl with | [_, _], _ => rfl
  have A_call_end : At K mg "call_end" sEnd ["calls", "at"] := d_call_end.at X G fun _ _ _ _ _ _ us hl => match us, hl with | [_, _], _ => rfl
  have O : Own mg := ⟨PySem.W.mg_none_of X G o_len, PySem.W.mg_none_of X G o_range, PySem.W.mg_none_of X G o_list, PySem.W.mg_none_of X G o_tuple, PySem.W.mg_none_of X G o_reversed, PySem.W.mg_none_of X G o_sorted, PySem.W.mg_none_of X G o_set, PySem.W.mg_none_of X G o_all, PySem.W.mg_none_of X G o_min⟩
  have Co : Cons mg := ⟨i_KINDS_OF_WAYS.at X G, i_MOST_STEPS.at X G⟩
  have C2 : Cons2 mg := ⟨i_NO_SUCH.at X G, i_NO_WORD.at X G, i_NOT_AS_TOLD.at X G, i_NOT_ALIKE.at X G⟩
  have U : Tups K mg := ⟨t_CALLS_WITH_A_ROW.at X G, t_CALLS_WITH_A_NUMBER.at X G⟩
  obtain ⟨C, fI, oc, od, an, sl, kV, dc, pm, cd, ct, c1, c2, c3, c4, c5, c6, c7, c8, c9, c10, c11, c12, c13⟩ := cl
  have T : Cl K C := ⟨⟨c7, c8, c9, c10⟩, c13⟩
  have FI := fun_mk (st := sInit) c4 c5 c6
  have bI : Binds K _ ["self"] [] := FI.binds (ps := ["self"]) fun _ _ _ _ _ _ us hl => match us, hl with | [_], _ => rfl
  obtain ⟨f3, oc3, od3, an3, sl3, kV3, dc3, pm3, cd3, ct3, a3, l3, e3, k3⟩ := d_answers
  have F3 := fun_mk (st := sAnswers) l3 e3 k3
  have m3 := PySem.W.mg_of X G a3
  have ef := hfa.symm.trans m3
  cases ef
  refine ⟨PySem.W.fnOf "answers" "answers" (defArgs sAnswers) (defBody sAnswers) (defScope sAnswers) .none kV3 dc3 pm3 an3 cd3 ct3, fun s us hu => match us, hu with | [_], _ => .of_eq rfl, fun base _ _ => ?_⟩
  have GI : FnOk P wo K mg base CX0 1 fI _ ["self"] (spInit C) := ok_init FI T
  have w1 : Df P wo K mg base 1 "is_word" ["row"] spIsWord := ok_isWord O Co A_is_word
  have w2 : Df P wo K mg base 1 "later" ["word", "k"] spLater := ok_later A_later
  have w3 : Df P wo K mg base 1 "opposite" ["word"] spOpposite := ok_opposite A_opposite
  have w4 : Df P wo K mg base 1 "backwards" ["word"] spBackwards := ok_backwards O A_backwards
  have w5 : Df P wo K mg base 2 "over" ["word"] spOver := ok_over A_over w4 w3
  have w6 : Df P wo K mg base 1 "turn" ["word", "i"] spTurn := ok_turn A_turn
  have w7 : Df P wo K mg base 1 "number_of_ways" ["word"] spNumber := ok_number O Co A_number_of_ways
  have w8 : Df P wo K mg base 2 "way" ["word", "t"] spWay := ok_way O A_way w2 w3 w4
  have w9 : Df P wo K mg base 3 "names" ["word"] spNames := ok_names O A_names w7 w8
  have w10 : Df P wo K mg base 3 "ways_between" ["word", "other"] spBetween := ok_between O A_ways_between w7 w8
  have w11 : Df P wo K mg base 4 "ways_that_leave" ["word"] spLeave := ok_leave A_ways_that_leave w10
  have w12 : Df P wo K mg base 5 "leaving_of_each_kind" ["word"] spKinds := ok_kinds O Co A_leaving_of_each_kind w11
  have w13 : Df P wo K mg base 6 "is_handed" ["word"] spHanded := ok_handed A_is_handed w12
  have w14 : Df P wo K mg base 2 "again" ["word"] spAgain := ok_again O A_again w2
  have s1 : Df P wo K mg base 1 "tell" ["row"] spTell := ok_tell O A_tell
  have s2 : Df P wo K mg base 2 "change" ["held", "word"] (spChange C) := ok_change T A_change s1
  have a0 := (ok_aStart O T C2 A_answer_start w1).mono (k := 7) (by decide)
  have a1 := (ok_aLater O T C2 A_answer_later s2 w2).mono (k := 7) (by decide)
  have a2 := (ok_aOpposite T A_answer_opposite s2 w3).mono (k := 7) (by decide)
  have a3 := (ok_aBackwards T A_answer_backwards s2 w4).mono (k := 7) (by decide)
  have a4 := (ok_aOver T A_answer_over s2 w5).mono (k := 7) (by decide)
  have a5 := (ok_aTurn O T C2 A_answer_turn s2 w6).mono (k := 7) (by decide)
  have a6 := (ok_aWay T C2 A_answer_way w7 w8 s1).mono (k := 7) (by decide)
  have a7 := (ok_aFirst O T A_answer_first w9 s1).mono (k := 7) (by decide)
  have a8 := (ok_aNames O T A_answer_names w9).mono (k := 7) (by decide)
  have a9 := (ok_aNth O T C2 A_answer_nth w9 s1).mono (k := 7) (by decide)
  have a10 := (ok_aWhich O T C2 A_answer_which w1 w9).mono (k := 7) (by decide)
  have a11 := (ok_aLeaves T A_answer_leaves w11 s1).mono (k := 7) (by decide)
  have a12 := (ok_aFour T A_answer_four w12 s1).mono (k := 7) (by decide)
  have a13 := (ok_aAlike O T C2 A_answer_alike w1 w10).mono (k := 7) (by decide)
  have a14 : Df P wo K mg base 7 "answer_handed" HT2 (spCall C 14) := ok_aHanded T A_answer_handed w13
  have a15 := (ok_aAgain T A_answer_again w14).mono (k := 7) (by decide)
  have a16 : Df P wo K mg base 7 "answer_ups" HT2 (spCall C 16) := (ok_aUps T A_answer_ups).mono (k := 7) (by decide)
  have a17 := (ok_aState T A_answer_state s1).mono (k := 7) (by decide)
  obtain ⟨dA, es, n, e1, e2, e4, e5⟩ := tb
  have B : Tab P wo K mg base 7 C := by
    refine ⟨dA, PySem.W.mg_of X G e1, fun p c told hc => ?_⟩
    have hp : ∃ f, addrAt es.toList p = some f ∧ Held P wo K mg base 7 f (spCall C p) := by
      cases hc with
      | row hp _ _ =>
        rcases hp with rfl | rfl | rfl
        · exact tab_of X G e5 (by decide) a0
        · exact tab_of X G e5 (by decide) a10
        · exact tab_of X G e5 (by decide) a13
      | num hp _ =>
        rcases hp with rfl | rfl | rfl | rfl
        · exact tab_of X G e5 (by decide) a1
        · exact tab_of X G e5 (by decide) a5
        · exact tab_of X G e5 (by decide) a6
        · exact tab_of X G e5 (by decide) a9
      | bare hp =>
        rcases hp with rfl | rfl | rfl | rfl | rfl | rfl | rfl | rfl | rfl | rfl | rfl
        · exact tab_of X G e5 (by decide) a2
        · exact tab_of X G e5 (by decide) a3
        · exact tab_of X G e5 (by decide) a4
        · exact tab_of X G e5 (by decide) a7
        · exact tab_of X G e5 (by decide) a8
        · exact tab_of X G e5 (by decide) a11
        · exact tab_of X G e5 (by decide) a12
        · exact tab_of X G e5 (by decide) a14
        · exact tab_of X G e5 (by decide) a15
        · exact tab_of X G e5 (by decide) a16
        · exact tab_of X G e5 (by decide) a17
    obtain ⟨f, h1, h2⟩ := hp
    exact ⟨f, ⟨es, n, e2, keysInt_of e4, h1⟩, h2⟩
  have r1 := ok_call T C2 A_answer_call B
  have r2 : Df P wo K mg base 1 "told_from" ["calls", "at"] (spFrom K) := ok_from U A_told_from
  have r3 : Df P wo K mg base 1 "call_end" ["calls", "at"] (spEnd K) := ok_end U A_call_end
  exact ok_answers O (PySem.W.mg_of X G c1) ⟨c11, c2, c3, c12⟩ GI bI F3 r1 r2 r3
end Lw
open PySem PySem.W PyProof.Rows
set_option maxRecDepth 100000 in
set_option maxHeartbeats 8000000 in
theorem PySem.Challenge.cw_layerwords_s01_answers_holds : PySem.Challenge.rw_layerwords_s01_answers.Holds := by
  w_on; k_headS; (case hw => exact ⟨[.list [.int 2]], by decide +kernel, by decide +kernel⟩)
  k_fillS
  refine L2.walk_specK (r := PySem.Challenge.rw_layerwords_s01_answers) (k := 9) (CX := L2.CX0) (ps := ["calls"]) (sp := Lw.spAnswers) (by decide +kernel) rfl rfl ⟨rfl, by decide, by decide⟩ (fun w h Y => PySem.W.kIn_of Y) ?F ?S (fun _ _ _ _ z => z)
  case F =>
    intro w mg fa h Y KX G hmg
    refine' Lw.all_mk KX G hmg ?d_is_word ?d_later ?d_opposite ?d_backwards ?d_over ?d_turn ?d_number_of_ways ?d_way ?d_names ?d_ways_between ?d_ways_that_leave ?d_leaving_of_each_kind ?d_is_handed ?d_again ?d_tell ?d_change ?d_answer_start ?d_answer_later ?d_answer_opposite ?d_answer_backwards ?d_answer_over ?d_answer_turn ?d_answer_way ?d_answer_first ?d_answer_names ?d_answer_nth ?d_answer_which ?d_answer_leaves ?d_answer_four ?d_answer_alike ?d_answer_handed ?d_answer_again ?d_answer_ups ?d_answer_state ?d_answer_call ?d_told_from ?d_call_end ?d_answers ?o_len ?o_range ?o_list ?o_tuple ?o_reversed ?o_sorted ?o_set ?o_all ?o_min ?i_KINDS_OF_WAYS ?i_MOST_STEPS ?i_NO_SUCH ?i_NO_WORD ?i_NOT_AS_TOLD ?i_NOT_ALIKE ?t_CALLS_WITH_A_ROW ?t_CALLS_WITH_A_NUMBER ?cl ?tb
    (case d_is_word => (refine' Lw.FnIn.mk ?a ?l ?c ?k; (case a => k_is); (case l => k_is); (case c => k_is); (case k => k_is)))
    (case d_later => (refine' Lw.FnIn.mk ?a ?l ?c ?k; (case a => k_is); (case l => k_is); (case c => k_is); (case k => k_is)))
    (case d_opposite => (refine' Lw.FnIn.mk ?a ?l ?c ?k; (case a => k_is); (case l => k_is); (case c => k_is); (case k => k_is)))
    (case d_backwards => (refine' Lw.FnIn.mk ?a ?l ?c ?k; (case a => k_is); (case l => k_is); (case c => k_is); (case k => k_is)))
    (case d_over => (refine' Lw.FnIn.mk ?a ?l ?c ?k; (case a => k_is); (case l => k_is); (case c => k_is); (case k => k_is)))
    (case d_turn => (refine' Lw.FnIn.mk ?a ?l ?c ?k; (case a => k_is); (case l => k_is); (case c => k_is); (case k => k_is)))
    (case d_number_of_ways => (refine' Lw.FnIn.mk ?a ?l ?c ?k; (case a => k_is); (case l => k_is); (case c => k_is); (case k => k_is)))
    (case d_way => (refine' Lw.FnIn.mk ?a ?l ?c ?k; (case a => k_is); (case l => k_is); (case c => k_is); (case k => k_is)))
    (case d_names => (refine' Lw.FnIn.mk ?a ?l ?c ?k; (case a => k_is); (case l => k_is); (case c => k_is); (case k => k_is)))
    (case d_ways_between => (refine' Lw.FnIn.mk ?a ?l ?c ?k; (case a => k_is); (case l => k_is); (case c => k_is); (case k => k_is)))
    (case d_ways_that_leave => (refine' Lw.FnIn.mk ?a ?l ?c ?k; (case a => k_is); (case l => k_is); (case c => k_is); (case k => k_is)))
    (case d_leaving_of_each_kind => (refine' Lw.FnIn.mk ?a ?l ?c ?k; (case a => k_is); (case l => k_is); (case c => k_is); (case k => k_is)))
    (case d_is_handed => (refine' Lw.FnIn.mk ?a ?l ?c ?k; (case a => k_is); (case l => k_is); (case c => k_is); (case k => k_is)))
    (case d_again => (refine' Lw.FnIn.mk ?a ?l ?c ?k; (case a => k_is); (case l => k_is); (case c => k_is); (case k => k_is)))
    (case d_tell => (refine' Lw.FnIn.mk ?a ?l ?c ?k; (case a => k_is); (case l => k_is); (case c => k_is); (case k => k_is)))
    (case d_change => (refine' Lw.FnIn.mk ?a ?l ?c ?k; (case a => k_is); (case l => k_is); (case c => k_is); (case k => k_is)))
    (case d_answer_start => (refine' Lw.FnIn.mk ?a ?l ?c ?k; (case a => k_is); (case l => k_is); (case c => k_is); (case k => k_is)))
    (case d_answer_later => (refine' Lw.FnIn.mk ?a ?l ?c ?k; (case a => k_is); (case l => k_is); (case c => k_is); (case k => k_is)))
    (case d_answer_opposite => (refine' Lw.FnIn.mk ?a ?l ?c ?k; (case a => k_is); (case l => k_is); (case c => k_is); (case k => k_is)))
    (case d_answer_backwards => (refine' Lw.FnIn.mk ?a ?l ?c ?k; (case a => k_is); (case l => k_is); (case c => k_is); (case k => k_is)))
    (case d_answer_over => (refine' Lw.FnIn.mk ?a ?l ?c ?k; (case a => k_is); (case l => k_is); (case c => k_is); (case k => k_is)))
    (case d_answer_turn => (refine' Lw.FnIn.mk ?a ?l ?c ?k; (case a => k_is); (case l => k_is); (case c => k_is); (case k => k_is)))
    (case d_answer_way => (refine' Lw.FnIn.mk ?a ?l ?c ?k; (case a => k_is); (case l => k_is); (case c => k_is); (case k => k_is)))
    (case d_answer_first => (refine' Lw.FnIn.mk ?a ?l ?c ?k; (case a => k_is); (case l => k_is); (case c => k_is); (case k => k_is)))
    (case d_answer_names => (refine' Lw.FnIn.mk ?a ?l ?c ?k; (case a => k_is); (case l => k_is); (case c => k_is); (case k => k_is)))
    (case d_answer_nth => (refine' Lw.FnIn.mk ?a ?l ?c ?k; (case a => k_is); (case l => k_is); (case c => k_is); (case k => k_is)))
    (case d_answer_which => (refine' Lw.FnIn.mk ?a ?l ?c ?k; (case a => k_is); (case l => k_is); (case c => k_is); (case k => k_is)))
    (case d_answer_leaves => (refine' Lw.FnIn.mk ?a ?l ?c ?k; (case a => k_is); (case l => k_is); (case c => k_is); (case k => k_is)))
    (case d_answer_four => (refine' Lw.FnIn.mk ?a ?l ?c ?k; (case a => k_is); (case l => k_is); (case c => k_is); (case k => k_is)))
    (case d_answer_alike => (refine' Lw.FnIn.mk ?a ?l ?c ?k; (case a => k_is); (case l => k_is); (case c => k_is); (case k => k_is)))
    (case d_answer_handed => (refine' Lw.FnIn.mk ?a ?l ?c ?k; (case a => k_is); (case l => k_is); (case c => k_is); (case k => k_is)))
    (case d_answer_again => (refine' Lw.FnIn.mk ?a ?l ?c ?k; (case a => k_is); (case l => k_is); (case c => k_is); (case k => k_is)))
    (case d_answer_ups => (refine' Lw.FnIn.mk ?a ?l ?c ?k; (case a => k_is); (case l => k_is); (case c => k_is); (case k => k_is)))
    (case d_answer_state => (refine' Lw.FnIn.mk ?a ?l ?c ?k; (case a => k_is); (case l => k_is); (case c => k_is); (case k => k_is)))
    (case d_answer_call => (refine' Lw.FnIn.mk ?a ?l ?c ?k; (case a => k_is); (case l => k_is); (case c => k_is); (case k => k_is)))
    (case d_told_from => (refine' Lw.FnIn.mk ?a ?l ?c ?k; (case a => k_is); (case l => k_is); (case c => k_is); (case k => k_is)))
    (case d_call_end => (refine' Lw.FnIn.mk ?a ?l ?c ?k; (case a => k_is); (case l => k_is); (case c => k_is); (case k => k_is)))
    (case d_answers => (refine' Lw.FnIn.mk ?a ?l ?c ?k; (case a => k_is); (case l => k_is); (case c => k_is); (case k => k_is)))
    (case o_len => k_is)
    (case o_range => k_is)
    (case o_list => k_is)
    (case o_tuple => k_is)
    (case o_reversed => k_is)
    (case o_sorted => k_is)
    (case o_set => k_is)
    (case o_all => k_is)
    (case o_min => k_is)
    (case i_KINDS_OF_WAYS => (refine' Lw.IntIn.mk ?a; (case a => k_is)))
    (case i_MOST_STEPS => (refine' Lw.IntIn.mk ?a; (case a => k_is)))
    (case i_NO_SUCH => (refine' Lw.IntIn.mk ?a; (case a => k_is)))
    (case i_NO_WORD => (refine' Lw.IntIn.mk ?a; (case a => k_is)))
    (case i_NOT_AS_TOLD => (refine' Lw.IntIn.mk ?a; (case a => k_is)))
    (case i_NOT_ALIKE => (refine' Lw.IntIn.mk ?a; (case a => k_is)))
    (case t_CALLS_WITH_A_ROW => (refine' Lw.TupIn.mk ?e ?l ?c ?d ?z ?v; (case e => k_is); (case l => k_is); (case c => rfl); (case d => rfl); (case z => decide +kernel); (case v => exact .cons ⟨_, rfl⟩ (.cons ⟨_, rfl⟩ (.cons ⟨_, rfl⟩ (.nil))))))
    (case t_CALLS_WITH_A_NUMBER => (refine' Lw.TupIn.mk ?e ?l ?c ?d ?z ?v; (case e => k_is); (case l => k_is); (case c => rfl); (case d => rfl); (case z => decide +kernel); (case v => exact .cons ⟨_, rfl⟩ (.cons ⟨_, rfl⟩ (.cons ⟨_, rfl⟩ (.cons ⟨_, rfl⟩ (.nil)))))))
    (case cl => (refine' Lw.ClIn.mk ?a ?b ?c ?d ?e ?f ?g ?h ?i ?j ?k ?l ?m; (case a => k_is); (case b => k_is); (case c => k_is); (case d => k_is); (case e => k_is); (case f => k_is); (case g => k_is); (case h => k_is); (case i => k_is); (case j => k_is); (case k => k_is); (case l => k_is); (case m => k_is)))
    (case tb => (refine' Lw.TabIn.mk ?e ?l ?i ?t; (case e => k_is); (case l => k_is); (case i => decide +kernel); (case t => (refine' Lw.AllAt.cons ?a ?b ?_; (case a => rfl); (case b => k_is)); (refine' Lw.AllAt.cons ?a ?b ?_; (case a => rfl); (case b => k_is)); (refine' Lw.AllAt.cons ?a ?b ?_; (case a => rfl); (case b => k_is)); (refine' Lw.AllAt.cons ?a ?b ?_; (case a => rfl); (case b => k_is)); (refine' Lw.AllAt.cons ?a ?b ?_; (case a => rfl); (case b => k_is)); (refine' Lw.AllAt.cons ?a ?b ?_; (case a => rfl); (case b => k_is)); (refine' Lw.AllAt.cons ?a ?b ?_; (case a => rfl); (case b => k_is)); (refine' Lw.AllAt.cons ?a ?b ?_; (case a => rfl); (case b => k_is)); (refine' Lw.AllAt.cons ?a ?b ?_; (case a => rfl); (case b => k_is)); (refine' Lw.AllAt.cons ?a ?b ?_; (case a => rfl); (case b => k_is)); (refine' Lw.AllAt.cons ?a ?b ?_; (case a => rfl); (case b => k_is)); (refine' Lw.AllAt.cons ?a ?b ?_; (case a => rfl); (case b => k_is)); (refine' Lw.AllAt.cons ?a ?b ?_; (case a => rfl); (case b => k_is)); (refine' Lw.AllAt.cons ?a ?b ?_; (case a => rfl); (case b => k_is)); (refine' Lw.AllAt.cons ?a ?b ?_; (case a => rfl); (case b => k_is)); (refine' Lw.AllAt.cons ?a ?b ?_; (case a => rfl); (case b => k_is)); (refine' Lw.AllAt.cons ?a ?b ?_; (case a => rfl); (case b => k_is)); (refine' Lw.AllAt.cons ?a ?b ?_; (case a => rfl); (case b => k_is)); exact trivial)))
  case S =>
    intro K H xs a hO hwi hask hx
    cases hx with
    | cons h1 h2 =>
      cases h2
      cases h1 with
      | lst hs ha =>
        have e := L2.ints_dw a.1 _ ha
        subst e
        exact ⟨_, a.1, rfl, hs, hask, fun H' p hp => .lst (L2.SqL.of hp) (L2.dw_ints _)⟩
#print axioms PySem.Challenge.cw_layerwords_s01_answers_holds
