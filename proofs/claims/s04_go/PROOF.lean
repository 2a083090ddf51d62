import PyProof.Rows.All
import Wide.All
import OpenK.AllK
import Wide.FinOn
import Open.SpecLaws
import KE.OsGo
import HandS.ForSpec
import HandS.Comp
import PySem.Challenge.RW_ratherwhere_s04_go
set_option Elab.async false
set_option linter.all false
set_option maxRecDepth 100000
set_option maxHeartbeats 2000000

namespace Rw
open Ks565
/-! ### The mathematics: what the program's loops add up to, in the specification's words -/
/-- one more item of a list taken -/
theorem take_more {α : Type} : ∀ {l : List α} {i : Nat} {x : α}, l[i]? = some x → l.take (i + 1) = l.take i ++ [x]
  | [], i, x, h => by simp at h
  | a :: l, 0, x, h => by
    have e : a = x := Option.some.inj h
    subst e
    rfl
  | a :: l, i + 1, x, h => by
    have ih := take_more (l := l) (i := i) (x := x) h
    show a :: l.take (i + 1) = a :: l.take i ++ [x]
    rw [ih]
    rfl
theorem getD_some {α : Type} {l : List α} {i : Nat} {x d : α} (h : l[i]? = some x) : l.getD i d = x := by
  rw [List.getD_eq_getElem?_getD, h]; rfl
theorem some_getD {α : Type} {l : List α} {i : Nat} (d : α) (h : i < l.length) : l[i]? = some (l.getD i d) := by
  rw [List.getD_eq_getElem?_getD, List.getElem?_eq_getElem h]; rfl

/-! #### what is handed in is as told -/
def wOk (x : Int) : Bool := !(decide (x < -20) || decide (20 < x))
def worthOk (n : Int) (v : List Int) : Bool := decide (1 ≤ n) && decide (n ≤ 5) && decide ((v.length : Int) = n * n) && v.all wOk
def groupsOk (n : Int) (g : List Int) : Bool := decide ((g.length : Int) = n) && g.all (fun x => decide (x < n))
theorem worthOk_lo {n : Int} {v : List Int} (h : n < 1) : worthOk n v = false := by
  unfold worthOk
  rw [decide_eq_false (show ¬ 1 ≤ n by omega)]
  rfl
theorem worthOk_hi {n : Int} {v : List Int} (h : 5 < n) : worthOk n v = false := by
  unfold worthOk
  rw [decide_eq_false (show ¬ n ≤ 5 by omega), Bool.and_false]
  rfl
def peopleOk (n : Int) : Bool := decide (1 ≤ n) && decide (n ≤ 5)
theorem peopleOk_lo {n : Int} (h : ¬ 1 ≤ n) : peopleOk n = false := by
  unfold peopleOk
  rw [decide_eq_false h]
  rfl
theorem peopleOk_hi {n : Int} (h : 1 ≤ n) : peopleOk n = decide (n ≤ 5) := by
  unfold peopleOk
  rw [decide_eq_true h]
  rfl
theorem peopleOk_says {n : Int} (h : peopleOk n = true) : 1 ≤ n ∧ n ≤ 5 := by
  unfold peopleOk at h
  rw [Bool.and_eq_true, decide_eq_true_iff, decide_eq_true_iff] at h
  exact h
theorem peopleOk_not {n : Int} (h : peopleOk n = false) : n < 1 ∨ 5 < n := by
  by_cases c : 1 ≤ n
  · rw [peopleOk_hi c, decide_eq_false_iff_not] at h
    omega
  · omega
theorem worthOk_people {n : Int} {v : List Int} (h : peopleOk n = false) : worthOk n v = false := by
  rcases peopleOk_not h with q | q
  · exact worthOk_lo q
  · exact worthOk_hi q
theorem worthOk_len {n : Int} {v : List Int} (h : (v.length : Int) ≠ n * n) : worthOk n v = false := by
  unfold worthOk
  rw [decide_eq_false h, Bool.and_false]
  rfl
theorem worthOk_item {n : Int} {v : List Int} {i : Nat} {x : Int} (h : v[i]? = some x) (hx : wOk x = false) : worthOk n v = false := by
  unfold worthOk
  have e : v.all wOk = false := by
    rw [List.all_eq_false]
    exact ⟨x, List.mem_of_getElem? h, by rw [hx]; simp⟩
  rw [e, Bool.and_false]
theorem worthOk_all {n : Int} {v : List Int} (h1 : ¬ n < 1) (h2 : ¬ 5 < n) (h3 : (v.length : Int) = n * n) (h4 : ∀ i x, i < v.length → v[i]? = some x → wOk x = true) : worthOk n v = true := by
  unfold worthOk
  have e : v.all wOk = true := by
    rw [List.all_eq_true]
    intro x hx
    obtain ⟨i, hi⟩ := List.getElem?_of_mem hx
    exact h4 i x (List.getElem?_eq_some_iff.mp hi).1 hi
  rw [e, decide_eq_true h3, decide_eq_true (show 1 ≤ n by omega), decide_eq_true (show n ≤ 5 by omega)]
  rfl
theorem wOk_lo {x : Int} (h : x < -20) : wOk x = false := by
  unfold wOk
  rw [decide_eq_true h]
  rfl
theorem wOk_hi {x : Int} (h : 20 < x) : wOk x = false := by
  unfold wOk
  rw [decide_eq_true h, Bool.or_true]
  rfl
theorem wOk_in {x : Int} (h1 : ¬ x < -20) (h2 : ¬ 20 < x) : wOk x = true := by
  unfold wOk
  rw [decide_eq_false h1, decide_eq_false h2]
  rfl
theorem worthOk_says {n : Int} {v : List Int} (h : worthOk n v = true) : 1 ≤ n ∧ n ≤ 5 ∧ (v.length : Int) = n * n := by
  unfold worthOk at h
  rw [Bool.and_eq_true, Bool.and_eq_true, Bool.and_eq_true, decide_eq_true_iff, decide_eq_true_iff, decide_eq_true_iff] at h
  exact ⟨h.1.1.1, h.1.1.2, h.1.2⟩
theorem groupsOk_len {n : Int} {g : List Int} (h : (g.length : Int) ≠ n) : groupsOk n g = false := by
  unfold groupsOk
  rw [decide_eq_false h]
  rfl
theorem groupsOk_item {n : Int} {g : List Int} {i : Nat} {x : Int} (h : g[i]? = some x) (hx : n ≤ x) : groupsOk n g = false := by
  unfold groupsOk
  have e : (g.all fun x => decide (x < n)) = false := by
    rw [List.all_eq_false]
    exact ⟨x, List.mem_of_getElem? h, by rw [decide_eq_false (show ¬ x < n by omega)]; simp⟩
  rw [e, Bool.and_false]
theorem groupsOk_all {n : Int} {g : List Int} (h3 : (g.length : Int) = n) (h4 : ∀ i x, i < g.length → g[i]? = some x → x < n) : groupsOk n g = true := by
  unfold groupsOk
  have e : (g.all fun x => decide (x < n)) = true := by
    rw [List.all_eq_true]
    intro x hx
    obtain ⟨i, hi⟩ := List.getElem?_of_mem hx
    exact decide_eq_true (h4 i x (List.getElem?_eq_some_iff.mp hi).1 hi)
  rw [e, decide_eq_true h3]
  rfl
theorem groupsOk_says {n : Int} {g : List Int} (h : groupsOk n g = true) : (g.length : Int) = n := by
  unfold groupsOk at h
  rw [Bool.and_eq_true, decide_eq_true_iff] at h
  exact h.1
theorem wOk_abs (x : Int) : (!decide (20 < x.natAbs)) = wOk x := by
  unfold wOk
  rw [Bool.eq_iff_iff]
  simp
  omega
theorem any_not_all {α : Type} (p : α → Bool) : ∀ l : List α, l.any p = !(l.all fun x => !p x)
  | [] => rfl
  | a :: l => by
    rw [List.any_cons, List.all_cons, any_not_all p l]
    cases p a <;> simp
theorem folk_ok {n : Int} {v : List Int} (h : worthOk n v = true) : folkOf n.toNat v = some ⟨n.toNat, v⟩ := by
  unfold worthOk at h
  rw [Bool.and_eq_true, Bool.and_eq_true, Bool.and_eq_true, decide_eq_true_iff, decide_eq_true_iff, decide_eq_true_iff] at h
  obtain ⟨⟨⟨h1, h2⟩, h3⟩, h4⟩ := h
  unfold folkOf
  rw [if_neg]
  rintro (q | q | q | q)
  · omega
  · have : (5 : Nat) < n.toNat := q
    omega
  · apply q
    have e : ((n.toNat : Nat) : Int) = n := by omega
    have e2 : (v.length : Int) = ((n.toNat * n.toNat : Nat) : Int) := by
      rw [Int.natCast_mul, e, h3]
    omega
  · rw [any_not_all] at q
    have e : (v.all fun x => !decide (MOST < x.natAbs)) = v.all wOk := by
      congr 1
      funext x
      exact wOk_abs x
    rw [e, h4] at q
    cases q
theorem folk_no {n : Int} (h0 : 0 ≤ n) {v : List Int} (h : worthOk n v = false) : folkOf n.toNat v = none := by
  unfold folkOf
  rw [if_pos]
  by_cases c1 : 1 ≤ n
  · by_cases c2 : n ≤ 5
    · by_cases c3 : (v.length : Int) = n * n
      · refine .inr (.inr (.inr ?_))
        rw [any_not_all]
        have e : (v.all fun x => !decide (MOST < x.natAbs)) = v.all wOk := by
          congr 1
          funext x
          exact wOk_abs x
        rw [e]
        unfold worthOk at h
        rw [decide_eq_true c1, decide_eq_true c2, decide_eq_true c3] at h
        simp only [Bool.true_and] at h
        rw [h]
        rfl
      · refine .inr (.inr (.inl fun q => c3 ?_))
        have e : ((n.toNat : Nat) : Int) = n := by omega
        rw [q, Int.natCast_mul, e]
    · refine .inr (.inl ?_)
      show (5 : Nat) < n.toNat
      omega
  · exact .inl (by omega)
theorem all_toNat {n : Int} (h0 : 0 ≤ n) : ∀ {g : List Int}, (∀ x ∈ g, 0 ≤ x) → ((g.map Int.toNat).all fun x => decide (x < n.toNat)) = g.all fun x => decide (x < n)
  | [], _ => rfl
  | a :: g, h => by
    have ha := h a (List.mem_cons_self ..)
    rw [List.map_cons, List.all_cons, List.all_cons, all_toNat h0 fun x hx => h x (List.mem_cons_of_mem _ hx)]
    congr 1
    rw [Bool.eq_iff_iff, decide_eq_true_iff, decide_eq_true_iff]
    omega
theorem okGroups_eq {n : Int} (h0 : 0 ≤ n) {v g : List Int} (h : ∀ x ∈ g, 0 ≤ x) : okGroups ⟨n.toNat, v⟩ (g.map Int.toNat) = groupsOk n g := by
  unfold okGroups groupsOk
  rw [all_toNat h0 h, List.length_map]
  congr 1
  rw [Bool.eq_iff_iff, beq_iff_eq, decide_eq_true_iff]
  show g.length = n.toNat ↔ _
  omega

/-! #### groups numbered as they first come -/
def seenStep (s : List Int) (x : Int) : List Int := if x ∈ s then s else s ++ [x]
def naTurn (s : List Int × List Nat) (x : Int) : List Int × List Nat := (seenStep s.1 x, s.2 ++ [(seenStep s.1 x).idxOf x])
def na (g : List Int) : List Int × List Nat := g.foldl naTurn ([], [])
def anew (g : List Int) : List Nat := (na g).2
theorem na_more {g : List Int} {i : Nat} {x : Int} (h : g[i]? = some x) : na (g.take (i + 1)) = naTurn (na (g.take i)) x := by
  unfold na
  rw [take_more h, List.foldl_append]
  rfl
theorem seen_mem (s : List Int) (x : Int) : x ∈ seenStep s x := by
  unfold seenStep
  by_cases h : x ∈ s
  · rw [if_pos h]; exact h
  · rw [if_neg h]; simp
theorem seen_grows : ∀ (r s : List Int), ∃ t, r.foldl seenStep s = s ++ t
  | [], s => ⟨[], by simp⟩
  | x :: r, s => by
    obtain ⟨t, e⟩ := seen_grows r (seenStep s x)
    rw [List.foldl_cons, e]
    unfold seenStep
    by_cases h : x ∈ s
    · rw [if_pos h]; exact ⟨t, rfl⟩
    · rw [if_neg h]; exact ⟨x :: t, by simp⟩
theorem idxOf_takeWhile : ∀ (s t : List Int) (x : Int), x ∈ s → ((s ++ t).takeWhile fun y => y != x).length = s.idxOf x
  | [], t, x, h => by simp at h
  | a :: s, t, x, h => by
    rw [List.cons_append, List.takeWhile_cons, List.idxOf_cons]
    by_cases e : a = x
    · subst e
      simp
    · have h2 : x ∈ s := by
        rcases List.mem_cons.mp h with q | q
        · exact absurd q.symm e
        · exact q
      have e1 : (a != x) = true := by simpa using e
      have e2 : (a == x) = false := by simpa using e
      rw [e1, if_pos rfl, e2, List.length_cons, idxOf_takeWhile s t x h2]
      rfl
theorem na_fold : ∀ (r s : List Int) (o : List Nat), (r.foldl naTurn (s, o)).2 = o ++ r.map fun x => ((r.foldl seenStep s).takeWhile fun y => y != x).length
  | [], s, o => by simp
  | x :: r, s, o => by
    rw [List.foldl_cons, List.foldl_cons]
    show (r.foldl naTurn (seenStep s x, o ++ [(seenStep s x).idxOf x])).2 = _
    rw [na_fold r, List.map_cons, List.append_assoc]
    obtain ⟨t, e⟩ := seen_grows r (seenStep s x)
    rw [e, idxOf_takeWhile _ t x (seen_mem s x)]
    rfl
theorem seen_nat : ∀ (r s : List Nat), (r.map Int.ofNat).foldl seenStep (s.map Int.ofNat) = (r.foldl (fun l x => if l.contains x then l else l ++ [x]) s).map Int.ofNat
  | [], s => rfl
  | x :: r, s => by
    rw [List.map_cons, List.foldl_cons, List.foldl_cons]
    have e : seenStep (s.map Int.ofNat) (Int.ofNat x) = (if s.contains x then s else s ++ [x]).map Int.ofNat := by
      unfold seenStep
      by_cases h : x ∈ s
      · have h2 : Int.ofNat x ∈ s.map Int.ofNat := List.mem_map.mpr ⟨x, h, rfl⟩
        have h3 : s.contains x = true := by simpa using h
        rw [if_pos h2, if_pos h3]
      · have h2 : ¬ Int.ofNat x ∈ s.map Int.ofNat := fun q => by
          obtain ⟨y, hy, e⟩ := List.mem_map.mp q
          have e2 : y = x := Int.ofNat.inj e
          exact h (e2 ▸ hy)
        have h3 : ¬ s.contains x = true := by simpa using h
        rw [if_neg h2, if_neg h3, List.map_append]
        rfl
    rw [e, seen_nat r]
theorem tw_nat (x : Nat) : ∀ s : List Nat, ((s.map Int.ofNat).takeWhile fun y => y != Int.ofNat x).length = (s.takeWhile fun y => y != x).length
  | [] => rfl
  | a :: s => by
    rw [List.map_cons, List.takeWhile_cons, List.takeWhile_cons]
    have e : (Int.ofNat a != Int.ofNat x) = (a != x) := by
      rw [Bool.eq_iff_iff, bne_iff_ne, bne_iff_ne]
      exact not_congr ⟨fun q => Int.ofNat.inj q, fun q => congrArg _ q⟩
    rw [e]
    by_cases h : (a != x) = true
    · rw [if_pos h, if_pos h, List.length_cons, List.length_cons, tw_nat x s]
    · rw [if_neg h, if_neg h]
      rfl
theorem of_toNat : ∀ {g : List Int}, (∀ x ∈ g, 0 ≤ x) → (g.map Int.toNat).map Int.ofNat = g
  | [], _ => rfl
  | a :: g, h => by
    rw [List.map_cons, List.map_cons, of_toNat fun x hx => h x (List.mem_cons_of_mem _ hx)]
    congr 1
    have := h a (List.mem_cons_self ..)
    show ((a.toNat : Nat) : Int) = a
    omega
theorem anew_tidy {g : List Int} (h : ∀ x ∈ g, 0 ≤ x) : anew g = tidy (g.map Int.toNat) := by
  have key : ∀ gn : List Nat, anew (gn.map Int.ofNat) = tidy gn := fun gn => by
    unfold anew na tidy
    rw [na_fold, List.nil_append, List.map_map]
    have e := seen_nat gn []
    rw [List.map_nil] at e
    rw [e]
    show _ = gn.map _
    refine List.map_congr_left fun x _ => ?_
    exact tw_nat x _
  rw [← key, of_toNat h]
theorem na_len : ∀ (r s : List Int) (o : List Nat), (r.foldl naTurn (s, o)).2.length = o.length + r.length
  | [], s, o => rfl
  | x :: r, s, o => by
    rw [List.foldl_cons]
    show (r.foldl naTurn (seenStep s x, o ++ [(seenStep s x).idxOf x])).2.length = _
    rw [na_len r, List.length_append, List.length_cons, List.length_nil, List.length_cons]
    omega
theorem anew_len (g : List Int) : (anew g).length = g.length := by
  unfold anew na
  rw [na_len]
  simp
theorem na_seen_len : ∀ (r s : List Int) (o : List Nat), (r.foldl naTurn (s, o)).1.length ≤ s.length + r.length
  | [], s, o => Nat.le_refl _
  | x :: r, s, o => by
    rw [List.foldl_cons]
    show (r.foldl naTurn (seenStep s x, o ++ [(seenStep s x).idxOf x])).1.length ≤ _
    have h := na_seen_len r (seenStep s x) (o ++ [(seenStep s x).idxOf x])
    have h2 : (seenStep s x).length ≤ s.length + 1 := by
      unfold seenStep
      split
      · omega
      · simp
    rw [List.length_cons]
    omega
theorem na_seen_le (g : List Int) (i : Nat) : (na (g.take i)).1.length ≤ g.length := by
  have h := na_seen_len (g.take i) [] []
  have h2 : (g.take i).length ≤ g.length := by rw [List.length_take]; omega
  show ((g.take i).foldl naTurn ([], [])).1.length ≤ _
  simp at h
  omega
theorem na_out_le (g : List Int) (i : Nat) : (na (g.take i)).2.length ≤ g.length := by
  have h := na_len (g.take i) [] []
  have h2 : (g.take i).length ≤ g.length := by rw [List.length_take]; omega
  show ((g.take i).foldl naTurn ([], [])).2.length ≤ _
  simp at h
  omega
/-- where an item first stands -/
theorem idx_first {s : List Int} {x : Int} (h : x ∈ s) : s[s.idxOf x]? = some x ∧ ∀ m y, m < s.idxOf x → s[m]? = some y → y ≠ x := by
  have hl : s.idxOf x < s.length := List.idxOf_lt_length_iff.mpr h
  refine ⟨by rw [List.getElem?_eq_getElem hl, List.getElem_idxOf hl], fun m y hm hy e => ?_⟩
  subst e
  have h3 := List.not_of_lt_findIdx (p := fun z => z == y) (xs := s) (i := m) hm
  obtain ⟨hm2, e⟩ := List.getElem?_eq_some_iff.mp hy
  rw [e] at h3
  simp at h3

/-! #### how many groups -/
theorem foldl_max_ge : ∀ (l : List Nat) (a : Nat), a ≤ l.foldl max a ∧ ∀ x ∈ l, x ≤ l.foldl max a
  | [], a => ⟨Nat.le_refl _, fun x h => by simp at h⟩
  | y :: l, a => by
    rw [List.foldl_cons]
    obtain ⟨h1, h2⟩ := foldl_max_ge l (max a y)
    refine ⟨by omega, fun x hx => ?_⟩
    rcases List.mem_cons.mp hx with e | q
    · subst e; omega
    · exact h2 x q
theorem foldl_max_mem : ∀ (l : List Nat) (a : Nat), l.foldl max a = a ∨ l.foldl max a ∈ l
  | [], a => .inl rfl
  | y :: l, a => by
    rw [List.foldl_cons]
    rcases foldl_max_mem l (max a y) with e | e
    · rw [e]
      rcases Nat.le_total a y with q | q
      · right; rw [Nat.max_eq_right q]; simp
      · left; exact Nat.max_eq_left q
    · right; exact List.mem_cons_of_mem _ e
def ic (l : List Nat) : List Int := l.map Int.ofNat
theorem max_groups {g : List Nat} {m : Int} (h : m ∈ ic g) (h2 : ∀ y ∈ ic g, y ≤ m) : m + 1 = (groups g : Nat) := by
  obtain ⟨k, hk, rfl⟩ := List.mem_map.mp h
  have a := (foldl_max_ge g 0).2 k hk
  unfold groups
  rcases foldl_max_mem g 0 with e | e
  · rw [e] at a ⊢
    show ((k : Nat) : Int) + 1 = _
    omega
  · have b := h2 _ (List.mem_map.mpr ⟨_, e, rfl⟩)
    have b' : ((g.foldl max 0 : Nat) : Int) ≤ ((k : Nat) : Int) := b
    show ((k : Nat) : Int) + 1 = _
    omega
theorem groups_le {g : List Nat} {n : Nat} (h : ∀ x ∈ g, x < n) (hn : 0 < n) : groups g ≤ n := by
  unfold groups
  rcases foldl_max_mem g 0 with e | e
  · omega
  · have := h _ e
    omega

/-! #### what somebody has -/
/-- with those of group k among the first m -/
def pw (t : Folk) (g : List Nat) (i k m : Nat) : Int := with_ t i ((List.range m).filter fun j => g.getD j 0 == k)
theorem with_more (t : Folk) (i : Nat) (s : List Nat) (j : Nat) : with_ t i (s ++ [j]) = with_ t i s + likes t i j := by
  unfold with_
  rw [List.map_append, List.foldl_append]
  rfl
theorem pw_yes {t : Folk} {g : List Nat} {i k m : Nat} (h : g.getD m 0 = k) : pw t g i k (m + 1) = pw t g i k m + likes t i m := by
  unfold pw
  rw [List.range_succ, List.filter_append, List.filter_cons, if_pos (by simpa using h), List.filter_nil, with_more]
theorem pw_no {t : Folk} {g : List Nat} {i k m : Nat} (h : g.getD m 0 ≠ k) : pw t g i k (m + 1) = pw t g i k m := by
  unfold pw
  rw [List.range_succ, List.filter_append, List.filter_cons, if_neg (by simpa using h), List.filter_nil, List.append_nil]
theorem likes_self (t : Folk) (i : Nat) : likes t i i = 0 := if_pos rfl
theorem likes_ne {t : Folk} {i j : Nat} (h : i ≠ j) : likes t i j = t.v.getD (i * t.n + j) 0 := if_neg h
theorem pw_full (t : Folk) (g : List Nat) (i k : Nat) : pw t g i k g.length = with_ t i (members g k) := rfl
theorem pw_self {t : Folk} {g : List Nat} {i k : Nat} : pw t g i k (i + 1) = pw t g i k i := by
  by_cases h : g.getD i 0 = k
  · rw [pw_yes h, likes_self, Int.add_zero]
  · exact pw_no h
theorem sq_lt {n i j : Nat} (hi : i < n) (hj : j < n) : i * n + j < n * n := by
  have h : (i + 1) * n ≤ n * n := Nat.mul_le_mul_right n hi
  rw [Nat.succ_mul] at h
  omega

/-! #### the whole of worths -/
theorem ic_len (l : List Nat) : (ic l).length = l.length := List.length_map ..
def hasAll (t : Folk) (g : List Nat) (m : Nat) : List Int := (List.range m).map (worth t g)
theorem hasAll_more (t : Folk) (g : List Nat) (m : Nat) : hasAll t g (m + 1) = hasAll t g m ++ [worth t g m] := by
  unfold hasAll
  rw [List.range_succ, List.map_append]
  rfl
theorem hasAll_len (t : Folk) (g : List Nat) (m : Nat) : (hasAll t g m).length = m := by
  unfold hasAll
  rw [List.length_map, List.length_range]
/-- the refusals that come first -/
theorem folk_n {n : Int} {v : List Int} {F : Folk → Ans} (h0 : 0 ≤ n) (h : worthOk n v = false) : folk n.toNat v F = no (-22) := by
  unfold folk
  rw [folk_no h0 h]
theorem folk_y {n : Int} {v : List Int} {F : Folk → Ans} (h : worthOk n v = true) : folk n.toNat v F = F ⟨n.toNat, v⟩ := by
  unfold folk
  rw [folk_ok h]
theorem inG_no1 {n : Int} {v : List Int} {g : List Nat} {F : Folk → Groups → Ans} (h0 : 0 ≤ n) (h : worthOk n v = false) : inGroups n.toNat v g F = no (-22) := folk_n h0 h
theorem inG_no2 {n : Int} {v g : List Int} {F : Folk → Groups → Ans} (h0 : 0 ≤ n) (hg : ∀ x ∈ g, 0 ≤ x) (h : worthOk n v = true) (h2 : groupsOk n g = false) : inGroups n.toNat v (g.map Int.toNat) F = no (-22) := by
  unfold inGroups
  rw [folk_y h, okGroups_eq h0 hg, h2, if_neg (by simp)]
theorem inG_yes {n : Int} {v g : List Int} {F : Folk → Groups → Ans} (h0 : 0 ≤ n) (hg : ∀ x ∈ g, 0 ≤ x) (h : worthOk n v = true) (h2 : groupsOk n g = true) : inGroups n.toNat v (g.map Int.toNat) F = F ⟨n.toNat, v⟩ (anew g) := by
  unfold inGroups
  rw [folk_y h, okGroups_eq h0 hg, h2, if_pos rfl, ← anew_tidy hg]
theorem f_worths {n : Int} {v g : List Int} : PyKs565.worths n v g = Ks565Neutral.out (inGroups n.toNat v (g.map Int.toNat) fun t g => { ret := groups g, out := ic g ++ (List.range n.toNat).map (worth t g) }) := rfl
theorem worths_no1 {n : Int} {v g : List Int} (h0 : 0 ≤ n) (h : worthOk n v = false) : PyKs565.worths n v g = [-22] := by
  rw [f_worths, inG_no1 h0 h]
  rfl
theorem worths_no2 {n : Int} {v g : List Int} (h0 : 0 ≤ n) (hg : ∀ x ∈ g, 0 ≤ x) (h : worthOk n v = true) (h2 : groupsOk n g = false) : PyKs565.worths n v g = [-22] := by
  rw [f_worths, inG_no2 h0 hg h h2]
  rfl
theorem worths_yes {n : Int} {v g : List Int} (h0 : 0 ≤ n) (hg : ∀ x ∈ g, 0 ≤ x) (h : worthOk n v = true) (h2 : groupsOk n g = true) :
    PyKs565.worths n v g = ([(groups (anew g) : Int)] ++ ic (anew g)) ++ hasAll ⟨n.toNat, v⟩ (anew g) n.toNat := by
  rw [f_worths, inG_yes h0 hg h h2]
  rfl
end Rw

namespace Rw
open Ks565
/-! ### The mathematics of moves -/
theorem welcome_iff {t : Folk} {g : List Nat} {i k : Nat} : welcome t g i k = true ↔ ∀ j, j < g.length → g.getD j 0 = k → 0 ≤ likes t j i := by
  unfold welcome members
  rw [List.all_eq_true]
  constructor
  · intro h j hj e
    have := h j (List.mem_filter.mpr ⟨List.mem_range.mpr hj, by simpa using e⟩)
    simpa using this
  · intro h j hj
    obtain ⟨h1, h2⟩ := List.mem_filter.mp hj
    exact decide_eq_true (h j (List.mem_range.mp h1) (by simpa using h2))
theorem letGo_iff {t : Folk} {g : List Nat} {i : Nat} : letGo t g i = true ↔ ∀ j, j < g.length → g.getD j 0 = g.getD i 0 → j ≠ i → likes t j i ≤ 0 := by
  unfold letGo members
  rw [List.all_eq_true]
  constructor
  · intro h j hj e ne
    have := h j (List.mem_filter.mpr ⟨List.mem_range.mpr hj, by simpa using e⟩)
    rw [Bool.or_eq_true, beq_iff_eq, decide_eq_true_iff] at this
    rcases this with q | q
    · exact absurd q ne
    · exact q
  · intro h j hj
    obtain ⟨h1, h2⟩ := List.mem_filter.mp hj
    rw [Bool.or_eq_true, beq_iff_eq, decide_eq_true_iff]
    by_cases e : j = i
    · exact .inl e
    · exact .inr (h j (List.mem_range.mp h1) (by simpa using h2) e)
theorem welcome_no {t : Folk} {g : List Nat} {i k j : Nat} (hj : j < g.length) (e : g.getD j 0 = k) (ne : j ≠ i) (h : t.v.getD (j * t.n + i) 0 < 0) : welcome t g i k = false := by
  rw [← Bool.not_eq_true]
  intro q
  have := welcome_iff.mp q j hj e
  rw [likes_ne ne] at this
  omega
theorem letGo_no {t : Folk} {g : List Nat} {i j : Nat} (hj : j < g.length) (e : g.getD j 0 = g.getD i 0) (ne : j ≠ i) (h : 0 < t.v.getD (j * t.n + i) 0) : letGo t g i = false := by
  rw [← Bool.not_eq_true]
  intro q
  have := letGo_iff.mp q j hj e ne
  rw [likes_ne ne] at this
  omega
theorem rather_iff {t : Folk} {g : List Nat} {i k : Nat} (hk : k ≤ groups g) : rather t g i k = true ↔ ¬ with_ t i (members g k) ≤ with_ t i (members g (g.getD i 0)) := by
  unfold rather worth
  rw [Bool.and_eq_true, Bool.and_eq_true, bne_iff_ne, decide_eq_true_iff, decide_eq_true_iff]
  constructor
  · rintro ⟨_, h⟩
    omega
  · intro h
    refine ⟨⟨fun e => h ?_, hk⟩, by omega⟩
    rw [e]
    exact Int.le_refl _
theorem may_no1 {t : Folk} {w : Nat} {g : List Nat} {i k : Nat} (hk : k ≤ groups g) (h : with_ t i (members g k) ≤ with_ t i (members g (g.getD i 0))) : may t w g i k = false := by
  have e : rather t g i k = false := by
    rw [← Bool.not_eq_true]
    intro q
    exact (rather_iff hk).mp q h
  unfold may
  rw [e]
  rfl
theorem not_own {t : Folk} {g : List Nat} {i k : Nat} (h : ¬ with_ t i (members g k) ≤ with_ t i (members g (g.getD i 0))) : g.getD i 0 ≠ k := fun e => h (by rw [e]; exact Int.le_refl _)
theorem may_no2 {t : Folk} {w : Nat} {g : List Nat} {i k : Nat} (hw : 1 ≤ w) (h : welcome t g i k = false) : may t w g i k = false := by
  unfold may
  rw [h]
  have e : (w == 0) = false := by simp; omega
  rw [e, Bool.or_false, Bool.and_false]
  rfl
theorem may_no3 {t : Folk} {w : Nat} {g : List Nat} {i k : Nat} (hw : w = 2) (h : letGo t g i = false) : may t w g i k = false := by
  unfold may
  rw [h, hw]
  simp
theorem may_yes {t : Folk} {w : Nat} {g : List Nat} {i k : Nat} (hk : k ≤ groups g) (h : ¬ with_ t i (members g k) ≤ with_ t i (members g (g.getD i 0))) (h1 : 1 ≤ w → welcome t g i k = true) (h2 : 2 ≤ w → letGo t g i = true) : may t w g i k = true := by
  unfold may
  rw [(rather_iff hk).mpr h, Bool.true_and, Bool.and_eq_true, Bool.or_eq_true, Bool.or_eq_true]
  refine ⟨?_, ?_⟩
  · by_cases e : w = 0
    · left; rw [e]; rfl
    · exact .inr (h1 (by omega))
  · by_cases e : w = 2
    · exact .inr (h2 (by omega))
    · left
      simpa using e
/-- the moves of one person to the first K groups; of the first m persons -/
def mvs (t : Folk) (w : Nat) (g : List Nat) (i K : Nat) : List (Nat × Nat) := ((List.range K).filter fun k => may t w g i k).map fun k => (i, k)
def upTo (t : Folk) (w : Nat) (g : List Nat) (m : Nat) : List (Nat × Nat) := (List.range m).flatMap fun i => mvs t w g i (groups g + 1)
def enc (l : List (Nat × Nat)) : List Int := l.flatMap fun p => [(p.1 : Int), (p.2 : Int)]
theorem mvs_yes {t : Folk} {w : Nat} {g : List Nat} {i K : Nat} (h : may t w g i K = true) : mvs t w g i (K + 1) = mvs t w g i K ++ [(i, K)] := by
  unfold mvs
  rw [List.range_succ, List.filter_append, List.filter_cons, if_pos h, List.filter_nil, List.map_append]
  rfl
theorem mvs_no {t : Folk} {w : Nat} {g : List Nat} {i K : Nat} (h : may t w g i K = false) : mvs t w g i (K + 1) = mvs t w g i K := by
  unfold mvs
  rw [List.range_succ, List.filter_append, List.filter_cons, if_neg (by simp [h]), List.filter_nil, List.append_nil]
theorem upTo_more (t : Folk) (w : Nat) (g : List Nat) (m : Nat) : upTo t w g (m + 1) = upTo t w g m ++ mvs t w g m (groups g + 1) := by
  unfold upTo
  rw [List.range_succ, List.flatMap_append, List.flatMap_cons, List.flatMap_nil, List.append_nil]
theorem enc_app (a b : List (Nat × Nat)) : enc (a ++ b) = enc a ++ enc b := List.flatMap_append ..
theorem enc_len : ∀ l : List (Nat × Nat), (enc l).length = 2 * l.length
  | [] => rfl
  | x :: l => by
    have e : enc (x :: l) = [(x.1 : Int), (x.2 : Int)] ++ enc l := rfl
    rw [e]
    simp only [List.length_append, enc_len l, List.length_cons, List.length_nil]
    omega
theorem mvs_len (t : Folk) (w : Nat) (g : List Nat) (i K : Nat) : (mvs t w g i K).length ≤ K := by
  unfold mvs
  rw [List.length_map]
  have h := List.length_filter_le (fun k => may t w g i k) (List.range K)
  rw [List.length_range] at h
  exact h
theorem upTo_len (t : Folk) (w : Nat) (g : List Nat) : ∀ m : Nat, (upTo t w g m).length ≤ m * (groups g + 1)
  | 0 => Nat.zero_le _
  | m + 1 => by
    rw [upTo_more, List.length_append, Nat.succ_mul]
    have h1 := upTo_len t w g m
    have h2 := mvs_len t w g m (groups g + 1)
    omega
/-- no number is above how many persons there are -/
theorem fold_seen_len : ∀ (r s : List Int), (r.foldl seenStep s).length ≤ s.length + r.length
  | [], s => Nat.le_refl _
  | x :: r, s => by
    rw [List.foldl_cons]
    have h := fold_seen_len r (seenStep s x)
    have h2 : (seenStep s x).length ≤ s.length + 1 := by
      unfold seenStep
      split
      · omega
      · simp
    rw [List.length_cons]
    omega
theorem anew_le (g : List Int) : ∀ y ∈ anew g, y ≤ g.length := by
  intro y hy
  unfold anew na at hy
  rw [na_fold, List.nil_append] at hy
  obtain ⟨x, _, rfl⟩ := List.mem_map.mp hy
  have h1 := fold_seen_len g []
  have h2 := (List.takeWhile_prefix (fun y => y != x) (l := g.foldl seenStep [])).length_le
  simp at h1
  omega
theorem groups_anew (g : List Int) : groups (anew g) ≤ g.length + 1 := groups_le (fun x hx => Nat.lt_succ_of_le (anew_le g x hx)) (Nat.succ_pos _)
theorem f_moves {n w : Int} {v g : List Int} : PyKs565.moves n w v g = Ks565Neutral.out (inGroups n.toNat v (g.map Int.toNat) fun t g => if 2 < w.toNat then no (-22) else { ret := (moves t w.toNat g).length, out := enc (moves t w.toNat g) }) := rfl
theorem moves_no1 {n w : Int} {v g : List Int} (h0 : 0 ≤ n) (h : worthOk n v = false) : PyKs565.moves n w v g = [-22] := by
  rw [f_moves, inG_no1 h0 h]
  rfl
theorem moves_no2 {n w : Int} {v g : List Int} (h0 : 0 ≤ n) (hg : ∀ x ∈ g, 0 ≤ x) (h : worthOk n v = true) (h2 : groupsOk n g = false) : PyKs565.moves n w v g = [-22] := by
  rw [f_moves, inG_no2 h0 hg h h2]
  rfl
theorem moves_no3 {n w : Int} {v g : List Int} (h0 : 0 ≤ n) (hg : ∀ x ∈ g, 0 ≤ x) (h : worthOk n v = true) (h2 : groupsOk n g = true) (hw : 2 < w) : PyKs565.moves n w v g = [-22] := by
  rw [f_moves, inG_yes h0 hg h h2, if_pos (by omega)]
  rfl
theorem moves_yes {n w : Int} {v g : List Int} (h0 : 0 ≤ n) (hg : ∀ x ∈ g, 0 ≤ x) (h : worthOk n v = true) (h2 : groupsOk n g = true) (hw : ¬ 2 < w) :
    PyKs565.moves n w v g = [((upTo ⟨n.toNat, v⟩ w.toNat (anew g) n.toNat).length : Int)] ++ enc (upTo ⟨n.toNat, v⟩ w.toNat (anew g) n.toNat) := by
  rw [f_moves, inG_yes h0 hg h h2, if_neg (by omega)]
  rfl
end Rw

namespace Rw
open Ks565
/-! ### The mathematics of go -/
theorem seen_keeps : ∀ (r s : List Int) (x : Int), x ∈ s → x ∈ r.foldl seenStep s := fun r s x h => by
  obtain ⟨t, e⟩ := seen_grows r s
  rw [e]
  exact List.mem_append_left _ h
theorem seen_all : ∀ (r s : List Int) (x : Int), x ∈ r → x ∈ r.foldl seenStep s
  | [], s, x, h => by simp at h
  | y :: r, s, x, h => by
    rw [List.foldl_cons]
    rcases List.mem_cons.mp h with e | q
    · subst e
      exact seen_keeps r _ x (seen_mem s x)
    · exact seen_all r _ x q
theorem anew_map (g : List Int) : anew g = g.map fun x => (g.foldl seenStep []).idxOf x := by
  unfold anew na
  rw [na_fold, List.nil_append]
  refine List.map_congr_left fun x hx => ?_
  have h := idxOf_takeWhile (g.foldl seenStep []) [] x (seen_all g [] x hx)
  rw [List.append_nil] at h
  exact h
theorem anew_get {g : List Int} {i : Nat} (h : i < g.length) : (anew g).getD i 0 = (g.foldl seenStep []).idxOf (g.getD i 0) := by
  refine getD_some ?_
  rw [anew_map, List.getElem?_map, some_getD 0 h]
  rfl
theorem anew_inj {g : List Int} {i j : Nat} (hi : i < g.length) (hj : j < g.length) : (anew g).getD i 0 = (anew g).getD j 0 ↔ g.getD i 0 = g.getD j 0 := by
  rw [anew_get hi, anew_get hj]
  constructor
  · intro h
    have mi : g.getD i 0 ∈ g.foldl seenStep [] := seen_all g [] _ (List.mem_of_getElem? (some_getD 0 hi))
    have mj : g.getD j 0 ∈ g.foldl seenStep [] := seen_all g [] _ (List.mem_of_getElem? (some_getD 0 hj))
    have e1 := (idx_first mi).1
    have e2 := (idx_first mj).1
    rw [h, e2] at e1
    exact (Option.some.inj e1).symm
  · intro h
    rw [h]
theorem pw_same {t : Folk} {g g' : List Nat} {i k k' : Nat} : ∀ m : Nat, (∀ j, j < m → j ≠ i → (g.getD j 0 = k ↔ g'.getD j 0 = k')) → pw t g i k m = pw t g' i k' m
  | 0, _ => rfl
  | m + 1, h => by
    have ih := pw_same (t := t) m fun j hj => h j (by omega)
    by_cases e : m = i
    · subst e
      rw [pw_self, pw_self, ih]
    · have q := h m (by omega) e
      by_cases c : g.getD m 0 = k
      · rw [pw_yes c, pw_yes (q.mp c), ih]
      · rw [pw_no c, pw_no (fun z => c (q.mpr z)), ih]
theorem ic_getD {g : List Nat} {i : Nat} : (ic g).getD i 0 = ((g.getD i 0 : Nat) : Int) := by
  unfold ic
  rw [List.getD_eq_getElem?_getD, List.getD_eq_getElem?_getD, List.getElem?_map]
  cases g[i]? <;> rfl
theorem ic_nat (g : List Nat) : (ic g).map Int.toNat = g := by
  unfold ic
  rw [List.map_map]
  have : (Int.toNat ∘ Int.ofNat) = id := by
    funext x
    rfl
  rw [this, List.map_id]
theorem ic_pos {g : List Nat} : ∀ x ∈ ic g, 0 ≤ x := fun x hx => by
  obtain ⟨y, _, rfl⟩ := List.mem_map.mp hx
  exact Int.natCast_nonneg y
theorem anew_ic (g : List Nat) : anew (ic g) = tidy g := by
  rw [anew_tidy ic_pos, ic_nat]
theorem go_has {t : Folk} {g : List Nat} {i k : Nat} (hi : i < g.length) : worth t (go g i k) i = with_ t i (members g k) := by
  have hl : (go g i k).length = g.length := by
    unfold go
    rw [← anew_ic, anew_len, ic_len, List.length_set]
  unfold worth
  rw [← pw_full, ← pw_full, hl]
  refine (pw_same g.length fun j hj ne => ?_).symm
  unfold go
  have hi' : i < (ic (g.set i k)).length := by rw [ic_len, List.length_set]; exact hi
  have hj' : j < (ic (g.set i k)).length := by rw [ic_len, List.length_set]; exact hj
  rw [← anew_ic, anew_inj hj' hi', ic_getD, ic_getD]
  have e1 : (g.set i k).getD i 0 = k := by
    rw [List.getD_eq_getElem?_getD, List.getElem?_set_self hi]
    rfl
  have e2 : (g.set i k).getD j 0 = g.getD j 0 := by
    rw [List.getD_eq_getElem?_getD, List.getD_eq_getElem?_getD, List.getElem?_set_ne (Ne.symm ne)]
  rw [e1, e2]
  omega
theorem set_cut {g : List Nat} {i k : Nat} (hi : i < g.length) : ((ic g).take i ++ [(k : Int)]) ++ (ic g).drop (i + 1) = ic (g.set i k) := by
  unfold ic
  rw [List.set_eq_take_append_cons_drop, if_pos hi, List.map_append, List.map_cons, List.map_take, List.map_drop, List.append_assoc]
  rfl
theorem f_go {n i k : Int} {v g : List Int} : PyKs565.go n i k v g = Ks565Neutral.out (inGroups n.toNat v (g.map Int.toNat) fun t g => if n.toNat ≤ i.toNat ∨ groups g < k.toNat then no (-2) else { ret := if rather t g i.toNat k.toNat then 1 else 0, out := ic (go g i.toNat k.toNat) ++ [worth t (go g i.toNat k.toNat) i.toNat] }) := rfl
theorem go_no1 {n i k : Int} {v g : List Int} (h0 : 0 ≤ n) (h : worthOk n v = false) : PyKs565.go n i k v g = [-22] := by
  rw [f_go, inG_no1 h0 h]
  rfl
theorem go_no2 {n i k : Int} {v g : List Int} (h0 : 0 ≤ n) (hg : ∀ x ∈ g, 0 ≤ x) (h : worthOk n v = true) (h2 : groupsOk n g = false) : PyKs565.go n i k v g = [-22] := by
  rw [f_go, inG_no2 h0 hg h h2]
  rfl
theorem go_no3 {n i k : Int} {v g : List Int} (h0 : 0 ≤ n) (hg : ∀ x ∈ g, 0 ≤ x) (h : worthOk n v = true) (h2 : groupsOk n g = true) (h3 : n ≤ i ∨ (groups (anew g) : Int) < k) : PyKs565.go n i k v g = [-2] := by
  rw [f_go, inG_yes h0 hg h h2, if_pos (by omega)]
  rfl
theorem go_yes {n i k : Nat} {v g : List Int} (hg : ∀ x ∈ g, 0 ≤ x) (h : worthOk n v = true) (h2 : groupsOk n g = true) (hi : i < n) (hk : k ≤ groups (anew g)) :
    PyKs565.go n i k v g = ([if decide (with_ ⟨n, v⟩ i (members (anew g) ((anew g).getD i 0)) < with_ ⟨n, v⟩ i (members (anew g) k)) then (1 : Int) else 0] ++ ic (anew (ic ((anew g).set i k)))) ++ [with_ ⟨n, v⟩ i (members (anew g) k)] := by
  have h0 : (0 : Int) ≤ (n : Nat) := by omega
  have hl := groupsOk_says h2
  have hal : (anew g).length = n := by rw [anew_len]; omega
  have e : ∀ m : Nat, ((m : Nat) : Int).toNat = m := fun m => by omega
  rw [f_go, inG_yes h0 hg h h2, e, e, e, if_neg (by omega), anew_ic, go_has (by omega)]
  have er : rather ⟨n, v⟩ (anew g) i k = decide (with_ ⟨n, v⟩ i (members (anew g) ((anew g).getD i 0)) < with_ ⟨n, v⟩ i (members (anew g) k)) := by
    rw [Bool.eq_iff_iff, rather_iff hk, decide_eq_true_iff]
    omega
  rw [er]
  rfl
end Rw

namespace Rw
open PySem PySem.Spec PyProof.Rows L2
/-! ### the program's text by places; what its top has written -/
def topAt (i : Nat) : Stmt := PySem.Challenge.pw_ratherwhere_s04_go.main.body.getD i (.Pass ⟨0, 0, 0, 0⟩)
abbrev s_people_are_told : Stmt := topAt 6
abbrev s_worth_is_told : Stmt := topAt 7
abbrev s_groups_are_told : Stmt := topAt 8
abbrev s_number_anew : Stmt := topAt 9
abbrev s_how_many : Stmt := topAt 10
abbrev s_has_with : Stmt := topAt 11
abbrev s_would_rather_go : Stmt := topAt 12
abbrev s_go : Stmt := topAt 13
structure Txt (mg : Str → Option Value) : Prop where
  c_NOT_AS_TOLD : ∃ t, mg "NOT_AS_TOLD" = some (.int (-22) t)
  c_NOT_THERE : ∃ t, mg "NOT_THERE" = some (.int (-2) t)
  c_MOST_PEOPLE : ∃ t, mg "MOST_PEOPLE" = some (.int 5 t)
  c_LEAST_WORTH : ∃ t, mg "LEAST_WORTH" = some (.int (-20) t)
  c_MOST_WORTH : ∃ t, mg "MOST_WORTH" = some (.int 20 t)
  b_len : mg "len" = none
  b_range : mg "range" = none
  b_max : mg "max" = none
structure Def (K : PySem.W.Frag) (mg : Str → Option Value) (x : Str) (st : Stmt) (ps : List Str) (f : Addr) (fd : FuncData) : Prop where
  fn : Fun K x x st f fd
  gl : mg x = some (.ref f)
  bd : Binds K fd ps []
end Rw
namespace Rw
open PySem PySem.Spec PyProof.Rows L2
open PySem.W (Codec)
/-! ### small words for the readings -/
theorem ift {c : Bool} {A B : Prop} (hc : c = true) (h : A) : if c = true then A else B := by
  subst hc
  exact iteT h
theorem iff_ {c : Bool} {A B : Prop} (hc : c = false) (h : B) : if c = true then A else B := by
  subst hc
  exact iteF h
theorem neT {i j : Int} (h : i ≠ j) : (!decide (V.int i = V.int j)) = true := by
  rw [decide_eq_false (fun q => h (V.int.inj q))]
  rfl
theorem neF {i j : Int} (h : i = j) : (!decide (V.int i = V.int j)) = false := by
  rw [decide_eq_true (congrArg V.int h)]
  rfl
theorem eqT {i j : Int} (h : i = j) : decide (V.int i = V.int j) = true := decide_eq_true (congrArg V.int h)
theorem eqF {i j : Int} (h : i ≠ j) : decide (V.int i = V.int j) = false := decide_eq_false fun q => h (V.int.inj q)
theorem map_at {l : List Int} {i : Nat} {y : V} (h : (l.map V.int)[i]? = some y) : ∃ x, l[i]? = some x ∧ y = V.int x := by
  rw [List.getElem?_map] at h
  cases e : l[i]? with
  | none =>
    rw [e] at h
    cases h
  | some x =>
    rw [e] at h
    exact ⟨x, rfl, (Option.some.inj h).symm⟩
theorem at_map {l : List Int} {i : Nat} {x : Int} (h : l[i]? = some x) : (l.map V.int)[i]? = some (V.int x) := by
  rw [List.getElem?_map, h]
  rfl
theorem at_ic {l : List Nat} {i : Nat} (h : i < l.length) : ((ic l).map V.int)[i]? = some (V.int ((l.getD i 0 : Nat) : Int)) := by
  refine at_map ?_
  unfold ic
  rw [List.getElem?_map, some_getD 0 h]
  rfl
theorem at_v {l : List Int} {i : Nat} (h : i < l.length) : (l.map V.int)[i]? = some (V.int (l.getD i 0)) := at_map (some_getD 0 h)
theorem flat_ints : ∀ l : List Int, (l.map V.int).all flatV = true
  | [] => rfl
  | x :: r => by
    rw [List.map_cons, List.all_cons, flat_ints r]
    rfl
theorem inV_ints (x : Int) : ∀ l : List Int, inV (V.int x) (l.map V.int) = decide (x ∈ l)
  | [] => by
    rw [decide_eq_false (by simp)]
    rfl
  | y :: r => by
    have ih := inV_ints x r
    unfold inV at ih ⊢
    rw [List.map_cons, List.any_cons, ih, Bool.eq_iff_iff, Bool.or_eq_true, decide_eq_true_iff, decide_eq_true_iff, List.mem_cons]
    show ((y == x) = true ∨ x ∈ r) ↔ _
    rw [beq_iff_eq]
    exact ⟨fun q => q.elim (fun e => .inl e.symm) .inr, fun q => q.elim (fun e => .inl e.symm) .inr⟩
theorem few {α : Type} {l : List α} {n : Nat} (h : l.length ≤ n) (h2 : n ≤ 1000) : (l).length < sizeLine := small1000 (Nat.le_trans h h2)
theorem sm_new {H : Hp} {p : Addr} {o : HO} (h : H p = none) : Same H (upd H p o) := fun c q e => by
  rw [upd_ne (ne_of_none e h)]
  exact e
theorem cut_to {xs : List V} {i : Nat} (h : i ≤ xs.length) : cutV xs none (some ((i : Nat) : Int)) = xs.take i := by
  unfold cutV
  rw [HT.sIx_none, HT.sIx_nat, Nat.min_eq_left h]
  rfl
theorem cut_from {xs : List V} {i : Nat} (h : i ≤ xs.length) : cutV xs (some ((i : Nat) : Int)) none = xs.drop i := by
  unfold cutV
  rw [HT.sIx_none, HT.sIx_nat, Nat.min_eq_left h]
  exact List.take_of_length_le (by rw [List.length_drop]; exact Nat.le_refl _)
theorem map_len {l : List Int} : (l.map V.int).length = l.length := List.length_map ..
end Rw

namespace Rw
open PySem PySem.Spec PyProof.Rows L2
open PySem.W (Codec)
/-! ### people_are_told -/
def spPT : Sp := fun vs H Q _ => ∃ n : Int, vs = [.int n] ∧ Q (.bl (peopleOk n)) H
section
variable {P : Program} {w : World} {K : PySem.W.Frag} {mg : Str → Option Value} {base : Heap}
theorem scPT : FnScope ["n"] ["n"] (defScope s_people_are_told) := ⟨rfl, rfl, rfl, by decide +kernel, rfl, by decide +kernel, by decide +kernel⟩
theorem ok_people_are_told {f : Addr} {fd : FuncData} (F : Fun K "people_are_told" "people_are_told" s_people_are_told f fd) (T : Txt mg) : FnOk P w K mg base CX0 1 f fd ["n"] spPT := by
  obtain ⟨t1, g1⟩ := T.c_MOST_PEOPLE
  refine F.ok scPT (fun vs H Q E h => ?_) (fun cdv A outer s H vs Q E hr h => ?_)
  · obtain ⟨n, rfl, _⟩ := h
    rfl
  · obtain ⟨n, rfl, k⟩ := h
    refine ⟨_, pss_one (ps_ret (pe_and (pe_cmpR op_ge (pv 0) pe_int (nomark _)) (pe_one (pe_cmpR op_le (pv 0) (pe_glob (v := .int 5) rfl g1 ⟨_, rfl⟩) (nomark _))))), ?_⟩
    refine ⟨_, rfl, _, _, rfl, rfl, _, rfl, ?_⟩
    by_cases c1 : 1 ≤ n
    · refine ift (decide_eq_true c1) ?_
      rw [peopleOk_hi c1] at k
      exact ⟨_, rfl, _, _, rfl, rfl, k⟩
    · refine iff_ (decide_eq_false c1) ?_
      rw [peopleOk_lo c1] at k
      exact k
end
end Rw

namespace Rw
open PySem PySem.Spec PyProof.Rows L2
open PySem.W (Codec)
/-! ### worth_is_told -/
def spWT (K : PySem.W.Frag) : Sp := fun vs H Q _ => ∃ (n : Int) (a : Addr) (v : List Int), vs = [.int n, .ref a] ∧ SqL K H a (v.map V.int) ∧ Q (.bl (worthOk n v)) H
section
variable {P : Program} {w : World} {K : PySem.W.Frag} {mg : Str → Option Value} {base : Heap}
theorem scWT : FnScope ["n", "worth", "value"] ["n", "worth"] (defScope s_worth_is_told) := ⟨rfl, rfl, rfl, by decide +kernel, rfl, by decide +kernel, by decide +kernel⟩
theorem ok_worth_is_told {f : Addr} {fd : FuncData} (F : Fun K "worth_is_told" "worth_is_told" s_worth_is_told f fd) (T : Txt mg) {f0 : Addr} {fd0 : FuncData}
    (D0 : Def K mg "people_are_told" s_people_are_told ["n"] f0 fd0) : FnOk P w K mg base CX0 2 f fd ["n", "worth"] (spWT K) := by
  have G0 := ok_people_are_told (P := P) (w := w) (base := base) D0.fn T
  obtain ⟨t2, g2⟩ := T.c_LEAST_WORTH
  obtain ⟨t3, g3⟩ := T.c_MOST_WORTH
  refine F.ok scWT (fun vs H Q E h => ?_) (fun cdv A outer s H vs Q E hr h => ?_)
  · obtain ⟨n, a, v, rfl, _⟩ := h
    rfl
  · obtain ⟨n, a, v, rfl, hv, k⟩ := h
    refine ⟨_, pss_cons (ps_if (pt_not (pt_val (pe_call G0 hr rfl D0.gl D0.fn.kp D0.bd .nil pass0 (pa_cons (pv 0) pa_nil)))) (pss_one (ps_ret pe_bl)) pss_nil)
      (pss_cons (ps_if (pt_cmpR op_ne (pe_callB call_len_seq (by rfl) T.b_len PySem.boot_len (pa_cons (pv 1) pa_nil)) (pe_op op_mul (pv 0) (pv 0)) (nomark _)) (pss_one (ps_ret pe_bl)) pss_nil)
      (pss_cons (ps_for PassesOwn.never rfl (pi_list (pv 1)) (pg_name (i := 2) scWT.nd rfl (.inl rfl))
        (pss_one (ps_if (PW.pt (pw_or (pt_cmpR op_lt (pv 2) (pe_glob (v := .int (-20)) rfl g2 ⟨_, rfl⟩) (nomark _)) (pw_or1 (pt_cmpR op_gt (pv 2) (pe_glob (v := .int 20) rfl g3 ⟨_, rfl⟩) (nomark _))))) (pss_one (ps_ret pe_bl)) pss_nil)))
      (pss_one (ps_ret pe_bl)))), ?_⟩
    refine ⟨_, rfl, n, rfl, _, rfl, ?_⟩
    cases c0 : peopleOk n with
    | false =>
      refine iteT ?_
      rw [worthOk_people c0] at k
      exact k
    | true =>
    refine iteF ?_
    have c1 : ¬ n < 1 := by have := (peopleOk_says c0).1; omega
    have c2 : ¬ 5 < n := by have := (peopleOk_says c0).2; omega
    refine ⟨_, rfl, a, _, rfl, .inl hv, _, rfl, _, rfl, _, _, rfl, rfl, .inl ⟨by omega, by omega⟩, rfl, _, rfl, ?_⟩
    by_cases c3 : (((v.map V.int).length : Nat) : Int) = n * n
    · refine iff_ (neF c3) ?_
      have c3' : (v.length : Int) = n * n := by rw [map_len] at c3; exact c3
      refine ⟨_, rfl, a, rfl, ⟨_, hv⟩, for_list (K := K) (a := a) (xs := v.map V.int) (fun i σ H' => ∃ z : Option V, σ = [some (.int n), some (.ref a), z] ∧ H' = H ∧ ∀ j x, j < i → v[j]? = some x → wOk x = true)
        ⟨none, rfl, rfl, fun j x hj => absurd hj (Nat.not_lt_zero _)⟩ (fun i σ H' _ ⟨_, _, e, _⟩ => e ▸ hv) ?_ ?_⟩
      · rintro i y σ H' hi ⟨z, rfl, rfl, inv⟩
        obtain ⟨x, hx, rfl⟩ := map_at hi
        refine ⟨_, rfl, _, _, rfl, rfl, _, rfl, ?_⟩
        by_cases d1 : x < -20
        · refine ift (decide_eq_true d1) (iteT ?_)
          rw [worthOk_item hx (wOk_lo d1)] at k
          exact k
        refine iff_ (decide_eq_false d1) ?_
        refine ⟨_, rfl, _, _, rfl, rfl, _, rfl, ?_⟩
        by_cases d2 : 20 < x
        · refine ift (decide_eq_true d2) ?_
          rw [worthOk_item hx (wOk_hi d2)] at k
          exact k
        refine iff_ (decide_eq_false d2) ?_
        refine ⟨some (.int x), rfl, rfl, fun j x' hj hx' => ?_⟩
        by_cases e : j = i
        · subst e
          rw [hx] at hx'
          cases hx'
          exact wOk_in d1 d2
        · exact inv j x' (by omega) hx'
      · rintro σ H' ⟨z, rfl, rfl, inv⟩
        rw [map_len] at inv
        rw [worthOk_all c1 c2 c3' inv] at k
        exact k
    · refine ift (neT c3) ?_
      rw [map_len] at c3
      rw [worthOk_len c3] at k
      exact k
end
end Rw

namespace Rw
open PySem PySem.Spec PyProof.Rows L2
open PySem.W (Codec)
/-! ### groups_are_told -/
def spGT (K : PySem.W.Frag) : Sp := fun vs H Q _ => ∃ (n : Int) (b : Addr) (g : List Int), vs = [.int n, .ref b] ∧ SqL K H b (g.map V.int) ∧ Q (.bl (groupsOk n g)) H
section
variable {P : Program} {w : World} {K : PySem.W.Frag} {mg : Str → Option Value} {base : Heap}
theorem scGT : FnScope ["n", "groups", "number"] ["n", "groups"] (defScope s_groups_are_told) := ⟨rfl, rfl, rfl, by decide +kernel, rfl, by decide +kernel, by decide +kernel⟩
theorem ok_groups_are_told {f : Addr} {fd : FuncData} (F : Fun K "groups_are_told" "groups_are_told" s_groups_are_told f fd) (T : Txt mg) : FnOk P w K mg base CX0 1 f fd ["n", "groups"] (spGT K) := by
  refine F.ok scGT (fun vs H Q E h => ?_) (fun cdv A outer s H vs Q E hr h => ?_)
  · obtain ⟨n, a, v, rfl, _⟩ := h
    rfl
  · obtain ⟨n, b, g, rfl, hg, k⟩ := h
    refine ⟨_, pss_cons (ps_if (pt_cmpR op_ne (pe_callB call_len_seq (by rfl) T.b_len PySem.boot_len (pa_cons (pv 1) pa_nil)) (pv 0) (nomark _)) (pss_one (ps_ret pe_bl)) pss_nil)
      (pss_cons (ps_for PassesOwn.never rfl (pi_list (pv 1)) (pg_name (i := 2) scGT.nd rfl (.inl rfl))
        (pss_one (ps_if (pt_cmpR op_ge (pv 2) (pv 0) (nomark _)) (pss_one (ps_ret pe_bl)) pss_nil)))
      (pss_one (ps_ret pe_bl))), ?_⟩
    refine ⟨_, rfl, b, _, rfl, .inl hg, _, rfl, rfl, _, rfl, ?_⟩
    by_cases c3 : (((g.map V.int).length : Nat) : Int) = n
    · refine iff_ (neF c3) ?_
      have c3' : (g.length : Int) = n := by rw [map_len] at c3; exact c3
      refine ⟨_, rfl, b, rfl, ⟨_, hg⟩, for_list (K := K) (a := b) (xs := g.map V.int) (fun i σ H' => ∃ z : Option V, σ = [some (.int n), some (.ref b), z] ∧ H' = H ∧ ∀ j x, j < i → g[j]? = some x → x < n)
        ⟨none, rfl, rfl, fun j x hj => absurd hj (Nat.not_lt_zero _)⟩ (fun i σ H' _ ⟨_, _, e, _⟩ => e ▸ hg) ?_ ?_⟩
      · rintro i y σ H' hi ⟨z, rfl, rfl, inv⟩
        obtain ⟨x, hx, rfl⟩ := map_at hi
        refine ⟨_, rfl, _, rfl, _, _, rfl, rfl, _, rfl, ?_⟩
        by_cases d1 : n ≤ x
        · refine ift (decide_eq_true d1) ?_
          rw [groupsOk_item hx d1] at k
          exact k
        refine iff_ (decide_eq_false d1) ?_
        refine ⟨some (.int x), rfl, rfl, fun j x' hj hx' => ?_⟩
        by_cases e : j = i
        · subst e
          rw [hx] at hx'
          cases hx'
          omega
        · exact inv j x' (by omega) hx'
      · rintro σ H' ⟨z, rfl, rfl, inv⟩
        rw [map_len] at inv
        rw [groupsOk_all c3' inv] at k
        exact k
    · refine ift (neT c3) ?_
      rw [map_len] at c3
      rw [groupsOk_len c3] at k
      exact k
end
end Rw

namespace Rw
open PySem PySem.Spec PyProof.Rows L2
open PySem.W (Codec)
/-! ### number_anew -/
def spNA (K : PySem.W.Frag) : Sp := fun vs H Q _ => ∃ (b : Addr) (g : List Int), vs = [.ref b] ∧ SqL K H b (g.map V.int) ∧ g.length ≤ 100 ∧
  ∀ (H' : Hp) (p : Addr), Same H H' → H p = none → H' p = some (.lst ((ic (anew g)).map V.int)) → Q (.ref p) H'
/-- numbered.append(seen.index(number)), where number is among seen -/
theorem na_tail {K : PySem.W.Frag} {D : Ends} {H : Hp} {b ps pn : Addr} {x : Int} {s : List Int} {o : List Nat} (hs : H ps = some (.lst (s.map V.int))) (ho : H pn = some (.lst ((ic o).map V.int))) (hx : x ∈ s) (hl : o.length ≤ 1000)
    (k : D.nx [some (.ref b), some (.ref ps), some (.ref pn), some (.int x)] (upd H pn (.lst ((ic (o ++ [s.idxOf x])).map V.int)))) :
    tDrop (tBM K "list" rAppend (tVar 2) (tCons (tBM K "list" (rIndex K) (tVar 1) (tCons (tVar 3) tNil)) tNil)) D [some (.ref b), some (.ref ps), some (.ref pn), some (.int x)] H := by
  obtain ⟨h1, h2⟩ := idx_first hx
  refine ⟨_, rfl, .inl ⟨rfl, _, SqL.of ho⟩, _, rfl, .inl ⟨rfl, _, SqL.of hs⟩, _, rfl, ps, _, .int x, s.idxOf x, .int x, rfl, rfl, SqL.of hs, rfl, flat_ints s, at_map h1, beq_self_eq_true x, ?_, ?_⟩
  · intro m z hm hz
    obtain ⟨y, hy, rfl⟩ := map_at hz
    show (y == x) = false
    rw [beq_eq_false_iff_ne]
    exact h2 m y hm hy
  · refine ⟨pn, _, _, rfl, rfl, ho, ?_, ?_⟩
    · refine small1000 ?_
      rw [map_len, ic_len]
      exact hl
    · have e : (ic (o ++ [s.idxOf x])).map V.int = (ic o).map V.int ++ [V.int ((s.idxOf x : Nat) : Int)] := by
        unfold ic
        rw [List.map_append, List.map_append]
        rfl
      rw [e] at k
      exact k
section
variable {P : Program} {w : World} {K : PySem.W.Frag} {mg : Str → Option Value} {base : Heap}
theorem scNA : FnScope ["groups", "seen", "numbered", "number"] ["groups"] (defScope s_number_anew) := ⟨rfl, rfl, rfl, by decide +kernel, rfl, by decide +kernel, by decide +kernel⟩
theorem ok_number_anew {f : Addr} {fd : FuncData} (F : Fun K "number_anew" "number_anew" s_number_anew f fd) : FnOk P w K mg base CX0 1 f fd ["groups"] (spNA K) := by
  refine F.ok scNA (fun vs H Q E h => ?_) (fun cdv A outer s H vs Q E hr h => ?_)
  · obtain ⟨b, g, rfl, _⟩ := h
    rfl
  · obtain ⟨b, g, rfl, hg, hlen, k⟩ := h
    refine ⟨_, pss_cons (ps_set (i := 1) scNA.nd rfl (.inl rfl) (pe_lst pa_nil))
      (pss_cons (ps_set (i := 2) scNA.nd rfl (.inl rfl) (pe_lst pa_nil))
      (pss_cons (ps_for PassesOwn.never rfl (pi_list (pv 0)) (pg_name (i := 3) scNA.nd rfl (.inl rfl))
        (pss_cons (ps_if (pt_cmpR op_notIn_seq (pv 3) (pv 1) (by rfl)) (pss_one (ps_expr (pe_bm PySem.F.plainAttrs_list PySem.F.slot_list_append PySem.F.type_list_append mt_append (pv 1) (pa_cons (pv 3) pa_nil)))) pss_nil)
        (pss_one (ps_expr (pe_bm PySem.F.plainAttrs_list PySem.F.slot_list_append PySem.F.type_list_append mt_append (pv 2) (pa_cons (pe_bm PySem.F.plainAttrs_list PySem.F.slot_list_index PySem.F.type_list_index mt_index (pv 1) (pa_cons (pv 3) pa_nil)) pa_nil))))))
      (pss_one (ps_ret (pv 2))))), ?_⟩
    refine ⟨Nat.zero_le _, fun ps hps => ?_⟩
    refine ⟨Nat.zero_le _, fun pn hpn => ?_⟩
    have ne : pn ≠ ps := fun e => by
      rw [e, upd_same] at hpn
      cases hpn
    have hpn0 : H pn = none := by
      rw [upd_ne ne] at hpn
      exact hpn
    have S0 : Same H (upd (upd H ps (.lst [])) pn (.lst [])) := fun c o e => by
      rw [upd_ne (ne_of_none e hpn0), upd_ne (ne_of_none e hps)]
      exact e
    refine ⟨_, rfl, b, rfl, ⟨_, S0.seq hg⟩, for_list (K := K) (a := b) (xs := g.map V.int) (fun i σ H' => ∃ z : Option V, σ = [some (.ref b), some (.ref ps), some (.ref pn), z] ∧ Same H H' ∧
        H' ps = some (.lst ((na (g.take i)).1.map V.int)) ∧ H' pn = some (.lst ((ic (na (g.take i)).2).map V.int)))
      ⟨none, rfl, S0, (by rw [upd_ne (Ne.symm ne)]; exact upd_same), upd_same⟩ (fun i σ H' _ ⟨_, _, s5, _⟩ => s5.seq hg) ?_ ?_⟩
    · rintro i y σ H' hi ⟨z, rfl, s5, h1, h2⟩
      obtain ⟨x, hx, rfl⟩ := map_at hi
      have step := na_more hx
      have l1 := na_seen_le g i
      have l2 := na_out_le g i
      refine ⟨_, rfl, _, rfl, ps, _, rfl, .inl (SqL.of h1), rfl, flat_ints _, _, rfl, ?_⟩
      have fin : ∀ H2 : Hp, Same H H2 → H2 ps = some (.lst ((seenStep (na (g.take i)).1 x).map V.int)) → H2 pn = some (.lst ((ic (na (g.take i)).2).map V.int)) →
          ∃ z : Option V, [some (V.ref b), some (.ref ps), some (.ref pn), some (.int x)] = [some (.ref b), some (.ref ps), some (.ref pn), z] ∧ Same H (upd H2 pn (.lst ((ic ((na (g.take i)).2 ++ [(seenStep (na (g.take i)).1 x).idxOf x])).map V.int))) ∧
            (upd H2 pn (.lst ((ic ((na (g.take i)).2 ++ [(seenStep (na (g.take i)).1 x).idxOf x])).map V.int))) ps = some (.lst ((na (g.take (i + 1))).1.map V.int)) ∧
            (upd H2 pn (.lst ((ic ((na (g.take i)).2 ++ [(seenStep (na (g.take i)).1 x).idxOf x])).map V.int))) pn = some (.lst ((ic (na (g.take (i + 1))).2).map V.int)) := fun H2 s6 q1 q2 => by
        refine ⟨_, rfl, fun c o e => ?_, ?_, ?_⟩
        · rw [upd_ne (ne_of_none e hpn0)]
          exact s6 c o e
        · rw [upd_ne (Ne.symm ne), step]
          exact q1
        · rw [upd_same, step]
          rfl
      by_cases c : x ∈ (na (g.take i)).1
      · refine iff_ (show (!inV (V.int x) _) = false by rw [inV_ints, decide_eq_true c]; rfl) ?_
        have es : seenStep (na (g.take i)).1 x = (na (g.take i)).1 := if_pos c
        rw [es] at fin
        exact na_tail h1 h2 c (by omega) (fin H' s5 h1 h2)
      · refine ift (show (!inV (V.int x) _) = true by rw [inV_ints, decide_eq_false c]; rfl) ?_
        have es : seenStep (na (g.take i)).1 x = (na (g.take i)).1 ++ [x] := if_neg c
        have em : (seenStep (na (g.take i)).1 x).map V.int = (na (g.take i)).1.map V.int ++ [V.int x] := by
          rw [es, List.map_append]
          rfl
        refine ⟨_, rfl, .inl ⟨rfl, _, SqL.of h1⟩, _, rfl, ps, _, _, rfl, rfl, h1, small1000 (by rw [map_len]; omega), ?_⟩
        have q1 : (upd H' ps (.lst ((na (g.take i)).1.map V.int ++ [V.int x]))) ps = some (.lst ((seenStep (na (g.take i)).1 x).map V.int)) := by
          rw [upd_same, em]
        have q2 : (upd H' ps (.lst ((na (g.take i)).1.map V.int ++ [V.int x]))) pn = some (.lst ((ic (na (g.take i)).2).map V.int)) := by
          rw [upd_ne ne]
          exact h2
        refine na_tail q1 q2 (seen_mem _ x) (by omega) (fin _ (fun c o e => ?_) q1 q2)
        rw [upd_ne (ne_of_none e hps)]
        exact s5 c o e
    · rintro σ H' ⟨z, rfl, s5, h1, h2⟩
      rw [map_len, List.take_length] at h2
      exact ⟨_, rfl, k H' pn s5 hpn0 h2⟩
end
end Rw

namespace Rw
open PySem PySem.Spec PyProof.Rows L2
open PySem.W (Codec)
/-! ### how_many -/
def spHM (K : PySem.W.Frag) : Sp := fun vs H Q _ => ∃ (p : Addr) (g : List Nat), vs = [.ref p] ∧ SqL K H p ((ic g).map V.int) ∧ 0 < g.length ∧ Q (.int ((Ks565.groups g : Nat) : Int)) H
section
variable {P : Program} {w : World} {K : PySem.W.Frag} {mg : Str → Option Value} {base : Heap}
theorem scHM : FnScope ["numbered"] ["numbered"] (defScope s_how_many) := ⟨rfl, rfl, rfl, by decide +kernel, rfl, by decide +kernel, by decide +kernel⟩
theorem ok_how_many {f : Addr} {fd : FuncData} (F : Fun K "how_many" "how_many" s_how_many f fd) (T : Txt mg) : FnOk P w K mg base CX0 1 f fd ["numbered"] (spHM K) := by
  refine F.ok scHM (fun vs H Q E h => ?_) (fun cdv A outer s H vs Q E hr h => ?_)
  · obtain ⟨p, g, rfl, _⟩ := h
    rfl
  · obtain ⟨p, g, rfl, hg, hlen, k⟩ := h
    refine ⟨_, pss_one (ps_ret (pe_op op_add (pe_callB (cr_max rfl) (by rfl) T.b_max (by decide +kernel) (pa_cons (pv 0) pa_nil)) pe_int)), ?_⟩
    refine ⟨_, rfl, p, ic g, rfl, hg, (by rw [ic_len]; exact hlen), fun m hm hy => ⟨_, _, rfl, rfl, ?_⟩⟩
    rw [← max_groups hm hy] at k
    exact k
end
end Rw

namespace Rw
open PySem PySem.Spec PyProof.Rows L2
open PySem.W (Codec)
/-! ### has_with: what those of a group are worth to somebody -/
def spHW (K : PySem.W.Frag) : Sp := fun vs H Q _ => ∃ (n : Nat) (a p : Addr) (v : List Int) (g : List Nat) (i k : Nat), vs = [.int (n : Nat), .ref a, .ref p, .int (i : Nat), .int (k : Nat)] ∧ SqL K H a (v.map V.int) ∧ SqL K H p ((ic g).map V.int) ∧
  n ≤ 5 ∧ v.length = n * n ∧ g.length = n ∧ i < n ∧ Q (.int (Ks565.with_ ⟨n, v⟩ i (Ks565.members g k))) H
section
variable {P : Program} {w : World} {K : PySem.W.Frag} {mg : Str → Option Value} {base : Heap}
theorem scHW : FnScope ["n", "worth", "numbered", "i", "k", "total", "j"] ["n", "worth", "numbered", "i", "k"] (defScope s_has_with) := ⟨rfl, rfl, rfl, by decide +kernel, rfl, by decide +kernel, by decide +kernel⟩
theorem ok_has_with {f : Addr} {fd : FuncData} (F : Fun K "has_with" "has_with" s_has_with f fd) (T : Txt mg) : FnOk P w K mg base CX0 1 f fd ["n", "worth", "numbered", "i", "k"] (spHW K) := by
  refine F.ok scHW (fun vs H Q E h => ?_) (fun cdv A outer s H vs Q E hr h => ?_)
  · obtain ⟨n, a, p, v, g, i, k, rfl, _⟩ := h
    rfl
  · obtain ⟨n, a, p, v, g, i, k, rfl, hv, hg, hn, lv, lg, hi, q⟩ := h
    refine ⟨_, pss_cons (ps_set (i := 5) scHW.nd rfl (.inl rfl) pe_int)
      (pss_cons (ps_for PassesOwn.never rfl (pi_range1 rfl T.b_range (pa_cons (pv 0) pa_nil)) (pg_name (i := 6) scHW.nd rfl (.inl rfl))
        (pss_one (ps_if (PW.pt (pw_and (pt_cmpR op_ne (pv 6) (pv 3) (nomark _)) (pw_and1 (pt_cmpR op_eq (pe_ix ix_list (pv 2) (pv 6) (fun _ _ => rfl)) (pv 4) (nomark _)))))
          (pss_one (ps_aug (i := 5) scHW.nd rfl (.inl rfl) (pe_ix ix_list (pv 1) (pe_op op_add (pe_op op_mul (pv 3) (pv 0)) (pv 6)) (fun _ _ => rfl)) ip_add)) pss_nil)))
      (pss_one (ps_ret (pv 5)))), ?_⟩
    refine ⟨_, rfl, ((n : Nat) : Int), rfl, by omega, by omega, for_range (lo := 0) (n := ((n : Nat) : Int).toNat) (fun m σ H' => ∃ z : Option V, σ = [some (.int (n : Nat)), some (.ref a), some (.ref p), some (.int (i : Nat)), some (.int (k : Nat)), some (.int (pw ⟨n, v⟩ g i k m)), z] ∧ H' = H)
      ⟨none, rfl, rfl⟩ ?_ ?_⟩
    · rintro m σ H' hm ⟨z, rfl, rfl⟩
      have hm' : m < n := by omega
      refine ⟨_, rfl, _, rfl, rfl, _, rfl, ?_⟩
      by_cases c1 : m = i
      · subst c1
        refine iff_ (neF (by omega)) (iteF ?_)
        exact ⟨_, by rw [pw_self]; rfl, rfl⟩
      refine ift (neT (by omega)) ?_
      refine ⟨_, rfl, _, rfl, p, _, _, _, rfl, rfl, hg, at_of (Int.zero_add _) (at_ic (by omega)), _, rfl, rfl, _, rfl, ?_⟩
      by_cases c2 : g.getD m 0 = k
      · refine ift (eqT (by omega)) ?_
        have hat : i * n + m < v.length := by
          rw [lv]
          exact sq_lt hi hm'
        refine ⟨_, rfl, _, rfl, _, rfl, _, rfl, _, _, rfl, rfl, .inl ⟨by omega, by omega⟩, _, rfl, _, _, rfl, rfl, a, _, _, _, rfl, rfl, hv, at_of (j := i * n + m) (by push_cast; omega) (at_v hat), _, _, rfl, rfl, ?_⟩
        refine ⟨some (.int (0 + (m : Int))), ?_, rfl⟩
        rw [pw_yes c2, likes_ne (show i ≠ m from fun e => c1 e.symm)]
        rfl
      · refine iff_ (eqF (by omega)) ?_
        exact ⟨_, by rw [pw_no c2]; rfl, rfl⟩
    · rintro σ H' ⟨z, rfl, rfl⟩
      refine ⟨_, rfl, ?_⟩
      have e : ((n : Nat) : Int).toNat = g.length := by omega
      rw [e, pw_full]
      exact q
end
end Rw

namespace Rw
open PySem PySem.Spec PyProof.Rows L2
open PySem.W (Codec)
/-! ### would_rather_go -/
def spWR (K : PySem.W.Frag) : Sp := fun vs H Q _ => ∃ (n : Nat) (a p : Addr) (v : List Int) (g : List Nat) (i k : Nat), vs = [.int (n : Nat), .ref a, .ref p, .int (i : Nat), .int (k : Nat)] ∧ SqL K H a (v.map V.int) ∧ SqL K H p ((ic g).map V.int) ∧
  n ≤ 5 ∧ v.length = n * n ∧ g.length = n ∧ i < n ∧ Q (.bl (decide (Ks565.with_ ⟨n, v⟩ i (Ks565.members g (g.getD i 0)) < Ks565.with_ ⟨n, v⟩ i (Ks565.members g k)))) H
section
variable {P : Program} {w : World} {K : PySem.W.Frag} {mg : Str → Option Value} {base : Heap}
theorem scWR : FnScope ["n", "worth", "numbered", "i", "k"] ["n", "worth", "numbered", "i", "k"] (defScope s_would_rather_go) := ⟨rfl, rfl, rfl, by decide +kernel, rfl, by decide +kernel, by decide +kernel⟩
theorem ok_would_rather_go {f : Addr} {fd : FuncData} (F : Fun K "would_rather_go" "would_rather_go" s_would_rather_go f fd) (T : Txt mg) {f5 : Addr} {fd5 : FuncData}
    (D5 : Def K mg "has_with" s_has_with ["n", "worth", "numbered", "i", "k"] f5 fd5) : FnOk P w K mg base CX0 2 f fd ["n", "worth", "numbered", "i", "k"] (spWR K) := by
  have G5 := ok_has_with (P := P) (w := w) (base := base) D5.fn T
  refine F.ok scWR (fun vs H Q E h => ?_) (fun cdv A outer s H vs Q E hr h => ?_)
  · obtain ⟨n, a, p, v, g, i, k, rfl, _⟩ := h
    rfl
  · obtain ⟨n, a, p, v, g, i, k, rfl, hv, hg, hn, lv, lg, hi, q⟩ := h
    refine ⟨_, pss_one (ps_ret (pe_cmpR op_gt (pe_call G5 hr rfl D5.gl D5.fn.kp D5.bd .nil pass0 (pa_cons (pv 0) (pa_cons (pv 1) (pa_cons (pv 2) (pa_cons (pv 3) (pa_cons (pv 4) pa_nil))))))
          (pe_call G5 hr rfl D5.gl D5.fn.kp D5.bd .nil pass0 (pa_cons (pv 0) (pa_cons (pv 1) (pa_cons (pv 2) (pa_cons (pv 3) (pa_cons (pe_ix ix_list (pv 2) (pv 3) (fun _ _ => rfl)) pa_nil)))))) (nomark _))), ?_⟩
    refine ⟨_, rfl, _, rfl, _, rfl, _, rfl, _, rfl, n, a, p, v, g, i, k, rfl, hv, hg, hn, lv, lg, hi, ?_⟩
    refine ⟨_, rfl, _, rfl, _, rfl, _, rfl, _, rfl, _, rfl, p, _, _, _, rfl, rfl, hg, at_of rfl (at_ic (by omega)), n, a, p, v, g, i, g.getD i 0, rfl, hv, hg, hn, lv, lg, hi, ?_⟩
    exact ⟨_, _, rfl, rfl, q⟩
end
end Rw

namespace Rw
open PySem PySem.Spec PyProof.Rows L2
open PySem.W (Codec)
/-! ### go -/
def spAns (K : PySem.W.Frag) : Sp := fun vs H Q _ => ∃ (n i j : Int) (a b : Addr) (v g : List Int), vs = [.int n, .int i, .int j, .ref a, .ref b] ∧ SqL K H a (v.map V.int) ∧ SqL K H b (g.map V.int) ∧ 0 ≤ n ∧ 0 ≤ i ∧ 0 ≤ j ∧ (∀ x ∈ g, 0 ≤ x) ∧ g.length ≤ 7 ∧
  ∀ (H' : Hp) (p : Addr), H' p = some (.lst ((PyKs565.go n i j v g).map V.int)) → Q (.ref p) H'
section
variable {P : Program} {w : World} {K : PySem.W.Frag} {mg : Str → Option Value} {base : Heap}
theorem scGo : FnScope ["n", "i", "k", "worth", "groups", "numbered", "rather", "went"] ["n", "i", "k", "worth", "groups"] (defScope s_go) := ⟨rfl, rfl, rfl, by decide +kernel, rfl, by decide +kernel, by decide +kernel⟩
theorem ok_go {f : Addr} {fd : FuncData} (F : Fun K "go" "go" s_go f fd) (T : Txt mg) {f0 f1 f2 f3 f4 f5 f8 : Addr} {fd0 fd1 fd2 fd3 fd4 fd5 fd8 : FuncData}
    (D0 : Def K mg "people_are_told" s_people_are_told ["n"] f0 fd0) (D1 : Def K mg "worth_is_told" s_worth_is_told ["n", "worth"] f1 fd1) (D2 : Def K mg "groups_are_told" s_groups_are_told ["n", "groups"] f2 fd2) (D3 : Def K mg "number_anew" s_number_anew ["groups"] f3 fd3)
    (D4 : Def K mg "how_many" s_how_many ["numbered"] f4 fd4) (D5 : Def K mg "has_with" s_has_with ["n", "worth", "numbered", "i", "k"] f5 fd5) (D8 : Def K mg "would_rather_go" s_would_rather_go ["n", "worth", "numbered", "i", "k"] f8 fd8) :
    FnOk P w K mg base CX0 3 f fd ["n", "i", "k", "worth", "groups"] (spAns K) := by
  obtain ⟨t0, g0⟩ := T.c_NOT_AS_TOLD
  obtain ⟨t2, g2⟩ := T.c_NOT_THERE
  have G1 := ok_worth_is_told (P := P) (w := w) (base := base) D1.fn T D0
  have G2 := ok_groups_are_told (P := P) (w := w) (base := base) D2.fn T
  have G3 := ok_number_anew (P := P) (w := w) (mg := mg) (base := base) D3.fn
  have G4 := ok_how_many (P := P) (w := w) (base := base) D4.fn T
  have G5 := ok_has_with (P := P) (w := w) (base := base) D5.fn T
  have G8 := ok_would_rather_go (P := P) (w := w) (base := base) D8.fn T D5
  refine F.ok scGo (fun vs H Q E h => ?_) (fun cdv A outer s H vs Q E hr h => ?_)
  · obtain ⟨n, i, j, a, b, v, g, rfl, _⟩ := h
    rfl
  · obtain ⟨n, i, j, a, b, v, g, rfl, hv, hg, h0, hi0, hj0, hg0, lg7, k⟩ := h
    have hr1 : Room 1 _ := hr.mono (by decide)
    refine ⟨_, pss_cons (ps_if (pt_not (pt_val (pe_call G1 hr rfl D1.gl D1.fn.kp D1.bd .nil pass0 (pa_cons (pv 0) (pa_cons (pv 3) pa_nil))))) (pss_one (ps_ret (pe_lst (pa_cons (pe_glob (v := .int (-22)) rfl g0 ⟨_, rfl⟩) pa_nil)))) pss_nil)
      (pss_cons (ps_if (pt_not (pt_val (pe_call G2 hr1 rfl D2.gl D2.fn.kp D2.bd .nil pass0 (pa_cons (pv 0) (pa_cons (pv 4) pa_nil))))) (pss_one (ps_ret (pe_lst (pa_cons (pe_glob (v := .int (-22)) rfl g0 ⟨_, rfl⟩) pa_nil)))) pss_nil)
      (pss_cons (ps_set (i := 5) scGo.nd rfl (.inl rfl) (pe_call G3 hr1 rfl D3.gl D3.fn.kp D3.bd .nil pass0 (pa_cons (pv 4) pa_nil)))
      (pss_cons (ps_if (PW.pt (pw_or (pt_cmpR op_ge (pv 1) (pv 0) (nomark _)) (pw_or1 (pt_cmpR op_gt (pv 2) (pe_call G4 hr1 rfl D4.gl D4.fn.kp D4.bd .nil pass0 (pa_cons (pv 5) pa_nil)) (nomark _))))) (pss_one (ps_ret (pe_lst (pa_cons (pe_glob (v := .int (-2)) rfl g2 ⟨_, rfl⟩) pa_nil)))) pss_nil)
      (pss_cons (ps_set (i := 6) scGo.nd rfl (.inl rfl) (pe_ifExp (pt_val (pe_call G8 hr rfl D8.gl D8.fn.kp D8.bd .nil pass0 (pa_cons (pv 0) (pa_cons (pv 3) (pa_cons (pv 5) (pa_cons (pv 1) (pa_cons (pv 2) pa_nil))))))) pe_int pe_int))
      (pss_cons (ps_set (i := 7) scGo.nd rfl (.inl rfl) (pe_call G3 hr1 rfl D3.gl D3.fn.kp D3.bd .nil pass0 (pa_cons (pe_op op_cat (pe_op op_cat (pe_slice sl_list (pv 5) po_none (po_some (pv 1))) (pe_lst (pa_cons (pv 2) pa_nil))) (pe_slice sl_list (pv 5) (po_some (pe_op op_add (pv 1) pe_int)) po_none)) pa_nil)))
      (pss_one (ps_ret (pe_op op_cat (pe_op op_cat (pe_lst (pa_cons (pv 6) pa_nil)) (pv 7)) (pe_lst (pa_cons (pe_call G5 hr1 rfl D5.gl D5.fn.kp D5.bd .nil pass0 (pa_cons (pv 0) (pa_cons (pv 3) (pa_cons (pv 5) (pa_cons (pv 1) (pa_cons (pv 2) pa_nil)))))) pa_nil)))))))))), ?_⟩
    refine ⟨_, rfl, _, rfl, n, a, v, rfl, hv, _, rfl, ?_⟩
    cases c1 : worthOk n v with
    | false =>
      refine iteT ?_
      refine ⟨by decide, fun p hp => k _ p ?_⟩
      rw [go_no1 h0 c1]
      exact upd_same
    | true =>
    refine iteF ?_
    refine ⟨_, rfl, _, rfl, n, b, g, rfl, hg, _, rfl, ?_⟩
    cases c2 : groupsOk n g with
    | false =>
      refine iteT ?_
      refine ⟨by decide, fun p hp => k _ p ?_⟩
      rw [go_no2 h0 hg0 c1 c2]
      exact upd_same
    | true =>
    refine iteF ?_
    obtain ⟨hn1, hn5, hvl⟩ := worthOk_says c1
    have hgl := groupsOk_says c2
    obtain ⟨m, rfl⟩ : ∃ m : Nat, n = (m : Nat) := ⟨n.toNat, by omega⟩
    obtain ⟨i, rfl⟩ : ∃ m : Nat, i = (m : Nat) := ⟨i.toNat, by omega⟩
    obtain ⟨j, rfl⟩ : ∃ m : Nat, j = (m : Nat) := ⟨j.toNat, by omega⟩
    have hvl' : v.length = m * m := by
      have : ((v.length : Nat) : Int) = ((m * m : Nat) : Int) := by rw [hvl, Int.natCast_mul]
      omega
    have hgl' : g.length = m := by omega
    have hal : (anew g).length = m := by rw [anew_len, hgl']
    refine ⟨_, rfl, b, g, rfl, hg, by omega, fun H1 p S1 hp0 hp => ?_⟩
    refine ⟨_, rfl, _, rfl, _, _, rfl, rfl, _, rfl, ?_⟩
    by_cases c3 : ((m : Nat) : Int) ≤ ((i : Nat) : Int)
    · refine ift (decide_eq_true c3) (iteT ?_)
      refine ⟨by decide, fun p hp => k _ p ?_⟩
      rw [go_no3 h0 hg0 c1 c2 (.inl c3)]
      exact upd_same
    refine iff_ (decide_eq_false c3) ?_
    refine ⟨_, rfl, _, rfl, p, anew g, rfl, SqL.of hp, by omega, _, _, rfl, rfl, _, rfl, ?_⟩
    by_cases c4 : ((Ks565.groups (anew g) : Nat) : Int) < ((j : Nat) : Int)
    · refine ift (decide_eq_true c4) ?_
      refine ⟨by decide, fun p hp => k _ p ?_⟩
      rw [go_no3 h0 hg0 c1 c2 (.inr c4)]
      exact upd_same
    refine iff_ (decide_eq_false c4) ?_
    have hi : i < m := by omega
    rw [go_yes hg0 c1 c2 hi (by omega)] at k
    refine ⟨_, rfl, _, rfl, _, rfl, _, rfl, _, rfl, m, a, p, v, anew g, i, j, rfl, S1.seq hv, SqL.of hp, by omega, hvl', hal, hi, _, rfl, ?_⟩
    generalize decide (Ks565.with_ ⟨m, v⟩ i (Ks565.members (anew g) ((anew g).getD i 0)) < Ks565.with_ ⟨m, v⟩ i (Ks565.members (anew g) j)) = c at k ⊢
    have lp : (((ic (anew g)).map V.int)).length = m := by rw [map_len, ic_len, hal]
    have cut1 : cutV ((ic (anew g)).map V.int) none (some ((i : Nat) : Int)) = ((ic (anew g)).take i).map V.int := by
      rw [cut_to (by omega), List.map_take]
    have cut2 : cutV ((ic (anew g)).map V.int) (some (((i : Nat) : Int) + 1)) none = ((ic (anew g)).drop (i + 1)).map V.int := by
      have e := cut_from (xs := (ic (anew g)).map V.int) (i := i + 1) (by omega)
      rw [Int.natCast_add] at e
      rw [List.map_drop]
      exact e
    have l1 : (((ic (anew g)).take i).map V.int).length = i := by rw [map_len, List.length_take, ic_len]; omega
    have l2 : (((ic (anew g)).drop (i + 1)).map V.int).length = m - (i + 1) := by rw [map_len, List.length_drop, ic_len]; omega
    cases c
    all_goals (first | refine iteT ?_ | refine iteF ?_)
    all_goals
      refine ⟨_, rfl, _, rfl, _, rfl, p, _, rfl, SqL.of hp, fun p1 h1 => ?_⟩
      rw [cut1]
      have s1 : Same H1 (upd H1 p1 (.lst (((ic (anew g)).take i).map V.int))) := sm_new h1
      refine ⟨_, rfl, (by show 1 ≤ sizeLine; decide), fun p2 h2 => ?_⟩
      have s2 := s1.trans (sm_new (o := .lst [.int ((j : Nat) : Int)]) h2)
      refine ⟨p1, p2, _, _, rfl, rfl, sm_new h2 _ _ upd_same, upd_same, ?_, fun p3 h3 => ?_⟩
      · refine Nat.le_of_lt (small1000 ?_)
        rw [l1]
        show i + 1 ≤ 1000
        omega
      have s3 := s2.trans (sm_new (o := .lst (((ic (anew g)).take i).map V.int ++ [.int ((j : Nat) : Int)])) h3)
      refine ⟨_, rfl, _, rfl, _, _, rfl, rfl, _, rfl, p, _, rfl, SqL.of (s3 _ _ hp), fun p4 h4 => ?_⟩
      rw [cut2]
      have s4 := s3.trans (sm_new (o := .lst (((ic (anew g)).drop (i + 1)).map V.int)) h4)
      refine ⟨p3, p4, _, _, rfl, rfl, sm_new h4 _ _ upd_same, upd_same, ?_, fun p5 h5 => ?_⟩
      · refine Nat.le_of_lt (small1000 ?_)
        rw [List.length_append, l1, l2]
        show i + 1 + (m - (i + 1)) ≤ 1000
        omega
      have e5 : (((ic (anew g)).take i).map V.int ++ [V.int ((j : Nat) : Int)]) ++ ((ic (anew g)).drop (i + 1)).map V.int = (ic ((anew g).set i j)).map V.int := by
        rw [← set_cut (by omega), List.map_append, List.map_append]
        rfl
      rw [e5]
      have s5 := s4.trans (sm_new (o := .lst ((ic ((anew g).set i j)).map V.int)) h5)
      refine ⟨p5, ic ((anew g).set i j), rfl, SqL.of upd_same, (by rw [ic_len, List.length_set]; omega), fun H2 pw S2 hpw0 hpw => ?_⟩
      have s6 := s5.trans S2
      have lw : (anew (ic ((anew g).set i j))).length = m := by rw [anew_len, ic_len, List.length_set, hal]
      refine ⟨_, rfl, (by show 1 ≤ sizeLine; decide), fun q1 hq1 => ?_⟩
      refine ⟨_, rfl, q1, pw, _, _, rfl, rfl, upd_same, sm_new hq1 _ _ hpw, ?_, fun q2 hq2 => ?_⟩
      · refine Nat.le_of_lt (small1000 ?_)
        rw [map_len, ic_len, lw]
        show 1 + m ≤ 1000
        omega
      have s7 := fun o : HO => (s6.trans (sm_new hq1)).trans (sm_new (o := o) hq2)
      refine ⟨_, rfl, _, rfl, _, rfl, _, rfl, _, rfl, m, a, p, v, anew g, i, j, rfl, (s7 _).seq (S1.seq hv), SqL.of (s7 _ _ _ hp), by omega, hvl', hal, hi, ?_⟩
      refine ⟨(by show 1 ≤ sizeLine; decide), fun q3 hq3 => ?_⟩
      refine ⟨q2, q3, _, _, rfl, rfl, sm_new hq3 _ _ upd_same, upd_same, ?_, fun q4 hq4 => ?_⟩
      · refine Nat.le_of_lt (small1000 ?_)
        rw [List.length_append, map_len, ic_len, lw]
        show 1 + m + 1 ≤ 1000
        omega
      refine k _ q4 ?_
      rw [upd_same, List.map_append, List.map_append]
      rfl
end
end Rw

namespace Rw
open PySem PySem.Spec PyProof.Rows L2
open PySem.W (Codec)
/-! ### the end -/
theorem all_mk {P : Program} {w : World} {K : PySem.W.Frag} {h : Heap} {mg : Str → Option Value} {fa f1 f2 f3 f4 f5 f6 f7 f8 : Addr} (X : K.In h) (G : h.Ns mainGlobals mg) (hfa : mg "go" = some (.ref fa))
    {od1 an1 od2 an2 od3 an3 od4 an4 od5 an5 od6 an6 od7 an7 od8 an8 : Option Addr} {sl1 sl2 sl3 sl4 sl5 sl6 sl7 sl8 : Array (Option Value)} {oc1 kV1 dc1 pm1 cd1 ct1 oc2 kV2 dc2 pm2 cd2 ct2 oc3 kV3 dc3 pm3 cd3 ct3 oc4 kV4 dc4 pm4 cd4 ct4 oc5 kV5 dc5 pm5 cd5 ct5 oc6 kV6 dc6 pm6 cd6 ct6 oc7 kV7 dc7 pm7 cd7 ct7 oc8 kV8 dc8 pm8 cd8 ct8 : Value}
    {t0 : Tok} (n0 : PySem.W.nsIn K mainGlobals "NOT_AS_TOLD" = some (some (.int (-22) t0)))
    {t1 : Tok} (n1 : PySem.W.nsIn K mainGlobals "NOT_THERE" = some (some (.int (-2) t1)))
    {t2 : Tok} (n2 : PySem.W.nsIn K mainGlobals "MOST_PEOPLE" = some (some (.int 5 t2)))
    {t3 : Tok} (n3 : PySem.W.nsIn K mainGlobals "LEAST_WORTH" = some (some (.int (-20) t3)))
    {t4 : Tok} (n4 : PySem.W.nsIn K mainGlobals "MOST_WORTH" = some (some (.int 20 t4)))
    (z0 : PySem.W.nsIn K mainGlobals "len" = some none)
    (z1 : PySem.W.nsIn K mainGlobals "range" = some none)
    (z2 : PySem.W.nsIn K mainGlobals "max" = some none)
    (a1 : PySem.W.nsIn K mainGlobals "people_are_told" = some (some (.ref f1))) (l1 : K.lookup f1 = some ⟨oc1, od1, .func (PySem.W.fnOf "people_are_told" "people_are_told" (defArgs s_people_are_told) (defBody s_people_are_told) (defScope s_people_are_told) .none kV1 dc1 pm1 an1 cd1 ct1), sl1⟩) (c1 : PySem.W.codeIn K cd1 "people_are_told" = true) (k1 : PySem.W.keepIn K (.ref f1) = true)
    (a2 : PySem.W.nsIn K mainGlobals "worth_is_told" = some (some (.ref f2))) (l2 : K.lookup f2 = some ⟨oc2, od2, .func (PySem.W.fnOf "worth_is_told" "worth_is_told" (defArgs s_worth_is_told) (defBody s_worth_is_told) (defScope s_worth_is_told) .none kV2 dc2 pm2 an2 cd2 ct2), sl2⟩) (c2 : PySem.W.codeIn K cd2 "worth_is_told" = true) (k2 : PySem.W.keepIn K (.ref f2) = true)
    (a3 : PySem.W.nsIn K mainGlobals "groups_are_told" = some (some (.ref f3))) (l3 : K.lookup f3 = some ⟨oc3, od3, .func (PySem.W.fnOf "groups_are_told" "groups_are_told" (defArgs s_groups_are_told) (defBody s_groups_are_told) (defScope s_groups_are_told) .none kV3 dc3 pm3 an3 cd3 ct3), sl3⟩) (c3 : PySem.W.codeIn K cd3 "groups_are_told" = true) (k3 : PySem.W.keepIn K (.ref f3) = true)
    (a4 : PySem.W.nsIn K mainGlobals "number_anew" = some (some (.ref f4))) (l4 : K.lookup f4 = some ⟨oc4, od4, .func (PySem.W.fnOf "number_anew" "number_anew" (defArgs s_number_anew) (defBody s_number_anew) (defScope s_number_anew) .none kV4 dc4 pm4 an4 cd4 ct4), sl4⟩) (c4 : PySem.W.codeIn K cd4 "number_anew" = true) (k4 : PySem.W.keepIn K (.ref f4) = true)
    (a5 : PySem.W.nsIn K mainGlobals "how_many" = some (some (.ref f5))) (l5 : K.lookup f5 = some ⟨oc5, od5, .func (PySem.W.fnOf "how_many" "how_many" (defArgs s_how_many) (defBody s_how_many) (defScope s_how_many) .none kV5 dc5 pm5 an5 cd5 ct5), sl5⟩) (c5 : PySem.W.codeIn K cd5 "how_many" = true) (k5 : PySem.W.keepIn K (.ref f5) = true)
    (a6 : PySem.W.nsIn K mainGlobals "has_with" = some (some (.ref f6))) (l6 : K.lookup f6 = some ⟨oc6, od6, .func (PySem.W.fnOf "has_with" "has_with" (defArgs s_has_with) (defBody s_has_with) (defScope s_has_with) .none kV6 dc6 pm6 an6 cd6 ct6), sl6⟩) (c6 : PySem.W.codeIn K cd6 "has_with" = true) (k6 : PySem.W.keepIn K (.ref f6) = true)
    (a7 : PySem.W.nsIn K mainGlobals "would_rather_go" = some (some (.ref f7))) (l7 : K.lookup f7 = some ⟨oc7, od7, .func (PySem.W.fnOf "would_rather_go" "would_rather_go" (defArgs s_would_rather_go) (defBody s_would_rather_go) (defScope s_would_rather_go) .none kV7 dc7 pm7 an7 cd7 ct7), sl7⟩) (c7 : PySem.W.codeIn K cd7 "would_rather_go" = true) (k7 : PySem.W.keepIn K (.ref f7) = true)
    (a8 : PySem.W.nsIn K mainGlobals "go" = some (some (.ref f8))) (l8 : K.lookup f8 = some ⟨oc8, od8, .func (PySem.W.fnOf "go" "go" (defArgs s_go) (defBody s_go) (defScope s_go) .none kV8 dc8 pm8 an8 cd8 ct8), sl8⟩) (c8 : PySem.W.codeIn K cd8 "go" = true) (k8 : PySem.W.keepIn K (.ref f8) = true) :
    ∃ fd : FuncData, (∀ (s : Shared) (us : List Value), us.length = (["n", "i", "k", "worth", "groups"] : List Str).length → BindsTo s fd ⟨us, []⟩ ((["n", "i", "k", "worth", "groups"] : List Str).zip us)) ∧ ∀ base : Heap, K.In base → base.Ns mainGlobals mg → FnOk P w K mg base CX0 3 fa fd ["n", "i", "k", "worth", "groups"] (spAns K) := by
  have e := hfa.symm.trans (PySem.W.mg_of X G a8)
  cases e
  have T : Txt mg := ⟨⟨_, PySem.W.mg_of X G n0⟩, ⟨_, PySem.W.mg_of X G n1⟩, ⟨_, PySem.W.mg_of X G n2⟩, ⟨_, PySem.W.mg_of X G n3⟩, ⟨_, PySem.W.mg_of X G n4⟩, PySem.W.mg_none_of X G z0, PySem.W.mg_none_of X G z1, PySem.W.mg_none_of X G z2⟩
  have F1 := fun_mk (st := s_people_are_told) l1 c1 k1
  have b1 := F1.binds (ps := ["n"]) fun _ _ _ _ _ _ us hl => match us, hl with | [_], _ => rfl
  have F2 := fun_mk (st := s_worth_is_told) l2 c2 k2
  have b2 := F2.binds (ps := ["n", "worth"]) fun _ _ _ _ _ _ us hl => match us, hl with | [_, _], _ => rfl
  have F3 := fun_mk (st := s_groups_are_told) l3 c3 k3
  have b3 := F3.binds (ps := ["n", "groups"]) fun _ _ _ _ _ _ us hl => match us, hl with | [_, _], _ => rfl
  have F4 := fun_mk (st := s_number_anew) l4 c4 k4
  have b4 := F4.binds (ps := ["groups"]) fun _ _ _ _ _ _ us hl => match us, hl with | [_], _ => rfl
  have F5 := fun_mk (st := s_how_many) l5 c5 k5
  have b5 := F5.binds (ps := ["numbered"]) fun _ _ _ _ _ _ us hl => match us, hl with | [_], _ => rfl
  have F6 := fun_mk (st := s_has_with) l6 c6 k6
  have b6 := F6.binds (ps := ["n", "worth", "numbered", "i", "k"]) fun _ _ _ _ _ _ us hl => match us, hl with | [_, _, _, _, _], _ => rfl
  have F7 := fun_mk (st := s_would_rather_go) l7 c7 k7
  have b7 := F7.binds (ps := ["n", "worth", "numbered", "i", "k"]) fun _ _ _ _ _ _ us hl => match us, hl with | [_, _, _, _, _], _ => rfl
  have F8 := fun_mk (st := s_go) l8 c8 k8
  have b8 := F8.binds (ps := ["n", "i", "k", "worth", "groups"]) fun _ _ _ _ _ _ us hl => match us, hl with | [_, _, _, _, _], _ => rfl
  exact ⟨PySem.W.fnOf "go" "go" (defArgs s_go) (defBody s_go) (defScope s_go) .none kV8 dc8 pm8 an8 cd8 ct8, fun s us hu => match us, hu with | [_, _, _, _, _], _ => .of_eq rfl, fun base _ _ => ok_go F8 T ⟨F1, PySem.W.mg_of X G a1, b1⟩ ⟨F2, PySem.W.mg_of X G a2, b2⟩ ⟨F3, PySem.W.mg_of X G a3, b3⟩ ⟨F4, PySem.W.mg_of X G a4, b4⟩ ⟨F5, PySem.W.mg_of X G a5, b5⟩ ⟨F6, PySem.W.mg_of X G a6, b6⟩ ⟨F7, PySem.W.mg_of X G a7, b7⟩⟩
end Rw
open PySem PySem.W PyProof.Rows
set_option maxRecDepth 100000 in
set_option maxHeartbeats 8000000 in
theorem PySem.Challenge.cw_ratherwhere_s04_go_holds : PySem.Challenge.rw_ratherwhere_s04_go.Holds := by
  w_on; k_headS; (case hw => exact ⟨[.int 0, .int 0, .int 0, .list [], .list []], by decide +kernel, by decide +kernel⟩)
  k_fillS
  refine L2.walk_specK (r := PySem.Challenge.rw_ratherwhere_s04_go) (k := 3) (CX := L2.CX0) (ps := ["n", "i", "k", "worth", "groups"]) (sp := Rw.spAns) (by decide +kernel) rfl rfl ⟨rfl, by decide, by decide⟩ (fun w h Y => PySem.W.kIn_of Y) ?F ?S (fun _ _ _ _ z => z)
  case F =>
    intro w mg fa h Y KX G hmg
    refine' Rw.all_mk KX G hmg ?n0 ?n1 ?n2 ?n3 ?n4 ?z0 ?z1 ?z2 ?a1 ?l1 ?c1 ?k1 ?a2 ?l2 ?c2 ?k2 ?a3 ?l3 ?c3 ?k3 ?a4 ?l4 ?c4 ?k4 ?a5 ?l5 ?c5 ?k5 ?a6 ?l6 ?c6 ?k6 ?a7 ?l7 ?c7 ?k7 ?a8 ?l8 ?c8 ?k8
    (case n0 => k_is)
    (case n1 => k_is)
    (case n2 => k_is)
    (case n3 => k_is)
    (case n4 => k_is)
    (case z0 => k_is)
    (case z1 => k_is)
    (case z2 => k_is)
    (case a1 => k_is)
    (case l1 => k_is)
    (case c1 => k_is)
    (case k1 => k_is)
    (case a2 => k_is)
    (case l2 => k_is)
    (case c2 => k_is)
    (case k2 => k_is)
    (case a3 => k_is)
    (case l3 => k_is)
    (case c3 => k_is)
    (case k3 => k_is)
    (case a4 => k_is)
    (case l4 => k_is)
    (case c4 => k_is)
    (case k4 => k_is)
    (case a5 => k_is)
    (case l5 => k_is)
    (case c5 => k_is)
    (case k5 => k_is)
    (case a6 => k_is)
    (case l6 => k_is)
    (case c6 => k_is)
    (case k6 => k_is)
    (case a7 => k_is)
    (case l7 => k_is)
    (case c7 => k_is)
    (case k7 => k_is)
    (case a8 => k_is)
    (case l8 => k_is)
    (case c8 => k_is)
    (case k8 => k_is)
  case S =>
    intro K H xs a hO hwi hask hx
    cases hx with
    | cons h0 hx =>
    cases h0
    cases hx with
    | cons h1 hx =>
    cases h1
    cases hx with
    | cons h4 hx =>
      cases h4
      cases hx with
      | cons h2 hx =>
        cases h2 with
        | lst hs2 ha2 =>
          cases hx with
          | cons h3 hx =>
            cases h3 with
            | lst hs3 ha3 =>
              cases hx
              have e2 := L2.ints_dw a.2.2.2.1 _ ha2
              subst e2
              have e3 := L2.ints_dw a.2.2.2.2.1 _ ha3
              subst e3
              have q : (Codec.inInt 0 4294967295 a.1 && (Codec.inInt 0 4294967295 a.2.1 && (Codec.inInt 0 4294967295 a.2.2.1 && ((Codec.inLen 0 27 a.2.2.2.1 && a.2.2.2.1.all (Codec.inInt (-2147483648) 2147483647)) && ((Codec.inLen 0 7 a.2.2.2.2.1 && a.2.2.2.2.1.all (Codec.inInt 0 4294967295)) && true))))) = true := hwi
              rw [Bool.and_eq_true, Bool.and_eq_true, Bool.and_eq_true, Bool.and_eq_true, Bool.and_eq_true, Bool.and_eq_true, Bool.and_eq_true] at q
              exact ⟨_, _, _, _, _, a.2.2.2.1, a.2.2.2.2.1, rfl, hs2, hs3, (Codec.inInt_iff.mp q.1).1, (Codec.inInt_iff.mp q.2.1).1, (Codec.inInt_iff.mp q.2.2.1).1, fun x hx => (Codec.inInt_iff.mp (List.all_eq_true.mp q.2.2.2.2.1.2 x hx)).1, (Codec.inNat_iff.mp q.2.2.2.2.1.1).2, fun H' p hp => .lst (L2.SqL.of hp) (L2.dw_ints _)⟩
#print axioms PySem.Challenge.cw_ratherwhere_s04_go_holds
