import PyProof.Rows.All
import Wide.All
import OpenK.AllK
import Wide.FinOn
import Open.SpecLaws
import KE.OsHead
import KE.OsGo
import HandS.ForSpec
import HandS.ForMost
import HandS.Zip
import HandS.Walk
import HandS.TupAny
import KE.DataMinMax
import KE.KEqDict
import KE.KEqDeep
import PyProof.DictMoreH
import HandS.DictTup
import HandS.TupLen
import PySem.Challenge.RW_caserules_s01_answers
set_option Elab.async false
section
namespace Cr
open Wf04

abbrev Row (w : List Nat) : Prop := ∀ c ∈ w, c < 5

theorem less_cons (a b : Nat) (r s : List Nat) : less (a :: r) (b :: s) = true ↔ a < b ∨ (a = b ∧ less r s = true) := by
  simp [less]

theorem less_irrefl : ∀ w : List Nat, less w w = false
  | [] => rfl
  | a :: r => by simp [less, less_irrefl r]

theorem less_trans : ∀ (u v w : List Nat), less u v = true → less v w = true → less u w = true
  | [], [], _, h, _ => by simp [less] at h
  | [], _ :: _, [], _, h => by simp [less] at h
  | [], _ :: _, _ :: _, _, _ => rfl
  | _ :: _, [], _, h, _ => by simp [less] at h
  | _ :: _, _ :: _, [], _, h => by simp [less] at h
  | a :: u, b :: v, c :: w, h, k => by
    rw [less_cons] at h k ⊢
    rcases h with h | ⟨h, h'⟩ <;> rcases k with k | ⟨k, k'⟩
    · left; omega
    · left; omega
    · left; omega
    · right; exact ⟨by omega, less_trans u v w h' k'⟩

theorem less_total : ∀ (u v : List Nat), u.length = v.length → u = v ∨ less u v = true ∨ less v u = true
  | [], [], _ => .inl rfl
  | [], _ :: _, h => by simp at h
  | _ :: _, [], h => by simp at h
  | a :: u, b :: v, h => by
    rw [less_cons, less_cons]
    rcases less_total u v (by simpa using h) with e | e | e
    · rcases Nat.lt_trichotomy a b with q | q | q
      · exact .inr (.inl (.inl q))
      · exact .inl (by rw [e, q])
      · exact .inr (.inr (.inl q))
    · rcases Nat.lt_trichotomy a b with q | q | q
      · exact .inr (.inl (.inl q))
      · exact .inr (.inl (.inr ⟨q, e⟩))
      · exact .inr (.inr (.inl q))
    · rcases Nat.lt_trichotomy a b with q | q | q
      · exact .inr (.inl (.inl q))
      · exact .inr (.inr (.inr ⟨q.symm, e⟩))
      · exact .inr (.inr (.inl q))

theorem less_app : ∀ (u v s t : List Nat), u.length = v.length → less u v = true → less (u ++ s) (v ++ t) = true
  | [], [], _, _, _, h => by simp [less] at h
  | [], _ :: _, _, _, h, _ => by simp at h
  | _ :: _, [], _, _, h, _ => by simp at h
  | a :: u, b :: v, s, t, h, k => by
    rw [less_cons] at k
    rw [List.cons_append, List.cons_append, less_cons]
    rcases k with k | ⟨k, k'⟩
    · exact .inl k
    · exact .inr ⟨k, less_app u v s t (by simpa using h) k'⟩

theorem less_pre : ∀ (u s t : List Nat), less s t = true → less (u ++ s) (u ++ t) = true
  | [], _, _, h => h
  | a :: u, s, t, h => by
    rw [List.cons_append, List.cons_append, less_cons]
    exact .inr ⟨rfl, less_pre u s t h⟩

/-- earlier -/
def Er (v w : List Nat) : Prop := v.length < w.length ∨ (v.length = w.length ∧ less v w = true)
/-- earlier or the same -/
def El (v w : List Nat) : Prop := v = w ∨ Er v w

theorem Er.irrefl {w : List Nat} (h : Er w w) : False := by
  rcases h with h | ⟨_, h⟩
  · omega
  · rw [less_irrefl] at h; cases h
theorem Er.trans {u v w : List Nat} (h : Er u v) (k : Er v w) : Er u w := by
  rcases h with h | ⟨h, h'⟩ <;> rcases k with k | ⟨k, k'⟩
  · left; omega
  · left; omega
  · left; omega
  · right; exact ⟨by omega, less_trans _ _ _ h' k'⟩
theorem Er.el {u v : List Nat} (h : Er u v) : El u v := .inr h
theorem El.rfl {u : List Nat} : El u u := .inl _root_.rfl
theorem El.trans {u v w : List Nat} (h : El u v) (k : El v w) : El u w := by
  rcases h with h | h
  · rw [h]; exact k
  · rcases k with k | k
    · rw [← k]; exact .inr h
    · exact .inr (h.trans k)
theorem El.er {u v w : List Nat} (h : El u v) (k : Er v w) : Er u w := by
  rcases h with h | h
  · rw [h]; exact k
  · exact h.trans k
theorem Er.el_er {u v w : List Nat} (h : Er u v) (k : El v w) : Er u w := by
  rcases k with k | k
  · rw [← k]; exact h
  · exact h.trans k
theorem Er.total (u v : List Nat) : u = v ∨ Er u v ∨ Er v u := by
  rcases Nat.lt_trichotomy u.length v.length with q | q | q
  · exact .inr (.inl (.inl q))
  · rcases less_total u v q with e | e | e
    · exact .inl e
    · exact .inr (.inl (.inr ⟨q, e⟩))
    · exact .inr (.inr (.inr ⟨q.symm, e⟩))
  · exact .inr (.inr (.inl q))
theorem El.total (u v : List Nat) : El u v ∨ Er v u := by
  rcases Er.total u v with h | h | h
  · exact .inl (.inl h)
  · exact .inl (.inr h)
  · exact .inr h
theorem El.anti {u v : List Nat} (h : El u v) (k : El v u) : u = v := by
  rcases h with h | h
  · exact h
  · exact (Er.irrefl (h.el_er k)).elim
/-- the same behind both, or any as long -/
theorem Er.app {u v : List Nat} (h : Er u v) (s t : List Nat) (l : s.length = t.length) : Er (u ++ s) (v ++ t) := by
  rcases h with h | ⟨h, h'⟩
  · left; simp only [List.length_append]; omega
  · right; exact ⟨by simp only [List.length_append]; omega, less_app u v s t h h'⟩
theorem El.app {u v : List Nat} (h : El u v) (t : List Nat) : El (u ++ t) (v ++ t) := by
  rcases h with h | h
  · rw [h]; exact .rfl
  · exact .inr (h.app t t _root_.rfl)
theorem Er.snoc (u : List Nat) (c : Nat) : Er u (u ++ [c]) := by left; simp
theorem El.pre (u t : List Nat) : El u (u ++ t) := by
  cases t with
  | nil => left; simp
  | cons c t => right; left; simp
theorem Er.last (u : List Nat) {c d : Nat} (h : c < d) : Er (u ++ [c]) (u ++ [d]) := by
  right; exact ⟨by simp, less_pre u _ _ (by simp [less, h])⟩

theorem better_iff (x y : Way) : better x y = true ↔ x.1 < y.1 ∨ (x.1 = y.1 ∧ Er x.2 y.2) := by
  simp [better, Er]
def Bt (x y : Way) : Prop := x.1 < y.1 ∨ (x.1 = y.1 ∧ Er x.2 y.2)
def Be (x y : Way) : Prop := x = y ∨ Bt x y
theorem Bt.irrefl {x : Way} (h : Bt x x) : False := by
  rcases h with h | ⟨_, h⟩
  · omega
  · exact h.irrefl
theorem Bt.trans {x y z : Way} (h : Bt x y) (k : Bt y z) : Bt x z := by
  rcases h with h | ⟨h, h'⟩ <;> rcases k with k | ⟨k, k'⟩
  · left; omega
  · left; omega
  · left; omega
  · right; exact ⟨by omega, h'.trans k'⟩
theorem Bt.total (x y : Way) : x = y ∨ Bt x y ∨ Bt y x := by
  obtain ⟨a, u⟩ := x
  obtain ⟨b, v⟩ := y
  rcases Nat.lt_trichotomy a b with q | q | q
  · exact .inr (.inl (.inl q))
  · rcases Er.total u v with e | e | e
    · exact .inl (by rw [e, q])
    · exact .inr (.inl (.inr ⟨q, e⟩))
    · exact .inr (.inr (.inr ⟨q.symm, e⟩))
  · exact .inr (.inr (.inl q))
theorem Be.rfl {x : Way} : Be x x := .inl _root_.rfl
theorem Be.trans {x y z : Way} (h : Be x y) (k : Be y z) : Be x z := by
  rcases h with h | h
  · rw [h]; exact k
  · rcases k with k | k
    · rw [← k]; exact .inr h
    · exact .inr (h.trans k)
theorem Be.anti {x y : Way} (h : Be x y) (k : Be y x) : x = y := by
  rcases h with h | h
  · exact h
  · rcases k with k | k
    · exact k.symm
    · exact (Bt.irrefl (h.trans k)).elim
theorem Be.of_not {x y : Way} (h : ¬ better x y = true) : Be y x := by
  rw [better_iff] at h
  rcases Bt.total x y with e | e | e
  · exact .inl e.symm
  · exact (h e).elim
  · exact .inr e
theorem Be.far {x y : Way} (h : Be x y) : x.1 ≤ y.1 := by
  rcases h with h | h | ⟨h, _⟩
  · rw [h]; exact Nat.le_refl _
  · omega
  · omega
theorem Be.app {x y : Way} (h : Be x y) (k : Nat) (t : List Nat) : Be (x.1 + k, x.2 ++ t) (y.1 + k, y.2 ++ t) := by
  rcases h with h | h | ⟨h, h'⟩
  · rw [h]; exact .rfl
  · right; left; show x.1 + k < y.1 + k; omega
  · right; right; exact ⟨by show x.1 + k = y.1 + k; omega, h'.app t t _root_.rfl⟩

/-- the earliest row of those that P says -/
def Earliest (P : List Nat → Prop) : Option (List Nat) → Prop
  | none => ∀ v, Row v → ¬ P v
  | some w => Row w ∧ P w ∧ ∀ v, Row v → P v → El w v
theorem Earliest.uniq {P Q : List Nat → Prop} (e : ∀ v, Row v → (P v ↔ Q v)) : ∀ {a b : Option (List Nat)}, Earliest P a → Earliest Q b → a = b
  | none, none, _, _ => rfl
  | none, some w, h, k => (h w k.1 ((e w k.1).2 k.2.1)).elim
  | some w, none, h, k => (k w h.1 ((e w h.1).1 h.2.1)).elim
  | some w, some v, h, k => congrArg some ((h.2.2 v k.1 ((e v k.1).2 k.2.1)).anti (k.2.2 w h.1 ((e w h.1).1 h.2.1)))
end Cr
end
section
namespace Cr
open Wf04

def run (rs : List Rule) (x : State) (w : List Nat) : State := w.foldl (readAll rs) x
theorem run_nil (rs : List Rule) (x : State) : run rs x [] = x := rfl
theorem run_cons (rs : List Rule) (x : State) (c : Nat) (w : List Nat) : run rs x (c :: w) = run rs (readAll rs x c) w := rfl
theorem run_app (rs : List Rule) (x : State) (u w : List Nat) : run rs x (u ++ w) = run rs (run rs x u) w := List.foldl_append
theorem run_snoc (rs : List Rule) (x : State) (u : List Nat) (c : Nat) : run rs x (u ++ [c]) = readAll rs (run rs x u) c := by rw [run_app]; rfl

theorem Row.app {u w : List Nat} (hu : Row u) (hw : Row w) : Row (u ++ w) := by
  intro c hc
  rcases List.mem_append.1 hc with h | h
  · exact hu c h
  · exact hw c h
theorem Row.one {c : Nat} (h : c < 5) : Row [c] := by
  intro d hd; rw [List.mem_singleton.1 hd]; exact h
theorem Row.nil : Row [] := by intro c hc; cases hc

/-- how many of U have not been seen -/
def unseen (U seen : List State) : Nat := (U.filter fun s => !seen.contains s).length
theorem filter_lt {p q : State → Bool} : ∀ (l : List State) (x : State), x ∈ l → p x = true → q x = false → (∀ y, q y = true → p y = true) → (l.filter q).length < (l.filter p).length
  | [], _, h, _, _, _ => by cases h
  | y :: l, x, h, hp, hq, hi => by
    have le : (l.filter q).length ≤ (l.filter p).length := by
      clear h
      induction l with
      | nil => exact Nat.le_refl _
      | cons z l ih =>
        rw [List.filter_cons, List.filter_cons]
        by_cases e : q z = true
        · rw [if_pos e, if_pos (hi z e)]; simpa using ih
        · rw [if_neg e]
          by_cases e' : p z = true
          · rw [if_pos e']; simp only [List.length_cons]; omega
          · rw [if_neg e']; exact ih
    rw [List.filter_cons, List.filter_cons]
    rcases List.mem_cons.1 h with h | h
    · subst h
      rw [if_pos hp, if_neg (by rw [hq]; decide)]; simp only [List.length_cons]; omega
    · have := filter_lt l x h hp hq hi
      by_cases e : q y = true
      · rw [if_pos e, if_pos (hi y e)]; simpa using this
      · rw [if_neg e]
        by_cases e' : p y = true
        · rw [if_pos e']; simp only [List.length_cons]; omega
        · rw [if_neg e']; exact this
theorem unseen_lt {U seen : List State} {x : State} (h : x ∈ U) (n : seen.contains x = false) : unseen U (x :: seen) < unseen U seen := by
  refine filter_lt U x h (by rw [n]; rfl) (by simp) ?_
  intro y hy
  simp only [List.contains_cons, Bool.not_or, Bool.and_eq_true] at hy
  exact hy.2

/-- what is in the queue leads to a wished row, no later than v, in fewer than n steps -/
def Good (rs : List Rule) (f : State → Bool) (q : List (State × List Nat)) (v : List Nat) (n : Nat) : Prop :=
  ∃ y ∈ q, ∃ t, Row t ∧ f (run rs y.1 t) = true ∧ t.length < n ∧ El (y.2 ++ t) v

structure SInv (rs : List Rule) (f : State → Bool) (U : List State) (q : List (State × List Nat)) (seen : List State) (done : List (State × List Nat)) : Prop where
  at_ : ∀ y ∈ q, Row y.2 ∧ y.1 = run rs (start rs) y.2
  sorted : q.Pairwise fun x y => Er x.2 y.2
  close : ∀ x ∈ q, ∀ y ∈ q, y.2 = [] ∨ Er y.2.dropLast x.2
  doneQ : ∀ x ∈ done, ∀ y ∈ q, Er x.2 y.2
  seenD : ∀ s ∈ seen, ∃ p, (s, p) ∈ done
  ext : ∀ x ∈ done, ∀ t, Row t → f (run rs x.1 t) = true → Good rs f q (x.2 ++ t) t.length
  all : ∀ v, Row v → f (run rs (start rs) v) = true → Good rs f q v (v.length + 1)

theorem dropLast_er {u x : List Nat} {c : Nat} (h : u = [] ∨ Er u.dropLast x) (ne : u ≠ []) : Er u (x ++ [c]) := by
  rcases h with h | h
  · exact (ne h).elim
  · have e : u.dropLast ++ [u.getLast ne] = u := List.dropLast_concat_getLast ne
    have := h.app [u.getLast ne] [c] rfl
    rwa [e] at this

theorem seek_is (rs : List Rule) (f : State → Bool) (U : List State) (hU : ∀ w, Row w → run rs (start rs) w ∈ U) :
    ∀ (n : Nat) (q : List (State × List Nat)) (seen : List State) (done : List (State × List Nat)), SInv rs f U q seen done → q.length + 5 * unseen U seen < n →
    Earliest (fun w => f (run rs (start rs) w) = true) (seek rs f n q seen)
  | 0, _, _, _, _, h => by omega
  | n + 1, [], seen, done, I, _ => by
    show ∀ v, Row v → ¬ _
    intro v rv hv
    obtain ⟨y, hy, _⟩ := I.all v rv hv
    cases hy
  | n + 1, x :: q, seen, done, I, hn => by
    obtain ⟨rx, ex⟩ := I.at_ x (List.mem_cons_self)
    have sq := List.pairwise_cons.1 I.sorted
    rw [seek]
    by_cases hf : f x.1 = true
    · rw [if_pos hf]
      refine ⟨rx, by show f (run rs (start rs) x.2) = true; rw [← ex]; exact hf, ?_⟩
      intro v rv hv
      obtain ⟨y, hy, t, rt, ht, _, le⟩ := I.all v rv hv
      have h1 : El x.2 y.2 := by
        rcases List.mem_cons.1 hy with h | h
        · rw [h]; exact .rfl
        · exact (sq.1 y h).el
      exact (h1.trans (El.pre y.2 t)).trans le
    rw [if_neg hf]
    by_cases hs : seen.contains x.1 = true
    · rw [if_pos hs]
      obtain ⟨p0, hp0⟩ := I.seenD x.1 (by simpa using hs)
      have e0 : Er p0 x.2 := I.doneQ _ hp0 x List.mem_cons_self
      -- from the head's state on, others in the queue do
      have key : ∀ (m : Nat) (t : List Nat), t.length ≤ m → Row t → f (run rs x.1 t) = true → Good rs f q (x.2 ++ t) t.length := by
        intro m
        induction m with
        | zero =>
          intro t hm rt ht
          have : t = [] := List.length_eq_zero_iff.1 (by omega)
          subst this
          exact (hf ht).elim
        | succ m ih =>
          intro t hm rt ht
          obtain ⟨y, hy, t', rt', ht', lt, le⟩ := I.ext _ hp0 t rt ht
          have le2 : El (y.2 ++ t') (x.2 ++ t) := le.trans (e0.el.app t)
          rcases List.mem_cons.1 hy with h | h
          · subst h
            obtain ⟨z, hz, t2, rt2, ht2, lt2, le3⟩ := ih t' (by omega) rt' ht'
            exact ⟨z, hz, t2, rt2, ht2, by omega, le3.trans le2⟩
          · exact ⟨y, h, t', rt', ht', lt, le2⟩
      have move : ∀ v k, Good rs f (x :: q) v k → Good rs f q v k := by
        rintro v k ⟨y, hy, t, rt, ht, lt, le⟩
        rcases List.mem_cons.1 hy with h | h
        · subst h
          obtain ⟨z, hz, t2, rt2, ht2, lt2, le3⟩ := key t.length t (Nat.le_refl _) rt ht
          exact ⟨z, hz, t2, rt2, ht2, by omega, le3.trans le⟩
        · exact ⟨y, h, t, rt, ht, lt, le⟩
      refine seek_is rs f U hU n q seen done ⟨fun y hy => I.at_ y (List.mem_cons_of_mem _ hy), sq.2, fun a ha b hb => I.close a (List.mem_cons_of_mem _ ha) b (List.mem_cons_of_mem _ hb), fun a ha b hb => I.doneQ a ha b (List.mem_cons_of_mem _ hb), I.seenD, fun a ha t rt ht => move _ _ (I.ext a ha t rt ht), fun v rv hv => move _ _ (I.all v rv hv)⟩ ?_
      simp only [List.length_cons] at hn
      omega
    · rw [if_neg hs]
      have kids : ∀ z, z ∈ ((List.range STEPS).map fun c => (readAll rs x.1 c, x.2 ++ [c])) ↔ ∃ c, c < 5 ∧ z = (readAll rs x.1 c, x.2 ++ [c]) := by
        intro z
        simp only [List.mem_map, List.mem_range, STEPS]
        constructor
        · rintro ⟨c, hc, e⟩; exact ⟨c, hc, e.symm⟩
        · rintro ⟨c, hc, e⟩; exact ⟨c, hc, e.symm⟩
      have qer : ∀ y ∈ q, ∀ c, Er y.2 (x.2 ++ [c]) := by
        intro y hy c
        have ne : y.2 ≠ [] := by
          intro e
          have := sq.1 y hy
          rw [e] at this
          rcases this with h | ⟨h, h'⟩
          · simp at h
          · have : x.2 = [] := List.length_eq_zero_iff.1 (by simpa using h)
            rw [this] at h'; simp [less] at h'
        exact dropLast_er (I.close x List.mem_cons_self y (List.mem_cons_of_mem _ hy)) ne
      have move : ∀ v k, Good rs f (x :: q) v k → Good rs f (q ++ (List.range STEPS).map fun c => (readAll rs x.1 c, x.2 ++ [c])) v k := by
        rintro v k ⟨y, hy, t, rt, ht, lt, le⟩
        rcases List.mem_cons.1 hy with h | h
        · subst h
          cases t with
          | nil => exact (hf ht).elim
          | cons c t =>
            refine ⟨(readAll rs y.1 c, y.2 ++ [c]), List.mem_append.2 (.inr ((kids _).2 ⟨c, rt c List.mem_cons_self, rfl⟩)), t, fun d hd => rt d (List.mem_cons_of_mem _ hd), ht, by simp only [List.length_cons] at lt; omega, ?_⟩
            simpa using le
        · exact ⟨y, List.mem_append.2 (.inl h), t, rt, ht, lt, le⟩
      refine seek_is rs f U hU n _ (x.1 :: seen) (x :: done) ⟨?_, ?_, ?_, ?_, ?_, ?_, ?_⟩ ?_
      · intro y hy
        rcases List.mem_append.1 hy with h | h
        · exact I.at_ y (List.mem_cons_of_mem _ h)
        · obtain ⟨c, hc, rfl⟩ := (kids y).1 h
          exact ⟨rx.app (Row.one hc), by rw [run_snoc, ← ex]⟩
      · refine List.pairwise_append.2 ⟨sq.2, ?_, ?_⟩
        · refine List.pairwise_map.2 ?_
          exact List.pairwise_lt_range.imp fun h => Er.last x.2 h
        · intro a ha b hb
          obtain ⟨c, hc, rfl⟩ := (kids b).1 hb
          exact qer a ha c
      · intro a ha b hb
        rcases List.mem_append.1 ha with h | h <;> rcases List.mem_append.1 hb with h' | h'
        · exact I.close a (List.mem_cons_of_mem _ h) b (List.mem_cons_of_mem _ h')
        · obtain ⟨c, hc, rfl⟩ := (kids b).1 h'
          right
          rw [List.dropLast_concat]
          exact sq.1 a h
        · obtain ⟨c, hc, rfl⟩ := (kids a).1 h
          rcases I.close x List.mem_cons_self b (List.mem_cons_of_mem _ h') with e | e
          · exact .inl e
          · exact .inr (e.trans (Er.snoc _ _))
        · obtain ⟨c, hc, rfl⟩ := (kids a).1 h
          obtain ⟨d, hd, rfl⟩ := (kids b).1 h'
          right
          rw [List.dropLast_concat]
          exact Er.snoc _ _
      · intro a ha b hb
        have hx : ∀ b ∈ q ++ (List.range STEPS).map (fun c => (readAll rs x.1 c, x.2 ++ [c])), Er x.2 b.2 := by
          intro b hb
          rcases List.mem_append.1 hb with h | h
          · exact sq.1 b h
          · obtain ⟨c, hc, rfl⟩ := (kids b).1 h
            exact Er.snoc _ _
        rcases List.mem_cons.1 ha with h | h
        · rw [h]; exact hx b hb
        · exact (I.doneQ a h x List.mem_cons_self).trans (hx b hb)
      · intro s hs'
        rcases List.mem_cons.1 hs' with h | h
        · exact ⟨x.2, by rw [h]; exact List.mem_cons_self⟩
        · obtain ⟨p, hp⟩ := I.seenD s h
          exact ⟨p, List.mem_cons_of_mem _ hp⟩
      · intro a ha t rt ht
        rcases List.mem_cons.1 ha with h | h
        · subst h
          cases t with
          | nil => exact (hf ht).elim
          | cons c t =>
            refine ⟨(readAll rs a.1 c, a.2 ++ [c]), List.mem_append.2 (.inr ((kids _).2 ⟨c, rt c List.mem_cons_self, rfl⟩)), t, fun d hd => rt d (List.mem_cons_of_mem _ hd), ht, by simp, ?_⟩
            show El ((a.2 ++ [c]) ++ t) _
            rw [List.append_assoc]; exact .rfl
        · exact move _ _ (I.ext a h t rt ht)
      · intro v rv hv
        exact move _ _ (I.all v rv hv)
      · have := unseen_lt (U := U) (seen := seen) (x := x.1) (by rw [ex]; exact hU _ rx) (by simpa using hs)
        simp only [List.length_cons, List.length_append, List.length_map, List.length_range, STEPS] at hn ⊢
        omega

theorem unseen_nil (U : List State) : unseen U [] ≤ U.length := List.length_filter_le _ _

theorem seek_first (rs : List Rule) (f : State → Bool) (U : List State) (hU : ∀ w, Row w → run rs (start rs) w ∈ U) (hl : 1 + 5 * U.length < ENOUGH) :
    Earliest (fun w => f (run rs (start rs) w) = true) (seek rs f ENOUGH [(start rs, [])] []) := by
  refine seek_is rs f U hU ENOUGH _ [] [] ⟨?_, ?_, ?_, ?_, ?_, ?_, ?_⟩ ?_
  · intro y hy; rw [List.mem_singleton.1 hy]; exact ⟨Row.nil, rfl⟩
  · exact List.pairwise_singleton _ _
  · intro a _ b hb; rw [List.mem_singleton.1 hb]; exact .inl rfl
  · intro a ha; cases ha
  · intro a ha; cases ha
  · intro a ha; cases ha
  · intro v rv hv
    exact ⟨_, List.mem_singleton.2 rfl, v, rv, hv, by omega, by simp [El]⟩
  · have := unseen_nil U
    simp only [List.length_cons, List.length_nil]
    omega
end Cr
end
section
namespace Cr
open Wf04

def run1 (r : Rule) (x : Nat) (w : List Nat) : Nat := w.foldl r.read x
theorem run1_cons (r : Rule) (x c : Nat) (w : List Nat) : run1 r x (c :: w) = run1 r (r.read x c) w := rfl
theorem run1_snoc (r : Rule) (x : Nat) (w : List Nat) (c : Nat) : run1 r x (w ++ [c]) = r.read (run1 r x w) c := by
  unfold run1; rw [List.foldl_append]; rfl

def Valid : Rule → Prop
  | .least a n => a < 5 ∧ n ≤ 3
  | .most a n => a < 5 ∧ n ≤ 3
  | .first a => a < 5
  | .last a => a < 5
  | .later a b => a < 5 ∧ b < 5 ∧ a ≠ b
  | .before a b => a < 5 ∧ b < 5 ∧ a ≠ b
  | .next a b => a < 5 ∧ b < 5 ∧ a ≠ b
  | .apart a b => a < 5 ∧ b < 5 ∧ a ≠ b
  | .between a b => a < 5 ∧ b < 5 ∧ a ≠ b

theorem run1_nine (r : Rule) : ∀ w, run1 r 9 w = 9
  | [] => rfl
  | c :: w => by rw [run1_cons]; exact run1_nine r w

theorem times_cons (a c : Nat) (w : List Nat) : times a (c :: w) = (if c = a then times a w + 1 else times a w) := by
  unfold times
  rw [List.filter_cons]
  by_cases h : c = a
  · rw [if_pos h, if_pos (by simpa using h)]; rfl
  · rw [if_neg h, if_neg (by simpa using h)]

theorem each_eq {a c : Nat} (f : List Nat → Bool) (w : List Nat) (h : c = a) : each a f (c :: w) = (f w && each a f w) := by
  subst h; simp [each]
theorem each_ne {a c : Nat} (f : List Nat → Bool) (w : List Nat) (h : ¬ c = a) : each a f (c :: w) = each a f w := by
  have : (c != a) = true := by simpa using h
  simp [each, this]

theorem run_least (a n : Nat) (hn : n ≤ 3) : ∀ (w : List Nat) (x : Nat), x ≤ n → run1 (.least a n) x w = min n (x + times a w)
  | [], x, h => by simp [run1, times]; omega
  | c :: w, x, h => by
    rw [run1_cons, times_cons]
    have : Rule.read (.least a n) x c = if c = a ∧ x < n then x + 1 else x := by
      show (if x = 9 then 9 else _) = _
      rw [if_neg (by omega)]
    rw [this]
    by_cases h1 : c = a <;> by_cases h2 : x < n
    · rw [if_pos ⟨h1, h2⟩, if_pos h1, run_least a n hn w _ (by omega)]; omega
    · rw [if_neg (by simp [h2]), if_pos h1, run_least a n hn w _ h]; omega
    · rw [if_neg (by simp [h1]), if_neg h1, run_least a n hn w _ h]
    · rw [if_neg (by simp [h1]), if_neg h1, run_least a n hn w _ h]

theorem run_most (a n : Nat) (hn : n ≤ 3) : ∀ (w : List Nat) (x : Nat), x ≤ n → run1 (.most a n) x w = if x + times a w ≤ n then x + times a w else 9
  | [], x, h => by
    show x = if x + 0 ≤ n then x + 0 else 9
    rw [if_pos (by omega)]; rfl
  | c :: w, x, h => by
    rw [run1_cons, times_cons]
    have : Rule.read (.most a n) x c = if c = a then (if x = n then 9 else x + 1) else x := by
      show (if x = 9 then 9 else _) = _
      rw [if_neg (by omega)]
    rw [this]
    by_cases h1 : c = a
    · rw [if_pos h1, if_pos h1]
      by_cases h2 : x = n
      · rw [if_pos h2, run1_nine, if_neg (by omega)]
      · rw [if_neg h2, run_most a n hn w _ (by omega)]
        by_cases h3 : x + 1 + times a w ≤ n
        · rw [if_pos h3, if_pos (by omega)]; omega
        · rw [if_neg h3, if_neg (by omega)]
    · rw [if_neg h1, if_neg h1, run_most a n hn w _ h]

theorem run_first1 (a : Nat) : ∀ w, run1 (.first a) 1 w = 1
  | [] => rfl
  | c :: w => by rw [run1_cons]; exact run_first1 a w

theorem run_last (a : Nat) : ∀ (w : List Nat) (x : Nat), x ≤ 1 → run1 (.last a) x w = match w.getLast? with | none => x | some c => if c = a then 1 else 0
  | [], x, _ => rfl
  | c :: w, x, h => by
    rw [run1_cons]
    have : Rule.read (.last a) x c = if c = a then 1 else 0 := by
      show (if x = 9 then 9 else _) = _
      rw [if_neg (by omega)]
    rw [this, run_last a w _ (by split <;> omega)]
    rw [List.getLast?_cons]
    cases w.getLast? <;> rfl

theorem run_later (a b : Nat) (ne : a ≠ b) : ∀ (w : List Nat) (x : Nat), x ≤ 1 → ((run1 (.later a b) x w == 0) = (each a (fun v => v.contains b) w && (x == 0 || w.contains b)))
  | [], x, _ => by simp [run1, each]
  | c :: w, x, h => by
    rw [run1_cons]
    have : Rule.read (.later a b) x c = if c = b then 0 else if c = a then 1 else x := by
      show (if x = 9 then 9 else _) = _
      rw [if_neg (by omega)]
    rw [this]
    by_cases h1 : c = b
    · rw [if_pos h1, run_later a b ne w _ (by omega)]
      have : ¬ c = a := by omega
      rw [each_ne _ _ this]
      simp [h1]
    · rw [if_neg h1]
      by_cases h2 : c = a
      · rw [if_pos h2, run_later a b ne w _ (by omega)]
        have : ¬ b = c := fun e => h1 e.symm
        rw [each_eq _ _ h2]
        have e : (c :: w).contains b = w.contains b := by simp [this]
        rw [e]
        cases w.contains b <;> simp
      · rw [if_neg h2, run_later a b ne w _ h]
        have : ¬ b = c := fun e => h1 e.symm
        rw [each_ne _ _ h2]
        simp [this]

theorem run_before1 (a b : Nat) : ∀ w, run1 (.before a b) 1 w = 1
  | [] => rfl
  | c :: w => by rw [run1_cons]; exact run_before1 a b w
theorem run_before (a b : Nat) (ne : a ≠ b) : ∀ (w : List Nat), ((run1 (.before a b) 0 w != 9) = !(w.takeWhile fun c => c != a).contains b)
  | [] => rfl
  | c :: w => by
    rw [run1_cons]
    have : Rule.read (.before a b) 0 c = if c = a then 1 else if c = b then 9 else 0 := rfl
    rw [this]
    by_cases h1 : c = a
    · rw [if_pos h1, run_before1]; simp [h1]
    · rw [if_neg h1]
      by_cases h2 : c = b
      · rw [if_pos h2, run1_nine]
        have : ¬ b = a := fun e => ne e.symm
        simp [h2, this]
      · rw [if_neg h2, run_before a b ne w]
        have : ¬ b = c := fun e => h2 e.symm
        simp [h1, this]

theorem run_next (a b : Nat) (ne : a ≠ b) : ∀ (w : List Nat) (x : Nat), x ≤ 1 → ((run1 (.next a b) x w == 0) = (each a (fun v => v.head? == some b) w && (x == 0 || w.head? == some b)))
  | [], x, _ => by simp [run1, each]
  | c :: w, x, h => by
    rw [run1_cons]
    have : Rule.read (.next a b) x c = if x = 1 ∧ c ≠ b then 9 else if c = a then 1 else 0 := by
      show (if x = 9 then 9 else _) = _
      rw [if_neg (by omega)]
    rw [this]
    have hx : x = 0 ∨ x = 1 := by omega
    by_cases h1 : c = a
    · have hcb : ¬ c = b := by omega
      rcases hx with rfl | rfl
      · rw [if_neg (by omega), if_pos h1, run_next a b ne w _ (by omega)]
        rw [each_eq _ _ h1]
        simp [Bool.and_comm]
      · rw [if_pos (by omega), run1_nine]
        have e : ((c :: w).head? == some b) = false := by simpa using hcb
        rw [e]; simp
    · by_cases h2 : c = b
      · rw [if_neg (by omega), if_neg h1, run_next a b ne w _ (by omega)]
        rw [each_ne _ _ h1]
        simp [h2]
      · rcases hx with rfl | rfl
        · rw [if_neg (by omega), if_neg h1, run_next a b ne w _ (by omega)]
          rw [each_ne _ _ h1]
          simp
        · rw [if_pos (by omega), run1_nine]
          have e : ((c :: w).head? == some b) = false := by simpa using h2
          rw [e]; simp

theorem run_apart (a b : Nat) (ne : a ≠ b) : ∀ (w : List Nat) (x : Nat), x ≤ 2 → ((run1 (.apart a b) x w != 9) = !((x == 1 || w.contains a) && (x == 2 || w.contains b)))
  | [], x, h => by
    have : x = 0 ∨ x = 1 ∨ x = 2 := by omega
    rcases this with rfl | rfl | rfl <;> rfl
  | c :: w, x, h => by
    rw [run1_cons]
    have : Rule.read (.apart a b) x c = if c = a then (if x = 2 then 9 else 1) else if c = b then (if x = 1 then 9 else 2) else x := by
      show (if x = 9 then 9 else _) = _
      rw [if_neg (by omega)]
    rw [this]
    by_cases h1 : c = a
    · rw [if_pos h1]
      have nb : ¬ b = a := fun e => ne e.symm
      by_cases h2 : x = 2
      · rw [if_pos h2, run1_nine]; simp [h1, h2]
      · rw [if_neg h2, run_apart a b ne w _ (by omega)]; simp [h1, h2, nb]
    · rw [if_neg h1]
      have n1 : ¬ a = c := fun e => h1 e.symm
      by_cases h2 : c = b
      · rw [if_pos h2]
        by_cases h3 : x = 1
        · rw [if_pos h3, run1_nine]; simp [h2, h3]
        · rw [if_neg h3, run_apart a b ne w _ (by omega)]; simp [h2, h3, ne]
      · rw [if_neg h2, run_apart a b ne w _ h]
        have n2 : ¬ b = c := fun e => h2 e.symm
        simp [n1, n2]

theorem run_between (a b : Nat) (ne : a ≠ b) : ∀ (w : List Nat) (x : Nat), x ≤ 1 → ((run1 (.between a b) x w != 9) = (each a (fun v => !v.contains a || (v.takeWhile fun c => c != a).contains b) w && (x == 0 || (!w.contains a || (w.takeWhile fun c => c != a).contains b))))
  | [], x, h => by
    have : ¬ x = 9 := by omega
    simp [run1, each, this]
  | c :: w, x, h => by
    rw [run1_cons]
    have : Rule.read (.between a b) x c = if c = a then (if x = 1 then 9 else 1) else if c = b then 0 else x := by
      show (if x = 9 then 9 else _) = _
      rw [if_neg (by omega)]
    rw [this]
    have nb : ¬ b = a := fun e => ne e.symm
    have hx : x = 0 ∨ x = 1 := by omega
    by_cases h1 : c = a
    · rw [if_pos h1]
      rcases hx with rfl | rfl
      · rw [if_neg (by omega), run_between a b ne w _ (by omega)]
        rw [each_eq _ _ h1]
        simp [Bool.and_comm]
      · rw [if_pos rfl, run1_nine]; simp [h1]
    · rw [if_neg h1]
      have n1 : ¬ a = c := fun e => h1 e.symm
      by_cases h2 : c = b
      · rw [if_pos h2, run_between a b ne w _ (by omega)]
        rw [each_ne _ _ h1]
        simp [h2, nb]
      · rw [if_neg h2, run_between a b ne w _ h]
        have n2 : ¬ b = c := fun e => h2 e.symm
        rw [each_ne _ _ h1]
        simp [h1, n1, n2]

/-- **What the search remembers of a rule says what the rule says.** -/
theorem kept_holds {r : Rule} (v : Valid r) (w : List Nat) : r.kept (run1 r 0 w) = r.holds w := by
  cases r with
  | least a n =>
    show (run1 (.least a n) 0 w == n) = decide (n ≤ times a w)
    rw [run_least a n v.2 w 0 (by omega)]
    by_cases h : n ≤ times a w
    · rw [decide_eq_true h]; simp; omega
    · rw [decide_eq_false h]; simp; omega
  | most a n =>
    show (run1 (.most a n) 0 w != 9) = decide (times a w ≤ n)
    rw [run_most a n v.2 w 0 (by omega)]
    have := v.2
    by_cases h : times a w ≤ n
    · rw [decide_eq_true h, if_pos (by omega)]; simp; omega
    · rw [decide_eq_false h, if_neg (by omega)]; rfl
  | first a =>
    show (run1 (.first a) 0 w == 1) = (w.head? == some a)
    cases w with
    | nil => rfl
    | cons c w =>
      rw [run1_cons]
      show (run1 (.first a) (if c = a then 1 else 9) w == 1) = _
      by_cases h : c = a
      · rw [if_pos h, run_first1]; simp [h]
      · rw [if_neg h, run1_nine]; simp [h]
  | last a =>
    show (run1 (.last a) 0 w == 1) = (w.getLast? == some a)
    rw [run_last a w 0 (by omega)]
    cases w.getLast? with
    | none => rfl
    | some c =>
      by_cases h : c = a <;> simp [h]
  | later a b =>
    show (run1 (.later a b) 0 w == 0) = each a (fun v => v.contains b) w
    rw [run_later a b v.2.2 w 0 (by omega)]; simp
  | before a b => exact run_before a b v.2.2 w
  | next a b =>
    show (run1 (.next a b) 0 w == 0) = each a (fun v => v.head? == some b) w
    rw [run_next a b v.2.2 w 0 (by omega)]; simp
  | apart a b =>
    show (run1 (.apart a b) 0 w != 9) = !(w.contains a && w.contains b)
    rw [run_apart a b v.2.2 w 0 (by omega)]; simp
  | between a b =>
    show (run1 (.between a b) 0 w != 9) = each a (fun v => !v.contains a || (v.takeWhile fun c => c != a).contains b) w
    rw [run_between a b v.2.2 w 0 (by omega)]; simp

/-! ### several rules -/
theorem readAll_map (g : Rule → Nat) (c : Nat) : ∀ rs : List Rule, readAll rs (rs.map g) c = rs.map fun r => r.read (g r) c
  | [] => rfl
  | r :: rs => by
    have := readAll_map g c rs
    unfold readAll at this ⊢
    simp only [List.map_cons, List.zip_cons_cons, this]
theorem keptAll_map (g : Rule → Nat) : ∀ rs : List Rule, keptAll rs (rs.map g) = rs.all fun r => r.kept (g r)
  | [] => rfl
  | r :: rs => by
    have := keptAll_map g rs
    unfold keptAll at this ⊢
    simp only [List.map_cons, List.zip_cons_cons, List.all_cons, this]
theorem run_map (rs : List Rule) : ∀ (w : List Nat) (g : Rule → Nat), run rs (rs.map g) w = rs.map fun r => run1 r (g r) w
  | [], _ => rfl
  | c :: w, g => by
    rw [run_cons, readAll_map, run_map rs w]; rfl
theorem run_start (rs : List Rule) (w : List Nat) : run rs (start rs) w = rs.map fun r => run1 r 0 w := run_map rs w fun _ => 0

theorem all_congr {p q : Rule → Bool} : ∀ (rs : List Rule), (∀ r ∈ rs, p r = q r) → rs.all p = rs.all q
  | [], _ => rfl
  | r :: rs, h => by
    rw [List.all_cons, List.all_cons, h r List.mem_cons_self, all_congr rs fun x hx => h x (List.mem_cons_of_mem _ hx)]
theorem keptAll_run {rs : List Rule} (v : ∀ r ∈ rs, Valid r) (w : List Nat) : keptAll rs (run rs (start rs) w) = rs.all fun r => r.holds w := by
  rw [run_start, keptAll_map]
  exact all_congr rs fun r hr => kept_holds (v r hr) w

/-! ### how many states there are -/
def Fits : Rule → Nat → Prop
  | .least _ n, x => x ≤ n
  | .most _ n, x => x ≤ n ∨ x = 9
  | _, x => x ≤ 2 ∨ x = 9
theorem fits_lt {r : Rule} (v : Valid r) {x : Nat} (h : Fits r x) : x < 10 := by
  cases r <;> simp only [Fits, Valid] at h v <;> omega
theorem fits_read {r : Rule} (v : Valid r) {x : Nat} (h : Fits r x) (c : Nat) : Fits r (r.read x c) := by
  unfold Rule.read
  by_cases h9 : x = 9
  · rw [if_pos h9]
    subst h9
    exact h
  · rw [if_neg h9]
    cases r <;> simp only [Fits, Valid] at h v ⊢ <;> (repeat' split) <;> omega
theorem fits_run {r : Rule} (v : Valid r) : ∀ (w : List Nat) (x : Nat), Fits r x → Fits r (run1 r x w)
  | [], _, h => h
  | c :: w, _, h => fits_run v w _ (fits_read v h c)
theorem fits_zero (r : Rule) : Fits r 0 := by cases r <;> simp [Fits]

def states : Nat → List State
  | 0 => [[]]
  | k + 1 => (List.range 10).flatMap fun x => (states k).map fun s => x :: s
theorem states_length : ∀ k, (states k).length = 10 ^ k
  | 0 => rfl
  | k + 1 => by
    rw [states, List.length_flatMap]
    simp only [List.length_map, states_length k]
    rw [Nat.pow_succ]
    generalize 10 ^ k = m
    simp [List.range, List.range.loop]
    omega
theorem states_mem : ∀ (s : State), (∀ x ∈ s, x < 10) → s ∈ states s.length
  | [], _ => List.mem_singleton.2 rfl
  | x :: s, h => by
    rw [List.length_cons, states]
    refine List.mem_flatMap.2 ⟨x, List.mem_range.2 (h x List.mem_cons_self), List.mem_map.2 ⟨s, states_mem s fun y hy => h y (List.mem_cons_of_mem _ hy), rfl⟩⟩
theorem run_states {rs : List Rule} (v : ∀ r ∈ rs, Valid r) (w : List Nat) : run rs (start rs) w ∈ states rs.length := by
  have := states_mem (run rs (start rs) w) ?_
  · rw [run_start, List.length_map] at this
    rw [run_start]
    exact this
  · rw [run_start]
    intro x hx
    obtain ⟨r, hr, rfl⟩ := List.mem_map.1 hx
    exact fits_lt (v r hr) (fits_run (v r hr) w 0 (fits_zero r))
theorem states_few {k : Nat} (h : k ≤ 4) : (states k).length ≤ 10000 := by
  rw [states_length]
  have : 10 ^ k ≤ 10 ^ 4 := Nat.pow_le_pow_right (by decide) h
  omega

/-- keeps all -/
def Keeps (rs : List Rule) (w : List Nat) : Prop := (rs.all fun r => r.holds w) = true

theorem shortest_is {rs : List Rule} (v : ∀ r ∈ rs, Valid r) (h : rs.length ≤ 4) : Earliest (Keeps rs) (shortest rs) := by
  have := seek_first rs (keptAll rs) (states rs.length) (fun w _ => run_states v w) (by have := states_few h; unfold ENOUGH; omega)
  have e : (fun w => keptAll rs (run rs (start rs) w) = true) = Keeps rs := by
    funext w; rw [keptAll_run v]; rfl
  rw [e] at this
  exact this

/-- keeps the others and breaks this one -/
def Breaks (rs : List Rule) (i : Nat) (w : List Nat) : Prop := ∃ r, rs[i]? = some r ∧ r.holds w = false ∧ Keeps (rs.take i ++ rs.drop (i + 1)) w

theorem breaks_is {rs : List Rule} (v : ∀ r ∈ rs, Valid r) (h : rs.length ≤ 4) (i : Nat) : Earliest (Breaks rs i) (breaks rs i) := by
  unfold breaks
  split
  · rename_i e
    intro w _ ⟨r, hr, _⟩
    rw [e] at hr; cases hr
  · rename_i r e
    have ho : ∀ x ∈ r :: (rs.take i ++ rs.drop (i + 1)), Valid x := by
      intro x hx
      rcases List.mem_cons.1 hx with h | h
      · rw [h]; exact v r (List.mem_of_getElem? e)
      · rcases List.mem_append.1 h with h | h
        · exact v x (List.mem_of_mem_take h)
        · exact v x (List.mem_of_mem_drop h)
    have hi : i < rs.length := (List.getElem?_eq_some_iff.1 e).1
    have hl : (r :: (rs.take i ++ rs.drop (i + 1))).length ≤ 4 := by
      simp only [List.length_cons, List.length_append, List.length_take, List.length_drop]; omega
    have := seek_first (r :: (rs.take i ++ rs.drop (i + 1))) (fun x => !r.kept (x.headD 0) && keptAll ((r :: (rs.take i ++ rs.drop (i + 1))).drop 1) (x.drop 1)) (states (r :: (rs.take i ++ rs.drop (i + 1))).length) (fun w _ => run_states ho w) (by have := states_few hl; unfold ENOUGH; omega)
    have e2 : (fun w => (fun x : State => !r.kept (x.headD 0) && keptAll ((r :: (rs.take i ++ rs.drop (i + 1))).drop 1) (x.drop 1)) (run (r :: (rs.take i ++ rs.drop (i + 1))) (start (r :: (rs.take i ++ rs.drop (i + 1)))) w) = true) = Breaks rs i := by
      funext w
      rw [run_start]
      simp only [List.map_cons, List.headD_cons, List.drop_succ_cons, List.drop_zero, Bool.and_eq_true, Bool.not_eq_true']
      rw [keptAll_map, kept_holds (ho r List.mem_cons_self), all_congr _ fun x hx => kept_holds (ho x (List.mem_cons_of_mem _ hx)) w]
      apply propext
      constructor
      · intro h; exact ⟨r, e, h⟩
      · rintro ⟨r', hr', h⟩
        rw [e] at hr'
        cases hr'
        exact h
    rw [e2] at this
    exact this

theorem ite_some {p : Prop} [Decidable p] {a r : Rule} (h : (if p then some a else none) = some r) : p ∧ a = r := by
  by_cases e : p
  · rw [if_pos e] at h; exact ⟨e, Option.some.inj h⟩
  · rw [if_neg e] at h; cases h
theorem rule_valid {l : List Nat} {r : Rule} (h : rule? l = some r) : Valid r := by
  unfold rule? at h
  dsimp only at h
  split at h
  case h_10 => cases h
  all_goals
    obtain ⟨e, rfl⟩ := ite_some h
    first
    | exact ⟨of_decide_eq_true e.1, of_decide_eq_true e.2.1, e.2.2⟩
    | exact ⟨of_decide_eq_true e.1, e.2⟩
    | (show _ < 5; exact of_decide_eq_true e)
end Cr
end
section
namespace Cr
open Wf04

/-- how many rows of n steps, from x on, keep all -/
def ways (rs : List Rule) : Nat → State → Nat
  | 0, x => if keptAll rs x = true then 1 else 0
  | n + 1, x => ways rs n (readAll rs x 0) + ways rs n (readAll rs x 1) + ways rs n (readAll rs x 2) + ways rs n (readAll rs x 3) + ways rs n (readAll rs x 4)

/-- what is counted, weighed -/
def weigh (g : State → Nat) : List (State × Nat) → Nat
  | [] => 0
  | x :: l => x.2 * g x.1 + weigh g l
theorem weigh_app (g : State → Nat) : ∀ l m, weigh g (l ++ m) = weigh g l + weigh g m
  | [], m => by simp [weigh]
  | x :: l, m => by rw [List.cons_append, weigh, weigh, weigh_app g l m]; omega
theorem weigh_put (g : State → Nat) (s : State) (n : Nat) : ∀ l, weigh g (put s n l) = weigh g l + n * g s
  | [] => by simp [put, weigh]
  | x :: l => by
    rw [put]
    by_cases h : x.1 = s
    · rw [if_pos h, weigh, weigh, h]; show (x.2 + n) * g s + _ = _; rw [Nat.add_mul]; omega
    · rw [if_neg h, weigh, weigh, weigh_put g s n l]; omega
theorem weigh_puts (g : State → Nat) : ∀ (l m : List (State × Nat)), weigh g (l.foldl (fun m y => put y.1 y.2 m) m) = weigh g m + weigh g l
  | [], m => by simp [weigh]
  | x :: l, m => by rw [List.foldl_cons, weigh_puts g l, weigh_put, weigh]; omega
theorem weigh_onward (rs : List Rule) (g : State → Nat) (l : List (State × Nat)) :
    weigh g (onward rs l) = weigh (fun x => g (readAll rs x 0) + g (readAll rs x 1) + g (readAll rs x 2) + g (readAll rs x 3) + g (readAll rs x 4)) l := by
  unfold onward
  rw [weigh_puts, weigh, Nat.zero_add]
  induction l with
  | nil => rfl
  | cons x l ih =>
    rw [List.flatMap_cons, weigh_app, ih, weigh]
    congr 1
    show weigh g [(readAll rs x.1 0, x.2), (readAll rs x.1 1, x.2), (readAll rs x.1 2, x.2), (readAll rs x.1 3, x.2), (readAll rs x.1 4, x.2)] = _
    simp only [weigh, Nat.mul_add]; omega
theorem weigh_after (rs : List Rule) : ∀ (n : Nat) (l : List (State × Nat)), weigh (ways rs 0) (after rs n l) = weigh (ways rs n) l
  | 0, _ => rfl
  | n + 1, l => by rw [after, weigh_after rs n, weigh_onward]; rfl
theorem sum_acc : ∀ (l : List Nat) (a : Nat), l.foldl (fun a b => a + b) a = a + sum l
  | [], a => by simp [sum]
  | x :: l, a => by
    unfold sum
    rw [List.foldl_cons, List.foldl_cons, sum_acc l, sum_acc l (0 + x)]; omega
theorem sum_cons (x : Nat) (l : List Nat) : sum (x :: l) = x + sum l := by
  unfold sum; rw [List.foldl_cons, sum_acc]; unfold sum; omega
theorem sum_weigh (rs : List Rule) : ∀ l : List (State × Nat), sum (l.map fun x => if keptAll rs x.1 = true then x.2 else 0) = weigh (ways rs 0) l
  | [] => rfl
  | x :: l => by
    rw [List.map_cons, sum_cons, sum_weigh rs l, weigh, ways]
    by_cases h : keptAll rs x.1 = true
    · rw [if_pos h, if_pos h]; omega
    · rw [if_neg h, if_neg h]; omega
theorem count_ways (rs : List Rule) (n : Nat) : count rs n = ways rs n (start rs) := by
  unfold count
  rw [sum_weigh, weigh_after]; simp [weigh]

/-- how many rows of n steps, behind w, P says yes of -/
def many (P : List Nat → Bool) : Nat → List Nat → Nat
  | 0, w => if P w = true then 1 else 0
  | n + 1, w => many P n (w ++ [0]) + many P n (w ++ [1]) + many P n (w ++ [2]) + many P n (w ++ [3]) + many P n (w ++ [4])
theorem ways_many {rs : List Rule} (v : ∀ r ∈ rs, Valid r) : ∀ (n : Nat) (w : List Nat), ways rs n (run rs (start rs) w) = many (fun w => rs.all fun r => r.holds w) n w
  | 0, w => by rw [ways, many, keptAll_run v]
  | n + 1, w => by
    rw [ways, many]
    simp only [← run_snoc, ways_many v n]
theorem count_many {rs : List Rule} (v : ∀ r ∈ rs, Valid r) (n : Nat) : count rs n = many (fun w => rs.all fun r => r.holds w) n [] := by
  rw [count_ways]; exact ways_many v n []
end Cr
end
section
namespace Cr
open Wf04

/-- w is made of x, d steps being left out or put in -/
inductive Al : List Nat → List Nat → Nat → Prop
  | nil : Al [] [] 0
  | keep {x w : List Nat} {d : Nat} (c : Nat) : Al x w d → Al (x ++ [c]) (w ++ [c]) d
  | left {x w : List Nat} {d : Nat} (c : Nat) : Al x w d → Al (x ++ [c]) w (d + 1)
  | put {x w : List Nat} {d : Nat} (c : Nat) : c < 5 → Al x w d → Al x (w ++ [c]) (d + 1)

def Nearest (P : List Nat → Prop) (x : List Nat) : Option Way → Prop
  | none => ∀ d w, Al x w d → ¬ P w
  | some y => Al x y.2 y.1 ∧ P y.2 ∧ ∀ d w, Al x w d → P w → Be y (d, w)
theorem Nearest.uniq {P Q : List Nat → Prop} {x : List Nat} (e : ∀ d w, Al x w d → (P w ↔ Q w)) : ∀ {a b : Option Way}, Nearest P x a → Nearest Q x b → a = b
  | none, none, _, _ => rfl
  | none, some _, h, k => (h _ _ k.1 ((e _ _ k.1).2 k.2.1)).elim
  | some _, none, h, k => (k _ _ h.1 ((e _ _ h.1).1 h.2.1)).elim
  | some y, some z, h, k => congrArg some ((h.2.2 z.1 z.2 k.1 ((e _ _ k.1).2 k.2.1)).anti (k.2.2 y.1 y.2 h.1 ((e _ _ h.1).1 h.2.1)))

/-! ### what is known -/
def Keys (k : Known) : List State := k.map fun x => x.1
theorem find_nil (s : State) : find [] s = none := rfl
theorem find_cons (x : State × Way) (k : Known) (s : State) : find (x :: k) s = if x.1 = s then some x.2 else find k s := by
  unfold find
  rw [List.find?_cons]
  by_cases h : x.1 = s
  · rw [if_pos h]; simp [h]
  · have : (x.1 == s) = false := by simpa using h
    rw [if_neg h, this]
theorem find_mem {k : Known} {s : State} {w : Way} : find k s = some w → (s, w) ∈ k := by
  induction k with
  | nil => intro h; cases h
  | cons x k ih =>
    rw [find_cons]
    by_cases h : x.1 = s
    · rw [if_pos h]; intro e; cases e; rw [← h]; exact List.mem_cons_self
    · rw [if_neg h]; intro e; exact List.mem_cons_of_mem _ (ih e)
theorem find_none {k : Known} {s : State} : find k s = none ↔ s ∉ Keys k := by
  induction k with
  | nil => simp [find_nil, Keys]
  | cons x k ih =>
    rw [find_cons]
    by_cases h : x.1 = s
    · rw [if_pos h]; simp [Keys, h]
    · rw [if_neg h, ih]
      have : ¬ s = x.1 := fun e => h e.symm
      simp [Keys, this]
theorem mem_find {k : Known} (nd : (Keys k).Nodup) {x : State × Way} (h : x ∈ k) : find k x.1 = some x.2 := by
  induction k with
  | nil => cases h
  | cons y k ih =>
    have nd' := List.nodup_cons.1 nd
    rw [find_cons]
    rcases List.mem_cons.1 h with e | e
    · rw [← e, if_pos rfl]
    · have : ¬ y.1 = x.1 := by
        intro e'
        exact nd'.1 (List.mem_map.2 ⟨x, e, e'.symm⟩)
      rw [if_neg this]
      exact ih nd'.2 e

theorem keep_find (s : State) (w : Way) (t : State) : ∀ k : Known, find (keep s w k).1 t = if s = t then (match find k s with | none => some w | some v => if better w v = true then some w else some v) else find k t
  | [] => by
    show find [(s, w)] t = _
    rw [find_cons]
    by_cases h : s = t
    · rw [if_pos h, if_pos h]; rfl
    · rw [if_neg h, if_neg h]
  | x :: k => by
    rw [keep]
    by_cases h : x.1 = s
    · rw [if_pos h]
      by_cases b : better w x.2 = true
      · rw [if_pos b]
        show find ((s, w) :: k) t = _
        rw [find_cons, find_cons, find_cons, if_pos h]
        by_cases q : s = t
        · rw [if_pos q, if_pos q]; simp [b]
        · rw [if_neg q, if_neg q, if_neg (by rw [h]; exact q)]
      · rw [if_neg b]
        show find (x :: k) t = _
        rw [find_cons, find_cons, if_pos h]
        by_cases q : s = t
        · rw [if_pos q, if_pos (by rw [h]; exact q)]; simp [b]
        · rw [if_neg q]
    · rw [if_neg h]
      show find (x :: (keep s w k).1) t = _
      rw [find_cons, find_cons, find_cons, if_neg h, keep_find s w t k]
      by_cases q : s = t
      · rw [if_pos q, if_pos q, if_neg (by rw [← q]; exact h)]
      · rw [if_neg q, if_neg q]
/-- whether it was changed -/
theorem keep_told (s : State) (w : Way) : ∀ k : Known, (keep s w k).2 = false → ∃ v, find k s = some v ∧ better w v = false
  | [], h => by cases h
  | x :: k, h => by
    rw [keep] at h
    rw [find_cons]
    by_cases e : x.1 = s
    · rw [if_pos e] at h ⊢
      by_cases b : better w x.2 = true
      · rw [if_pos b] at h; cases h
      · exact ⟨x.2, rfl, by simpa using b⟩
    · rw [if_neg e] at h ⊢
      exact keep_told s w k h
theorem keep_keys (s : State) (w : Way) : ∀ k : Known, Keys (keep s w k).1 = if s ∈ Keys k then Keys k else Keys k ++ [s]
  | [] => rfl
  | x :: k => by
    rw [keep]
    by_cases h : x.1 = s
    · rw [if_pos h]
      have m : s ∈ Keys (x :: k) := by simp [Keys, h]
      rw [if_pos m]
      by_cases b : better w x.2 = true
      · rw [if_pos b]; simp [Keys, h]
      · rw [if_neg b]
    · rw [if_neg h]
      show x.1 :: Keys (keep s w k).1 = _
      rw [keep_keys s w k]
      have n : ¬ s = x.1 := fun e => h e.symm
      have : (s ∈ Keys (x :: k)) ↔ s ∈ Keys k := by simp [Keys, n]
      by_cases q : s ∈ Keys k
      · rw [if_pos q, if_pos (this.2 q)]; rfl
      · rw [if_neg q, if_neg (fun e => q (this.1 e))]; rfl
theorem keep_nodup {s : State} {w : Way} {k : Known} (h : (Keys k).Nodup) : (Keys (keep s w k).1).Nodup := by
  rw [keep_keys]
  by_cases q : s ∈ Keys k
  · rw [if_pos q]; exact h
  · rw [if_neg q]
    rw [List.nodup_append]
    refine ⟨h, by simp, ?_⟩
    intro a ha b hb e
    rw [List.mem_singleton.1 hb] at e
    exact q (e ▸ ha)
theorem keep_len (s : State) (w : Way) (k : Known) : k.length ≤ (keep s w k).1.length ∧ (s ∉ Keys k → (keep s w k).1.length = k.length + 1) := by
  have e := congrArg List.length (keep_keys s w k)
  have l1 : (Keys (keep s w k).1).length = (keep s w k).1.length := List.length_map ..
  have l2 : (Keys k).length = k.length := List.length_map ..
  by_cases q : s ∈ Keys k
  · rw [if_pos q] at e; exact ⟨by omega, fun h => (h q).elim⟩
  · rw [if_neg q, List.length_append, List.length_singleton] at e
    exact ⟨by omega, fun _ => by omega⟩

/-- k knows a way to s that is no worse than w -/
def Knows (k : Known) (s : State) (w : Way) : Prop := ∃ v, find k s = some v ∧ Be v w
theorem Knows.keep {k : Known} {s : State} {w : Way} (h : Knows k s w) (t : State) (u : Way) : Knows (Wf04.keep t u k).1 s w := by
  obtain ⟨v, e, b⟩ := h
  unfold Knows
  rw [keep_find]
  by_cases q : t = s
  · rw [if_pos q, q, e]
    dsimp only
    by_cases bb : better u v = true
    · rw [if_pos bb]
      exact ⟨u, rfl, Be.trans (.inr ((better_iff u v).1 bb)) b⟩
    · rw [if_neg bb]; exact ⟨v, rfl, b⟩
  · rw [if_neg q]; exact ⟨v, e, b⟩
theorem knows_keep (k : Known) (t : State) (u : Way) : Knows (Wf04.keep t u k).1 t u := by
  unfold Knows
  rw [keep_find, if_pos rfl]
  cases e : find k t with
  | none => exact ⟨u, rfl, .rfl⟩
  | some v =>
    dsimp only
    by_cases bb : better u v = true
    · rw [if_pos bb]; exact ⟨u, rfl, .rfl⟩
    · rw [if_neg bb]; exact ⟨v, rfl, Be.of_not bb⟩
theorem Knows.le {k : Known} {s : State} {w w' : Way} (h : Knows k s w) (b : Be w w') : Knows k s w' := by
  obtain ⟨v, e, b'⟩ := h
  exact ⟨v, e, b'.trans b⟩

/-! ### a list of ways put in -/
def puts (zs : List (State × Way)) (k : Known) : Known := zs.foldl (fun y z => (keep z.1 z.2 y).1) k
theorem puts_cons (z : State × Way) (zs : List (State × Way)) (k : Known) : puts (z :: zs) k = puts zs (keep z.1 z.2 k).1 := rfl
theorem puts_nodup : ∀ (zs : List (State × Way)) {k : Known}, (Keys k).Nodup → (Keys (puts zs k)).Nodup
  | [], _, h => h
  | z :: zs, k, h => by rw [puts_cons]; exact puts_nodup zs (keep_nodup h)
theorem puts_old : ∀ (zs : List (State × Way)) {k : Known} {s : State} {w : Way}, Knows k s w → Knows (puts zs k) s w
  | [], _, _, _, h => h
  | z :: zs, k, s, w, h => by rw [puts_cons]; exact puts_old zs (h.keep _ _)
theorem puts_new : ∀ (zs : List (State × Way)) {k : Known} {z : State × Way}, z ∈ zs → Knows (puts zs k) z.1 z.2
  | [], _, _, h => by cases h
  | y :: zs, k, z, h => by
    rw [puts_cons]
    rcases List.mem_cons.1 h with e | e
    · rw [e]; exact puts_old zs (knows_keep _ _ _)
    · exact puts_new zs e
/-- where each way comes from -/
theorem keep_from {s : State} {w : Way} {k : Known} {t : State} {v : Way} (h : find (keep s w k).1 t = some v) : find k t = some v ∨ (t = s ∧ v = w) := by
  rw [keep_find] at h
  by_cases q : s = t
  · rw [if_pos q] at h
    subst q
    cases e : find k s with
    | none => rw [e] at h; cases h; exact .inr ⟨rfl, rfl⟩
    | some u =>
      rw [e] at h
      dsimp only at h
      by_cases bb : better w u = true
      · rw [if_pos bb] at h; cases h; exact .inr ⟨rfl, rfl⟩
      · rw [if_neg bb] at h; exact .inl h
  · rw [if_neg q] at h; exact .inl h
theorem puts_from : ∀ (zs : List (State × Way)) {k : Known} {t : State} {v : Way}, find (puts zs k) t = some v → find k t = some v ∨ (t, v) ∈ zs
  | [], _, _, _, h => .inl h
  | z :: zs, k, t, v, h => by
    rw [puts_cons] at h
    rcases puts_from zs h with h | h
    · rcases keep_from h with h | ⟨rfl, rfl⟩
      · exact .inl h
      · exact .inr List.mem_cons_self
    · exact .inr (List.mem_cons_of_mem _ h)

/-! ### a round -/
abbrev roundStep (y : Known × List State) (z : State × Way) : Known × List State :=
  let k := keep z.1 z.2 y.1
  (k.1, if k.2 = true ∧ y.2.contains z.1 = false then y.2 ++ [z.1] else y.2)
theorem round_known : ∀ (zs : List (State × Way)) (y : Known × List State), (zs.foldl roundStep y).1 = puts zs y.1
  | [], _ => rfl
  | z :: zs, y => by rw [List.foldl_cons, round_known zs]; rfl
theorem round_grows : ∀ (zs : List (State × Way)) (y : Known × List State) (s : State), s ∈ y.2 → s ∈ (zs.foldl roundStep y).2
  | [], _, _, h => h
  | z :: zs, y, s, h => by
    rw [List.foldl_cons]
    refine round_grows zs _ s ?_
    show s ∈ (if _ then y.2 ++ [z.1] else y.2)
    split
    · exact List.mem_append.2 (.inl h)
    · exact h
/-- what has changed is told -/
theorem round_told : ∀ (zs : List (State × Way)) (y : Known × List State) (s : State), s ∉ (zs.foldl roundStep y).2 → find (puts zs y.1) s = find y.1 s
  | [], _, _, _ => rfl
  | z :: zs, y, s, h => by
    rw [List.foldl_cons] at h
    rw [puts_cons]
    have h1 := round_told zs _ s h
    rw [show (roundStep y z).1 = (keep z.1 z.2 y.1).1 from rfl] at h1
    rw [h1, keep_find]
    by_cases q : z.1 = s
    · rw [if_pos q]
      have h2 : s ∉ (roundStep y z).2 := fun e => h (round_grows zs _ s e)
      cases e : (keep z.1 z.2 y.1).2 with
      | false =>
        obtain ⟨v, e1, e2⟩ := keep_told z.1 z.2 y.1 e
        rw [← q, e1]; simp [e2]
      | true =>
        exfalso
        apply h2
        show s ∈ (if (keep z.1 z.2 y.1).2 = true ∧ y.2.contains z.1 = false then y.2 ++ [z.1] else y.2)
        by_cases c : y.2.contains z.1 = false
        · rw [if_pos ⟨e, c⟩, q]; simp
        · rw [if_neg (fun x => c x.2), ← q]
          simpa using c
    · rw [if_neg q]
/-- only what is put in is told -/
theorem round_only : ∀ (zs : List (State × Way)) (y : Known × List State) (s : State), s ∈ (zs.foldl roundStep y).2 → s ∈ y.2 ∨ ∃ z ∈ zs, z.1 = s ∧ Knows (puts zs y.1) s z.2
  | [], _, _, h => .inl h
  | z :: zs, y, s, h => by
    rw [List.foldl_cons] at h
    rcases round_only zs _ s h with h | ⟨z', m, e, kn⟩
    · have : s ∈ y.2 ∨ s = z.1 := by
        have h' : s ∈ (if (keep z.1 z.2 y.1).2 = true ∧ y.2.contains z.1 = false then y.2 ++ [z.1] else y.2) := h
        split at h'
        · rcases List.mem_append.1 h' with h | h
          · exact .inl h
          · exact .inr (List.mem_singleton.1 h)
        · exact .inl h'
      rcases this with h | h
      · exact .inl h
      · exact .inr ⟨z, List.mem_cons_self, h.symm, by rw [h]; exact puts_new _ List.mem_cons_self⟩
    · exact .inr ⟨z', List.mem_cons_of_mem _ m, e, kn⟩
end Cr
end
section
namespace Cr
open Wf04

theorem keep_changed (s : State) (w : Way) (k : Known) (h : (keep s w k).2 = true) : find (keep s w k).1 s = some w := by
  rw [keep_find, if_pos rfl]
  induction k with
  | nil => rfl
  | cons x k ih =>
    rw [keep] at h
    rw [find_cons]
    by_cases e : x.1 = s
    · rw [if_pos e] at h ⊢
      by_cases b : better w x.2 = true
      · simp [b]
      · rw [if_neg b] at h; cases h
    · rw [if_neg e] at h ⊢
      exact ih h
theorem keep_has {s : State} {w : Way} {k : Known} {t : State} {v : Way} (h : find k t = some v) : ∃ u, find (keep s w k).1 t = some u := by
  rw [keep_find]
  by_cases q : s = t
  · rw [if_pos q, q, h]
    dsimp only
    split <;> exact ⟨_, rfl⟩
  · rw [if_neg q]; exact ⟨v, h⟩

theorem round_val (Z : List (State × Way)) : ∀ (zs : List (State × Way)) (y : Known × List State), (∀ z ∈ zs, z ∈ Z) →
    (∀ s ∈ y.2, ∃ v, find y.1 s = some v ∧ (s, v) ∈ Z) → ∀ s ∈ (zs.foldl roundStep y).2, ∃ v, find (zs.foldl roundStep y).1 s = some v ∧ (s, v) ∈ Z
  | [], _, _, h => h
  | z :: zs, y, hz, h => by
    rw [List.foldl_cons]
    refine round_val Z zs _ (fun a ha => hz a (List.mem_cons_of_mem _ ha)) ?_
    intro s hs
    have old : s ∈ y.2 → ∃ v, find (roundStep y z).1 s = some v ∧ (s, v) ∈ Z := by
      intro m
      obtain ⟨v, e, mv⟩ := h s m
      obtain ⟨u, hu⟩ := keep_has (s := z.1) (w := z.2) e
      refine ⟨u, hu, ?_⟩
      rcases keep_from hu with h | ⟨rfl, rfl⟩
      · rw [e] at h; cases h; exact mv
      · exact hz z List.mem_cons_self
    have hs' : s ∈ (if (keep z.1 z.2 y.1).2 = true ∧ y.2.contains z.1 = false then y.2 ++ [z.1] else y.2) := hs
    split at hs'
    · rename_i c
      rcases List.mem_append.1 hs' with m | m
      · exact old m
      · have := List.mem_singleton.1 m
        subst this
        exact ⟨z.2, keep_changed _ _ _ c.1, hz z List.mem_cons_self⟩
    · exact old hs'

theorem nodup_len : ∀ (l U : List State), l.Nodup → (∀ s ∈ l, s ∈ U) → l.length ≤ U.length
  | [], _, _, _ => by simp
  | x :: l, U, nd, h => by
    have nd' := List.nodup_cons.1 nd
    have hx := h x List.mem_cons_self
    have := nodup_len l (U.erase x) nd'.2 (by
      intro s hs
      have ne : s ≠ x := fun e => nd'.1 (e ▸ hs)
      exact (List.mem_erase_of_ne ne).2 (h s (List.mem_cons_of_mem _ hs)))
    rw [List.length_erase_of_mem hx] at this
    have : 0 < U.length := List.length_pos_of_mem hx
    simp only [List.length_cons]; omega

theorem keep_far {C L : Nat} {s : State} {w : Way} {k : Known} (hk : ∀ t v, find k t = some v → v.1 ≤ C + k.length) (hw : w.1 ≤ C + L + 1) (hL : L ≤ k.length) :
    ∀ t v, find (keep s w k).1 t = some v → v.1 ≤ C + (keep s w k).1.length := by
  intro t v h
  have l := keep_len s w k
  rw [keep_find] at h
  by_cases q : s = t
  · rw [if_pos q] at h
    cases e : find k s with
    | none =>
      rw [e] at h
      cases h
      have := l.2 (find_none.1 e)
      omega
    | some u =>
      rw [e] at h
      dsimp only at h
      have hu := hk s u e
      by_cases b : better w u = true
      · rw [if_pos b] at h
        cases h
        have : Be w u := .inr ((better_iff w u).1 b)
        have := this.far
        omega
      · rw [if_neg b] at h
        cases h
        omega
  · rw [if_neg q] at h
    have := hk t v h
    omega
theorem puts_far {C L : Nat} : ∀ (zs : List (State × Way)) {k : Known}, (∀ t v, find k t = some v → v.1 ≤ C + k.length) → (∀ z ∈ zs, z.2.1 ≤ C + L + 1) → L ≤ k.length →
    ∀ t v, find (puts zs k) t = some v → v.1 ≤ C + (puts zs k).length
  | [], _, hk, _, _ => hk
  | z :: zs, k, hk, hz, hL => by
    rw [puts_cons]
    exact puts_far zs (keep_far hk (hz z List.mem_cons_self) hL) (fun a ha => hz a (List.mem_cons_of_mem _ ha)) (Nat.le_trans hL (keep_len _ _ _).1)

/-- the ways put in from those that became better -/
def outs (rs : List Rule) (k : Known) (todo : List State) : List (State × Way) := todo.flatMap fun s => match find k s with
  | none => []
  | some w => (List.range STEPS).map fun c => (readAll rs s c, (w.1 + 1, w.2 ++ [c]))
theorem outs_mem {rs : List Rule} {k : Known} {todo : List State} {z : State × Way} : z ∈ outs rs k todo ↔ ∃ s ∈ todo, ∃ w, find k s = some w ∧ ∃ c, c < 5 ∧ z = (readAll rs s c, (w.1 + 1, w.2 ++ [c])) := by
  unfold outs
  rw [List.mem_flatMap]
  constructor
  · rintro ⟨s, hs, h⟩
    refine ⟨s, hs, ?_⟩
    cases e : find k s with
    | none => rw [e] at h; cases h
    | some w =>
      rw [e] at h
      obtain ⟨c, hc, e'⟩ := List.mem_map.1 h
      exact ⟨w, rfl, c, List.mem_range.1 hc, e'.symm⟩
  · rintro ⟨s, hs, w, e, c, hc, rfl⟩
    refine ⟨s, hs, ?_⟩
    rw [e]
    exact List.mem_map.2 ⟨c, List.mem_range.2 hc, rfl⟩

structure KOk (U : List State) (Snd : State → Way → Prop) (k : Known) : Prop where
  nodup : (Keys k).Nodup
  sound : ∀ s v, find k s = some v → Snd s v
def Closed (rs : List Rule) (k : Known) : Prop := ∀ s v, find k s = some v → ∀ c, c < 5 → Knows k (readAll rs s c) (v.1 + 1, v.2 ++ [c])

theorem kok_len {U : List State} {Snd : State → Way → Prop} (hU : ∀ s v, Snd s v → s ∈ U) {k : Known} (h : KOk U Snd k) : k.length ≤ U.length := by
  have := nodup_len (Keys k) U h.nodup (by
    intro s hs
    cases e : find k s with
    | none => exact (find_none.1 e hs).elim
    | some v => exact hU s v (h.sound s v e))
  rwa [show (Keys k).length = k.length from List.length_map ..] at this

theorem settle_is (rs : List Rule) (U : List State) (Snd : State → Way → Prop) (hU : ∀ s v, Snd s v → s ∈ U)
    (hS : ∀ s v c, Snd s v → c < 5 → Snd (readAll rs s c) (v.1 + 1, v.2 ++ [c])) (C : Nat) :
    ∀ (n r : Nat) (k : Known) (todo : List State), KOk U Snd k →
      (∀ s v, find k s = some v → s ∉ todo → ∀ c, c < 5 → Knows k (readAll rs s c) (v.1 + 1, v.2 ++ [c])) →
      (∀ s ∈ todo, ∃ v, find k s = some v ∧ r ≤ v.1) → (∀ s v, find k s = some v → v.1 ≤ C + k.length) → C + U.length + 1 ≤ n + r →
      KOk U Snd (settle rs n (k, todo)) ∧ Closed rs (settle rs n (k, todo)) ∧ (∀ s w, Knows k s w → Knows (settle rs n (k, todo)) s w) ∧ (∀ s v, find (settle rs n (k, todo)) s = some v → v.1 ≤ C + U.length)
  | n, r, k, [], hk, hc, _, hf, _ => by
    have e : settle rs n (k, []) = k := by cases n <;> rfl
    rw [e]
    refine ⟨hk, fun s v h c => hc s v h (by simp) c, fun _ _ h => h, fun s v h => ?_⟩
    have := hf s v h
    have := kok_len hU hk
    omega
  | 0, r, k, s :: todo, hk, _, ht, hf, hn => by
    obtain ⟨v, e, hv⟩ := ht s List.mem_cons_self
    have := hf s v e
    have := kok_len hU hk
    omega
  | n + 1, r, k, s0 :: todo0, hk, hc, ht, hf, hn => by
    rw [settle]
    rw [if_neg (by simp)]
    generalize hT : s0 :: todo0 = todo at hc ht
    have hround : ∀ z ∈ outs rs k todo, Snd z.1 z.2 ∧ r + 1 ≤ z.2.1 ∧ z.2.1 ≤ C + k.length + 1 := by
      intro z hz
      obtain ⟨s, hs, w, e, c, hc, rfl⟩ := outs_mem.1 hz
      obtain ⟨v, e', hv⟩ := ht s hs
      rw [e] at e'; cases e'
      have := hf s w e
      exact ⟨hS s w c (hk.sound s w e) hc, by show r + 1 ≤ w.1 + 1; omega, by show w.1 + 1 ≤ _; omega⟩
    have e1 := round_known (outs rs k todo) (k, [])
    have hk' : KOk U Snd (puts (outs rs k todo) k) := by
      refine ⟨puts_nodup _ hk.nodup, ?_⟩
      intro s v h
      rcases puts_from _ h with h | h
      · exact hk.sound s v h
      · exact (hround _ h).1
    have ih := settle_is rs U Snd hU hS C n (r + 1) ((outs rs k todo).foldl roundStep (k, [])).1 ((outs rs k todo).foldl roundStep (k, [])).2
      (by rw [e1]; exact hk') ?_ ?_ ?_ (by omega)
    · rw [show (((outs rs k todo).foldl roundStep (k, [])).1, ((outs rs k todo).foldl roundStep (k, [])).2) = (outs rs k todo).foldl roundStep (k, []) from rfl] at ih
      have goal : ∀ X : Known, X = settle rs n ((outs rs k todo).foldl roundStep (k, [])) → KOk U Snd X ∧ Closed rs X ∧ (∀ s w, Knows k s w → Knows X s w) ∧ (∀ s v, find X s = some v → v.1 ≤ C + U.length) := by
        intro X hX
        subst hX
        refine ⟨ih.1, ih.2.1, ?_, ih.2.2.2⟩
        intro s w h
        refine ih.2.2.1 s w ?_
        rw [e1]
        exact puts_old _ h
      exact goal _ rfl
    · intro s v h ns c hcc
      rw [e1] at h ⊢
      have same := round_told (outs rs k todo) (k, []) s ns
      rw [h] at same
      have same := same.symm
      by_cases m : s ∈ todo
      · exact puts_new _ (outs_mem.2 ⟨s, m, v, same, c, hcc, rfl⟩)
      · exact puts_old _ (hc s v same m c hcc)
    · intro s hs
      obtain ⟨v, e, m⟩ := round_val (outs rs k todo) (outs rs k todo) (k, []) (fun _ h => h) (by intro s hs; cases hs) s hs
      exact ⟨v, e, (hround _ m).2.1⟩
    · rw [e1]
      exact puts_far _ hf (fun z hz => (hround z hz).2.2) (Nat.le_refl _)

theorem closed_is (rs : List Rule) (U : List State) (Snd : State → Way → Prop) (hU : ∀ s v, Snd s v → s ∈ U)
    (hS : ∀ s v c, Snd s v → c < 5 → Snd (readAll rs s c) (v.1 + 1, v.2 ++ [c])) (C : Nat) (hC : C + U.length + 1 ≤ ENOUGH) {k : Known} (hk : KOk U Snd k) (hf : ∀ s v, find k s = some v → v.1 ≤ C) :
    KOk U Snd (closed rs k) ∧ Closed rs (closed rs k) ∧ (∀ s w, Knows k s w → Knows (closed rs k) s w) ∧ (∀ s v, find (closed rs k) s = some v → v.1 ≤ C + U.length) := by
  refine settle_is rs U Snd hU hS C ENOUGH 0 k _ hk ?_ ?_ ?_ (by omega)
  · intro s v h n
    exfalso
    apply n
    exact List.mem_map.2 ⟨(s, v), find_mem h, rfl⟩
  · intro s hs
    cases e : find k s with
    | none => exact (find_none.1 e hs).elim
    | some v => exact ⟨v, rfl, Nat.zero_le _⟩
  · intro s v h
    have := hf s v h
    omega

/-! ### the nearest -/
structure Best (rs : List Rule) (x : List Nat) (k : Known) : Prop where
  nodup : (Keys k).Nodup
  sound : ∀ s v, find k s = some v → Al x v.2 v.1 ∧ s = run rs (start rs) v.2
  all : ∀ d w, Al x w d → Knows k (run rs (start rs) w) (d, w)

theorem put_known {rs : List Rule} {k : Known} (hk : Closed rs k) {w : List Nat} {d c : Nat} (hc : c < 5) (h : Knows k (run rs (start rs) w) (d, w)) : Knows k (run rs (start rs) (w ++ [c])) (d + 1, w ++ [c]) := by
  obtain ⟨v, e, b⟩ := h
  rw [run_snoc]
  exact (hk _ v e c hc).le (b.app 1 [c])

theorem best_start {rs : List Rule} (v : ∀ r ∈ rs, Valid r) (hl : rs.length ≤ 4) : Best rs [] (closed rs [(start rs, (0, []))]) ∧ ∀ s v, find (closed rs [(start rs, (0, []))]) s = some v → v.1 ≤ 0 + (states rs.length).length := by
  have C := closed_is rs (states rs.length) (fun s v => Al [] v.2 v.1 ∧ s = run rs (start rs) v.2) (fun s w h => by rw [h.2]; exact run_states v w.2)
    (fun s w c h hc => ⟨.put c hc h.1, by rw [run_snoc, h.2]⟩) 0 (by have := states_few hl; unfold ENOUGH; omega) (k := [(start rs, (0, []))])
    ⟨by simp [Keys], by
      intro s w h
      have := find_mem h
      simp only [List.mem_singleton, Prod.mk.injEq] at this
      obtain ⟨rfl, rfl⟩ := this
      exact ⟨.nil, rfl⟩⟩ (by
      intro s w h
      have := find_mem h
      simp only [List.mem_singleton, Prod.mk.injEq] at this
      obtain ⟨rfl, rfl⟩ := this
      exact Nat.le_refl _)
  refine ⟨⟨C.1.nodup, C.1.sound, ?_⟩, C.2.2.2⟩
  have all : ∀ x d w, Al x w d → x = [] → Knows (closed rs [(start rs, (0, []))]) (run rs (start rs) w) (d, w) := ?_
  · exact fun d w h => all [] d w h rfl
  intro x d w h hx
  induction h with
  | nil =>
    refine C.2.2.1 _ _ ⟨(0, []), ?_, .rfl⟩
    rw [find_cons, if_pos (show start rs = run rs (start rs) [] from rfl)]
  | keep c h ih => simp at hx
  | left c h ih => simp at hx
  | put c hc h ih => exact put_known C.2.1 hc (ih hx)

theorem on_puts (rs : List Rule) (k : Known) (c : Nat) : on_ rs k c = puts (k.flatMap fun x => [(x.1, (x.2.1 + 1, x.2.2)), (readAll rs x.1 c, (x.2.1, x.2.2 ++ [c]))]) [] := rfl

theorem best_on {rs : List Rule} (v : ∀ r ∈ rs, Valid r) {x : List Nat} {k : Known} {C : Nat} (b : Best rs x k) (hf : ∀ s v, find k s = some v → v.1 ≤ C) (hC : C + 1 + (states rs.length).length + 1 ≤ ENOUGH) (c : Nat) :
    Best rs (x ++ [c]) (closed rs (on_ rs k c)) ∧ ∀ s v, find (closed rs (on_ rs k c)) s = some v → v.1 ≤ C + 1 + (states rs.length).length := by
  have mem : ∀ z, z ∈ (k.flatMap fun x => [(x.1, (x.2.1 + 1, x.2.2)), (readAll rs x.1 c, (x.2.1, x.2.2 ++ [c]))]) → ∃ s w, find k s = some w ∧ (z = (s, (w.1 + 1, w.2)) ∨ z = (readAll rs s c, (w.1, w.2 ++ [c]))) := by
    intro z hz
    obtain ⟨y, hy, h⟩ := List.mem_flatMap.1 hz
    refine ⟨y.1, y.2, mem_find b.nodup hy, ?_⟩
    simp only [List.mem_cons, List.not_mem_nil, or_false] at h
    exact h
  have S : ∀ s w, find (on_ rs k c) s = some w → (Al (x ++ [c]) w.2 w.1 ∧ s = run rs (start rs) w.2) ∧ w.1 ≤ C + 1 := by
    intro s w h
    rw [on_puts] at h
    rcases puts_from _ h with h | h
    · cases h
    · obtain ⟨s', w', e, h⟩ := mem _ h
      have sd := b.sound s' w' e
      have := hf s' w' e
      rcases h with h | h
      · cases h
        exact ⟨⟨.left c sd.1, sd.2⟩, by show w'.1 + 1 ≤ _; omega⟩
      · cases h
        exact ⟨⟨.keep c sd.1, by rw [run_snoc, ← sd.2]⟩, by show w'.1 ≤ _; omega⟩
  have D := closed_is rs (states rs.length) (fun s v => Al (x ++ [c]) v.2 v.1 ∧ s = run rs (start rs) v.2) (fun s w h => by rw [h.2]; exact run_states v w.2)
    (fun s w c h hc => ⟨.put c hc h.1, by rw [run_snoc, h.2]⟩) (C + 1) (by omega) (k := on_ rs k c)
    ⟨by rw [on_puts]; exact puts_nodup _ (by simp [Keys]), fun s w h => (S s w h).1⟩ (fun s w h => (S s w h).2)
  refine ⟨⟨D.1.nodup, D.1.sound, ?_⟩, D.2.2.2⟩
  intro d w h
  generalize hx : x ++ [c] = x' at h
  induction h with
  | nil => simp at hx
  | keep c' h ih =>
    obtain ⟨rfl, e⟩ := List.append_inj' hx rfl
    cases e
    obtain ⟨u, e, le⟩ := b.all _ _ h
    refine D.2.2.1 _ _ ?_
    rw [run_snoc, on_puts]
    refine (puts_new _ (z := (readAll rs _ c, (u.1, u.2 ++ [c]))) ?_).le (le.app 0 [c])
    exact List.mem_flatMap.2 ⟨(_, u), find_mem e, List.mem_cons_of_mem _ List.mem_cons_self⟩
  | left c' h ih =>
    obtain ⟨rfl, e⟩ := List.append_inj' hx rfl
    cases e
    obtain ⟨u, e, le⟩ := b.all _ _ h
    refine D.2.2.1 _ _ ?_
    rw [on_puts]
    refine (puts_new _ (z := (_, (u.1 + 1, u.2))) ?_).le (by have := le.app 1 []; simpa using this)
    exact List.mem_flatMap.2 ⟨(_, u), find_mem e, List.mem_cons_self⟩
  | put c' hc h ih => exact put_known D.2.1 hc (ih hx)

theorem best_row {rs : List Rule} (v : ∀ r ∈ rs, Valid r) (hl : rs.length ≤ 4) : ∀ (w x : List Nat) (k : Known) (C : Nat), Best rs x k → (∀ s v, find k s = some v → v.1 ≤ C) → C + w.length * 10001 + 10001 ≤ ENOUGH →
    Best rs (x ++ w) (w.foldl (fun k c => closed rs (on_ rs k c)) k)
  | [], x, k, _, b, _, _ => by rw [List.append_nil]; exact b
  | c :: w, x, k, C, b, hf, hC => by
    have := states_few hl
    have n := best_on v b hf (by simp only [List.length_cons] at hC; omega) c
    rw [List.foldl_cons]
    have := best_row v hl w (x ++ [c]) _ (C + 1 + (states rs.length).length) n.1 n.2 (by simp only [List.length_cons] at hC; omega)
    rwa [List.append_assoc] at this

/-- the best of a list -/
abbrev pick (a : Option Way) (x : State × Way) : Option Way := match a with
  | none => some x.2
  | some b => if better x.2 b = true then some x.2 else some b
theorem pick_is : ∀ (l : Known) (a : Option Way), (match l.foldl pick a with
    | none => l = [] ∧ a = none
    | some y => (a = some y ∨ ∃ x ∈ l, x.2 = y) ∧ (∀ b, a = some b → Be y b) ∧ ∀ x ∈ l, Be y x.2)
  | [], none => ⟨rfl, rfl⟩
  | [], some y => ⟨.inl rfl, fun b h => by cases h; exact .rfl, fun _ h => by cases h⟩
  | z :: l, a => by
    rw [List.foldl_cons]
    have ih := pick_is l (pick a z)
    have hp : ∃ y, pick a z = some y ∧ (a = some y ∨ z.2 = y) ∧ (∀ b, a = some b → Be y b) ∧ Be y z.2 := by
      cases a with
      | none => exact ⟨z.2, rfl, .inr rfl, fun b h => (by cases h), .rfl⟩
      | some b =>
        show ∃ y, (if better z.2 b = true then some z.2 else some b) = some y ∧ _
        by_cases bb : better z.2 b = true
        · rw [if_pos bb]
          exact ⟨z.2, rfl, .inr rfl, fun b' h => by cases h; exact .inr ((better_iff _ _).1 bb), .rfl⟩
        · rw [if_neg bb]
          exact ⟨b, rfl, .inl rfl, fun b' h => by cases h; exact .rfl, Be.of_not bb⟩
    obtain ⟨y0, e0, h1, h2, h3⟩ := hp
    rw [e0] at ih ⊢
    cases e : l.foldl pick (some y0) with
    | none => rw [e] at ih; cases ih.2
    | some y =>
      rw [e] at ih
      dsimp only at ih ⊢
      have le := ih.2.1 y0 rfl
      refine ⟨?_, fun b h => le.trans (h2 b h), ?_⟩
      · rcases ih.1 with h | ⟨x, hx, h⟩
        · cases h
          rcases h1 with h | h
          · exact .inl h
          · exact .inr ⟨z, List.mem_cons_self, h⟩
        · exact .inr ⟨x, List.mem_cons_of_mem _ hx, h⟩
      · intro x hx
        rcases List.mem_cons.1 hx with h | h
        · rw [h]; exact le.trans h3
        · exact ih.2.2 x h

theorem nearest_is {rs : List Rule} (v : ∀ r ∈ rs, Valid r) (hl : rs.length ≤ 4) {w : List Nat} (hw : w.length ≤ 8) : Nearest (Keeps rs) w (nearest rs w) := by
  have s := best_start v hl
  have := states_few hl
  have b := best_row v hl w [] _ _ s.1 s.2 (by unfold ENOUGH; omega)
  rw [List.nil_append] at b
  unfold nearest
  generalize w.foldl (fun k c => closed rs (on_ rs k c)) (closed rs [(start rs, (0, []))]) = k at b
  have p := pick_is (k.filter fun x => keptAll rs x.1) none
  show Nearest (Keeps rs) w ((k.filter fun x => keptAll rs x.1).foldl pick none)
  cases e : (k.filter fun x => keptAll rs x.1).foldl pick none with
  | none =>
    rw [e] at p
    intro d u h hu
    obtain ⟨y, hy, _⟩ := b.all d u h
    have : (run rs (start rs) u, y) ∈ k.filter fun x => keptAll rs x.1 := List.mem_filter.2 ⟨find_mem hy, by rw [keptAll_run v]; exact hu⟩
    rw [p.1] at this
    cases this
  | some y =>
    rw [e] at p
    dsimp only at p
    rcases p.1 with h | ⟨x, hx, rfl⟩
    · cases h
    · obtain ⟨hx1, hx2⟩ := List.mem_filter.1 hx
      have sd := b.sound x.1 x.2 (mem_find b.nodup hx1)
      refine ⟨sd.1, ?_, ?_⟩
      · rw [sd.2, keptAll_run v] at hx2; exact hx2
      · intro d u h hu
        obtain ⟨y, hy, le⟩ := b.all d u h
        exact (p.2.2 _ (List.mem_filter.2 ⟨find_mem hy, by rw [keptAll_run v]; exact hu⟩)).trans le
end Cr
end
section
namespace Cr
open Wf04

/-- a rule's state behind one more step, as the program keeps it -/
def pread : Rule → Nat → Nat → Nat
  | .least a _, x, c => if c = a ∧ x ≤ 3 then x + 1 else x
  | .most a _, x, c => if c = a ∧ x ≤ 3 then x + 1 else x
  | .first a, x, c => if x ≠ 0 then x else if c = a then 1 else 2
  | .last a, _, c => if c = a then 1 else 0
  | .later a b, x, c => if c = a then 1 else if c = b ∧ x = 1 then 2 else x
  | .before a b, x, c => if c = a ∧ x = 0 then 1 else if c = b ∧ x = 0 then 3 else if c = b ∧ x = 1 then 2 else x
  | .next a b, x, c => if x = 1 then (if c = b then 2 else 3) else if c = a ∧ x ≠ 3 then 1 else x
  | .apart a b, x, c => if c = a then x ||| 1 else if c = b then x ||| 2 else x
  | .between a b, x, c => if c = b ∧ (x = 1 ∨ x = 3) then x + 1 else if c ≠ a then x else if x = 0 then 1 else if x = 2 ∨ x = 4 then 3 else 5
def verd (l : List Nat) (x : Nat) : Nat := l.getD x 0
def pverd : Rule → Nat → Nat
  | .least _ n, x => if n ≤ x then 1 else 0
  | .most _ n, x => if x ≤ n then 1 else 0
  | .first _, x => verd [0, 1, 0] x
  | .last _, x => verd [0, 1] x
  | .later _ _, x => verd [2, 0, 1] x
  | .before _ _, x => verd [2, 2, 1, 0] x
  | .next _ _, x => verd [2, 0, 1, 0] x
  | .apart _ _, x => verd [1, 1, 1, 0] x
  | .between _ _, x => verd [2, 2, 2, 1, 1, 0] x
/-- the states there are -/
def ptop : Rule → Nat
  | .least _ _ => 4
  | .most _ _ => 4
  | .first _ => 2
  | .last _ => 1
  | .later _ _ => 2
  | .before _ _ => 3
  | .next _ _ => 3
  | .apart _ _ => 3
  | .between _ _ => 5
/-- the specification's state of the program's -/
def hom : Rule → Nat → Nat
  | .least _ n, x => if n ≤ x then n else x
  | .most _ n, x => if x ≤ n then x else 9
  | .first _, x => verd [0, 1, 9] x
  | .last _, x => x
  | .later _ _, x => verd [0, 1, 0] x
  | .before _ _, x => verd [0, 1, 1, 9] x
  | .next _ _, x => verd [0, 1, 0, 9] x
  | .apart _ _, x => verd [0, 1, 2, 9] x
  | .between _ _, x => verd [0, 1, 0, 1, 0, 9] x
theorem le1 {x : Nat} (h : x ≤ 1) : x = 0 ∨ x = 1 := by omega
theorem le2 {x : Nat} (h : x ≤ 2) : x = 0 ∨ x = 1 ∨ x = 2 := by omega
theorem le3 {x : Nat} (h : x ≤ 3) : x = 0 ∨ x = 1 ∨ x = 2 ∨ x = 3 := by omega
theorem le5 {x : Nat} (h : x ≤ 5) : x = 0 ∨ x = 1 ∨ x = 2 ∨ x = 3 ∨ x = 4 ∨ x = 5 := by omega

theorem pread_top (r : Rule) {x : Nat} (h : x ≤ ptop r) (c : Nat) : pread r x c ≤ ptop r := by
  cases r with
  | apart a b =>
    simp only [ptop] at h
    simp only [pread, ptop]
    rcases le3 h with rfl | rfl | rfl | rfl <;> (repeat' split) <;> decide
  | between a b =>
    simp only [ptop] at h
    simp only [pread, ptop]
    rcases le5 h with rfl | rfl | rfl | rfl | rfl | rfl <;> (repeat' split) <;> omega
  | _ =>
    simp only [ptop] at h
    simp only [pread, ptop]
    (repeat' split) <;> omega

theorem hom_read {r : Rule} (v : Valid r) {x : Nat} (h : x ≤ ptop r) (c : Nat) : hom r (pread r x c) = r.read (hom r x) c := by
  cases r with
  | least a n =>
    simp only [ptop, Valid] at h v
    simp only [pread, hom, Rule.read]
    (repeat' split) <;> omega
  | most a n =>
    simp only [ptop, Valid] at h v
    simp only [pread, hom, Rule.read]
    (repeat' split) <;> omega
  | first a =>
    simp only [ptop] at h
    rcases le2 h with rfl | rfl | rfl <;> by_cases h1 : c = a <;> simp [pread, hom, verd, Rule.read, h1]
  | last a =>
    simp only [ptop] at h
    rcases le1 h with rfl | rfl <;> by_cases h1 : c = a <;> simp [pread, hom, Rule.read, h1]
  | later a b =>
    simp only [ptop, Valid] at h v
    have ne := v.2.2
    have ne' : ¬ b = a := fun e => ne e.symm
    rcases le2 h with rfl | rfl | rfl <;> by_cases h1 : c = a <;> by_cases h2 : c = b <;> first | (exfalso; omega) | simp_all [pread, hom, verd, Rule.read]
  | before a b =>
    simp only [ptop, Valid] at h v
    have ne := v.2.2
    have ne' : ¬ b = a := fun e => ne e.symm
    rcases le3 h with rfl | rfl | rfl | rfl <;> by_cases h1 : c = a <;> by_cases h2 : c = b <;> first | (exfalso; omega) | simp_all [pread, hom, verd, Rule.read]
  | next a b =>
    simp only [ptop, Valid] at h v
    have ne := v.2.2
    have ne' : ¬ b = a := fun e => ne e.symm
    rcases le3 h with rfl | rfl | rfl | rfl <;> by_cases h1 : c = a <;> by_cases h2 : c = b <;> first | (exfalso; omega) | simp_all [pread, hom, verd, Rule.read]
  | apart a b =>
    simp only [ptop, Valid] at h v
    have ne := v.2.2
    have ne' : ¬ b = a := fun e => ne e.symm
    rcases le3 h with rfl | rfl | rfl | rfl <;> by_cases h1 : c = a <;> by_cases h2 : c = b <;> first | (exfalso; omega) | simp_all [pread, hom, verd, Rule.read]
  | between a b =>
    simp only [ptop, Valid] at h v
    have ne := v.2.2
    have ne' : ¬ b = a := fun e => ne e.symm
    rcases le5 h with rfl | rfl | rfl | rfl | rfl | rfl <;> by_cases h1 : c = a <;> by_cases h2 : c = b <;> first | (exfalso; omega) | simp_all [pread, hom, verd, Rule.read]

theorem hom_kept {r : Rule} (v : Valid r) {x : Nat} (h : x ≤ ptop r) : r.kept (hom r x) = (pverd r x != 0) := by
  cases r with
  | least a n =>
    simp only [ptop, Valid] at h v
    simp only [pverd, hom, Rule.kept]
    by_cases e : n ≤ x <;> simp [e]; omega
  | most a n =>
    simp only [ptop, Valid] at h v
    simp only [pverd, hom, Rule.kept]
    by_cases e : x ≤ n <;> simp [e]; omega
  | first a => rcases le2 h with rfl | rfl | rfl <;> rfl
  | last a => rcases le1 h with rfl | rfl <;> rfl
  | later a b => rcases le2 h with rfl | rfl | rfl <;> rfl
  | before a b => rcases le3 h with rfl | rfl | rfl | rfl <;> rfl
  | next a b => rcases le3 h with rfl | rfl | rfl | rfl <;> rfl
  | apart a b => rcases le3 h with rfl | rfl | rfl | rfl <;> rfl
  | between a b => rcases le5 h with rfl | rfl | rfl | rfl | rfl | rfl <;> rfl

def prun (r : Rule) (x : Nat) (w : List Nat) : Nat := w.foldl (pread r) x
theorem prun_snoc (r : Rule) (x : Nat) (w : List Nat) (c : Nat) : prun r x (w ++ [c]) = pread r (prun r x w) c := by
  unfold prun; rw [List.foldl_append]; rfl
theorem prun_top (r : Rule) : ∀ (w : List Nat) {x : Nat}, x ≤ ptop r → prun r x w ≤ ptop r
  | [], _, h => h
  | c :: w, _, h => prun_top r w (pread_top r h c)
theorem prun_hom {r : Rule} (v : Valid r) : ∀ (w : List Nat) {x : Nat}, x ≤ ptop r → hom r (prun r x w) = run1 r (hom r x) w
  | [], _, _ => rfl
  | c :: w, x, h => by
    show hom r (prun r (pread r x c) w) = run1 r (r.read (hom r x) c) w
    rw [prun_hom v w (pread_top r h c), hom_read v h]
theorem hom_zero {r : Rule} : hom r 0 = 0 := by
  cases r <;> simp [hom, verd]

theorem pverd_holds {r : Rule} (v : Valid r) (w : List Nat) : (pverd r (prun r 0 w) != 0) = r.holds w := by
  rw [← hom_kept v (prun_top r w (Nat.zero_le _)), prun_hom v w (Nat.zero_le _), hom_zero, kept_holds v]

/-! ### idle -/
theorem contains_snoc (w : List Nat) (c a : Nat) : (w ++ [c]).contains a = (w.contains a || decide (c = a)) := by
  by_cases h : c = a
  · subst h; simp
  · have : ¬ a = c := fun e => h e.symm
    simp [h, this]
theorem times_snoc (a c : Nat) (w : List Nat) : times a (w ++ [c]) = times a w + if c = a then 1 else 0 := by
  unfold times
  rw [List.filter_append, List.length_append]
  by_cases h : c = a <;> simp [h]

theorem snoc_ind {P : List Nat → Prop} (h0 : P []) (h1 : ∀ w c, P w → P (w ++ [c])) (w : List Nat) : P w := by
  have : ∀ n (w : List Nat), w.length = n → P w := by
    intro n
    induction n with
    | zero => intro w h; rw [List.length_eq_zero_iff.1 h]; exact h0
    | succ n ih =>
      intro w h
      have ne : w ≠ [] := by intro e; rw [e] at h; cases h
      rw [← List.dropLast_concat_getLast ne]
      exact h1 _ _ (ih _ (by rw [List.length_dropLast]; omega))
  exact this _ w rfl

/-- what of the state says whether it came -/
def lazy : Rule → Nat → Bool
  | .later _ _, x => x == 0
  | .before _ _, x => x == 0 || x == 1
  | .next _ _, x => x == 0
  | _, _ => false
theorem lazy_idle {r : Rule} (v : Valid r) (hb : ∀ a b, r ≠ .between a b) (w : List Nat) : prun r 0 w ≤ ptop r ∧ (r.holds w = true → lazy r (prun r 0 w) = r.idle w) := by
  refine ⟨prun_top r w (Nat.zero_le _), ?_⟩
  cases r with
  | later a b =>
    intro _
    have ne := v.2.2
    have : (prun (.later a b) 0 w == 0) = !w.contains a := by
      refine snoc_ind (P := fun w => (prun (.later a b) 0 w == 0) = !w.contains a) rfl ?_ w
      intro w c ih
      rw [prun_snoc, contains_snoc, Bool.not_or, ← ih]
      generalize prun (.later a b) 0 w = x
      by_cases h1 : c = a
      · simp [pread, h1]
      · by_cases h2 : c = b ∧ x = 1
        · have ne' : ¬ b = a := fun e => ne e.symm
          simp [pread, h2, ne']
        · simp [pread, h1, h2]
    exact this
  | next a b =>
    intro _
    have ne := v.2.2
    have : (prun (.next a b) 0 w == 0) = !w.contains a := by
      refine snoc_ind (P := fun w => (prun (.next a b) 0 w == 0) = !w.contains a) rfl ?_ w
      intro w c ih
      rw [prun_snoc, contains_snoc, Bool.not_or, ← ih]
      generalize prun (.next a b) 0 w = x
      by_cases h1 : x = 1
      · by_cases h2 : c = b <;> simp [pread, h1, h2]
      · by_cases h2 : c = a
        · by_cases h3 : x = 3 <;> simp [pread, h1, h2, h3]
        · simp [pread, h1, h2]
    exact this
  | before a b =>
    intro _
    have ne := v.2.2
    have : (prun (.before a b) 0 w == 0 || prun (.before a b) 0 w == 1) = !w.contains b := by
      refine snoc_ind (P := fun w => (prun (.before a b) 0 w == 0 || prun (.before a b) 0 w == 1) = !w.contains b) rfl ?_ w
      intro w c ih
      rw [prun_snoc, contains_snoc, Bool.not_or, ← ih]
      have ne' : ¬ b = a := fun e => ne e.symm
      generalize prun (.before a b) 0 w = x
      by_cases h0 : x = 0
      · by_cases h1 : c = a
        · simp [pread, h0, h1, ne]
        · by_cases h2 : c = b <;> simp [pread, h0, h1, h2, ne']
      · by_cases h3 : x = 1
        · by_cases h2 : c = b <;> simp [pread, h3, h2]
        · by_cases h2 : c = b <;> simp [pread, h3, h2, h0]
    exact this
  | between a b => exact (hb a b rfl).elim
  | _ => intro _; rfl

theorem between_times (a b : Nat) (ne : a ≠ b) (w : List Nat) : (prun (.between a b) 0 w = 0 ↔ times a w = 0) ∧ ((prun (.between a b) 0 w = 1 ∨ prun (.between a b) 0 w = 2) ↔ times a w = 1) := by
  refine snoc_ind (P := fun w => (prun (.between a b) 0 w = 0 ↔ times a w = 0) ∧ ((prun (.between a b) 0 w = 1 ∨ prun (.between a b) 0 w = 2) ↔ times a w = 1)) ⟨⟨fun _ => rfl, fun _ => rfl⟩, ⟨fun h => ?_, fun h => ?_⟩⟩ ?_ w
  · exfalso; revert h; simp [prun]
  · exfalso; revert h; simp [times]
  · intro w c ih
    rw [prun_snoc, times_snoc]
    have top := prun_top (.between a b) w (x := 0) (Nat.zero_le _)
    simp only [ptop] at top
    generalize prun (.between a b) 0 w = x at ih top
    generalize times a w = n at ih
    have ne' : ¬ b = a := fun e => ne e.symm
    by_cases h1 : c = a
    · have h2 : ¬ c = b := by omega
      rcases le5 top with rfl | rfl | rfl | rfl | rfl | rfl <;> simp [pread, h1, ne] at ih ⊢ <;> omega
    · by_cases h2 : c = b
      · rcases le5 top with rfl | rfl | rfl | rfl | rfl | rfl <;> simp [pread, h2, ne'] at ih ⊢ <;> omega
      · simp [pread, h1, h2]; exact ih

/-- **What a rule says of a row, by the program's states.** -/
theorem pverd_is {r : Rule} (v : Valid r) (w : List Nat) : pverd r (prun r 0 w) = if r.holds w = false then 0 else if r.idle w = true then 2 else 1 := by
  have h := pverd_holds v w
  cases r with
  | between a b =>
    have top := prun_top (.between a b) w (x := 0) (Nat.zero_le _)
    have bt := between_times a b v.2.2 w
    simp only [ptop] at top
    have id : (Rule.between a b).idle w = decide (times a w ≤ 1) := rfl
    rw [id]
    generalize prun (.between a b) 0 w = x at h top bt
    rw [← h]
    rcases le5 top with rfl | rfl | rfl | rfl | rfl | rfl
    · have : times a w ≤ 1 := by have := bt.1.1 rfl; omega
      simp [pverd, verd, this]
    · have : times a w ≤ 1 := by have := bt.2.1 (.inl rfl); omega
      simp [pverd, verd, this]
    · have : times a w ≤ 1 := by have := bt.2.1 (.inr rfl); omega
      simp [pverd, verd, this]
    · have : ¬ times a w ≤ 1 := by
        intro e
        have h0 : times a w ≠ 0 := fun e => by have := bt.1.2 e; omega
        have h1 : times a w ≠ 1 := fun e => by have := bt.2.2 e; omega
        omega
      simp [pverd, verd, this]
    · have : ¬ times a w ≤ 1 := by
        intro e
        have h0 : times a w ≠ 0 := fun e => by have := bt.1.2 e; omega
        have h1 : times a w ≠ 1 := fun e => by have := bt.2.2 e; omega
        omega
      simp [pverd, verd, this]
    · simp [pverd, verd]
  | least a n =>
    rw [← h]; simp only [pverd, Rule.idle]; split <;> simp
  | most a n =>
    rw [← h]; simp only [pverd, Rule.idle]; split <;> simp
  | first a =>
    have top := prun_top (.first a) w (x := 0) (Nat.zero_le _)
    rw [← h]; generalize prun (.first a) 0 w = x at top; rcases le2 top with rfl | rfl | rfl <;> rfl
  | last a =>
    have top := prun_top (.last a) w (x := 0) (Nat.zero_le _)
    rw [← h]; generalize prun (.last a) 0 w = x at top; rcases le1 top with rfl | rfl <;> rfl
  | apart a b =>
    have top := prun_top (.apart a b) w (x := 0) (Nat.zero_le _)
    rw [← h]; generalize prun (.apart a b) 0 w = x at top; rcases le3 top with rfl | rfl | rfl | rfl <;> rfl
  | later a b =>
    have L := lazy_idle v (by intro _ _ e; cases e) w
    by_cases e : (Rule.later a b).holds w = true
    · have i := L.2 e
      rw [e] at h ⊢
      rw [← i]
      have top := L.1
      generalize prun (.later a b) 0 w = x at h top
      rcases le2 top with rfl | rfl | rfl
      · rfl
      · cases h
      · rfl
    · have e' : (Rule.later a b).holds w = false := by simpa using e
      rw [e'] at h ⊢
      simpa using h
  | before a b =>
    have L := lazy_idle v (by intro _ _ e; cases e) w
    by_cases e : (Rule.before a b).holds w = true
    · have i := L.2 e
      rw [e] at h ⊢
      rw [← i]
      have top := L.1
      generalize prun (.before a b) 0 w = x at h top
      rcases le3 top with rfl | rfl | rfl | rfl
      · rfl
      · rfl
      · rfl
      · cases h
    · have e' : (Rule.before a b).holds w = false := by simpa using e
      rw [e'] at h ⊢
      simpa using h
  | next a b =>
    have L := lazy_idle v (by intro _ _ e; cases e) w
    by_cases e : (Rule.next a b).holds w = true
    · have i := L.2 e
      rw [e] at h ⊢
      rw [← i]
      have top := L.1
      generalize prun (.next a b) 0 w = x at h top
      rcases le3 top with rfl | rfl | rfl | rfl
      · rfl
      · cases h
      · rfl
      · cases h
    · have e' : (Rule.next a b).holds w = false := by simpa using e
      rw [e'] at h ⊢
      simpa using h
end Cr
end
section
namespace Cr
open Wf04
set_option linter.unusedSectionVars false

/-- a row read from s on -/
def reads {S : Type} (rd : S → Nat → S) (s : S) (w : List Nat) : S := w.foldl rd s
theorem reads_snoc {S : Type} (rd : S → Nat → S) (s : S) (w : List Nat) (c : Nat) : reads rd s (w ++ [c]) = rd (reads rd s w) c := by
  unfold reads; rw [List.foldl_append]; rfl

abbrev Rows (S : Type) := List (S × List Nat)
variable {S : Type} [DecidableEq S]
/-- put in what is new -/
def add (a : List S × Rows S) (z : S × List Nat) : List S × Rows S :=
  if z.1 ∈ a.2.map (fun x => x.1) then a else (a.1 ++ [z.1], a.2 ++ [z])

structure LInv (rd : S → Nat → S) (s0 : S) (k : Nat) (front : List S) (rows : Rows S) : Prop where
  nodup : (rows.map fun x => x.1).Nodup
  at_ : ∀ x ∈ rows, Row x.2 ∧ x.1 = reads rd s0 x.2 ∧ x.2.length ≤ k
  all : ∀ v, Row v → v.length ≤ k → ∃ p, (reads rd s0 v, p) ∈ rows ∧ El p v
  front_ : ∀ s, s ∈ front ↔ ∃ p, (s, p) ∈ rows ∧ p.length = k
  sorted : front.Pairwise fun s t => ∀ p q, (s, p) ∈ rows → (t, q) ∈ rows → Er p q

omit [DecidableEq S] in
theorem rows_uniq {rows : Rows S} (nd : (rows.map fun x => x.1).Nodup) {s : S} {p q : List Nat} (hp : (s, p) ∈ rows) (hq : (s, q) ∈ rows) : p = q := by
  induction rows with
  | nil => cases hp
  | cons y rows ih =>
    have nd' := List.nodup_cons.1 nd
    rcases List.mem_cons.1 hp with e | e <;> rcases List.mem_cons.1 hq with e' | e'
    · rw [← e] at e'; cases e'; rfl
    · exfalso; apply nd'.1; rw [← e]; exact List.mem_map.2 ⟨_, e', rfl⟩
    · exfalso; apply nd'.1; rw [← e']; exact List.mem_map.2 ⟨_, e, rfl⟩
    · exact ih nd'.2 e e'

theorem LInv.start (rd : S → Nat → S) (s0 : S) : LInv rd s0 0 [s0] [(s0, [])] := by
  refine ⟨by simp, ?_, ?_, ?_, by simp⟩
  · intro x hx; rw [List.mem_singleton.1 hx]; exact ⟨Row.nil, rfl, Nat.le_refl _⟩
  · intro v _ hv
    have : v = [] := List.length_eq_zero_iff.1 (by omega)
    subst this
    exact ⟨[], List.mem_singleton.2 rfl, .rfl⟩
  · intro s
    constructor
    · intro h; rw [List.mem_singleton.1 h]; exact ⟨[], List.mem_singleton.2 rfl, rfl⟩
    · rintro ⟨p, h, _⟩
      cases List.mem_singleton.1 h
      exact List.mem_singleton.2 rfl

variable {rd : S → Nat → S} {s0 : S} {k : Nat} {front : List S} {rows : Rows S}

theorem LInv.target (I : LInv rd s0 k front rows) {f : S → Bool} (hn : ∀ v, Row v → v.length < k → f (reads rd s0 v) = false) {v : List Nat} (rv : Row v) (hv : v.length ≤ k) (hf : f (reads rd s0 v) = true) :
    ∃ q, (reads rd s0 v, q) ∈ rows ∧ q.length = k ∧ El q v ∧ reads rd s0 v ∈ front := by
  obtain ⟨q, hq, le⟩ := I.all v rv hv
  obtain ⟨rq, eq, lq⟩ := I.at_ _ hq
  have : q.length = k := by
    rcases Nat.lt_or_ge q.length k with h | h
    · have := hn q rq h
      rw [← eq, hf] at this; cases this
    · exact Nat.le_antisymm lq h
  exact ⟨q, hq, this, le, (I.front_ _).2 ⟨q, hq, this⟩⟩

/-- found in the front -/
theorem LInv.found (I : LInv rd s0 k front rows) {f : S → Bool} (hn : ∀ v, Row v → v.length < k → f (reads rd s0 v) = false) {pre post : List S} {s : S} {p : List Nat}
    (e : front = pre ++ s :: post) (hp : ∀ t ∈ pre, f t = false) (hs : f s = true) (hr : (s, p) ∈ rows) : Earliest (fun w => f (reads rd s0 w) = true) (some p) := by
  obtain ⟨rp, ep, lp⟩ := I.at_ _ hr
  have lk : p.length = k := by
    have : s ∈ front := by rw [e]; simp
    obtain ⟨q, hq, lq⟩ := (I.front_ s).1 this
    rw [rows_uniq I.nodup hr hq]; exact lq
  refine ⟨rp, by show f (reads rd s0 p) = true; rw [← ep]; exact hs, ?_⟩
  intro v rv hv
  rcases Nat.lt_or_ge k v.length with h | h
  · exact .inr (.inl (by omega))
  · obtain ⟨q, hq, _, le, hm⟩ := I.target hn rv h hv
    rw [e] at hm
    rcases List.mem_append.1 hm with m | m
    · rw [hp _ m] at hv; cases hv
    · rcases List.mem_cons.1 m with m | m
      · rw [m] at hq
        rw [rows_uniq I.nodup hr hq]; exact le
      · have st := I.sorted
        rw [e] at st
        have := (List.pairwise_cons.1 (List.pairwise_append.1 st).2.1).1 _ m p q hr hq
        exact this.el.trans le
/-- not found in the front -/
theorem LInv.not_found (I : LInv rd s0 k front rows) {f : S → Bool} (hn : ∀ v, Row v → v.length < k → f (reads rd s0 v) = false) (hp : ∀ t ∈ front, f t = false) :
    ∀ v, Row v → v.length < k + 1 → f (reads rd s0 v) = false := by
  intro v rv hv
  cases e : f (reads rd s0 v) with
  | false => rfl
  | true =>
    obtain ⟨q, _, _, _, hm⟩ := I.target hn rv (by omega) e
    rw [hp _ hm] at e; cases e
/-- nothing is left -/
theorem LInv.empty (I : LInv rd s0 k [] rows) {f : S → Bool} (hn : ∀ v, Row v → v.length < k → f (reads rd s0 v) = false) : Earliest (fun w => f (reads rd s0 w) = true) none := by
  have key : ∀ v, Row v → ∃ p, (reads rd s0 v, p) ∈ rows ∧ p.length < k := by
    intro v
    refine snoc_ind (P := fun v => Row v → ∃ p, (reads rd s0 v, p) ∈ rows ∧ p.length < k) ?_ ?_ v
    · intro _
      obtain ⟨p, hp, _⟩ := I.all [] Row.nil (Nat.zero_le _)
      refine ⟨p, hp, ?_⟩
      rcases Nat.lt_or_ge p.length k with h | h
      · exact h
      · have := (I.front_ _).2 ⟨p, hp, Nat.le_antisymm (I.at_ _ hp).2.2 h⟩
        cases this
    · intro w c ih rw_
      obtain ⟨p, hp, lp⟩ := ih (fun d hd => rw_ d (List.mem_append.2 (.inl hd)))
      obtain ⟨rp, ep, _⟩ := I.at_ _ hp
      have hc : c < 5 := rw_ c (by simp)
      obtain ⟨q, hq, _⟩ := I.all (p ++ [c]) (rp.app (Row.one hc)) (by simp only [List.length_append, List.length_singleton]; omega)
      rw [reads_snoc, ← ep, ← reads_snoc rd] at hq
      refine ⟨q, hq, ?_⟩
      rcases Nat.lt_or_ge q.length k with h | h
      · exact h
      · have := (I.front_ _).2 ⟨q, hq, Nat.le_antisymm (I.at_ _ hq).2.2 h⟩
        cases this
  intro v rv hv
  obtain ⟨p, hp, lp⟩ := key v rv
  obtain ⟨rp, ep, _⟩ := I.at_ _ hp
  have := hn p rp lp
  rw [← ep] at this
  have hv' : f (reads rd s0 v) = true := hv
  dsimp only at this
  rw [hv'] at this; cases this

/-! ### one layer more -/
theorem add_old (a : List S × Rows S) (z : S × List Nat) : ∃ m, (add a z).2 = a.2 ++ m := by
  unfold add; split
  · exact ⟨[], by simp⟩
  · exact ⟨[z], rfl⟩
theorem adds_old : ∀ (zs : Rows S) (a : List S × Rows S), ∃ m, (zs.foldl add a).2 = a.2 ++ m
  | [], a => ⟨[], by simp⟩
  | z :: zs, a => by
    obtain ⟨m, e⟩ := add_old a z
    obtain ⟨m', e'⟩ := adds_old zs (add a z)
    exact ⟨m ++ m', by rw [List.foldl_cons, e', e, List.append_assoc]⟩

/-- what is put in: old ones stay; the new ones are among those handed in, in their order, each state's first -/
structure AInv (rows : Rows S) (zs : Rows S) (a : List S × Rows S) : Prop where
  nodup : (a.2.map fun x => x.1).Nodup
  new : ∃ m, a.2 = rows ++ m ∧ a.1 = m.map (fun x => x.1) ∧ (∀ x ∈ m, x ∈ zs) ∧ m.Pairwise fun x y => Er x.2 y.2
  all : ∀ z ∈ zs, ∃ p, (z.1, p) ∈ a.2 ∧ ((z.1, p) ∈ rows ∨ El p z.2)

theorem AInv.start (nd : (rows.map fun x => x.1).Nodup) : AInv rows [] ([], rows) :=
  ⟨nd, ⟨[], by simp, rfl, (by intro x h; cases h), by simp⟩, by intro z h; cases h⟩
theorem AInv.step {zs : Rows S} {a : List S × Rows S} (A : AInv rows zs a) (z : S × List Nat) (hz : ∀ y ∈ zs, Er y.2 z.2) : AInv rows (zs ++ [z]) (add a z) := by
  obtain ⟨m, e1, e2, hm, sm⟩ := A.new
  unfold add
  by_cases h : z.1 ∈ a.2.map fun x => x.1
  · rw [if_pos h]
    refine ⟨A.nodup, ⟨m, e1, e2, fun x hx => List.mem_append.2 (.inl (hm x hx)), sm⟩, ?_⟩
    intro y hy
    rcases List.mem_append.1 hy with hy | hy
    · exact A.all y hy
    · rw [List.mem_singleton.1 hy]
      obtain ⟨x, hx, ex⟩ := List.mem_map.1 h
      obtain ⟨s, p⟩ := x
      dsimp only at ex
      subst ex
      refine ⟨p, hx, ?_⟩
      rw [e1] at hx
      rcases List.mem_append.1 hx with h | h
      · exact .inl h
      · exact .inr (hz _ (hm _ h)).el
  · rw [if_neg h]
    refine ⟨?_, ⟨m ++ [z], by rw [e1, List.append_assoc], by rw [e2]; simp, ?_, ?_⟩, ?_⟩
    · rw [List.map_append, List.nodup_append]
      refine ⟨A.nodup, by simp, ?_⟩
      intro a ha b hb e
      simp only [List.map_cons, List.map_nil, List.mem_singleton] at hb
      rw [hb] at e
      exact h (e ▸ ha)
    · intro x hx
      rcases List.mem_append.1 hx with hx | hx
      · exact List.mem_append.2 (.inl (hm x hx))
      · exact List.mem_append.2 (.inr hx)
    · rw [List.pairwise_append]
      refine ⟨sm, by simp, ?_⟩
      intro x hx y hy
      rw [List.mem_singleton.1 hy]
      exact hz x (hm x hx)
    · intro y hy
      rcases List.mem_append.1 hy with hy | hy
      · obtain ⟨p, hp, h⟩ := A.all y hy
        exact ⟨p, List.mem_append.2 (.inl hp), h⟩
      · rw [List.mem_singleton.1 hy]
        exact ⟨z.2, List.mem_append.2 (.inr List.mem_cons_self), .inr .rfl⟩
theorem AInv.fold : ∀ (zs ys : Rows S) (a : List S × Rows S), AInv rows ys a → (ys ++ zs).Pairwise (fun x y => Er x.2 y.2) → AInv rows (ys ++ zs) (zs.foldl add a)
  | [], ys, a, A, _ => by rw [List.append_nil]; exact A
  | z :: zs, ys, a, A, h => by
    rw [List.foldl_cons]
    have e : ys ++ z :: zs = (ys ++ [z]) ++ zs := by simp
    rw [e] at h ⊢
    refine AInv.fold zs (ys ++ [z]) _ (A.step z ?_) h
    intro y hy
    exact (List.pairwise_append.1 (List.pairwise_append.1 h).1).2.2 y hy z List.mem_cons_self

def rowOf (rows : Rows S) (s : S) : List Nat := ((rows.find? fun x => decide (x.1 = s)).map fun x => x.2).getD []
theorem rowOf_mem (nd : (rows.map fun x => x.1).Nodup) {s : S} {p : List Nat} (h : (s, p) ∈ rows) : rowOf rows s = p := by
  unfold rowOf
  cases e : rows.find? fun x => decide (x.1 = s) with
  | none =>
    have := List.find?_eq_none.1 e (s, p) h
    simp at this
  | some x =>
    have h1 := List.find?_some e
    have h2 := List.mem_of_find?_eq_some e
    have : x.1 = s := by simpa using h1
    obtain ⟨t, q⟩ := x
    dsimp only at this
    subst this
    exact (rows_uniq nd h2 h)
/-- all that is one step behind the front, in order -/
def cands (rd : S → Nat → S) (front : List S) (rows : Rows S) : Rows S := front.flatMap fun s => (List.range 5).map fun c => (rd s c, rowOf rows s ++ [c])

theorem cands_sorted (I : LInv rd s0 k front rows) : (cands rd front rows).Pairwise fun x y => Er x.2 y.2 := by
  have key : ∀ fr : List S, (∀ s ∈ fr, s ∈ front) → fr.Pairwise (fun s t => ∀ p q, (s, p) ∈ rows → (t, q) ∈ rows → Er p q) → (cands rd fr rows).Pairwise fun x y => Er x.2 y.2 := by
    intro fr
    induction fr with
    | nil => intro _ _; exact List.Pairwise.nil
    | cons s fr ih =>
      intro h st
      have st' := List.pairwise_cons.1 st
      show (((List.range 5).map fun c => (rd s c, rowOf rows s ++ [c])) ++ cands rd fr rows).Pairwise _
      rw [List.pairwise_append]
      refine ⟨?_, ih (fun t ht => h t (List.mem_cons_of_mem _ ht)) st'.2, ?_⟩
      · refine List.pairwise_map.2 ?_
        exact List.pairwise_lt_range.imp fun h => Er.last _ h
      · intro x hx y hy
        obtain ⟨c, _, rfl⟩ := List.mem_map.1 hx
        obtain ⟨t, ht, hy⟩ := List.mem_flatMap.1 hy
        obtain ⟨d, _, rfl⟩ := List.mem_map.1 hy
        obtain ⟨p, hp, _⟩ := (I.front_ s).1 (h s List.mem_cons_self)
        obtain ⟨q, hq, _⟩ := (I.front_ t).1 (h t (List.mem_cons_of_mem _ ht))
        show Er (rowOf rows s ++ [c]) (rowOf rows t ++ [d])
        rw [rowOf_mem I.nodup hp, rowOf_mem I.nodup hq]
        exact (st'.1 t ht p q hp hq).app [c] [d] rfl
  exact key front (fun _ h => h) I.sorted

theorem LInv.next (I : LInv rd s0 k front rows) : LInv rd s0 (k + 1) ((cands rd front rows).foldl add ([], rows)).1 ((cands rd front rows).foldl add ([], rows)).2 := by
  have A := AInv.fold (rows := rows) (cands rd front rows) [] ([], rows) (AInv.start I.nodup) (by rw [List.nil_append]; exact cands_sorted I)
  rw [List.nil_append] at A
  generalize (cands rd front rows).foldl add ([], rows) = a at A ⊢
  obtain ⟨m, e1, e2, hm, sm⟩ := A.new
  have hcand : ∀ z ∈ cands rd front rows, ∃ s p c, c < 5 ∧ (s, p) ∈ rows ∧ p.length = k ∧ z = (rd s c, p ++ [c]) := by
    intro z hz
    obtain ⟨s, hs, hz⟩ := List.mem_flatMap.1 hz
    obtain ⟨c, hc, rfl⟩ := List.mem_map.1 hz
    obtain ⟨p, hp, lp⟩ := (I.front_ s).1 hs
    exact ⟨s, p, c, List.mem_range.1 hc, hp, lp, by rw [rowOf_mem I.nodup hp]⟩
  have hnew : ∀ x ∈ m, Row x.2 ∧ x.1 = reads rd s0 x.2 ∧ x.2.length = k + 1 := by
    intro x hx
    obtain ⟨s, p, c, hc, hp, lp, rfl⟩ := hcand x (hm x hx)
    obtain ⟨rp, ep, _⟩ := I.at_ _ hp
    exact ⟨rp.app (Row.one hc), by show rd s c = _; rw [reads_snoc]; dsimp only at ep; rw [← ep], by simp [lp]⟩
  have split : ∀ x, x ∈ a.2 ↔ x ∈ rows ∨ x ∈ m := by intro x; rw [e1, List.mem_append]
  refine ⟨A.nodup, ?_, ?_, ?_, ?_⟩
  · intro x hx
    rcases (split x).1 hx with h | h
    · obtain ⟨h1, h2, h3⟩ := I.at_ x h
      exact ⟨h1, h2, by omega⟩
    · obtain ⟨h1, h2, h3⟩ := hnew x h
      exact ⟨h1, h2, by omega⟩
  · intro v rv hv
    rcases Nat.lt_or_ge k v.length with h | h
    · have ne : v ≠ [] := by intro e; rw [e] at h; simp at h
      have ev := List.dropLast_concat_getLast ne
      have lu : v.dropLast.length = k := by rw [List.length_dropLast]; omega
      generalize v.dropLast = u at ev lu
      generalize v.getLast ne = c at ev
      subst ev
      have hc : c < 5 := rv c (by simp)
      obtain ⟨p, hp, le⟩ := I.all u (fun d hd => rv d (List.mem_append.2 (.inl hd))) (by omega)
      obtain ⟨rp, ep, lp⟩ := I.at_ _ hp
      dsimp only at ep lp
      rcases Nat.lt_or_ge p.length k with h' | h'
      · obtain ⟨q, hq, lq⟩ := I.all (p ++ [c]) (rp.app (Row.one hc)) (by simp only [List.length_append, List.length_singleton]; omega)
        rw [reads_snoc, ← ep, ← reads_snoc rd] at hq
        exact ⟨q, (split _).2 (.inl hq), lq.trans (le.app [c])⟩
      · have lk : p.length = k := Nat.le_antisymm lp h'
        have hf : reads rd s0 u ∈ front := (I.front_ _).2 ⟨p, hp, lk⟩
        have hz : (rd (reads rd s0 u) c, p ++ [c]) ∈ cands rd front rows := by
          refine List.mem_flatMap.2 ⟨_, hf, List.mem_map.2 ⟨c, List.mem_range.2 hc, ?_⟩⟩
          rw [rowOf_mem I.nodup hp]
        obtain ⟨q, hq, h⟩ := A.all _ hz
        dsimp only at hq h
        rw [reads_snoc]
        refine ⟨q, hq, ?_⟩
        rcases h with h | h
        · have := (I.at_ _ h).2.2
          dsimp only at this
          exact .inr (.inl (by simp only [List.length_append, List.length_singleton]; omega))
        · exact h.trans (le.app [c])
    · obtain ⟨p, hp, le⟩ := I.all v rv h
      exact ⟨p, (split _).2 (.inl hp), le⟩
  · intro s
    rw [e2]
    constructor
    · intro h
      obtain ⟨x, hx, rfl⟩ := List.mem_map.1 h
      exact ⟨x.2, (split _).2 (.inr hx), (hnew x hx).2.2⟩
    · rintro ⟨p, hp, lp⟩
      rcases (split _).1 hp with h | h
      · have := (I.at_ _ h).2.2
        dsimp only at this
        omega
      · exact List.mem_map.2 ⟨_, h, rfl⟩
  · rw [e2]
    refine List.pairwise_map.2 (sm.imp_of_mem ?_)
    intro x y hx hy er p q hp hq
    have ex : p = x.2 := rows_uniq A.nodup hp ((split _).2 (.inr hx))
    have ey : q = y.2 := rows_uniq A.nodup hq ((split _).2 (.inr hy))
    rw [ex, ey]; exact er
/-- how many rows: the front's states are new ones -/
theorem add_len (a : List S × Rows S) (z : S × List Nat) : (add a z).2.length + a.1.length = a.2.length + (add a z).1.length := by
  unfold add; split
  · omega
  · simp only [List.length_append, List.length_singleton]; omega
theorem adds_len : ∀ (zs : Rows S) (a : List S × Rows S), (zs.foldl add a).2.length + a.1.length = a.2.length + (zs.foldl add a).1.length
  | [], a => rfl
  | z :: zs, a => by
    rw [List.foldl_cons]
    have := adds_len zs (add a z)
    have := add_len a z
    omega
end Cr
end
section
namespace Cr
open Wf04

def unsat (rs : List Rule) (s : List Nat) : Bool := (shortest (some_ rs s)).isNone
/-- one left out -/
def del (s : List Nat) (i : Nat) : List Nat := s.filter fun j => j != i
/-- no row keeps all of them; one left out, some row does -/
def clash (rs : List Rule) (s : List Nat) : Bool := unsat rs s && s.all fun i => !unsat rs (del s i)

theorem some_valid {rs : List Rule} (v : ∀ r ∈ rs, Valid r) (s : List Nat) : ∀ r ∈ some_ rs s, Valid r := by
  intro r hr
  obtain ⟨i, _, e⟩ := List.mem_filterMap.1 hr
  exact v r (List.mem_of_getElem? e)
theorem some_len {rs : List Rule} (s : List Nat) : (some_ rs s).length ≤ s.length := List.length_filterMap_le ..
theorem keeps_mem {rs : List Rule} {w : List Nat} : Keeps rs w ↔ ∀ r ∈ rs, r.holds w = true := by
  unfold Keeps; rw [List.all_eq_true]
theorem keeps_some {rs : List Rule} {s : List Nat} {w : List Nat} : Keeps (some_ rs s) w ↔ ∀ i ∈ s, ∀ r, rs[i]? = some r → r.holds w = true := by
  rw [keeps_mem]
  constructor
  · intro h i hi r hr
    exact h r (List.mem_filterMap.2 ⟨i, hi, hr⟩)
  · intro h r hr
    obtain ⟨i, hi, e⟩ := List.mem_filterMap.1 hr
    exact h i hi r e
theorem earliest_none {P : List Nat → Prop} {o : Option (List Nat)} (h : Earliest P o) : o.isNone = true ↔ ∀ w, Row w → ¬ P w := by
  cases o with
  | none => exact ⟨fun _ => h, fun _ => rfl⟩
  | some w => exact ⟨(fun e => by cases e), fun e => (e w h.1 h.2.1).elim⟩
theorem unsat_iff {rs : List Rule} (v : ∀ r ∈ rs, Valid r) {s : List Nat} (hl : s.length ≤ 4) : unsat rs s = true ↔ ∀ w, Row w → ¬ Keeps (some_ rs s) w :=
  earliest_none (shortest_is (some_valid v s) (Nat.le_trans (some_len s) hl))
theorem unsat_mono {rs : List Rule} (v : ∀ r ∈ rs, Valid r) {a b : List Nat} (ha : a.length ≤ 4) (hb : b.length ≤ 4) (h : within a b = true) (u : unsat rs a = true) : unsat rs b = true := by
  rw [unsat_iff v hb]
  intro w rw_ k
  refine (unsat_iff v ha).1 u w rw_ ?_
  rw [keeps_some] at k ⊢
  intro i hi
  have := List.all_eq_true.1 h i hi
  exact k i (by simpa using this)

/-! ### the sets, of four rules at most -/
def setsOk (L : List (List Nat)) : Bool :=
  L.all (fun s => decide (s.length ≤ 4) && s.all fun i => L.contains (del s i) && decide ((del s i).length < s.length) && within (del s i) s) &&
  L.all (fun k => L.all fun s => !within k s || k == s || s.any fun i => within k (del s i)) &&
  L.all (fun a => within a a)
theorem sets_ok {n : Nat} (h : n ≤ 4) : setsOk (sets n) = true ∧ (sets n).Pairwise (fun a b => a ≠ b ∧ a.length ≤ b.length) := by
  have : n = 0 ∨ n = 1 ∨ n = 2 ∨ n = 3 ∨ n = 4 := by omega
  rcases this with rfl | rfl | rfl | rfl | rfl <;> exact ⟨by decide +kernel, by decide +kernel⟩

section
variable {rs : List Rule} {L : List (List Nat)}
theorem set_few (ok : setsOk L = true) {s : List Nat} (h : s ∈ L) : s.length ≤ 4 := by
  unfold setsOk at ok
  simp only [Bool.and_eq_true] at ok
  have := List.all_eq_true.1 ok.1.1 s h
  rw [Bool.and_eq_true] at this
  exact of_decide_eq_true this.1
theorem set_del (ok : setsOk L = true) {s : List Nat} (h : s ∈ L) {i : Nat} (hi : i ∈ s) : del s i ∈ L ∧ (del s i).length < s.length ∧ within (del s i) s = true := by
  unfold setsOk at ok
  simp only [Bool.and_eq_true] at ok
  have := List.all_eq_true.1 ok.1.1 s h
  rw [Bool.and_eq_true] at this
  have := List.all_eq_true.1 this.2 i hi
  rw [Bool.and_eq_true, Bool.and_eq_true] at this
  exact ⟨by simpa using this.1.1, of_decide_eq_true this.1.2, this.2⟩
theorem set_part (ok : setsOk L = true) {k s : List Nat} (hk : k ∈ L) (hs : s ∈ L) (w : within k s = true) (ne : k ≠ s) : ∃ i ∈ s, within k (del s i) = true := by
  unfold setsOk at ok
  simp only [Bool.and_eq_true] at ok
  have := List.all_eq_true.1 (List.all_eq_true.1 ok.1.2 k hk) s hs
  rw [w] at this
  simp only [Bool.not_true, Bool.false_or, Bool.or_eq_true, beq_iff_eq] at this
  rcases this with h | h
  · exact (ne h).elim
  · obtain ⟨i, hi, e⟩ := List.any_eq_true.1 h
    exact ⟨i, hi, e⟩
theorem set_self (ok : setsOk L = true) {s : List Nat} (hs : s ∈ L) : within s s = true := by
  unfold setsOk at ok
  simp only [Bool.and_eq_true] at ok
  exact List.all_eq_true.1 ok.2 s hs
theorem within_trans {a b c : List Nat} (h : within a b = true) (k : within b c = true) : within a c = true := by
  refine List.all_eq_true.2 fun x hx => ?_
  have h1 := List.all_eq_true.1 h x hx
  have : x ∈ b := by simpa using h1
  exact List.all_eq_true.1 k x this
/-- in a set that can't be kept lies a clash -/
theorem clash_in (ok : setsOk L = true) : ∀ (n : Nat) (s : List Nat), s.length ≤ n → s ∈ L → unsat rs s = true → ∃ k ∈ L, clash rs k = true ∧ within k s = true ∧ k.length ≤ s.length
  | n, s, hn, hs, u => by
    by_cases c : clash rs s = true
    · exact ⟨s, hs, c, set_self ok hs, Nat.le_refl _⟩
    · have : ∃ i ∈ s, unsat rs (del s i) = true := by
        unfold clash at c
        rw [u, Bool.true_and] at c
        cases e : s.all (fun i => !unsat rs (del s i)) with
        | true => exact (c e).elim
        | false =>
          have := List.all_eq_false.1 e
          obtain ⟨i, hi, h⟩ := this
          exact ⟨i, hi, by simpa using h⟩
      obtain ⟨i, hi, ui⟩ := this
      obtain ⟨m, lt, wd⟩ := set_del ok hs hi
      cases n with
      | zero => omega
      | succ n =>
        obtain ⟨k, hk, ck, wk, lk⟩ := clash_in ok n (del s i) (by omega) m ui
        exact ⟨k, hk, ck, within_trans wk wd, by omega⟩
end

theorem clash_fold {rs : List Rule} (v : ∀ r ∈ rs, Valid r) {L : List (List Nat)} (ok : setsOk L = true) (pw : L.Pairwise fun a b => a ≠ b ∧ a.length ≤ b.length) :
    ∀ (pre post : List (List Nat)), pre ++ post = L → post.foldl (fun m s => if (m.any fun k => within k s) = true then m else if (shortest (some_ rs s)).isNone = true then m ++ [s] else m) (pre.filter (clash rs)) = L.filter (clash rs)
  | pre, [], e => by rw [List.append_nil] at e; rw [e]; rfl
  | pre, s :: post, e => by
    have ms : s ∈ L := by rw [← e]; simp
    have mp : ∀ k ∈ pre, k ∈ L := fun k hk => by rw [← e]; exact List.mem_append.2 (.inl hk)
    have step : (if ((pre.filter (clash rs)).any fun k => within k s) = true then pre.filter (clash rs) else if (shortest (some_ rs s)).isNone = true then pre.filter (clash rs) ++ [s] else pre.filter (clash rs)) = (pre ++ [s]).filter (clash rs) := by
      rw [List.filter_append]
      by_cases c : ((pre.filter (clash rs)).any fun k => within k s) = true
      · rw [if_pos c]
        obtain ⟨k, hk, wk⟩ := List.any_eq_true.1 c
        obtain ⟨hk1, hk2⟩ := List.mem_filter.1 hk
        have ne : k ≠ s := by
          rw [← e] at pw
          exact ((List.pairwise_append.1 pw).2.2 k hk1 s List.mem_cons_self).1
        obtain ⟨i, hi, wi⟩ := set_part ok (mp k hk1) ms wk ne
        have uk : unsat rs k = true := by unfold clash at hk2; rw [Bool.and_eq_true] at hk2; exact hk2.1
        have ud := unsat_mono v (set_few ok (mp k hk1)) (set_few ok (set_del ok ms hi).1) wi uk
        have : clash rs s = false := by
          unfold clash
          have : (s.all fun i => !unsat rs (del s i)) = false := List.all_eq_false.2 ⟨i, hi, by rw [ud]; decide⟩
          rw [this, Bool.and_false]
        simp [this]
      · rw [if_neg c]
        by_cases u : (shortest (some_ rs s)).isNone = true
        · rw [if_pos u]
          have : clash rs s = true := by
            cases h : clash rs s with
            | true => rfl
            | false =>
              exfalso
              apply c
              have : ∃ i ∈ s, unsat rs (del s i) = true := by
                unfold clash at h
                rw [show unsat rs s = true from u, Bool.true_and] at h
                obtain ⟨i, hi, q⟩ := List.all_eq_false.1 h
                exact ⟨i, hi, by simpa using q⟩
              obtain ⟨i, hi, ui⟩ := this
              obtain ⟨m, lt, wd⟩ := set_del ok ms hi
              obtain ⟨k, hk, ck, wk, lk⟩ := clash_in ok _ (del s i) (Nat.le_refl _) m ui
              refine List.any_eq_true.2 ⟨k, List.mem_filter.2 ⟨?_, ck⟩, within_trans wk wd⟩
              rw [← e] at hk pw
              rcases List.mem_append.1 hk with h | h
              · exact h
              · rcases List.mem_cons.1 h with h | h
                · rw [h] at lk; omega
                · have := ((List.pairwise_cons.1 (List.pairwise_append.1 pw).2.1).1 k h).2
                  omega
          simp [this]
        · rw [if_neg u]
          have : clash rs s = false := by
            unfold clash
            have : unsat rs s = false := by unfold unsat; cases z : (shortest (some_ rs s)).isNone with
              | true => exact (u z).elim
              | false => rfl
            rw [this, Bool.false_and]
          simp [this]
    rw [List.foldl_cons, step]
    exact clash_fold v ok pw (pre ++ [s]) post (by rw [← e]; simp)
/-- **The clashes, as the document's words tell them.** -/
theorem clashes_is {rs : List Rule} (v : ∀ r ∈ rs, Valid r) (hl : rs.length ≤ 4) : clashes rs = (sets rs.length).filter (clash rs) := by
  have := sets_ok hl
  exact clash_fold v this.1 this.2 [] (sets rs.length) rfl
end Cr
end
section
set_option autoImplicit false
namespace Cr
open Wf04
set_option linter.unusedSectionVars false
variable {S : Type} [DecidableEq S]
/-- the place of a state -/
def ixOf (R : Rows S) (s : S) : Nat := R.findIdx fun x => decide (x.1 = s)
def putR (R : Rows S) (z : S × List Nat) : Rows S := if z.1 ∈ R.map (fun x => x.1) then R else R ++ [z]

theorem ixOf_nil (s : S) : ixOf ([] : Rows S) s = 0 := rfl
theorem ixOf_cons (x : S × List Nat) (R : Rows S) (s : S) : ixOf (x :: R) s = if x.1 = s then 0 else ixOf R s + 1 := by
  unfold ixOf
  rw [List.findIdx_cons]
  by_cases h : x.1 = s
  · rw [if_pos h, decide_eq_true h]; rfl
  · rw [if_neg h, decide_eq_false h]; rfl
theorem ixOf_get : ∀ {R : Rows S} {s : S}, s ∈ R.map (fun x => x.1) → ∃ p, R[ixOf R s]? = some (s, p)
  | [], _, h => by cases h
  | x :: R, s, h => by
    rw [ixOf_cons]
    by_cases e : x.1 = s
    · rw [if_pos e]; exact ⟨x.2, by rw [← e]; rfl⟩
    · rw [if_neg e]
      have : s ∈ R.map fun x => x.1 := by
        rcases List.mem_cons.1 h with h | h
        · exact (e h.symm).elim
        · exact h
      obtain ⟨p, hp⟩ := ixOf_get this
      exact ⟨p, hp⟩
theorem ixOf_lt {R : Rows S} {s : S} (h : s ∈ R.map (fun x => x.1)) : ixOf R s < R.length := by
  obtain ⟨p, hp⟩ := ixOf_get h
  exact (List.getElem?_eq_some_iff.1 hp).1
theorem ixOf_app : ∀ {R : Rows S} {s : S} (M : Rows S), s ∈ R.map (fun x => x.1) → ixOf (R ++ M) s = ixOf R s
  | [], _, _, h => by cases h
  | x :: R, s, M, h => by
    rw [List.cons_append, ixOf_cons, ixOf_cons]
    by_cases e : x.1 = s
    · rw [if_pos e, if_pos e]
    · rw [if_neg e, if_neg e]
      have : s ∈ R.map fun x => x.1 := by
        rcases List.mem_cons.1 h with h | h
        · exact (e h.symm).elim
        · exact h
      rw [ixOf_app M this]
theorem ixOf_new : ∀ {R : Rows S} {s : S} {p : List Nat}, s ∉ R.map (fun x => x.1) → ixOf (R ++ [(s, p)]) s = R.length
  | [], s, p, _ => by rw [List.nil_append, ixOf_cons, if_pos rfl]; rfl
  | x :: R, s, p, h => by
    rw [List.cons_append, ixOf_cons]
    have e : ¬ x.1 = s := fun e => h (by rw [← e]; simp)
    rw [if_neg e, ixOf_new (fun m => h (List.mem_cons_of_mem _ m))]; rfl
theorem ixOf_uniq {R : Rows S} (nd : (R.map fun x => x.1).Nodup) {i : Nat} {x : S × List Nat} (h : R[i]? = some x) : ixOf R x.1 = i := by
  induction R generalizing i with
  | nil => cases h
  | cons y R ih =>
    have nd' := List.nodup_cons.1 nd
    rw [ixOf_cons]
    cases i with
    | zero => cases h; rw [if_pos rfl]
    | succ i =>
      have m : x ∈ R := List.mem_of_getElem? (l := R) (i := i) h
      have e : ¬ y.1 = x.1 := fun e => nd'.1 (by show y.1 ∈ _; rw [e]; exact List.mem_map.2 ⟨x, m, rfl⟩)
      rw [if_neg e, ih nd'.2 h]
theorem putR_old (R : Rows S) (z : S × List Nat) : ∃ M, putR R z = R ++ M := by
  unfold putR; split
  · exact ⟨[], by simp⟩
  · exact ⟨[z], rfl⟩
theorem putR_key (R : Rows S) (z : S × List Nat) : z.1 ∈ (putR R z).map (fun x => x.1) := by
  unfold putR; split
  · assumption
  · simp

theorem get_app {α : Type} {l : List α} {i : Nat} {x : α} (h : l[i]? = some x) (m : List α) : (l ++ m)[i]? = some x := by
  rw [List.getElem?_append_left (List.getElem?_eq_some_iff.1 h).1]; exact h
theorem get_snoc0 {α : Type} {l : List α} {x y : α} {i : Nat} (h : (l ++ [x])[i]? = some y) : l[i]? = some y ∨ (i = l.length ∧ x = y) := by
  rcases Nat.lt_trichotomy i l.length with q | q | q
  · left; rwa [List.getElem?_append_left q] at h
  · right; subst q; rw [List.getElem?_append_right (Nat.le_refl _)] at h; simpa using h
  · rw [List.getElem?_append_right (by omega)] at h
    have : i - l.length = (i - l.length - 1) + 1 := by omega
    rw [this] at h; simp at h

structure BInv (rd : S → Nat → S) (s0 : S) (R : Rows S) (F : List (List Nat)) (part : List Nat) : Prop where
  nodup : (R.map fun x => x.1).Nodup
  at_ : ∀ x ∈ R, Row x.2 ∧ x.1 = reads rd s0 x.2
  sorted : R.Pairwise fun x y => Er x.2 y.2
  zero : R[0]? = some (s0, [])
  from_ : ∀ x ∈ R, x.2 = [] ∨ ∃ (i c : Nat) (y : S × List Nat), R[i]? = some y ∧ x.2 = y.2 ++ [c] ∧ i ≤ F.length ∧ (i = F.length → c < part.length)
  next : ∀ (i c : Nat) (l : List Nat) (j : Nat), (F ++ [part])[i]? = some l → l[c]? = some j → ∃ (y z : S × List Nat), R[i]? = some y ∧ R[j]? = some z ∧ z.1 = rd y.1 c ∧ El z.2 (y.2 ++ [c])
  full : ∀ l ∈ F, l.length = 5

theorem BInv.start (rd : S → Nat → S) (s0 : S) : BInv rd s0 [(s0, [])] [] [] := by
  refine ⟨by simp, ?_, by simp, rfl, ?_, ?_, by intro l h; cases h⟩
  · intro x hx; rw [List.mem_singleton.1 hx]; exact ⟨Row.nil, rfl⟩
  · intro x hx; rw [List.mem_singleton.1 hx]; exact .inl rfl
  · intro i c l j h h'
    cases i with
    | zero => cases h; cases h'
    | succ i => cases h

theorem pairwise_get {α : Type} {P : α → α → Prop} {l : List α} (h : l.Pairwise P) {i j : Nat} {x y : α} (hi : l[i]? = some x) (hj : l[j]? = some y) (lt : i < j) : P x y := by
  obtain ⟨a, rfl⟩ := List.getElem?_eq_some_iff.1 hi
  obtain ⟨b, rfl⟩ := List.getElem?_eq_some_iff.1 hj
  exact List.pairwise_iff_getElem.1 h i j a b lt

section
variable {rd : S → Nat → S} {s0 : S} {R : Rows S} {F : List (List Nat)} {part : List Nat}
/-- what comes next lies behind all -/
theorem BInv.behind (I : BInv rd s0 R F part) {y : S × List Nat} (hy : R[F.length]? = some y) (x : S × List Nat) (hx : x ∈ R) : Er x.2 (y.2 ++ [part.length]) := by
  rcases I.from_ x hx with h | ⟨i, c, z, hz, e, hi, hc⟩
  · rw [h]; left; simp
  · rw [e]
    rcases Nat.lt_or_ge i F.length with q | q
    · exact (pairwise_get I.sorted hz hy q).app [c] [part.length] rfl
    · have ei : i = F.length := by omega
      rw [ei, hy] at hz
      cases hz
      exact Er.last _ (hc ei)
theorem BInv.step (I : BInv rd s0 R F part) {y : S × List Nat} (hy : R[F.length]? = some y) (hc : part.length < 5) :
    BInv rd s0 (putR R (rd y.1 part.length, y.2 ++ [part.length])) F (part ++ [ixOf (putR R (rd y.1 part.length, y.2 ++ [part.length])) (rd y.1 part.length)]) := by
  have ym : y ∈ R := List.mem_of_getElem? hy
  obtain ⟨ry, ey⟩ := I.at_ y ym
  have old := putR_old R (rd y.1 part.length, y.2 ++ [part.length])
  have key := putR_key R (rd y.1 part.length, y.2 ++ [part.length])
  have new : ∃ p, (putR R (rd y.1 part.length, y.2 ++ [part.length]))[ixOf (putR R (rd y.1 part.length, y.2 ++ [part.length])) (rd y.1 part.length)]? = some (rd y.1 part.length, p) ∧ El p (y.2 ++ [part.length]) := by
    obtain ⟨p, hp⟩ := ixOf_get key
    refine ⟨p, hp, ?_⟩
    have m := List.mem_of_getElem? hp
    unfold putR at m
    by_cases q : rd y.1 part.length ∈ R.map fun x => x.1
    · rw [if_pos q] at m
      exact (I.behind hy _ m).el
    · rw [if_neg q] at m
      rcases List.mem_append.1 m with m | m
      · exact (I.behind hy _ m).el
      · have := List.mem_singleton.1 m
        have e : p = y.2 ++ [part.length] := congrArg Prod.snd this
        rw [e]; exact .rfl
  refine ⟨?_, ?_, ?_, ?_, ?_, ?_, I.full⟩
  · unfold putR
    by_cases q : rd y.1 part.length ∈ R.map fun x => x.1
    · rw [if_pos q]; exact I.nodup
    · rw [if_neg q, List.map_append, List.nodup_append]
      refine ⟨I.nodup, by simp, ?_⟩
      intro a ha b hb e
      simp only [List.map_cons, List.map_nil, List.mem_singleton] at hb
      rw [hb] at e
      exact q (e ▸ ha)
  · intro x hx
    unfold putR at hx
    by_cases q : rd y.1 part.length ∈ R.map fun x => x.1
    · rw [if_pos q] at hx; exact I.at_ x hx
    · rw [if_neg q] at hx
      rcases List.mem_append.1 hx with h | h
      · exact I.at_ x h
      · rw [List.mem_singleton.1 h]
        exact ⟨ry.app (Row.one hc), by show rd y.1 part.length = _; rw [reads_snoc, ← ey]⟩
  · unfold putR
    by_cases q : rd y.1 part.length ∈ R.map fun x => x.1
    · rw [if_pos q]; exact I.sorted
    · rw [if_neg q, List.pairwise_append]
      refine ⟨I.sorted, by simp, ?_⟩
      intro a ha b hb
      rw [List.mem_singleton.1 hb]
      exact I.behind hy a ha
  · obtain ⟨M, e⟩ := old
    rw [e]; exact get_app I.zero M
  · intro x hx
    obtain ⟨M, e⟩ := old
    have keep : x ∈ R → x.2 = [] ∨ ∃ (i c : Nat) (z : S × List Nat), (putR R (rd y.1 part.length, y.2 ++ [part.length]))[i]? = some z ∧ x.2 = z.2 ++ [c] ∧ i ≤ F.length ∧ (i = F.length → c < (part ++ [ixOf (putR R (rd y.1 part.length, y.2 ++ [part.length])) (rd y.1 part.length)]).length) := by
      intro h
      rcases I.from_ x h with h | ⟨i, c, z, hz, e1, hi, hc⟩
      · exact .inl h
      · exact .inr ⟨i, c, z, by rw [e]; exact get_app hz M, e1, hi, fun q => by rw [List.length_append]; have := hc q; omega⟩
    by_cases q : rd y.1 part.length ∈ R.map fun x => x.1
    · rw [show putR R (rd y.1 part.length, y.2 ++ [part.length]) = R from if_pos q] at hx
      exact keep hx
    · have e2 : putR R (rd y.1 part.length, y.2 ++ [part.length]) = R ++ [(rd y.1 part.length, y.2 ++ [part.length])] := if_neg q
      rw [e2] at hx
      rcases List.mem_append.1 hx with h | h
      · exact keep h
      · rw [List.mem_singleton.1 h]
        refine .inr ⟨F.length, part.length, y, ?_, rfl, Nat.le_refl _, fun _ => by simp⟩
        rw [e]; exact get_app hy M
  · intro i c l j h1 h2
    obtain ⟨M, e⟩ := old
    have keep : ∀ l', (F ++ [part])[i]? = some l' → l'[c]? = some j → ∃ (y' z : S × List Nat), (putR R (rd y.1 part.length, y.2 ++ [part.length]))[i]? = some y' ∧ (putR R (rd y.1 part.length, y.2 ++ [part.length]))[j]? = some z ∧ z.1 = rd y'.1 c ∧ El z.2 (y'.2 ++ [c]) := by
      intro l' h h'
      obtain ⟨y', z, a1, a2, a3, a4⟩ := I.next i c l' j h h'
      exact ⟨y', z, by rw [e]; exact get_app a1 M, by rw [e]; exact get_app a2 M, a3, a4⟩
    rcases get_snoc0 h1 with h | ⟨ei, el⟩
    · exact keep l (get_app h _) h2
    · rw [← el] at h2
      rcases get_snoc0 h2 with h | ⟨ec, ej⟩
      · exact keep part (by rw [ei, List.getElem?_append_right (Nat.le_refl _)]; simp) h
      · obtain ⟨p, hp, lp⟩ := new
        refine ⟨y, (rd y.1 part.length, p), ?_, by rw [← ej]; exact hp, by rw [ec], by rw [ec]; exact lp⟩
        rw [ei, e]; exact get_app hy M
theorem BInv.turn (I : BInv rd s0 R F part) (h5 : part.length = 5) : BInv rd s0 R (F ++ [part]) [] := by
  refine ⟨I.nodup, I.at_, I.sorted, I.zero, ?_, ?_, ?_⟩
  · intro x hx
    rcases I.from_ x hx with h | ⟨i, c, z, hz, e1, hi, hc⟩
    · exact .inl h
    · exact .inr ⟨i, c, z, hz, e1, by rw [List.length_append]; omega, fun q => by rw [List.length_append, List.length_singleton] at q; omega⟩
  · intro i c l j h1 h2
    rcases get_snoc0 h1 with h | ⟨_, e⟩
    · exact I.next i c l j h h2
    · rw [← e] at h2; cases h2
  · intro l hl
    rcases List.mem_append.1 hl with h | h
    · exact I.full l h
    · rw [List.mem_singleton.1 h]; exact h5
/-- all spots, and where each leads -/
structure Spotted (rd : S → Nat → S) (s0 : S) (R : Rows S) (F : List (List Nat)) : Prop where
  nodup : (R.map fun x => x.1).Nodup
  at_ : ∀ x ∈ R, Row x.2 ∧ x.1 = reads rd s0 x.2
  sorted : R.Pairwise fun x y => Er x.2 y.2
  zero : R[0]? = some (s0, [])
  all : ∀ v, Row v → ∃ p, (reads rd s0 v, p) ∈ R ∧ El p v
  len : F.length = R.length
  full : ∀ l ∈ F, l.length = 5
  next : ∀ (i c : Nat) (l : List Nat) (j : Nat), F[i]? = some l → l[c]? = some j → ∃ (y z : S × List Nat), R[i]? = some y ∧ R[j]? = some z ∧ z.1 = rd y.1 c
theorem BInv.done (I : BInv rd s0 R F []) (h : F.length = R.length) : Spotted rd s0 R F := by
  have nx : ∀ (i c : Nat) (l : List Nat) (j : Nat), F[i]? = some l → l[c]? = some j → ∃ (y z : S × List Nat), R[i]? = some y ∧ R[j]? = some z ∧ z.1 = rd y.1 c ∧ El z.2 (y.2 ++ [c]) := fun i c l j h1 h2 => I.next i c l j (get_app h1 _) h2
  refine ⟨I.nodup, I.at_, I.sorted, I.zero, ?_, h, I.full, fun i c l j h1 h2 => let ⟨y, z, a, b, c, _⟩ := nx i c l j h1 h2; ⟨y, z, a, b, c⟩⟩
  intro v
  refine snoc_ind (P := fun v => Row v → ∃ p, (reads rd s0 v, p) ∈ R ∧ El p v) ?_ ?_ v
  · intro _; exact ⟨[], List.mem_of_getElem? I.zero, .rfl⟩
  · intro w c ih rw_
    obtain ⟨p, hp, lp⟩ := ih fun d hd => rw_ d (List.mem_append.2 (.inl hd))
    have hc : c < 5 := rw_ c (by simp)
    obtain ⟨i, hi, e⟩ := List.mem_iff_getElem.1 hp
    have h1 : F[i]? = some F[i] := List.getElem?_eq_getElem (by omega)
    have l5 := I.full F[i] (List.getElem_mem _)
    have h2 : F[i][c]? = some F[i][c] := List.getElem?_eq_getElem (by omega)
    obtain ⟨y, z, a1, a2, a3, a4⟩ := nx i c _ _ h1 h2
    rw [List.getElem?_eq_getElem hi, e] at a1
    cases a1
    refine ⟨z.2, ?_, a4.trans (lp.app [c])⟩
    rw [reads_snoc]
    have : z = (rd (reads rd s0 w) c, z.2) := by rw [← a3]
    rw [← this]; exact List.mem_of_getElem? a2

theorem Spotted.first (Z : Spotted rd s0 R F) {f : S → Bool} {i : Nat} {x : S × List Nat} (hx : R[i]? = some x) (hp : ∀ y ∈ R.take i, f y.1 = false) (hs : f x.1 = true) : Earliest (fun w => f (reads rd s0 w) = true) (some x.2) := by
  obtain ⟨rx, ex⟩ := Z.at_ x (List.mem_of_getElem? hx)
  refine ⟨rx, by show f (reads rd s0 x.2) = true; rw [← ex]; exact hs, ?_⟩
  intro v rv hv
  obtain ⟨p, hp', le⟩ := Z.all v rv
  obtain ⟨j, hj, e⟩ := List.mem_iff_getElem.1 hp'
  have gj : R[j]? = some (reads rd s0 v, p) := by rw [List.getElem?_eq_getElem hj, e]
  rcases Nat.lt_trichotomy j i with q | q | q
  · have m : (reads rd s0 v, p) ∈ R.take i := by
      refine List.mem_of_getElem? (i := j) ?_
      rw [List.getElem?_take, if_pos q]; exact gj
    have := hp _ m
    have hv' : f (reads rd s0 v) = true := hv
    rw [show f (reads rd s0 v, p).1 = f (reads rd s0 v) from rfl, hv'] at this; cases this
  · subst q
    rw [hx] at gj; cases gj; exact le
  · exact (pairwise_get Z.sorted hx gj q).el.trans le
theorem Spotted.none (Z : Spotted rd s0 R F) {f : S → Bool} (hp : ∀ y ∈ R, f y.1 = false) : Earliest (fun w => f (reads rd s0 w) = true) none := by
  intro v rv hv
  obtain ⟨p, hp', _⟩ := Z.all v rv
  have := hp _ hp'
  have hv' : f (reads rd s0 v) = true := hv
  rw [show f (reads rd s0 v, p).1 = f (reads rd s0 v) from rfl, hv'] at this; cases this

/-- the spot of a row -/
def spot (rd : S → Nat → S) (s0 : S) (R : Rows S) (w : List Nat) : Nat := ixOf R (reads rd s0 w)
theorem Spotted.key (Z : Spotted rd s0 R F) {w : List Nat} (rw_ : Row w) : reads rd s0 w ∈ R.map fun x => x.1 := by
  obtain ⟨p, hp, _⟩ := Z.all w rw_
  exact List.mem_map.2 ⟨_, hp, rfl⟩
theorem Spotted.lt (Z : Spotted rd s0 R F) {w : List Nat} (rw_ : Row w) : spot rd s0 R w < R.length := ixOf_lt (Z.key rw_)
theorem Spotted.get (Z : Spotted rd s0 R F) {w : List Nat} (rw_ : Row w) : ∃ p, R[spot rd s0 R w]? = some (reads rd s0 w, p) := ixOf_get (Z.key rw_)
theorem Spotted.spot_nil (Z : Spotted rd s0 R F) : spot rd s0 R [] = 0 := ixOf_uniq Z.nodup Z.zero
theorem Spotted.spot_snoc (Z : Spotted rd s0 R F) {w : List Nat} (rw_ : Row w) {c : Nat} (hc : c < 5) : ∃ l, F[spot rd s0 R w]? = some l ∧ l[c]? = some (spot rd s0 R (w ++ [c])) := by
  have lt := Z.lt rw_
  have h1 : F[spot rd s0 R w]? = some (F[spot rd s0 R w]'(by rw [Z.len]; exact lt)) := List.getElem?_eq_getElem _
  have l5 := Z.full _ (List.mem_of_getElem? h1)
  refine ⟨_, h1, ?_⟩
  have h2 : (F[spot rd s0 R w]'(by rw [Z.len]; exact lt))[c]? = some ((F[spot rd s0 R w]'(by rw [Z.len]; exact lt))[c]'(by omega)) := List.getElem?_eq_getElem _
  rw [h2]
  obtain ⟨y, z, a1, a2, a3⟩ := Z.next _ _ _ _ h1 h2
  obtain ⟨p, gp⟩ := Z.get rw_
  rw [gp] at a1
  cases a1
  have := ixOf_uniq Z.nodup a2
  rw [a3] at this
  rw [← this]
  unfold spot
  rw [reads_snoc]

/-! ### rows counted -/
def wbump (s n : Nat) : List (Nat × Nat) → List (Nat × Nat)
  | [] => [(s, n)]
  | x :: r => if x.1 = s then (s, x.2 + n) :: r else x :: wbump s n r
def wadd (l : List (Nat × Nat)) (ys : List (Nat × Nat)) : List (Nat × Nat) := ys.foldl (fun m y => wbump y.1 y.2 m) l
def wgo (F : List (List Nat)) (l : List (Nat × Nat)) : List (Nat × Nat) := l.flatMap fun x => (F.getD x.1 []).map fun j => (j, x.2)
def wnext (F : List (List Nat)) (l : List (Nat × Nat)) : List (Nat × Nat) := wadd [] (wgo F l)
def wnexts (F : List (List Nat)) : Nat → List (Nat × Nat)
  | 0 => [(0, 1)]
  | n + 1 => wnext F (wnexts F n)
def weighN (g : Nat → Nat) : List (Nat × Nat) → Nat
  | [] => 0
  | x :: l => x.2 * g x.1 + weighN g l
theorem weighN_app (g : Nat → Nat) : ∀ l m, weighN g (l ++ m) = weighN g l + weighN g m
  | [], m => by simp [weighN]
  | x :: l, m => by rw [List.cons_append, weighN, weighN, weighN_app g l m]; omega
theorem weighN_bump (g : Nat → Nat) (s n : Nat) : ∀ l, weighN g (wbump s n l) = weighN g l + n * g s
  | [] => by simp [wbump, weighN]
  | x :: l => by
    rw [wbump]
    by_cases h : x.1 = s
    · rw [if_pos h, weighN, weighN, h]; show (x.2 + n) * g s + _ = _; rw [Nat.add_mul]; omega
    · rw [if_neg h, weighN, weighN, weighN_bump g s n l]; omega
theorem weighN_add (g : Nat → Nat) : ∀ (ys l : List (Nat × Nat)), weighN g (wadd l ys) = weighN g l + weighN g ys
  | [], l => by simp [weighN, wadd]
  | y :: ys, l => by
    show weighN g (wadd (wbump y.1 y.2 l) ys) = _
    rw [weighN_add g ys, weighN_bump, weighN]; omega
def wsum (g : Nat → Nat) (l : List Nat) : Nat := (l.map g).sum
theorem weighN_go (F : List (List Nat)) (g : Nat → Nat) : ∀ l, weighN g (wgo F l) = weighN (fun i => wsum g (F.getD i [])) l
  | [] => rfl
  | x :: l => by
    show weighN g (((F.getD x.1 []).map fun j => (j, x.2)) ++ wgo F l) = _
    rw [weighN_app, weighN_go F g l, weighN]
    congr 1
    generalize F.getD x.1 [] = m
    induction m with
    | nil => simp [weighN, wsum]
    | cons j m ih =>
      rw [List.map_cons, weighN, ih]
      simp only [wsum, List.map_cons, List.sum_cons, Nat.mul_add]
def wy (F : List (List Nat)) (ok : Nat → Bool) : Nat → Nat → Nat
  | 0, i => if ok i = true then 1 else 0
  | n + 1, i => wsum (wy F ok n) (F.getD i [])
theorem weighN_nexts (F : List (List Nat)) (ok : Nat → Bool) : ∀ (n k : Nat), weighN (wy F ok k) (wnexts F n) = wy F ok (k + n) 0
  | 0, k => by simp [wnexts, weighN]
  | n + 1, k => by
    show weighN (wy F ok k) (wadd [] (wgo F (wnexts F n))) = _
    rw [weighN_add, weighN_go, weighN, Nat.zero_add]
    have : (fun i => wsum (wy F ok k) (F.getD i [])) = wy F ok (k + 1) := rfl
    rw [this, weighN_nexts F ok n (k + 1)]
    congr 1; omega
theorem weighN_ok (ok : Nat → Bool) : ∀ l : List (Nat × Nat), weighN (fun i => if ok i = true then 1 else 0) l = ((l.filter fun x => ok x.1).map fun x => x.2).sum
  | [] => rfl
  | x :: l => by
    rw [weighN, weighN_ok ok l, List.filter_cons]
    by_cases h : ok x.1 = true
    · rw [if_pos h, if_pos h]; simp
    · rw [if_neg h, if_neg h]; simp
theorem Spotted.many (Z : Spotted rd s0 R F) {ok : Nat → Bool} {f : S → Bool} (hok : ∀ i x, R[i]? = some x → ok i = f x.1) : ∀ (n : Nat) (w : List Nat), Row w → wy F ok n (spot rd s0 R w) = many (fun w => f (reads rd s0 w)) n w
  | 0, w, rw_ => by
    obtain ⟨p, hp⟩ := Z.get rw_
    rw [wy, Cr.many, hok _ _ hp]
  | n + 1, w, rw_ => by
    have sn : ∀ c, c < 5 → ∃ l, F[spot rd s0 R w]? = some l ∧ l[c]? = some (spot rd s0 R (w ++ [c])) := fun c hc => Z.spot_snoc rw_ hc
    obtain ⟨l, hl, g0⟩ := sn 0 (by omega)
    have g : ∀ c, c < 5 → l[c]? = some (spot rd s0 R (w ++ [c])) := by
      intro c hc
      obtain ⟨l', hl', g⟩ := sn c hc
      rw [hl] at hl'; cases hl'; exact g
    have l5 := Z.full l (List.mem_of_getElem? hl)
    rw [wy, List.getD_eq_getElem?_getD, hl, Cr.many]
    have el : l = [spot rd s0 R (w ++ [0]), spot rd s0 R (w ++ [1]), spot rd s0 R (w ++ [2]), spot rd s0 R (w ++ [3]), spot rd s0 R (w ++ [4])] := by
      match l, l5, g with
      | [a, b, c, d, e], _, g =>
        have h0 := g 0 (by omega)
        have h1 := g 1 (by omega)
        have h2 := g 2 (by omega)
        have h3 := g 3 (by omega)
        have h4 := g 4 (by omega)
        simp at h0 h1 h2 h3 h4
        rw [h0, h1, h2, h3, h4]
    show wsum (wy F ok n) l = _
    rw [el]
    have step : ∀ c, c < 5 → wy F ok n (spot rd s0 R (w ++ [c])) = Cr.many (fun w => f (reads rd s0 w)) n (w ++ [c]) := fun c hc => Spotted.many Z hok n _ (rw_.app (Row.one hc))
    simp only [wsum, List.map_cons, List.map_nil, List.sum_cons, List.sum_nil]
    rw [step 0 (by omega), step 1 (by omega), step 2 (by omega), step 3 (by omega), step 4 (by omega)]
    omega
/-- the count that the program adds up -/
theorem Spotted.count (Z : Spotted rd s0 R F) {ok : Nat → Bool} {f : S → Bool} (hok : ∀ i x, R[i]? = some x → ok i = f x.1) (n : Nat) : (((wnexts F n).filter fun x => ok x.1).map fun x => x.2).sum = Cr.many (fun w => f (reads rd s0 w)) n [] := by
  rw [← weighN_ok, ← Z.many hok n [] Row.nil, Z.spot_nil]
  have := weighN_nexts F ok n 0
  rw [Nat.zero_add] at this
  exact this
end
end Cr
end
section
set_option autoImplicit false
set_option linter.unusedSectionVars false
namespace Cr
open Wf04
/-! ### dicts as lists -/
section
variable {α β : Type} [DecidableEq α]
def aget (l : List (α × β)) (k : α) : Option β := (l.find? fun x => decide (x.1 = k)).map fun x => x.2
def aput (l : List (α × β)) (k : α) (v : β) : List (α × β) := if (l.any fun x => decide (x.1 = k)) = true then l.map (fun x => if x.1 = k then (x.1, v) else x) else l ++ [(k, v)]
def adel (l : List (α × β)) (k : α) : List (α × β) := l.filter fun x => decide (x.1 ≠ k)
abbrev akeys (l : List (α × β)) : List α := l.map fun x => x.1
theorem aget_nil (k : α) : aget ([] : List (α × β)) k = none := rfl
theorem aget_cons (x : α × β) (l : List (α × β)) (k : α) : aget (x :: l) k = if x.1 = k then some x.2 else aget l k := by
  unfold aget
  rw [List.find?_cons]
  by_cases h : x.1 = k
  · rw [if_pos h, decide_eq_true h]; rfl
  · rw [if_neg h, decide_eq_false h]
theorem aget_mem {l : List (α × β)} {k : α} {v : β} : aget l k = some v → (k, v) ∈ l := by
  induction l with
  | nil => intro h; cases h
  | cons x l ih =>
    rw [aget_cons]
    by_cases h : x.1 = k
    · rw [if_pos h]; intro e; cases e; rw [← h]; exact List.mem_cons_self
    · rw [if_neg h]; intro e; exact List.mem_cons_of_mem _ (ih e)
theorem aget_none {l : List (α × β)} {k : α} : aget l k = none ↔ k ∉ akeys l := by
  induction l with
  | nil => simp [aget_nil, akeys]
  | cons x l ih =>
    rw [aget_cons]
    by_cases h : x.1 = k
    · rw [if_pos h]; simp [akeys, h]
    · rw [if_neg h, ih]
      have : ¬ k = x.1 := fun e => h e.symm
      simp [akeys, this]
theorem mem_aget {l : List (α × β)} (nd : (akeys l).Nodup) {x : α × β} (h : x ∈ l) : aget l x.1 = some x.2 := by
  induction l with
  | nil => cases h
  | cons y l ih =>
    have nd' := List.nodup_cons.1 nd
    rw [aget_cons]
    rcases List.mem_cons.1 h with e | e
    · rw [← e, if_pos rfl]
    · have : ¬ y.1 = x.1 := by
        intro e'
        exact nd'.1 (List.mem_map.2 ⟨x, e, e'.symm⟩)
      rw [if_neg this]
      exact ih nd'.2 e
theorem any_key {l : List (α × β)} {k : α} : (l.any fun x => decide (x.1 = k)) = true ↔ k ∈ akeys l := by
  rw [List.any_eq_true]
  constructor
  · rintro ⟨x, hx, e⟩; exact List.mem_map.2 ⟨x, hx, of_decide_eq_true e⟩
  · intro h
    obtain ⟨x, hx, e⟩ := List.mem_map.1 h
    exact ⟨x, hx, decide_eq_true e⟩
theorem akeys_aput {l : List (α × β)} {k : α} {v : β} : akeys (aput l k v) = if k ∈ akeys l then akeys l else akeys l ++ [k] := by
  unfold aput
  by_cases h : k ∈ akeys l
  · rw [if_pos h, if_pos (any_key.2 h)]
    unfold akeys
    rw [List.map_map]
    refine List.map_congr_left fun x _ => ?_
    show (if x.1 = k then (x.1, v) else x).1 = x.1
    split <;> rfl
  · rw [if_neg h, if_neg (fun e => h (any_key.1 e))]
    simp [akeys]
theorem aput_nodup {l : List (α × β)} {k : α} {v : β} (nd : (akeys l).Nodup) : (akeys (aput l k v)).Nodup := by
  rw [akeys_aput]
  by_cases h : k ∈ akeys l
  · rw [if_pos h]; exact nd
  · rw [if_neg h, List.nodup_append]
    refine ⟨nd, by simp, ?_⟩
    intro a ha b hb e
    rw [List.mem_singleton.1 hb] at e
    exact h (e ▸ ha)
theorem mem_aput {l : List (α × β)} {k : α} {v : β} {x : α × β} (h : x ∈ aput l k v) : x = (k, v) ∨ (x ∈ l ∧ x.1 ≠ k) := by
  unfold aput at h
  by_cases q : k ∈ akeys l
  · rw [if_pos (any_key.2 q)] at h
    obtain ⟨y, hy, e⟩ := List.mem_map.1 h
    by_cases c : y.1 = k
    · rw [if_pos c, c] at e; exact .inl e.symm
    · rw [if_neg c] at e; subst e; exact .inr ⟨hy, c⟩
  · rw [if_neg (fun e => q (any_key.1 e))] at h
    rcases List.mem_append.1 h with h | h
    · exact .inr ⟨h, fun e => q (e ▸ List.mem_map.2 ⟨x, h, rfl⟩)⟩
    · exact .inl (List.mem_singleton.1 h)
theorem aput_self (l : List (α × β)) (k : α) (v : β) : (k, v) ∈ aput l k v := by
  unfold aput
  by_cases q : k ∈ akeys l
  · rw [if_pos (any_key.2 q)]
    obtain ⟨y, hy, e⟩ := List.mem_map.1 q
    refine List.mem_map.2 ⟨y, hy, ?_⟩
    rw [if_pos e, e]
  · rw [if_neg (fun e => q (any_key.1 e))]; simp
theorem aput_other {l : List (α × β)} {k : α} {v : β} {x : α × β} (h : x ∈ l) (ne : x.1 ≠ k) : x ∈ aput l k v := by
  unfold aput
  by_cases q : k ∈ akeys l
  · rw [if_pos (any_key.2 q)]
    exact List.mem_map.2 ⟨x, h, if_neg ne⟩
  · rw [if_neg (fun e => q (any_key.1 e))]; exact List.mem_append.2 (.inl h)
theorem aput_new {l : List (α × β)} {k : α} {v : β} (h : k ∉ akeys l) : aput l k v = l ++ [(k, v)] := if_neg fun e => h (any_key.1 e)
theorem mem_adel {l : List (α × β)} {k : α} {x : α × β} : x ∈ adel l k ↔ x ∈ l ∧ x.1 ≠ k := by
  unfold adel
  rw [List.mem_filter]
  exact and_congr_right fun _ => ⟨of_decide_eq_true, decide_eq_true⟩
theorem adel_nodup {l : List (α × β)} {k : α} (nd : (akeys l).Nodup) : (akeys (adel l k)).Nodup := nd.sublist (List.filter_sublist.map _)
theorem nodup_few : ∀ (l U : List α), l.Nodup → (∀ s ∈ l, s ∈ U) → l.length ≤ U.length
  | [], _, _, _ => Nat.zero_le _
  | x :: l, U, nd, h => by
    have nd' := List.nodup_cons.1 nd
    have := nodup_few l (U.erase x) nd'.2 (by
      intro s hs
      have ne : s ≠ x := fun e => nd'.1 (e ▸ hs)
      exact (List.mem_erase_of_ne ne).2 (h s (List.mem_cons_of_mem _ hs)))
    rw [List.length_erase_of_mem (h x List.mem_cons_self)] at this
    have := List.length_pos_of_mem (h x List.mem_cons_self)
    rw [List.length_cons]; omega
end

abbrev Stand := Nat × Nat
abbrev Frt (A : Type) := List (Stand × (A × List Nat))
abbrev Wait (A : Type) := List ((Nat × Nat) × (A × Frt A))
abbrev Rec := Stand × Way
section
variable {A : Type}
def putFr (fr : Frt A) (st : Stand) (a : A) (w : List Nat) : Frt A := match aget fr st with
  | none => aput fr st (a, w)
  | some y => if less w y.2 = true then aput fr st (a, w) else fr
def putW (W : Wait A) (d : Nat) (st : Stand) (b a : A) (w : List Nat) : Wait A := match aget W (d, w.length) with
  | none => aput W (d, w.length) (b, putFr [] st a w)
  | some y => aput W (d, w.length) (y.1, putFr y.2 st a w)
inductive PutsTo : Wait A → List Rec → Wait A → Prop
  | nil (W : Wait A) : PutsTo W [] W
  | cons {W : Wait A} {m : Rec} {ms : List Rec} {W' : Wait A} (b a : A) : PutsTo (putW W m.2.1 m.1 b a m.2.2) ms W' → PutsTo W (m :: ms) W'
theorem PutsTo.snoc {W : Wait A} {ms : List Rec} {W' : Wait A} (h : PutsTo W ms W') (m : Rec) (b a : A) : PutsTo W (ms ++ [m]) (putW W' m.2.1 m.1 b a m.2.2) := by
  induction h with
  | nil W => exact .cons b a (.nil _)
  | cons b' a' _ ih => exact .cons b' a' ih
def InW (W : Wait A) (d : Nat) (st : Stand) (w : List Nat) : Prop := ∃ (m : Nat) (b : A) (fr : Frt A) (a : A), ((d, m), (b, fr)) ∈ W ∧ (st, (a, w)) ∈ fr
def Have (done : List Rec) (W : Wait A) (st : Stand) (d : Nat) (w : List Nat) : Prop := ∃ (d0 : Nat) (w0 : List Nat), Be (d0, w0) (d, w) ∧ ((st, (d0, w0)) ∈ done ∨ InW W d0 st w0)
/-- (d, m) ahead of (f, n) -/
def Bef (d m f n : Nat) : Prop := d < f ∨ (d = f ∧ m < n)
theorem Be.time {x y : Way} (h : Be x y) : ¬ Bef y.1 y.2.length x.1 x.2.length := by
  unfold Bef
  rcases h with h | h | ⟨h, h' | ⟨h', _⟩⟩
  · rw [h]; omega
  · omega
  · omega
  · omega
theorem Be.of_time {d d' : Nat} {w w' : List Nat} (h : Bef d w.length d' w'.length) : Be (d, w) (d', w') := by
  rcases h with h | ⟨h, h'⟩
  · exact .inr (.inl h)
  · exact .inr (.inr ⟨h, .inl h'⟩)
variable (G : List Nat) (sp : List Nat → Nat) (nx : Nat → Nat → Nat) (ok : Nat → Bool)
structure Net : Prop where
  row : Row G
  sp0 : sp [] = 0
  spn : ∀ (w : List Nat) (c : Nat), Row w → c < 5 → sp (w ++ [c]) = nx (sp w) c
def Fair (st : Stand) (d : Nat) (w : List Nat) : Prop := st.1 ≤ G.length ∧ Al (G.take st.1) w d ∧ Row w ∧ sp w = st.2
def moves (st : Stand) (d : Nat) (w : List Nat) : List Rec := (match G[st.1]? with
  | none => []
  | some c => [((st.1 + 1, nx st.2 c), (d, w ++ [c])), ((st.1 + 1, st.2), (d + 1, w))]) ++ (List.range 5).map fun c => ((st.1, nx st.2 c), (d + 1, w ++ [c]))
def IsEnd (st : Stand) : Prop := st.1 = G.length ∧ ok st.2 = true
structure MI (f n : Nat) (done open_ : List Rec) (W : Wait A) : Prop where
  nd : (akeys W).Nodup
  ndf : ∀ (k : Nat × Nat) (b : A) (fr : Frt A), (k, (b, fr)) ∈ W → (akeys fr).Nodup
  good : ∀ (d m : Nat) (b : A) (fr : Frt A) (st : Stand) (a : A) (w : List Nat), ((d, m), (b, fr)) ∈ W → (st, (a, w)) ∈ fr → Fair G sp st d w ∧ w.length = m
  later : ∀ (d m : Nat) (y : A × Frt A), ((d, m), y) ∈ W → ¬ Bef d m f n
  klen : ∀ (d m : Nat) (y : A × Frt A), ((d, m), y) ∈ W → m ≤ G.length + d
  dgood : ∀ (st : Stand) (d : Nat) (w : List Nat), (st, (d, w)) ∈ done → Fair G sp st d w ∧ Bef d w.length f n ∧ ¬ IsEnd G ok st
  ndd : (akeys done).Nodup
  movd : ∀ (st : Stand) (d : Nat) (w : List Nat), (st, (d, w)) ∈ done → (st, (d, w)) ∉ open_ → ∀ m ∈ moves G nx st d w, Have done W m.1 m.2.1 m.2.2
  strt : Have done W (0, 0) 0 []
  opn : ∀ (st : Stand) (d : Nat) (w : List Nat), (st, (d, w)) ∈ open_ → (st, (d, w)) ∈ done ∧ d = f ∧ w.length + 1 = n
end

theorem Al.len {x w : List Nat} {d : Nat} (h : Al x w d) : w.length ≤ x.length + d := by
  induction h with
  | nil => simp
  | keep c _ ih => simp only [List.length_append, List.length_singleton]; omega
  | left c _ ih => simp only [List.length_append, List.length_singleton]; omega
  | put c _ _ ih => simp only [List.length_append, List.length_singleton]; omega
theorem Al.row {x w : List Nat} {d : Nat} (h : Al x w d) (hx : Row x) : Row w := by
  induction h with
  | nil => exact Row.nil
  | keep c _ ih => exact (ih fun e he => hx e (List.mem_append.2 (.inl he))).app (Row.one (hx c (by simp)))
  | left c _ ih => exact ih fun e he => hx e (List.mem_append.2 (.inl he))
  | put c hc _ ih => exact (ih hx).app (Row.one hc)
theorem take_snoc {G : List Nat} {i : Nat} {x : List Nat} {c : Nat} (hi : i ≤ G.length) (h : x ++ [c] = G.take i) : ∃ j, i = j + 1 ∧ j < G.length ∧ x = G.take j ∧ G[j]? = some c := by
  cases i with
  | zero => rw [List.take_zero] at h; simp at h
  | succ j =>
    have hj : j < G.length := by omega
    rw [List.take_add_one, List.getElem?_eq_getElem hj] at h
    have h' : x ++ [c] = G.take j ++ [G[j]] := h
    have := List.append_inj' h' rfl
    exact ⟨j, rfl, hj, this.1, by rw [List.getElem?_eq_getElem hj, (List.cons.inj this.2).1]⟩

section
variable {A : Type} {G : List Nat} {sp : List Nat → Nat} {nx : Nat → Nat → Nat} {ok : Nat → Bool} {f n : Nat} {done open_ : List Rec} {W : Wait A}

theorem Fair.len {st : Stand} {d : Nat} {w : List Nat} (h : Fair G sp st d w) : w.length ≤ G.length + d := by
  have := h.2.1.len
  rw [List.length_take] at this
  omega
/-- what a put brings -/
theorem putFr_new (fr : Frt A) (st : Stand) (a : A) (w : List Nat) : ∃ a' w', (st, (a', w')) ∈ putFr fr st a w ∧ (w' = w ∨ less w w' = false) := by
  unfold putFr
  cases e : aget fr st with
  | none => exact ⟨a, w, aput_self _ _ _, .inl rfl⟩
  | some y =>
    dsimp only
    by_cases c : less w y.2 = true
    · rw [if_pos c]; exact ⟨a, w, aput_self _ _ _, .inl rfl⟩
    · rw [if_neg c]; exact ⟨y.1, y.2, aget_mem e, .inr (by simpa using c)⟩
theorem putFr_old {fr : Frt A} (nd : (akeys fr).Nodup) (st : Stand) (a : A) (w : List Nat) {st0 : Stand} {a0 : A} {w0 : List Nat} (h : (st0, (a0, w0)) ∈ fr) : (st0, (a0, w0)) ∈ putFr fr st a w ∨ (st0 = st ∧ (st0, (a, w)) ∈ putFr fr st a w ∧ less w w0 = true) := by
  unfold putFr
  by_cases q : st0 = st
  · subst q
    have e := mem_aget nd h
    dsimp only at e
    rw [e]
    dsimp only
    by_cases c : less w w0 = true
    · rw [if_pos c]; exact .inr ⟨rfl, aput_self _ _ _, c⟩
    · rw [if_neg c]; exact .inl h
  · left
    cases e : aget fr st with
    | none => exact aput_other h q
    | some y =>
      dsimp only
      by_cases c : less w y.2 = true
      · rw [if_pos c]; exact aput_other h q
      · rw [if_neg c]; exact h
theorem putFr_from {fr : Frt A} {st : Stand} {a : A} {w : List Nat} {x : Stand × (A × List Nat)} (h : x ∈ putFr fr st a w) : x ∈ fr ∨ x = (st, (a, w)) := by
  unfold putFr at h
  cases e : aget fr st with
  | none =>
    rw [e] at h
    rcases mem_aput h with h | h
    · exact .inr h
    · exact .inl h.1
  | some y =>
    rw [e] at h
    dsimp only at h
    by_cases c : less w y.2 = true
    · rw [if_pos c] at h
      rcases mem_aput h with h | h
      · exact .inr h
      · exact .inl h.1
    · rw [if_neg c] at h; exact .inl h
theorem putFr_nodup {fr : Frt A} (nd : (akeys fr).Nodup) (st : Stand) (a : A) (w : List Nat) : (akeys (putFr fr st a w)).Nodup := by
  unfold putFr
  cases e : aget fr st with
  | none => exact aput_nodup nd
  | some y =>
    dsimp only
    by_cases c : less w y.2 = true
    · rw [if_pos c]; exact aput_nodup nd
    · rw [if_neg c]; exact nd
theorem Er.of_less {u v : List Nat} (h : less u v = true) (l : u.length = v.length) : Er u v := .inr ⟨l, h⟩
theorem El.of_not_less {u v : List Nat} (h : less u v = false) (l : u.length = v.length) : El v u := by
  rcases less_total u v l with e | e | e
  · exact .inl e.symm
  · rw [h] at e; cases e
  · exact .inr (.inr ⟨l.symm, e⟩)
/-- the front that a put changes -/
def frontAt (W : Wait A) (d m : Nat) : Frt A := match aget W (d, m) with
  | none => []
  | some y => y.2
theorem putW_eq (W : Wait A) (d : Nat) (st : Stand) (b a : A) (w : List Nat) : ∃ b', putW W d st b a w = aput W (d, w.length) (b', putFr (frontAt W d w.length) st a w) := by
  unfold putW frontAt
  cases aget W (d, w.length) with
  | none => exact ⟨b, rfl⟩
  | some y => exact ⟨y.1, rfl⟩
theorem frontAt_mem {d m : Nat} {x : Stand × (A × List Nat)} (h : x ∈ frontAt W d m) : ∃ b, ((d, m), (b, frontAt W d m)) ∈ W := by
  unfold frontAt at h ⊢
  cases e : aget W (d, m) with
  | none => rw [e] at h; cases h
  | some y => exact ⟨y.1, aget_mem e⟩
theorem mem_frontAt (nd : (akeys W).Nodup) {d m : Nat} {b : A} {fr : Frt A} (h : ((d, m), (b, fr)) ∈ W) : frontAt W d m = fr := by
  have e := mem_aget nd h
  dsimp only at e
  unfold frontAt
  rw [e]
theorem MI.front_nodup (I : MI G sp nx ok f n done open_ W) (d m : Nat) : (akeys (frontAt W d m)).Nodup := by
  unfold frontAt
  cases e : aget W (d, m) with
  | none => exact List.nodup_nil
  | some y => exact I.ndf (d, m) y.1 y.2 (aget_mem e)
theorem MI.put_have (I : MI G sp nx ok f n done open_ W) {st : Stand} {d : Nat} {w : List Nat} (b a : A) : (∀ st' d' w', Have done W st' d' w' → Have done (putW W d st b a w) st' d' w') ∧ Have done (putW W d st b a w) st d w := by
  obtain ⟨b', e⟩ := putW_eq W d st b a w
  have good0 : ∀ {st0 : Stand} {a0 : A} {w0 : List Nat}, (st0, (a0, w0)) ∈ frontAt W d w.length → w0.length = w.length := by
    intro st0 a0 w0 h
    obtain ⟨b0, hb0⟩ := frontAt_mem h
    exact (I.good _ _ _ _ _ _ _ hb0 h).2
  constructor
  · rintro st' d' w' ⟨d0, w0, be, h | ⟨m, b0, fr, a0, hw, hf⟩⟩
    · exact ⟨d0, w0, be, .inl h⟩
    · rw [e]
      by_cases q : (d0, m) = (d, w.length)
      · cases q
        have ef := mem_frontAt I.nd hw
        rw [← ef] at hf
        rcases putFr_old (I.front_nodup _ _) st a w hf with h | ⟨rfl, h, lt⟩
        · exact ⟨_, w0, be, .inr ⟨_, _, _, a0, aput_self _ _ _, h⟩⟩
        · refine ⟨d, w, Be.trans (y := (d, w0)) (.inr (.inr ⟨rfl, Er.of_less lt (good0 hf).symm⟩)) be, .inr ⟨_, _, _, a, aput_self _ _ _, h⟩⟩
      · exact ⟨d0, w0, be, .inr ⟨m, b0, fr, a0, aput_other hw q, hf⟩⟩
  · rw [e]
    obtain ⟨a', w', h, c⟩ := putFr_new (frontAt W d w.length) st a w
    refine ⟨d, w', ?_, .inr ⟨_, _, _, a', aput_self _ _ _, h⟩⟩
    rcases c with c | c
    · rw [c]; exact .rfl
    · rcases putFr_from h with h' | h'
      · have l := good0 h'
        rcases El.of_not_less c l.symm with q | q
        · rw [q]; exact .rfl
        · exact .inr (.inr ⟨rfl, q⟩)
      · cases h'; exact .rfl
theorem MI.put (I : MI G sp nx ok f n done open_ W) {st : Stand} {d : Nat} {w : List Nat} (hg : Fair G sp st d w) (hl : ¬ Bef d w.length f n) (b a : A) : MI G sp nx ok f n done open_ (putW W d st b a w) := by
  have hv := I.put_have (st := st) (d := d) (w := w) b a
  obtain ⟨b', e⟩ := putW_eq W d st b a w
  refine ⟨?_, ?_, ?_, ?_, ?_, I.dgood, I.ndd, fun s' d' w' h1 h2 m hm => hv.1 _ _ _ (I.movd s' d' w' h1 h2 m hm), hv.1 _ _ _ I.strt, I.opn⟩
  · rw [e]; exact aput_nodup I.nd
  · intro k b0 fr h
    rw [e] at h
    rcases mem_aput h with h | h
    · cases h; exact putFr_nodup (I.front_nodup _ _) _ _ _
    · exact I.ndf k b0 fr h.1
  · intro d0 m b0 fr st0 a0 w0 h h'
    rw [e] at h
    rcases mem_aput h with h | h
    · cases h
      rcases putFr_from h' with h' | h'
      · obtain ⟨b1, hb1⟩ := frontAt_mem h'
        exact I.good _ _ _ _ _ _ _ hb1 h'
      · cases h'; exact ⟨hg, rfl⟩
    · exact I.good _ _ _ _ _ _ _ h.1 h'
  · intro d0 m y h
    rw [e] at h
    rcases mem_aput h with h | h
    · cases h; exact hl
    · exact I.later _ _ _ h.1
  · intro d0 m y h
    rw [e] at h
    rcases mem_aput h with h | h
    · cases h; exact hg.len
    · exact I.klen _ _ _ h.1
theorem MI.puts (I : MI G sp nx ok f n done open_ W) {ms : List Rec} {W' : Wait A} (P : PutsTo W ms W') : (∀ m ∈ ms, Fair G sp m.1 m.2.1 m.2.2 ∧ ¬ Bef m.2.1 m.2.2.length f n) →
    MI G sp nx ok f n done open_ W' ∧ (∀ st' d' w', Have done W st' d' w' → Have done W' st' d' w') ∧ ∀ m ∈ ms, Have done W' m.1 m.2.1 m.2.2 := by
  induction P with
  | nil W => intro _; exact ⟨I, fun _ _ _ h => h, fun m h => by cases h⟩
  | @cons W m ms W' b a _ ih =>
    intro hg
    have g := hg m List.mem_cons_self
    have hv := I.put_have (st := m.1) (d := m.2.1) (w := m.2.2) b a
    obtain ⟨i1, i2, i3⟩ := ih (I.put g.1 g.2 b a) fun x hx => hg x (List.mem_cons_of_mem _ hx)
    refine ⟨i1, fun st' d' w' h => i2 _ _ _ (hv.1 _ _ _ h), fun x hx => ?_⟩
    rcases List.mem_cons.1 hx with h | h
    · rw [h]; exact i2 _ _ _ hv.2
    · exact i3 x h
theorem moves_good (N : Net G sp nx) {st : Stand} {d : Nat} {w : List Nat} (hg : Fair G sp st d w) : ∀ m ∈ moves G nx st d w, Fair G sp m.1 m.2.1 m.2.2 ∧ ((m.2.1 = d ∧ m.2.2.length = w.length + 1) ∨ m.2.1 = d + 1) := by
  obtain ⟨g1, g2, g3, g4⟩ := hg
  intro m hm
  unfold moves at hm
  rcases List.mem_append.1 hm with h | h
  · cases e : G[st.1]? with
    | none => rw [e] at h; cases h
    | some c =>
      rw [e] at h
      have lt : st.1 < G.length := (List.getElem?_eq_some_iff.1 e).1
      have hc : c < 5 := N.row c (List.mem_of_getElem? e)
      have et : G.take (st.1 + 1) = G.take st.1 ++ [c] := by rw [List.take_add_one, e]; rfl
      rcases List.mem_cons.1 h with h | h
      · subst h
        refine ⟨⟨lt, ?_, g3.app (Row.one hc), ?_⟩, .inl ⟨rfl, by simp⟩⟩
        · show Al (G.take (st.1 + 1)) _ _
          rw [et]; exact .keep c g2
        · show sp (w ++ [c]) = nx st.2 c
          rw [N.spn w c g3 hc, g4]
      · rw [List.mem_singleton.1 h]
        refine ⟨⟨lt, ?_, g3, g4⟩, .inr rfl⟩
        show Al (G.take (st.1 + 1)) _ _
        rw [et]; exact .left c g2
  · obtain ⟨c, hc, rfl⟩ := List.mem_map.1 h
    have hc : c < 5 := List.mem_range.1 hc
    refine ⟨⟨g1, .put c hc g2, g3.app (Row.one hc), ?_⟩, .inr rfl⟩
    show sp (w ++ [c]) = nx st.2 c
    rw [N.spn w c g3 hc, g4]
/-- a record has been gone on from -/
theorem MI.further (N : Net G sp nx) {st : Stand} {d : Nat} {w : List Nat} (I : MI G sp nx ok f n done ((st, (d, w)) :: open_) W) {W' : Wait A} (P : PutsTo W (moves G nx st d w) W') : MI G sp nx ok f n done open_ W' := by
  obtain ⟨o1, o2, o3⟩ := I.opn st d w List.mem_cons_self
  have hg := (I.dgood st d w o1).1
  obtain ⟨J, h1, h2⟩ := I.puts P fun m hm => by
    have := moves_good N hg m hm
    refine ⟨this.1, ?_⟩
    unfold Bef
    rcases this.2 with ⟨a, b⟩ | a <;> omega
  refine ⟨J.nd, J.ndf, J.good, J.later, J.klen, J.dgood, J.ndd, ?_, J.strt, fun s d' w' h => J.opn s d' w' (List.mem_cons_of_mem _ h)⟩
  intro st' d' w' h3 h4 m hm
  by_cases q : (st', (d', w')) = (st, (d, w))
  · cases q; exact h2 m hm
  · exact J.movd st' d' w' h3 (fun e => (List.mem_cons.1 e).elim q h4) m hm

/-! ### what comes at its time -/
theorem MI.have_done (I : MI G sp nx ok f n done open_ W) {st : Stand} {d : Nat} {w : List Nat} (h : Have done W st d w) (hb : Bef d w.length f n) : ∃ d1 w1, (st, (d1, w1)) ∈ done ∧ Be (d1, w1) (d, w) := by
  obtain ⟨d0, w0, be, h | ⟨m, b, fr, a, hw, hf⟩⟩ := h
  · exact ⟨d0, w0, h, be⟩
  · exfalso
    have lt := I.later _ _ _ hw
    have lm := (I.good _ _ _ _ _ _ _ hw hf).2
    have := be.time
    dsimp only at this
    unfold Bef at this lt hb
    omega
theorem MI.reach (N : Net G sp nx) (I : MI G sp nx ok f n done [] W) {D M : Nat} (hc : ∀ st d0 w0, Bef d0 w0.length D M → Have done W st d0 w0 → ∃ d1 w1, (st, (d1, w1)) ∈ done ∧ Be (d1, w1) (d0, w0)) {x w : List Nat} {d : Nat} (al : Al x w d) :
    ∀ i, i ≤ G.length → x = G.take i → ¬ Bef D M d w.length → Have done W (i, sp w) d w := by
  induction al with
  | nil =>
    intro i hi e _
    have : i = 0 := by
      have := congrArg List.length e
      rw [List.length_take, List.length_nil] at this
      omega
    subst this
    rw [N.sp0]; exact I.strt
  | @keep x w d c al ih =>
    intro i hi e hb
    obtain ⟨j, rfl, hj, rfl, gc⟩ := take_snoc hi e
    rw [List.length_append, List.length_singleton] at hb
    have rw_ : Row w := al.row fun c hc => N.row c (List.mem_of_mem_take hc)
    have hc5 : c < 5 := N.row c (List.mem_of_getElem? gc)
    have h1 := ih j (by omega) rfl (by unfold Bef at hb ⊢; omega)
    obtain ⟨d1, w1, hd, be⟩ := hc _ _ _ (by unfold Bef at hb ⊢; omega) h1
    have hm := I.movd _ _ _ hd (by simp) ((j + 1, nx (sp w) c), (d1, w1 ++ [c])) (by
      unfold moves
      rw [gc]; simp)
    obtain ⟨d2, w2, be2, h2⟩ := hm
    rw [N.spn w c rw_ hc5]
    exact ⟨d2, w2, be2.trans (be.app 0 [c]), h2⟩
  | @left x w d c al ih =>
    intro i hi e hb
    obtain ⟨j, rfl, hj, rfl, gc⟩ := take_snoc hi e
    have h1 := ih j (by omega) rfl (by unfold Bef at hb ⊢; omega)
    obtain ⟨d1, w1, hd, be⟩ := hc _ _ _ (by unfold Bef at hb ⊢; omega) h1
    have hm := I.movd _ _ _ hd (by simp) ((j + 1, sp w), (d1 + 1, w1)) (by
      unfold moves
      rw [gc]; simp)
    obtain ⟨d2, w2, be2, h2⟩ := hm
    refine ⟨d2, w2, be2.trans ?_, h2⟩
    have := be.app 1 []
    simpa using this
  | @put x w d c hc5 al ih =>
    intro i hi e hb
    subst e
    rw [List.length_append, List.length_singleton] at hb
    have rw_ : Row w := al.row fun c hc => N.row c (List.mem_of_mem_take hc)
    have h1 := ih i hi rfl (by unfold Bef at hb ⊢; omega)
    obtain ⟨d1, w1, hd, be⟩ := hc _ _ _ (by unfold Bef at hb ⊢; omega) h1
    have hm := I.movd _ _ _ hd (by simp) ((i, nx (sp w) c), (d1 + 1, w1 ++ [c])) (by
      unfold moves
      exact List.mem_append.2 (.inr (List.mem_map.2 ⟨c, List.mem_range.2 hc5, rfl⟩)))
    obtain ⟨d2, w2, be2, h2⟩ := hm
    rw [N.spn w c rw_ hc5]
    exact ⟨d2, w2, be2.trans (be.app 1 [c]), h2⟩
/-- those of a front that are new -/
def takenOf (done : List Rec) (fr : Frt A) : Frt A := fr.filter fun x => decide (x.1 ∉ akeys done)
/-- the nearest row is among the ends -/
theorem MI.found (N : Net G sp nx) (I : MI G sp nx ok f n done [] W) {st : Stand} {a : A} {w : List Nat} (hw : (st, (a, w)) ∈ takenOf done (frontAt W f n)) (he : IsEnd G ok st)
    (hm : ∀ st' a' w', (st', (a', w')) ∈ takenOf done (frontAt W f n) → IsEnd G ok st' → less w' w = false) : Nearest (fun w => ok (sp w) = true) G (some (f, w)) := by
  have hf := (List.mem_filter.1 hw).1
  obtain ⟨b, hb⟩ := frontAt_mem hf
  obtain ⟨⟨g1, g2, g3, g4⟩, g5⟩ := I.good _ _ _ _ _ _ _ hb hf
  refine ⟨?_, ?_, ?_⟩
  · have := g2
    rw [he.1, List.take_length] at this
    exact this
  · show ok (sp w) = true
    rw [g4]; exact he.2
  · intro d' w' al hp
    have noEnd : ∀ d1 w1, ((G.length, sp w'), (d1, w1)) ∉ done := fun d1 w1 h => (I.dgood _ _ _ h).2.2 ⟨rfl, hp⟩
    by_cases c1 : Bef f n d' w'.length
    · exact Be.of_time (by rw [g5]; exact c1)
    · have hv := I.reach N (D := f) (M := n) (fun st d0 w0 h1 h2 => I.have_done h2 h1) al G.length (Nat.le_refl _) (by rw [List.take_length]) c1
      obtain ⟨d0, w0, be, h | ⟨m, b0, fr, a0, hw0, hf0⟩⟩ := hv
      · exact (noEnd _ _ h).elim
      · have lt := I.later _ _ _ hw0
        have lm := (I.good _ _ _ _ _ _ _ hw0 hf0).2
        have tm := be.time
        dsimp only at tm
        have : d0 = f ∧ m = n := by unfold Bef at tm lt c1; omega
        obtain ⟨rfl, rfl⟩ := this
        have ef := mem_frontAt I.nd hw0
        rw [← ef] at hf0
        have tk : ((G.length, sp w'), (a0, w0)) ∈ takenOf done (frontAt W d0 m) := by
          refine List.mem_filter.2 ⟨hf0, decide_eq_true ?_⟩
          intro h
          obtain ⟨x, hx, e⟩ := List.mem_map.1 h
          obtain ⟨s, d1, w1⟩ := x
          dsimp only at e
          subst e
          exact noEnd _ _ hx
        have nl := hm _ _ _ tk ⟨rfl, hp⟩
        have el : El w w0 := El.of_not_less nl (by omega)
        refine Be.trans ?_ be
        rcases el with e | e
        · rw [e]; exact .rfl
        · exact .inr (.inr ⟨rfl, e⟩)
/-- none is left: no row keeps all -/
theorem MI.none (N : Net G sp nx) (I : MI G sp nx ok f n done [] ([] : Wait A)) : Nearest (fun w => ok (sp w) = true) G none := by
  intro d w al hp
  have hd : ∀ st d0 w0, Have done ([] : Wait A) st d0 w0 → ∃ d1 w1, (st, (d1, w1)) ∈ done ∧ Be (d1, w1) (d0, w0) := by
    rintro st d0 w0 ⟨d1, w1, be, h | ⟨m, b, fr, a, h, _⟩⟩
    · exact ⟨d1, w1, h, be⟩
    · cases h
  have hv := I.reach N (D := d) (M := w.length) (fun st d0 w0 _ h2 => hd _ _ _ h2) al G.length (Nat.le_refl _) (by rw [List.take_length]) (by unfold Bef; omega)
  obtain ⟨d1, w1, h, _⟩ := hd _ _ _ hv
  exact (I.dgood _ _ _ h).2.2 ⟨rfl, hp⟩
/-- what is taken becomes done -/
abbrev recs (f : Nat) (fr : Frt A) : List Rec := fr.map fun x => (x.1, (f, x.2.2))
theorem MI.take (I : MI G sp nx ok f n done [] W) (hn : ∀ x ∈ takenOf done (frontAt W f n), ¬ IsEnd G ok x.1) :
    MI G sp nx ok f (n + 1) (done ++ recs f (takenOf done (frontAt W f n))) (recs f (takenOf done (frontAt W f n))) (adel W (f, n)) := by
  have tgood : ∀ st d w, (st, (d, w)) ∈ recs f (takenOf done (frontAt W f n)) → Fair G sp st d w ∧ d = f ∧ w.length = n ∧ ¬ IsEnd G ok st ∧ st ∉ akeys done := by
    intro st d w h
    obtain ⟨x, hx, e⟩ := List.mem_map.1 h
    obtain ⟨s, a, w'⟩ := x
    cases e
    have hx' := List.mem_filter.1 hx
    obtain ⟨b, hb⟩ := frontAt_mem hx'.1
    have g := I.good _ _ _ _ _ _ _ hb hx'.1
    exact ⟨g.1, rfl, g.2, hn _ hx, of_decide_eq_true hx'.2⟩
  have hv : ∀ st d w, Have done W st d w → Have (done ++ recs f (takenOf done (frontAt W f n))) (adel W (f, n)) st d w := by
    rintro st d w ⟨d0, w0, be, h | ⟨m, b, fr, a, hw, hf⟩⟩
    · exact ⟨d0, w0, be, .inl (List.mem_append.2 (.inl h))⟩
    · by_cases q : (d0, m) = (f, n)
      · cases q
        have ef := mem_frontAt I.nd hw
        have lm := (I.good _ _ _ _ _ _ _ hw hf).2
        rw [← ef] at hf
        by_cases c : st ∈ akeys done
        · obtain ⟨x, hx, e⟩ := List.mem_map.1 c
          obtain ⟨s, d1, w1⟩ := x
          dsimp only at e
          subst e
          have bf := (I.dgood _ _ _ hx).2.1
          exact ⟨d1, w1, Be.trans (Be.of_time (by rw [lm]; exact bf)) be, .inl (List.mem_append.2 (.inl hx))⟩
        · exact ⟨_, w0, be, .inl (List.mem_append.2 (.inr (List.mem_map.2 ⟨(st, (a, w0)), List.mem_filter.2 ⟨hf, decide_eq_true c⟩, rfl⟩)))⟩
      · exact ⟨d0, w0, be, .inr ⟨m, b, fr, a, mem_adel.2 ⟨hw, q⟩, hf⟩⟩
  refine ⟨adel_nodup I.nd, fun k b fr h => I.ndf k b fr (mem_adel.1 h).1, fun d m b fr st a w h => I.good _ _ _ _ _ _ _ (mem_adel.1 h).1, ?_, fun d m y h => I.klen d m y (mem_adel.1 h).1, ?_, ?_, ?_, hv _ _ _ I.strt, ?_⟩
  · intro d m y h
    obtain ⟨h1, h2⟩ := mem_adel.1 h
    have := I.later _ _ _ h1
    have ne : ¬ (d = f ∧ m = n) := fun e => h2 (by rw [e.1, e.2])
    unfold Bef at this ⊢
    omega
  · intro st d w h
    rcases List.mem_append.1 h with h | h
    · obtain ⟨a, b, c⟩ := I.dgood _ _ _ h
      refine ⟨a, ?_, c⟩
      unfold Bef at b ⊢; omega
    · obtain ⟨a, b, c, e, _⟩ := tgood _ _ _ h
      refine ⟨a, ?_, e⟩
      unfold Bef; omega
  · show ((done ++ recs f (takenOf done (frontAt W f n))).map fun x => x.1).Nodup
    rw [List.map_append, List.nodup_append]
    refine ⟨I.ndd, ?_, ?_⟩
    · rw [List.map_map]
      have := I.front_nodup f n
      exact this.sublist (List.filter_sublist.map _)
    · intro x hx y hy e
      obtain ⟨z, hz, rfl⟩ := List.mem_map.1 hy
      obtain ⟨s, d, w⟩ := z
      exact (tgood _ _ _ hz).2.2.2.2 (by have e' : x = s := e; rw [← e']; exact hx)
  · intro st d w h1 h2 m hm
    rcases List.mem_append.1 h1 with h | h
    · exact hv _ _ _ (I.movd st d w h (by simp) m hm)
    · exact (h2 h).elim
  · intro st d w h
    obtain ⟨a, b, c, e, _⟩ := tgood _ _ _ h
    exact ⟨List.mem_append.2 (.inr h), b, by omega⟩
/-- a round is over -/
theorem MI.round (I : MI G sp nx ok f (G.length + f + 1) done [] W) : MI G sp nx ok (f + 1) 0 done [] W := by
  refine ⟨I.nd, I.ndf, I.good, ?_, I.klen, ?_, I.ndd, I.movd, I.strt, fun st d w h => by cases h⟩
  · intro d m y h
    have h1 := I.later _ _ _ h
    have h2 := I.klen _ _ _ h
    unfold Bef at h1 ⊢
    omega
  · intro st d w h
    obtain ⟨a, b, c⟩ := I.dgood _ _ _ h
    refine ⟨a, ?_, c⟩
    unfold Bef at b ⊢; omega
/-- at the beginning -/
theorem MI.start (N : Net G sp nx) (b a : A) : MI G sp nx ok 0 0 [] [] (putW [] 0 (0, 0) b a []) := by
  have e : putW ([] : Wait A) 0 (0, 0) b a [] = [((0, 0), (b, [((0, 0), (a, []))]))] := rfl
  rw [e]
  refine ⟨by simp, ?_, ?_, ?_, ?_, (fun st d w h => by cases h), by simp, (fun st d w h => by cases h), ?_, (fun st d w h => by cases h)⟩
  · intro k b' fr h; cases List.mem_singleton.1 h; simp
  · intro d m b' fr st a' w h h'
    cases List.mem_singleton.1 h
    cases List.mem_singleton.1 h'
    exact ⟨⟨Nat.zero_le _, by rw [List.take_zero]; exact .nil, Row.nil, N.sp0⟩, rfl⟩
  · intro d m y h; cases List.mem_singleton.1 h; unfold Bef; omega
  · intro d m y h; cases List.mem_singleton.1 h; exact Nat.zero_le _
  · exact ⟨0, [], .rfl, .inr ⟨0, b, _, a, List.mem_singleton.2 rfl, List.mem_singleton.2 rfl⟩⟩

/-! ### how many -/
def Near (W : Wait A) (t : Nat) : Prop := ∀ (d m : Nat) (y : A × Frt A), ((d, m), y) ∈ W → d ≤ t
theorem Near.mono {t u : Nat} (h : Near W t) (l : t ≤ u) : Near W u := fun d m y q => Nat.le_trans (h d m y q) l
theorem Near.del {t : Nat} (h : Near W t) (k : Nat × Nat) : Near (adel W k) t := fun d m y q => h d m y (mem_adel.1 q).1
theorem Near.puts {t : Nat} {ms : List Rec} {W' : Wait A} (P : PutsTo W ms W') : Near W t → (∀ m ∈ ms, m.2.1 ≤ t) → Near W' t := by
  induction P with
  | nil W => intro h _; exact h
  | @cons W m ms W' b a _ ih =>
    intro h hm
    refine ih ?_ fun x hx => hm x (List.mem_cons_of_mem _ hx)
    obtain ⟨b', e⟩ := putW_eq W m.2.1 m.1 b a m.2.2
    rw [e]
    intro d n y q
    rcases mem_aput q with q | q
    · cases q; exact hm m List.mem_cons_self
    · exact h d n y q.1
theorem moves_near {st : Stand} {d : Nat} {w : List Nat} : ∀ m ∈ moves G nx st d w, m.2.1 ≤ d + 1 := by
  intro m hm
  unfold moves at hm
  rcases List.mem_append.1 hm with h | h
  · cases e : G[st.1]? with
    | none => rw [e] at h; cases h
    | some c =>
      rw [e] at h
      rcases List.mem_cons.1 h with h | h
      · subst h; exact Nat.le_succ _
      · rw [List.mem_singleton.1 h]; exact Nat.le_refl _
  · obtain ⟨c, hc, rfl⟩ := List.mem_map.1 h
    exact Nat.le_refl _
def stands (k N : Nat) : List Stand := (List.range (k + 1)).flatMap fun i => (List.range N).map fun j => (i, j)
theorem grid_len (k N : Nat) : ∀ m, ((List.range m).flatMap fun i => (List.range N).map fun j => (k + i, j)).length = m * N := by
  intro m
  induction m with
  | zero => simp
  | succ m ih =>
    rw [List.range_succ, List.flatMap_append, List.length_append, ih]
    simp [Nat.succ_mul]
theorem stands_len (k N : Nat) : (stands k N).length = (k + 1) * N := by
  have := grid_len 0 N (k + 1)
  simp only [Nat.zero_add] at this
  exact this
theorem good_stand {N : Nat} (hN : ∀ w, Row w → sp w < N) {st : Stand} {d : Nat} {w : List Nat} (h : Fair G sp st d w) : st ∈ stands G.length N := by
  obtain ⟨g1, g2, g3, g4⟩ := h
  refine List.mem_flatMap.2 ⟨st.1, List.mem_range.2 (by omega), List.mem_map.2 ⟨st.2, List.mem_range.2 (by rw [← g4]; exact hN w g3), rfl⟩⟩
theorem MI.done_few {N : Nat} (I : MI G sp nx ok f n done open_ W) (hN : ∀ w, Row w → sp w < N) : done.length ≤ (G.length + 1) * N := by
  have := nodup_few (akeys done) (stands G.length N) I.ndd (by
    intro s hs
    obtain ⟨x, hx, rfl⟩ := List.mem_map.1 hs
    obtain ⟨s, d, w⟩ := x
    exact good_stand hN (I.dgood _ _ _ hx).1)
  rw [stands_len, List.length_map] at this
  exact this
theorem MI.front_few {N : Nat} (I : MI G sp nx ok f n done open_ W) (hN : ∀ w, Row w → sp w < N) (d m : Nat) : (frontAt W d m).length ≤ (G.length + 1) * N := by
  have := nodup_few (akeys (frontAt W d m)) (stands G.length N) (I.front_nodup d m) (by
    intro s hs
    obtain ⟨x, hx, rfl⟩ := List.mem_map.1 hs
    obtain ⟨b, hb⟩ := frontAt_mem hx
    obtain ⟨s, a, w⟩ := x
    exact good_stand hN (I.good _ _ _ _ _ _ _ hb hx).1)
  rw [stands_len, List.length_map] at this
  exact this
theorem MI.wait_few (I : MI G sp nx ok f n done open_ W) (hn : Near W (f + 1)) : W.length ≤ 2 * (G.length + f + 2) := by
  have := nodup_few (akeys W) ((List.range 2).flatMap fun i => (List.range (G.length + f + 2)).map fun j => (f + i, j)) I.nd (by
    intro k hk
    obtain ⟨x, hx, rfl⟩ := List.mem_map.1 hk
    obtain ⟨⟨d, m⟩, y⟩ := x
    have h1 := I.later _ _ _ hx
    have h2 := I.klen _ _ _ hx
    have h3 := hn _ _ _ hx
    unfold Bef at h1
    refine List.mem_flatMap.2 ⟨d - f, List.mem_range.2 (by omega), List.mem_map.2 ⟨m, List.mem_range.2 (by omega), ?_⟩⟩
    show (f + (d - f), m) = (d, m)
    congr 1; omega)
  rw [grid_len, List.length_map] at this
  omega
/-- at a round's end: nothing of it is left -/
theorem MI.left (I : MI G sp nx ok f (G.length + f + 1) done open_ W) (hn : Near W f) : W = [] := by
  cases e : W with
  | nil => rfl
  | cons x W' =>
    obtain ⟨⟨d, m⟩, y⟩ := x
    have hx : ((d, m), y) ∈ W := by rw [e]; exact List.mem_cons_self
    have h1 := I.later _ _ _ hx
    have h2 := I.klen _ _ _ hx
    have h3 := hn _ _ _ hx
    unfold Bef at h1
    omega
end
end Cr
end
section
set_option autoImplicit false
namespace Cr
/-- states that the rules may have -/
def Fit (rs : List Wf04.Rule) (xs : List Nat) : Prop := rs.length = xs.length ∧ ∀ (i : Nat) (r : Wf04.Rule) (x : Nat), rs[i]? = some r → xs[i]? = some x → x ≤ ptop r
def preadAll (rs : List Wf04.Rule) (xs : List Nat) (c : Nat) : List Nat := (rs.zip xs).map fun p => pread p.1 p.2 c
def pverdAll (rs : List Wf04.Rule) (xs : List Nat) : List Nat := (rs.zip xs).map fun p => pverd p.1 p.2
def pstart (rs : List Wf04.Rule) : List Nat := rs.map fun _ => 0
theorem fit_start (rs : List Wf04.Rule) : Fit rs (pstart rs) := by
  refine ⟨by simp [pstart], ?_⟩
  intro i r x h1 h2
  unfold pstart at h2
  rw [List.getElem?_map, h1] at h2
  cases h2
  exact Nat.zero_le _
theorem get_zipmap {g : Wf04.Rule → Nat → Nat} {rs : List Wf04.Rule} {xs : List Nat} {i : Nat} {y : Nat} (h : ((rs.zip xs).map fun p => g p.1 p.2)[i]? = some y) : ∃ r x, rs[i]? = some r ∧ xs[i]? = some x ∧ y = g r x := by
  rw [List.getElem?_map] at h
  cases e : (rs.zip xs)[i]? with
  | none => rw [e] at h; cases h
  | some p =>
    rw [e] at h
    obtain ⟨r, x⟩ := p
    have := List.getElem?_zip_eq_some.1 e
    exact ⟨r, x, this.1, this.2, (Option.some.inj h).symm⟩
theorem zipmap_len {g : Wf04.Rule → Nat → Nat} {rs : List Wf04.Rule} {xs : List Nat} (h : rs.length = xs.length) : ((rs.zip xs).map fun p => g p.1 p.2).length = rs.length := by
  rw [List.length_map, List.length_zip]; omega
theorem fit_read {rs : List Wf04.Rule} {xs : List Nat} (f : Fit rs xs) (c : Nat) : Fit rs (preadAll rs xs c) := by
  refine ⟨(zipmap_len (g := fun r x => pread r x c) f.1).symm, ?_⟩
  intro i r x h1 h2
  obtain ⟨r', x', e1, e2, rfl⟩ := get_zipmap (g := fun r x => pread r x c) h2
  rw [h1] at e1
  cases e1
  exact pread_top r (f.2 i r x' h1 e2) c
theorem take_succ_of {α : Type} {l : List α} {i : Nat} {x : α} (h : l[i]? = some x) : l.take (i + 1) = l.take i ++ [x] := by
  rw [List.take_add_one, h]; rfl
theorem map_get {α β : Type} {f : α → β} {l : List α} {i : Nat} {y : β} (h : (l.map f)[i]? = some y) : ∃ x, l[i]? = some x ∧ y = f x := by
  rw [List.getElem?_map] at h
  cases e : l[i]? with
  | none => rw [e] at h; cases h
  | some x => rw [e] at h; exact ⟨x, rfl, (Option.some.inj h).symm⟩
theorem zipmap_get {g : Wf04.Rule → Nat → Nat} {rs : List Wf04.Rule} {xs : List Nat} {i : Nat} {r : Wf04.Rule} {x : Nat} (h1 : rs[i]? = some r) (h2 : xs[i]? = some x) : ((rs.zip xs).map fun p => g p.1 p.2)[i]? = some (g r x) := by
  have e : (rs.zip xs)[i]? = some (r, x) := List.getElem?_zip_eq_some.2 ⟨h1, h2⟩
  rw [List.getElem?_map, e]; rfl
/-- the rules' states behind a row -/
abbrev prunAll (rs : List Wf04.Rule) (w : List Nat) : List Nat := reads (preadAll rs) (pstart rs) w
theorem pfit_run {rs : List Wf04.Rule} (w : List Nat) : Fit rs (prunAll rs w) := by
  refine snoc_ind (P := fun w => Fit rs (prunAll rs w)) (fit_start rs) ?_ w
  intro w c h
  show Fit rs (reads (preadAll rs) (pstart rs) (w ++ [c]))
  rw [reads_snoc]
  exact fit_read h c
theorem preadAll_map (g : Wf04.Rule → Nat) (c : Nat) : ∀ rs : List Wf04.Rule, preadAll rs (rs.map g) c = rs.map fun r => pread r (g r) c
  | [] => rfl
  | r :: rs => by
    have := preadAll_map g c rs
    unfold preadAll at this ⊢
    simp only [List.map_cons, List.zip_cons_cons, this]
theorem pverdAll_map (g : Wf04.Rule → Nat) : ∀ rs : List Wf04.Rule, pverdAll rs (rs.map g) = rs.map fun r => pverd r (g r)
  | [] => rfl
  | r :: rs => by
    have := pverdAll_map g rs
    unfold pverdAll at this ⊢
    simp only [List.map_cons, List.zip_cons_cons, this]
theorem prunAll_map (rs : List Wf04.Rule) (w : List Nat) : prunAll rs w = rs.map fun r => prun r 0 w := by
  refine snoc_ind (P := fun w => prunAll rs w = rs.map fun r => prun r 0 w) rfl ?_ w
  intro w c h
  show reads (preadAll rs) (pstart rs) (w ++ [c]) = _
  rw [reads_snoc, show reads (preadAll rs) (pstart rs) w = _ from h, preadAll_map]
  simp only [prun_snoc]
theorem pverd_run {rs : List Wf04.Rule} (v : ∀ r ∈ rs, Valid r) (w : List Nat) : pverdAll rs (prunAll rs w) = rs.map fun r => if r.holds w = false then 0 else if r.idle w = true then 2 else 1 := by
  rw [prunAll_map, pverdAll_map]
  exact List.map_congr_left fun r hr => pverd_is (v r hr) w
theorem ptop_le (r : Wf04.Rule) : ptop r ≤ 5 := by cases r <;> simp [ptop]
theorem fit_states {rs : List Wf04.Rule} {xs : List Nat} (f : Fit rs xs) : xs ∈ states rs.length := by
  have := states_mem xs ?_
  · rwa [← f.1] at this
  · intro x hx
    obtain ⟨i, hi, rfl⟩ := List.mem_iff_getElem.1 hx
    have lt : i < rs.length := by rw [f.1]; exact hi
    have := f.2 i rs[i] xs[i] (List.getElem?_eq_getElem lt) (List.getElem?_eq_getElem hi)
    have := ptop_le rs[i]
    omega
theorem keys_few {rs : List Wf04.Rule} (hl : rs.length ≤ 4) {R : Rows (List Nat)} (nd : (R.map fun x => x.1).Nodup) (at_ : ∀ x ∈ R, Row x.2 ∧ x.1 = prunAll rs x.2) : R.length ≤ 10000 := by
  have := nodup_few (R.map fun x => x.1) (states rs.length) nd (by
    intro s hs
    obtain ⟨x, hx, rfl⟩ := List.mem_map.1 hs
    obtain ⟨_, e⟩ := at_ x hx
    show x.1 ∈ _
    rw [e]; exact fit_states (pfit_run x.2))
  rw [List.length_map] at this
  exact Nat.le_trans this (states_few hl)

/-! ### which are broken -/
def brkOf (vs : List Nat) : List Nat := (List.range vs.length).filter fun i => decide (vs[i]? = some 0)
abbrev pbrk (rs : List Wf04.Rule) (s : List Nat) : List Nat := brkOf (pverdAll rs s)
theorem mem_brk {vs : List Nat} {i : Nat} : i ∈ brkOf vs ↔ vs[i]? = some 0 := by
  unfold brkOf
  rw [List.mem_filter, List.mem_range]
  constructor
  · intro h; exact of_decide_eq_true h.2
  · intro h; exact ⟨(List.getElem?_eq_some_iff.1 h).1, decide_eq_true h⟩
theorem brk_run {rs : List Wf04.Rule} (v : ∀ r ∈ rs, Valid r) {w : List Nat} {i : Nat} : i ∈ pbrk rs (prunAll rs w) ↔ ∃ r, rs[i]? = some r ∧ r.holds w = false := by
  rw [mem_brk, pverd_run v, List.getElem?_map]
  cases e : rs[i]? with
  | none => simp
  | some r =>
    rw [Option.map_some]
    constructor
    · intro h
      refine ⟨r, rfl, ?_⟩
      cases q : r.holds w with
      | false => rfl
      | true =>
        rw [q] at h
        simp at h
        split at h <;> cases h
    · rintro ⟨r', h, q⟩
      cases h
      rw [q]; simp
theorem brk_sorted (vs : List Nat) : (brkOf vs).Pairwise (· < ·) := List.pairwise_lt_range.filter _
theorem sorted_ext : ∀ {l m : List Nat}, l.Pairwise (· < ·) → m.Pairwise (· < ·) → (∀ i, i ∈ l ↔ i ∈ m) → l = m
  | [], [], _, _, _ => rfl
  | [], b :: m, _, _, h => by have := (h b).2 List.mem_cons_self; cases this
  | a :: l, [], _, _, h => by have := (h a).1 List.mem_cons_self; cases this
  | a :: l, b :: m, hl, hm, h => by
    have hl' := List.pairwise_cons.1 hl
    have hm' := List.pairwise_cons.1 hm
    have ab : a = b := by
      rcases List.mem_cons.1 ((h a).1 List.mem_cons_self) with e | e
      · exact e
      · rcases List.mem_cons.1 ((h b).2 List.mem_cons_self) with e' | e'
        · exact e'.symm
        · have h1 := hm'.1 a e
          have h2 := hl'.1 b e'
          omega
    subst ab
    rw [sorted_ext hl'.2 hm'.2 fun i => ?_]
    constructor
    · intro hi
      rcases List.mem_cons.1 ((h i).1 (List.mem_cons_of_mem _ hi)) with e | e
      · have := hl'.1 i hi; omega
      · exact e
    · intro hi
      rcases List.mem_cons.1 ((h i).2 (List.mem_cons_of_mem _ hi)) with e | e
      · have := hm'.1 i hi; omega
      · exact e
theorem brk_nil {rs : List Wf04.Rule} (v : ∀ r ∈ rs, Valid r) {w : List Nat} : pbrk rs (prunAll rs w) = [] ↔ Keeps rs w := by
  rw [keeps_mem]
  constructor
  · intro h r hr
    obtain ⟨i, hi, e⟩ := List.mem_iff_getElem.1 hr
    cases q : r.holds w with
    | true => rfl
    | false =>
      have : i ∈ pbrk rs (prunAll rs w) := (brk_run v).2 ⟨r, by rw [List.getElem?_eq_getElem hi, e], q⟩
      rw [h] at this; cases this
  · intro h
    refine List.eq_nil_iff_forall_not_mem.2 fun i hi => ?_
    obtain ⟨r, hr, q⟩ := (brk_run v).1 hi
    rw [h r (List.mem_of_getElem? hr)] at q; cases q
theorem mem_others {rs : List Wf04.Rule} {i : Nat} {r : Wf04.Rule} : r ∈ rs.take i ++ rs.drop (i + 1) ↔ ∃ j, j ≠ i ∧ rs[j]? = some r := by
  rw [List.mem_append]
  constructor
  · rintro (h | h)
    · obtain ⟨j, hj⟩ := List.mem_iff_getElem?.1 h
      rw [List.getElem?_take] at hj
      split at hj
      · exact ⟨j, by omega, hj⟩
      · cases hj
    · obtain ⟨j, hj⟩ := List.mem_iff_getElem?.1 h
      rw [List.getElem?_drop] at hj
      exact ⟨i + 1 + j, by omega, hj⟩
  · rintro ⟨j, ne, hj⟩
    rcases Nat.lt_or_ge j i with q | q
    · left
      refine List.mem_iff_getElem?.2 ⟨j, ?_⟩
      rw [List.getElem?_take, if_pos q]; exact hj
    · right
      refine List.mem_iff_getElem?.2 ⟨j - (i + 1), ?_⟩
      rw [List.getElem?_drop, show i + 1 + (j - (i + 1)) = j by omega]; exact hj
theorem brk_one {rs : List Wf04.Rule} (v : ∀ r ∈ rs, Valid r) {i : Nat} {w : List Nat} : pbrk rs (prunAll rs w) = [i] ↔ Breaks rs i w := by
  constructor
  · intro h
    have h1 : i ∈ pbrk rs (prunAll rs w) := by rw [h]; exact List.mem_singleton.2 rfl
    obtain ⟨r, hr, q⟩ := (brk_run v).1 h1
    refine ⟨r, hr, q, ?_⟩
    rw [keeps_mem]
    intro r' hr'
    obtain ⟨j, ne, hj⟩ := mem_others.1 hr'
    cases q' : r'.holds w with
    | true => rfl
    | false =>
      have : j ∈ pbrk rs (prunAll rs w) := (brk_run v).2 ⟨r', hj, q'⟩
      rw [h] at this
      exact (ne (List.mem_singleton.1 this)).elim
  · rintro ⟨r, hr, q, h⟩
    refine sorted_ext (brk_sorted _) (by simp) fun j => ?_
    rw [List.mem_singleton, brk_run v]
    constructor
    · rintro ⟨r', hj, q'⟩
      by_cases e : j = i
      · exact e
      · have := keeps_mem.1 h r' (mem_others.2 ⟨j, e, hj⟩)
        rw [q'] at this; cases this
    · rintro rfl; exact ⟨r, hr, q⟩

/-! ### what the spots tell -/
section
variable {rs : List Wf04.Rule} {R : Rows (List Nat)} {F : List (List Nat)}
abbrev Spots (rs : List Wf04.Rule) (R : Rows (List Nat)) (F : List (List Nat)) : Prop := Spotted (preadAll rs) (pstart rs) R F
theorem spots_short (v : ∀ r ∈ rs, Valid r) (hl : rs.length ≤ 4) {o : Option (List Nat)} (h : Earliest (fun w => decide (pbrk rs (prunAll rs w) = []) = true) o) : o = Wf04.shortest rs :=
  Earliest.uniq (fun w _ => by rw [decide_eq_true_eq, brk_nil v]) h (shortest_is v hl)
theorem spots_breaks (v : ∀ r ∈ rs, Valid r) (hl : rs.length ≤ 4) {i : Nat} {o : Option (List Nat)} (h : Earliest (fun w => decide (pbrk rs (prunAll rs w) = [i]) = true) o) : o = Wf04.breaks rs i :=
  Earliest.uniq (fun w _ => by rw [decide_eq_true_eq, brk_one v]) h (breaks_is v hl i)
/-- some row keeps all the chosen -/
def canKeep (rs : List Wf04.Rule) (R : Rows (List Nat)) (chosen : List Nat) : Bool := R.any fun x => !chosen.any fun i => (pbrk rs x.1).contains i
theorem canKeep_is (Z : Spots rs R F) (v : ∀ r ∈ rs, Valid r) {s : List Nat} (hs : s.length ≤ 4) : (Wf04.shortest (Wf04.some_ rs s)).isNone = !canKeep rs R s := by
  have u := unsat_iff v hs
  have key : canKeep rs R s = true ↔ ∃ w, Row w ∧ Keeps (Wf04.some_ rs s) w := by
    unfold canKeep
    rw [List.any_eq_true]
    have one : ∀ w, ((!s.any fun i => (pbrk rs (prunAll rs w)).contains i) = true) ↔ Keeps (Wf04.some_ rs s) w := by
      intro w
      rw [keeps_some, Bool.not_eq_true', List.any_eq_false]
      constructor
      · intro h i hi r hr
        cases q : r.holds w with
        | true => rfl
        | false =>
          have := h i hi
          have m : i ∈ pbrk rs (prunAll rs w) := (brk_run v).2 ⟨r, hr, q⟩
          exact (this (List.contains_iff_mem.2 m)).elim
      · intro h i hi e
        obtain ⟨r, hr, q⟩ := (brk_run v).1 (List.contains_iff_mem.1 e)
        rw [h i hi r hr] at q; cases q
    constructor
    · rintro ⟨x, hx, h⟩
      obtain ⟨rx, ex⟩ := Z.at_ x hx
      rw [ex] at h
      exact ⟨x.2, rx, (one x.2).1 h⟩
    · rintro ⟨w, rw_, k⟩
      obtain ⟨p, hp, _⟩ := Z.all w rw_
      exact ⟨_, hp, (one w).2 k⟩
  show unsat rs s = _
  cases c : canKeep rs R s with
  | true =>
    obtain ⟨w, rw_, k⟩ := key.1 c
    cases q : unsat rs s with
    | false => rfl
    | true => exact (u.1 q w rw_ k).elim
  | false =>
    refine u.2 fun w rw_ k => ?_
    rw [key.2 ⟨w, rw_, k⟩] at c; cases c
/-- the clashes as the program looks for them -/
def clashStep (rs : List Wf04.Rule) (R : Rows (List Nat)) (m : List (List Nat)) (s : List Nat) : List (List Nat) :=
  if (!(m.any fun k => k.all fun i => s.contains i) && !canKeep rs R s) = true then m ++ [s] else m
theorem clash_same (Z : Spots rs R F) (v : ∀ r ∈ rs, Valid r) (hl : rs.length ≤ 4) : (Wf04.sets rs.length).foldl (clashStep rs R) [] = Wf04.clashes rs := by
  unfold Wf04.clashes
  have ok := (sets_ok hl).1
  have few : ∀ s ∈ Wf04.sets rs.length, s.length ≤ 4 := fun s hs => set_few ok hs
  generalize Wf04.sets rs.length = L at few
  have key : ∀ (L : List (List Nat)) (m : List (List Nat)), (∀ s ∈ L, s.length ≤ 4) → L.foldl (clashStep rs R) m = L.foldl (fun m s => if (m.any fun k => Wf04.within k s) = true then m else if (Wf04.shortest (Wf04.some_ rs s)).isNone = true then m ++ [s] else m) m := by
    intro L
    induction L with
    | nil => intro m _; rfl
    | cons s L ih =>
      intro m h
      rw [List.foldl_cons, List.foldl_cons, ih _ fun x hx => h x (List.mem_cons_of_mem _ hx)]
      congr 1
      unfold clashStep
      rw [canKeep_is Z v (h s List.mem_cons_self)]
      have e : (m.any fun k => k.all fun i => s.contains i) = m.any fun k => Wf04.within k s := rfl
      rw [e]
      cases m.any fun k => Wf04.within k s <;> cases canKeep rs R s <;> rfl
  exact key L [] few
/-- the row at a spot keeps all -/
def okAt (rs : List Wf04.Rule) (R : Rows (List Nat)) (i : Nat) : Bool := match R[i]? with
  | none => false
  | some x => decide (pbrk rs x.1 = [])
theorem okAt_is {i : Nat} {x : List Nat × List Nat} (h : R[i]? = some x) : okAt rs R i = decide (pbrk rs x.1 = []) := by
  unfold okAt; rw [h]
theorem okAt_spot (Z : Spots rs R F) (v : ∀ r ∈ rs, Valid r) {w : List Nat} (rw_ : Row w) : okAt rs R (spot (preadAll rs) (pstart rs) R w) = true ↔ Keeps rs w := by
  obtain ⟨p, hp⟩ := Z.get rw_
  rw [okAt_is hp, decide_eq_true_eq, ← brk_nil v]
theorem spots_count (Z : Spots rs R F) (v : ∀ r ∈ rs, Valid r) (n : Nat) : (((wnexts F n).filter fun x => okAt rs R x.1).map fun x => x.2).sum = Wf04.count rs n := by
  rw [count_many v, Z.count (f := fun s => decide (pbrk rs s = [])) (fun i x h => okAt_is h) n]
  have : (fun w => decide (pbrk rs (reads (preadAll rs) (pstart rs) w) = [])) = fun w => rs.all fun r => r.holds w := by
    funext w
    have := brk_nil v (w := w)
    unfold Keeps at this
    cases e : rs.all fun r => r.holds w with
    | true => exact decide_eq_true (this.2 e)
    | false => exact decide_eq_false fun h => by rw [this.1 h] at e; cases e
  rw [this]
def nxt (F : List (List Nat)) (i c : Nat) : Nat := (F.getD i []).getD c 0
theorem spots_net (Z : Spots rs R F) {G : List Nat} (hG : Row G) : Net G (spot (preadAll rs) (pstart rs) R) (nxt F) := by
  refine ⟨hG, Z.spot_nil, fun w c rw_ hc => ?_⟩
  obtain ⟨l, h1, h2⟩ := Z.spot_snoc rw_ hc
  unfold nxt
  rw [List.getD_eq_getElem?_getD (l := F), h1]
  show _ = l.getD c 0
  rw [List.getD_eq_getElem?_getD, h2]; rfl
theorem spots_nearest (Z : Spots rs R F) (v : ∀ r ∈ rs, Valid r) (hl : rs.length ≤ 4) {G : List Nat} (hG : Row G) (h8 : G.length ≤ 8) {o : Option Wf04.Way} (h : Nearest (fun w => okAt rs R (spot (preadAll rs) (pstart rs) R w) = true) G o) : o = Wf04.nearest rs G :=
  Nearest.uniq (fun _ _ al => okAt_spot Z v (al.row hG)) h (nearest_is v hl h8)
theorem spots_few (Z : Spots rs R F) (hl : rs.length ≤ 4) : R.length ≤ 10000 := keys_few hl Z.nodup Z.at_
end

/-! ### the sets in order -/
def firstBehind (c : List Nat) : Nat := match c.getLast? with
  | none => 0
  | some x => x + 1
def larger (n : Nat) (c : List Nat) : List (List Nat) := (List.range (n - firstBehind c)).map fun j => c ++ [firstBehind c + j]
def layerOf (n : Nat) : Nat → List (List Nat)
  | 0 => [[]]
  | k + 1 => (layerOf n k).flatMap (larger n)
theorem layer_end {n : Nat} (h : n ≤ 4) {k : Nat} (hk : k ≤ n + 1) : (layerOf n k = [] ↔ k = n + 1) := by
  have : ∀ n, n < 5 → ∀ k, k < 6 → k ≤ n + 1 → (layerOf n k = [] ↔ k = n + 1) := by decide +kernel
  exact this n (by omega) k (by omega) hk
theorem layers_sets {n : Nat} (h : n ≤ 4) : (List.range (n + 1)).flatMap (layerOf n) = Wf04.sets n := by
  have : ∀ n, n < 5 → (List.range (n + 1)).flatMap (layerOf n) = Wf04.sets n := by decide +kernel
  exact this n (by omega)
theorem layer_small {n : Nat} (h : n ≤ 4) {k : Nat} (hk : k ≤ n + 1) : (layerOf n k).length ≤ 16 ∧ (∀ c ∈ layerOf n k, c.length ≤ 5 ∧ firstBehind c ≤ n ∧ ∀ x ∈ c, x < n) ∧ ((List.range k).flatMap (layerOf n)).length ≤ 16 := by
  have : ∀ n, n < 5 → ∀ k, k < 6 → k ≤ n + 1 → (decide ((layerOf n k).length ≤ 16) && ((layerOf n k).all fun c => decide (c.length ≤ 5) && decide (firstBehind c ≤ n) && c.all fun x => decide (x < n)) && decide (((List.range k).flatMap (layerOf n)).length ≤ 16)) = true := by decide +kernel
  have := this n (by omega) k (by omega) hk
  rw [Bool.and_eq_true, Bool.and_eq_true] at this
  refine ⟨of_decide_eq_true this.1.1, fun c hc => ?_, of_decide_eq_true this.2⟩
  have := List.all_eq_true.1 this.1.2 c hc
  rw [Bool.and_eq_true, Bool.and_eq_true] at this
  exact ⟨of_decide_eq_true this.1.1, of_decide_eq_true this.1.2, fun x hx => of_decide_eq_true (List.all_eq_true.1 this.2 x hx)⟩
end Cr
end
section
set_option linter.all false
namespace Cr
open Wf04
/-! ### what is due, call by call -/
def nextR (rs : List Rule) (k : Call) : List Rule := (step ⟨rs⟩ k).1.rules
def ansR (rs : List Rule) (k : Call) : List Int := Wf04Neutral.out (step ⟨rs⟩ k).2
abbrev asInts (ns : List Nat) : List Int := ns.map fun n : Nat => (n : Int)
/-- the call k stands at i, the next one at j -/
inductive CallAt (ns : List Nat) (i : Nat) : Call → Nat → Prop
  | begins : ns[i]? = some 0 → CallAt ns i .begins (i + 1)
  | rule {m : Nat} : ns[i]? = some 1 → ns[i + 1]? = some m → i + 2 + m ≤ ns.length → m ≤ 20 → CallAt ns i (.rule ((ns.drop (i + 2)).take m)) (i + 2 + m)
  | drop {x : Nat} : ns[i]? = some 2 → ns[i + 1]? = some x → CallAt ns i (.drop x) (i + 2)
  | judge {m : Nat} : ns[i]? = some 3 → ns[i + 1]? = some m → i + 2 + m ≤ ns.length → m ≤ 20 → CallAt ns i (.judge ((ns.drop (i + 2)).take m)) (i + 2 + m)
  | shortest : ns[i]? = some 4 → CallAt ns i .shortest (i + 1)
  | count {x : Nat} : ns[i]? = some 5 → ns[i + 1]? = some x → CallAt ns i (.count x) (i + 2)
  | clashes : ns[i]? = some 6 → CallAt ns i .clashes (i + 1)
  | spare : ns[i]? = some 7 → CallAt ns i .spare (i + 1)
  | breaks {x : Nat} : ns[i]? = some 8 → ns[i + 1]? = some x → CallAt ns i (.breaks x) (i + 2)
  | nearest {m : Nat} : ns[i]? = some 9 → ns[i + 1]? = some m → i + 2 + m ≤ ns.length → m ≤ 20 → CallAt ns i (.nearest ((ns.drop (i + 2)).take m)) (i + 2 + m)

theorem nats_ints (ns : List Nat) : Wf04Neutral.nats (asInts ns) = ns := by
  unfold Wf04Neutral.nats
  rw [List.map_map]
  exact List.map_id' ns
theorem drop_ints (ns : List Nat) (i : Nat) : (asInts ns).drop i = asInts (ns.drop i) := List.map_drop.symm
theorem take_ints (ns : List Nat) (i : Nat) : (asInts ns).take i = asInts (ns.take i) := List.map_take.symm

/-- how the spec's calls are read off -/
theorem shape0 {p : Int} {r c : List Int} {cs : List (List Int)} {t : List Int} (hp : PyWf04.shape p = some (0, 0)) (h : PyFlat.call PyWf04.shape (p :: r) = some (cs, t)) : cs = [[p]] ∧ t = r := by
  unfold PyFlat.call at h
  dsimp only at h
  rw [hp] at h
  dsimp only at h
  rw [if_neg (Nat.not_lt_zero _)] at h
  simp only [PyFlat.rows, List.drop_zero, List.take_zero] at h
  cases h
  exact ⟨rfl, rfl⟩
theorem shape1 {p : Int} {r : List Int} {cs : List (List Int)} {t : List Int} (hp : PyWf04.shape p = some (1, 0)) (h : PyFlat.call PyWf04.shape (p :: r) = some (cs, t)) : ∃ x, r = x :: t ∧ cs = [[p, x]] := by
  unfold PyFlat.call at h
  dsimp only at h
  rw [hp] at h
  dsimp only at h
  cases r with
  | nil => simp at h
  | cons x r =>
    rw [if_neg (by simp)] at h
    simp only [PyFlat.rows, List.drop_succ_cons, List.drop_zero, List.take_succ_cons, List.take_zero] at h
    cases h
    exact ⟨x, rfl, rfl⟩
theorem shapeR {p : Int} {r : List Int} {cs : List (List Int)} {t : List Int} (hp : PyWf04.shape p = some (0, 1)) (h : PyFlat.call PyWf04.shape (p :: r) = some (cs, t)) : ∃ m r', r = m :: r' ∧ 0 ≤ m ∧ m.toNat ≤ r'.length ∧ cs = [[p], r'.take m.toNat] ∧ t = r'.drop m.toNat := by
  unfold PyFlat.call at h
  dsimp only at h
  rw [hp] at h
  dsimp only at h
  rw [if_neg (Nat.not_lt_zero _)] at h
  simp only [PyFlat.rows, List.drop_zero, List.take_zero] at h
  cases r with
  | nil => simp [PyFlat.row] at h
  | cons m r' =>
    simp only [PyFlat.row] at h
    by_cases c : 0 ≤ m ∧ m.toNat ≤ r'.length
    · rw [if_pos c] at h
      dsimp only at h
      cases h
      exact ⟨m, r', rfl, c.1, c.2, rfl, rfl⟩
    · rw [if_neg c] at h; cases h

/-- at a place the list goes on with a call -/
theorem call_at {ns : List Nat} {i : Nat} {cs : List (List Int)} {t : List Int} (hi : i < ns.length) (h : PyFlat.call PyWf04.shape (asInts (ns.drop i)) = some (cs, t)) (ha : Wf04Neutral.asked1 (PyWf04.whole cs) = true) :
    ∃ k j, CallAt ns i k j ∧ Wf04Neutral.callOf (PyWf04.whole cs) = some k ∧ t = asInts (ns.drop j) := by
  have e0 : ns.drop i = ns[i] :: ns.drop (i + 1) := List.drop_eq_getElem_cons hi
  have g0 : ns[i]? = some ns[i] := List.getElem?_eq_getElem hi
  rw [e0] at h
  generalize ns[i] = p at h g0
  change PyFlat.call PyWf04.shape ((p : Int) :: asInts (ns.drop (i + 1))) = some (cs, t) at h
  have one : ∀ x : Int, asInts (ns.drop (i + 1)) = x :: t → ∃ y : Nat, x = (y : Int) ∧ ns[i + 1]? = some y ∧ t = asInts (ns.drop (i + 2)) := by
    intro x e
    cases e1 : ns.drop (i + 1) with
    | nil => rw [e1] at e; cases e
    | cons y r =>
      rw [e1] at e
      have lt : i + 1 < ns.length := by
        rcases Nat.lt_or_ge (i + 1) ns.length with h | h
        · exact h
        · rw [List.drop_of_length_le h] at e1; cases e1
      rw [List.drop_eq_getElem_cons lt] at e1
      cases e1
      refine ⟨ns[i + 1], (List.cons.inj e).1.symm, List.getElem?_eq_getElem lt, (List.cons.inj e).2.symm⟩
  have row : ∀ (m : Int) (r' : List Int), asInts (ns.drop (i + 1)) = m :: r' → 0 ≤ m → m.toNat ≤ r'.length → (r'.take m.toNat).length ≤ 20 → t = r'.drop m.toNat → ∃ y : Nat, m = (y : Int) ∧ ns[i + 1]? = some y ∧ i + 2 + y ≤ ns.length ∧ y ≤ 20 ∧ r'.take m.toNat = asInts ((ns.drop (i + 2)).take y) ∧ t = asInts (ns.drop (i + 2 + y)) := by
    intro m r' e hm hl h20 ht
    cases e1 : ns.drop (i + 1) with
    | nil => rw [e1] at e; cases e
    | cons y r =>
      rw [e1] at e
      have lt : i + 1 < ns.length := by
        rcases Nat.lt_or_ge (i + 1) ns.length with h | h
        · exact h
        · rw [List.drop_of_length_le h] at e1; cases e1
      rw [List.drop_eq_getElem_cons lt] at e1
      cases e1
      have em : m = (ns[i + 1] : Int) := (List.cons.inj e).1.symm
      have er : r' = asInts (ns.drop (i + 2)) := (List.cons.inj e).2.symm
      subst em er
      rw [Int.toNat_natCast, List.length_map, List.length_drop] at hl
      rw [Int.toNat_natCast, take_ints, List.length_map, List.length_take, List.length_drop] at h20
      refine ⟨ns[i + 1], rfl, List.getElem?_eq_getElem lt, by omega, by omega, ?_, ?_⟩
      · rw [Int.toNat_natCast, take_ints]
      · rw [ht, Int.toNat_natCast, drop_ints, List.drop_drop]
  by_cases p0 : p = 0
  · subst p0
    obtain ⟨rfl, rfl⟩ := shape0 (c := []) rfl h
    exact ⟨_, _, .begins g0, rfl, rfl⟩
  by_cases p1 : p = 1
  · subst p1
    obtain ⟨m, r', e, hm, hl, rfl, ht⟩ := shapeR rfl h
    have h20 : (r'.take m.toNat).length ≤ 20 := by
      have : Wf04Neutral.row32 (r'.take m.toNat) 20 = true := ha
      unfold Wf04Neutral.row32 at this
      rw [Bool.and_eq_true] at this
      exact of_decide_eq_true this.1
    obtain ⟨y, em, gy, hy, hy20, e1, e2⟩ := row m r' e hm hl h20 ht
    refine ⟨_, _, .rule g0 gy hy hy20, ?_, e2⟩
    show some (Call.rule (Wf04Neutral.nats (r'.take m.toNat))) = _
    rw [e1, nats_ints]
  by_cases p2 : p = 2
  · subst p2
    obtain ⟨x, e, rfl⟩ := shape1 rfl h
    obtain ⟨y, rfl, gy, et⟩ := one x e
    exact ⟨_, _, .drop g0 gy, rfl, et⟩
  by_cases p3 : p = 3
  · subst p3
    obtain ⟨m, r', e, hm, hl, rfl, ht⟩ := shapeR rfl h
    have h20 : (r'.take m.toNat).length ≤ 20 := by
      have : Wf04Neutral.row32 (r'.take m.toNat) 20 = true := ha
      unfold Wf04Neutral.row32 at this
      rw [Bool.and_eq_true] at this
      exact of_decide_eq_true this.1
    obtain ⟨y, em, gy, hy, hy20, e1, e2⟩ := row m r' e hm hl h20 ht
    refine ⟨_, _, .judge g0 gy hy hy20, ?_, e2⟩
    show some (Call.judge (Wf04Neutral.nats (r'.take m.toNat))) = _
    rw [e1, nats_ints]
  by_cases p4 : p = 4
  · subst p4
    obtain ⟨rfl, rfl⟩ := shape0 (c := []) rfl h
    exact ⟨_, _, .shortest g0, rfl, rfl⟩
  by_cases p5 : p = 5
  · subst p5
    obtain ⟨x, e, rfl⟩ := shape1 rfl h
    obtain ⟨y, rfl, gy, et⟩ := one x e
    exact ⟨_, _, .count g0 gy, rfl, et⟩
  by_cases p6 : p = 6
  · subst p6
    obtain ⟨rfl, rfl⟩ := shape0 (c := []) rfl h
    exact ⟨_, _, .clashes g0, rfl, rfl⟩
  by_cases p7 : p = 7
  · subst p7
    obtain ⟨rfl, rfl⟩ := shape0 (c := []) rfl h
    exact ⟨_, _, .spare g0, rfl, rfl⟩
  by_cases p8 : p = 8
  · subst p8
    obtain ⟨x, e, rfl⟩ := shape1 rfl h
    obtain ⟨y, rfl, gy, et⟩ := one x e
    exact ⟨_, _, .breaks g0 gy, rfl, et⟩
  by_cases p9 : p = 9
  · subst p9
    obtain ⟨m, r', e, hm, hl, rfl, ht⟩ := shapeR rfl h
    have h20 : (r'.take m.toNat).length ≤ 20 := by
      have : Wf04Neutral.row32 (r'.take m.toNat) 20 = true := ha
      unfold Wf04Neutral.row32 at this
      rw [Bool.and_eq_true] at this
      exact of_decide_eq_true this.1
    obtain ⟨y, em, gy, hy, hy20, e1, e2⟩ := row m r' e hm hl h20 ht
    refine ⟨_, _, .nearest g0 gy hy hy20, ?_, e2⟩
    show some (Call.nearest (Wf04Neutral.nats (r'.take m.toNat))) = _
    rw [e1, nats_ints]
  · exfalso
    unfold PyFlat.call at h
    dsimp only at h
    have : PyWf04.shape (p : Int) = none := by
      unfold PyWf04.shape
      repeat rw [if_neg (by omega)]
    rw [this] at h
    cases h
theorem CallAt.lt {ns : List Nat} {i : Nat} {k : Call} {j : Nat} (h : CallAt ns i k j) : i < j := by
  cases h <;> omega

/-! ### the list from a place on -/
/-- what is still due from the place i, with the rules rs: out -/
def Due (ns : List Nat) (i : Nat) (rs : List Rule) (out : List Int) : Prop :=
  ∃ f cs, PyFlat.calls PyWf04.shape f (asInts (ns.drop i)) = some cs ∧ (∀ c ∈ cs, Wf04Neutral.asked1 (PyWf04.whole c) = true) ∧ out = PyFlat.told (PyFlat.played Wf04Neutral.step ⟨rs⟩ (cs.map PyWf04.whole))
theorem due_end {ns : List Nat} {i : Nat} {rs : List Rule} {out : List Int} (h : Due ns i rs out) (hi : ¬ i < ns.length) : out = [] := by
  obtain ⟨f, cs, e, _, rfl⟩ := h
  rw [List.drop_of_length_le (by omega)] at e
  have : cs = [] := by cases f <;> (cases e; rfl)
  rw [this]; rfl
theorem due_step {ns : List Nat} {i : Nat} {rs : List Rule} {out : List Int} (h : Due ns i rs out) (hi : i < ns.length) : ∃ k j rest, CallAt ns i k j ∧ out = ((ansR rs k).length : Int) :: (ansR rs k ++ rest) ∧ Due ns j (nextR rs k) rest := by
  obtain ⟨f, cs, e, ha, rfl⟩ := h
  have e0 : asInts (ns.drop i) = (ns[i] : Int) :: asInts (ns.drop (i + 1)) := by rw [List.drop_eq_getElem_cons hi]; rfl
  cases f with
  | zero => rw [e0] at e; cases e
  | succ f =>
    rw [e0] at e
    rw [PyFlat.calls] at e
    rw [← e0] at e
    cases ec : PyFlat.call PyWf04.shape (asInts (ns.drop i)) with
    | none => rw [ec] at e; cases e
    | some ct =>
      obtain ⟨c, t⟩ := ct
      rw [ec] at e
      dsimp only at e
      cases er : PyFlat.calls PyWf04.shape f t with
      | none => rw [er] at e; cases e
      | some cs' =>
        rw [er] at e
        dsimp only at e
        cases e
        obtain ⟨k, j, ck, co, et⟩ := call_at hi ec (ha c List.mem_cons_self)
        refine ⟨k, j, _, ck, ?_, f, cs', by rw [← et]; exact er, fun x hx => ha x (List.mem_cons_of_mem _ hx), rfl⟩
        have st : Wf04Neutral.step ⟨rs⟩ (PyWf04.whole c) = (⟨nextR rs k⟩, ansR rs k) := by
          unfold Wf04Neutral.step
          rw [co]; rfl
        rw [List.map_cons, PyFlat.played, st]
        unfold PyFlat.told
        rw [List.flatMap_cons]; rfl
theorem asked_all {l : List (List (List Int))} (h : Wf04Neutral.asked l = true) : ∀ c ∈ l, Wf04Neutral.asked1 c = true := by
  unfold Wf04Neutral.asked at h
  rw [Bool.and_eq_true] at h
  exact List.all_eq_true.1 h.1
/-- what is asked of a list -/
theorem asked_due {ns : List Nat} (h : PyWf04.answers_asked (asInts ns) = true) : Due ns 0 [] (PyWf04.answers (asInts ns)) ∧ (PyWf04.answers (asInts ns)).length ≤ 10000000 := by
  unfold PyWf04.answers_asked at h
  cases e : PyFlat.calls PyWf04.shape (asInts ns).length (asInts ns) with
  | none => rw [e] at h; cases h
  | some raw =>
    rw [e] at h
    dsimp only at h
    simp only [Bool.and_eq_true] at h
    refine ⟨⟨_, raw, e, ?_, ?_⟩, of_decide_eq_true h.2⟩
    · intro c hc
      exact asked_all h.1.2 _ (List.mem_map.2 ⟨c, hc, rfl⟩)
    · unfold PyWf04.answers PyWf04.calls
      rw [e]; rfl

/-! ### the answers in words of their own -/
theorem ans_begins (rs : List Rule) : nextR rs .begins = [] ∧ ansR rs .begins = [0] := ⟨rfl, rfl⟩
end Cr
end
section
set_option Elab.async false
set_option maxRecDepth 100000
set_option maxHeartbeats 2000000
set_option linter.all false
/-! zip of two things, each walked by an iterator of its own sort -/
namespace Crz
open PySem
/-- an iterator at i over what lies at l, of whatever sort -/
structure Src (i l : Addr) (It : Heap → Nat → Prop) (At : Heap → Array Value → Prop) : Prop where
  item : ∀ {prog : Program} {w : World} {A : Around} {E : Value → Shared → Prop} {s : Shared} {k : Nat} {xs : Array Value} {x : Value} {Q : Value → Shared → Prop},
    It s.heap k → At s.heap xs → xs[k]? = some x → (∀ h', It h' (k + 1) → Heap.SameBut i s.heap h' → Q x { s with heap := h' }) →
    wpAny (model prog w) A (Builtin.SmallTypes.nextOf (.ref i)) Q E s
  stop : ∀ {prog : Program} {w : World} {A : Around} {E : Value → Shared → Prop} {s : Shared} {k : Nat} {xs : Array Value} {Q : Value → Shared → Prop},
    A.handled = none → It s.heap k → At s.heap xs → xs[k]? = none →
    (∀ h' e, Heap.ExtBut i s.heap h' → (∃ o, h'.get? e = some o ∧ o.cls = .type "StopIteration") → E (.ref e) { s with heap := h' }) →
    wpAny (model prog w) A (Builtin.SmallTypes.nextOf (.ref i)) Q E s
  itOn : ∀ {h h' : Heap} {k : Nat} {c : Addr}, It h k → Heap.ExtBut c h h' → i ≠ c → It h' k
  atOn : ∀ {h h' : Heap} {xs : Array Value} {c : Addr}, At h xs → Heap.ExtBut c h h' → l ≠ c → At h' xs
  itAt : ∀ {h h' : Heap} {k : Nat}, It h k → (∀ o, h.get? i = some o → h'.get? i = some o) → It h' k
  itObj : ∀ {h : Heap} {k : Nat}, It h k → ∃ o, h.get? i = some o ∧ ∀ v, o.data ≠ .cell v

theorem src_list (i l : Addr) : Src i l (fun h k => h.IsListIter i l k) (fun h xs => h.IsList l xs) where
  item := fun a b c d => wpAny_nextOf_list_item a b c d
  stop := fun a b c d e => wpAny_nextOf_list_end a b c d e
  itOn := fun a b c => a.extBut b c
  atOn := fun a b c => a.extBut b c
  itAt := fun a b => a.at b
  itObj := fun ⟨o, e, _, d⟩ => ⟨o, e, fun v q => by rw [d] at q; cases q⟩
theorem src_tup (i l : Addr) : Src i l (fun h k => h.IsTupleIter i l k) (fun h xs => h.IsTuple l xs) where
  item := fun a b c d => RZ.nextOf_tuple_item a b c d
  stop := fun a b c d e => RZ.nextOf_tuple_end a b c d e
  itOn := fun a b c => a.extBut b c
  atOn := fun a b c => a.extBut b c
  itAt := fun a b => a.at b
  itObj := fun ⟨o, e, _, d⟩ => ⟨o, e, fun v q => by rw [d] at q; cases q⟩

section
variable {prog : Program} {w : World} {A : Around} {E : Value → Shared → Prop} {s : Shared}
variable {z TI TO i1 i2 l1 l2 : Addr} {It1 It2 : Heap → Nat → Prop} {At1 At2 : Heap → Array Value → Prop} {k1 k2 : Nat} {xs ys : Array Value} {a b : Value}

theorem next_pair {x y : Value} {Q : Value → Shared → Prop} (S1 : Src i1 l1 It1 At1) (S2 : Src i2 l2 It2 At2) (D : ZipApart z TI TO i1 i2 l1 l2)
    (hz : IsZip s.heap z TI TO .none) (hI : IsPair s.heap TI (.ref i1) (.ref i2)) (hO : IsPair s.heap TO a b)
    (t1 : It1 s.heap k1) (t2 : It2 s.heap k2) (u1 : At1 s.heap xs) (u2 : At2 s.heap ys) (hx : xs[k1]? = some x) (hy : ys[k2]? = some y)
    (hQ : ∀ h', IsZip h' z TI TO (rawInt s.heap.objs.size) → IsPair h' TO x y → It1 h' (k1 + 1) → It2 h' (k2 + 1) → IsPair h' s.heap.objs.size x y → h'.objs.size = s.heap.objs.size + 1 →
      (∀ c o, c ≠ z → c ≠ TO → c ≠ i1 → c ≠ i2 → s.heap.get? c = some o → h'.get? c = some o) → Q (.ref s.heap.objs.size) { s with heap := h' }) :
    wpAny (model prog w) A (Builtin.«zip.__next__» ⟨[.ref z], []⟩) (fun fin s' => ∃ v, fin = .done (.ret v) ∧ Q v s') E s := by
  refine (show wpAny _ _ (field (.ref z) 2 >>= _) _ _ _ from wpAny_bind (wpAny_field hz rfl (x := .bool false) rfl ?_))
  refine (show wpAny _ _ (field (.ref z) 3 >>= _) _ _ _ from wpAny_bind (wpAny_field hz rfl (x := .ref TI) rfl ?_))
  refine wpAny_bind (wpAny_seqItems hI rfl (show wpAny _ _ (Builtin.SmallTypes.ownedTupleIsFree (.ref z) >>= _) _ _ _ from wpAny_bind ?_))
  unfold Builtin.SmallTypes.ownedTupleIsFree; refine wpAny_bind (wpAny_field hz rfl (x := .none) rfl (wpAny_pure ?_)); simp only [if_true]
  refine wpAny_bind (wpAny_rule (wpAny_bind (wpAny_field hz rfl (x := .ref TO) rfl (wpAny_bind (wpAny_setField_rec hz (by simp) fun h1 z1 s1 => ?_)))))
  have z1' : IsZip h1 z TI TO .ellipsis := z1
  refine wpAny_bind ?_; simp only [List.zipIdx_cons, List.zipIdx_nil, List.forIn_cons, List.forIn_nil]
  refine wpAny_bind (wpAny_bind (wpAny_onRaise (show wpAny _ _ (Builtin.SmallTypes.nextOf (.ref i1) >>= _) _ _ _ from wpAny_bind ?_)))
  refine S1.item (s := { s with heap := h1 }) (S1.itOn t1 s1.extBut D.i1z) (S1.atOn u1 s1.extBut D.l1z) hx fun h2 v1 s2 => wpAny_pure ?_
  have o2 : IsPair h2 TO a b := s2.extBut _ _ D.TOi1 (s1.extBut _ _ D.TOz hO)
  refine wpAny_bind (wpAny_seqItems o2 rfl (wpAny_bind (wpAny_updateSeq_pair o2 fun h3 o3 s3 => wpAny_bind (wpAny_letGo (wpAny_pure ?_)))))
  have o3' : IsPair h3 TO x b := o3
  refine wpAny_bind (wpAny_bind (wpAny_onRaise (show wpAny _ _ (Builtin.SmallTypes.nextOf (.ref i2) >>= _) _ _ _ from wpAny_bind ?_)))
  refine S2.item (s := { s with heap := h3 }) (S2.itOn (S2.itOn (S2.itOn t2 s1.extBut D.i2z) s2.extBut D.i12.symm) s3.extBut D.TOi2.symm) (S2.atOn (S2.atOn (S2.atOn u2 s1.extBut D.l2z) s2.extBut D.l2i1) s3.extBut D.l2TO) hy fun h4 v2 s4 => wpAny_pure ?_
  have o4 : IsPair h4 TO x b := s4.extBut _ _ D.TOi2 o3'
  refine wpAny_bind (wpAny_seqItems o4 rfl (wpAny_bind (wpAny_updateSeq_pair o4 fun h5 o5 s5 => wpAny_bind (wpAny_letGo (wpAny_pure (wpAny_pure ?_))))))
  have o5' : IsPair h5 TO x y := o5
  have sz : h5.objs.size = s.heap.objs.size := by rw [s5.1, s4.1, s3.1, s2.1, s1.1]
  have z5 : IsZip h5 z TI TO .ellipsis := s5.extBut _ _ D.TOz.symm (s4.extBut _ _ D.i2z.symm (s3.extBut _ _ D.TOz.symm (s2.extBut _ _ D.i1z.symm z1')))
  have kp : ∀ c o, c ≠ z → c ≠ TO → c ≠ i1 → c ≠ i2 → s.heap.get? c = some o → h5.get? c = some o := fun c o n1 n2 n3 n4 e => s5.extBut _ _ n2 (s4.extBut _ _ n4 (s3.extBut _ _ n2 (s2.extBut _ _ n3 (s1.extBut _ _ n1 e))))
  have w1 : It1 h5 (k1 + 1) := S1.itOn (S1.itOn (S1.itOn v1 s3.extBut D.TOi1.symm) s4.extBut D.i12) s5.extBut D.TOi1.symm
  have w2 : It2 h5 (k2 + 1) := S2.itOn v2 s5.extBut D.TOi2.symm
  have lz : z < h5.objs.size := Heap.lt_size z5
  refine wpAny_bind (wpAny_seqItems o5' rfl (wpAny_bind (wpAny_newTuple (show wpAny _ _ (Builtin.SmallTypes.ownedTupleHandOut (.ref z) (.ref h5.objs.size) >>= _) _ _ _ from wpAny_bind ?_))))
  unfold Builtin.SmallTypes.ownedTupleHandOut
  have z6 : IsZip (h5.push { cls := .type "tuple", data := .seq #[x, y] }) z TI TO .ellipsis := Heap.get?_push_of_some _ z5
  refine wpAny_bind (wpAny_setField_rec z6 (by simp) fun h7 z7 s7 => ?_)
  have z7' : IsZip h7 z TI TO (rawInt h5.objs.size) := z7
  refine wpAny_setField_rec z7' (by simp) fun h8 z8 s8 => ?_
  have z8' : IsZip h8 z TI TO (rawInt h5.objs.size) := z8
  have up : ∀ c o, c ≠ z → h5.get? c = some o → h8.get? c = some o := fun c o n1 e => s8.extBut _ _ n1 (s7.extBut _ _ n1 (Heap.get?_push_of_some _ e))
  have p8 : IsPair h8 h5.objs.size x y := s8.extBut _ _ (Nat.ne_of_gt lz) (s7.extBut _ _ (Nat.ne_of_gt lz) (Heap.get?_push_size _ rfl))
  have e8 : h8.objs.size = h5.objs.size + 1 := by rw [s8.1, s7.1, Heap.size_push]
  rw [sz] at z8' p8 e8
  refine wpAny_pure ⟨_, rfl, (show Q (.ref h5.objs.size) _ from ?_)⟩
  rw [sz]
  exact hQ h8 z8' (up _ _ D.TOz o5') (S1.itAt w1 fun o e => up _ o D.i1z e) (S2.itAt w2 fun o e => up _ o D.i2z e) p8 e8 fun c o n1 n2 n3 n4 e => up c o n1 (kp c o n1 n2 n3 n4 e)

theorem next_stop {Q : Fin → Shared → Prop} (S1 : Src i1 l1 It1 At1) (S2 : Src i2 l2 It2 At2) (hh : A.handled = none) (D : ZipApart z TI TO i1 i2 l1 l2)
    (hz : IsZip s.heap z TI TO .none) (hI : IsPair s.heap TI (.ref i1) (.ref i2)) (hO : IsPair s.heap TO a b)
    (t1 : It1 s.heap k1) (t2 : It2 s.heap k2) (u1 : At1 s.heap xs) (u2 : At2 s.heap ys) (he : xs[k1]? = none ∨ ys[k2]? = none)
    (hE : ∀ h' e, (∀ c o, c ≠ z → c ≠ TO → c ≠ i1 → c ≠ i2 → s.heap.get? c = some o → h'.get? c = some o) → (∃ o, h'.get? e = some o ∧ o.cls = .type "StopIteration") → E (.ref e) { s with heap := h' }) :
    wpAny (model prog w) A (Builtin.«zip.__next__» ⟨[.ref z], []⟩) Q E s := by
  refine (show wpAny _ _ (field (.ref z) 2 >>= _) _ _ _ from wpAny_bind (wpAny_field hz rfl (x := .bool false) rfl ?_))
  refine (show wpAny _ _ (field (.ref z) 3 >>= _) _ _ _ from wpAny_bind (wpAny_field hz rfl (x := .ref TI) rfl ?_))
  refine wpAny_bind (wpAny_seqItems hI rfl (show wpAny _ _ (Builtin.SmallTypes.ownedTupleIsFree (.ref z) >>= _) _ _ _ from wpAny_bind ?_))
  unfold Builtin.SmallTypes.ownedTupleIsFree; refine wpAny_bind (wpAny_field hz rfl (x := .none) rfl (wpAny_pure ?_)); simp only [if_true]
  refine wpAny_bind (wpAny_rule (wpAny_bind (wpAny_field hz rfl (x := .ref TO) rfl (wpAny_bind (wpAny_setField_rec hz (by simp) fun h1 z1 s1 => ?_)))))
  have z1' : IsZip h1 z TI TO .ellipsis := z1
  refine wpAny_bind ?_; simp only [List.zipIdx_cons, List.zipIdx_nil, List.forIn_cons, List.forIn_nil]
  refine wpAny_bind (wpAny_bind (wpAny_onRaise (show wpAny _ _ (Builtin.SmallTypes.nextOf (.ref i1) >>= _) _ _ _ from wpAny_bind ?_)))
  cases hx : xs[k1]? with
  | none =>
    refine S1.stop (s := { s with heap := h1 }) hh (S1.itOn t1 s1.extBut D.i1z) (S1.atOn u1 s1.extBut D.l1z) hx fun h2 e s2 ⟨oe, ge, ce⟩ => ?_
    have z2 : IsZip h2 z TI TO .ellipsis := s2 _ _ D.i1z.symm z1'
    have ne : e ≠ z := fun q => by subst q; rw [z2] at ge; cases ge; simp at ce
    exact wpAny_setField_rec z2 (by simp) fun h3 _ s3 => hE h3 e (fun c o n1 _ n3 _ q => s3.extBut _ _ n1 (s2 _ _ n3 (s1.extBut _ _ n1 q))) ⟨oe, s3.extBut _ _ ne ge, ce⟩
  | some x =>
    have hy : ys[k2]? = none := by
      rcases he with h | h
      · rw [hx] at h; cases h
      · exact h
    refine S1.item (s := { s with heap := h1 }) (S1.itOn t1 s1.extBut D.i1z) (S1.atOn u1 s1.extBut D.l1z) hx fun h2 v1 s2 => wpAny_pure ?_
    have o2 : IsPair h2 TO a b := s2.extBut _ _ D.TOi1 (s1.extBut _ _ D.TOz hO)
    refine wpAny_bind (wpAny_seqItems o2 rfl (wpAny_bind (wpAny_updateSeq_pair o2 fun h3 o3 s3 => wpAny_bind (wpAny_letGo (wpAny_pure ?_)))))
    refine wpAny_bind (wpAny_bind (wpAny_onRaise (show wpAny _ _ (Builtin.SmallTypes.nextOf (.ref i2) >>= _) _ _ _ from wpAny_bind ?_)))
    refine S2.stop (s := { s with heap := h3 }) hh (S2.itOn (S2.itOn (S2.itOn t2 s1.extBut D.i2z) s2.extBut D.i12.symm) s3.extBut D.TOi2.symm) (S2.atOn (S2.atOn (S2.atOn u2 s1.extBut D.l2z) s2.extBut D.l2i1) s3.extBut D.l2TO) hy fun h4 e s4 ⟨oe, ge, ce⟩ => ?_
    have z4 : IsZip h4 z TI TO .ellipsis := s4 _ _ D.i2z.symm (s3.extBut _ _ D.TOz.symm (s2.extBut _ _ D.i1z.symm z1'))
    have ne : e ≠ z := fun q => by subst q; rw [z4] at ge; cases ge; simp at ce
    exact wpAny_setField_rec z4 (by simp) fun h5 _ s5 => hE h5 e (fun c o n1 n2 n3 n4 q => s5.extBut _ _ n1 (s4 _ _ n4 (s3.extBut _ _ n2 (s2.extBut _ _ n3 (s1.extBut _ _ n1 q))))) ⟨oe, s5.extBut _ _ ne ge, ce⟩

theorem py_pair {x y : Value} {Q : Option Value → Shared → Prop} (S1 : Src i1 l1 It1 At1) (S2 : Src i2 l2 It2 At2) (D : ZipApart z TI TO i1 i2 l1 l2)
    (hz : IsZip s.heap z TI TO .none) (hI : IsPair s.heap TI (.ref i1) (.ref i2)) (hO : IsPair s.heap TO a b)
    (t1 : It1 s.heap k1) (t2 : It2 s.heap k2) (u1 : At1 s.heap xs) (u2 : At2 s.heap ys) (hx : xs[k1]? = some x) (hy : ys[k2]? = some y)
    (hQ : ∀ h', IsZip h' z TI TO (rawInt s.heap.objs.size) → IsPair h' TO x y → It1 h' (k1 + 1) → It2 h' (k2 + 1) → IsPair h' s.heap.objs.size x y → h'.objs.size = s.heap.objs.size + 1 →
      (∀ c o, c ≠ z → c ≠ TO → c ≠ i1 → c ≠ i2 → s.heap.get? c = some o → h'.get? c = some o) → Q (some (.ref s.heap.objs.size)) { s with heap := h' }) :
    wpAny (model prog w) A (pyNext (.ref z)) Q E s := by
  have ty : s.TypeIs (.ref z) "zip" := ⟨_, hz, rfl⟩
  unfold pyNext
  refine wpAny_bind (wpAny_attempt (wpAny_callSpecial?_slot (name := Str.ofString "__next__") ty F.slot_zip_next (wpAny_call_entry F.slot_zip_next ty F.entry_zip_next ?_ (F.args_zip_next_1 _))))
  exact next_pair S1 S2 D hz hI hO t1 t2 u1 u2 hx hy fun h' c1 c2 c3 c4 c5 c6 c7 => wpAny_pure (hQ h' c1 c2 c3 c4 c5 c6 c7)
theorem py_stop {Q : Option Value → Shared → Prop} (S1 : Src i1 l1 It1 At1) (S2 : Src i2 l2 It2 At2) (hh : A.handled = none) (D : ZipApart z TI TO i1 i2 l1 l2)
    (hz : IsZip s.heap z TI TO .none) (hI : IsPair s.heap TI (.ref i1) (.ref i2)) (hO : IsPair s.heap TO a b)
    (t1 : It1 s.heap k1) (t2 : It2 s.heap k2) (u1 : At1 s.heap xs) (u2 : At2 s.heap ys) (he : xs[k1]? = none ∨ ys[k2]? = none)
    (hQ : ∀ h', (∀ c o, c ≠ z → c ≠ TO → c ≠ i1 → c ≠ i2 → s.heap.get? c = some o → h'.get? c = some o) → Q none { s with heap := h' }) :
    wpAny (model prog w) A (pyNext (.ref z)) Q E s := by
  have ty : s.TypeIs (.ref z) "zip" := ⟨_, hz, rfl⟩
  unfold pyNext
  refine wpAny_bind (wpAny_attempt (wpAny_callSpecial?_slot (name := Str.ofString "__next__") ty F.slot_zip_next (wpAny_call_entry F.slot_zip_next ty F.entry_zip_next ?_ (F.args_zip_next_1 _))))
  refine next_stop S1 S2 hh D hz hI hO t1 t2 u1 u2 he fun h' e hk ⟨o, ho, hc⟩ => ?_
  exact wpAny_bind (wpAny_isInstance (T := "StopIteration") (b := true) ⟨o, ho, hc⟩ isSubtype_stop (wpAny_pure (hQ _ hk)))
end

/-! zip(list, tuple) made -/
abbrev m1 (h : Heap) (l1 : Addr) : Heap := h.push { cls := .type "list_iterator", data := .fields #[.ref l1, .int 0 0] }
abbrev m2 (h : Heap) (l1 l2 : Addr) : Heap := (m1 h l1).push { cls := .type "tuple_iterator", data := .fields #[.ref l2, .int 0 0] }
abbrev m3 (h : Heap) (l1 l2 : Addr) : Heap := (m2 h l1 l2).push { cls := .type "tuple", data := .seq #[.ref h.objs.size, .ref (m1 h l1).objs.size] }
abbrev m4 (h : Heap) (l1 l2 : Addr) : Heap := (m3 h l1 l2).push { cls := .type "tuple", data := .seq #[.none, .none] }
abbrev m5 (h : Heap) (l1 l2 : Addr) : Heap :=
  (m4 h l1 l2).push { cls := .type "zip", data := .fields #[.none, .bool false, .bool false, .ref (m2 h l1 l2).objs.size, .ref (m3 h l1 l2).objs.size] }
theorem meets_new (l1 l2 : Addr) (xs ys : Array Value) :
    Meets (Builtin.«zip.__new__» ⟨[.type "zip", .ref l1, .ref l2], []⟩) (fun _ R s => s.heap.IsList l1 xs ∧ s.heap.IsTuple l2 ys ∧ R (.ok (.ret (.ref (m4 s.heap l1 l2).objs.size))) { s with heap := m5 s.heap l1 l2 }) :=
  .of_wp fun prog w A R s h => by
    obtain ⟨hp, g, d, tk, os⟩ := s; obtain ⟨u1, u2, h⟩ := h; have sub := sub_zip
    have q1 : Heap.IsList (Shared.heap ⟨hp, g, d, tk, os⟩) l1 xs := u1
    have q2 : Heap.IsTuple (Shared.heap ⟨hp.push { cls := .type "list_iterator", data := .fields #[.ref l1, .int 0 0] }, g, d, tk, os⟩) l2 ys := Heap.IsTuple.push u2 _
    wp_walk using wpAny_pyIter_list q1, wpAny_pyIter_tuple q2
    exact ⟨_, rfl, h⟩
section
variable {prog : Program} {w : World} {A : Around} {E : Value → Shared → Prop} {s : Shared}
theorem call_zipLT {l1 l2 : Addr} {xs ys : Array Value} {Q : Value → Shared → Prop} (u1 : s.heap.IsList l1 xs) (u2 : s.heap.IsTuple l2 ys)
    (h : ∀ h', IsZip h' (s.heap.objs.size + 4) (s.heap.objs.size + 2) (s.heap.objs.size + 3) .none → IsPair h' (s.heap.objs.size + 2) (.ref s.heap.objs.size) (.ref (s.heap.objs.size + 1)) →
      IsPair h' (s.heap.objs.size + 3) .none .none → h'.IsListIter s.heap.objs.size l1 0 → h'.IsTupleIter (s.heap.objs.size + 1) l2 0 →
      (∀ c o, s.heap.get? c = some o → h'.get? c = some o) → Q (.ref (s.heap.objs.size + 4)) { s with heap := h' }) :
    wpAny (model prog w) A (call (.type "zip") [.ref l1, .ref l2]) Q E s := by
  refine callType_new F.called_zip (by decide) (F.typeCall_zip_2 _ _) (F.newCall_zip_2 _ _) (fun obj => F.args_object_init_3 obj _ _) F.entry_zip_new (meets_new l1 l2 xs ys) ⟨u1, u2, ?_⟩
  have n1 : (m1 s.heap l1).objs.size = s.heap.objs.size + 1 := Heap.size_push ..
  have n2 : (m2 s.heap l1 l2).objs.size = s.heap.objs.size + 2 := by rw [Heap.size_push, n1]
  have n3 : (m3 s.heap l1 l2).objs.size = s.heap.objs.size + 3 := by rw [Heap.size_push, n2]
  have n4 : (m4 s.heap l1 l2).objs.size = s.heap.objs.size + 4 := by rw [Heap.size_push, n3]
  have up : ∀ c o, s.heap.get? c = some o → (m5 s.heap l1 l2).get? c = some o := fun c o x => by
    repeat' refine Heap.get?_push_of_some _ ?_
    exact x
  have f5 : (m5 s.heap l1 l2).get? (m4 s.heap l1 l2).objs.size = some _ := Heap.get?_push_size _ rfl
  have f4 : (m5 s.heap l1 l2).get? (m3 s.heap l1 l2).objs.size = some _ := Heap.get?_push_of_some _ (Heap.get?_push_size _ rfl)
  have f3 : (m5 s.heap l1 l2).get? (m2 s.heap l1 l2).objs.size = some _ := Heap.get?_push_of_some _ (Heap.get?_push_of_some _ (Heap.get?_push_size _ rfl))
  have f2 : (m5 s.heap l1 l2).get? (m1 s.heap l1).objs.size = some _ := Heap.get?_push_of_some _ (Heap.get?_push_of_some _ (Heap.get?_push_of_some _ (Heap.get?_push_size _ rfl)))
  have f1 : (m5 s.heap l1 l2).get? s.heap.objs.size = some _ := Heap.get?_push_of_some _ (Heap.get?_push_of_some _ (Heap.get?_push_of_some _ (Heap.get?_push_of_some _ (Heap.get?_push_size _ rfl))))
  rw [n2, n3, n4] at f5
  rw [n1, n2] at f3
  rw [n3] at f4
  rw [n1] at f2
  show _ ∧ _
  rw [n4]
  exact ⟨⟨_, f5, rfl⟩, h _ f5 f3 f4 ⟨_, f1, rfl, rfl⟩ ⟨_, f2, rfl, rfl⟩ up⟩
end

open PySem.Spec PyProof.Rows L2
/-- a list and a tuple as they stand at each turn, their items in new pairs -/
def ItLT (K : PySem.W.Frag) (a b : Addr) : It where
  go := fun i H => ∃ (xs ys : List V) (x y : V), SqL K H a xs ∧ SqT K H b ys ∧ xs[i]? = some x ∧ ys[i]? = some y
  yld := fun i H v H' => ∃ T x y, v = .ref T ∧ H T = none ∧ H' = upd H T (.tup [x, y]) ∧ (∀ xs, SqL K H a xs → xs[i]? = some x) ∧ ∀ ys, SqT K H b ys → ys[i]? = some y
  stop := fun i H => ∃ xs ys : List V, SqL K H a xs ∧ SqT K H b ys ∧ (xs.length ≤ i ∨ ys.length ≤ i)
theorem five {c z TI TO i1 i2 : Addr} (h : c ∈ [z, TI, TO, i1, i2]) : c = z ∨ c = TI ∨ c = TO ∨ c = i1 ∨ c = i2 := by simpa using h
theorem turnLT {P : Program} {w : World} {K : PySem.W.Frag} {elts : List Expr} {kk : Nat} {tpos : Pos} {a b z TI TO i1 i2 : Addr} (D : ZipApart z TI TO i1 i2 a b) :
    Turn P w K (.Tuple elts kk tpos) (ItLT K a b) [z, TI, TO, i1, i2] z (fun i h => IsZip h z TI TO .none ∧ IsPair h TI (.ref i1) (.ref i2) ∧ (∃ x y, IsPair h TO x y) ∧ h.IsListIter i1 a i ∧ h.IsTupleIter i2 b i) where
  mem := List.mem_cons_self
  obj := fun i h ⟨hz, hI, ⟨x, y, hO⟩, t1, t2⟩ c hc => by
    rcases five hc with q | q | q | q | q <;> subst q
    · exact ⟨_, hz, fun v q => nomatch q⟩
    · exact ⟨_, hI, fun v q => nomatch q⟩
    · exact ⟨_, hO, fun v q => nomatch q⟩
    · exact (src_list _ a).itObj t1
    · exact (src_tup _ b).itObj t2
  keep := fun i h h' ⟨hz, hI, ⟨x, y, hO⟩, t1, t2⟩ k =>
    ⟨k z (by simp) _ hz, k TI (by simp) _ hI, ⟨x, y, k TO (by simp) _ hO⟩, t1.at fun o q => k i1 (by simp) o q, t2.at fun o q => k i2 (by simp) o q⟩
  item := fun X hP hw hK hc i pins s σ H E I hf ⟨hz, hI, ⟨x0, y0, hO⟩, t1, t2⟩ ⟨xs, ys, x, y, qx, qy, hx, hy⟩ => by
    subst hP hw hK
    obtain ⟨its, rv, p, _⟩ := I.list qx
    obtain ⟨its2, rv2, p2, _⟩ := I.tuple qy
    obtain ⟨u, hu, ru⟩ := rv.get hx
    obtain ⟨u2, hu2, ru2⟩ := rv2.get hy
    have lz : z < s.heap.objs.size := Heap.lt_size hz
    refine py_pair (src_list i1 a) (src_tup i2 b) D hz hI hO t1 t2 p.isList p2 (x := u) (y := u2) (by simpa using hu) (by simpa using hu2) fun h' z' O' t1' t2' hT hsz hk => ⟨_, rfl, wpAny_letOwnedTupleGo_zip (s := { s with heap := h' }) z' fun h'' z'' sb => ?_⟩
    have pT : h''.get? s.heap.objs.size = some { cls := .type "tuple", data := .seq #[u, u2] } := (sb.2 _ (Nat.ne_of_gt lz)).trans hT
    have new : ObjOk X.prog X.w (upd H s.heap.objs.size (.tup [x, y])) h'' s.heap.objs.size (.tup [x, y]) := ⟨(by show 2 ≤ sizeLine; decide), [u, u2], .cons ru (.cons ru2 .nil), ⟨_, pT, rfl, _, rfl⟩⟩
    have kept : ∀ c o, c ∉ [z, TI, TO, i1, i2] → s.heap.get? c = some o → h''.get? c = some o := fun c o nc q => by
      simp only [List.mem_cons, List.not_mem_nil, or_false, not_or] at nc
      exact (sb.2 c nc.1).trans (hk c o nc.1 nc.2.2.1 nc.2.2.2.1 nc.2.2.2.2 q)
    have I1 : Inv X pins σ (upd H s.heap.objs.size (.tup [x, y])) { s with heap := h'' } := I.turnedNew (t' := s.toks) (ch := [z, TI, TO, i1, i2]) (fun c o nc q => kept c o nc q) hf (Nat.le_refl _) new
    refine ⟨.ref s.heap.objs.size, _, I1, rfl, ⟨_, x, y, rfl, I.hok.fresh (Nat.le_refl _), rfl, fun l hl => ?_, fun l hl => ?_⟩, ⟨z'', ?_, ⟨u, u2, ?_⟩, ?_, ?_⟩, fun c hcm => ?_⟩
    · rw [I.list_inj hl qx]; exact hx
    · rw [I.tuple_inj hl qy]; exact hy
    · exact (sb.2 _ D.TIz).trans (hk _ _ D.TIz D.TITO D.TIi1 D.TIi2 hI)
    · exact (sb.2 _ D.TOz).trans O'
    · exact t1'.at fun o q => (sb.2 _ D.i1z).trans q
    · exact t2'.at fun o q => (sb.2 _ D.i2z).trans q
    · have lt : c < s.heap.objs.size := by
        rcases five hcm with q | q | q | q | q <;> subst q
        · exact lz
        · exact Heap.lt_size hI
        · exact Heap.lt_size hO
        · obtain ⟨_, e1, _⟩ := t1; exact Heap.lt_size e1
        · obtain ⟨_, e2, _⟩ := t2; exact Heap.lt_size e2
      rw [upd_ne (Nat.ne_of_lt lt)]
      exact (hf c hcm).1
  done := fun X hP hw hK hc i pins s σ H E I hf ⟨hz, hI, ⟨x0, y0, hO⟩, t1, t2⟩ ⟨xs, ys, qx, qy, he⟩ => by
    subst hP hw hK
    obtain ⟨its, rv, p, _⟩ := I.list qx
    obtain ⟨its2, rv2, p2, _⟩ := I.tuple qy
    have e1 := rv.length; have e2 := rv2.length
    have he' : its.toArray[i]? = none ∨ its2.toArray[i]? = none := by
      rcases he with q | q
      · left; simp; omega
      · right; simp; omega
    refine py_stop (src_list i1 a) (src_tup i2 b) (I.ok.hd hc) D hz hI hO t1 t2 p.isList p2 he' fun h' hk => ⟨rfl, I.turnedL (t' := s.toks) (ch := [z, TI, TO, i1, i2]) (fun c o nc q => ?_) hf⟩
    simp only [List.mem_cons, List.not_mem_nil, or_false, not_or] at nc
    exact hk c o nc.1 nc.2.2.1 nc.2.2.2.1 nc.2.2.2.2 q
  self := fun A i s Q E st h => wpAny_pyIter_zip st.1 h

def iLT (K : PySem.W.Frag) (ta : TA) : TI := fun σ H R => ta σ H fun vs H1 => ∃ a b xs ys, vs = [.ref a, .ref b] ∧ SqL K H1 a xs ∧ SqT K H1 b ys ∧ R (ItLT K a b) H1
/-- zip(a list, a tuple), walked -/
theorem pi_LT {X : Cx} {e e2 : Expr} {ta : TA} {p pos tpos : Pos} {elts : List Expr} {kk : Nat} (hg : Gl X "zip") (hm : X.mg "zip" = none) (ha : PA X [e, e2] ta)
    (hs : starEach [e, e2] X.env = (false, eval e X.env) :: starEach [e2] X.env := by rfl) (hpl : (backTo pos (starEach [e2] X.env)).any (·.1) = false := by rfl) :
    PI X (.Tuple elts kk tpos) (.Call (.Name "zip" p) [e, e2] [] pos) (iLT X.K ta) := ⟨fun pins s σ H R I h => by
  refine Call_ (ld_blt I hg hm PyProof.Rows.boot_zip (PyProof.Rows.callWith_type1 (thn (ha.run pos pins s σ H _ I h) fun us s1 ⟨vs, H1, I1, r1, a, b, xs, ys, ex, qx, qy, q⟩ => ?_) hs hpl))
  subst ex
  obtain ⟨_, _, r, rr⟩ : ∃ u us', RelV (.ref a) u ∧ ∃ u2, us = [u, u2] ∧ RelV (.ref b) u2 := by
    cases r1 with
    | cons r rr => cases rr with
      | cons r' rr => cases rr; exact ⟨_, [()], r, _, rfl, r'⟩
  obtain ⟨u2, rfl, r2⟩ := rr
  cases r
  cases r2
  obtain ⟨its, rv, p1, _⟩ := I1.list qx
  obtain ⟨its2, rv2, p2, _⟩ := I1.tuple qy
  obtain ⟨o2, ho2, _⟩ := id p2
  have free : ∀ c, c ∈ [s1.heap.objs.size + 4, s1.heap.objs.size + 2, s1.heap.objs.size + 3, s1.heap.objs.size, s1.heap.objs.size + 1] → FpOk X pins H1 c := fun c hc => by
    have le : s1.heap.objs.size ≤ c := by rcases five hc with q | q | q | q | q <;> rw [q] <;> first | exact Nat.le_add_right _ _ | exact Nat.le_refl _
    exact I1.fpOk le (I1.hok.fresh le)
  refine call_zipLT p1.isList (show s1.heap.IsTuple b its2.toArray from p2) fun h' hz hI hO t1 t2 hk => wpAny_pyIter_zip hz ?_
  exact ⟨_, _, _, _, H1, rfl, I1.kept (t' := s1.toks) hk, turnLT (PySem.W.ktu_apart s1.heap.objs.size a b p1.lt (Heap.lt_size ho2)), ⟨hz, hI, ⟨_, _, hO⟩, t1, t2⟩, free, q⟩⟩
theorem walk_LT {K : PySem.W.Frag} {a b : Addr} {xs ys : List V} (hl : xs.length = ys.length) : Walk (ItLT K a b) xs.length (fun H => SqL K H a xs ∧ SqT K H b ys) (YPair (fun i => xs[i]?) (fun i => ys[i]?)) where
  goes := fun i H hi q => ⟨xs, ys, xs[i], ys[i], q.1, q.2, by simp [hi], by simp [hl ▸ hi]⟩
  stops := fun H q => ⟨xs, ys, q.1, q.2, .inl (Nat.le_refl _)⟩
  yields := fun i H v H' hi q ⟨T, x, y, h1, h2, h3, h4, h5⟩ => ⟨T, x, y, h1, h2, h3, h4 xs q.1, h5 ys q.2⟩
end Crz
end
section
set_option Elab.async false
set_option maxRecDepth 100000
set_option maxHeartbeats 2000000
set_option linter.all false
/-! a dict of one pair whose key is a tuple; a written dict with whole numbers as keys -/
namespace Crz
open PySem PySem.Spec PyProof.Rows L2

section
variable {X : Cx} {pins : List (Addr × Obj)} {σ : L2.St} {H : Hp} {s : Shared} {a b : Addr} {v : V} {r : Value} {A : Around} {E : Value → Shared → Prop}
/-- the store of a tuple's value into an empty dict -/
theorem set_first {k : List Key} {Q : Unit → Shared → Prop} (hu : A.units < cLine) (I : Inv X pins σ H s) (e : H a = some (.dT [])) (eb : H b = some (.tup (k.map kV))) (rv : RelV v r)
    (h : ∀ s', Inv X pins σ (upd H a (.dT [(k, v)])) s' → Q () s') : wpAny (model X.prog X.w) A (dictSet a (.ref b) r) Q E s := by
  obtain ⟨z, hd, xs, rel, dd⟩ := dt_of I.hok e
  have hx : xs = [] := by cases rel; rfl
  subst hx
  refine wpAny_dictSet_heap (hsz := Nat.zero_le _) (knd := tupleKind (mixKind X.prog X.w)) hu (key_of I.hok eb) dd fun h' dd' hs => h _ ?_
  obtain ⟨q, es, ep, hq, g2, g3, g4, _, g5⟩ := dd'
  have pt : KT H (putK ([] : List (List Key × V)) k v) (storedH ([] : List (List Key × Addr × Value)) k b r) := rel.put k eb rv
  refine d_write I (by rw [e]; exact True.intro) hs ⟨q, hq⟩ ⟨(by show 1 ≤ sizeLine; decide), hd, _, pt.keeps fun c ys ec => ?_, q, es, ep, hq, g2, g3, g4, g5⟩
  rw [upd_ne (ne_of ec e (fun z => nomatch z))]
  exact ec
end

/-- {k: v}, k a tuple: the dict stands empty while both are made -/
def tDisp1 (tk tv : TE) : TE := fun σ H Q => ∀ p, H p = none → tk σ (upd H p (.dT [])) fun x H1 => tv σ H1 fun y H2 => H2 p = some (.dT []) ∧ ∃ (b : Addr) (k : List Key), x = .ref b ∧ H2 b = some (.tup (k.map kV)) ∧ Q (.ref p) (upd H2 p (.dT [(k, y)]))
theorem pe_disp1 {X : Cx} {pos : Pos} {k v : Expr} {tk tv : TE} (hu : X.A.units < cLine) (hk : PE X k tk) (hv : PE X v tv) : PE X (.Dict [some k] [v] pos) (tDisp1 tk tv) := ⟨fun pins s σ H Q I q => by
  have hn := I.hok.fresh (Nat.le_refl s.heap.objs.size)
  have I1 := I.laid (a := s.heap.objs.size) (o := .dT []) (h' := s.heap.push { cls := .type "dict", data := .dict #[] }) (t' := s.toks) (fun _ _ q => Heap.get?_push_of_some _ q) (Nat.le_refl _) (dt_empty s.heap I.big)
  refine wpAny_Dict_any rfl rfl (fun z => by cases z) (show 1 ≤ 15 by decide) ?_
  refine pairTrees_cons_walk (thn (hk.run pins _ σ _ _ I1 (q _ hn)) fun u s1 ⟨x, H1, I2, rx, q1⟩ => thn (hv.run pins s1 σ H1 _ I2 q1) fun u2 s2 ⟨y, H2, I3, ry, e, b, ks, ex, eb, q2⟩ => pairTrees_nil_walk ?_)
  subst ex
  obtain rfl : u = Value.ref b := rx
  refine (show wpAny _ _ (forIn [(Value.ref b, u2)] PUnit.unit fun (x : Value × Value) (_ : PUnit) => (do dictSet s.heap.objs.size x.1 x.2; pure (ForInStep.yield PUnit.unit) : Sem (ForInStep PUnit))) _ _ _ from ?_)
  rw [List.forIn_cons]
  refine wpAny_bind (wpAny_bind (set_first hu I3 e eb ry fun s3 I4 => wpAny_pure ?_))
  show wpAny _ _ (forIn ([] : List (Value × Value)) _ _) _ _ _
  rw [List.forIn_nil]
  exact wpAny_pure ⟨.ref s.heap.objs.size, _, I4, rfl, q2⟩⟩

/-! ### a written dict with whole numbers as keys -/
def IntKeys : List DictEntry → Prop
  | [] => True
  | e :: r => (∃ k t, e.key = .int k t ∧ e.hash = hashInt k) ∧ IntKeys r
theorem IntKeys.all : ∀ {l : List DictEntry}, IntKeys l → ∀ e ∈ l, ∃ k t, e.key = .int k t ∧ e.hash = hashInt k
  | _ :: _, ⟨h, _⟩, _, .head _ => h
  | _ :: _, ⟨_, r⟩, _, .tail _ m => r.all _ m
/-- at d: a written dict; f tells the value at a key -/
def KTab (K : PySem.W.Frag) (d : Addr) (f : Int → Option Value) : Prop := ∃ es n, K.lookup d = some ⟨.type "dict", none, .dict es n, #[]⟩ ∧ IntKeys es.toList ∧ ∀ k u, f k = some u → findBy Value.isInt es k = some u
theorem KTab.map {prog : Program} {w : World} {K : PySem.W.Frag} {d : Addr} {f : Int → Option Value} {h : Heap} (T : KTab K d f) (X : K.In h) : ∃ g, h.MapOf (intKind prog w) d g ∧ ∀ k u, f k = some u → g k = some u := by
  obtain ⟨es, n, hl, hk, hf⟩ := T
  refine ⟨fun k => findBy Value.isInt es k, ⟨_, es, n, X _ _ hl, ⟨rfl, rfl, rfl⟩, rfl, fun e he => ?_, fun _ => rfl⟩, hf⟩
  obtain ⟨k, t, e1, e2⟩ := hk.all e (Array.mem_toList_iff.mpr he)
  exact ⟨k, by rw [e1]; exact beq_self_eq_true k, e2⟩
/-- d[k], d a written dict -/
def tKGet (K : PySem.W.Frag) (td tk : TE) : TE := fun σ H Q => td σ H fun x H1 => tk σ H1 fun y H2 => ∃ (d : Addr) (k : Int) (f : Int → Option Value) (u : Value) (v : V), x = .ref d ∧ y = .int k ∧ KTab K d f ∧ f k = some u ∧ RelV v u ∧ Q v H2
theorem pe_kget {X : Cx} {o i : Expr} {pos : Pos} {td tk : TE} (ho : PE X o td) (hi : PE X i tk) (hs : NoSl i) : PE X (.Subscript o i pos) (tKGet X.K td tk) := ⟨fun pins s σ H Q I h => by
  refine subD_of PySem.F.slot_dict_getitem.lookup hs (thn (ho.run pins s σ H _ I h) fun u s1 ⟨x, H1, I1, rx, q1⟩ => thn (hi.run pins s1 σ H1 _ I1 q1) fun iv s2 ⟨y, H2, I2, ry, d, k, f, u2, v, ex, ey, T, ef, rv, q2⟩ => ?_)
  subst ex
  subst ey
  obtain rfl : u = Value.ref d := rx
  obtain ⟨t, rfl⟩ := ry
  obtain ⟨g, hm, hg⟩ := T.map (prog := X.prog) (w := X.w) I2.kIn
  exact ⟨hm.typeIs, wpAny_getItem_of (k := k) (beq_self_eq_true k) hm (hg k u2 ef) ⟨v, H2, I2.tok _, rv, q2⟩⟩⟩
end Crz
end
section
set_option Elab.async false
set_option maxRecDepth 100000
set_option maxHeartbeats 2000000
set_option linter.all false
namespace Cr
open PySem PySem.Spec PyProof.Rows L2
abbrev nv (n : Nat) : V := .int n
theorem nv_ints (ns : List Nat) : ns.map nv = (ns.map fun n : Nat => (n : Int)).map V.int := by rw [List.map_map]; rfl
theorem nv_inj : ∀ {a b : List Nat}, (a.map fun n : Nat => (n : Int)) = b.map (fun n : Nat => (n : Int)) → a = b
  | [], [], _ => rfl
  | [], _ :: _, h => by cases h
  | _ :: _, [], h => by cases h
  | x :: a, y :: b, h => by
    have h1 : (x : Int) = (y : Int) := (List.cons.inj h).1
    have h2 : x = y := by omega
    rw [h2, nv_inj (List.cons.inj h).2]
theorem lex_less : ∀ a b : List Nat, HT.lexLt (a.map fun n : Nat => (n : Int)) (b.map fun n : Nat => (n : Int)) = Wf04.less a b
  | [], [] => rfl
  | [], _ :: _ => rfl
  | _ :: _, [] => rfl
  | x :: a, y :: b => by
    show (if (x : Int) = (y : Int) then HT.lexLt (a.map _) (b.map _) else decide ((x : Int) < (y : Int))) = (decide (x < y) || (x == y && Wf04.less a b))
    rw [lex_less a b]
    by_cases h : x = y
    · subst h; simp
    · have h' : ¬ (x : Int) = (y : Int) := by omega
      rw [if_neg h']
      by_cases q : x < y
      · rw [decide_eq_true q, decide_eq_true (by omega)]; rfl
      · rw [decide_eq_false q, decide_eq_false (by omega)]; simp [h]
section
variable {X : Cx}
/-- xs == ys, lists of whole numbers -/
def rEqN (K : PySem.W.Frag) : R2 := fun x y H Q => ∃ (a b : Addr) (ns ms : List Nat), x = .ref a ∧ y = .ref b ∧ SqL K H a (ns.map nv) ∧ SqL K H b (ms.map nv) ∧ Q (.bl (decide (ns = ms))) H
theorem dp_ints {K : PySem.W.Frag} {H : Hp} : ∀ ns : List Int, DpAll K H (ns.map V.int) (ns.map PyData.int)
  | [] => .nil
  | n :: ns => .cons (.int n) (dp_ints ns)
theorem op_eqN (hu : X.A.units + 64 < cLine) : OpR X (compareOp .Eq) (rEqN X.K) := by
  intro pins s σ H x y v u Q I rx ry h
  obtain ⟨a, b, ns, ms, rfl, rfl, ha, hb, q⟩ := h
  refine op_eqD hu pins s σ H _ _ v u Q I rx ry ⟨.list ((ns.map fun n : Nat => (n : Int)).map PyData.int), .list ((ms.map fun n : Nat => (n : Int)).map PyData.int), .lst (by rw [← nv_ints]; exact ha) (dp_ints _), .lst (by rw [← nv_ints]; exact hb) (dp_ints _), PySem.W.shaped_ints _, PySem.W.shaped_ints _, ?_⟩
  have e : PyData.eqv (.list ((ns.map fun n : Nat => (n : Int)).map PyData.int)) (.list ((ms.map fun n : Nat => (n : Int)).map PyData.int)) = decide (ns = ms) := by
    rw [PyData.eqv, PySem.W.ked_eqvAll]
    by_cases h : ns = ms
    · rw [decide_eq_true h, h]; simp
    · rw [decide_eq_false h]; exact decide_eq_false fun e => h (nv_inj e)
  rw [e]; exact q
/-- t < u, tuples of whole numbers -/
def rLtN (K : PySem.W.Frag) : R2 := fun x y H Q => ∃ (a b : Addr) (ns ms : List Nat), x = .ref a ∧ y = .ref b ∧ SqT K H a (ns.map nv) ∧ SqT K H b (ms.map nv) ∧ Q (.bl (Wf04.less ns ms)) H
theorem op_ltN (hu : X.A.units < cLine) : OpR X (compareOp .Lt) (rLtN X.K) := by
  intro pins s σ H x y v u Q I rx ry h
  obtain ⟨a, b, ns, ms, rfl, rfl, ha, hb, q⟩ := h
  refine op_ltT hu pins s σ H _ _ v u Q I rx ry ⟨a, b, _, _, rfl, rfl, by rw [← nv_ints]; exact ha, by rw [← nv_ints]; exact hb, ?_⟩
  rw [lex_less]; exact q
/-- d.setdefault(k, x), k a tuple -/
def rSetdT : V → List V → Hp → VK → Prop := fun x xs H Q => ∃ (a : Addr) (kvs : List (List L2.Key × V)) (k : List L2.Key) (b : Addr) (d : V), x = .ref a ∧ xs = [.ref b, d] ∧ H a = some (.dT kvs) ∧ H b = some (.tup (k.map kV)) ∧ kvs.length < sizeLine ∧
  (∀ v, valV kvs k = some v → Q v H) ∧ (valV kvs k = none → Q d (upd H a (.dT (putK kvs k d))))
theorem mt_setdT (hu : X.A.units + 1 < cLine) : MtR X "dict.setdefault" rSetdT := by
  intro pins s σ H x xs v us Q I rx rxs h
  obtain ⟨a, kvs, k, b, d, rfl, rfl, ha, hb, hl, q1, q2⟩ := h
  cases rx
  obtain ⟨u1, u2, rfl, r1, r2⟩ := vals2 rxs
  cases r1
  obtain ⟨z, hd, xs', rel, dd⟩ := dt_of I.hok ha
  have hz : xs'.length ≤ sizeLine := by rw [← Paired.length rel]; exact z
  refine call_meetsIn PySem.F.slot_dict_setdefault dd.typeIs PySem.F.entry_dict_setdefault (PySem.F.args_dict_setdefault_3 _ _ _) (meetsH_dict_setdefault (tupleKind (mixKind X.prog X.w)) a b hd u2)
    ⟨tupleKind_room_in1 hu, k, xs', key_of I.hok hb, dd, hz, fun p hp => ?_, fun hn h' dd' hs => ?_⟩
  · have r := rel.val k
    rw [hp] at r
    obtain ⟨v0, ev, rv⟩ : ∃ v0, valV kvs k = some v0 ∧ RelV v0 p.2 := by
      cases ev : valV kvs k with
      | none =>
        rw [ev] at r
        exact (show False from r).elim
      | some v0 =>
        rw [ev] at r
        exact ⟨v0, rfl, r⟩
    show EP X pins σ Q p.2 _
    exact ⟨v0, H, I.tok _, rv, q1 v0 ev⟩
  · have r := rel.val k
    rw [hn] at r
    have e : valV kvs k = none := by
      cases ev : valV kvs k with
      | none => rfl
      | some v0 =>
        rw [ev] at r
        exact (show False from r).elim
    obtain ⟨o, es, ep, hq, h2, h3, h4, _, h5⟩ := dd'
    have pt : KT H (putK kvs k d) (storedH xs' k b u2) := rel.put k hb r2
    have I2 : Inv X pins σ (upd H a (.dT (putK kvs k d))) { s with heap := h', toks := s.toks + (tupleKind (mixKind X.prog X.w)).draws k } :=
      d_write I (by rw [ha]; exact True.intro) hs ⟨o, hq⟩ ⟨by have := length_putK kvs k d; omega, hd, _, pt.keeps (fun c ys ec => (by rw [upd_ne (ne_of ec ha (fun z => nomatch z))]; exact ec)), o, es, ep, hq, h2, h3, h4, h5⟩
    show EP X pins σ Q u2 _
    exact ⟨d, _, I2, r2, q2 e⟩
theorem best_less (f : Nat → List Nat) : ∀ n, argBest (fun i j => Wf04.less (f i) (f j)) n ≤ n ∧ ∀ j, j ≤ n → Wf04.less (f j) (f (argBest (fun i j => Wf04.less (f i) (f j)) n)) = false
  | 0 => ⟨Nat.le_refl _, fun j hj => by
    have : j = 0 := by omega
    subst this; exact less_irrefl _⟩
  | n + 1 => by
    obtain ⟨h1, h2⟩ := best_less f n
    show (if Wf04.less (f (n + 1)) (f (argBest (fun i j => Wf04.less (f i) (f j)) n)) = true then n + 1 else argBest (fun i j => Wf04.less (f i) (f j)) n) ≤ n + 1 ∧ ∀ j, j ≤ n + 1 → Wf04.less (f j) (f (if Wf04.less (f (n + 1)) (f (argBest (fun i j => Wf04.less (f i) (f j)) n)) = true then n + 1 else argBest (fun i j => Wf04.less (f i) (f j)) n)) = false
    generalize argBest (fun i j => Wf04.less (f i) (f j)) n = b at h1 h2
    cases c : Wf04.less (f (n + 1)) (f b) with
    | true =>
      rw [if_pos rfl]
      refine ⟨Nat.le_refl _, fun j hj => ?_⟩
      rcases Nat.lt_or_ge j (n + 1) with q | q
      · cases e : Wf04.less (f j) (f (n + 1)) with
        | false => rfl
        | true => have := less_trans _ _ _ e c; rw [h2 j (by omega)] at this; cases this
      · have : j = n + 1 := by omega
        subst this; exact less_irrefl _
    | false =>
      rw [if_neg (by decide)]
      refine ⟨by omega, fun j hj => ?_⟩
      rcases Nat.lt_or_ge j (n + 1) with q | q
      · exact h2 j (by omega)
      · have : j = n + 1 := by omega
        subst this; exact c
/-- min(xs), a list of tuples of whole numbers -/
def rMinT (K : PySem.W.Frag) : List V → Hp → VK → Prop := fun vs H Q => ∃ (a : Addr) (ts : List (Addr × List Nat)), vs = [.ref a] ∧ SqL K H a (ts.map fun t => V.ref t.1) ∧ ts ≠ [] ∧ (∀ t ∈ ts, SqT K H t.1 (t.2.map nv)) ∧
  ∀ t ∈ ts, (∀ u ∈ ts, Wf04.less u.2 t.2 = false) → Q (.ref t.1) H
theorem cr_minT (hc : X.calm = true) (hu : X.A.units + 1 < cLine) : CallR X (.builtin "min") (rMinT X.K) := by
  intro pins s σ H vs us Q I r h
  obtain ⟨a, ts, rfl, hs, hne, ht, q⟩ := h
  obtain ⟨its, rv, hl, _⟩ := I.list hs
  rw [Vals.ref1 r]
  have hlen : its.length = ts.length := by have := rv.length; rw [List.length_map] at this; exact this.symm
  have item : ∀ (i : Nat) (v : Value), its.toArray[i]? = some v → ∃ t, ts[i]? = some t ∧ t ∈ ts ∧ v = .ref t.1 ∧ ∃ ws : List Value, IsTup s.heap t.1 ws.toArray ∧ IntsAre ws.toArray.toList (t.2.map fun n : Nat => (n : Int)) := by
    intro i v hv
    have hv' : its[i]? = some v := by simpa using hv
    have hi : i < ts.length := by rw [← hlen]; exact (List.getElem?_eq_some_iff.1 hv').1
    have gi : ts[i]? = some ts[i] := List.getElem?_eq_getElem hi
    have gv : (ts.map fun t => V.ref t.1)[i]? = some (V.ref ts[i].1) := by rw [List.getElem?_map, gi]; rfl
    obtain ⟨u, hu', ru⟩ := rv.get gv
    rw [hv'] at hu'
    cases hu'
    cases ru
    obtain ⟨ws, r1, p1, _⟩ := I.tuple (ht _ (List.getElem_mem hi))
    refine ⟨ts[i], gi, List.getElem_mem hi, rfl, ws, p1, ?_⟩
    rw [nv_ints] at r1
    exact L2.intsAre_of r1
  refine call_min_walkH (PySem.W.iter_listW (A := X.A.in1) (I.ok.hd hc) hl.isList fun s₂ e W st hfp hw hk => ?_)
  refine ⟨_, _, _, _, _, _, _, s.heap, (fun i j => Wf04.less ((ts.map fun t => t.2).getD i []) ((ts.map fun t => t.2).getD j [])), rfl, W, st, hfp, ?_, hw, hk, ?_, fun v s' hP m => ?_⟩
  · have : 0 < ts.length := List.length_pos_iff.2 hne
    simp only [List.size_toArray]; omega
  · intro i j vi vj s1 Q1 E1 hk1 hi hj hq
    obtain ⟨t, gt, mt, rfl, ws, p1, i1⟩ := item i vi hi
    obtain ⟨t', gt', mt', rfl, ws', p2, i2⟩ := item j vj hj
    refine HT.lt_tupInts (p1.keeps hk1) (p2.keeps hk1) i1 i2 hu ?_
    rw [lex_less]
    have e1 : (ts.map fun t => t.2).getD i [] = t.2 := by rw [List.getD_eq_getElem?_getD, List.getElem?_map, gt]; rfl
    have e2 : (ts.map fun t => t.2).getD j [] = t'.2 := by rw [List.getD_eq_getElem?_getD, List.getElem?_map, gt']; rfl
    dsimp only at hq
    rw [e1, e2] at hq; exact hq
  · obtain ⟨h', tk, rfl, hk'⟩ := PySem.W.moved_old e rfl m
    obtain ⟨t, gt, mt, rfl, _⟩ := item _ v hP
    have bl := (best_less (fun i => (ts.map fun t => t.2).getD i []) (its.toArray.size - 1)).2
    refine ⟨.ref t.1, H, I.kept hk', rfl, q t mt fun u hu => ?_⟩
    obtain ⟨j, hj, rfl⟩ := List.mem_iff_getElem.1 hu
    have := bl j (by simp only [List.size_toArray]; omega)
    have e1 : (ts.map fun t => t.2).getD j [] = ts[j].2 := by rw [List.getD_eq_getElem?_getD, List.getElem?_map, List.getElem?_eq_getElem hj]; rfl
    rw [e1] at this
    have e2 : (ts.map fun t => t.2).getD (argBest (fun i j => Wf04.less ((ts.map fun t => t.2).getD i []) ((ts.map fun t => t.2).getD j [])) (its.toArray.size - 1)) [] = t.2 := by rw [List.getD_eq_getElem?_getD, List.getElem?_map, gt]; rfl
    rw [e2] at this
    exact this
end
end Cr
end
section
set_option Elab.async false
set_option maxRecDepth 100000
set_option maxHeartbeats 2000000
namespace Cr
open PySem PySem.Spec PyProof.Rows L2
def top (i : Nat) : Stmt := PySem.Challenge.pw_caserules_s01_answers.main.body.getD i (.Pass ⟨0, 0, 0, 0⟩)
-- 0 __name__ = 'caserules.kinds'
-- 1 STEPS = 5
-- 2 MOST_TIMES = 3
-- 3 AT_LEAST = 0
-- 4 AT_MOST = 1
-- 5 FIRST = 2
-- 6 LAST = 3
-- 7 LATER = 4
-- 8 AHEAD = 5
-- 9 RIGHT_BEHIND = 6
-- 10 NOT_BOTH = 7
-- 11 BETWEEN = 8
-- 12 BROKEN = 0
-- 13 KEPT = 1
-- 14 VERDICTS = {2: (0, 1, 0), 3: (0, 1), 4: (2, 0, 1), 5: (2, 2, 1, 0), 6: (2, 0, 1,
abbrev s_is_step : Stmt := top 15
theorem sc_is_step : FnScope ["number"] ["number"] (defScope s_is_step) := ⟨rfl, rfl, rfl, by decide +kernel, rfl, by decide +kernel, by decide +kernel⟩
abbrev s_is_form : Stmt := top 16
theorem sc_is_form : FnScope ["row"] ["row"] (defScope s_is_form) := ⟨rfl, rfl, rfl, by decide +kernel, rfl, by decide +kernel, by decide +kernel⟩
abbrev s_after_counted : Stmt := top 17
theorem sc_after_counted : FnScope ["state", "step", "a"] ["state", "step", "a"] (defScope s_after_counted) := ⟨rfl, rfl, rfl, by decide +kernel, rfl, by decide +kernel, by decide +kernel⟩
abbrev s_after_first : Stmt := top 18
theorem sc_after_first : FnScope ["state", "step", "a"] ["state", "step", "a"] (defScope s_after_first) := ⟨rfl, rfl, rfl, by decide +kernel, rfl, by decide +kernel, by decide +kernel⟩
abbrev s_after_last : Stmt := top 19
theorem sc_after_last : FnScope ["step", "a"] ["step", "a"] (defScope s_after_last) := ⟨rfl, rfl, rfl, by decide +kernel, rfl, by decide +kernel, by decide +kernel⟩
abbrev s_after_later : Stmt := top 20
theorem sc_after_later : FnScope ["state", "step", "a", "b"] ["state", "step", "a", "b"] (defScope s_after_later) := ⟨rfl, rfl, rfl, by decide +kernel, rfl, by decide +kernel, by decide +kernel⟩
abbrev s_after_ahead : Stmt := top 21
theorem sc_after_ahead : FnScope ["state", "step", "a", "b"] ["state", "step", "a", "b"] (defScope s_after_ahead) := ⟨rfl, rfl, rfl, by decide +kernel, rfl, by decide +kernel, by decide +kernel⟩
abbrev s_after_right_behind : Stmt := top 22
theorem sc_after_right_behind : FnScope ["state", "step", "a", "b"] ["state", "step", "a", "b"] (defScope s_after_right_behind) := ⟨rfl, rfl, rfl, by decide +kernel, rfl, by decide +kernel, by decide +kernel⟩
abbrev s_after_not_both : Stmt := top 23
theorem sc_after_not_both : FnScope ["state", "step", "a", "b"] ["state", "step", "a", "b"] (defScope s_after_not_both) := ⟨rfl, rfl, rfl, by decide +kernel, rfl, by decide +kernel, by decide +kernel⟩
abbrev s_after_between : Stmt := top 24
theorem sc_after_between : FnScope ["state", "step", "a", "b"] ["state", "step", "a", "b"] (defScope s_after_between) := ⟨rfl, rfl, rfl, by decide +kernel, rfl, by decide +kernel, by decide +kernel⟩
abbrev s_state_after : Stmt := top 25
theorem sc_state_after : FnScope ["rule", "state", "step", "kind", "a", "b"] ["rule", "state", "step"] (defScope s_state_after) := ⟨rfl, rfl, rfl, by decide +kernel, rfl, by decide +kernel, by decide +kernel⟩
abbrev s_verdict_in : Stmt := top 26
theorem sc_verdict_in : FnScope ["rule", "state", "kind"] ["rule", "state"] (defScope s_verdict_in) := ⟨rfl, rfl, rfl, by decide +kernel, rfl, by decide +kernel, by decide +kernel⟩
-- 27 __name__ = 'caserules.near'
abbrev s_Making_init : Stmt := inClass (top 28) 0
theorem sc_Making_init : FnScope ["self", "spots", "given"] ["self", "spots", "given"] (defScope s_Making_init) := ⟨rfl, rfl, rfl, by decide +kernel, rfl, by decide +kernel, by decide +kernel⟩
abbrev s_Making_put : Stmt := inClass (top 28) 1
theorem sc_Making_put : FnScope ["self", "far", "stand", "made", "front"] ["self", "far", "stand", "made"] (defScope s_Making_put) := ⟨rfl, rfl, rfl, by decide +kernel, rfl, by decide +kernel, by decide +kernel⟩
abbrev s_Making_take : Stmt := inClass (top 28) 2
theorem sc_Making_take : FnScope ["self", "far", "length", "front", "taken", "stand"] ["self", "far", "length"] (defScope s_Making_take) := ⟨rfl, rfl, rfl, by decide +kernel, rfl, by decide +kernel, by decide +kernel⟩
abbrev s_Making_is_end : Stmt := inClass (top 28) 3
theorem sc_Making_is_end : FnScope ["self", "stand"] ["self", "stand"] (defScope s_Making_is_end) := ⟨rfl, rfl, rfl, by decide +kernel, rfl, by decide +kernel, by decide +kernel⟩
abbrev s_Making_go_further : Stmt := inClass (top 28) 4
theorem sc_Making_go_further : FnScope ["self", "far", "stand", "made", "place", "further", "kept", "step"] ["self", "far", "stand", "made"] (defScope s_Making_go_further) := ⟨rfl, rfl, rfl, by decide +kernel, rfl, by decide +kernel, by decide +kernel⟩
abbrev s_Making_nearest_of_length : Stmt := inClass (top 28) 5
theorem sc_Making_nearest_of_length : FnScope ["self", "far", "length", "taken", "ends", "stand"] ["self", "far", "length"] (defScope s_Making_nearest_of_length) := ⟨rfl, rfl, rfl, by decide +kernel, rfl, by decide +kernel, by decide +kernel⟩
abbrev s_nearest_row : Stmt := top 29
theorem sc_nearest_row : FnScope ["spots", "given", "making", "far", "length", "row"] ["spots", "given"] (defScope s_nearest_row) := ⟨rfl, rfl, rfl, by decide +kernel, rfl, by decide +kernel, by decide +kernel⟩
-- 30 __name__ = 'caserules.search'
abbrev s_first_states : Stmt := top 31
theorem sc_first_states : FnScope ["rules", "rule"] ["rules"] (defScope s_first_states) := ⟨rfl, rfl, rfl, by decide +kernel, rfl, by decide +kernel, by decide +kernel⟩
abbrev s_states_after : Stmt := top 32
theorem sc_states_after : FnScope ["rules", "states", "step", "rule", "state"] ["rules", "states", "step"] (defScope s_states_after) := ⟨rfl, rfl, rfl, by decide +kernel, rfl, by decide +kernel, by decide +kernel⟩
abbrev s_verdicts_in : Stmt := top 33
theorem sc_verdicts_in : FnScope ["rules", "states", "rule", "state"] ["rules", "states"] (defScope s_verdicts_in) := ⟨rfl, rfl, rfl, by decide +kernel, rfl, by decide +kernel, by decide +kernel⟩
abbrev s_verdicts_of : Stmt := top 34
theorem sc_verdicts_of : FnScope ["rules", "row", "states", "step"] ["rules", "row"] (defScope s_verdicts_of) := ⟨rfl, rfl, rfl, by decide +kernel, rfl, by decide +kernel, by decide +kernel⟩
abbrev s_broken_in : Stmt := top 35
theorem sc_broken_in : FnScope ["verdicts", "which", "verdict"] ["verdicts"] (defScope s_broken_in) := ⟨rfl, rfl, rfl, by decide +kernel, rfl, by decide +kernel, by decide +kernel⟩
abbrev s_Spots_init : Stmt := inClass (top 36) 0
theorem sc_Spots_init : FnScope ["self", "rules"] ["self", "rules"] (defScope s_Spots_init) := ⟨rfl, rfl, rfl, by decide +kernel, rfl, by decide +kernel, by decide +kernel⟩
abbrev s_Spots_number_of : Stmt := inClass (top 36) 1
theorem sc_Spots_number_of : FnScope ["self", "states", "row"] ["self", "states", "row"] (defScope s_Spots_number_of) := ⟨rfl, rfl, rfl, by decide +kernel, rfl, by decide +kernel, by decide +kernel⟩
abbrev s_Spots_go_further : Stmt := inClass (top 36) 2
theorem sc_Spots_go_further : FnScope ["self", "spot", "reached", "step", "states"] ["self", "spot"] (defScope s_Spots_go_further) := ⟨rfl, rfl, rfl, by decide +kernel, rfl, by decide +kernel, by decide +kernel⟩
abbrev s_earliest_row : Stmt := top 37
theorem sc_earliest_row : FnScope ["spots", "wanted", "row", "broken"] ["spots", "wanted"] (defScope s_earliest_row) := ⟨rfl, rfl, rfl, by decide +kernel, rfl, by decide +kernel, by decide +kernel⟩
abbrev s_ways_further : Stmt := top 38
theorem sc_ways_further : FnScope ["spots", "ways", "longer", "spot", "reached"] ["spots", "ways"] (defScope s_ways_further) := ⟨rfl, rfl, rfl, by decide +kernel, rfl, by decide +kernel, by decide +kernel⟩
abbrev s_rows_that_keep_all : Stmt := top 39
theorem sc_rows_that_keep_all : FnScope ["spots", "many", "ways", "turn", "spot"] ["spots", "many"] (defScope s_rows_that_keep_all) := ⟨rfl, rfl, rfl, by decide +kernel, rfl, by decide +kernel, by decide +kernel⟩
-- 40 __name__ = 'caserules.together'
abbrev s_one_larger : Stmt := top 41
theorem sc_one_larger : FnScope ["chosen", "many", "first", "which"] ["chosen", "many"] (defScope s_one_larger) := ⟨rfl, rfl, rfl, by decide +kernel, rfl, by decide +kernel, by decide +kernel⟩
abbrev s_sets_in_order : Stmt := top 42
theorem sc_sets_in_order : FnScope ["many", "told", "front", "larger", "chosen"] ["many"] (defScope s_sets_in_order) := ⟨rfl, rfl, rfl, by decide +kernel, rfl, by decide +kernel, by decide +kernel⟩
abbrev s_holds_all : Stmt := top 43
theorem sc_holds_all : FnScope ["chosen", "part", "which"] ["chosen", "part"] (defScope s_holds_all) := ⟨rfl, rfl, rfl, by decide +kernel, rfl, by decide +kernel, by decide +kernel⟩
abbrev s_can_be_kept : Stmt := top 44
theorem sc_can_be_kept : FnScope ["spots", "chosen", "broken", "which"] ["spots", "chosen"] (defScope s_can_be_kept) := ⟨rfl, rfl, rfl, by decide +kernel, rfl, by decide +kernel, by decide +kernel⟩
abbrev s_clashes_of : Stmt := top 45
theorem sc_clashes_of : FnScope ["spots", "many", "found", "chosen", "known", "clash"] ["spots", "many"] (defScope s_clashes_of) := ⟨rfl, rfl, rfl, by decide +kernel, rfl, by decide +kernel, by decide +kernel⟩
abbrev s_spare_of : Stmt := top 46
theorem sc_spare_of : FnScope ["spots", "many", "which"] ["spots", "many"] (defScope s_spare_of) := ⟨rfl, rfl, rfl, by decide +kernel, rfl, by decide +kernel, by decide +kernel⟩
-- 47 __name__ = 'caserules.house'
-- 48 BEGINS = 0
-- 49 RULE = 1
-- 50 DROP = 2
-- 51 JUDGE = 3
-- 52 SHORTEST = 4
-- 53 COUNT = 5
-- 54 CLASHES = 6
-- 55 SPARE = 7
-- 56 BREAKS = 8
-- 57 NEAREST = 9
-- 58 MOST_RULES = 4
-- 59 LONGEST_ROW = 8
-- 60 MOST_COUNTED = 10
-- 61 WRONG_FORM = -1
-- 62 NO_SUCH_RULE = -2
-- 63 NO_SUCH_ROW = -6
-- 64 TOO_MANY_RULES = -7
abbrev s_House_init : Stmt := inClass (top 66) 0
theorem sc_House_init : FnScope ["self"] ["self"] (defScope s_House_init) := ⟨rfl, rfl, rfl, by decide +kernel, rfl, by decide +kernel, by decide +kernel⟩
abbrev s_House_begins : Stmt := inClass (top 66) 1
theorem sc_House_begins : FnScope ["self"] ["self"] (defScope s_House_begins) := ⟨rfl, rfl, rfl, by decide +kernel, rfl, by decide +kernel, by decide +kernel⟩
abbrev s_House_add_rule : Stmt := inClass (top 66) 2
theorem sc_House_add_rule : FnScope ["self", "row"] ["self", "row"] (defScope s_House_add_rule) := ⟨rfl, rfl, rfl, by decide +kernel, rfl, by decide +kernel, by decide +kernel⟩
abbrev s_House_drop : Stmt := inClass (top 66) 3
theorem sc_House_drop : FnScope ["self", "which"] ["self", "which"] (defScope s_House_drop) := ⟨rfl, rfl, rfl, by decide +kernel, rfl, by decide +kernel, by decide +kernel⟩
abbrev s_House_judge : Stmt := inClass (top 66) 4
theorem sc_House_judge : FnScope ["self", "steps", "verdicts"] ["self", "steps"] (defScope s_House_judge) := ⟨rfl, rfl, rfl, by decide +kernel, rfl, by decide +kernel, by decide +kernel⟩
abbrev s_House_shortest : Stmt := inClass (top 66) 5
theorem sc_House_shortest : FnScope ["self"] ["self"] (defScope s_House_shortest) := ⟨rfl, rfl, rfl, by decide +kernel, rfl, by decide +kernel, by decide +kernel⟩
abbrev s_House_count : Stmt := inClass (top 66) 6
theorem sc_House_count : FnScope ["self", "many"] ["self", "many"] (defScope s_House_count) := ⟨rfl, rfl, rfl, by decide +kernel, rfl, by decide +kernel, by decide +kernel⟩
abbrev s_House_clashes : Stmt := inClass (top 66) 7
theorem sc_House_clashes : FnScope ["self", "found", "told", "clash"] ["self"] (defScope s_House_clashes) := ⟨rfl, rfl, rfl, by decide +kernel, rfl, by decide +kernel, by decide +kernel⟩
abbrev s_House_spare : Stmt := inClass (top 66) 8
theorem sc_House_spare : FnScope ["self", "found"] ["self"] (defScope s_House_spare) := ⟨rfl, rfl, rfl, by decide +kernel, rfl, by decide +kernel, by decide +kernel⟩
abbrev s_House_breaks : Stmt := inClass (top 66) 9
theorem sc_House_breaks : FnScope ["self", "which"] ["self", "which"] (defScope s_House_breaks) := ⟨rfl, rfl, rfl, by decide +kernel, rfl, by decide +kernel, by decide +kernel⟩
abbrev s_House_nearest : Stmt := inClass (top 66) 10
theorem sc_House_nearest : FnScope ["self", "steps", "found"] ["self", "steps"] (defScope s_House_nearest) := ⟨rfl, rfl, rfl, by decide +kernel, rfl, by decide +kernel, by decide +kernel⟩
abbrev s_told_row : Stmt := top 67
theorem sc_told_row : FnScope ["row"] ["row"] (defScope s_told_row) := ⟨rfl, rfl, rfl, by decide +kernel, rfl, by decide +kernel, by decide +kernel⟩
abbrev s_is_row : Stmt := top 68
theorem sc_is_row : FnScope ["steps", "step"] ["steps"] (defScope s_is_row) := ⟨rfl, rfl, rfl, by decide +kernel, rfl, by decide +kernel, by decide +kernel⟩
abbrev s_row_at : Stmt := top 69
theorem sc_row_at : FnScope ["calls", "place", "first"] ["calls", "place"] (defScope s_row_at) := ⟨rfl, rfl, rfl, by decide +kernel, rfl, by decide +kernel, by decide +kernel⟩
abbrev s_answer_at : Stmt := top 70
theorem sc_answer_at : FnScope ["house", "calls", "place", "call"] ["house", "calls", "place"] (defScope s_answer_at) := ⟨rfl, rfl, rfl, by decide +kernel, rfl, by decide +kernel, by decide +kernel⟩
abbrev s_place_behind : Stmt := top 71
theorem sc_place_behind : FnScope ["calls", "place", "call"] ["calls", "place"] (defScope s_place_behind) := ⟨rfl, rfl, rfl, by decide +kernel, rfl, by decide +kernel, by decide +kernel⟩
abbrev s_answers : Stmt := top 72
theorem sc_answers : FnScope ["calls", "house", "told", "place", "answer"] ["calls"] (defScope s_answers) := ⟨rfl, rfl, rfl, by decide +kernel, rfl, by decide +kernel, by decide +kernel⟩
end Cr
end
section
set_option Elab.async false
set_option maxRecDepth 100000
set_option maxHeartbeats 2000000
set_option linter.all false
namespace Cr
open PySem PySem.Spec PyProof.Rows L2
/-- the def st stands under its name -/
def Has (K : PySem.W.Frag) (mg : Str → Option Value) (nm : Str) (st : Stmt) : Prop := ∃ f fd, Fun K nm nm st f fd ∧ mg nm = some (.ref f)
/-- a def that keeps a promise, ready to be called by its name -/
def Cal (P : Program) (w : World) (K : PySem.W.Frag) (mg : Str → Option Value) (base : Heap) (k : Nat) (nm : Str) (ps : List Str) (sp : Sp) : Prop :=
  ∃ f fd, FnOk P w K mg base CX0 k f fd ps sp ∧ mg nm = some (.ref f) ∧ PySem.W.keepIn K (.ref f) = true ∧ Binds K fd ps []
section
variable {P : Program} {w : World} {K : PySem.W.Frag} {mg : Str → Option Value} {base : Heap}
theorem Cal.mono {j k : Nat} {nm : Str} {ps : List Str} {sp : Sp} (C : Cal P w K mg base j nm ps sp) (h : j ≤ k) : Cal P w K mg base k nm ps sp := by
  obtain ⟨f, fd, F, g, kp, b⟩ := C
  exact ⟨f, fd, F.mono h, g, kp, b⟩
theorem Has.cal {nm : Str} {st : Stmt} {N ps : List Str} {k : Nat} {sp : Sp} (D : Has K mg nm st) (S : FnScope N ps (defScope st))
    (hb : ∀ (kV doc pm : Value) (an : Option Addr) (cdv ct : Value) (us : List Value), us.length = ps.length → bindArgs (PySem.W.fnOf nm nm (defArgs st) (defBody st) (defScope st) .none kV doc pm an cdv ct) ⟨us, []⟩ = pure (ps.zip us))
    (len : ∀ vs H Q E, sp vs H Q E → vs.length = ps.length)
    (hbody : ∀ (f : Addr) (cdv : Value) (A : Around) (outer : List Env) (s : Shared) (H : Hp) (vs : List V) (Q : VK) (E : XK), Room k (A.deeper (envOfC nm (defScope st) s.heap.objs.size f cdv)) → sp vs H Q E →
      ∃ t, PSs (cxOf CX0 P w K mg base N nm (defScope st) f cdv A outer s H E).nox (defBody st) t ∧ t { nx := fun _ H' => Q .non H', rt := Q } (start N vs) H) : Cal P w K mg base (k + 1) nm ps sp := by
  obtain ⟨f, fd, F, g⟩ := D
  exact ⟨f, fd, F.ok S len (hbody f), g, F.kp, F.binds hb⟩
end
/-- f(e, ..) of such a def -/
theorem pe_cal {X : Cx} {k : Nat} {x : Str} {ps : List Str} {sp : Sp} {e : Expr} {es : List Expr} {t : TA} {p pos : Pos} (C : Cal X.prog X.w X.K X.mg X.base k x ps sp) (hr : Room k X.A) (ha : PA X (e :: es) t) (hg : Gl X x := by rfl)
    (hdb : (x == ("__debug__" : Str)) = false := by decide) (he : starEach (e :: es) X.env = (false, eval e X.env) :: starEach es X.env := by rfl) (hpl : (backTo pos (starEach es X.env)).any (·.1) = false := by rfl) :
    PE X (.Call (.Name x p) (e :: es) [] pos) (tCall sp [] E0 t) := by
  obtain ⟨f, fd, F, g, kp, b⟩ := C
  exact pe_call F hr hg g kp b .nil pass0 ha hdb he hpl

theorem bnot_if {p : Prop} [Decidable p] {A B : Prop} : (if (!decide p) = true then A else B) = (if p then B else A) := by
  by_cases h : p
  · rw [if_pos h, decide_eq_true h]; rfl
  · rw [if_neg h, decide_eq_false h]; rfl
/-- a name of the top that stands for a number -/
theorem pe_num {X : Cx} {x : Str} {n : Int} {pos : Pos} (h : ∃ t, X.mg x = some (.int n t)) (hg : Gl X x := by rfl) (hd : (x == ("__debug__" : Str)) = false := by decide) : PE X (.Name x pos) (tC (.int n)) := by
  obtain ⟨t, h⟩ := h
  exact pe_glob (v := .int n) hg h ⟨t, rfl⟩ hd
end Cr
end
section
set_option Elab.async false
set_option maxRecDepth 100000
set_option maxHeartbeats 2000000
set_option linter.all false
namespace Cr
open PySem PySem.Spec PyProof.Rows L2
/-- what the top's names stand for -/
structure Con (mg : Str → Option Value) : Prop where
  STEPS : ∃ t, mg "STEPS" = some (.int 5 t)
  MOST_TIMES : ∃ t, mg "MOST_TIMES" = some (.int 3 t)
  AT_LEAST : ∃ t, mg "AT_LEAST" = some (.int 0 t)
  AT_MOST : ∃ t, mg "AT_MOST" = some (.int 1 t)
  FIRST : ∃ t, mg "FIRST" = some (.int 2 t)
  LAST : ∃ t, mg "LAST" = some (.int 3 t)
  LATER : ∃ t, mg "LATER" = some (.int 4 t)
  AHEAD : ∃ t, mg "AHEAD" = some (.int 5 t)
  RIGHT_BEHIND : ∃ t, mg "RIGHT_BEHIND" = some (.int 6 t)
  NOT_BOTH : ∃ t, mg "NOT_BOTH" = some (.int 7 t)
  BETWEEN : ∃ t, mg "BETWEEN" = some (.int 8 t)
  BROKEN : ∃ t, mg "BROKEN" = some (.int 0 t)
  KEPT : ∃ t, mg "KEPT" = some (.int 1 t)
section
variable {P : Program} {w : World} {K : PySem.W.Frag} {mg : Str → Option Value} {base : Heap}

def sp_is_step : Sp := fun vs H Q _ => ∃ n : Nat, vs = [.int n] ∧ Q (.bl (decide (n < 5))) H
theorem ok_is_step (T : Con mg) (D : Has K mg "is_step" s_is_step) : Cal P w K mg base 1 "is_step" ["number"] sp_is_step := by
  refine D.cal sc_is_step (fun _ _ _ _ _ _ us hl => match us, hl with | [_], _ => rfl) (fun vs H Q E h => ?_) (fun f cdv A outer s H vs Q E hr h => ?_)
  · obtain ⟨n, rfl, _⟩ := h; rfl
  · obtain ⟨n, rfl, q⟩ := h
    refine ⟨_, pss_one (ps_ret (pe_cmpR op_lt (pv 0) (pe_num T.STEPS) (nomark _))), ?_⟩
    simp only [tSeq, tIfS, tAnd, tOr, tNot, tTest, tB, tOp, rI0, rEq, rNe, scal, tVar, tC, tRet, tNext, tAsg, gName, tIf, tAndV, tOrV, tNotV, L2.start, tCall, tCons, tNil, tDrop, bnot_if, ↓reduceIte, List.map_cons, List.map_nil, List.cons_append, List.nil_append, List.length_cons, List.length_nil, List.replicate_succ, List.replicate_zero, Nat.reduceAdd, Nat.reduceSub, Nat.sub_self, List.getElem?_cons_zero, List.getElem?_cons_succ, List.set_cons_zero, List.set_cons_succ, Option.some.injEq, exists_eq_left', exists_eq_left, V.int.injEq, V.bl.injEq, decide_eq_true_eq, true_and, and_true, Nat.zero_add, List.append_nil, exists_eq, exists_and_left, exists_const, reduceCtorEq, Bool.false_eq_true, if_true_left, V.ref.injEq]
    have e : decide ((n : Int) < 5) = decide (n < 5) := by simp; omega
    rw [e]; exact q

def sp_after_counted : Sp := fun vs H Q _ => ∃ x c a : Nat, vs = [.int x, .int c, .int a] ∧ Q (.int (if c = a ∧ x ≤ 3 then x + 1 else x : Nat)) H
theorem ok_after_counted (T : Con mg) (D : Has K mg "after_counted" s_after_counted) : Cal P w K mg base 1 "after_counted" ["state", "step", "a"] sp_after_counted := by
  refine D.cal sc_after_counted (fun _ _ _ _ _ _ us hl => match us, hl with | [_, _, _], _ => rfl) (fun vs H Q E h => ?_) (fun f cdv A outer s H vs Q E hr h => ?_)
  · obtain ⟨x, c, a, rfl, _⟩ := h; rfl
  · obtain ⟨x, c, a, rfl, q⟩ := h
    refine ⟨_, pss_cons (ps_if (PW.pt (pw_and (pt_cmpR op_eq (pv 1) (pv 2) (nomark _)) (pw_and1 (pt_cmpR op_le (pv 0) (pe_num T.MOST_TIMES) (nomark _))))) (pss_one (ps_ret (pe_op op_add (pv 0) pe_int))) pss_nil) (pss_one (ps_ret (pv 0))), ?_⟩
    simp only [tSeq, tIfS, tAnd, tOr, tNot, tTest, tB, tOp, rI0, rEq, rNe, scal, tVar, tC, tRet, tNext, tAsg, gName, tIf, tAndV, tOrV, tNotV, L2.start, tCall, tCons, tNil, tDrop, bnot_if, ↓reduceIte, List.map_cons, List.map_nil, List.cons_append, List.nil_append, List.length_cons, List.length_nil, List.replicate_succ, List.replicate_zero, Nat.reduceAdd, Nat.reduceSub, Nat.sub_self, List.getElem?_cons_zero, List.getElem?_cons_succ, List.set_cons_zero, List.set_cons_succ, Option.some.injEq, exists_eq_left', exists_eq_left, V.int.injEq, V.bl.injEq, decide_eq_true_eq, true_and, and_true, Nat.zero_add, List.append_nil, exists_eq, exists_and_left, exists_const, reduceCtorEq, Bool.false_eq_true, if_true_left, V.ref.injEq]
    (repeat' split) <;> (refine cast (congrArg (fun z => Q (V.int z) H) ?_) q; (repeat' split) <;> omega)

def sp_after_first : Sp := fun vs H Q _ => ∃ x c a : Nat, vs = [.int x, .int c, .int a] ∧ Q (.int (if x ≠ 0 then x else if c = a then 1 else 2 : Nat)) H
theorem ok_after_first (D : Has K mg "after_first" s_after_first) : Cal P w K mg base 1 "after_first" ["state", "step", "a"] sp_after_first := by
  refine D.cal sc_after_first (fun _ _ _ _ _ _ us hl => match us, hl with | [_, _, _], _ => rfl) (fun vs H Q E h => ?_) (fun f cdv A outer s H vs Q E hr h => ?_)
  · obtain ⟨x, c, a, rfl, _⟩ := h; rfl
  · obtain ⟨x, c, a, rfl, q⟩ := h
    refine ⟨_, pss_cons (ps_if (pt_cmpR op_ne (pv 0) pe_int (nomark _)) (pss_one (ps_ret (pv 0))) pss_nil) (pss_one (ps_ret (pe_ifExp (pt_cmpR op_eq (pv 1) (pv 2) (nomark _)) pe_int pe_int))), ?_⟩
    simp only [tSeq, tIfS, tAnd, tOr, tNot, tTest, tB, tOp, rI0, rEq, rNe, scal, tVar, tC, tRet, tNext, tAsg, gName, tIf, tAndV, tOrV, tNotV, L2.start, tCall, tCons, tNil, tDrop, bnot_if, ↓reduceIte, List.map_cons, List.map_nil, List.cons_append, List.nil_append, List.length_cons, List.length_nil, List.replicate_succ, List.replicate_zero, Nat.reduceAdd, Nat.reduceSub, Nat.sub_self, List.getElem?_cons_zero, List.getElem?_cons_succ, List.set_cons_zero, List.set_cons_succ, Option.some.injEq, exists_eq_left', exists_eq_left, V.int.injEq, V.bl.injEq, decide_eq_true_eq, true_and, and_true, Nat.zero_add, List.append_nil, exists_eq, exists_and_left, exists_const, reduceCtorEq, Bool.false_eq_true, if_true_left, V.ref.injEq]
    (repeat' split) <;> (refine cast (congrArg (fun z => Q (V.int z) H) ?_) q; (repeat' split) <;> omega)

def sp_after_last : Sp := fun vs H Q _ => ∃ c a : Nat, vs = [.int c, .int a] ∧ Q (.int (if c = a then 1 else 0 : Nat)) H
theorem ok_after_last (D : Has K mg "after_last" s_after_last) : Cal P w K mg base 1 "after_last" ["step", "a"] sp_after_last := by
  refine D.cal sc_after_last (fun _ _ _ _ _ _ us hl => match us, hl with | [_, _], _ => rfl) (fun vs H Q E h => ?_) (fun f cdv A outer s H vs Q E hr h => ?_)
  · obtain ⟨c, a, rfl, _⟩ := h; rfl
  · obtain ⟨c, a, rfl, q⟩ := h
    refine ⟨_, pss_one (ps_ret (pe_ifExp (pt_cmpR op_eq (pv 0) (pv 1) (nomark _)) pe_int pe_int)), ?_⟩
    simp only [tSeq, tIfS, tAnd, tOr, tNot, tTest, tB, tOp, rI0, rEq, rNe, scal, tVar, tC, tRet, tNext, tAsg, gName, tIf, tAndV, tOrV, tNotV, L2.start, tCall, tCons, tNil, tDrop, bnot_if, ↓reduceIte, List.map_cons, List.map_nil, List.cons_append, List.nil_append, List.length_cons, List.length_nil, List.replicate_succ, List.replicate_zero, Nat.reduceAdd, Nat.reduceSub, Nat.sub_self, List.getElem?_cons_zero, List.getElem?_cons_succ, List.set_cons_zero, List.set_cons_succ, Option.some.injEq, exists_eq_left', exists_eq_left, V.int.injEq, V.bl.injEq, decide_eq_true_eq, true_and, and_true, Nat.zero_add, List.append_nil, exists_eq, exists_and_left, exists_const, reduceCtorEq, Bool.false_eq_true, if_true_left, V.ref.injEq]
    (repeat' split) <;> (refine cast (congrArg (fun z => Q (V.int z) H) ?_) q; (repeat' split) <;> omega)

/-- a def of a state, a step and two steps -/
def sp4 (g : Nat → Nat → Nat → Nat → Nat) (top : Nat) : Sp := fun vs H Q _ => ∃ x c a b : Nat, vs = [.int x, .int c, .int a, .int b] ∧ x ≤ top ∧ Q (.int (g x c a b : Nat)) H
theorem ok_after_later (D : Has K mg "after_later" s_after_later) : Cal P w K mg base 1 "after_later" ["state", "step", "a", "b"] (sp4 (fun x c a b => pread (.later a b) x c) 2) := by
  refine D.cal sc_after_later (fun _ _ _ _ _ _ us hl => match us, hl with | [_, _, _, _], _ => rfl) (fun vs H Q E h => ?_) (fun f cdv A outer s H vs Q E hr h => ?_)
  · obtain ⟨x, c, a, b, rfl, _⟩ := h; rfl
  · obtain ⟨x, c, a, b, rfl, hx, q⟩ := h
    refine ⟨_, pss_cons (ps_if (pt_cmpR op_eq (pv 1) (pv 2) (nomark _)) (pss_one (ps_ret pe_int)) pss_nil) (pss_cons (ps_if (PW.pt (pw_and (pt_cmpR op_eq (pv 1) (pv 3) (nomark _)) (pw_and1 (pt_cmpR op_eq (pv 0) pe_int (nomark _))))) (pss_one (ps_ret pe_int)) pss_nil) (pss_one (ps_ret (pv 0)))), ?_⟩
    simp only [tSeq, tIfS, tAnd, tOr, tNot, tTest, tB, tOp, rI0, rEq, rNe, scal, tVar, tC, tRet, tNext, tAsg, gName, tIf, tAndV, tOrV, tNotV, L2.start, tCall, tCons, tNil, tDrop, bnot_if, ↓reduceIte, List.map_cons, List.map_nil, List.cons_append, List.nil_append, List.length_cons, List.length_nil, List.replicate_succ, List.replicate_zero, Nat.reduceAdd, Nat.reduceSub, Nat.sub_self, List.getElem?_cons_zero, List.getElem?_cons_succ, List.set_cons_zero, List.set_cons_succ, Option.some.injEq, exists_eq_left', exists_eq_left, V.int.injEq, V.bl.injEq, decide_eq_true_eq, true_and, and_true, Nat.zero_add, List.append_nil, exists_eq, exists_and_left, exists_const, reduceCtorEq, Bool.false_eq_true, if_true_left, V.ref.injEq]
    simp only [pread] at q
    (repeat' split) <;> (refine cast (congrArg (fun z => Q (V.int z) H) ?_) q; (repeat' split) <;> omega)
theorem ok_after_ahead (D : Has K mg "after_ahead" s_after_ahead) : Cal P w K mg base 1 "after_ahead" ["state", "step", "a", "b"] (sp4 (fun x c a b => pread (.before a b) x c) 3) := by
  refine D.cal sc_after_ahead (fun _ _ _ _ _ _ us hl => match us, hl with | [_, _, _, _], _ => rfl) (fun vs H Q E h => ?_) (fun f cdv A outer s H vs Q E hr h => ?_)
  · obtain ⟨x, c, a, b, rfl, _⟩ := h; rfl
  · obtain ⟨x, c, a, b, rfl, hx, q⟩ := h
    refine ⟨_, pss_cons (ps_if (PW.pt (pw_and (pt_cmpR op_eq (pv 1) (pv 2) (nomark _)) (pw_and1 (pt_cmpR op_eq (pv 0) pe_int (nomark _))))) (pss_one (ps_ret pe_int)) pss_nil)
      (pss_cons (ps_if (PW.pt (pw_and (pt_cmpR op_eq (pv 1) (pv 3) (nomark _)) (pw_and1 (pt_cmpR op_eq (pv 0) pe_int (nomark _))))) (pss_one (ps_ret pe_int)) pss_nil)
      (pss_cons (ps_if (PW.pt (pw_and (pt_cmpR op_eq (pv 1) (pv 3) (nomark _)) (pw_and1 (pt_cmpR op_eq (pv 0) pe_int (nomark _))))) (pss_one (ps_ret pe_int)) pss_nil) (pss_one (ps_ret (pv 0))))), ?_⟩
    simp only [tSeq, tIfS, tAnd, tOr, tNot, tTest, tB, tOp, rI0, rEq, rNe, scal, tVar, tC, tRet, tNext, tAsg, gName, tIf, tAndV, tOrV, tNotV, L2.start, tCall, tCons, tNil, tDrop, bnot_if, ↓reduceIte, List.map_cons, List.map_nil, List.cons_append, List.nil_append, List.length_cons, List.length_nil, List.replicate_succ, List.replicate_zero, Nat.reduceAdd, Nat.reduceSub, Nat.sub_self, List.getElem?_cons_zero, List.getElem?_cons_succ, List.set_cons_zero, List.set_cons_succ, Option.some.injEq, exists_eq_left', exists_eq_left, V.int.injEq, V.bl.injEq, decide_eq_true_eq, true_and, and_true, Nat.zero_add, List.append_nil, exists_eq, exists_and_left, exists_const, reduceCtorEq, Bool.false_eq_true, if_true_left, V.ref.injEq]
    simp only [pread] at q
    (repeat' split) <;> (refine cast (congrArg (fun z => Q (V.int z) H) ?_) q; (repeat' split) <;> omega)
theorem ok_after_right_behind (D : Has K mg "after_right_behind" s_after_right_behind) : Cal P w K mg base 1 "after_right_behind" ["state", "step", "a", "b"] (sp4 (fun x c a b => pread (.next a b) x c) 3) := by
  refine D.cal sc_after_right_behind (fun _ _ _ _ _ _ us hl => match us, hl with | [_, _, _, _], _ => rfl) (fun vs H Q E h => ?_) (fun f cdv A outer s H vs Q E hr h => ?_)
  · obtain ⟨x, c, a, b, rfl, _⟩ := h; rfl
  · obtain ⟨x, c, a, b, rfl, hx, q⟩ := h
    refine ⟨_, pss_cons (ps_if (pt_cmpR op_eq (pv 0) pe_int (nomark _)) (pss_one (ps_ret (pe_ifExp (pt_cmpR op_eq (pv 1) (pv 3) (nomark _)) pe_int pe_int))) pss_nil)
      (pss_cons (ps_if (PW.pt (pw_and (pt_cmpR op_eq (pv 1) (pv 2) (nomark _)) (pw_and1 (pt_cmpR op_ne (pv 0) pe_int (nomark _))))) (pss_one (ps_ret pe_int)) pss_nil) (pss_one (ps_ret (pv 0)))), ?_⟩
    simp only [tSeq, tIfS, tAnd, tOr, tNot, tTest, tB, tOp, rI0, rEq, rNe, scal, tVar, tC, tRet, tNext, tAsg, gName, tIf, tAndV, tOrV, tNotV, L2.start, tCall, tCons, tNil, tDrop, bnot_if, ↓reduceIte, List.map_cons, List.map_nil, List.cons_append, List.nil_append, List.length_cons, List.length_nil, List.replicate_succ, List.replicate_zero, Nat.reduceAdd, Nat.reduceSub, Nat.sub_self, List.getElem?_cons_zero, List.getElem?_cons_succ, List.set_cons_zero, List.set_cons_succ, Option.some.injEq, exists_eq_left', exists_eq_left, V.int.injEq, V.bl.injEq, decide_eq_true_eq, true_and, and_true, Nat.zero_add, List.append_nil, exists_eq, exists_and_left, exists_const, reduceCtorEq, Bool.false_eq_true, if_true_left, V.ref.injEq]
    simp only [pread] at q
    (repeat' split) <;> (refine cast (congrArg (fun z => Q (V.int z) H) ?_) q; (repeat' split) <;> omega)
theorem or_int {x : Nat} (h : x ≤ 3) : Builtin.bitOr (x : Int) 1 = ((x ||| 1 : Nat) : Int) ∧ Builtin.bitOr (x : Int) 2 = ((x ||| 2 : Nat) : Int) := by
  rcases le3 h with rfl | rfl | rfl | rfl <;> exact ⟨by decide +kernel, by decide +kernel⟩
theorem ok_after_not_both (D : Has K mg "after_not_both" s_after_not_both) : Cal P w K mg base 1 "after_not_both" ["state", "step", "a", "b"] (sp4 (fun x c a b => pread (.apart a b) x c) 3) := by
  refine D.cal sc_after_not_both (fun _ _ _ _ _ _ us hl => match us, hl with | [_, _, _, _], _ => rfl) (fun vs H Q E h => ?_) (fun f cdv A outer s H vs Q E hr h => ?_)
  · obtain ⟨x, c, a, b, rfl, _⟩ := h; rfl
  · obtain ⟨x, c, a, b, rfl, hx, q⟩ := h
    refine ⟨_, pss_cons (ps_if (pt_cmpR op_eq (pv 1) (pv 2) (nomark _)) (pss_one (ps_ret (pe_op op_or (pv 0) pe_int))) pss_nil)
      (pss_cons (ps_if (pt_cmpR op_eq (pv 1) (pv 3) (nomark _)) (pss_one (ps_ret (pe_op op_or (pv 0) pe_int))) pss_nil) (pss_one (ps_ret (pv 0)))), ?_⟩
    have o := or_int hx
    simp only [tSeq, tIfS, tAnd, tOr, tNot, tTest, tB, tOp, rI0, rEq, rNe, scal, tVar, tC, tRet, tNext, tAsg, gName, tIf, tAndV, tOrV, tNotV, L2.start, tCall, tCons, tNil, tDrop, bnot_if, ↓reduceIte, List.map_cons, List.map_nil, List.cons_append, List.nil_append, List.length_cons, List.length_nil, List.replicate_succ, List.replicate_zero, Nat.reduceAdd, Nat.reduceSub, Nat.sub_self, List.getElem?_cons_zero, List.getElem?_cons_succ, List.set_cons_zero, List.set_cons_succ, Option.some.injEq, exists_eq_left', exists_eq_left, V.int.injEq, V.bl.injEq, decide_eq_true_eq, true_and, and_true, Nat.zero_add, List.append_nil, exists_eq, exists_and_left, exists_const, reduceCtorEq, Bool.false_eq_true, if_true_left, V.ref.injEq]
    simp only [pread] at q
    rw [o.1, o.2]
    (repeat' split) <;> (refine cast (congrArg (fun z => Q (V.int z) H) ?_) q; (repeat' split) <;> omega)
theorem ok_after_between (D : Has K mg "after_between" s_after_between) : Cal P w K mg base 1 "after_between" ["state", "step", "a", "b"] (sp4 (fun x c a b => pread (.between a b) x c) 5) := by
  refine D.cal sc_after_between (fun _ _ _ _ _ _ us hl => match us, hl with | [_, _, _, _], _ => rfl) (fun vs H Q E h => ?_) (fun f cdv A outer s H vs Q E hr h => ?_)
  · obtain ⟨x, c, a, b, rfl, _⟩ := h; rfl
  · obtain ⟨x, c, a, b, rfl, hx, q⟩ := h
    refine ⟨_, pss_cons (ps_if (PW.pt (pw_and (pt_cmpR op_eq (pv 1) (pv 3) (nomark _)) (pw_and1 (PW.pt (pw_or (pt_cmpR op_eq (pv 0) pe_int (nomark _)) (pw_or1 (pt_cmpR op_eq (pv 0) pe_int (nomark _)))))))) (pss_one (ps_ret (pe_op op_add (pv 0) pe_int))) pss_nil)
      (pss_cons (ps_if (pt_cmpR op_ne (pv 1) (pv 2) (nomark _)) (pss_one (ps_ret (pv 0))) pss_nil)
      (pss_cons (ps_if (pt_cmpR op_eq (pv 0) pe_int (nomark _)) (pss_one (ps_ret pe_int)) pss_nil)
      (pss_cons (ps_if (PW.pt (pw_or (pt_cmpR op_eq (pv 0) pe_int (nomark _)) (pw_or1 (pt_cmpR op_eq (pv 0) pe_int (nomark _))))) (pss_one (ps_ret pe_int)) pss_nil) (pss_one (ps_ret pe_int))))), ?_⟩
    simp only [tSeq, tIfS, tAnd, tOr, tNot, tTest, tB, tOp, rI0, rEq, rNe, scal, tVar, tC, tRet, tNext, tAsg, gName, tIf, tAndV, tOrV, tNotV, L2.start, tCall, tCons, tNil, tDrop, bnot_if, ↓reduceIte, List.map_cons, List.map_nil, List.cons_append, List.nil_append, List.length_cons, List.length_nil, List.replicate_succ, List.replicate_zero, Nat.reduceAdd, Nat.reduceSub, Nat.sub_self, List.getElem?_cons_zero, List.getElem?_cons_succ, List.set_cons_zero, List.set_cons_succ, Option.some.injEq, exists_eq_left', exists_eq_left, V.int.injEq, V.bl.injEq, decide_eq_true_eq, true_and, and_true, Nat.zero_add, List.append_nil, exists_eq, exists_and_left, exists_const, reduceCtorEq, Bool.false_eq_true, if_true_left, V.ref.injEq]
    simp only [pread] at q
    (repeat' split) <;> (refine cast (congrArg (fun z => Q (V.int z) H) ?_) q; (repeat' split) <;> omega)
end
end Cr
end
section
set_option Elab.async false
set_option maxRecDepth 100000
set_option maxHeartbeats 2000000
set_option linter.all false
namespace Cr
open PySem PySem.Spec PyProof.Rows L2
/-- a rule as the program keeps it -/
def code : Wf04.Rule → List V
  | .least a n => [.int 0, .int a, .int n]
  | .most a n => [.int 1, .int a, .int n]
  | .first a => [.int 2, .int a]
  | .last a => [.int 3, .int a]
  | .later a b => [.int 4, .int a, .int b]
  | .before a b => [.int 5, .int a, .int b]
  | .next a b => [.int 6, .int a, .int b]
  | .apart a b => [.int 7, .int a, .int b]
  | .between a b => [.int 8, .int a, .int b]
section
variable {P : Program} {w : World} {K : PySem.W.Frag} {mg : Str → Option Value} {base : Heap}

def sp_state_after (K : PySem.W.Frag) : Sp := fun vs H Q _ => ∃ (p : Addr) (r : Wf04.Rule) (x c : Nat), vs = [.ref p, .int x, .int c] ∧ SqT K H p (code r) ∧ x ≤ ptop r ∧ Q (.int (pread r x c : Nat)) H
theorem ok_state_after (T : Con mg) (D : Has K mg "state_after" s_state_after)
    (G_after_counted : Cal P w K mg base 1 "after_counted" ["state", "step", "a"] sp_after_counted) (G_after_first : Cal P w K mg base 1 "after_first" ["state", "step", "a"] sp_after_first)
    (G_after_last : Cal P w K mg base 1 "after_last" ["step", "a"] sp_after_last) (G_after_later : Cal P w K mg base 1 "after_later" ["state", "step", "a", "b"] (sp4 (fun x c a b => pread (.later a b) x c) 2))
    (G_after_ahead : Cal P w K mg base 1 "after_ahead" ["state", "step", "a", "b"] (sp4 (fun x c a b => pread (.before a b) x c) 3)) (G_after_right_behind : Cal P w K mg base 1 "after_right_behind" ["state", "step", "a", "b"] (sp4 (fun x c a b => pread (.next a b) x c) 3))
    (G_after_not_both : Cal P w K mg base 1 "after_not_both" ["state", "step", "a", "b"] (sp4 (fun x c a b => pread (.apart a b) x c) 3)) (G_after_between : Cal P w K mg base 1 "after_between" ["state", "step", "a", "b"] (sp4 (fun x c a b => pread (.between a b) x c) 5)) : Cal P w K mg base 2 "state_after" ["rule", "state", "step"] (sp_state_after K) := by
  refine D.cal sc_state_after (fun _ _ _ _ _ _ us hl => match us, hl with | [_, _, _], _ => rfl) (fun vs H Q E h => ?_) (fun f cdv A outer s H vs Q E hr h => ?_)
  · obtain ⟨p, r, x, c, rfl, _⟩ := h; rfl
  · obtain ⟨p, r, x, c, rfl, hS, hx, q⟩ := h
    refine ⟨_, (pss_cons (ps_set (i := 3) sc_state_after.nd rfl (Or.inl rfl) (pe_ix ix_tup (pv 0) pe_int (fun _ _ => rfl)))
      (pss_cons (ps_set (i := 4) sc_state_after.nd rfl (Or.inl rfl) (pe_ix ix_tup (pv 0) pe_int (fun _ _ => rfl)))
      (pss_cons (ps_if (PW.pt (pw_or (pt_cmpR op_eq (pv 3) (pe_num T.AT_LEAST) (nomark _)) (pw_or1 (pt_cmpR op_eq (pv 3) (pe_num T.AT_MOST) (nomark _))))) (pss_one (ps_ret (pe_cal G_after_counted (hr.mono (by decide)) (pa_cons (pv 1) (pa_cons (pv 2) (pa_cons (pv 4) pa_nil)))))) pss_nil)
      (pss_cons (ps_if (pt_cmpR op_eq (pv 3) (pe_num T.FIRST) (nomark _)) (pss_one (ps_ret (pe_cal G_after_first (hr.mono (by decide)) (pa_cons (pv 1) (pa_cons (pv 2) (pa_cons (pv 4) pa_nil)))))) pss_nil)
      (pss_cons (ps_if (pt_cmpR op_eq (pv 3) (pe_num T.LAST) (nomark _)) (pss_one (ps_ret (pe_cal G_after_last (hr.mono (by decide)) (pa_cons (pv 2) (pa_cons (pv 4) pa_nil))))) pss_nil)
      (pss_cons (ps_set (i := 5) sc_state_after.nd rfl (Or.inl rfl) (pe_ix ix_tup (pv 0) pe_int (fun _ _ => rfl)))
      (pss_cons (ps_if (pt_cmpR op_eq (pv 3) (pe_num T.LATER) (nomark _)) (pss_one (ps_ret (pe_cal G_after_later (hr.mono (by decide)) (pa_cons (pv 1) (pa_cons (pv 2) (pa_cons (pv 4) (pa_cons (pv 5) pa_nil))))))) pss_nil)
      (pss_cons (ps_if (pt_cmpR op_eq (pv 3) (pe_num T.AHEAD) (nomark _)) (pss_one (ps_ret (pe_cal G_after_ahead (hr.mono (by decide)) (pa_cons (pv 1) (pa_cons (pv 2) (pa_cons (pv 4) (pa_cons (pv 5) pa_nil))))))) pss_nil)
      (pss_cons (ps_if (pt_cmpR op_eq (pv 3) (pe_num T.RIGHT_BEHIND) (nomark _)) (pss_one (ps_ret (pe_cal G_after_right_behind (hr.mono (by decide)) (pa_cons (pv 1) (pa_cons (pv 2) (pa_cons (pv 4) (pa_cons (pv 5) pa_nil))))))) pss_nil)
      (pss_cons (ps_if (pt_cmpR op_eq (pv 3) (pe_num T.NOT_BOTH) (nomark _)) (pss_one (ps_ret (pe_cal G_after_not_both (hr.mono (by decide)) (pa_cons (pv 1) (pa_cons (pv 2) (pa_cons (pv 4) (pa_cons (pv 5) pa_nil))))))) pss_nil)
      (pss_one (ps_ret (pe_cal G_after_between (hr.mono (by decide)) (pa_cons (pv 1) (pa_cons (pv 2) (pa_cons (pv 4) (pa_cons (pv 5) pa_nil))))))))))))))))), ?_⟩
    cases r with
    | least a n =>
      refine ⟨_, rfl, p, _, 0, _, rfl, rfl, hS, rfl, _, rfl, p, _, 1, _, rfl, rfl, hS, rfl, ?_⟩
      simp only [tSeq, tIfS, tAnd, tOr, tNot, tTest, tB, tOp, rI0, rEq, rNe, scal, tVar, tC, tRet, tNext, tAsg, gName, tIf, tAndV, tOrV, tNotV, L2.start, tCall, tCons, tNil, tDrop, bnot_if, ↓reduceIte, List.map_cons, List.map_nil, List.cons_append, List.nil_append, List.length_cons, List.length_nil, List.replicate_succ, List.replicate_zero, Nat.reduceAdd, Nat.reduceSub, Nat.sub_self, List.getElem?_cons_zero, List.getElem?_cons_succ, List.set_cons_zero, List.set_cons_succ, Option.some.injEq, exists_eq_left', exists_eq_left, V.int.injEq, V.bl.injEq, decide_eq_true_eq, true_and, and_true, Nat.zero_add, List.append_nil, exists_eq, exists_and_left, exists_const, reduceCtorEq, Bool.false_eq_true, if_true_left, V.ref.injEq, Int.reduceEq]
      exact ⟨x, c, a, rfl, q⟩
    | most a n =>
      refine ⟨_, rfl, p, _, 0, _, rfl, rfl, hS, rfl, _, rfl, p, _, 1, _, rfl, rfl, hS, rfl, ?_⟩
      simp only [tSeq, tIfS, tAnd, tOr, tNot, tTest, tB, tOp, rI0, rEq, rNe, scal, tVar, tC, tRet, tNext, tAsg, gName, tIf, tAndV, tOrV, tNotV, L2.start, tCall, tCons, tNil, tDrop, bnot_if, ↓reduceIte, List.map_cons, List.map_nil, List.cons_append, List.nil_append, List.length_cons, List.length_nil, List.replicate_succ, List.replicate_zero, Nat.reduceAdd, Nat.reduceSub, Nat.sub_self, List.getElem?_cons_zero, List.getElem?_cons_succ, List.set_cons_zero, List.set_cons_succ, Option.some.injEq, exists_eq_left', exists_eq_left, V.int.injEq, V.bl.injEq, decide_eq_true_eq, true_and, and_true, Nat.zero_add, List.append_nil, exists_eq, exists_and_left, exists_const, reduceCtorEq, Bool.false_eq_true, if_true_left, V.ref.injEq, Int.reduceEq]
      exact ⟨x, c, a, rfl, q⟩
    | first a =>
      refine ⟨_, rfl, p, _, 0, _, rfl, rfl, hS, rfl, _, rfl, p, _, 1, _, rfl, rfl, hS, rfl, ?_⟩
      simp only [tSeq, tIfS, tAnd, tOr, tNot, tTest, tB, tOp, rI0, rEq, rNe, scal, tVar, tC, tRet, tNext, tAsg, gName, tIf, tAndV, tOrV, tNotV, L2.start, tCall, tCons, tNil, tDrop, bnot_if, ↓reduceIte, List.map_cons, List.map_nil, List.cons_append, List.nil_append, List.length_cons, List.length_nil, List.replicate_succ, List.replicate_zero, Nat.reduceAdd, Nat.reduceSub, Nat.sub_self, List.getElem?_cons_zero, List.getElem?_cons_succ, List.set_cons_zero, List.set_cons_succ, Option.some.injEq, exists_eq_left', exists_eq_left, V.int.injEq, V.bl.injEq, decide_eq_true_eq, true_and, and_true, Nat.zero_add, List.append_nil, exists_eq, exists_and_left, exists_const, reduceCtorEq, Bool.false_eq_true, if_true_left, V.ref.injEq, Int.reduceEq]
      exact ⟨x, c, a, rfl, q⟩
    | last a =>
      refine ⟨_, rfl, p, _, 0, _, rfl, rfl, hS, rfl, _, rfl, p, _, 1, _, rfl, rfl, hS, rfl, ?_⟩
      simp only [tSeq, tIfS, tAnd, tOr, tNot, tTest, tB, tOp, rI0, rEq, rNe, scal, tVar, tC, tRet, tNext, tAsg, gName, tIf, tAndV, tOrV, tNotV, L2.start, tCall, tCons, tNil, tDrop, bnot_if, ↓reduceIte, List.map_cons, List.map_nil, List.cons_append, List.nil_append, List.length_cons, List.length_nil, List.replicate_succ, List.replicate_zero, Nat.reduceAdd, Nat.reduceSub, Nat.sub_self, List.getElem?_cons_zero, List.getElem?_cons_succ, List.set_cons_zero, List.set_cons_succ, Option.some.injEq, exists_eq_left', exists_eq_left, V.int.injEq, V.bl.injEq, decide_eq_true_eq, true_and, and_true, Nat.zero_add, List.append_nil, exists_eq, exists_and_left, exists_const, reduceCtorEq, Bool.false_eq_true, if_true_left, V.ref.injEq, Int.reduceEq]
      exact ⟨c, a, rfl, q⟩
    | _ a b =>
      refine ⟨_, rfl, p, _, 0, _, rfl, rfl, hS, rfl, _, rfl, p, _, 1, _, rfl, rfl, hS, rfl, ?_⟩
      simp only [tSeq, tIfS, tAnd, tOr, tNot, tTest, tB, tOp, rI0, rEq, rNe, scal, tVar, tC, tRet, tNext, tAsg, gName, tIf, tAndV, tOrV, tNotV, L2.start, tCall, tCons, tNil, tDrop, bnot_if, ↓reduceIte, List.map_cons, List.map_nil, List.cons_append, List.nil_append, List.length_cons, List.length_nil, List.replicate_succ, List.replicate_zero, Nat.reduceAdd, Nat.reduceSub, Nat.sub_self, List.getElem?_cons_zero, List.getElem?_cons_succ, List.set_cons_zero, List.set_cons_succ, Option.some.injEq, exists_eq_left', exists_eq_left, V.int.injEq, V.bl.injEq, decide_eq_true_eq, true_and, and_true, Nat.zero_add, List.append_nil, exists_eq, exists_and_left, exists_const, reduceCtorEq, Bool.false_eq_true, if_true_left, V.ref.injEq, Int.reduceEq]
      refine ⟨p, _, 2, _, rfl, rfl, hS, rfl, ?_⟩
      exact ⟨x, c, a, b, rfl, hx, q⟩
end
end Cr
end
section
set_option Elab.async false
set_option maxRecDepth 100000
set_option maxHeartbeats 2000000
set_option linter.all false
namespace Cr
open PySem PySem.Spec PyProof.Rows L2
/-- at the key k the table f has a tuple of xs -/
def TabAt (K : PySem.W.Frag) (f : Int → Option Value) (k : Int) (xs : List V) : Prop := ∃ t, f k = some (.ref t) ∧ ∀ H, SqT K H t xs
structure Verd (K : PySem.W.Frag) (f : Int → Option Value) : Prop where
  v2 : TabAt K f 2 [.int 0, .int 1, .int 0]
  v3 : TabAt K f 3 [.int 0, .int 1]
  v4 : TabAt K f 4 [.int 2, .int 0, .int 1]
  v5 : TabAt K f 5 [.int 2, .int 2, .int 1, .int 0]
  v6 : TabAt K f 6 [.int 2, .int 0, .int 1, .int 0]
  v7 : TabAt K f 7 [.int 1, .int 1, .int 1, .int 0]
  v8 : TabAt K f 8 [.int 2, .int 2, .int 2, .int 1, .int 1, .int 0]
def Verds (K : PySem.W.Frag) (mg : Str → Option Value) : Prop := ∃ D f, mg "VERDICTS" = some (.ref D) ∧ Crz.KTab K D f ∧ Verd K f
section
variable {P : Program} {w : World} {K : PySem.W.Frag} {mg : Str → Option Value} {base : Heap}

def sp_verdict_in (K : PySem.W.Frag) : Sp := fun vs H Q _ => ∃ (p : Addr) (r : Wf04.Rule) (x : Nat), vs = [.ref p, .int x] ∧ SqT K H p (code r) ∧ x ≤ ptop r ∧ Q (.int (pverd r x : Nat)) H
theorem ok_verdict_in (T : Con mg) (V : Verds K mg) (D : Has K mg "verdict_in" s_verdict_in) : Cal P w K mg base 1 "verdict_in" ["rule", "state"] (sp_verdict_in K) := by
  refine D.cal sc_verdict_in (fun _ _ _ _ _ _ us hl => match us, hl with | [_, _], _ => rfl) (fun vs H Q E h => ?_) (fun f cdv A outer s H vs Q E hr h => ?_)
  · obtain ⟨p, r, x, rfl, _⟩ := h; rfl
  · obtain ⟨p, r, x, rfl, hS, hx, q⟩ := h
    obtain ⟨D_VERDICTS, tab, g_VERDICTS, kt, W⟩ := V
    refine ⟨_, (pss_cons (ps_set (i := 2) sc_verdict_in.nd rfl (Or.inl rfl) (pe_ix ix_tup (pv 0) pe_int (fun _ _ => rfl)))
      (pss_cons (ps_if (pt_cmpR op_eq (pv 2) (pe_num T.AT_LEAST) (nomark _)) (pss_one (ps_ret (pe_ifExp (pt_cmpR op_ge (pv 1) (pe_ix ix_tup (pv 0) pe_int (fun _ _ => rfl)) (nomark _)) (pe_num T.KEPT) (pe_num T.BROKEN)))) pss_nil)
      (pss_cons (ps_if (pt_cmpR op_eq (pv 2) (pe_num T.AT_MOST) (nomark _)) (pss_one (ps_ret (pe_ifExp (pt_cmpR op_le (pv 1) (pe_ix ix_tup (pv 0) pe_int (fun _ _ => rfl)) (nomark _)) (pe_num T.KEPT) (pe_num T.BROKEN)))) pss_nil)
      (pss_one (ps_ret (pe_ix ix_tup (Crz.pe_kget (pe_glob (v := .ref D_VERDICTS) rfl g_VERDICTS rfl) (pv 2) (fun _ _ => rfl)) (pv 1) (fun _ _ => rfl))))))), ?_⟩
    have past : ∀ {k : Int} {xs : List V}, TabAt K tab k xs → xs[x]? = some (.int (pverd r x : Nat)) →
        tRet (tOp (rIxT K) (Crz.tKGet K (tC (.ref D_VERDICTS)) (tVar 2)) (tVar 1)) { nx := fun _ H' => Q .non H', rt := Q } [some (.ref p), some (.int x), some (.int k)] H := by
      rintro k xs ⟨t, ft, st⟩ hv
      exact ⟨_, rfl, D_VERDICTS, k, tab, _, .ref t, rfl, rfl, kt, ft, rfl, _, rfl, t, xs, x, _, rfl, rfl, st _, atI_nat hv, q⟩
    cases r with
    | least a n =>
      refine ⟨_, rfl, p, _, 0, _, rfl, rfl, hS, rfl, ?_⟩
      simp only [tSeq, tIfS, tAnd, tOr, tNot, tTest, tB, tOp, rI0, rEq, rNe, scal, tVar, tC, tRet, tNext, tAsg, gName, tIf, tAndV, tOrV, tNotV, L2.start, tCall, tCons, tNil, tDrop, bnot_if, ↓reduceIte, List.map_cons, List.map_nil, List.cons_append, List.nil_append, List.length_cons, List.length_nil, List.replicate_succ, List.replicate_zero, Nat.reduceAdd, Nat.reduceSub, Nat.sub_self, List.getElem?_cons_zero, List.getElem?_cons_succ, List.set_cons_zero, List.set_cons_succ, Option.some.injEq, exists_eq_left', exists_eq_left, V.int.injEq, V.bl.injEq, decide_eq_true_eq, true_and, and_true, Nat.zero_add, List.append_nil, exists_eq, exists_and_left, exists_const, reduceCtorEq, Bool.false_eq_true, if_true_left, V.ref.injEq, Int.reduceEq]
      refine ⟨p, _, 2, _, rfl, rfl, hS, rfl, ?_⟩
      simp only [tSeq, tIfS, tAnd, tOr, tNot, tTest, tB, tOp, rI0, rEq, rNe, scal, tVar, tC, tRet, tNext, tAsg, gName, tIf, tAndV, tOrV, tNotV, L2.start, tCall, tCons, tNil, tDrop, bnot_if, ↓reduceIte, List.map_cons, List.map_nil, List.cons_append, List.nil_append, List.length_cons, List.length_nil, List.replicate_succ, List.replicate_zero, Nat.reduceAdd, Nat.reduceSub, Nat.sub_self, List.getElem?_cons_zero, List.getElem?_cons_succ, List.set_cons_zero, List.set_cons_succ, Option.some.injEq, exists_eq_left', exists_eq_left, V.int.injEq, V.bl.injEq, decide_eq_true_eq, true_and, and_true, Nat.zero_add, List.append_nil, exists_eq, exists_and_left, exists_const, reduceCtorEq, Bool.false_eq_true, if_true_left, V.ref.injEq, pverd, ge_iff_le, Int.ofNat_le] at q ⊢
      by_cases e : n ≤ x
      · rw [if_pos e] at q ⊢; exact q
      · rw [if_neg e] at q ⊢; exact q
    | most a n =>
      refine ⟨_, rfl, p, _, 0, _, rfl, rfl, hS, rfl, ?_⟩
      simp only [tSeq, tIfS, tAnd, tOr, tNot, tTest, tB, tOp, rI0, rEq, rNe, scal, tVar, tC, tRet, tNext, tAsg, gName, tIf, tAndV, tOrV, tNotV, L2.start, tCall, tCons, tNil, tDrop, bnot_if, ↓reduceIte, List.map_cons, List.map_nil, List.cons_append, List.nil_append, List.length_cons, List.length_nil, List.replicate_succ, List.replicate_zero, Nat.reduceAdd, Nat.reduceSub, Nat.sub_self, List.getElem?_cons_zero, List.getElem?_cons_succ, List.set_cons_zero, List.set_cons_succ, Option.some.injEq, exists_eq_left', exists_eq_left, V.int.injEq, V.bl.injEq, decide_eq_true_eq, true_and, and_true, Nat.zero_add, List.append_nil, exists_eq, exists_and_left, exists_const, reduceCtorEq, Bool.false_eq_true, if_true_left, V.ref.injEq, Int.reduceEq]
      refine ⟨p, _, 2, _, rfl, rfl, hS, rfl, ?_⟩
      simp only [tSeq, tIfS, tAnd, tOr, tNot, tTest, tB, tOp, rI0, rEq, rNe, scal, tVar, tC, tRet, tNext, tAsg, gName, tIf, tAndV, tOrV, tNotV, L2.start, tCall, tCons, tNil, tDrop, bnot_if, ↓reduceIte, List.map_cons, List.map_nil, List.cons_append, List.nil_append, List.length_cons, List.length_nil, List.replicate_succ, List.replicate_zero, Nat.reduceAdd, Nat.reduceSub, Nat.sub_self, List.getElem?_cons_zero, List.getElem?_cons_succ, List.set_cons_zero, List.set_cons_succ, Option.some.injEq, exists_eq_left', exists_eq_left, V.int.injEq, V.bl.injEq, decide_eq_true_eq, true_and, and_true, Nat.zero_add, List.append_nil, exists_eq, exists_and_left, exists_const, reduceCtorEq, Bool.false_eq_true, if_true_left, V.ref.injEq, pverd, Int.ofNat_le] at q ⊢
      by_cases e : x ≤ n
      · rw [if_pos e] at q ⊢; exact q
      · rw [if_neg e] at q ⊢; exact q
    | first a =>
      refine ⟨_, rfl, p, _, 0, _, rfl, rfl, hS, rfl, ?_⟩
      refine ⟨_, rfl, rfl, _, rfl, iteF ?_⟩
      refine ⟨_, rfl, rfl, _, rfl, iteF ?_⟩
      exact past W.v2 (by rcases le2 hx with rfl | rfl | rfl <;> rfl)
    | last a =>
      refine ⟨_, rfl, p, _, 0, _, rfl, rfl, hS, rfl, ?_⟩
      refine ⟨_, rfl, rfl, _, rfl, iteF ?_⟩
      refine ⟨_, rfl, rfl, _, rfl, iteF ?_⟩
      exact past W.v3 (by rcases le1 hx with rfl | rfl <;> rfl)
    | later a b =>
      refine ⟨_, rfl, p, _, 0, _, rfl, rfl, hS, rfl, ?_⟩
      refine ⟨_, rfl, rfl, _, rfl, iteF ?_⟩
      refine ⟨_, rfl, rfl, _, rfl, iteF ?_⟩
      exact past W.v4 (by rcases le2 hx with rfl | rfl | rfl <;> rfl)
    | before a b =>
      refine ⟨_, rfl, p, _, 0, _, rfl, rfl, hS, rfl, ?_⟩
      refine ⟨_, rfl, rfl, _, rfl, iteF ?_⟩
      refine ⟨_, rfl, rfl, _, rfl, iteF ?_⟩
      exact past W.v5 (by rcases le3 hx with rfl | rfl | rfl | rfl <;> rfl)
    | next a b =>
      refine ⟨_, rfl, p, _, 0, _, rfl, rfl, hS, rfl, ?_⟩
      refine ⟨_, rfl, rfl, _, rfl, iteF ?_⟩
      refine ⟨_, rfl, rfl, _, rfl, iteF ?_⟩
      exact past W.v6 (by rcases le3 hx with rfl | rfl | rfl | rfl <;> rfl)
    | apart a b =>
      refine ⟨_, rfl, p, _, 0, _, rfl, rfl, hS, rfl, ?_⟩
      refine ⟨_, rfl, rfl, _, rfl, iteF ?_⟩
      refine ⟨_, rfl, rfl, _, rfl, iteF ?_⟩
      exact past W.v7 (by rcases le3 hx with rfl | rfl | rfl | rfl <;> rfl)
    | between a b =>
      refine ⟨_, rfl, p, _, 0, _, rfl, rfl, hS, rfl, ?_⟩
      refine ⟨_, rfl, rfl, _, rfl, iteF ?_⟩
      refine ⟨_, rfl, rfl, _, rfl, iteF ?_⟩
      exact past W.v8 (by rcases le5 hx with rfl | rfl | rfl | rfl | rfl | rfl <;> rfl)
end
end Cr
end
section
set_option Elab.async false
set_option maxRecDepth 100000
set_option maxHeartbeats 2000000
set_option linter.all false
namespace Cr
open PySem PySem.Spec PyProof.Rows L2
/-- names of Python's own that the top leaves alone -/
structure Own (mg : Str → Option Value) : Prop where
  len : mg "len" = none
  range : mg "range" = none
  zip : mg "zip" = none
  tuple : mg "tuple" = none
  list : mg "list" = none
  all : mg "all" = none
  any : mg "any" = none
  enumerate : mg "enumerate" = none
  sum : mg "sum" = none
  min : mg "min" = none

def formR (k a : Nat) : List Nat → Bool
  | [b] => if k = 0 ∨ k = 1 then decide (b ≤ 3) else decide (b < 5) && decide (a ≠ b)
  | _ => false
def formB : List Nat → Bool
  | k :: a :: r => if 8 < k ∨ ¬ a < 5 then false else if k = 2 ∨ k = 3 then r.isEmpty else formR k a r
  | _ => false
theorem some_ite {p : Prop} [Decidable p] {r : Wf04.Rule} : (if p then some r else none : Option Wf04.Rule).isSome = decide p := by
  by_cases h : p
  · rw [if_pos h, decide_eq_true h]; rfl
  · rw [if_neg h, decide_eq_false h]; rfl
theorem rule_form (ns : List Nat) : (Wf04.rule? ns).isSome = formB ns := by
  have three : ∀ a n k : Nat, k = 0 ∨ k = 1 → decide (decide (a < 5) = true ∧ n ≤ 3) = formB [k, a, n] := by
    intro a n k h
    rcases h with rfl | rfl <;> by_cases h1 : a < 5 <;> by_cases h2 : n ≤ 3 <;> simp [formB, formR, h1, h2]
  have two : ∀ a k : Nat, k = 2 ∨ k = 3 → decide (decide (a < 5) = true) = formB [k, a] := by
    intro a k h
    rcases h with rfl | rfl <;> by_cases h1 : a < 5 <;> simp [formB, h1]
  have pair : ∀ a b k : Nat, 4 ≤ k → k ≤ 8 → decide (decide (a < 5) = true ∧ decide (b < 5) = true ∧ a ≠ b) = formB [k, a, b] := by
    intro a b k h h'
    have e0 : ¬ 8 < k := by omega
    have e1 : ¬ (k = 2 ∨ k = 3) := by omega
    have e2 : ¬ (k = 0 ∨ k = 1) := by omega
    simp only [formB]
    by_cases h1 : a < 5
    · have : ¬ (8 < k ∨ ¬ a < 5) := by omega
      rw [if_neg this, if_neg e1]
      simp only [formR]
      rw [if_neg e2]
      by_cases h2 : b < 5 <;> by_cases h3 : a = b <;> simp [h1, h2, h3]
    · rw [if_pos (.inr h1)]; simp [h1]
  unfold Wf04.rule?
  dsimp only
  split
  · rw [some_ite]; exact three _ _ 0 (.inl rfl)
  · rw [some_ite]; exact three _ _ 1 (.inr rfl)
  · rw [some_ite]; exact two _ 2 (.inl rfl)
  · rw [some_ite]; exact two _ 3 (.inr rfl)
  · rw [some_ite]; exact pair _ _ 4 (by omega) (by omega)
  · rw [some_ite]; exact pair _ _ 5 (by omega) (by omega)
  · rw [some_ite]; exact pair _ _ 6 (by omega) (by omega)
  · rw [some_ite]; exact pair _ _ 7 (by omega) (by omega)
  · rw [some_ite]; exact pair _ _ 8 (by omega) (by omega)
  · rename_i h0 h1 h2 h3 h4 h5 h6 h7 h8
    match ns, h0, h1, h2, h3, h4, h5, h6, h7, h8 with
    | [], _, _, _, _, _, _, _, _, _ => rfl
    | [_], _, _, _, _, _, _, _, _, _ => rfl
    | [k, a], _, _, h2, h3, _, _, _, _, _ =>
      have n2 : k ≠ 2 := fun e => h2 a (by rw [e])
      have n3 : k ≠ 3 := fun e => h3 a (by rw [e])
      simp [formB, formR, n2, n3]
    | [k, a, b], h0, h1, h2, h3, h4, h5, h6, h7, h8 =>
      have e0 : k ≠ 0 := fun e => h0 a b (by rw [e])
      have e1 : k ≠ 1 := fun e => h1 a b (by rw [e])
      have e4 : k ≠ 4 := fun e => h4 a b (by rw [e])
      have e5 : k ≠ 5 := fun e => h5 a b (by rw [e])
      have e6 : k ≠ 6 := fun e => h6 a b (by rw [e])
      have e7 : k ≠ 7 := fun e => h7 a b (by rw [e])
      have e8 : k ≠ 8 := fun e => h8 a b (by rw [e])
      by_cases h : 8 < k ∨ ¬ a < 5
      · simp only [formB]; rw [if_pos h]; rfl
      · simp only [formB]; rw [if_neg h]
        have : k = 2 ∨ k = 3 := by omega
        rw [if_pos this]; rfl
    | k :: a :: b :: c :: r, _, _, _, _, _, _, _, _, _ =>
      simp only [formB]
      split
      · rfl
      · split <;> rfl
section
variable {P : Program} {w : World} {K : PySem.W.Frag} {mg : Str → Option Value} {base : Heap}
def sp_is_form (K : PySem.W.Frag) : Sp := fun vs H Q _ => ∃ (p : Addr) (ns : List Nat), vs = [.ref p] ∧ SqL K H p (ns.map nv) ∧ Q (.bl (formB ns)) H
theorem ok_is_form (T : Con mg) (B : Own mg) (D : Has K mg "is_form" s_is_form) (G_is_step : Cal P w K mg base 1 "is_step" ["number"] sp_is_step) : Cal P w K mg base 2 "is_form" ["row"] (sp_is_form K) := by
  refine D.cal sc_is_form (fun _ _ _ _ _ _ us hl => match us, hl with | [_], _ => rfl) (fun vs H Q E h => ?_) (fun f cdv A outer s H vs Q E hr h => ?_)
  · obtain ⟨p, ns, rfl, _⟩ := h; rfl
  · obtain ⟨p, ns, rfl, hS, q⟩ := h
    refine ⟨_, (pss_cons (ps_if (PW.pt (pw_or (pt_cmpR op_lt (pe_callB call_len_seq (by rfl) B.len (by decide +kernel) (pa_cons (pv 0) pa_nil)) pe_int (nomark _)) (pw_or (pt_cmpR op_gt (pe_ix ix_list (pv 0) pe_int (fun _ _ => rfl)) (pe_num T.BETWEEN) (nomark _)) (pw_or1 (pt_not (pt_val (pe_cal G_is_step (hr.mono (by decide)) (pa_cons (pe_ix ix_list (pv 0) pe_int (fun _ _ => rfl)) pa_nil)))))))) (pss_one (ps_ret pe_bl)) pss_nil)
      (pss_cons (ps_if (PW.pt (pw_or (pt_cmpR op_eq (pe_ix ix_list (pv 0) pe_int (fun _ _ => rfl)) (pe_num T.FIRST) (nomark _)) (pw_or1 (pt_cmpR op_eq (pe_ix ix_list (pv 0) pe_int (fun _ _ => rfl)) (pe_num T.LAST) (nomark _))))) (pss_one (ps_ret (pe_cmpR op_eq (pe_callB call_len_seq (by rfl) B.len (by decide +kernel) (pa_cons (pv 0) pa_nil)) pe_int (nomark _)))) pss_nil)
      (pss_cons (ps_if (pt_cmpR op_ne (pe_callB call_len_seq (by rfl) B.len (by decide +kernel) (pa_cons (pv 0) pa_nil)) pe_int (nomark _)) (pss_one (ps_ret pe_bl)) pss_nil)
      (pss_cons (ps_if (PW.pt (pw_or (pt_cmpR op_eq (pe_ix ix_list (pv 0) pe_int (fun _ _ => rfl)) (pe_num T.AT_LEAST) (nomark _)) (pw_or1 (pt_cmpR op_eq (pe_ix ix_list (pv 0) pe_int (fun _ _ => rfl)) (pe_num T.AT_MOST) (nomark _))))) (pss_one (ps_ret (pe_cmpR op_le (pe_ix ix_list (pv 0) pe_int (fun _ _ => rfl)) (pe_num T.MOST_TIMES) (nomark _)))) pss_nil)
      (pss_one (ps_ret (pe_and (pe_cal G_is_step (hr.mono (by decide)) (pa_cons (pe_ix ix_list (pv 0) pe_int (fun _ _ => rfl)) pa_nil)) (pe_one (pe_cmpR op_ne (pe_ix ix_list (pv 0) pe_int (fun _ _ => rfl)) (pe_ix ix_list (pv 0) pe_int (fun _ _ => rfl)) (nomark _)))))))))), ?_⟩
    refine ⟨_, rfl, p, _, rfl, .inl hS, _, _, rfl, rfl, _, rfl, ?_⟩
    match ns, hS, q with
    | [], hS, q => exact q
    | [k], hS, q => exact q
    | k :: a :: r, hS, q =>
      have h0 : SqL K H p (nv k :: nv a :: r.map nv) := hS
      have two : decide (((k :: a :: r).map nv).length < (2 : Int)) = false := decide_eq_false (by simp only [List.length_map, List.length_cons]; omega)
      rw [two]
      refine iteF ?_
      refine ⟨_, rfl, p, _, 0, nv k, rfl, rfl, h0, at_of (j := 0) rfl rfl, _, _, rfl, rfl, _, rfl, ?_⟩
      have nine : decide ((8 : Int) < k) = decide (8 < k) := by simp; omega
      rw [nine]
      by_cases c1 : 8 < k
      · rw [decide_eq_true c1]
        refine iteT ?_
        have e : formB (k :: a :: r) = false := by simp only [formB]; rw [if_pos (.inl c1)]
        rw [e] at q; exact q
      · rw [decide_eq_false c1]
        refine iteF ?_
        refine ⟨_, rfl, p, _, 1, nv a, rfl, rfl, h0, at_of (j := 1) rfl rfl, a, rfl, _, rfl, ?_⟩
        by_cases c2 : a < 5
        · rw [decide_eq_true c2]
          refine iteF ?_
          have dk : ∀ m : Nat, decide (V.int (k : Int) = V.int (m : Int)) = decide (k = m) := fun m => by simp; omega
          have e : formB (k :: a :: r) = (if k = 2 ∨ k = 3 then r.isEmpty else formR k a r) := by simp only [formB]; rw [if_neg (show ¬ (8 < k ∨ ¬ a < 5) by omega)]
          rw [e] at q
          have len3 : ((k :: a :: r).map nv).length = r.length + 2 := by simp
          have short : (k = 2 ∨ k = 3) → Q (.bl (decide (V.int (((k :: a :: r).map nv).length : Nat) = V.int 2))) H := by
            intro c
            rw [if_pos c] at q
            have : decide (V.int (((k :: a :: r).map nv).length : Nat) = V.int 2) = r.isEmpty := by
              rw [len3]
              cases r with
              | nil => rfl
              | cons b r => simp; omega
            rw [this]; exact q
          refine ⟨_, rfl, p, _, 0, nv k, rfl, rfl, h0, at_of (j := 0) rfl rfl, rfl, _, rfl, ?_⟩
          rw [show decide (nv k = V.int 2) = decide (k = 2) from dk 2]
          by_cases c3 : k = 2
          · rw [decide_eq_true c3]
            refine iteT ⟨_, rfl, p, _, rfl, .inl hS, rfl, short (.inl c3)⟩
          rw [decide_eq_false c3]
          refine iteF ⟨_, rfl, p, _, 0, nv k, rfl, rfl, h0, at_of (j := 0) rfl rfl, rfl, _, rfl, ?_⟩
          rw [show decide (nv k = V.int 3) = decide (k = 3) from dk 3]
          by_cases c4 : k = 3
          · rw [decide_eq_true c4]
            refine iteT ⟨_, rfl, p, _, rfl, .inl hS, rfl, short (.inr c4)⟩
          rw [decide_eq_false c4]
          refine iteF ⟨_, rfl, p, _, rfl, .inl hS, rfl, _, rfl, ?_⟩
          rw [if_neg (by omega)] at q
          rw [len3]
          match r, q, hS, h0 with
          | [], q, _, _ => exact q
          | b :: c :: r, q, _, _ =>
            have : decide (V.int (((b :: c :: r).length + 2 : Nat) : Int) = V.int 3) = false := decide_eq_false (by simp only [List.length_cons, V.int.injEq]; omega)
            show if (!decide (V.int (((b :: c :: r).length + 2 : Nat) : Int) = V.int 3)) = true then _ else _
            rw [this]
            exact q
          | [b], q, hS, h0 =>
            refine iteF ⟨_, rfl, p, _, 0, nv k, rfl, rfl, h0, at_of (j := 0) rfl rfl, rfl, _, rfl, ?_⟩
            rw [show decide (nv k = V.int 0) = decide (k = 0) from dk 0]
            have low : (k = 0 ∨ k = 1) → Q (.bl (decide ((b : Int) ≤ 3))) H := by
              intro c
              rw [show formR k a [b] = decide (b ≤ 3) from if_pos c] at q
              have : decide ((b : Int) ≤ 3) = decide (b ≤ 3) := by simp; omega
              rw [this]; exact q
            by_cases c5 : k = 0
            · rw [decide_eq_true c5]
              exact iteT ⟨_, rfl, p, _, 2, nv b, rfl, rfl, h0, at_of (j := 2) rfl rfl, _, _, rfl, rfl, low (.inl c5)⟩
            rw [decide_eq_false c5]
            refine iteF ⟨_, rfl, p, _, 0, nv k, rfl, rfl, h0, at_of (j := 0) rfl rfl, rfl, _, rfl, ?_⟩
            rw [show decide (nv k = V.int 1) = decide (k = 1) from dk 1]
            by_cases c6 : k = 1
            · rw [decide_eq_true c6]
              exact iteT ⟨_, rfl, p, _, 2, nv b, rfl, rfl, h0, at_of (j := 2) rfl rfl, _, _, rfl, rfl, low (.inr c6)⟩
            rw [decide_eq_false c6]
            rw [show formR k a [b] = (decide (b < 5) && decide (a ≠ b)) from if_neg (by omega)] at q
            refine iteF ⟨_, rfl, p, _, 2, nv b, rfl, rfl, h0, at_of (j := 2) rfl rfl, b, rfl, _, rfl, ?_⟩
            by_cases c7 : b < 5
            · rw [decide_eq_true c7] at q ⊢
              refine iteT ⟨_, rfl, p, _, 1, nv a, rfl, rfl, h0, at_of (j := 1) rfl rfl, _, rfl, p, _, 2, nv b, rfl, rfl, h0, at_of (j := 2) rfl rfl, rfl, ?_⟩
              have : (!decide (nv a = nv b)) = decide (a ≠ b) := by
                by_cases h : a = b
                · subst h; simp
                · have : ¬ nv a = nv b := fun e => h (by have := V.int.inj e; omega)
                  simp [h, this]
              rw [this]; exact q
            · rw [decide_eq_false c7] at q ⊢
              exact iteF q
        · rw [decide_eq_false c2]
          have e : formB (k :: a :: r) = false := by simp only [formB]; rw [if_pos (.inr c2)]
          rw [e] at q; exact q
end
end Cr
end
section
set_option Elab.async false
set_option maxRecDepth 100000
set_option maxHeartbeats 2000000
set_option linter.all false
namespace Cr
open PySem PySem.Spec PyProof.Rows L2
theorem Same.tup {K : PySem.W.Frag} {H H' : Hp} {a : Addr} {xs : List V} (e : Same H H') (h : SqT K H a xs) : SqT K H' a xs := by
  rcases h with (h | ⟨o, h⟩) | h
  · exact .inl (.inl (e _ _ h))
  · exact .inl (.inr ⟨o, e _ _ h⟩)
  · exact .inr h
theorem Same.new {H : Hp} {p : Addr} {o : HO} (h : H p = none) : Same H (upd H p o) := fun b u e => by rw [upd_ne (ne_of_none e h)]; exact e
/-- p is free in H: what is there later may change -/
theorem Same.put {H H' : Hp} {p : Addr} {o : HO} (e : Same H H') (h : H p = none) : Same H (upd H' p o) := fun b u q => by rw [upd_ne (ne_of_none q h)]; exact e b u q
/-- the rules rs lie in the list at l, as tuples at the addresses as -/
structure RulesAt (K : PySem.W.Frag) (H : Hp) (l : Addr) (as : List Addr) (rs : List Wf04.Rule) : Prop where
  lst : SqL K H l (as.map V.ref)
  len : as.length = rs.length
  few : rs.length ≤ 4
  at_ : ∀ (i : Nat) (a : Addr) (r : Wf04.Rule), as[i]? = some a → rs[i]? = some r → SqT K H a (code r)
theorem RulesAt.same {K : PySem.W.Frag} {H H' : Hp} {l : Addr} {as : List Addr} {rs : List Wf04.Rule} (R : RulesAt K H l as rs) (e : Same H H') : RulesAt K H' l as rs :=
  ⟨e.seq R.lst, R.len, R.few, fun i a r h1 h2 => Same.tup e (R.at_ i a r h1 h2)⟩
section
variable {P : Program} {w : World} {K : PySem.W.Frag} {mg : Str → Option Value} {base : Heap}
def sp_first_states (K : PySem.W.Frag) : Sp := fun vs H Q _ => ∃ (l : Addr) (as : List Addr) (rs : List Wf04.Rule), vs = [.ref l] ∧ RulesAt K H l as rs ∧
  ∀ H' p, Same H H' → H p = none → H' p = some (.tup ((pstart rs).map nv)) → Q (.ref p) H'
theorem ok_first_states (T : Con mg) (B : Own mg) (D : Has K mg "first_states" s_first_states) : Cal P w K mg base 1 "first_states" ["rules"] (sp_first_states K) := by
  refine D.cal sc_first_states (fun _ _ _ _ _ _ us hl => match us, hl with | [_], _ => rfl) (fun vs H Q E h => ?_) (fun f cdv A outer s H vs Q E hr h => ?_)
  · obtain ⟨l, as, rs, rfl, _⟩ := h; rfl
  · obtain ⟨l, as, rs, rfl, R, q⟩ := h
    refine ⟨_, (pss_one (ps_ret (pe_callTy call_tuple_of (by rfl) B.tuple (by decide +kernel) (pa_cons (pe_lc (own := [("rule", 1)]) rfl sc_first_states.nd (pi_list (pv 0)) (blkOk_by (own := [("rule", 1)]) (N := ["rules", "rule"]) (sc := defScope s_first_states) (by decide +kernel)) (fun _ _ _ _ _ => by exact (pg_name (i := 1) sc_first_states.nd rfl (Or.inl rfl))) (fun _ _ _ _ _ => pts_nil) (fun _ _ _ _ _ => pe_int)) pa_nil)))), ?_⟩
    refine ⟨_, rfl, l, rfl, ⟨_, R.lst⟩, fun D nD => ?_⟩
    refine lc_list (K := K) (a := l) (xs := as.map V.ref) (fun i H' => Same H H' ∧ H' D = some (.lst (((pstart rs).take i).map nv))) ⟨Same.new nD, upd_same⟩ (fun i H' _ h => h.1.seq R.lst) ?_ ?_
    · rintro i x H' hx ⟨sm, hD⟩
      have hi : i < as.length := by
        have := (List.getElem?_eq_some_iff.1 hx).1
        rwa [List.length_map] at this
      refine ⟨rfl, _, hD, ?_, Same.put sm nD, ?_⟩
      · rw [List.length_map, List.length_take]
        have := R.few; have := R.len
        exact Nat.lt_of_le_of_lt (Nat.min_le_left _ _) (Nat.lt_trans hi (by rw [this]; exact Nat.lt_of_le_of_lt R.few (by decide)))
      · have e : (pstart rs)[i]? = some 0 := by
          unfold pstart
          rw [List.getElem?_map, List.getElem?_eq_getElem (by rw [← R.len]; exact hi)]; rfl
        rw [upd_same, take_succ_of e, List.map_append]; rfl
    · rintro H' ⟨sm, hD⟩
      have : (pstart rs).take (as.map V.ref).length = pstart rs := by
        rw [List.length_map, R.len]; exact List.take_of_length_le (by simp [pstart])
      rw [this] at hD
      refine ⟨D, _, rfl, .inl ⟨SqL.of hD, fun p np => ?_⟩⟩
      exact q _ p (Same.put sm (sm.free np)) (sm.free np) upd_same
end
end Cr
end
section
set_option Elab.async false
set_option maxRecDepth 100000
set_option maxHeartbeats 2000000
set_option linter.all false
namespace Cr
open PySem PySem.Spec PyProof.Rows L2
section
variable {P : Program} {w : World} {K : PySem.W.Frag} {mg : Str → Option Value} {base : Heap}
def sp_states_after (K : PySem.W.Frag) : Sp := fun vs H Q _ => ∃ (l t : Addr) (as : List Addr) (rs : List Wf04.Rule) (xs : List Nat) (c : Nat), vs = [.ref l, .ref t, .int c] ∧ RulesAt K H l as rs ∧ SqT K H t (xs.map nv) ∧ Fit rs xs ∧
  ∀ H' p, Same H H' → H p = none → H' p = some (.tup ((preadAll rs xs c).map nv)) → Q (.ref p) H'
theorem ok_states_after (T : Con mg) (B : Own mg) (D : Has K mg "states_after" s_states_after) (G_state_after : Cal P w K mg base 2 "state_after" ["rule", "state", "step"] (sp_state_after K)) : Cal P w K mg base 3 "states_after" ["rules", "states", "step"] (sp_states_after K) := by
  refine D.cal sc_states_after (fun _ _ _ _ _ _ us hl => match us, hl with | [_, _, _], _ => rfl) (fun vs H Q E h => ?_) (fun f cdv A outer s H vs Q E hr h => ?_)
  · obtain ⟨l, t, as, rs, xs, c, rfl, _⟩ := h; rfl
  · obtain ⟨l, t, as, rs, xs, c, rfl, R, hT, ft, q⟩ := h
    refine ⟨_, (pss_one (ps_ret (pe_callTy call_tuple_of (by rfl) B.tuple (by decide +kernel) (pa_cons (pe_lc (own := [("rule", 3), ("state", 4)]) (g := gTup K 2 (gCons (gName 3) (gCons (gName 4) gNil))) rfl sc_states_after.nd (Crz.pi_LT (by rfl) B.zip (pa_cons (pv 0) (pa_cons (pv 1) pa_nil))) (blkOk_by (own := [("rule", 3), ("state", 4)]) (N := ["rules", "states", "step", "rule", "state"]) (sc := defScope s_states_after) (by decide +kernel)) (fun _ _ _ _ _ => by exact (pg_tup rfl (pgs_cons (pg_name (i := 3) sc_states_after.nd rfl (Or.inl rfl)) (pgs_cons (pg_name (i := 4) sc_states_after.nd rfl (Or.inl rfl)) pgs_nil)))) (fun _ _ _ _ _ => pts_nil) (fun _ _ _ _ _ => (pe_cal G_state_after (hr.mono (by decide)) (pa_cons (pv 3) (pa_cons (pv 4) (pa_cons (pv 2) pa_nil)))))) pa_nil)))), ?_⟩
    have hl : (as.map V.ref).length = (xs.map nv).length := by rw [List.length_map, List.length_map, R.len]; exact ft.1
    refine ⟨_, rfl, _, rfl, l, t, _, _, rfl, R.lst, hT, fun D nD => ?_⟩
    refine lc_it (Crz.walk_LT (K := K) (a := l) (b := t) hl) (fun i H' => Same H H' ∧ H' D = some (.lst (((preadAll rs xs c).take i).map nv))) ⟨Same.new nD, upd_same⟩ (fun i H' _ h => ⟨h.1.seq R.lst, Same.tup h.1 hT⟩) ?_ ?_
    · rintro i v H1 H2 hi ⟨sm, hD⟩ ⟨Tp, y1, y2, rfl, nT, rfl, e1, e2⟩
      obtain ⟨a, ha, rfl⟩ := map_get e1
      obtain ⟨x, hx, rfl⟩ := map_get e2
      have hlt : i < rs.length := by rw [← R.len]; exact (List.getElem?_eq_some_iff.1 ha).1
      have hr' : rs[i]? = some rs[i] := List.getElem?_eq_getElem hlt
      have sm2 : Same H (upd H1 Tp (.tup [.ref a, nv x])) := Same.put sm (sm.free nT)
      have neD : D ≠ Tp := ne_of_none hD nT
      refine ⟨Tp, _, rfl, SqT.of upd_same, rfl, _, _, rfl, _, _, rfl, rfl, rfl, _, rfl, _, rfl, _, rfl, a, rs[i], x, c, rfl, ?_, ft.2 i _ _ hr' hx, ?_⟩
      · exact Same.tup sm2 (R.at_ i a _ ha hr')
      · refine ⟨_, by rw [upd_ne neD]; exact hD, ?_, Same.put sm2 nD, ?_⟩
        · rw [List.length_map, List.length_take]
          exact Nat.lt_of_le_of_lt (Nat.min_le_left _ _) (Nat.lt_trans hlt (Nat.lt_of_le_of_lt R.few (by decide)))
        · rw [upd_same, take_succ_of (l := preadAll rs xs c) (zipmap_get (g := fun r x => pread r x c) hr' hx), List.map_append]; rfl
    · rintro H' ⟨sm, hD⟩
      have : (preadAll rs xs c).take (as.map V.ref).length = preadAll rs xs c := by
        rw [List.length_map, R.len]; exact List.take_of_length_le (Nat.le_of_eq (zipmap_len (g := fun r x => pread r x c) ft.1))
      rw [this] at hD
      refine ⟨D, _, rfl, .inl ⟨SqL.of hD, fun p np => ?_⟩⟩
      exact q _ p (Same.put sm (sm.free np)) (sm.free np) upd_same

def sp_verdicts_in (K : PySem.W.Frag) : Sp := fun vs H Q _ => ∃ (l t : Addr) (as : List Addr) (rs : List Wf04.Rule) (xs : List Nat), vs = [.ref l, .ref t] ∧ RulesAt K H l as rs ∧ SqT K H t (xs.map nv) ∧ Fit rs xs ∧
  ∀ H' p, Same H H' → H p = none → H' p = some (.lst ((pverdAll rs xs).map nv)) → Q (.ref p) H'
theorem ok_verdicts_in (T : Con mg) (B : Own mg) (D : Has K mg "verdicts_in" s_verdicts_in) (G_verdict_in : Cal P w K mg base 1 "verdict_in" ["rule", "state"] (sp_verdict_in K)) : Cal P w K mg base 2 "verdicts_in" ["rules", "states"] (sp_verdicts_in K) := by
  refine D.cal sc_verdicts_in (fun _ _ _ _ _ _ us hl => match us, hl with | [_, _], _ => rfl) (fun vs H Q E h => ?_) (fun f cdv A outer s H vs Q E hr h => ?_)
  · obtain ⟨l, t, as, rs, xs, rfl, _⟩ := h; rfl
  · obtain ⟨l, t, as, rs, xs, rfl, R, hT, ft, q⟩ := h
    refine ⟨_, (pss_one (ps_ret (pe_lc (own := [("rule", 2), ("state", 3)]) (g := gTup K 2 (gCons (gName 2) (gCons (gName 3) gNil))) rfl sc_verdicts_in.nd (Crz.pi_LT (by rfl) B.zip (pa_cons (pv 0) (pa_cons (pv 1) pa_nil))) (blkOk_by (own := [("rule", 2), ("state", 3)]) (N := ["rules", "states", "rule", "state"]) (sc := defScope s_verdicts_in) (by decide +kernel)) (fun _ _ _ _ _ => by exact (pg_tup rfl (pgs_cons (pg_name (i := 2) sc_verdicts_in.nd rfl (Or.inl rfl)) (pgs_cons (pg_name (i := 3) sc_verdicts_in.nd rfl (Or.inl rfl)) pgs_nil)))) (fun _ _ _ _ _ => pts_nil) (fun _ _ _ _ _ => (pe_cal G_verdict_in (hr.mono (by decide)) (pa_cons (pv 2) (pa_cons (pv 3) pa_nil))))))), ?_⟩
    have hl : (as.map V.ref).length = (xs.map nv).length := by rw [List.length_map, List.length_map, R.len]; exact ft.1
    refine ⟨_, rfl, _, rfl, l, t, _, _, rfl, R.lst, hT, fun D nD => ?_⟩
    refine lc_it (Crz.walk_LT (K := K) (a := l) (b := t) hl) (fun i H' => Same H H' ∧ H' D = some (.lst (((pverdAll rs xs).take i).map nv))) ⟨Same.new nD, upd_same⟩ (fun i H' _ h => ⟨h.1.seq R.lst, Same.tup h.1 hT⟩) ?_ ?_
    · rintro i v H1 H2 hi ⟨sm, hD⟩ ⟨Tp, y1, y2, rfl, nT, rfl, e1, e2⟩
      obtain ⟨a, ha, rfl⟩ := map_get e1
      obtain ⟨x, hx, rfl⟩ := map_get e2
      have hlt : i < rs.length := by rw [← R.len]; exact (List.getElem?_eq_some_iff.1 ha).1
      have hr' : rs[i]? = some rs[i] := List.getElem?_eq_getElem hlt
      have sm2 : Same H (upd H1 Tp (.tup [.ref a, nv x])) := Same.put sm (sm.free nT)
      have neD : D ≠ Tp := ne_of_none hD nT
      refine ⟨Tp, _, rfl, SqT.of upd_same, rfl, _, _, rfl, _, _, rfl, rfl, rfl, _, rfl, _, rfl, a, rs[i], x, rfl, ?_, ft.2 i _ _ hr' hx, ?_⟩
      · exact Same.tup sm2 (R.at_ i a _ ha hr')
      · refine ⟨_, by rw [upd_ne neD]; exact hD, ?_, Same.put sm2 nD, ?_⟩
        · rw [List.length_map, List.length_take]
          exact Nat.lt_of_le_of_lt (Nat.min_le_left _ _) (Nat.lt_trans hlt (Nat.lt_of_le_of_lt R.few (by decide)))
        · rw [upd_same, take_succ_of (l := pverdAll rs xs) (zipmap_get (g := fun r x => pverd r x) hr' hx), List.map_append]; rfl
    · rintro H' ⟨sm, hD⟩
      have : (pverdAll rs xs).take (as.map V.ref).length = pverdAll rs xs := by
        rw [List.length_map, R.len]; exact List.take_of_length_le (Nat.le_of_eq (zipmap_len (g := fun r x => pverd r x) ft.1))
      rw [this] at hD
      exact q _ D sm nD hD
end
end Cr
end
section
set_option Elab.async false
set_option maxRecDepth 100000
set_option maxHeartbeats 2000000
set_option linter.all false
namespace Cr
open PySem PySem.Spec PyProof.Rows L2
section
variable {P : Program} {w : World} {K : PySem.W.Frag} {mg : Str → Option Value} {base : Heap}
def sp_verdicts_of (K : PySem.W.Frag) : Sp := fun vs H Q _ => ∃ (l t : Addr) (as : List Addr) (rs : List Wf04.Rule) (ws : List Nat), vs = [.ref l, .ref t] ∧ RulesAt K H l as rs ∧ SqL K H t (ws.map nv) ∧
  ∀ H' p, Same H H' → H p = none → H' p = some (.lst ((pverdAll rs (prunAll rs ws)).map nv)) → Q (.ref p) H'
theorem ok_verdicts_of (D : Has K mg "verdicts_of" s_verdicts_of) (G_first_states : Cal P w K mg base 1 "first_states" ["rules"] (sp_first_states K)) (G_states_after : Cal P w K mg base 3 "states_after" ["rules", "states", "step"] (sp_states_after K))
    (G_verdicts_in : Cal P w K mg base 2 "verdicts_in" ["rules", "states"] (sp_verdicts_in K)) : Cal P w K mg base 4 "verdicts_of" ["rules", "row"] (sp_verdicts_of K) := by
  refine D.cal sc_verdicts_of (fun _ _ _ _ _ _ us hl => match us, hl with | [_, _], _ => rfl) (fun vs H Q E h => ?_) (fun f cdv A outer s H vs Q E hr h => ?_)
  · obtain ⟨l, t, as, rs, ws, rfl, _⟩ := h; rfl
  · obtain ⟨l, t, as, rs, ws, rfl, R, hT, q⟩ := h
    refine ⟨_, (pss_cons (ps_set (i := 2) sc_verdicts_of.nd rfl (Or.inl rfl) (pe_cal G_first_states (hr.mono (by decide)) (pa_cons (pv 0) pa_nil)))
      (pss_cons (ps_for PassesOwn.never rfl (pi_list (pv 1)) (pg_name (i := 3) sc_verdicts_of.nd rfl (Or.inl rfl))
      (pss_one (ps_set (i := 2) sc_verdicts_of.nd rfl (Or.inl rfl) (pe_cal G_states_after (hr.mono (by decide)) (pa_cons (pv 0) (pa_cons (pv 2) (pa_cons (pv 3) pa_nil)))))))
      (pss_one (ps_ret (pe_cal G_verdicts_in (hr.mono (by decide)) (pa_cons (pv 0) (pa_cons (pv 2) pa_nil))))))), ?_⟩
    refine ⟨_, rfl, l, as, rs, rfl, R, fun H1 p1 s1 n1 h1 => ?_⟩
    refine ⟨_, rfl, t, rfl, ⟨_, s1.seq hT⟩, for_list (K := K) (a := t) (xs := ws.map nv) (fun i σ H' => ∃ (p : Addr) (v : Option V), σ = [some (.ref l), some (.ref t), some (.ref p), v] ∧ Same H H' ∧ H p = none ∧ H' p = some (.tup ((prunAll rs (ws.take i)).map nv)))
      ⟨p1, none, rfl, s1, n1, h1⟩ (fun i σ H' _ ⟨_, _, _, s2, _⟩ => s2.seq hT) ?_ ?_⟩
    · rintro i y σ H' hi ⟨p, v, rfl, s2, np, hp⟩
      obtain ⟨c, hc, rfl⟩ := map_get hi
      refine ⟨_, rfl, _, rfl, _, rfl, l, p, as, rs, _, c, rfl, R.same s2, SqT.of hp, pfit_run _, fun H3 p3 s3 n3 h3 => ?_⟩
      refine ⟨p3, _, rfl, s2.trans s3, s2.free n3, ?_⟩
      rw [take_succ_of hc, show prunAll rs (ws.take i ++ [c]) = preadAll rs (prunAll rs (ws.take i)) c from reads_snoc _ _ _ _]
      exact h3
    · rintro σ H' ⟨p, v, rfl, s2, np, hp⟩
      rw [List.length_map, List.take_length] at hp
      refine ⟨_, rfl, _, rfl, l, p, as, rs, _, rfl, R.same s2, SqT.of hp, pfit_run _, fun H3 p3 s3 n3 h3 => ?_⟩
      exact q H3 p3 (s2.trans s3) (s2.free n3) h3

structure Con2 (mg : Str → Option Value) : Prop where
  LONGEST_ROW : ∃ t, mg "LONGEST_ROW" = some (.int 8 t)
def sp_is_row (K : PySem.W.Frag) : Sp := fun vs H Q _ => ∃ (p : Addr) (ns : List Nat), vs = [.ref p] ∧ SqL K H p (ns.map nv) ∧ ns.length ≤ 1000 ∧ ∀ H', Same H H' → Q (.bl (Wf04.isRow ns)) H'
theorem ok_is_row (T : Con2 mg) (B : Own mg) (D : Has K mg "is_row" s_is_row) (G_is_step : Cal P w K mg base 1 "is_step" ["number"] sp_is_step) : Cal P w K mg base 2 "is_row" ["steps"] (sp_is_row K) := by
  refine D.cal sc_is_row (fun _ _ _ _ _ _ us hl => match us, hl with | [_], _ => rfl) (fun vs H Q E h => ?_) (fun f cdv A outer s H vs Q E hr h => ?_)
  · obtain ⟨p, ns, rfl, _⟩ := h; rfl
  · obtain ⟨p, ns, rfl, hS, hn, q⟩ := h
    refine ⟨_, (pss_one (ps_ret (pe_and (pe_cmpR op_le (pe_callB call_len_seq (by rfl) B.len (by decide +kernel) (pa_cons (pv 0) pa_nil)) (pe_num T.LONGEST_ROW) (nomark _)) (pe_one (pe_callB (cr_all rfl) (by rfl) B.all (by decide +kernel) (pa_cons (pe_lc (own := [("step", 1)]) rfl sc_is_row.nd (pi_list (pv 0)) (blkOk_by (own := [("step", 1)]) (N := ["steps", "step"]) (sc := defScope s_is_row) (by decide +kernel)) (fun _ _ _ _ _ => by exact (pg_name (i := 1) sc_is_row.nd rfl (Or.inl rfl))) (fun _ _ _ _ _ => pts_nil) (fun _ _ _ _ _ => (pe_cal G_is_step (hr.mono (by decide)) (pa_cons (pv 1) pa_nil)))) pa_nil)))))), ?_⟩
    refine ⟨_, rfl, p, _, rfl, .inl hS, _, _, rfl, rfl, _, rfl, ?_⟩
    have e : decide (((ns.map nv).length : Int) ≤ 8) = decide (ns.length ≤ 8) := by rw [List.length_map]; simp; omega
    have e2 : Wf04.isRow ns = (decide (ns.length ≤ 8) && ns.all fun a => decide (a < 5)) := rfl
    rw [e2] at q
    rw [e]
    by_cases c : ns.length ≤ 8
    · rw [decide_eq_true c] at q ⊢
      refine iteT ?_
      refine ⟨_, rfl, p, rfl, ⟨_, hS⟩, fun D nD => ?_⟩
      refine lc_list (K := K) (a := p) (xs := ns.map nv) (fun i H' => Same H H' ∧ H' D = some (.lst (((ns.take i).map fun a => decide (a < 5)).map V.bl))) ⟨Same.new nD, upd_same⟩ (fun i H' _ h => h.1.seq hS) ?_ ?_
      · rintro i x H' hx ⟨sm, hD⟩
        obtain ⟨a, ha, rfl⟩ := map_get hx
        refine ⟨rfl, _, rfl, a, rfl, _, hD, ?_, Same.put sm nD, ?_⟩
        · rw [List.length_map, List.length_map, List.length_take]
          exact Nat.lt_of_le_of_lt (Nat.min_le_right _ _) (small1000 hn)
        · rw [upd_same, take_succ_of ha, List.map_append, List.map_append]; rfl
      · rintro H' ⟨sm, hD⟩
        rw [List.length_map, List.take_length] at hD
        refine ⟨D, _, rfl, SqL.of hD, ?_⟩
        have : (List.map (fun a => decide (a < 5)) ns).all id = ns.all fun a => decide (a < 5) := by rw [List.all_map]; rfl
        rw [this]
        exact q H' sm
    · rw [decide_eq_false c] at q ⊢
      exact iteF (q H (Same.refl H))
end
end Cr
end
section
set_option Elab.async false
set_option maxRecDepth 100000
set_option maxHeartbeats 2000000
set_option linter.all false
namespace Cr
open PySem PySem.Spec PyProof.Rows L2
theorem big {n : Nat} (h : n ≤ 1000000) : n < sizeLine := by rw [sizeLine_eq]; omega
def brkTo (vs : List Nat) (i : Nat) : List Nat := (List.range i).filter fun j => decide (vs[j]? = some 0)
theorem brkTo_len (vs : List Nat) (i : Nat) : (brkTo vs i).length ≤ i := by
  have := List.length_filter_le (fun j => decide (vs[j]? = some 0)) (List.range i)
  rw [List.length_range] at this; exact this
theorem brkTo_yes {vs : List Nat} {i : Nat} (h : vs[i]? = some 0) : brkTo vs (i + 1) = brkTo vs i ++ [i] := by
  unfold brkTo
  rw [List.range_succ, List.filter_append]; simp [h]
theorem brkTo_no {vs : List Nat} {i : Nat} (h : ¬ vs[i]? = some 0) : brkTo vs (i + 1) = brkTo vs i := by
  unfold brkTo
  rw [List.range_succ, List.filter_append]; simp [h]
section
variable {P : Program} {w : World} {K : PySem.W.Frag} {mg : Str → Option Value} {base : Heap}
def sp_broken_in (K : PySem.W.Frag) : Sp := fun vs H Q _ => ∃ (p : Addr) (ns : List Nat), vs = [.ref p] ∧ SqL K H p (ns.map nv) ∧ ns.length ≤ 1000 ∧
  ∀ H' q, Same H H' → H q = none → H' q = some (.lst ((brkOf ns).map nv)) → Q (.ref q) H'
theorem ok_broken_in (T : Con mg) (B : Own mg) (D : Has K mg "broken_in" s_broken_in) : Cal P w K mg base 1 "broken_in" ["verdicts"] (sp_broken_in K) := by
  refine D.cal sc_broken_in (fun _ _ _ _ _ _ us hl => match us, hl with | [_], _ => rfl) (fun vs H Q E h => ?_) (fun f cdv A outer s H vs Q E hr h => ?_)
  · obtain ⟨p, ns, rfl, _⟩ := h; rfl
  · obtain ⟨p, ns, rfl, hS, hn, q⟩ := h
    refine ⟨_, (pss_one (ps_ret (pe_lc (own := [("which", 1), ("verdict", 2)]) (g := gTup K 2 (gCons (gName 1) (gCons (gName 2) gNil))) rfl sc_broken_in.nd (pi_enum (by rfl) B.enumerate (pa_cons (pv 0) pa_nil)) (blkOk_by (own := [("which", 1), ("verdict", 2)]) (N := ["verdicts", "which", "verdict"]) (sc := defScope s_broken_in) (by decide +kernel)) (fun _ _ _ _ _ => by exact (pg_tup rfl (pgs_cons (pg_name (i := 1) sc_broken_in.nd rfl (Or.inl rfl)) (pgs_cons (pg_name (i := 2) sc_broken_in.nd rfl (Or.inl rfl)) pgs_nil)))) (fun _ _ _ _ _ => (pts_one (pt_cmpR op_eq (pv 2) (pe_num T.BROKEN) (nomark _)))) (fun _ _ _ _ _ => (pv 1))))), ?_⟩
    refine ⟨_, rfl, p, _, rfl, hS, fun D nD => ?_⟩
    refine lc_it (walk_enum (K := K) (a := p) (xs := ns.map nv)) (fun i H' => Same H H' ∧ H' D = some (.lst ((brkTo ns i).map nv))) ⟨Same.new nD, upd_same⟩ (fun i H' _ h => h.1.seq hS) ?_ ?_
    · rintro i v H1 H2 hi ⟨sm, hD⟩ ⟨Tp, y1, y2, rfl, nT, rfl, e1, e2⟩
      cases e1
      obtain ⟨x, hx, rfl⟩ := map_get e2
      have sm2 : Same H (upd H1 Tp (.tup [.int (i : Nat), nv x])) := Same.put sm (sm.free nT)
      have neD : D ≠ Tp := ne_of_none hD nT
      have hil : i < ns.length := (List.getElem?_eq_some_iff.1 hx).1
      refine ⟨Tp, _, rfl, SqT.of upd_same, rfl, _, _, rfl, _, _, rfl, rfl, rfl, _, rfl, rfl, _, rfl, ?_⟩
      by_cases c : x = 0
      · subst c
        refine iteT ⟨_, rfl, _, by rw [upd_ne neD]; exact hD, ?_, Same.put sm2 nD, ?_⟩
        · rw [List.length_map]; exact big (Nat.le_trans (brkTo_len ns i) (by omega))
        · rw [upd_same, brkTo_yes hx, List.map_append]; rfl
      · have e : decide (nv x = V.int 0) = false := decide_eq_false fun e => c (by have := V.int.inj e; omega)
        rw [e]
        refine iteF ⟨sm2, ?_⟩
        rw [upd_ne neD, brkTo_no (by rw [hx]; intro e; cases e; exact c rfl)]; exact hD
    · rintro H' ⟨sm, hD⟩
      rw [List.length_map] at hD
      exact q _ D sm nD hD
end
end Cr
end
section
set_option Elab.async false
set_option maxRecDepth 100000
set_option maxHeartbeats 2000000
set_option linter.all false
namespace Cr
open PySem PySem.Spec PyProof.Rows L2
/-! ### methods, instances -/
def HasM (K : PySem.W.Frag) (C : Addr) (nm qual : Str) (st : Stmt) : Prop := ∃ f fd, Fun K nm qual st f fd ∧ Meth K C nm f
def CalM (P : Program) (w : World) (K : PySem.W.Frag) (mg : Str → Option Value) (base : Heap) (C : Addr) (k : Nat) (nm : Str) (ps : List Str) (sp : Sp) : Prop :=
  ∃ f fd, FnOk P w K mg base CX0 k f fd ps sp ∧ Meth K C nm f ∧ Binds K fd ps []
def HasI (K : PySem.W.Frag) (mg : Str → Option Value) (C : Addr) (nm qual : Str) (st : Stmt) : Prop := ∃ f fd, Fun K "__init__" qual st f fd ∧ Mk K C f ∧ mg nm = some (.ref C)
def CalI (P : Program) (w : World) (K : PySem.W.Frag) (mg : Str → Option Value) (base : Heap) (C : Addr) (k : Nat) (nm : Str) (ps : List Str) (sp : Sp) : Prop :=
  ∃ f fd, Mk K C f ∧ FnOk P w K mg base CX0 k f fd ps sp ∧ Binds K fd ps [] ∧ mg nm = some (.ref C)
section
variable {P : Program} {w : World} {K : PySem.W.Frag} {mg : Str → Option Value} {base : Heap} {C : Addr}
theorem HasM.cal {nm qual : Str} {st : Stmt} {N ps : List Str} {k : Nat} {sp : Sp} (D : HasM K C nm qual st) (S : FnScope N ps (defScope st))
    (hb : ∀ (kV doc pm : Value) (an : Option Addr) (cdv ct : Value) (us : List Value), us.length = ps.length → bindArgs (PySem.W.fnOf nm qual (defArgs st) (defBody st) (defScope st) .none kV doc pm an cdv ct) ⟨us, []⟩ = pure (ps.zip us))
    (len : ∀ vs H Q E, sp vs H Q E → vs.length = ps.length)
    (hbody : ∀ (f : Addr) (cdv : Value) (A : Around) (outer : List Env) (s : Shared) (H : Hp) (vs : List V) (Q : VK) (E : XK), Room k (A.deeper (envOfC qual (defScope st) s.heap.objs.size f cdv)) → sp vs H Q E →
      ∃ t, PSs (cxOf CX0 P w K mg base N qual (defScope st) f cdv A outer s H E).nox (defBody st) t ∧ t { nx := fun _ H' => Q .non H', rt := Q } (start N vs) H) : CalM P w K mg base C (k + 1) nm ps sp := by
  obtain ⟨f, fd, F, g⟩ := D
  exact ⟨f, fd, F.ok S len (hbody f), g, F.binds hb⟩
theorem HasI.cal {nm qual : Str} {st : Stmt} {N ps : List Str} {k : Nat} {sp : Sp} (D : HasI K mg C nm qual st) (S : FnScope N ps (defScope st))
    (hb : ∀ (kV doc pm : Value) (an : Option Addr) (cdv ct : Value) (us : List Value), us.length = ps.length → bindArgs (PySem.W.fnOf "__init__" qual (defArgs st) (defBody st) (defScope st) .none kV doc pm an cdv ct) ⟨us, []⟩ = pure (ps.zip us))
    (len : ∀ vs H Q E, sp vs H Q E → vs.length = ps.length)
    (hbody : ∀ (f : Addr) (cdv : Value) (A : Around) (outer : List Env) (s : Shared) (H : Hp) (vs : List V) (Q : VK) (E : XK), Room k (A.deeper (envOfC qual (defScope st) s.heap.objs.size f cdv)) → sp vs H Q E →
      ∃ t, PSs (cxOf CX0 P w K mg base N qual (defScope st) f cdv A outer s H E).nox (defBody st) t ∧ t { nx := fun _ H' => Q .non H', rt := Q } (start N vs) H) : CalI P w K mg base C (k + 1) nm ps sp := by
  obtain ⟨f, fd, F, m, g⟩ := D
  exact ⟨f, fd, m, F.ok S len (hbody f), F.binds hb, g⟩
end
theorem pe_calM {X : Cx} {C : Addr} {k : Nat} {m : Str} {ps : List Str} {sp : Sp} {o e : Expr} {es : List Expr} {ta : TE} {t : TA} {pos apos : Pos} {pl : Sem Bool} (he : PE X o ta) (c : Cls X.K C) (G : CalM X.prog X.w X.K X.mg X.base C k m ps sp) (hr : Room k X.A) (ha : PA X (e :: es) t)
    (hst : starEach (e :: es) X.env = (false, eval e X.env) :: starEach es X.env := by rfl) (hpl : (backTo pos (starEach es X.env)).any (·.1) = false := by rfl)
    (ht : eval (.Call (.Attribute o m apos) (e :: es) [] pos) X.env = (do
      let ov ← eval o X.env
      standAt apos.atName
      let (f, first) ← holding [ov] (getMethod ov m pl)
      callWith pos f first (backTo pos (starEach (e :: es) X.env)) (backToKw pos (keywordEach [] X.env))) := by rfl) :
    PE X (.Call (.Attribute o m apos) (e :: es) [] pos) (tMeth C m sp [] E0 ta t) := by
  obtain ⟨f, fd, F, g, b⟩ := G
  exact pe_meth he c g F hr b .nil pass0 ha hst hpl ht
theorem pe_calM0 {X : Cx} {C : Addr} {k : Nat} {m : Str} {ps : List Str} {sp : Sp} {o : Expr} {ta : TE} {pos apos : Pos} {pl : Sem Bool} (he : PE X o ta) (c : Cls X.K C) (G : CalM X.prog X.w X.K X.mg X.base C k m ps sp) (hr : Room k X.A)
    (ht : eval (.Call (.Attribute o m apos) [] [] pos) X.env = (do
      let ov ← eval o X.env
      standAt apos.atName
      let (f, first) ← holding [ov] (getMethod ov m pl)
      callWith pos f first (backTo pos (starEach [] X.env)) (backToKw pos (keywordEach [] X.env))) := by rfl) :
    PE X (.Call (.Attribute o m apos) [] [] pos) (tMeth C m sp [] E0 ta tNil) := by
  obtain ⟨f, fd, F, g, b⟩ := G
  exact pe_meth0 he c g F hr b .nil pass0 ht
theorem pe_new {X : Cx} {C : Addr} {k : Nat} {x : Str} {ps : List Str} {sp : Sp} {e : Expr} {es : List Expr} {t : TA} {p pos : Pos} (N : CalI X.prog X.w X.K X.mg X.base C k x ps sp) (hr : Room (k + 1) X.A) (ha : PA X (e :: es) t) (hg : Gl X x := by rfl)
    (hdb : (x == ("__debug__" : Str)) = false := by decide) (he : starEach (e :: es) X.env = (false, eval e X.env) :: starEach es X.env := by rfl) (hpl : (backTo pos (starEach es X.env)).any (·.1) = false := by rfl) :
    PE X (.Call (.Name x p) (e :: es) [] pos) (tMake C sp [] E0 t) := by
  obtain ⟨f, fd, m, F, b, g⟩ := N
  exact pe_make m F hr hg g b .nil pass0 ha hdb he hpl

/-! ### keys -/
def keyOf (s : List Nat) : List Key := s.map fun n : Nat => Sum.inl (n : Int)
theorem keyOf_kV (s : List Nat) : (keyOf s).map kV = s.map nv := by
  unfold keyOf; rw [List.map_map]; rfl
theorem keyOf_inj : ∀ {s t : List Nat}, keyOf s = keyOf t → s = t
  | [], [], _ => rfl
  | [], _ :: _, h => by cases h
  | _ :: _, [], h => by cases h
  | a :: s, b :: t, h => by
    have h1 : (Sum.inl (a : Int) : Key) = Sum.inl (b : Int) := (List.cons.inj h).1
    have h2 := Sum.inl.inj h1
    have h3 : a = b := by omega
    rw [h3, keyOf_inj (List.cons.inj h).2]
/-- the dict of numbers -/
def numFrom : Nat → Rows (List Nat) → List (List Key × V)
  | _, [] => []
  | n, x :: R => (keyOf x.1, nv n) :: numFrom (n + 1) R
theorem num_none : ∀ {R : Rows (List Nat)} {n : Nat} {s : List Nat}, s ∉ R.map (fun x => x.1) → valV (numFrom n R) (keyOf s) = none
  | [], _, _, _ => rfl
  | x :: R, n, s, h => by
    have ne : ¬ keyOf x.1 = keyOf s := fun e => h (by rw [← keyOf_inj e]; simp)
    rw [show numFrom n (x :: R) = (keyOf x.1, nv n) :: numFrom (n + 1) R from rfl, valV_neg ne]
    exact num_none fun e => h (List.mem_cons_of_mem _ e)
theorem num_some : ∀ {R : Rows (List Nat)} {n : Nat} {s : List Nat}, s ∈ R.map (fun x => x.1) → valV (numFrom n R) (keyOf s) = some (nv (n + ixOf R s))
  | [], _, _, h => by cases h
  | x :: R, n, s, h => by
    rw [show numFrom n (x :: R) = (keyOf x.1, nv n) :: numFrom (n + 1) R from rfl, ixOf_cons]
    by_cases e : x.1 = s
    · rw [if_pos e, valV_pos (p := (keyOf x.1, nv n)) (by rw [e])]; rfl
    · have ne : ¬ keyOf x.1 = keyOf s := fun q => e (keyOf_inj q)
      have m : s ∈ R.map fun x => x.1 := by
        rcases List.mem_cons.1 h with h | h
        · exact (e h.symm).elim
        · exact h
      rw [if_neg e, valV_neg ne, num_some m]
      congr 2; omega
theorem num_snoc : ∀ (R : Rows (List Nat)) (n : Nat) (x : List Nat × List Nat), numFrom n (R ++ [x]) = numFrom n R ++ [(keyOf x.1, nv (n + R.length))]
  | [], n, x => rfl
  | y :: R, n, x => by
    show (keyOf y.1, nv n) :: numFrom (n + 1) (R ++ [x]) = _
    rw [num_snoc R (n + 1) x]
    show _ = (keyOf y.1, nv n) :: (numFrom (n + 1) R ++ [(keyOf x.1, nv (n + (R.length + 1)))])
    rw [show n + 1 + R.length = n + (R.length + 1) by omega]
theorem num_len : ∀ (R : Rows (List Nat)) (n : Nat), (numFrom n R).length = R.length
  | [], _ => rfl
  | _ :: R, n => by
    show (numFrom (n + 1) R).length + 1 = _
    rw [num_len R]; rfl

/-! ### the rules in the heap; frames -/
structure RulesIn (H : Hp) (l : Addr) (as : List Addr) (rs : List Wf04.Rule) : Prop where
  lst : H l = some (.lst (as.map V.ref))
  len : as.length = rs.length
  few : rs.length ≤ 4
  at_ : ∀ (i : Nat) (a : Addr) (r : Wf04.Rule), as[i]? = some a → rs[i]? = some r → H a = some (.tup (code r))
theorem RulesIn.rules {K : PySem.W.Frag} {H : Hp} {l : Addr} {as : List Addr} {rs : List Wf04.Rule} (A : RulesIn H l as rs) : RulesAt K H l as rs := ⟨SqL.of A.lst, A.len, A.few, fun i a r h1 h2 => SqT.of (A.at_ i a r h1 h2)⟩
theorem RulesIn.same {H H' : Hp} {l : Addr} {as : List Addr} {rs : List Wf04.Rule} (A : RulesIn H l as rs) (e : Same H H') : RulesIn H' l as rs := ⟨e _ _ A.lst, A.len, A.few, fun i a r h1 h2 => e _ _ (A.at_ i a r h1 h2)⟩
/-- all but these stands -/
def KeepL (M : List Addr) (H H' : Hp) : Prop := ∀ b o, H b = some o → b ∉ M → H' b = some o
theorem KeepL.refl (M : List Addr) (H : Hp) : KeepL M H H := fun _ _ h _ => h
theorem KeepL.same {M : List Addr} {H H1 H2 : Hp} (k : KeepL M H H1) (s : Same H1 H2) : KeepL M H H2 := fun b o h n => s b o (k b o h n)
theorem Same.keepL {M : List Addr} {H H' : Hp} (s : Same H H') : KeepL M H H' := fun b o h _ => s b o h
theorem KeepL.trans {M : List Addr} {H H1 H2 : Hp} (k : KeepL M H H1) (l : KeepL M H1 H2) : KeepL M H H2 := fun b o h n => l b o (k b o h n) n
theorem KeepL.own {M : List Addr} {a : Addr} {o : HO} {H H1 : Hp} (k : KeepL M H H1) (h : a ∈ M) : KeepL M H (upd H1 a o) := fun b u e n => by
  have ne : b ≠ a := fun z => n (by rw [z]; exact h)
  rw [upd_ne ne]; exact k b u e n
theorem KeepL.put {M : List Addr} {a : Addr} {o : HO} {H H1 : Hp} (k : KeepL M H H1) (h : H a = none) : KeepL M H (upd H1 a o) := fun b u e n => by rw [upd_ne (ne_of_none e h)]; exact k b u e n
theorem KeepL.mono {M N : List Addr} {H H1 : Hp} (k : KeepL M H H1) (h : ∀ a ∈ M, a ∈ N) : KeepL N H H1 := fun b o e n => k b o e fun m => n (h b m)
theorem RulesIn.keepL {M : List Addr} {H H' : Hp} {l : Addr} {as : List Addr} {rs : List Wf04.Rule} (A : RulesIn H l as rs) (k : KeepL M H H') (nl : l ∉ M) (nt : ∀ a xs, H a = some (.tup xs) → a ∉ M) : RulesIn H' l as rs :=
  ⟨k _ _ A.lst nl, A.len, A.few, fun i a r h1 h2 => k _ _ (A.at_ i a r h1 h2) (nt _ _ (A.at_ i a r h1 h2))⟩
def sF (l a1 a2 a3 a4 a5 : Addr) : List (Str × V) := [("rules", .ref l), ("states", .ref a1), ("numbers", .ref a2), ("rows", .ref a3), ("broken", .ref a4), ("further", .ref a5)]
structure Ss (K : PySem.W.Frag) (mg : Str → Option Value) (C : Addr) : Prop where
  cl : Cls K C
  nRules : NoAttr K C "rules"
  nStates : NoAttr K C "states"
  nNumbers : NoAttr K C "numbers"
  nRows : NoAttr K C "rows"
  nBroken : NoAttr K C "broken"
  nFurther : NoAttr K C "further"
/-- items of a list that are told by another list -/
def Each {α : Type} (H : Hp) (ts : List α) (as : List Addr) (o : α → HO) : Prop := as.length = ts.length ∧ ∀ (i : Nat) (x : α) (a : Addr), ts[i]? = some x → as[i]? = some a → H a = some (o x)
theorem Each.keep {α : Type} {H H' : Hp} {ts : List α} {as : List Addr} {o : α → HO} (E : Each H ts as o) (k : ∀ a ∈ as, ∀ u, H a = some u → H' a = some u) : Each H' ts as o :=
  ⟨E.1, fun i x a h1 h2 => k a (List.mem_of_getElem? h2) _ (E.2 i x a h1 h2)⟩
theorem Each.same {α : Type} {H H' : Hp} {ts : List α} {as : List Addr} {o : α → HO} (E : Each H ts as o) (e : Same H H') : Each H' ts as o := E.keep fun a _ u h => e a u h
theorem Each.snoc {α : Type} {H : Hp} {ts : List α} {as : List Addr} {o : α → HO} (E : Each H ts as o) {x : α} {a : Addr} (h : H a = some (o x)) : Each H (ts ++ [x]) (as ++ [a]) o := by
  refine ⟨by simp [E.1], ?_⟩
  intro i y b h1 h2
  rcases get_snoc0 h1 with h1 | ⟨e, rfl⟩
  · have lt : i < as.length := by rw [E.1]; exact (List.getElem?_eq_some_iff.1 h1).1
    rw [List.getElem?_append_left lt] at h2
    exact E.2 i y b h1 h2
  · rw [e, ← E.1, List.getElem?_append_right (Nat.le_refl _)] at h2
    simp at h2
    subst h2; exact h
theorem Each.nil {α : Type} {H : Hp} {o : α → HO} : Each H ([] : List α) [] o := ⟨rfl, fun i x a h => by cases h⟩
theorem Each.get {α : Type} {H : Hp} {ts : List α} {as : List Addr} {o : α → HO} (E : Each H ts as o) {i : Nat} {x : α} (h : ts[i]? = some x) : ∃ a, as[i]? = some a ∧ H a = some (o x) := by
  have lt : i < as.length := by rw [E.1]; exact (List.getElem?_eq_some_iff.1 h).1
  exact ⟨as[i], List.getElem?_eq_getElem lt, E.2 i x _ h (List.getElem?_eq_getElem lt)⟩
theorem Each.mem {α : Type} {H : Hp} {ts : List α} {as : List Addr} {o : α → HO} (E : Each H ts as o) {a : Addr} (h : a ∈ as) : ∃ x, x ∈ ts ∧ H a = some (o x) := by
  obtain ⟨i, hi, e⟩ := List.mem_iff_getElem.1 h
  have lt : i < ts.length := by rw [← E.1]; exact hi
  exact ⟨ts[i], List.getElem_mem lt, E.2 i _ a (List.getElem?_eq_getElem lt) (by rw [List.getElem?_eq_getElem hi, e])⟩
abbrev oS (x : List Nat × List Nat) : HO := .tup (x.1.map nv)
abbrev oW (x : List Nat × List Nat) : HO := .tup (x.2.map nv)
abbrev oB (rs : List Wf04.Rule) (x : List Nat × List Nat) : HO := .lst ((pbrk rs x.1).map nv)
abbrev oF (l : List Nat) : HO := .lst (l.map nv)
/-- where a Spots has its parts -/
structure SA where
  p : Addr
  dx : Addr
  l : Addr
  as : List Addr
  a1 : Addr
  a2 : Addr
  a3 : Addr
  a4 : Addr
  a5 : Addr
abbrev SA.M (a : SA) : List Addr := [a.a1, a.a2, a.a3, a.a4, a.a5]
abbrev SA.L (a : SA) : List Addr := [a.a1, a.a3, a.a4, a.a5]
structure SpotsIn (C : Addr) (H : Hp) (a : SA) (rs : List Wf04.Rule) (R : Rows (List Nat)) (F : List (List Nat)) (ss ws bs fs : List Addr) : Prop where
  ins : H a.p = some (.ins C a.dx (sF a.l a.a1 a.a2 a.a3 a.a4 a.a5))
  rules : RulesIn H a.l a.as rs
  st : H a.a1 = some (.lst (ss.map V.ref))
  num : H a.a2 = some (.dT (numFrom 0 R))
  row : H a.a3 = some (.lst (ws.map V.ref))
  brk : H a.a4 = some (.lst (bs.map V.ref))
  fur : H a.a5 = some (.lst (fs.map V.ref))
  eS : Each H R ss oS
  eW : Each H R ws oW
  eB : Each H R bs (oB rs)
  eF : Each H F fs oF
  nL : (a.L).Nodup
  nl : a.l ∉ a.L
  nB : ∀ b ∈ bs, b ∉ a.L
  nF : ∀ b ∈ fs, b ∉ a.L
section
variable {C : Addr} {H H' : Hp} {a : SA} {rs : List Wf04.Rule} {R : Rows (List Nat)} {F : List (List Nat)} {ss ws bs fs : List Addr}
theorem SpotsIn.same (S : SpotsIn C H a rs R F ss ws bs fs) (e : Same H H') : SpotsIn C H' a rs R F ss ws bs fs :=
  ⟨e _ _ S.ins, S.rules.same e, e _ _ S.st, e _ _ S.num, e _ _ S.row, e _ _ S.brk, e _ _ S.fur, S.eS.same e, S.eW.same e, S.eB.same e, S.eF.same e, S.nL, S.nl, S.nB, S.nF⟩
theorem SpotsIn.notM (S : SpotsIn C H a rs R F ss ws bs fs) {b : Addr} {o : HO} (h : H b = some o) (n1 : ∀ xs, o ≠ .lst xs) (n2 : ∀ kvs, o ≠ .dT kvs) : b ∉ a.M := by
  intro m
  simp only [List.mem_cons, List.not_mem_nil, or_false] at m
  rcases m with e | e | e | e | e <;> subst e
  · rw [S.st] at h; cases h; exact n1 _ rfl
  · rw [S.num] at h; cases h; exact n2 _ rfl
  · rw [S.row] at h; cases h; exact n1 _ rfl
  · rw [S.brk] at h; cases h; exact n1 _ rfl
  · rw [S.fur] at h; cases h; exact n1 _ rfl
theorem SpotsIn.notM_lst (S : SpotsIn C H a rs R F ss ws bs fs) {b : Addr} {xs : List V} (h : H b = some (.lst xs)) (n : b ∉ a.L) : b ∉ a.M := by
  intro m
  simp only [List.mem_cons, List.not_mem_nil, or_false] at m n
  rcases m with e | e | e | e | e
  · exact n (.inl e)
  · rw [e, S.num] at h; cases h
  · exact n (.inr (.inl e))
  · exact n (.inr (.inr (.inl e)))
  · exact n (.inr (.inr (.inr e)))
theorem SpotsIn.tup_notM (S : SpotsIn C H a rs R F ss ws bs fs) {b : Addr} {xs : List V} (h : H b = some (.tup xs)) : b ∉ a.M := S.notM h (fun _ e => by cases e) (fun _ e => by cases e)
theorem SpotsIn.p_notM (S : SpotsIn C H a rs R F ss ws bs fs) : a.p ∉ a.M := S.notM S.ins (fun _ e => by cases e) (fun _ e => by cases e)
/-- what stands besides the five -/
theorem SpotsIn.rest (S : SpotsIn C H a rs R F ss ws bs fs) (k : KeepL a.M H H') : H' a.p = some (.ins C a.dx (sF a.l a.a1 a.a2 a.a3 a.a4 a.a5)) ∧ RulesIn H' a.l a.as rs ∧ Each H' R ss oS ∧ Each H' R ws oW ∧ Each H' R bs (oB rs) ∧ Each H' F fs oF := by
  refine ⟨k _ _ S.ins S.p_notM, S.rules.keepL k (S.notM_lst S.rules.lst S.nl) (fun _ _ h => S.tup_notM h), S.eS.keep fun b hb u h => ?_, S.eW.keep fun b hb u h => ?_, S.eB.keep fun b hb u h => ?_, S.eF.keep fun b hb u h => ?_⟩
  · obtain ⟨x, _, e⟩ := S.eS.mem hb
    exact k _ _ h (S.tup_notM e)
  · obtain ⟨x, _, e⟩ := S.eW.mem hb
    exact k _ _ h (S.tup_notM e)
  · obtain ⟨x, _, e⟩ := S.eB.mem hb
    exact k _ _ h (S.notM_lst e (S.nB b hb))
  · obtain ⟨x, _, e⟩ := S.eF.mem hb
    exact k _ _ h (S.notM_lst e (S.nF b hb))
/-- one spot more -/
theorem SpotsIn.grow (S : SpotsIn C H a rs R F ss ws bs fs) {s r : List Nat} {t u b : Addr} (k : KeepL a.M H H') (h1 : H' a.a1 = some (.lst ((ss ++ [t]).map V.ref))) (h2 : H' a.a2 = some (.dT (numFrom 0 (R ++ [(s, r)])))) (h3 : H' a.a3 = some (.lst ((ws ++ [u]).map V.ref)))
    (h4 : H' a.a4 = some (.lst ((bs ++ [b]).map V.ref))) (h5 : H' a.a5 = some (.lst (fs.map V.ref))) (ht : H' t = some (.tup (s.map nv))) (hu : H' u = some (.tup (r.map nv))) (hb : H' b = some (.lst ((pbrk rs s).map nv))) (nb : b ∉ a.L) :
    SpotsIn C H' a rs (R ++ [(s, r)]) F (ss ++ [t]) (ws ++ [u]) (bs ++ [b]) fs := by
  obtain ⟨g1, g2, g3, g4, g5, g6⟩ := S.rest k
  refine ⟨g1, g2, h1, h2, h3, h4, h5, g3.snoc ht, g4.snoc hu, g5.snoc hb, g6, S.nL, S.nl, ?_, S.nF⟩
  intro c hc
  rcases List.mem_append.1 hc with h | h
  · exact S.nB c h
  · rw [List.mem_singleton.1 h]; exact nb
theorem SpotsIn.further (S : SpotsIn C H a rs R F ss ws bs fs) {part : List Nat} {q : Addr} (hq : H q = some (.lst (part.map nv))) (nq : q ∉ a.L) :
    SpotsIn C (upd H a.a5 (.lst ((fs ++ [q]).map V.ref))) a rs R (F ++ [part]) ss ws bs (fs ++ [q]) := by
  have k : KeepL a.M H (upd H a.a5 (.lst ((fs ++ [q]).map V.ref))) := (KeepL.refl _ _).own (by simp)
  obtain ⟨g1, g2, g3, g4, g5, g6⟩ := S.rest k
  have n := S.nL
  simp only [SA.L, List.nodup_cons, List.mem_cons, List.not_mem_nil, or_false, not_or] at n
  refine ⟨g1, g2, ?_, ?_, ?_, ?_, upd_same, g3, g4, g5, g6.snoc (k _ _ hq (S.notM_lst hq nq)), S.nL, S.nl, S.nB, ?_⟩
  · rw [upd_ne n.1.2.2]; exact S.st
  · rw [upd_ne (ne_of S.num S.fur (by intro z; cases z))]; exact S.num
  · rw [upd_ne n.2.1.2]; exact S.row
  · rw [upd_ne n.2.2.1]; exact S.brk
  · intro c hc
    rcases List.mem_append.1 hc with h | h
    · exact S.nF c h
    · rw [List.mem_singleton.1 h]; exact nq
/-- a list that is none of its own is changed -/
theorem SpotsIn.other (S : SpotsIn C H a rs R F ss ws bs fs) {q : Addr} {xs : List V} {o : HO} (hq : H q = some (.lst xs)) (n1 : q ∉ a.L) (n2 : q ≠ a.l) (n3 : q ∉ bs) (n4 : q ∉ fs) : SpotsIn C (upd H q o) a rs R F ss ws bs fs := by
  have nn : ∀ {b : Addr} {u : HO}, H b = some u → b ≠ q → upd H q o b = some u := fun h n => by rw [upd_ne n]; exact h
  have tn : ∀ {b : Addr} {ys : List V}, H b = some (.tup ys) → b ≠ q := fun h => ne_of h hq (by intro z; cases z)
  have ln : ∀ {b : Addr}, b ∈ a.L → b ≠ q := fun h e => n1 (e ▸ h)
  refine ⟨nn S.ins (ne_of S.ins hq (by intro z; cases z)), ⟨nn S.rules.lst (Ne.symm n2), S.rules.len, S.rules.few, fun i b r h1 h2 => nn (S.rules.at_ i b r h1 h2) (tn (S.rules.at_ i b r h1 h2))⟩,
    nn S.st (ln (by simp)), nn S.num (ne_of S.num hq (by intro z; cases z)), nn S.row (ln (by simp)), nn S.brk (ln (by simp)), nn S.fur (ln (by simp)), S.eS.keep fun b hb u h => ?_, S.eW.keep fun b hb u h => ?_, S.eB.keep fun b hb u h => nn h fun e => n3 (e ▸ hb), S.eF.keep fun b hb u h => nn h fun e => n4 (e ▸ hb), S.nL, S.nl, S.nB, S.nF⟩
  · obtain ⟨x, _, e⟩ := S.eS.mem hb
    exact nn h (tn e)
  · obtain ⟨x, _, e⟩ := S.eW.mem hb
    exact nn h (tn e)
end
end Cr
end
section
set_option Elab.async false
set_option maxRecDepth 100000
set_option maxHeartbeats 2000000
set_option linter.all false
namespace Cr
open PySem PySem.Spec PyProof.Rows L2
section
variable {P : Program} {w : World} {K : PySem.W.Frag} {mg : Str → Option Value} {base : Heap} {C : Addr}
def sp_number_of (C : Addr) : Sp := fun vs H Q _ => ∃ (a : SA) (rs : List Wf04.Rule) (R : Rows (List Nat)) (F : List (List Nat)) (ss ws bs fs : List Addr) (t u : Addr) (s r : List Nat),
  vs = [.ref a.p, .ref t, .ref u] ∧ SpotsIn C H a rs R F ss ws bs fs ∧ H t = some (.tup (s.map nv)) ∧ H u = some (.tup (r.map nv)) ∧ Fit rs s ∧ R.length ≤ 10000 ∧
  ∀ (H' : Hp) (ss' ws' bs' : List Addr), KeepL a.M H H' → SpotsIn C H' a rs (putR R (s, r)) F ss' ws' bs' fs → (∀ b ∈ bs', b ∈ bs ∨ H b = none) → Q (nv (ixOf (putR R (s, r)) s)) H'
theorem ok_number_of (B : Own mg) (XS : Ss K mg C) (D : HasM K C "number_of" "Spots.number_of" s_Spots_number_of) (G_verdicts_in : Cal P w K mg base 2 "verdicts_in" ["rules", "states"] (sp_verdicts_in K)) (G_broken_in : Cal P w K mg base 1 "broken_in" ["verdicts"] (sp_broken_in K)) :
    CalM P w K mg base C 3 "number_of" ["self", "states", "row"] (sp_number_of C) := by
  refine D.cal sc_Spots_number_of (fun _ _ _ _ _ _ us hl => match us, hl with | [_, _, _], _ => rfl) (fun vs H Q E h => ?_) (fun f cdv A outer s H vs Q E hr h => ?_)
  · obtain ⟨a, rs, R, F, ss, ws, bs, fs, t, u, s, r, rfl, _⟩ := h; rfl
  · obtain ⟨a, rs, R, F, ss, ws, bs, fs, t, u, s, r, rfl, S, ht, hu, fit, lR, q⟩ := h
    refine ⟨_, (pss_cons (ps_if (pt_cmp (pc_dnotin (hu_of hr) (pv 1) (pe_fld (pv 0) rfl))) (pss_cons (ps_dput (hu_of hr) (pe_fld (pv 0) rfl) (pv 1) (pe_callB call_len_seq (by rfl) B.len (by decide +kernel) (pa_cons (pe_fld (pv 0) rfl) pa_nil)) rfl)
      (pss_cons (ps_expr (pe_bm PySem.F.plainAttrs_list PySem.F.slot_list_append PySem.F.type_list_append mt_append (pe_fld (pv 0) rfl) (pa_cons (pv 1) pa_nil)))
      (pss_cons (ps_expr (pe_bm PySem.F.plainAttrs_list PySem.F.slot_list_append PySem.F.type_list_append mt_append (pe_fld (pv 0) rfl) (pa_cons (pv 2) pa_nil)))
      (pss_one (ps_expr (pe_bm PySem.F.plainAttrs_list PySem.F.slot_list_append PySem.F.type_list_append mt_append (pe_fld (pv 0) rfl) (pa_cons (pe_cal G_broken_in (hr.mono (by decide)) (pa_cons (pe_cal G_verdicts_in (hr.mono (by decide)) (pa_cons (pe_fld (pv 0) rfl) (pa_cons (pv 1) pa_nil))) pa_nil)) pa_nil))))))) pss_nil)
      (pss_one (ps_ret (pe_dget (hu_of hr) (pe_fld (pv 0) rfl) (pv 1) (fun _ _ => rfl))))), ?_⟩
    have ht' : H t = some (.tup ((keyOf s).map kV)) := by rw [keyOf_kV]; exact ht
    refine ⟨_, rfl, _, rfl, a.p, C, a.dx, _, .ref a.a2, rfl, S.ins, XS.cl, XS.nNumbers, rfl, a.a2, _, rfl, DGet.t S.num ht', ?_⟩
    by_cases c : s ∈ R.map fun x => x.1
    · -- it is there
      have e1 : putR R (s, r) = R := if_pos c
      rw [e1] at q
      rw [num_some c]
      refine ⟨false, rfl, iteF ?_⟩
      refine ⟨_, rfl, a.p, C, a.dx, _, .ref a.a2, rfl, S.ins, XS.cl, XS.nNumbers, rfl, _, rfl, a.a2, nv (0 + ixOf R s), rfl, by rw [← num_some c]; exact DGet.t S.num ht', ?_⟩
      rw [Nat.zero_add]
      exact q H ss ws bs (KeepL.refl _ _) S fun b hb => .inl hb
    · have e1 : putR R (s, r) = R ++ [(s, r)] := if_neg c
      rw [e1, show ixOf (R ++ [(s, r)]) s = R.length from ixOf_new c] at q
      rw [num_none c]
      refine ⟨true, rfl, iteT ?_⟩
      have n := S.nL
      simp only [SA.L, List.nodup_cons, List.mem_cons, List.not_mem_nil, or_false, not_or] at n
      obtain ⟨⟨n13, n14, n15⟩, ⟨n34, n35⟩, n45, _⟩ := n
      have n12 : a.a1 ≠ a.a2 := ne_of S.st S.num (by intro z; cases z)
      have n32 : a.a3 ≠ a.a2 := ne_of S.row S.num (by intro z; cases z)
      have n42 : a.a4 ≠ a.a2 := ne_of S.brk S.num (by intro z; cases z)
      have n52 : a.a5 ≠ a.a2 := ne_of S.fur S.num (by intro z; cases z)
      have lS : ss.length = R.length := S.eS.1
      have lW : ws.length = R.length := S.eW.1
      have lB : bs.length = R.length := S.eB.1
      -- numbers[states] = len(self.states)
      refine ⟨_, rfl, a.p, C, a.dx, _, .ref a.a1, rfl, S.ins, XS.cl, XS.nStates, rfl, a.a1, _, rfl, .inl (SqL.of S.st), ?_⟩
      refine ⟨_, rfl, a.p, C, a.dx, _, .ref a.a2, rfl, S.ins, XS.cl, XS.nNumbers, rfl, _, rfl, a.a2, _, rfl, DPut.t S.num ht' (by rw [num_len]; exact big (by omega)), ?_⟩
      rw [putK_new _ (num_none c)]
      have en : numFrom 0 R ++ [(keyOf s, V.int (((ss.map V.ref).length : Nat) : Int))] = numFrom 0 (R ++ [(s, r)]) := by
        rw [num_snoc, List.length_map, lS, Nat.zero_add]
      rw [en]
      have k1 : KeepL a.M H (upd H a.a2 (.dT (numFrom 0 (R ++ [(s, r)])))) := (KeepL.refl _ _).own (by simp)
      generalize eH1 : upd H a.a2 (.dT (numFrom 0 (R ++ [(s, r)]))) = H1 at k1 ⊢
      have g1 : H1 a.a1 = some (.lst (ss.map V.ref)) := by rw [← eH1, upd_ne n12]; exact S.st
      have g2 : H1 a.a2 = some (.dT (numFrom 0 (R ++ [(s, r)]))) := by rw [← eH1]; exact upd_same
      have g3 : H1 a.a3 = some (.lst (ws.map V.ref)) := by rw [← eH1, upd_ne n32]; exact S.row
      have g4 : H1 a.a4 = some (.lst (bs.map V.ref)) := by rw [← eH1, upd_ne n42]; exact S.brk
      have g5 : H1 a.a5 = some (.lst (fs.map V.ref)) := by rw [← eH1, upd_ne n52]; exact S.fur
      -- self.states.append(states)
      refine ⟨_, rfl, a.p, C, a.dx, _, .ref a.a1, rfl, k1 _ _ S.ins S.p_notM, XS.cl, XS.nStates, rfl, .inl ⟨rfl, _, SqL.of g1⟩, _, rfl, a.a1, _, _, rfl, rfl, g1, by rw [List.length_map, lS]; exact big (by omega), ?_⟩
      have es : ss.map V.ref ++ [V.ref t] = (ss ++ [t]).map V.ref := by rw [List.map_append]; rfl
      rw [es]
      have k2 : KeepL a.M H (upd H1 a.a1 (.lst ((ss ++ [t]).map V.ref))) := k1.own (by simp)
      generalize eH2 : upd H1 a.a1 (.lst ((ss ++ [t]).map V.ref)) = H2 at k2 ⊢
      have f1 : H2 a.a1 = some (.lst ((ss ++ [t]).map V.ref)) := by rw [← eH2]; exact upd_same
      have f2 : H2 a.a2 = some (.dT (numFrom 0 (R ++ [(s, r)]))) := by rw [← eH2, upd_ne n12.symm]; exact g2
      have f3 : H2 a.a3 = some (.lst (ws.map V.ref)) := by rw [← eH2, upd_ne (Ne.symm n13)]; exact g3
      have f4 : H2 a.a4 = some (.lst (bs.map V.ref)) := by rw [← eH2, upd_ne (Ne.symm n14)]; exact g4
      have f5 : H2 a.a5 = some (.lst (fs.map V.ref)) := by rw [← eH2, upd_ne (Ne.symm n15)]; exact g5
      -- self.rows.append(row)
      refine ⟨_, rfl, a.p, C, a.dx, _, .ref a.a3, rfl, k2 _ _ S.ins S.p_notM, XS.cl, XS.nRows, rfl, .inl ⟨rfl, _, SqL.of f3⟩, _, rfl, a.a3, _, _, rfl, rfl, f3, by rw [List.length_map, lW]; exact big (by omega), ?_⟩
      have ew : ws.map V.ref ++ [V.ref u] = (ws ++ [u]).map V.ref := by rw [List.map_append]; rfl
      rw [ew]
      have k3 : KeepL a.M H (upd H2 a.a3 (.lst ((ws ++ [u]).map V.ref))) := k2.own (by simp)
      generalize eH3 : upd H2 a.a3 (.lst ((ws ++ [u]).map V.ref)) = H3 at k3 ⊢
      have d1 : H3 a.a1 = some (.lst ((ss ++ [t]).map V.ref)) := by rw [← eH3, upd_ne n13]; exact f1
      have d2 : H3 a.a2 = some (.dT (numFrom 0 (R ++ [(s, r)]))) := by rw [← eH3, upd_ne n32.symm]; exact f2
      have d3 : H3 a.a3 = some (.lst ((ws ++ [u]).map V.ref)) := by rw [← eH3]; exact upd_same
      have d4 : H3 a.a4 = some (.lst (bs.map V.ref)) := by rw [← eH3, upd_ne (Ne.symm n34)]; exact f4
      have d5 : H3 a.a5 = some (.lst (fs.map V.ref)) := by rw [← eH3, upd_ne (Ne.symm n35)]; exact f5
      have back : ∀ b, H3 b = none → H b = none := by
        intro b hb
        cases e : H b with
        | none => rfl
        | some o =>
          exfalso
          by_cases m : b ∈ a.M
          · simp only [List.mem_cons, List.not_mem_nil, or_false] at m
            rcases m with m | m | m | m | m <;> subst m
            · rw [d1] at hb; cases hb
            · rw [d2] at hb; cases hb
            · rw [d3] at hb; cases hb
            · rw [d4] at hb; cases hb
            · rw [d5] at hb; cases hb
          · rw [k3 b o e m] at hb; cases hb
      -- self.broken.append(..)
      refine ⟨_, rfl, a.p, C, a.dx, _, .ref a.a4, rfl, k3 _ _ S.ins S.p_notM, XS.cl, XS.nBroken, rfl, .inl ⟨rfl, _, SqL.of d4⟩, ?_⟩
      refine ⟨_, rfl, a.p, C, a.dx, _, .ref a.l, rfl, k3 _ _ S.ins S.p_notM, XS.cl, XS.nRules, rfl, _, rfl, a.l, t, a.as, rs, s, rfl, (S.rest k3).2.1.rules, SqT.of (k3 _ _ ht (S.tup_notM ht)), fit, fun H4 p4 s4 n4 h4 => ?_⟩
      refine ⟨p4, _, rfl, SqL.of h4, ?_, fun H5 p5 s5 n5 h5 => ?_⟩
      · have : (pverdAll rs s).length = rs.length := zipmap_len (g := fun r x => pverd r x) fit.1
        have := S.rules.few
        omega
      have s35 := s4.trans s5
      refine ⟨a.a4, _, _, rfl, rfl, s35 _ _ d4, by rw [List.length_map, lB]; exact big (by omega), ?_⟩
      have eb : bs.map V.ref ++ [V.ref p5] = (bs ++ [p5]).map V.ref := by rw [List.map_append]; rfl
      rw [eb]
      have np5 : H3 p5 = none := s4.free n5
      have k6 : KeepL a.M H (upd H5 a.a4 (.lst ((bs ++ [p5]).map V.ref))) := (k3.same s35).own (by simp)
      have S6 := S.grow (s := s) (r := r) (t := t) (u := u) (b := p5) k6 (by rw [upd_ne n14]; exact s35 _ _ d1) (by rw [upd_ne n42.symm]; exact s35 _ _ d2) (by rw [upd_ne n34]; exact s35 _ _ d3) upd_same (by rw [upd_ne (Ne.symm n45)]; exact s35 _ _ d5)
        (k6 _ _ ht (S.tup_notM ht)) (k6 _ _ hu (S.tup_notM hu)) (by rw [upd_ne (ne_of_none d4 np5).symm]; exact h5) (by
          intro m
          simp only [List.mem_cons, List.not_mem_nil, or_false] at m
          rcases m with m | m | m | m <;> rw [m] at np5
          · rw [d1] at np5; cases np5
          · rw [d3] at np5; cases np5
          · rw [d4] at np5; cases np5
          · rw [d5] at np5; cases np5)
      refine ⟨_, rfl, a.p, C, a.dx, _, .ref a.a2, rfl, S6.ins, XS.cl, XS.nNumbers, rfl, _, rfl, a.a2, nv R.length, rfl, ?_, ?_⟩
      · have := DGet.t (k := keyOf s) S6.num (b := t) (by rw [keyOf_kV]; exact k6 _ _ ht (S.tup_notM ht))
        rw [num_some (by simp), Nat.zero_add, show ixOf (R ++ [(s, r)]) s = R.length from ixOf_new c] at this
        exact this
      · refine q _ (ss ++ [t]) (ws ++ [u]) (bs ++ [p5]) k6 S6 fun b hb => ?_
        rcases List.mem_append.1 hb with h | h
        · exact .inl h
        · rw [List.mem_singleton.1 h]; exact .inr (back _ np5)
end
end Cr
end
section
set_option Elab.async false
set_option maxRecDepth 100000
set_option maxHeartbeats 2000000
set_option linter.all false
namespace Cr
open PySem PySem.Spec PyProof.Rows L2
theorem binv_few {rs : List Wf04.Rule} {R : Rows (List Nat)} {F : List (List Nat)} {part : List Nat} (hl : rs.length ≤ 4) (I : BInv (preadAll rs) (pstart rs) R F part) : R.length ≤ 10000 := keys_few hl I.nodup I.at_
/-- rows are no longer than there are rows -/
theorem binv_len {rs : List Wf04.Rule} {R : Rows (List Nat)} {F : List (List Nat)} {part : List Nat} (I : BInv (preadAll rs) (pstart rs) R F part) : ∀ (i : Nat) (x : List Nat × List Nat), R[i]? = some x → x.2.length ≤ i := by
  intro i
  induction i using Nat.strongRecOn with
  | ind i ih =>
    intro x hx
    rcases I.from_ x (List.mem_of_getElem? hx) with h | ⟨j, c, y, hy, e, hj, hc⟩
    · rw [h]; exact Nat.zero_le _
    · have er : Er y.2 x.2 := by rw [e]; exact Er.snoc _ _
      have lt : j < i := by
        rcases Nat.lt_trichotomy j i with q | q | q
        · exact q
        · subst q; rw [hx] at hy; cases hy; exact (er.irrefl).elim
        · exact ((er.trans (pairwise_get I.sorted hx hy q)).irrefl).elim
      have := ih j lt y hy
      rw [e, List.length_append, List.length_singleton]; omega
section
variable {P : Program} {w : World} {K : PySem.W.Frag} {mg : Str → Option Value} {base : Heap} {C : Addr}
def sp_sgo (C : Addr) : Sp := fun vs H Q _ => ∃ (a : SA) (rs : List Wf04.Rule) (R : Rows (List Nat)) (F : List (List Nat)) (ss ws bs fs : List Addr),
  vs = [.ref a.p, nv F.length] ∧ SpotsIn C H a rs R F ss ws bs fs ∧ BInv (preadAll rs) (pstart rs) R F [] ∧ F.length < R.length ∧
  ∀ (H' : Hp) (R' : Rows (List Nat)) (part : List Nat) (ss' ws' bs' fs' : List Addr), KeepL a.M H H' → SpotsIn C H' a rs R' (F ++ [part]) ss' ws' bs' fs' → BInv (preadAll rs) (pstart rs) R' (F ++ [part]) [] → Q .non H'
theorem ok_sgo (T : Con mg) (B : Own mg) (XS : Ss K mg C) (D : HasM K C "go_further" "Spots.go_further" s_Spots_go_further) (G_states_after : Cal P w K mg base 3 "states_after" ["rules", "states", "step"] (sp_states_after K)) (M_number_of : CalM P w K mg base C 3 "number_of" ["self", "states", "row"] (sp_number_of C)) :
    CalM P w K mg base C 4 "go_further" ["self", "spot"] (sp_sgo C) := by
  refine D.cal sc_Spots_go_further (fun _ _ _ _ _ _ us hl => match us, hl with | [_, _], _ => rfl) (fun vs H Q E h => ?_) (fun f cdv A outer s H vs Q E hr h => ?_)
  · obtain ⟨a, rs, R, F, ss, ws, bs, fs, rfl, _⟩ := h; rfl
  · obtain ⟨a, rs, R, F, ss, ws, bs, fs, rfl, S, I, lF, q⟩ := h
    refine ⟨_, (pss_cons (ps_set (i := 2) sc_Spots_go_further.nd rfl (Or.inl rfl) (pe_lst pa_nil))
      (pss_cons (ps_for PassesOwn.never rfl (pi_range1 (by rfl) B.range (pa_cons (pe_num T.STEPS) pa_nil)) (pg_name (i := 3) sc_Spots_go_further.nd rfl (Or.inl rfl))
      (pss_cons (ps_set (i := 4) sc_Spots_go_further.nd rfl (Or.inl rfl) (pe_cal G_states_after (hr.mono (by decide)) (pa_cons (pe_fld (pv 0) rfl) (pa_cons (pe_ix ix_list (pe_fld (pv 0) rfl) (pv 1) (fun _ _ => rfl)) (pa_cons (pv 3) pa_nil)))))
      (pss_one (ps_expr (pe_bm PySem.F.plainAttrs_list PySem.F.slot_list_append PySem.F.type_list_append mt_append (pv 2) (pa_cons (pe_calM (pv 0) XS.cl M_number_of (hr.mono (by decide)) (pa_cons (pv 4) (pa_cons (pe_op op_catA (pe_ix ix_list (pe_fld (pv 0) rfl) (pv 1) (fun _ _ => rfl)) (pe_tup (pa_cons (pv 3) pa_nil))) pa_nil))) pa_nil))))))
      (pss_one (ps_expr (pe_bm PySem.F.plainAttrs_list PySem.F.slot_list_append PySem.F.type_list_append mt_append (pe_fld (pv 0) rfl) (pa_cons (pv 2) pa_nil)))))), ?_⟩
    refine ⟨Nat.zero_le _, fun g ng => ?_⟩
    have gy : R[F.length]? = some R[F.length] := List.getElem?_eq_getElem lF
    -- what stands before each turn
    refine ⟨5, rfl, by decide, by decide, for_range (lo := 0) (n := 5) (fun j σ H' => ∃ (v3 v4 : Option V) (R' : Rows (List Nat)) (part : List Nat) (ss' ws' bs' : List Addr), σ = [some (.ref a.p), some (nv F.length), some (.ref g), v3, v4] ∧ KeepL a.M H H' ∧ H' g = some (.lst (part.map nv)) ∧ SpotsIn C H' a rs R' F ss' ws' bs' fs ∧ BInv (preadAll rs) (pstart rs) R' F part ∧ part.length = j ∧ R'[F.length]? = some R[F.length] ∧ g ∉ bs' ∧ g ∉ a.L ∧ g ≠ a.l ∧ g ∉ fs)
      ⟨none, none, R, [], ss, ws, bs, rfl, (KeepL.refl _ _).put ng, upd_same, S.same (Same.new ng), I, rfl, gy, ?_, ?_, (ne_of_none S.rules.lst ng).symm, ?_⟩ ?_ ?_⟩
    · intro m; obtain ⟨x, _, e⟩ := S.eB.mem m; rw [ng] at e; cases e
    · intro m
      simp only [List.mem_cons, List.not_mem_nil, or_false] at m
      rcases m with m | m | m | m <;> rw [m] at ng
      · rw [S.st] at ng; cases ng
      · rw [S.row] at ng; cases ng
      · rw [S.brk] at ng; cases ng
      · rw [S.fur] at ng; cases ng
    · intro m; obtain ⟨x, _, e⟩ := S.eF.mem m; rw [ng] at e; cases e
    · rintro j σ H1 hj ⟨v3, v4, R1, part, ss1, ws1, bs1, rfl, kp, hg, S1, I1, lp, gy1, ngb, ngL, ngl, ngf⟩
      have ej : (0 : Int) + (j : Nat) = (j : Int) := Int.zero_add _
      rw [ej]
      obtain ⟨sa, gsa, hsa⟩ := S1.eS.get gy1
      obtain ⟨wa, gwa, hwa⟩ := S1.eW.get gy1
      have few := binv_few S1.rules.few I1
      obtain ⟨ry, ey⟩ := I1.at_ _ (List.mem_of_getElem? gy1)
      have fit : Fit rs R[F.length].1 := by rw [ey]; exact pfit_run _
      have lenr : R[F.length].2.length ≤ 10000 := by
        have h1 := binv_len I1 _ _ gy1
        have h2 := (List.getElem?_eq_some_iff.1 gy1).1
        exact Nat.le_trans h1 (Nat.le_trans (Nat.le_of_lt h2) few)
      -- states = states_after(self.rules, self.states[spot], step)
      refine ⟨_, rfl, a.p, C, a.dx, _, .ref a.l, rfl, S1.ins, XS.cl, XS.nRules, rfl, _, rfl, a.p, C, a.dx, _, .ref a.a1, rfl, S1.ins, XS.cl, XS.nStates, rfl, _, rfl, a.a1, _, (F.length : Int), .ref sa, rfl, rfl, SqL.of S1.st, atI_nat (by rw [List.getElem?_map, gsa]; rfl), _, rfl, a.l, sa, a.as, rs, R[F.length].1, j, rfl, S1.rules.rules, SqT.of hsa, fit, fun H2 p2 s2 n2 h2 => ?_⟩
      have S2 := S1.same s2
      have hg2 := s2 _ _ hg
      -- reached.append(self.number_of(states, self.rows[spot] + (step,)))
      refine ⟨_, rfl, .inl ⟨rfl, _, SqL.of hg2⟩, _, rfl, a.p, a.dx, _, rfl, S2.ins, rfl, _, rfl, ?_⟩
      refine ⟨_, rfl, a.p, C, a.dx, _, .ref a.a3, rfl, S2.ins, XS.cl, XS.nRows, rfl, _, rfl, a.a3, _, (F.length : Int), .ref wa, rfl, rfl, SqL.of S2.row, atI_nat (by rw [List.getElem?_map, gwa]; rfl), _, rfl, (by show 1 ≤ sizeLine; decide), fun t nt => ?_⟩
      have st : Same H2 (upd H2 t (.tup [.int j])) := Same.new nt
      -- the rest, the row at u
      have fin : ∀ (H3 : Hp) (u : Addr), Same H2 H3 → H3 u = some (.tup ((R[F.length].2 ++ [j]).map nv)) → sp_number_of C [.ref a.p, .ref p2, .ref u] H3 (fun v H4 => ∃ l xs, ∃ y, V.ref g = V.ref l ∧ [v] = [y] ∧ H4 l = some (.lst xs) ∧ xs.length < sizeLine ∧ (∃ (v3 v4 : Option V) (R' : Rows (List Nat)) (part : List Nat) (ss' ws' bs' : List Addr), [some (V.ref a.p), some (nv F.length), some (V.ref g), some (V.int (j : Int)), some (V.ref p2)] = [some (.ref a.p), some (nv F.length), some (.ref g), v3, v4] ∧ KeepL a.M H (upd H4 l (.lst (xs ++ [y]))) ∧ (upd H4 l (.lst (xs ++ [y]))) g = some (.lst (part.map nv)) ∧ SpotsIn C (upd H4 l (.lst (xs ++ [y]))) a rs R' F ss' ws' bs' fs ∧ BInv (preadAll rs) (pstart rs) R' F part ∧ part.length = j + 1 ∧ R'[F.length]? = some R[F.length] ∧ g ∉ bs' ∧ g ∉ a.L ∧ g ≠ a.l ∧ g ∉ fs)) E0 := by
        intro H3 u s3 h3
        have S3 := S2.same s3
        refine ⟨a, rs, R1, F, ss1, ws1, bs1, fs, p2, u, preadAll rs R[F.length].1 j, R[F.length].2 ++ [j], rfl, S3, s3 _ _ h2, h3, fit_read fit j, few, fun H4 ss4 ws4 bs4 k4 S4 nb4 => ?_⟩
        have ngM : g ∉ a.M := S3.notM_lst (s3 _ _ hg2) ngL
        have hg4 : H4 g = some (.lst (part.map nv)) := k4 _ _ (s3 _ _ hg2) ngM
        have ngb4 : g ∉ bs4 := by
          intro m
          rcases nb4 g m with h | h
          · exact ngb h
          · rw [s3 _ _ hg2] at h; cases h
        refine ⟨g, _, _, rfl, rfl, hg4, by rw [List.length_map]; exact big (by omega), ?_⟩
        subst lp
        refine ⟨_, _, putR R1 (preadAll rs R[F.length].1 part.length, R[F.length].2 ++ [part.length]), part ++ [ixOf (putR R1 (preadAll rs R[F.length].1 part.length, R[F.length].2 ++ [part.length])) (preadAll rs R[F.length].1 part.length)], ss4, ws4, bs4, rfl, ?_, ?_, S4.other hg4 ngL ngl ngb4 ngf, I1.step gy1 hj, by simp, ?_, ngb4, ngL, ngl, ngf⟩
        · exact ((kp.same (s2.trans s3)).trans k4).put ng
        · rw [upd_same, List.map_append]; rfl
        · obtain ⟨M, e⟩ := putR_old R1 (preadAll rs R[F.length].1 part.length, R[F.length].2 ++ [part.length])
          rw [e]; exact get_app gy1 M
      refine ⟨wa, t, R[F.length].2.map nv, [.int j], rfl, rfl, SqT.of (st _ _ (S2.eW.2 _ _ _ gy1 gwa)), SqT.of upd_same, ?_, fun e => ?_, (fun _ e => by cases e), fun ne _ c5 nc => ?_⟩
      · rw [List.length_map]; exact Nat.le_of_lt (big (by simp only [List.length_cons, List.length_nil]; omega))
      · have e0 : R[F.length].2 = [] := by simpa using e
        exact fin _ t st (by rw [upd_same, e0]; rfl)
      · exact fin _ c5 (st.trans (Same.new nc)) (by rw [upd_same, List.map_append]; rfl)
    · rintro σ H1 ⟨v3, v4, R1, part, ss1, ws1, bs1, rfl, kp, hg, S1, I1, lp, gy1, ngb, ngL, ngl, ngf⟩
      have few := binv_few S1.rules.few I1
      have lf : fs.length = F.length := S1.eF.1
      have lF1 : F.length < R1.length := (List.getElem?_eq_some_iff.1 gy1).1
      refine ⟨_, rfl, a.p, C, a.dx, _, .ref a.a5, rfl, S1.ins, XS.cl, XS.nFurther, rfl, .inl ⟨rfl, _, SqL.of S1.fur⟩, _, rfl, a.a5, _, _, rfl, rfl, S1.fur, by rw [List.length_map, lf]; exact big (by omega), ?_⟩
      have ef : fs.map V.ref ++ [V.ref g] = (fs ++ [g]).map V.ref := by rw [List.map_append]; rfl
      rw [ef]
      exact q _ R1 part ss1 ws1 bs1 (fs ++ [g]) (kp.own (by simp)) (S1.further hg ngL) (I1.turn lp)
end
end Cr
end
section
set_option Elab.async false
set_option maxRecDepth 100000
set_option maxHeartbeats 2000000
set_option linter.all false
namespace Cr
open PySem PySem.Spec PyProof.Rows L2
/-- a Spots to be read -/
structure SpotsAt (C : Addr) (H : Hp) (p : Addr) (rs : List Wf04.Rule) (R : Rows (List Nat)) (F : List (List Nat)) (wa ba fa : Addr) (ws bs fs : List Addr) : Prop where
  ins : ∃ dx l a1 a2, H p = some (.ins C dx (sF l a1 a2 wa ba fa))
  row : H wa = some (.lst (ws.map V.ref))
  brk : H ba = some (.lst (bs.map V.ref))
  fur : H fa = some (.lst (fs.map V.ref))
  eW : Each H R ws oW
  eB : Each H R bs (oB rs)
  eF : Each H F fs oF
def SpotsOn (C : Addr) (H : Hp) (p : Addr) (rs : List Wf04.Rule) (R : Rows (List Nat)) (F : List (List Nat)) : Prop := ∃ wa ba fa ws bs fs, SpotsAt C H p rs R F wa ba fa ws bs fs
theorem SpotsAt.same {C : Addr} {H H' : Hp} {p : Addr} {rs : List Wf04.Rule} {R : Rows (List Nat)} {F : List (List Nat)} {wa ba fa : Addr} {ws bs fs : List Addr} (S : SpotsAt C H p rs R F wa ba fa ws bs fs) (e : Same H H') : SpotsAt C H' p rs R F wa ba fa ws bs fs := by
  obtain ⟨dx, l, a1, a2, h⟩ := S.ins
  exact ⟨⟨dx, l, a1, a2, e _ _ h⟩, e _ _ S.row, e _ _ S.brk, e _ _ S.fur, S.eW.same e, S.eB.same e, S.eF.same e⟩
theorem SpotsOn.same {C : Addr} {H H' : Hp} {p : Addr} {rs : List Wf04.Rule} {R : Rows (List Nat)} {F : List (List Nat)} (S : SpotsOn C H p rs R F) (e : Same H H') : SpotsOn C H' p rs R F := by
  obtain ⟨wa, ba, fa, ws, bs, fs, h⟩ := S
  exact ⟨wa, ba, fa, ws, bs, fs, h.same e⟩
theorem store_new {H : Hp} {p a : Addr} {i j o : HO} (hp : H p = some i) (na : H a = none) : (∀ b u, H b = some u → b ≠ p → upd (upd H a o) p j b = some u) ∧ upd (upd H a o) p j a = some o ∧ upd (upd H a o) p j p = some j := by
  refine ⟨fun b u h n => ?_, ?_, upd_same⟩
  · rw [upd_ne n, upd_ne (ne_of_none h na)]; exact h
  · rw [upd_ne (ne_of_none hp na).symm]; exact upd_same
def SpotsG (rs : List Wf04.Rule) (R : Rows (List Nat)) (F : List (List Nat)) : Prop := Spots rs R F ∧ ∀ x ∈ R, x.2.length ≤ 10000
section
variable {P : Program} {w : World} {K : PySem.W.Frag} {mg : Str → Option Value} {base : Heap} {C : Addr}
def sp_sinit (C : Addr) : Sp := fun vs H Q _ => ∃ (p dx l : Addr) (as : List Addr) (rs : List Wf04.Rule), vs = [.ref p, .ref l] ∧ H p = some (.ins C dx []) ∧ RulesIn H l as rs ∧
  ∀ (H' : Hp) (R : Rows (List Nat)) (F : List (List Nat)), SpotsOn C H' p rs R F → SpotsG rs R F → (∀ b o, H b = some o → b ≠ p → H' b = some o) → Q .non H'
theorem ok_sinit (B : Own mg) (XS : Ss K mg C) (D : HasI K mg C "Spots" "Spots.__init__" s_Spots_init) (G_first_states : Cal P w K mg base 1 "first_states" ["rules"] (sp_first_states K)) (M_number_of : CalM P w K mg base C 3 "number_of" ["self", "states", "row"] (sp_number_of C))
    (M_go_further : CalM P w K mg base C 4 "go_further" ["self", "spot"] (sp_sgo C)) : CalI P w K mg base C 5 "Spots" ["self", "rules"] (sp_sinit C) := by
  refine D.cal sc_Spots_init (fun _ _ _ _ _ _ us hl => match us, hl with | [_, _], _ => rfl) (fun vs H Q E h => ?_) (fun f cdv A outer s H vs Q E hr h => ?_)
  · obtain ⟨p, dx, l, as, rs, rfl, _⟩ := h; rfl
  · obtain ⟨p, dx, l, as, rs, rfl, hp, hR, q⟩ := h
    refine ⟨_, (pss_cons (ps_fld (pv 0) (pv 1) rfl)
      (pss_cons (ps_fld (pv 0) (pe_lst pa_nil) rfl)
      (pss_cons (ps_fld (pv 0) pe_dnewT rfl)
      (pss_cons (ps_fld (pv 0) (pe_lst pa_nil) rfl)
      (pss_cons (ps_fld (pv 0) (pe_lst pa_nil) rfl)
      (pss_cons (ps_fld (pv 0) (pe_lst pa_nil) rfl)
      (pss_cons (ps_expr (pe_calM (pv 0) XS.cl M_number_of (hr.mono (by decide)) (pa_cons (pe_cal G_first_states (hr.mono (by decide)) (pa_cons (pv 1) pa_nil)) (pa_cons (pe_tup pa_nil) pa_nil))))
      (pss_one (ps_while PassesOwn.never (pt_cmpR op_lt (pe_callB call_len_seq (by rfl) B.len (by decide +kernel) (pa_cons (pe_fld (pv 0) rfl) pa_nil)) (pe_callB call_len_seq (by rfl) B.len (by decide +kernel) (pa_cons (pe_fld (pv 0) rfl) pa_nil)) (nomark _))
      (pss_one (ps_expr (pe_calM (pv 0) XS.cl M_go_further (hr.mono (by decide)) (pa_cons (pe_callB call_len_seq (by rfl) B.len (by decide +kernel) (pa_cons (pe_fld (pv 0) rfl) pa_nil)) pa_nil))))))))))))), ?_⟩
    have npl : l ≠ p := ne_of hR.lst hp (by intro z; cases z)
    have ntp : ∀ b xs, H b = some (.tup xs) → b ≠ p := fun b xs h => ne_of h hp (by intro z; cases z)
    -- self.rules = rules
    refine ⟨_, rfl, _, rfl, p, C, dx, [], rfl, hp, XS.cl, XS.nRules, (by show 0 < 1000; decide), ?_⟩
    have k1 : ∀ b u, H b = some u → b ≠ p → upd H p (.ins C dx (putF "rules" (V.ref l) [])) b = some u := fun b u h n => by rw [upd_ne n]; exact h
    have p1 : upd H p (.ins C dx (putF "rules" (V.ref l) [])) p = some (.ins C dx (putF "rules" (V.ref l) [])) := upd_same
    generalize upd H p (.ins C dx (putF "rules" (V.ref l) [])) = H1 at k1 p1 ⊢
    -- self.states = []
    refine ⟨Nat.zero_le _, fun a1 n1 => ⟨_, rfl, p, C, dx, _, rfl, (Same.new n1) _ _ p1, XS.cl, XS.nStates, (by show 1 < 1000; decide), ?_⟩⟩
    obtain ⟨k2, b1, p2⟩ := store_new (o := .lst []) (j := .ins C dx (putF "states" (V.ref a1) (putF "rules" (V.ref l) []))) p1 n1
    have na1 : a1 ≠ p := (ne_of_none p1 n1).symm
    generalize upd (upd H1 a1 (.lst [])) p (.ins C dx (putF "states" (V.ref a1) (putF "rules" (V.ref l) []))) = H2 at k2 b1 p2 ⊢
    -- self.numbers = {}
    intro a2 n2
    refine ⟨_, rfl, p, C, dx, _, rfl, (Same.new n2) _ _ p2, XS.cl, XS.nNumbers, (by show 2 < 1000; decide), ?_⟩
    obtain ⟨k3, b2, p3⟩ := store_new (o := .dT []) (j := .ins C dx (putF "numbers" (V.ref a2) (putF "states" (V.ref a1) (putF "rules" (V.ref l) [])))) p2 n2
    have na2 : a2 ≠ p := (ne_of_none p2 n2).symm
    generalize upd (upd H2 a2 (.dT [])) p (.ins C dx (putF "numbers" (V.ref a2) (putF "states" (V.ref a1) (putF "rules" (V.ref l) [])))) = H3 at k3 b2 p3 ⊢
    -- self.rows = []
    refine ⟨Nat.zero_le _, fun a3 n3 => ⟨_, rfl, p, C, dx, _, rfl, (Same.new n3) _ _ p3, XS.cl, XS.nRows, (by show 3 < 1000; decide), ?_⟩⟩
    obtain ⟨k4, b3, p4⟩ := store_new (o := .lst []) (j := .ins C dx (putF "rows" (V.ref a3) (putF "numbers" (V.ref a2) (putF "states" (V.ref a1) (putF "rules" (V.ref l) []))))) p3 n3
    have na3 : a3 ≠ p := (ne_of_none p3 n3).symm
    generalize upd (upd H3 a3 (.lst [])) p (.ins C dx (putF "rows" (V.ref a3) (putF "numbers" (V.ref a2) (putF "states" (V.ref a1) (putF "rules" (V.ref l) []))))) = H4 at k4 b3 p4 ⊢
    -- self.broken = []
    refine ⟨Nat.zero_le _, fun a4 n4 => ⟨_, rfl, p, C, dx, _, rfl, (Same.new n4) _ _ p4, XS.cl, XS.nBroken, (by show 4 < 1000; decide), ?_⟩⟩
    obtain ⟨k5, b4, p5⟩ := store_new (o := .lst []) (j := .ins C dx (putF "broken" (V.ref a4) (putF "rows" (V.ref a3) (putF "numbers" (V.ref a2) (putF "states" (V.ref a1) (putF "rules" (V.ref l) [])))))) p4 n4
    have na4 : a4 ≠ p := (ne_of_none p4 n4).symm
    generalize upd (upd H4 a4 (.lst [])) p (.ins C dx (putF "broken" (V.ref a4) (putF "rows" (V.ref a3) (putF "numbers" (V.ref a2) (putF "states" (V.ref a1) (putF "rules" (V.ref l) [])))))) = H5 at k5 b4 p5 ⊢
    -- self.further = []
    refine ⟨Nat.zero_le _, fun a5 n5 => ⟨_, rfl, p, C, dx, _, rfl, (Same.new n5) _ _ p5, XS.cl, XS.nFurther, (by show 5 < 1000; decide), ?_⟩⟩
    have eF : putF "further" (V.ref a5) (putF "broken" (V.ref a4) (putF "rows" (V.ref a3) (putF "numbers" (V.ref a2) (putF "states" (V.ref a1) (putF "rules" (V.ref l) []))))) = sF l a1 a2 a3 a4 a5 := rfl
    rw [eF]
    obtain ⟨k6, b5, p6⟩ := store_new (o := .lst []) (j := .ins C dx (sF l a1 a2 a3 a4 a5)) p5 n5
    have na5 : a5 ≠ p := (ne_of_none p5 n5).symm
    generalize upd (upd H5 a5 (.lst [])) p (.ins C dx (sF l a1 a2 a3 a4 a5)) = H6 at k6 b5 p6 ⊢
    have ka : ∀ b u, H b = some u → b ≠ p → H6 b = some u := fun b u h n => k6 b u (k5 b u (k4 b u (k3 b u (k2 b u (k1 b u h n) n) n) n) n) n
    have c1 : H6 a1 = some (.lst []) := k6 _ _ (k5 _ _ (k4 _ _ (k3 _ _ b1 na1) na1) na1) na1
    have c2 : H6 a2 = some (.dT []) := k6 _ _ (k5 _ _ (k4 _ _ b2 na2) na2) na2
    have c3 : H6 a3 = some (.lst []) := k6 _ _ (k5 _ _ b3 na3) na3
    have c4 : H6 a4 = some (.lst []) := k6 _ _ b4 na4
    have h1l : H1 l = some (.lst (as.map V.ref)) := k1 _ _ hR.lst npl
    have h2l := k2 _ _ h1l npl
    have h3l := k3 _ _ h2l npl
    have h4l := k4 _ _ h3l npl
    have h5l := k5 _ _ h4l npl
    have nL : [a1, a3, a4, a5].Nodup := by
      have e13 : a1 ≠ a3 := ne_of_none (k3 _ _ b1 na1) n3
      have e14 : a1 ≠ a4 := ne_of_none (k4 _ _ (k3 _ _ b1 na1) na1) n4
      have e15 : a1 ≠ a5 := ne_of_none (k5 _ _ (k4 _ _ (k3 _ _ b1 na1) na1) na1) n5
      have e34 : a3 ≠ a4 := ne_of_none b3 n4
      have e35 : a3 ≠ a5 := ne_of_none (k5 _ _ b3 na3) n5
      have e45 : a4 ≠ a5 := ne_of_none b4 n5
      simp [e13, e14, e15, e34, e35, e45]
    have nl : l ∉ [a1, a3, a4, a5] := by
      have e1 : l ≠ a1 := ne_of_none h1l n1
      have e3 : l ≠ a3 := ne_of_none h3l n3
      have e4 : l ≠ a4 := ne_of_none h4l n4
      have e5 : l ≠ a5 := ne_of_none h5l n5
      simp [e1, e3, e4, e5]
    have hR6 : RulesIn H6 l as rs := ⟨ka _ _ hR.lst npl, hR.len, hR.few, fun i a r h1 h2 => ka _ _ (hR.at_ i a r h1 h2) (ntp _ _ (hR.at_ i a r h1 h2))⟩
    have S6 : SpotsIn C H6 ⟨p, dx, l, as, a1, a2, a3, a4, a5⟩ rs [] [] [] [] [] [] :=
      ⟨p6, hR6, c1, c2, c3, c4, b5, .nil, .nil, .nil, .nil, nL, nl, (fun b hb => by cases hb), fun b hb => by cases hb⟩
    -- self.number_of(first_states(rules), ())
    refine ⟨_, rfl, p, dx, _, rfl, p6, rfl, _, rfl, l, as, rs, rfl, hR6.rules, fun H7 p7 s7 n7 h7 => ?_⟩
    refine ⟨Nat.zero_le _, fun u nu => ?_⟩
    have s8 : Same H7 (upd H7 u (.tup [])) := Same.new nu
    refine ⟨⟨p, dx, l, as, a1, a2, a3, a4, a5⟩, rs, [], [], [], [], [], [], p7, u, pstart rs, [], rfl, S6.same (s7.trans s8), s8 _ _ h7, upd_same, fit_start rs, Nat.zero_le _, fun H9 ss ws bs k9 S9 nb => ?_⟩
    have eR : putR ([] : Rows (List Nat)) (pstart rs, []) = [(pstart rs, [])] := rfl
    rw [eR] at S9
    have kM : ∀ b u, H b = some u → b ≠ p → b ∉ [a1, a2, a3, a4, a5] := by
      intro b u h n m
      have e1 := ne_of_none (k1 _ _ h n) n1
      have e2 := ne_of_none (k2 _ _ (k1 _ _ h n) n) n2
      have e3 := ne_of_none (k3 _ _ (k2 _ _ (k1 _ _ h n) n) n) n3
      have e4 := ne_of_none (k4 _ _ (k3 _ _ (k2 _ _ (k1 _ _ h n) n) n) n) n4
      have e5 := ne_of_none (k5 _ _ (k4 _ _ (k3 _ _ (k2 _ _ (k1 _ _ h n) n) n) n) n) n5
      simp only [List.mem_cons, List.not_mem_nil, or_false] at m
      rcases m with m | m | m | m | m
      · exact e1 m
      · exact e2 m
      · exact e3 m
      · exact e4 m
      · exact e5 m
    have kH : ∀ b u, H b = some u → b ≠ p → H9 b = some u := fun b u h n => k9 _ _ (s8 _ _ (s7 _ _ (ka b u h n))) (kM b u h n)
    -- the loop
    refine ⟨fun m σ H' => ∃ (R : Rows (List Nat)) (F : List (List Nat)) (ss ws bs fs : List Addr), σ = [some (.ref p), some (.ref l)] ∧ SpotsIn C H' ⟨p, dx, l, as, a1, a2, a3, a4, a5⟩ rs R F ss ws bs fs ∧ BInv (preadAll rs) (pstart rs) R F [] ∧ F.length ≤ R.length ∧ (∀ b u, H b = some u → b ≠ p → H' b = some u) ∧ m = 10000 - F.length,
      ⟨_, [(pstart rs, [])], [], ss, ws, bs, [], rfl, S9, BInv.start _ _, Nat.zero_le _, kH, rfl⟩, ?_⟩
    rintro m σ H' ⟨R, F, ss, ws, bs, fs, rfl, S, I, le, kH', rfl⟩
    have lf : fs.length = F.length := S.eF.1
    have lS : ss.length = R.length := S.eS.1
    have few := binv_few hR.few I
    refine ⟨_, rfl, p, C, dx, _, .ref a5, rfl, S.ins, XS.cl, XS.nFurther, rfl, a5, _, rfl, .inl (SqL.of S.fur), _, rfl, p, C, dx, _, .ref a1, rfl, S.ins, XS.cl, XS.nStates, rfl, a1, _, rfl, .inl (SqL.of S.st), _, _, rfl, rfl, _, rfl, ?_⟩
    have e0 : decide ((((fs.map V.ref).length : Nat) : Int) < ((ss.map V.ref).length : Nat)) = decide (F.length < R.length) := by rw [List.length_map, List.length_map, lf, lS]; simp
    rw [e0]
    by_cases c : F.length < R.length
    · rw [decide_eq_true c]
      refine iteT ?_
      refine ⟨fun σ' H' => ∃ (R' : Rows (List Nat)) (F' : List (List Nat)) (ss ws bs fs : List Addr), σ' = [some (.ref p), some (.ref l)] ∧ SpotsIn C H' ⟨p, dx, l, as, a1, a2, a3, a4, a5⟩ rs R' F' ss ws bs fs ∧ BInv (preadAll rs) (pstart rs) R' F' [] ∧ F'.length ≤ R'.length ∧ (∀ b u, H b = some u → b ≠ p → H' b = some u) ∧ 10000 - F'.length < 10000 - F.length,
        fun σ' H' ⟨R', F', ss, ws, bs, fs, e1, e2, e3, e4, e5, e6⟩ => ⟨_, e6, R', F', ss, ws, bs, fs, e1, e2, e3, e4, e5, rfl⟩, ?_⟩
      refine ⟨_, rfl, p, dx, _, rfl, S.ins, rfl, _, rfl, p, C, dx, _, .ref a5, rfl, S.ins, XS.cl, XS.nFurther, rfl, a5, _, rfl, .inl (SqL.of S.fur), ?_⟩
      refine ⟨⟨p, dx, l, as, a1, a2, a3, a4, a5⟩, rs, R, F, ss, ws, bs, fs, by rw [List.length_map, lf]; rfl, S, I, c, fun H2 R2 part ss2 ws2 bs2 fs2 k2 S2 I2 => ?_⟩
      have le2 : F.length + 1 ≤ R2.length := by
        obtain ⟨y, z, g, _⟩ := I2.next F.length 0 part (part.getD 0 0) (by rw [List.append_assoc, List.getElem?_append_right (Nat.le_refl _)]; simp) (by
          have := I2.full part (by simp)
          match part, this with
          | x :: _, _ => rfl)
        exact (List.getElem?_eq_some_iff.1 g).1
      refine ⟨R2, F ++ [part], ss2, ws2, bs2, fs2, rfl, S2, I2, by rw [List.length_append, List.length_singleton]; exact le2, fun b u h n => k2 _ _ (kH' b u h n) (kM b u h n), by rw [List.length_append, List.length_singleton]; omega⟩
    · rw [decide_eq_false c]
      refine iteF ?_
      exact q H' R F ⟨a3, a4, a5, ws, bs, fs, ⟨⟨dx, l, a1, a2, S.ins⟩, S.row, S.brk, S.fur, S.eW, S.eB, S.eF⟩⟩ ⟨I.done (by omega), fun x hx => by
        obtain ⟨i, hi, e⟩ := List.mem_iff_getElem.1 hx
        have h1 := binv_len I i x (by rw [List.getElem?_eq_getElem hi, e])
        omega⟩ kH'
end
end Cr
end
section
set_option Elab.async false
set_option maxRecDepth 100000
set_option maxHeartbeats 2000000
set_option linter.all false
namespace Cr
open PySem PySem.Spec PyProof.Rows L2
/-- what a search for a row hands back -/
def RowOut (H : Hp) (Q : VK) : Option (List Nat) → Prop
  | none => ∀ H', Same H H' → Q .non H'
  | some ws => ws.length ≤ 10000 → ∀ H' p, Same H H' → H' p = some (.tup (ws.map nv)) → Q (.ref p) H'
/-- the answer of a search -/
def rowAns : Option (List Nat) → List Int
  | none => [-6]
  | some ws => (ws.length : Int) :: ws.map fun n : Nat => (n : Int)
theorem in_nv (i : Nat) (l : List Nat) : inV (nv i) (l.map nv) = l.contains i := by
  unfold inV
  rw [List.any_map, List.contains_eq_any_beq]
  congr 1
  funext n
  show eqV (nv n) (nv i) = (i == n)
  by_cases h : n = i
  · subst h; simp [eqV]
  · have h' : ¬ i = n := fun e => h e.symm
    have : ((n : Int) == (i : Int)) = false := by
      rw [beq_eq_false_iff_ne]; omega
    have h2 : (i == n) = false := by rw [beq_eq_false_iff_ne]; exact h'
    show ((n : Int) == (i : Int)) = (i == n)
    rw [this, h2]
theorem flat_nv (l : List Nat) : (l.map nv).all flatV = true := by
  rw [List.all_map]
  exact List.all_eq_true.2 fun _ _ => rfl
structure Con3 (mg : Str → Option Value) : Prop where
  MOST_RULES : ∃ t, mg "MOST_RULES" = some (.int 4 t)
  MOST_COUNTED : ∃ t, mg "MOST_COUNTED" = some (.int 10 t)
  WRONG_FORM : ∃ t, mg "WRONG_FORM" = some (.int (-1) t)
  NO_SUCH_RULE : ∃ t, mg "NO_SUCH_RULE" = some (.int (-2) t)
  NO_SUCH_ROW : ∃ t, mg "NO_SUCH_ROW" = some (.int (-6) t)
  TOO_MANY_RULES : ∃ t, mg "TOO_MANY_RULES" = some (.int (-7) t)
section
variable {P : Program} {w : World} {K : PySem.W.Frag} {mg : Str → Option Value} {base : Heap} {C : Addr}
def sp_earliest_row (K : PySem.W.Frag) (C : Addr) : Sp := fun vs H Q _ => ∃ (p wp : Addr) (rs : List Wf04.Rule) (R : Rows (List Nat)) (F : List (List Nat)) (ns : List Nat), vs = [.ref p, .ref wp] ∧ SpotsOn C H p rs R F ∧ SpotsG rs R F ∧ SqL K H wp (ns.map nv) ∧
  ∀ o, Earliest (fun ws => decide (pbrk rs (prunAll rs ws) = ns) = true) o → RowOut H Q o
theorem ok_earliest_row (B : Own mg) (XS : Ss K mg C) (D : Has K mg "earliest_row" s_earliest_row) : Cal P w K mg base 1 "earliest_row" ["spots", "wanted"] (sp_earliest_row K C) := by
  refine D.cal sc_earliest_row (fun _ _ _ _ _ _ us hl => match us, hl with | [_, _], _ => rfl) (fun vs H Q E h => ?_) (fun f cdv A outer s H vs Q E hr h => ?_)
  · obtain ⟨p, wp, rs, R, F, ns, rfl, _⟩ := h; rfl
  · obtain ⟨p, wp, rs, R, F, ns, rfl, ⟨wa, ba, fa, ws, bs, fs, S⟩, Z, hW, q⟩ := h
    obtain ⟨dx, l, a1, a2, hp⟩ := S.ins
    refine ⟨_, (pss_cons (ps_for PassesOwn.never rfl (pi_zip (by rfl) B.zip (pa_cons (pe_fld (pv 0) rfl) (pa_cons (pe_fld (pv 0) rfl) pa_nil))) (pg_tup rfl (pgs_cons (pg_name (i := 2) sc_earliest_row.nd rfl (Or.inl rfl)) (pgs_cons (pg_name (i := 3) sc_earliest_row.nd rfl (Or.inl rfl)) pgs_nil)))
      (pss_one (ps_if (pt_cmpR (op_eqN hr.units) (pv 3) (pv 1) (nomark _)) (pss_one (ps_ret (pv 2))) pss_nil)))
      (pss_one (ps_ret pe_non))), ?_⟩
    have lw : ws.length = R.length := S.eW.1
    have lb : bs.length = R.length := S.eB.1
    refine ⟨_, rfl, p, C, dx, _, .ref wa, rfl, hp, XS.cl, XS.nRows, rfl, _, rfl, p, C, dx, _, .ref ba, rfl, hp, XS.cl, XS.nBroken, rfl, wa, ba, _, _, rfl, SqL.of S.row, SqL.of S.brk, ?_⟩
    refine for_it (walk_zip (K := K) (a := wa) (b := ba) (xs := ws.map V.ref) (ys := bs.map V.ref) (n := R.length) (by rw [List.length_map, List.length_map, lw, lb, Nat.min_self])) (fun i σ H' => ∃ v2 v3 : Option V, σ = [some (.ref p), some (.ref wp), v2, v3] ∧ Same H H' ∧ ∀ y ∈ R.take i, decide (pbrk rs y.1 = ns) = false) ⟨none, none, rfl, Same.refl H, fun y hy => by cases hy⟩
      (fun i σ H' _ ⟨_, _, _, sm, _⟩ => ⟨sm.seq (SqL.of S.row), sm.seq (SqL.of S.brk)⟩) ?_ ?_
    · rintro i v σ H1 H2 hi ⟨v2, v3, rfl, sm, hn⟩ ⟨Tp, y1, y2, rfl, nT, rfl, e1, e2⟩
      obtain ⟨a, ha, rfl⟩ := map_get e1
      obtain ⟨b, hb, rfl⟩ := map_get e2
      have gi : R[i]? = some R[i] := List.getElem?_eq_getElem hi
      have sm2 : Same H (upd H1 Tp (.tup [.ref a, .ref b])) := Same.put sm (sm.free nT)
      have ga := sm2 _ _ (S.eW.2 i _ a gi ha)
      have gb := sm2 _ _ (S.eB.2 i _ b gi hb)
      refine ⟨Tp, _, rfl, SqT.of upd_same, rfl, _, _, rfl, _, _, rfl, rfl, _, rfl, _, rfl, b, wp, _, ns, rfl, rfl, SqL.of gb, sm2.seq hW, _, rfl, ?_⟩
      cases c : decide (pbrk rs R[i].1 = ns) with
      | true =>
        refine iteT ?_
        have F := Z.1.first (f := fun s => decide (pbrk rs s = ns)) gi hn c
        exact ⟨_, rfl, q (some R[i].2) F (Z.2 _ (List.getElem_mem hi)) _ a sm2 ga⟩
      | false =>
        refine iteF ⟨_, _, rfl, sm2, ?_⟩
        intro y hy
        rw [take_succ_of gi] at hy
        rcases List.mem_append.1 hy with h | h
        · exact hn y h
        · rw [List.mem_singleton.1 h]; exact c
    · rintro σ H1 ⟨v2, v3, rfl, sm, hn⟩
      rw [List.take_length] at hn
      exact q none (Z.1.none (f := fun s => decide (pbrk rs s = ns)) hn) H1 sm

def sp_told_row (K : PySem.W.Frag) : Sp := fun vs H Q _ => ∃ o : Option (List Nat), (match o with | none => vs = [.non] | some ws => ws.length ≤ 10000 ∧ ∃ p, vs = [.ref p] ∧ H p = some (.tup (ws.map nv))) ∧ ∀ H' q, Same H H' → H q = none → H' q = some (.lst ((rowAns o).map V.int)) → Q (.ref q) H'
theorem ok_told_row (T : Con3 mg) (B : Own mg) (D : Has K mg "told_row" s_told_row) : Cal P w K mg base 1 "told_row" ["row"] (sp_told_row K) := by
  refine D.cal sc_told_row (fun _ _ _ _ _ _ us hl => match us, hl with | [_], _ => rfl) (fun vs H Q E h => ?_) (fun f cdv A outer s H vs Q E hr h => ?_)
  · obtain ⟨o, h, _⟩ := h
    cases o with
    | none => dsimp only at h; rw [h]; rfl
    | some ws => obtain ⟨_, p, rfl, _⟩ := h; rfl
  · obtain ⟨o, h, q⟩ := h
    refine ⟨_, (pss_cons (ps_if (pt_cmpR op_isN (pv 0) pe_non (nomark _)) (pss_one (ps_ret (pe_lst (pa_cons (pe_num T.NO_SUCH_ROW) pa_nil)))) pss_nil)
      (pss_one (ps_ret (pe_op op_cat (pe_lst (pa_cons (pe_callB call_len_seq (by rfl) B.len (by decide +kernel) (pa_cons (pv 0) pa_nil)) pa_nil)) (pe_callTy call_list_of (by rfl) B.list (by decide +kernel) (pa_cons (pv 0) pa_nil)))))), ?_⟩
    cases o with
    | none =>
      dsimp only at h
      subst h
      refine ⟨_, rfl, rfl, _, rfl, iteT ⟨(by show 1 ≤ sizeLine; decide), fun p np => ?_⟩⟩
      exact q _ p (Same.new np) np upd_same
    | some ws =>
      obtain ⟨lw, p, rfl, hp⟩ := h
      refine ⟨_, rfl, rfl, _, rfl, iteF ?_⟩
      refine ⟨_, rfl, p, _, rfl, .inr (SqT.of hp), (by show 1 ≤ sizeLine; decide), fun p1 n1 => ?_⟩
      refine ⟨_, rfl, p, _, rfl, .inr (SqT.of ((Same.new n1) _ _ hp)), fun p2 n2 => ?_⟩
      have n21 : p1 ≠ p2 := fun z => by rw [← z, upd_same] at n2; cases n2
      refine ⟨p1, p2, _, _, rfl, rfl, by rw [upd_ne n21]; exact upd_same, upd_same, ?_, fun p3 n3 => ?_⟩
      · rw [List.length_map]; exact Nat.le_of_lt (big (by simp only [List.length_cons, List.length_nil]; omega))
      · refine q _ p3 (((Same.new n1).trans (Same.new n2)).trans (Same.new n3)) (((Same.new n1).trans (Same.new n2)).free n3) ?_
        rw [upd_same, List.length_map]
        simp only [rowAns, List.map_cons, List.map_map, List.cons_append, List.nil_append]
        rfl

def sp_can_be_kept (K : PySem.W.Frag) (C : Addr) : Sp := fun vs H Q _ => ∃ (p cp : Addr) (rs : List Wf04.Rule) (R : Rows (List Nat)) (F : List (List Nat)) (s : List Nat), vs = [.ref p, .ref cp] ∧ SpotsOn C H p rs R F ∧ SqL K H cp (s.map nv) ∧ s.length ≤ 1000 ∧ ∀ H', Same H H' → Q (.bl (canKeep rs R s)) H'
theorem ok_can_be_kept (B : Own mg) (XS : Ss K mg C) (D : Has K mg "can_be_kept" s_can_be_kept) : Cal P w K mg base 1 "can_be_kept" ["spots", "chosen"] (sp_can_be_kept K C) := by
  refine D.cal sc_can_be_kept (fun _ _ _ _ _ _ us hl => match us, hl with | [_, _], _ => rfl) (fun vs H Q E h => ?_) (fun f cdv A outer s H vs Q E hr h => ?_)
  · obtain ⟨p, cp, rs, R, F, s, rfl, _⟩ := h; rfl
  · obtain ⟨p, cp, rs, R, F, s, rfl, ⟨wa, ba, fa, ws, bs, fs, S⟩, hC, ls, q⟩ := h
    obtain ⟨dx, l, a1, a2, hp⟩ := S.ins
    refine ⟨_, (pss_cons (ps_for PassesOwn.never rfl (pi_list (pe_fld (pv 0) rfl)) (pg_name (i := 2) sc_can_be_kept.nd rfl (Or.inr rfl))
      (pss_one (ps_if (pt_not (pt_val (pe_callB (cr_any rfl) (by rfl) B.any (by decide +kernel) (pa_cons (pe_lc (own := [("which", 3)]) (te := tOp (rIn K false) (tVar 3) (tVar 2)) rfl sc_can_be_kept.nd (pi_list (pv 1)) (blkOk_by (own := [("which", 3)]) (N := ["spots", "chosen", "broken", "which"]) (sc := defScope s_can_be_kept) (by decide +kernel)) (fun _ _ _ _ _ => by exact (pg_name (i := 3) sc_can_be_kept.nd rfl (Or.inl rfl))) (fun _ _ _ _ _ => pts_nil) (fun _ _ _ _ _ => (pe_cmpR op_in_seq (pv 3) (pv 2) (by rfl)))) pa_nil)))) (pss_one (ps_ret pe_bl)) pss_nil)))
      (pss_one (ps_ret pe_bl))), ?_⟩
    have lb : bs.length = R.length := S.eB.1
    refine ⟨_, rfl, p, C, dx, _, .ref ba, rfl, hp, XS.cl, XS.nBroken, rfl, ba, rfl, ⟨_, SqL.of S.brk⟩, ?_⟩
    refine for_list (K := K) (a := ba) (xs := bs.map V.ref) (fun i σ H' => ∃ v2 v3 : Option V, σ = [some (.ref p), some (.ref cp), v2, v3] ∧ Same H H' ∧ canKeep rs (R.take i) s = false) ⟨none, none, rfl, Same.refl H, rfl⟩ (fun i σ H' _ ⟨_, _, _, sm, _⟩ => sm.seq (SqL.of S.brk)) ?_ ?_
    · rintro i y σ H1 hi ⟨v2, v3, rfl, sm, hn⟩
      obtain ⟨b, hb, rfl⟩ := map_get hi
      have lt : i < R.length := by rw [← lb]; exact (List.getElem?_eq_some_iff.1 hb).1
      have gi : R[i]? = some R[i] := List.getElem?_eq_getElem lt
      have gb := sm _ _ (S.eB.2 i _ b gi hb)
      refine ⟨_, rfl, cp, rfl, ⟨_, sm.seq hC⟩, fun D nD => ?_⟩
      refine lc_list (K := K) (a := cp) (xs := s.map nv) (fun j H' => Same H1 H' ∧ H' D = some (.lst (((s.take j).map fun i' => (pbrk rs R[i].1).contains i').map V.bl))) ⟨Same.new nD, upd_same⟩ (fun j H' _ h => h.1.seq (sm.seq hC)) ?_ ?_
      · rintro j x H2 hx ⟨sm2, hD⟩
        obtain ⟨n, hn', rfl⟩ := map_get hx
        refine ⟨rfl, _, rfl, _, rfl, b, _, rfl, .inl (SqL.of (sm2 _ _ gb)), rfl, flat_nv _, _, hD, ?_, Same.put sm2 nD, ?_⟩
        · rw [List.length_map, List.length_map, List.length_take]
          exact big (by omega)
        · rw [upd_same, take_succ_of hn', List.map_append, List.map_append, in_nv]; rfl
      · rintro H2 ⟨sm2, hD⟩
        rw [List.length_map, List.take_length] at hD
        refine ⟨D, _, rfl, SqL.of hD, _, rfl, ?_⟩
        have ea : (List.map (fun i' => (pbrk rs R[i].1).contains i') s).any id = s.any fun i' => (pbrk rs R[i].1).contains i' := by rw [List.any_map]; rfl
        rw [ea]
        cases c : s.any fun i' => (pbrk rs R[i].1).contains i' with
        | true =>
          refine iteF ⟨_, _, rfl, sm.trans sm2, ?_⟩
          rw [take_succ_of gi]
          unfold canKeep at hn ⊢
          rw [List.any_append, hn]
          simp only [List.any_cons, List.any_nil, c]; rfl
        | false =>
          refine iteT ?_
          have : canKeep rs R s = true := by
            unfold canKeep
            exact List.any_eq_true.2 ⟨R[i], List.getElem_mem lt, by rw [c]; rfl⟩
          rw [this] at q
          exact q _ (sm.trans sm2)
    · rintro σ H1 ⟨v2, v3, rfl, sm, hn⟩
      rw [List.length_map, lb, List.take_length] at hn
      rw [hn] at q
      exact q H1 sm

def sp_spare_of (C : Addr) : Sp := fun vs H Q _ => ∃ (p : Addr) (rs : List Wf04.Rule) (R : Rows (List Nat)) (F : List (List Nat)), vs = [.ref p, nv rs.length] ∧ SpotsOn C H p rs R F ∧ SpotsG rs R F ∧ (∀ r ∈ rs, Valid r) ∧ rs.length ≤ 4 ∧
  ∀ H' q, Same H H' → H q = none → H' q = some (.lst (((List.range rs.length).filter fun i => (Wf04.breaks rs i).isNone).map nv)) → Q (.ref q) H'
theorem ok_spare_of (B : Own mg) (XS : Ss K mg C) (D : Has K mg "spare_of" s_spare_of) (G_earliest_row : Cal P w K mg base 1 "earliest_row" ["spots", "wanted"] (sp_earliest_row K C)) : Cal P w K mg base 2 "spare_of" ["spots", "many"] (sp_spare_of C) := by
  refine D.cal sc_spare_of (fun _ _ _ _ _ _ us hl => match us, hl with | [_, _], _ => rfl) (fun vs H Q E h => ?_) (fun f cdv A outer s H vs Q E hr h => ?_)
  · obtain ⟨p, rs, R, F, rfl, _⟩ := h; rfl
  · obtain ⟨p, rs, R, F, rfl, S, Z, v, few, q⟩ := h
    refine ⟨_, (pss_one (ps_ret (pe_lc (own := [("which", 2)]) rfl sc_spare_of.nd (pi_range1 (by rfl) B.range (pa_cons (pv 1) pa_nil)) (blkOk_by (own := [("which", 2)]) (N := ["spots", "many", "which"]) (sc := defScope s_spare_of) (by decide +kernel)) (fun _ _ _ _ _ => by exact (pg_name (i := 2) sc_spare_of.nd rfl (Or.inl rfl))) (fun _ _ _ _ _ => (pts_one (pt_cmpR op_isN (pe_cal G_earliest_row (hr.mono (by decide)) (pa_cons (pv 0) (pa_cons (pe_lst (pa_cons (pv 2) pa_nil)) pa_nil))) pe_non (nomark _)))) (fun _ _ _ _ _ => (pv 2))))), ?_⟩
    refine ⟨_, rfl, (rs.length : Int), rfl, by omega, by omega, fun D nD => ?_⟩
    refine lc_range (lo := 0) (n := rs.length) (fun i H' => Same H H' ∧ H' D = some (.lst (((List.range i).filter fun i => (Wf04.breaks rs i).isNone).map nv))) ⟨Same.new nD, upd_same⟩ ?_ ?_
    · rintro i H1 hi ⟨sm, hD⟩
      have ej : (0 : Int) + (i : Nat) = (i : Int) := Int.zero_add _
      rw [ej]
      refine ⟨rfl, _, rfl, _, rfl, (by show 1 ≤ sizeLine; decide), fun g ng => ?_⟩
      have sg : Same H1 (upd H1 g (.lst [.int i])) := Same.new ng
      refine ⟨p, g, rs, R, F, [i], rfl, S.same (sm.trans sg), Z, SqL.of upd_same, fun o ho => ?_⟩
      have eo := spots_breaks v few ho
      have lt : ((List.range i).filter fun i => (Wf04.breaks rs i).isNone).length ≤ i := by
        have := List.length_filter_le (fun i => (Wf04.breaks rs i).isNone) (List.range i)
        rw [List.length_range] at this; exact this
      have es : (List.range (i + 1)).filter (fun i => (Wf04.breaks rs i).isNone) = (List.range i).filter (fun i => (Wf04.breaks rs i).isNone) ++ (if o.isNone = true then [i] else []) := by
        rw [List.range_succ, List.filter_append, eo]
        cases c : (Wf04.breaks rs i).isNone <;> simp [c]
      cases o with
      | none =>
        intro H2 s2
        have nDg : D ≠ g := ne_of_none hD ng
        refine ⟨rfl, true, rfl, iteT ⟨_, rfl, _, s2 _ _ (sg _ _ hD), ?_, Same.put ((sm.trans sg).trans s2) nD, ?_⟩⟩
        · rw [List.length_map]; exact big (by omega)
        · rw [upd_same, es, List.map_append]; rfl
      | some ws =>
        intro lw H2 r s2 hr2
        refine ⟨rfl, false, rfl, iteF ⟨(sm.trans sg).trans s2, ?_⟩⟩
        rw [es]
        simp only [Option.isNone_some, Bool.false_eq_true, if_false, List.append_nil]
        exact s2 _ _ (sg _ _ hD)
    · rintro H1 ⟨sm, hD⟩
      exact q H1 D sm nD hD
end
end Cr
end
section
set_option Elab.async false
set_option maxRecDepth 100000
set_option maxHeartbeats 2000000
set_option linter.all false
namespace Cr
open PySem PySem.Spec PyProof.Rows L2
theorem Each.append {α : Type} {H : Hp} {o : α → HO} {ts us : List α} {as bs : List Addr} (E : Each H ts as o) (G : Each H us bs o) : Each H (ts ++ us) (as ++ bs) o := by
  refine ⟨by rw [List.length_append, List.length_append, E.1, G.1], ?_⟩
  intro i x a h1 h2
  rcases Nat.lt_or_ge i ts.length with q | q
  · rw [List.getElem?_append_left q] at h1
    rw [List.getElem?_append_left (by rw [E.1]; exact q)] at h2
    exact E.2 i x a h1 h2
  · rw [List.getElem?_append_right q] at h1
    rw [List.getElem?_append_right (by rw [E.1]; exact q), E.1] at h2
    exact G.2 _ x a h1 h2
theorem Each.upd {α : Type} {H : Hp} {o : α → HO} {ts : List α} {as : List Addr} (E : Each H ts as o) {b : Addr} {u : HO} (n : ∀ a ∈ as, a ≠ b) : Each (upd H b u) ts as o := E.keep fun a ha v h => by rw [upd_ne (n a ha)]; exact h
section
variable {P : Program} {w : World} {K : PySem.W.Frag} {mg : Str → Option Value} {base : Heap} {C : Addr}
def sp_one_larger : Sp := fun vs H Q _ => ∃ (cp : Addr) (c : List Nat) (n : Nat), vs = [.ref cp, nv n] ∧ H cp = some (.lst (c.map nv)) ∧ c.length ≤ 5 ∧ n ≤ 4 ∧ firstBehind c ≤ n ∧
  ∀ (H' : Hp) (D : Addr) (ds : List Addr), Same H H' → H D = none → H' D = some (.lst (ds.map V.ref)) → Each H' (larger n c) ds oF → (∀ d ∈ ds, H d = none ∧ d ≠ D) → Q (.ref D) H'
theorem ok_one_larger (B : Own mg) (D : Has K mg "one_larger" s_one_larger) : Cal P w K mg base 1 "one_larger" ["chosen", "many"] sp_one_larger := by
  refine D.cal sc_one_larger (fun _ _ _ _ _ _ us hl => match us, hl with | [_, _], _ => rfl) (fun vs H Q E h => ?_) (fun f cdv A outer s H vs Q E hr h => ?_)
  · obtain ⟨cp, c, n, rfl, _⟩ := h; rfl
  · obtain ⟨cp, c, n, rfl, hc, lc, ln, lfb, q⟩ := h
    refine ⟨_, (pss_cons (ps_set (i := 2) sc_one_larger.nd rfl (Or.inl rfl) (pe_ifExp (pt_cmpR op_gt (pe_callB call_len_seq (by rfl) B.len (by decide +kernel) (pa_cons (pv 0) pa_nil)) pe_int (nomark _)) (pe_op op_add (pe_ix ix_list (pv 0) (pe_un un_neg pe_int) (fun _ _ => rfl)) pe_int) pe_int))
      (pss_one (ps_ret (pe_lc (own := [("which", 3)]) rfl sc_one_larger.nd (pi_range2 (by rfl) B.range (pa_cons (pv 2) (pa_cons (pv 1) pa_nil))) (blkOk_by (own := [("which", 3)]) (N := ["chosen", "many", "first", "which"]) (sc := defScope s_one_larger) (by decide +kernel)) (fun _ _ _ _ _ => by exact (pg_name (i := 3) sc_one_larger.nd rfl (Or.inl rfl))) (fun _ _ _ _ _ => pts_nil) (fun _ _ _ _ _ => (pe_op op_cat (pv 0) (pe_lst (pa_cons (pv 3) pa_nil)))))))), ?_⟩
    have fin : ∀ z : Int, z = (firstBehind c : Nat) → (tLc (iRng2 (tCons (tVar 2) (tCons (tVar 1) tNil))) (gName 3) tYes (tOp rCat (tVar 0) (tLst (tCons (tVar 3) tNil))) ([("which", 3)].map (·.2))) [some (.ref cp), some (nv n), some (.int z), none] H Q := by
      rintro z rfl
      refine ⟨_, rfl, _, rfl, _, _, rfl, ⟨by omega, by omega, by omega, by omega⟩, fun D nD => ?_⟩
      have en : (((n : Nat) : Int) - ((firstBehind c : Nat) : Int)).toNat = n - firstBehind c := by omega
      rw [en]
      refine lc_range (lo := ((firstBehind c : Nat) : Int)) (n := n - firstBehind c) (fun i H' => ∃ ds : List Addr, Same H H' ∧ H' D = some (.lst (ds.map V.ref)) ∧ Each H' ((larger n c).take i) ds oF ∧ ∀ d ∈ ds, H d = none ∧ d ≠ D) ⟨[], Same.new nD, upd_same, .nil, fun d hd => by cases hd⟩ ?_ ?_
      · rintro i H1 hi ⟨ds, sm, hD, hE, hd⟩
        have gi : (larger n c)[i]? = some (c ++ [firstBehind c + i]) := by
          unfold larger
          rw [List.getElem?_map, List.getElem?_range hi]; rfl
        refine ⟨rfl, _, rfl, _, rfl, (by show 1 ≤ sizeLine; decide), fun g ng => ?_⟩
        have sg : Same H1 (upd H1 g (.lst [.int (((firstBehind c : Nat) : Int) + (i : Nat))])) := Same.new ng
        have ncg : cp ≠ g := ne_of_none (sm _ _ hc) ng
        refine ⟨cp, g, _, _, rfl, rfl, by rw [upd_ne ncg]; exact sm _ _ hc, upd_same, ?_, fun p np => ?_⟩
        · rw [List.length_map]; exact Nat.le_of_lt (big (by simp only [List.length_cons, List.length_nil]; omega))
        · have sp : Same H1 (upd (upd H1 g (.lst [.int (((firstBehind c : Nat) : Int) + (i : Nat))])) p (.lst (c.map nv ++ [.int (((firstBehind c : Nat) : Int) + (i : Nat))]))) := sg.trans (Same.new np)
          have np1 : H1 p = none := sg.free np
          have npD : p ≠ D := (ne_of_none hD np1).symm
          refine ⟨_, sp _ _ hD, ?_, ds ++ [p], ?_, ?_, ?_, ?_⟩
          · rw [List.length_map, hE.1, List.length_take]; exact big (by omega)
          · exact Same.put (sm.trans sp) nD
          · rw [upd_same, List.map_append]; rfl
          · rw [take_succ_of gi]
            refine ((hE.same sp).snoc (x := c ++ [firstBehind c + i]) ?_).upd ?_
            · rw [upd_same]
              show _ = some (HO.lst ((c ++ [firstBehind c + i]).map nv))
              rw [List.map_append]; rfl
            · intro a ha
              rcases List.mem_append.1 ha with h | h
              · exact (hd a h).2
              · rw [List.mem_singleton.1 h]; exact npD
          · intro d hd'
            rcases List.mem_append.1 hd' with h | h
            · exact hd d h
            · rw [List.mem_singleton.1 h]; exact ⟨sm.free np1, npD⟩
      · rintro H1 ⟨ds, sm, hD, hE, hd⟩
        rw [List.take_of_length_le (by unfold larger; simp)] at hE
        exact q H1 D ds sm nD hD hE hd
    refine ⟨_, rfl, cp, _, rfl, .inl (SqL.of hc), _, _, rfl, rfl, _, rfl, ?_⟩
    cases ec : c.getLast? with
    | none =>
      have e0 : c = [] := List.getLast?_eq_none_iff.1 ec
      have e1 : decide ((((c.map nv).length : Nat) : Int) > 0) = false := by rw [e0]; rfl
      rw [e1]
      refine iteF ?_
      exact fin 0 (by unfold firstBehind; rw [ec]; rfl)
    | some x =>
      have ne : c ≠ [] := fun e => by rw [e] at ec; cases ec
      have lp : 0 < c.length := List.length_pos_iff.2 ne
      have e1 : decide ((((c.map nv).length : Nat) : Int) > 0) = true := decide_eq_true (by rw [List.length_map]; omega)
      rw [e1]
      refine iteT ?_
      have gl : atI (c.map nv) (-1) = some (nv x) := by
        have e2 : c.dropLast ++ [x] = c := by
          have := List.dropLast_concat_getLast ne
          rw [List.getLast?_eq_some_getLast ne] at ec
          rw [← Option.some.inj ec]; exact this
        rw [← e2, List.map_append]; exact atI_last _ _
      refine ⟨_, rfl, _, rfl, cp, _, (-1 : Int), nv x, rfl, rfl, SqL.of hc, gl, _, _, rfl, rfl, ?_⟩
      exact fin _ (by unfold firstBehind; rw [ec]; show (x : Int) + 1 = ((x + 1 : Nat) : Int); omega)
end
end Cr
end
section
set_option Elab.async false
set_option maxRecDepth 100000
set_option maxHeartbeats 2000000
set_option linter.all false
namespace Cr
open PySem PySem.Spec PyProof.Rows L2
theorem layers_snoc (n k : Nat) : (List.range (k + 1)).flatMap (layerOf n) = (List.range k).flatMap (layerOf n) ++ layerOf n k := by
  rw [List.range_succ, List.flatMap_append]; simp
theorem flat_snoc {α β : Type} {f : α → List β} {l : List α} {i : Nat} {x : α} (h : l[i]? = some x) : (l.take (i + 1)).flatMap f = (l.take i).flatMap f ++ f x := by
  rw [take_succ_of h, List.flatMap_append]; simp
theorem flat_few {α β : Type} {f : α → List β} {m : Nat} : ∀ (l : List α), (∀ x ∈ l, (f x).length ≤ m) → (l.flatMap f).length ≤ m * l.length
  | [], _ => by simp
  | x :: l, h => by
    rw [List.flatMap_cons, List.length_append, List.length_cons]
    have h1 := h x List.mem_cons_self
    have h2 := flat_few l fun y hy => h y (List.mem_cons_of_mem _ hy)
    rw [Nat.mul_succ]; omega
theorem larger_few {n : Nat} (h : n ≤ 4) (c : List Nat) : (larger n c).length ≤ 4 := by
  unfold larger; rw [List.length_map, List.length_range]; omega
section
variable {P : Program} {w : World} {K : PySem.W.Frag} {mg : Str → Option Value} {base : Heap} {C : Addr}
def sp_sets : Sp := fun vs H Q _ => ∃ n : Nat, vs = [nv n] ∧ n ≤ 4 ∧ ∀ (H' : Hp) (t : Addr) (ts : List Addr), Same H H' → H t = none → H' t = some (.lst (ts.map V.ref)) → Each H' (Wf04.sets n) ts oF → (∀ d ∈ ts, H d = none ∧ d ≠ t) → Q (.ref t) H'
theorem ok_sets (B : Own mg) (D : Has K mg "sets_in_order" s_sets_in_order) (G_one_larger : Cal P w K mg base 1 "one_larger" ["chosen", "many"] sp_one_larger) : Cal P w K mg base 2 "sets_in_order" ["many"] sp_sets := by
  refine D.cal sc_sets_in_order (fun _ _ _ _ _ _ us hl => match us, hl with | [_], _ => rfl) (fun vs H Q E h => ?_) (fun f cdv A outer s H vs Q E hr h => ?_)
  · obtain ⟨n, rfl, _⟩ := h; rfl
  · obtain ⟨n, rfl, ln, q⟩ := h
    refine ⟨_, (pss_cons (ps_set (i := 1) sc_sets_in_order.nd rfl (Or.inl rfl) (pe_lst pa_nil))
      (pss_cons (ps_set (i := 2) sc_sets_in_order.nd rfl (Or.inl rfl) (pe_lst (pa_cons (pe_lst pa_nil) pa_nil)))
      (pss_cons (ps_while PassesOwn.never (pt_cmpR op_gt (pe_callB call_len_seq (by rfl) B.len (by decide +kernel) (pa_cons (pv 2) pa_nil)) pe_int (nomark _))
      (pss_cons (ps_expr (pe_bm PySem.F.plainAttrs_list PySem.F.slot_list_extend PySem.F.type_list_extend mt_extend (pv 1) (pa_cons (pv 2) pa_nil)))
      (pss_cons (ps_set (i := 3) sc_sets_in_order.nd rfl (Or.inl rfl) (pe_lst pa_nil))
      (pss_cons (ps_for PassesOwn.never rfl (pi_list (pv 2)) (pg_name (i := 4) sc_sets_in_order.nd rfl (Or.inl rfl))
      (pss_one (ps_expr (pe_bm PySem.F.plainAttrs_list PySem.F.slot_list_extend PySem.F.type_list_extend mt_extend (pv 3) (pa_cons (pe_cal G_one_larger (hr.mono (by decide)) (pa_cons (pv 4) (pa_cons (pv 0) pa_nil))) pa_nil)))))
      (pss_one (ps_set (i := 2) sc_sets_in_order.nd rfl (Or.inl rfl) (pv 3)))))))
      (pss_one (ps_ret (pv 1)))))), ?_⟩
    refine ⟨Nat.zero_le _, fun t nt => ?_⟩
    have s1 : Same H (upd H t (.lst [])) := Same.new nt
    refine ⟨Nat.zero_le _, fun e0 ne0 => ⟨(by show 1 ≤ sizeLine; decide), fun fr nfr => ?_⟩⟩
    have s2 : Same (upd H t (.lst [])) (upd (upd H t (.lst [])) e0 (.lst [])) := Same.new ne0
    have s3 : Same (upd (upd H t (.lst [])) e0 (.lst [])) (upd (upd (upd H t (.lst [])) e0 (.lst [])) fr (.lst [.ref e0])) := Same.new nfr
    have net : e0 ≠ t := (ne_of_none (H := upd H t (.lst [])) upd_same ne0).symm
    have nft : fr ≠ t := (ne_of_none (s2 _ _ upd_same) nfr).symm
    refine ⟨fun m σ H' => ∃ (fr : Addr) (ts fs : List Addr) (k : Nat) (v3 v4 : Option V), σ = [some (nv n), some (.ref t), some (.ref fr), v3, v4] ∧ Same H H' ∧ H' t = some (.lst (ts.map V.ref)) ∧ Each H' ((List.range k).flatMap (layerOf n)) ts oF ∧ H' fr = some (.lst (fs.map V.ref)) ∧ Each H' (layerOf n k) fs oF ∧ k ≤ n + 1 ∧ fr ≠ t ∧ (∀ d ∈ ts, H d = none ∧ d ≠ t) ∧ (∀ d ∈ fs, H d = none ∧ d ≠ t) ∧ m = n + 1 - k,
      ⟨_, fr, [], [e0], 0, none, none, rfl, (s1.trans s2).trans s3, s3 _ _ (s2 _ _ upd_same), .nil, upd_same, ?_, Nat.zero_le _, nft, (fun d hd => by cases hd), ?_, rfl⟩, ?_⟩
    · refine Each.snoc (ts := []) (as := []) .nil (x := []) ?_
      exact s3 _ _ upd_same
    · intro d hd
      rw [List.mem_singleton.1 hd]
      exact ⟨s1.free ne0, net⟩
    rintro m σ H' ⟨fr, ts, fs, k, v3, v4, rfl, sm, ht, eT, hf, eF, lk, nft, hts, hfs, rfl⟩
    have lf : fs.length = (layerOf n k).length := eF.1
    have lt : ts.length = ((List.range k).flatMap (layerOf n)).length := eT.1
    obtain ⟨sm1, sm2, sm3⟩ := layer_small ln lk
    refine ⟨_, rfl, fr, _, rfl, .inl (SqL.of hf), _, _, rfl, rfl, _, rfl, ?_⟩
    by_cases c : layerOf n k = []
    · have z : decide ((((fs.map V.ref).length : Nat) : Int) > 0) = false := decide_eq_false (by rw [List.length_map, lf, c]; decide)
      rw [z]
      refine iteF ?_
      have ek := (layer_end ln lk).1 c
      rw [ek, layers_sets ln] at eT
      exact ⟨_, rfl, q H' t ts sm nt ht eT hts⟩
    · have lk' : k ≤ n := by
        have : ¬ k = n + 1 := fun e => c ((layer_end ln lk).2 e)
        omega
      have z : decide ((((fs.map V.ref).length : Nat) : Int) > 0) = true := decide_eq_true (by
        rw [List.length_map, lf]
        have : 0 < (layerOf n k).length := List.length_pos_iff.2 c
        omega)
      rw [z]
      refine iteT ?_
      refine ⟨fun σ' H' => ∃ (fr : Addr) (ts fs : List Addr) (k' : Nat) (v3 v4 : Option V), σ' = [some (nv n), some (.ref t), some (.ref fr), v3, v4] ∧ Same H H' ∧ H' t = some (.lst (ts.map V.ref)) ∧ Each H' ((List.range k').flatMap (layerOf n)) ts oF ∧ H' fr = some (.lst (fs.map V.ref)) ∧ Each H' (layerOf n k') fs oF ∧ k' ≤ n + 1 ∧ fr ≠ t ∧ (∀ d ∈ ts, H d = none ∧ d ≠ t) ∧ (∀ d ∈ fs, H d = none ∧ d ≠ t) ∧ n + 1 - k' < n + 1 - k,
        fun σ' H' ⟨fr, ts, fs, k', v3, v4, e1, e2, e3, e4, e5, e6, e7, e8, e9, e10, e11⟩ => ⟨_, e11, fr, ts, fs, k', v3, v4, e1, e2, e3, e4, e5, e6, e7, e8, e9, e10, rfl⟩, ?_⟩
      -- told.extend(front)
      refine ⟨_, rfl, .inl ⟨rfl, _, SqL.of ht⟩, _, rfl, t, fr, _, _, rfl, rfl, ht, hf, ?_, ?_⟩
      · rw [List.length_map, List.length_map, lt, lf]; exact Nat.le_of_lt (big (by omega))
      have et : ts.map V.ref ++ fs.map V.ref = (ts ++ fs).map V.ref := by rw [List.map_append]
      rw [et]
      have smA : Same H (upd H' t (.lst ((ts ++ fs).map V.ref))) := Same.put sm nt
      have tA : upd H' t (.lst ((ts ++ fs).map V.ref)) t = some (.lst ((ts ++ fs).map V.ref)) := upd_same
      have fA : upd H' t (.lst ((ts ++ fs).map V.ref)) fr = some (.lst (fs.map V.ref)) := by rw [upd_ne nft]; exact hf
      have eTA : Each (upd H' t (.lst ((ts ++ fs).map V.ref))) ((List.range (k + 1)).flatMap (layerOf n)) (ts ++ fs) oF := by
        rw [layers_snoc]
        refine (eT.append eF).upd fun d hd => ?_
        rcases List.mem_append.1 hd with h | h
        · exact (hts d h).2
        · exact (hfs d h).2
      have eFA : Each (upd H' t (.lst ((ts ++ fs).map V.ref))) (layerOf n k) fs oF := eF.upd fun d hd => (hfs d hd).2
      generalize upd H' t (.lst ((ts ++ fs).map V.ref)) = HA at smA tA fA eTA eFA ⊢
      -- larger = []
      refine ⟨Nat.zero_le _, fun lg nlg => ?_⟩
      have sB : Same HA (upd HA lg (.lst [])) := Same.new nlg
      have nlt : lg ≠ t := (ne_of_none tA nlg).symm
      have nlH : H lg = none := smA.free nlg
      refine ⟨_, rfl, fr, rfl, ⟨_, SqL.of (sB _ _ fA)⟩, for_list (K := K) (a := fr) (xs := fs.map V.ref) (fun i σ H1 => ∃ (v4 : Option V) (gs : List Addr), σ = [some (nv n), some (.ref t), some (.ref fr), some (.ref lg), v4] ∧ Same HA H1 ∧ H1 lg = some (.lst (gs.map V.ref)) ∧ Each H1 (((layerOf n k).take i).flatMap (larger n)) gs oF ∧ ∀ d ∈ gs, HA d = none ∧ d ≠ lg)
        ⟨v4, [], rfl, sB, upd_same, .nil, fun d hd => by cases hd⟩ (fun i σ H1 _ ⟨_, _, _, s1, _⟩ => SqL.of (s1 _ _ fA)) ?_ ?_⟩
      · rintro i y σ H1 hi ⟨v4, gs, rfl, s1, hg, eG, hgs⟩
        obtain ⟨d, hd, rfl⟩ := map_get hi
        have li : i < (layerOf n k).length := by rw [← lf]; exact (List.getElem?_eq_some_iff.1 hd).1
        have gi : (layerOf n k)[i]? = some (layerOf n k)[i] := List.getElem?_eq_getElem li
        have hcd := s1 _ _ (eFA.2 i _ d gi hd)
        obtain ⟨c1, c2, c3⟩ := sm2 _ (List.getElem_mem li)
        refine ⟨_, rfl, .inl ⟨rfl, _, SqL.of hg⟩, ?_⟩
        refine ⟨_, rfl, _, rfl, d, _, n, rfl, hcd, c1, ln, c2, fun H2 D ds s2 nD hD eD hds => ?_⟩
        have lgs : gs.length ≤ 64 := by
          rw [eG.1]
          have h1 := flat_few (f := larger n) (m := 4) ((layerOf n k).take i) (fun x _ => larger_few ln x)
          have h2 : ((layerOf n k).take i).length ≤ (layerOf n k).length := by rw [List.length_take]; omega
          omega
        have lds : ds.length ≤ 4 := by rw [eD.1]; exact larger_few ln _
        have ngD : lg ≠ D := ne_of_none hg nD
        refine ⟨lg, D, _, _, rfl, rfl, s2 _ _ hg, hD, ?_, _, gs ++ ds, rfl, ?_, ?_, ?_, ?_⟩
        · rw [List.length_map, List.length_map]; exact Nat.le_of_lt (big (by omega))
        · exact Same.put (s1.trans s2) nlg
        · rw [upd_same, List.map_append]
        · rw [flat_snoc gi]
          refine ((eG.same s2).append eD).upd fun a ha => ?_
          rcases List.mem_append.1 ha with h | h
          · exact (hgs a h).2
          · exact (ne_of_none hg (hds a h).1).symm
        · intro a ha
          rcases List.mem_append.1 ha with h | h
          · exact hgs a h
          · exact ⟨s1.free (hds a h).1, (ne_of_none hg (hds a h).1).symm⟩
      · rintro σ H1 ⟨v4, gs, rfl, s1, hg, eG, hgs⟩
        rw [List.length_map, lf, List.take_length] at eG
        refine ⟨_, rfl, lg, ts ++ fs, gs, k + 1, _, v4, rfl, smA.trans s1, s1 _ _ tA, eTA.same s1, hg, eG, by omega, nlt, ?_, ?_, by omega⟩
        · intro d hd
          rcases List.mem_append.1 hd with h | h
          · exact hts d h
          · exact hfs d h
        · intro d hd
          exact ⟨smA.free (hgs d hd).1, (ne_of_none tA (hgs d hd).1).symm⟩

def sp_holds_all (K : PySem.W.Frag) : Sp := fun vs H Q _ => ∃ (cp pp : Addr) (s k : List Nat), vs = [.ref cp, .ref pp] ∧ SqL K H cp (s.map nv) ∧ SqL K H pp (k.map nv) ∧ k.length ≤ 1000 ∧ ∀ H', Same H H' → Q (.bl (k.all fun i => s.contains i)) H'
theorem ok_holds_all (B : Own mg) (D : Has K mg "holds_all" s_holds_all) : Cal P w K mg base 1 "holds_all" ["chosen", "part"] (sp_holds_all K) := by
  refine D.cal sc_holds_all (fun _ _ _ _ _ _ us hl => match us, hl with | [_, _], _ => rfl) (fun vs H Q E h => ?_) (fun f cdv A outer s H vs Q E hr h => ?_)
  · obtain ⟨cp, pp, s, k, rfl, _⟩ := h; rfl
  · obtain ⟨cp, pp, s, k, rfl, hC, hP, lk, q⟩ := h
    refine ⟨_, (pss_one (ps_ret (pe_callB (cr_all rfl) (by rfl) B.all (by decide +kernel) (pa_cons (pe_lc (own := [("which", 2)]) (te := tOp (rIn K false) (tVar 2) (tVar 0)) rfl sc_holds_all.nd (pi_list (pv 1)) (blkOk_by (own := [("which", 2)]) (N := ["chosen", "part", "which"]) (sc := defScope s_holds_all) (by decide +kernel)) (fun _ _ _ _ _ => by exact (pg_name (i := 2) sc_holds_all.nd rfl (Or.inl rfl))) (fun _ _ _ _ _ => pts_nil) (fun _ _ _ _ _ => (pe_cmpR op_in_seq (pv 2) (pv 0) (by rfl)))) pa_nil)))), ?_⟩
    refine ⟨_, rfl, pp, rfl, ⟨_, hP⟩, fun D nD => ?_⟩
    refine lc_list (K := K) (a := pp) (xs := k.map nv) (fun j H' => Same H H' ∧ H' D = some (.lst (((k.take j).map fun i => s.contains i).map V.bl))) ⟨Same.new nD, upd_same⟩ (fun j H' _ h => h.1.seq hP) ?_ ?_
    · rintro j x H2 hx ⟨sm2, hD⟩
      obtain ⟨n, hn', rfl⟩ := map_get hx
      refine ⟨rfl, _, rfl, _, rfl, cp, _, rfl, .inl (sm2.seq hC), rfl, flat_nv _, _, hD, ?_, Same.put sm2 nD, ?_⟩
      · rw [List.length_map, List.length_map, List.length_take]
        exact big (by omega)
      · rw [upd_same, take_succ_of hn', List.map_append, List.map_append, in_nv]; rfl
    · rintro H2 ⟨sm2, hD⟩
      rw [List.length_map, List.take_length] at hD
      refine ⟨D, _, rfl, SqL.of hD, ?_⟩
      have ea : (List.map (fun i => s.contains i) k).all id = k.all fun i => s.contains i := by rw [List.all_map]; rfl
      rw [ea]
      exact q H2 sm2

def sp_clashes_of (C : Addr) : Sp := fun vs H Q _ => ∃ (p : Addr) (rs : List Wf04.Rule) (R : Rows (List Nat)) (F : List (List Nat)), vs = [.ref p, nv rs.length] ∧ SpotsOn C H p rs R F ∧ SpotsG rs R F ∧ (∀ r ∈ rs, Valid r) ∧ rs.length ≤ 4 ∧
  ∀ (H' : Hp) (g : Addr) (gs : List Addr), Same H H' → H g = none → H' g = some (.lst (gs.map V.ref)) → Each H' (Wf04.clashes rs) gs oF → (∀ d ∈ gs, H d = none ∧ d ≠ g) → Q (.ref g) H'
theorem clash_few {rs : List Wf04.Rule} {R : Rows (List Nat)} : ∀ (l : List (List Nat)) (m : List (List Nat)), (∀ s ∈ l, s.length ≤ 4) → (∀ s ∈ m, s.length ≤ 4) → (l.foldl (clashStep rs R) m).length ≤ m.length + l.length ∧ ∀ s ∈ l.foldl (clashStep rs R) m, s.length ≤ 4
  | [], m, _, h => ⟨by simp, h⟩
  | s :: l, m, h1, h2 => by
    rw [List.foldl_cons, List.length_cons]
    have : (clashStep rs R m s).length ≤ m.length + 1 ∧ ∀ x ∈ clashStep rs R m s, x.length ≤ 4 := by
      unfold clashStep
      split
      · refine ⟨by simp, fun x hx => ?_⟩
        rcases List.mem_append.1 hx with h | h
        · exact h2 x h
        · rw [List.mem_singleton.1 h]; exact h1 s List.mem_cons_self
      · exact ⟨by omega, h2⟩
    have ih := clash_few (rs := rs) (R := R) l (clashStep rs R m s) (fun x hx => h1 x (List.mem_cons_of_mem _ hx)) this.2
    exact ⟨by omega, ih.2⟩
theorem sets_few {n : Nat} (h : n ≤ 4) : (Wf04.sets n).length ≤ 16 := by
  have : ∀ n, n < 5 → (Wf04.sets n).length ≤ 16 := by decide +kernel
  exact this n (by omega)
theorem ok_clashes_of (B : Own mg) (XS : Ss K mg C) (D : Has K mg "clashes_of" s_clashes_of) (G_sets_in_order : Cal P w K mg base 2 "sets_in_order" ["many"] sp_sets) (G_holds_all : Cal P w K mg base 1 "holds_all" ["chosen", "part"] (sp_holds_all K))
    (G_can_be_kept : Cal P w K mg base 1 "can_be_kept" ["spots", "chosen"] (sp_can_be_kept K C)) : Cal P w K mg base 3 "clashes_of" ["spots", "many"] (sp_clashes_of C) := by
  refine D.cal sc_clashes_of (fun _ _ _ _ _ _ us hl => match us, hl with | [_, _], _ => rfl) (fun vs H Q E h => ?_) (fun f cdv A outer s H vs Q E hr h => ?_)
  · obtain ⟨p, rs, R, F, rfl, _⟩ := h; rfl
  · obtain ⟨p, rs, R, F, rfl, S, Z, v, few, q⟩ := h
    refine ⟨_, (pss_cons (ps_set (i := 2) sc_clashes_of.nd rfl (Or.inl rfl) (pe_lst pa_nil))
      (pss_cons (ps_for PassesOwn.never rfl (pi_list (pe_cal G_sets_in_order (hr.mono (by decide)) (pa_cons (pv 1) pa_nil))) (pg_name (i := 3) sc_clashes_of.nd rfl (Or.inr rfl))
      (pss_cons (ps_set (i := 4) sc_clashes_of.nd rfl (Or.inl rfl) (pe_callB (cr_any rfl) (by rfl) B.any (by decide +kernel) (pa_cons (pe_lc (own := [("clash", 5)]) rfl sc_clashes_of.nd (pi_list (pv 2)) (blkOk_by (own := [("clash", 5)]) (N := ["spots", "many", "found", "chosen", "known", "clash"]) (sc := defScope s_clashes_of) (by decide +kernel)) (fun _ _ _ _ _ => by exact (pg_name (i := 5) sc_clashes_of.nd rfl (Or.inl rfl))) (fun _ _ _ _ _ => pts_nil) (fun _ _ _ _ _ => (pe_cal G_holds_all (hr.mono (by decide)) (pa_cons (pv 3) (pa_cons (pv 5) pa_nil))))) pa_nil)))
      (pss_one (ps_if (PW.pt (pw_and (pt_not (pt_val (pv 4))) (pw_and1 (pt_not (pt_val (pe_cal G_can_be_kept (hr.mono (by decide)) (pa_cons (pv 0) (pa_cons (pv 3) pa_nil)))))))) (pss_one (ps_expr (pe_bm PySem.F.plainAttrs_list PySem.F.slot_list_append PySem.F.type_list_append mt_append (pv 2) (pa_cons (pv 3) pa_nil)))) pss_nil))))
      (pss_one (ps_ret (pv 2))))), ?_⟩
    refine ⟨Nat.zero_le _, fun g ng => ?_⟩
    have s1 : Same H (upd H g (.lst [])) := Same.new ng
    refine ⟨_, rfl, rs.length, rfl, few, fun H1 t ts s2 nt ht eT hts => ?_⟩
    have s3 := s1.trans s2
    have lts : ts.length = (Wf04.sets rs.length).length := eT.1
    have few16 := sets_few few
    have few4 : ∀ x ∈ Wf04.sets rs.length, x.length ≤ 4 := fun x hx => set_few (sets_ok few).1 hx
    have ntg : t ≠ g := (ne_of_none (H := upd H g (.lst [])) upd_same nt).symm
    have ntsg : ∀ d ∈ ts, H d = none ∧ d ≠ g := fun d hd => ⟨s1.free (hts d hd).1, (ne_of_none (H := upd H g (.lst [])) upd_same (hts d hd).1).symm⟩
    refine ⟨t, rfl, ⟨_, SqL.of ht⟩, for_list (K := K) (a := t) (xs := ts.map V.ref) (fun i σ H' => ∃ (v3 v4 v5 : Option V) (gs : List Addr), σ = [some (.ref p), some (nv rs.length), some (.ref g), v3, v4, v5] ∧ Same H H' ∧ H' t = some (.lst (ts.map V.ref)) ∧ Each H' (Wf04.sets rs.length) ts oF ∧ H' g = some (.lst (gs.map V.ref)) ∧ Each H' (((Wf04.sets rs.length).take i).foldl (clashStep rs R) []) gs oF ∧ ∀ d ∈ gs, H d = none ∧ d ≠ g)
      ⟨none, none, none, [], rfl, s3, ht, eT, s2 _ _ upd_same, .nil, fun d hd => by cases hd⟩ (fun i σ H' _ ⟨_, _, _, _, _, _, h, _⟩ => SqL.of h) ?_ ?_⟩
    · rintro i y σ H2 hi ⟨v3, v4, v5, gs, rfl, sm, ht2, eT2, hg, eG, hgs⟩
      obtain ⟨d, hd, rfl⟩ := map_get hi
      have li : i < (Wf04.sets rs.length).length := by rw [← lts]; exact (List.getElem?_eq_some_iff.1 hd).1
      have gi : (Wf04.sets rs.length)[i]? = some (Wf04.sets rs.length)[i] := List.getElem?_eq_getElem li
      have hs := eT2.2 i _ d gi hd
      have ls := few4 _ (List.getElem_mem li)
      have cf := clash_few (rs := rs) (R := R) ((Wf04.sets rs.length).take i) [] (fun x hx => few4 x (List.mem_of_mem_take hx)) (fun x hx => by cases hx)
      rw [List.length_nil, List.length_take] at cf
      have estep : ((Wf04.sets rs.length).take (i + 1)).foldl (clashStep rs R) [] = clashStep rs R (((Wf04.sets rs.length).take i).foldl (clashStep rs R) []) (Wf04.sets rs.length)[i] := by
        rw [take_succ_of gi, List.foldl_append]; rfl
      generalize ((Wf04.sets rs.length).take i).foldl (clashStep rs R) [] = m at eG cf estep
      generalize (Wf04.sets rs.length)[i] = sx at hs ls estep
      -- known
      refine ⟨_, rfl, g, rfl, ⟨_, SqL.of hg⟩, fun D nD => ?_⟩
      refine lc_list (K := K) (a := g) (xs := gs.map V.ref) (fun j H' => Same H2 H' ∧ H' D = some (.lst (((m.take j).map fun k => k.all fun i => sx.contains i).map V.bl))) ⟨Same.new nD, upd_same⟩ (fun j H' _ h => h.1.seq (SqL.of hg)) ?_ ?_
      · rintro j x H3 hx ⟨sm3, hD⟩
        obtain ⟨e, he, rfl⟩ := map_get hx
        have lj : j < m.length := by rw [← eG.1]; exact (List.getElem?_eq_some_iff.1 he).1
        have gj : m[j]? = some m[j] := List.getElem?_eq_getElem lj
        refine ⟨rfl, _, rfl, _, rfl, d, e, sx, m[j], rfl, SqL.of (sm3 _ _ hs), SqL.of (sm3 _ _ (eG.2 j _ e gj he)), by have := cf.2 _ (List.getElem_mem lj); omega, fun H4 s4 => ?_⟩
        refine ⟨_, s4 _ _ hD, ?_, Same.put (sm3.trans s4) nD, ?_⟩
        · rw [List.length_map, List.length_map, List.length_take]
          exact big (by omega)
        · rw [upd_same, take_succ_of gj, List.map_append, List.map_append]; rfl
      · rintro H3 ⟨sm3, hD⟩
        rw [List.length_map, eG.1, List.take_length] at hD
        refine ⟨D, _, rfl, SqL.of hD, ?_⟩
        have ea : (List.map (fun k => k.all fun i => sx.contains i) m).any id = m.any fun k => k.all fun i => sx.contains i := by rw [List.any_map]; rfl
        rw [ea]
        have sm23 := sm.trans sm3
        have next0 : ∀ (H' : Hp), Same H3 H' → clashStep rs R m sx = m → Same H H' ∧ H' t = some (.lst (ts.map V.ref)) ∧ Each H' (Wf04.sets rs.length) ts oF ∧ H' g = some (.lst (gs.map V.ref)) ∧ Each H' (((Wf04.sets rs.length).take (i + 1)).foldl (clashStep rs R) []) gs oF ∧ ∀ d ∈ gs, H d = none ∧ d ≠ g := by
          intro H' s' ec
          refine ⟨sm23.trans s', s' _ _ (sm3 _ _ ht2), (eT2.same sm3).same s', s' _ _ (sm3 _ _ hg), ?_, hgs⟩
          rw [estep, ec]
          exact (eG.same sm3).same s'
        refine ⟨_, rfl, _, rfl, ?_⟩
        cases c1 : m.any fun k => k.all fun i => sx.contains i with
        | true =>
          refine iteF (iteF ?_)
          have ec : clashStep rs R m sx = m := by
            unfold clashStep; rw [c1]; rfl
          exact ⟨_, _, v5, gs, rfl, next0 H3 (Same.refl _) ec⟩
        | false =>
          refine iteT ?_
          refine ⟨_, rfl, _, rfl, p, d, rs, R, F, sx, rfl, S.same sm23, SqL.of (sm3 _ _ hs), by omega, fun H4 s4 => ⟨_, rfl, ?_⟩⟩
          cases c2 : canKeep rs R sx with
          | true =>
            refine iteF ?_
            have ec : clashStep rs R m sx = m := by
              unfold clashStep; rw [c1, c2]; rfl
            exact ⟨_, _, v5, gs, rfl, next0 H4 s4 ec⟩
          | false =>
            refine iteT ?_
            have ec : clashStep rs R m sx = m ++ [sx] := by
              unfold clashStep; rw [c1, c2]; rfl
            have hg4 := s4 _ _ (sm3 _ _ hg)
            have dts : d ∈ ts := List.mem_of_getElem? hd
            refine ⟨_, rfl, .inl ⟨rfl, _, SqL.of hg4⟩, _, rfl, g, _, _, rfl, rfl, hg4, ?_, ?_⟩
            · rw [List.length_map, eG.1]; exact big (by omega)
            · refine ⟨_, _, v5, gs ++ [d], rfl, Same.put (sm23.trans s4) ng, ?_, ?_, ?_, ?_, ?_⟩
              · rw [upd_ne ntg]; exact s4 _ _ (sm3 _ _ ht2)
              · exact ((eT2.same sm3).same s4).upd fun a ha => (ntsg a ha).2
              · rw [upd_same, List.map_append]; rfl
              · rw [estep, ec]
                refine (((eG.same sm3).same s4).snoc (x := sx) (s4 _ _ (sm3 _ _ hs))).upd fun a ha => ?_
                rcases List.mem_append.1 ha with h | h
                · exact (hgs a h).2
                · rw [List.mem_singleton.1 h]; exact (ntsg d dts).2
              · intro a ha
                rcases List.mem_append.1 ha with h | h
                · exact hgs a h
                · rw [List.mem_singleton.1 h]; exact ntsg d dts
    · rintro σ H2 ⟨v3, v4, v5, gs, rfl, sm, ht2, eT2, hg, eG, hgs⟩
      rw [List.length_map, lts, List.take_length, clash_same Z.1 v few] at eG
      exact ⟨_, rfl, q H2 g gs sm ng hg eG hgs⟩
end
end Cr
end
section
set_option Elab.async false
set_option maxRecDepth 100000
set_option maxHeartbeats 2000000
set_option linter.all false
namespace Cr
open PySem PySem.Spec PyProof.Rows L2
/-! ### dicts by their lists -/
section
variable {α β κ : Type} [DecidableEq α] [DecidableEq κ] {ke : α → κ} {ve : β → V}
theorem val_enc (inj : ∀ a b, ke a = ke b → a = b) (k : α) : ∀ l : List (α × β), valV (l.map fun x => (ke x.1, ve x.2)) (ke k) = (aget l k).map ve
  | [] => rfl
  | x :: l => by
    rw [List.map_cons, aget_cons]
    by_cases h : x.1 = k
    · rw [if_pos h, valV_pos (p := (ke x.1, ve x.2)) (by rw [h])]; rfl
    · have ne : ¬ ke x.1 = ke k := fun e => h (inj _ _ e)
      rw [if_neg h, valV_neg (p := (ke x.1, ve x.2)) ne, val_enc inj k l]
theorem any_enc (inj : ∀ a b, ke a = ke b → a = b) (k : α) : ∀ l : List (α × β), ((l.map fun x => (ke x.1, ve x.2)).any fun kv => decide (kv.1 = ke k)) = l.any fun x => decide (x.1 = k)
  | [] => rfl
  | x :: l => by
    rw [List.map_cons, List.any_cons, List.any_cons, any_enc inj k l]
    congr 1
    by_cases h : x.1 = k
    · rw [decide_eq_true h]; exact decide_eq_true (by rw [h])
    · rw [decide_eq_false h]; exact decide_eq_false fun e => h (inj _ _ e)
theorem put_enc (inj : ∀ a b, ke a = ke b → a = b) (l : List (α × β)) (k : α) (v : β) : putK (l.map fun x => (ke x.1, ve x.2)) (ke k) (ve v) = (aput l k v).map fun x => (ke x.1, ve x.2) := by
  unfold putK aput
  rw [any_enc inj]
  cases c : l.any fun x => decide (x.1 = k) with
  | false =>
    rw [if_neg (by decide), if_neg (by decide), List.map_append]; rfl
  | true =>
    rw [if_pos rfl, if_pos rfl, List.map_map, List.map_map]
    refine List.map_congr_left fun x _ => ?_
    show (if ke x.1 = ke k then (ke x.1, ve v) else (ke x.1, ve x.2)) = (ke (if x.1 = k then (x.1, v) else x).1, ve (if x.1 = k then (x.1, v) else x).2)
    by_cases h : x.1 = k
    · rw [if_pos h, if_pos (by rw [h])]
    · rw [if_neg h, if_neg fun e => h (inj _ _ e)]
theorem drop_enc (inj : ∀ a b, ke a = ke b → a = b) (l : List (α × β)) (k : α) : dropK (l.map fun x => (ke x.1, ve x.2)) (ke k) = (adel l k).map fun x => (ke x.1, ve x.2) := by
  unfold dropK adel
  rw [List.filter_map]
  congr 1
  refine List.filter_congr fun x _ => ?_
  show decide (ke x.1 ≠ ke k) = decide (x.1 ≠ k)
  by_cases h : x.1 = k
  · rw [show decide (x.1 ≠ k) = false from decide_eq_false (fun n => n h)]
    exact decide_eq_false (fun n => n (by rw [h]))
  · rw [show decide (x.1 ≠ k) = true from decide_eq_true h]
    exact decide_eq_true (fun e => h (inj _ _ e))
end
theorem wbump_put : ∀ (l : List (Nat × Nat)) (s n : Nat), (akeys l).Nodup → wbump s n l = aput l s ((aget l s).getD 0 + n)
  | [], s, n, _ => by simp [wbump, aput, aget]
  | x :: l, s, n, nd => by
    have nd' := List.nodup_cons.1 nd
    rw [wbump, aget_cons]
    by_cases h : x.1 = s
    · rw [if_pos h, if_pos h]
      unfold aput
      rw [if_pos (any_key.2 (by simp [akeys, h]))]
      rw [List.map_cons, if_pos h, h]
      congr 1
      symm
      refine (List.map_congr_left fun y hy => ?_).trans (List.map_id' l)
      have : ¬ y.1 = s := fun e => nd'.1 (by show x.1 ∈ _; rw [h, ← e]; exact List.mem_map.2 ⟨y, hy, rfl⟩)
      rw [if_neg this]
    · rw [if_neg h, if_neg h, wbump_put l s n nd'.2]
      unfold aput
      have e : ((x :: l).any fun x => decide (x.1 = s)) = l.any fun x => decide (x.1 = s) := by rw [List.any_cons, decide_eq_false h]; rfl
      rw [e]
      cases l.any fun x => decide (x.1 = s) with
      | true => rw [if_pos rfl, if_pos rfl, List.map_cons, if_neg h]
      | false => rw [if_neg (by decide), if_neg (by decide)]; rfl
/-- keys below N, none twice -/
def WOk (N : Nat) (l : List (Nat × Nat)) : Prop := (akeys l).Nodup ∧ ∀ x ∈ l, x.1 < N
theorem WOk.bump {N : Nat} {l : List (Nat × Nat)} (h : WOk N l) {s : Nat} (hs : s < N) (n : Nat) : WOk N (wbump s n l) := by
  rw [wbump_put l s n h.1]
  refine ⟨aput_nodup h.1, fun x hx => ?_⟩
  rcases mem_aput hx with e | e
  · rw [e]; exact hs
  · exact h.2 x e.1
theorem WOk.few {N : Nat} {l : List (Nat × Nat)} (h : WOk N l) : l.length ≤ N := by
  have := nodup_few (akeys l) (List.range N) h.1 (by
    intro s hs
    obtain ⟨x, hx, rfl⟩ := List.mem_map.1 hs
    exact List.mem_range.2 (h.2 x hx))
  rw [List.length_map, List.length_range] at this
  exact this
theorem WOk.nil (N : Nat) : WOk N [] := ⟨by simp, fun x hx => by cases hx⟩
abbrev ik (n : Nat) : Key := Sum.inl (n : Int)
theorem ik_inj : ∀ a b : Nat, ik a = ik b → a = b := fun a b h => by
  have := Sum.inl.inj h
  omega
abbrev wE (l : List (Nat × Nat)) : List (Key × V) := l.map fun x => (ik x.1, nv x.2)
theorem spots_further {rs : List Wf04.Rule} {R : Rows (List Nat)} {F : List (List Nat)} (Z : Spots rs R F) {i : Nat} (hi : i < R.length) : ∃ l, F[i]? = some l ∧ l.length = 5 ∧ ∀ r ∈ l, r < R.length := by
  have h1 : F[i]? = some (F[i]'(by rw [Z.len]; exact hi)) := List.getElem?_eq_getElem _
  refine ⟨_, h1, Z.full _ (List.mem_of_getElem? h1), fun r hr => ?_⟩
  obtain ⟨c, hc⟩ := List.mem_iff_getElem?.1 hr
  obtain ⟨y, z, _, a2, _⟩ := Z.next i c _ r h1 hc
  exact (List.getElem?_eq_some_iff.1 a2).1
theorem wadd_snoc (l ys : List (Nat × Nat)) (y : Nat × Nat) : wadd l (ys ++ [y]) = wbump y.1 y.2 (wadd l ys) := by
  unfold wadd; rw [List.foldl_append]; rfl
theorem wadd_app (l ys zs : List (Nat × Nat)) : wadd l (ys ++ zs) = wadd (wadd l ys) zs := by
  unfold wadd; rw [List.foldl_append]
section
variable {P : Program} {w : World} {K : PySem.W.Frag} {mg : Str → Option Value} {base : Heap} {C : Addr}
def sp_ways_further (C : Addr) : Sp := fun vs H Q _ => ∃ (p d : Addr) (rs : List Wf04.Rule) (R : Rows (List Nat)) (F : List (List Nat)) (l : List (Nat × Nat)), vs = [.ref p, .ref d] ∧ SpotsOn C H p rs R F ∧ Spots rs R F ∧ R.length ≤ 10000 ∧ H d = some (.dK (wE l)) ∧ WOk R.length l ∧
  ∀ H' e, Same H H' → H e = none → H' e = some (.dK (wE (wnext F l))) → WOk R.length (wnext F l) → Q (.ref e) H'
theorem ok_ways_further (XS : Ss K mg C) (D : Has K mg "ways_further" s_ways_further) : Cal P w K mg base 1 "ways_further" ["spots", "ways"] (sp_ways_further C) := by
  refine D.cal sc_ways_further (fun _ _ _ _ _ _ us hl => match us, hl with | [_, _], _ => rfl) (fun vs H Q E h => ?_) (fun f cdv A outer s H vs Q E hr h => ?_)
  · obtain ⟨p, d, rs, R, F, l, rfl, _⟩ := h; rfl
  · obtain ⟨p, d, rs, R, F, l, rfl, S, Z, lR, hd, wok, q⟩ := h
    refine ⟨_, (pss_cons (ps_set (i := 2) sc_ways_further.nd rfl (Or.inl rfl) pe_dnewK)
      (pss_cons (ps_lock (ps_for PassesOwn.never rfl (pi_keys (pv 1)) (pg_name (i := 3) sc_ways_further.nd rfl (Or.inl rfl))
      (pss_one (ps_for PassesOwn.never rfl (pi_list (pe_ix ix_list (pe_fld (pv 0) rfl) (pv 3) (fun _ _ => rfl))) (pg_name (i := 4) sc_ways_further.nd rfl (Or.inl rfl))
      (pss_one (ps_dput (hu_of hr) (pv 2) (pv 4) (pe_op op_add (pe_dget2 (hu_of hr) (pv 2) (pv 4) pe_int ⟨rfl, rfl, rfl, rfl⟩) (pe_dget (hu_of hr) (pv 1) (pv 3) (fun _ _ => rfl))) rfl))))))
      (pss_one (ps_ret (pv 2))))), ?_⟩
    intro e ne
    have ned : e ≠ d := (ne_of_none hd ne).symm
    have s1 : Same H (upd H e (.dK [])) := Same.new ne
    refine ⟨d, .dK (wE l), s1 _ _ hd, trivial, fun od => ?_⟩
    -- what stands: all of H but d, which is locked
    refine ⟨_, rfl, d, od, rfl, .inl ⟨wE l, upd_same, ?_⟩⟩
    have base : ∀ b u, H b = some u → b ≠ d → upd (upd H e (.dK [])) d (.frz od (.dK (wE l))) b = some u := fun b u h n => by rw [upd_ne n]; exact s1 _ _ h
    have fresh : upd (upd H e (.dK [])) d (.frz od (.dK (wE l))) e = some (.dK []) := by rw [upd_ne ned]; exact upd_same
    have lock0 : upd (upd H e (.dK [])) d (.frz od (.dK (wE l))) d = some (.frz od (.dK (wE l))) := upd_same
    refine for_it (walk_keys (d := d) (o := od) (kvs := wE l)) (fun i σ H' => ∃ v3 v4 : Option V, σ = [some (.ref p), some (.ref d), some (.ref e), v3, v4] ∧ (∀ b u, H b = some u → b ≠ d → H' b = some u) ∧ H' d = some (.frz od (.dK (wE l))) ∧ H' e = some (.dK (wE (wadd [] (wgo F (l.take i))))) ∧ WOk R.length (wadd [] (wgo F (l.take i))))
      ⟨none, none, rfl, base, lock0, fresh, WOk.nil _⟩ (fun i σ H' _ ⟨_, _, _, _, h, _⟩ => h) ?_ ?_
    · rintro i y σ H1 H2 hi ⟨v3, v4, rfl, kp, hl, he, wo⟩ ⟨rfl, k, v, gk, rfl⟩
      have hil : i < l.length := by rw [List.length_map] at hi; exact hi
      have gl : l[i]? = some l[i] := List.getElem?_eq_getElem hil
      rw [List.getElem?_map, gl] at gk
      obtain ⟨rfl, rfl⟩ : ik l[i].1 = k ∧ nv l[i].2 = v := by
        have := Option.some.inj gk
        exact ⟨congrArg Prod.fst this, congrArg Prod.snd this⟩
      have ml : l[i] ∈ l := List.getElem_mem hil
      have lt := wok.2 _ ml
      obtain ⟨ll, gF, l5, hr5⟩ := spots_further Z lt
      obtain ⟨wa, ba, fa, ws, bs, fs, SA⟩ := S
      obtain ⟨dx, ll0, a1, a2, hp⟩ := SA.ins
      have npd : p ≠ d := ne_of hp hd (by intro z; cases z)
      have nfd : fa ≠ d := ne_of SA.fur hd (by intro z; cases z)
      obtain ⟨b, gb, hb⟩ := SA.eF.get gF
      have nbd : b ≠ d := ne_of hb hd (by intro z; cases z)
      refine ⟨_, rfl, p, C, dx, _, .ref fa, rfl, kp _ _ hp npd, XS.cl, XS.nFurther, rfl, _, rfl, fa, _, (l[i].1 : Int), .ref b, rfl, rfl, SqL.of (kp _ _ SA.fur nfd), atI_nat (by rw [List.getElem?_map, gb]; rfl), b, rfl, ⟨_, SqL.of (kp _ _ hb nbd)⟩, ?_⟩
      refine for_list (K := K) (a := b) (xs := ll.map nv) (fun j σ H' => ∃ v4 : Option V, σ = [some (.ref p), some (.ref d), some (.ref e), some (nv l[i].1), v4] ∧ (∀ b u, H b = some u → b ≠ d → H' b = some u) ∧ H' d = some (.frz od (.dK (wE l))) ∧ H' e = some (.dK (wE (wadd (wadd [] (wgo F (l.take i))) ((ll.take j).map fun r => (r, l[i].2))))) ∧ WOk R.length (wadd (wadd [] (wgo F (l.take i))) ((ll.take j).map fun r => (r, l[i].2))))
        ⟨v4, rfl, kp, hl, he, wo⟩ (fun j σ H' _ ⟨_, _, kp', _⟩ => SqL.of (kp' _ _ hb nbd)) ?_ ?_
      · rintro j y σ H2 hj ⟨v4, rfl, kp2, hl2, he2, wo2⟩
        obtain ⟨r, gr, rfl⟩ := map_get hj
        have rR := hr5 r (List.mem_of_getElem? gr)
        have es : wadd (wadd [] (wgo F (l.take i))) ((ll.take (j + 1)).map fun r => (r, l[i].2)) = wbump r l[i].2 (wadd (wadd [] (wgo F (l.take i))) ((ll.take j).map fun r => (r, l[i].2))) := by
          rw [take_succ_of gr, List.map_append]
          exact wadd_snoc _ _ _
        generalize wadd (wadd [] (wgo F (l.take i))) ((ll.take j).map fun r => (r, l[i].2)) = m at he2 wo2 es
        have few := wo2.few
        have vm : valV (wE m) (ik r) = (aget m r).map nv := val_enc (ke := ik) (ve := nv) ik_inj r m
        have vl : valV (wE l) (ik l[i].1) = some (nv l[i].2) := by
          rw [show valV (wE l) (ik l[i].1) = (aget l l[i].1).map nv from val_enc (ke := ik) (ve := nv) ik_inj _ l, mem_aget wok.1 ml]; rfl
        refine ⟨_, rfl, e, rfl, .inl ⟨_, .inl he2⟩, _, rfl, valV (wE m) (ik r), DGet.k (k := ik r) he2, ?_⟩
        refine ⟨_, rfl, _, rfl, d, nv l[i].2, rfl, .inl ⟨wE l, ik l[i].1, .inr ⟨od, hl2⟩, rfl, vl.symm⟩, ((aget m r).getD 0 : Nat), (l[i].2 : Int), ?_, rfl, ?_⟩
        · rw [vm]
          cases aget m r <;> rfl
        · refine ⟨_, rfl, _, rfl, e, _, rfl, DPut.k (k := ik r) he2 (by rw [List.length_map]; exact big (by omega)), _, rfl, ?_⟩
          have ep : putK (wE m) (ik r) (V.int (((aget m r).getD 0 : Nat) + (l[i].2 : Nat) : Int)) = wE (wbump r l[i].2 m) := by
            rw [wbump_put m r l[i].2 wo2.1]
            have := put_enc (ke := ik) (ve := nv) ik_inj m r ((aget m r).getD 0 + l[i].2)
            refine Eq.trans ?_ this
            show putK (wE m) (ik r) (V.int (((aget m r).getD 0 : Nat) + (l[i].2 : Nat) : Int)) = putK (wE m) (ik r) (nv ((aget m r).getD 0 + l[i].2))
            congr 1
          rw [ep]
          refine ⟨fun b u h n => ?_, ?_, ?_, ?_⟩
          · rw [upd_ne (ne_of_none h ne)]; exact kp2 b u h n
          · rw [upd_ne ned.symm]; exact hl2
          · rw [upd_same, es]
          · rw [es]; exact wo2.bump rR _
      · rintro σ H2 ⟨v4, rfl, kp2, hl2, he2, wo2⟩
        have es : wadd (wadd [] (wgo F (l.take i))) ((ll.take (ll.map nv).length).map fun r => (r, l[i].2)) = wadd [] (wgo F (l.take (i + 1))) := by
          rw [List.length_map, List.take_length, ← wadd_app, take_succ_of gl]
          congr 1
          unfold wgo
          rw [List.flatMap_append]
          congr 1
          rw [List.flatMap_cons, List.flatMap_nil, List.append_nil, List.getD_eq_getElem?_getD, gF]; rfl
        rw [es] at he2 wo2
        exact ⟨_, v4, rfl, kp2, hl2, he2, wo2⟩
    · rintro σ H1 ⟨v3, v4, rfl, kp, hl, he, wo⟩
      rw [List.length_map, List.take_length] at he wo
      refine ⟨hl, _, rfl, q _ e ?_ ne ?_ wo⟩
      · intro b u h
        by_cases n : b = d
        · rw [n, upd_same]; rw [n, hd] at h; exact h
        · rw [upd_ne n]; exact kp b u h n
      · rw [upd_ne ned]; exact he
end
end Cr
end
section
set_option Elab.async false
set_option maxRecDepth 100000
set_option maxHeartbeats 2000000
set_option linter.all false
namespace Cr
open PySem PySem.Spec PyProof.Rows L2
theorem sum_cast : ∀ l : List Nat, (l.map fun n : Nat => (n : Int)).sum = ((l.sum : Nat) : Int)
  | [] => rfl
  | x :: l => by rw [List.map_cons, List.sum_cons, List.sum_cons, sum_cast l]; omega
theorem wnexts_ok {rs : List Wf04.Rule} {R : Rows (List Nat)} {F : List (List Nat)} (Z : Spots rs R F) : WOk R.length [(0, 1)] := by
  refine ⟨by simp, fun x hx => ?_⟩
  rw [List.mem_singleton.1 hx]
  exact (List.getElem?_eq_some_iff.1 Z.zero).1
section
variable {P : Program} {w : World} {K : PySem.W.Frag} {mg : Str → Option Value} {base : Heap} {C : Addr}
def sp_rows_that (C : Addr) : Sp := fun vs H Q _ => ∃ (p : Addr) (n : Nat) (rs : List Wf04.Rule) (R : Rows (List Nat)) (F : List (List Nat)), vs = [.ref p, nv n] ∧ n ≤ 10 ∧ SpotsOn C H p rs R F ∧ SpotsG rs R F ∧ (∀ r ∈ rs, Valid r) ∧ rs.length ≤ 4 ∧ ∀ H', Same H H' → Q (nv (Wf04.count rs n)) H'
theorem ok_rows_that (B : Own mg) (XS : Ss K mg C) (D : Has K mg "rows_that_keep_all" s_rows_that_keep_all) (G_ways_further : Cal P w K mg base 1 "ways_further" ["spots", "ways"] (sp_ways_further C)) : Cal P w K mg base 2 "rows_that_keep_all" ["spots", "many"] (sp_rows_that C) := by
  refine D.cal sc_rows_that_keep_all (fun _ _ _ _ _ _ us hl => match us, hl with | [_, _], _ => rfl) (fun vs H Q E h => ?_) (fun f cdv A outer s H vs Q E hr h => ?_)
  · obtain ⟨p, n, rs, R, F, rfl, _⟩ := h; rfl
  · obtain ⟨p, n, rs, R, F, rfl, hn, S, Z, v, few, q⟩ := h
    have lR := spots_few Z.1 few
    refine ⟨_, (pss_cons (ps_set (i := 2) sc_rows_that_keep_all.nd rfl (Or.inr rfl) (pe_disp (pps_cons pe_int pe_int pps_nil) (by rfl) (by rfl) (fun z => by cases z) (by decide)))
      (pss_cons (ps_for PassesOwn.never rfl (pi_range1 (by rfl) B.range (pa_cons (pv 1) pa_nil)) (pg_name (i := 3) sc_rows_that_keep_all.nd rfl (Or.inl rfl))
      (pss_one (ps_set (i := 2) sc_rows_that_keep_all.nd rfl (Or.inr rfl) (pe_cal G_ways_further (hr.mono (by decide)) (pa_cons (pv 0) (pa_cons (pv 2) pa_nil))))))
      (pss_one (ps_ret (pe_callB (cr_sum rfl) (by rfl) B.sum (by decide +kernel) (pa_cons (pe_lock (pe_lc (own := [("spot", 4)]) (tt := tTest (tOp (rEqN K) (tOp (rIxL K) (tFld K (tVar 0) "broken") (tVar 4)) (tLst tNil))) rfl sc_rows_that_keep_all.nd (pi_keys (pv 2)) (blkOk_by (own := [("spot", 4)]) (N := ["spots", "many", "ways", "turn", "spot"]) (sc := defScope s_rows_that_keep_all) (by decide +kernel)) (fun _ _ _ _ _ => by exact (pg_name (i := 4) sc_rows_that_keep_all.nd rfl (Or.inl rfl))) (fun _ _ _ _ _ => (pts_one (pt_cmpR (op_eqN hr.units) (pe_ix ix_list (pe_fld (pv 0) rfl) (pv 4) (fun _ _ => rfl)) (pe_lst pa_nil) (nomark _)))) (fun _ _ _ _ _ => (pe_dget (hu_of hr) (pv 2) (pv 4) (fun _ _ => rfl))))) pa_nil)))))), ?_⟩
    intro d nd
    refine ⟨upd_same, [(ik 0, nv 1)], rfl, by decide, ?_⟩
    have em : mergeK [] [(ik 0, nv 1)] = wE [(0, 1)] := rfl
    rw [em]
    have s1 : Same H (upd (upd H d (.dK [])) d (.dK (wE [(0, 1)]))) := Same.put (Same.new nd) nd
    refine ⟨_, rfl, (n : Int), rfl, by omega, by omega, for_range (lo := 0) (n := n) (fun i σ H' => ∃ (d : Addr) (v3 v4 : Option V), σ = [some (.ref p), some (nv n), some (.ref d), v3, v4] ∧ Same H H' ∧ H d = none ∧ H' d = some (.dK (wE (wnexts F i))) ∧ WOk R.length (wnexts F i)) ⟨d, none, none, rfl, s1, nd, upd_same, wnexts_ok Z.1⟩ ?_ ?_⟩
    · rintro i σ H1 hi ⟨d, v3, v4, rfl, sm, nd, hd, wo⟩
      refine ⟨_, rfl, _, rfl, p, d, rs, R, F, wnexts F i, rfl, S.same sm, Z.1, lR, hd, wo, fun H2 e s2 ne he wo2 => ?_⟩
      exact ⟨e, _, v4, rfl, sm.trans s2, sm.free ne, he, wo2⟩
    · rintro σ H1 ⟨d, v3, v4, rfl, sm, nd, hd, wo⟩
      have cnt := spots_count Z.1 v n
      generalize wnexts F n = l at hd wo cnt
      refine ⟨d, .dK (wE l), hd, trivial, fun od => ?_⟩
      refine ⟨_, rfl, d, od, rfl, .inl ⟨wE l, upd_same, fun D nD => ?_⟩⟩
      have nDd : D ≠ d := fun e => by rw [e, upd_same] at nD; cases nD
      have nD1 : H1 D = none := by rw [upd_ne nDd] at nD; exact nD
      obtain ⟨wa, ba, fa, ws, bs, fs, SA⟩ := S
      obtain ⟨dx, l0, a1, a2, hp⟩ := SA.ins
      refine lc_it (walk_keys (d := d) (o := od) (kvs := wE l)) (fun i H' => (∀ b u, H1 b = some u → b ≠ d → H' b = some u) ∧ H' d = some (.frz od (.dK (wE l))) ∧ H' D = some (.lst ((((l.take i).filter fun x => okAt rs R x.1).map fun x => x.2).map nv))) ⟨fun b u h n => ?_, ?_, upd_same⟩ (fun i H' _ h => h.2.1) ?_ ?_
      · rw [upd_ne (ne_of_none h nD1), upd_ne n]; exact h
      · rw [upd_ne nDd.symm]; exact upd_same
      · rintro i y H2 H3 hi ⟨kp, hl, hD⟩ ⟨rfl, k, vv, gk, rfl⟩
        have hil : i < l.length := by rw [List.length_map] at hi; exact hi
        have gl : l[i]? = some l[i] := List.getElem?_eq_getElem hil
        rw [List.getElem?_map, gl] at gk
        obtain ⟨rfl, rfl⟩ : ik l[i].1 = k ∧ nv l[i].2 = vv := by
          have := Option.some.inj gk
          exact ⟨congrArg Prod.fst this, congrArg Prod.snd this⟩
        have ml : l[i] ∈ l := List.getElem_mem hil
        have lt := wo.2 _ ml
        have gR : R[l[i].1]? = some R[l[i].1] := List.getElem?_eq_getElem lt
        have up : ∀ {b : Addr} {u : HO}, H b = some u → H1 b = some u := fun h => sm _ _ h
        have npd : p ≠ d := ne_of_none hp nd
        have nbd : ba ≠ d := ne_of_none SA.brk nd
        obtain ⟨b, gb, hb⟩ := SA.eB.get gR
        have nd2 : b ≠ d := ne_of_none hb nd
        have vl : valV (wE l) (ik l[i].1) = some (nv l[i].2) := by
          rw [show valV (wE l) (ik l[i].1) = (aget l l[i].1).map nv from val_enc (ke := ik) (ve := nv) ik_inj _ l, mem_aget wo.1 ml]; rfl
        refine ⟨rfl, _, rfl, p, C, dx, _, .ref ba, rfl, kp _ _ (up hp) npd, XS.cl, XS.nBroken, rfl, _, rfl, ba, _, (l[i].1 : Int), .ref b, rfl, rfl, SqL.of (kp _ _ (up SA.brk) nbd), atI_nat (by rw [List.getElem?_map, gb]; rfl), Nat.zero_le _, fun g ng => ?_⟩
        have sg : Same H3 (upd H3 g (.lst [])) := Same.new ng
        refine ⟨b, g, pbrk rs R[l[i].1].1, [], rfl, rfl, SqL.of (sg _ _ (kp _ _ (up hb) nd2)), SqL.of upd_same, _, rfl, ?_⟩
        have eok : okAt rs R l[i].1 = decide (pbrk rs R[l[i].1].1 = []) := okAt_is gR
        have es : (l.take (i + 1)).filter (fun x => okAt rs R x.1) = (l.take i).filter (fun x => okAt rs R x.1) ++ (if okAt rs R l[i].1 = true then [l[i]] else []) := by
          rw [take_succ_of gl, List.filter_append]
          cases c : okAt rs R l[i].1 <;> simp [c]
        rw [← eok]
        cases c : okAt rs R l[i].1 with
        | true =>
          rw [c, if_pos rfl] at es
          refine iteT ⟨_, rfl, _, rfl, d, nv l[i].2, rfl, .inl ⟨wE l, ik l[i].1, .inr ⟨od, sg _ _ hl⟩, rfl, vl.symm⟩, _, sg _ _ hD, ?_, fun b u h n => ?_, ?_, ?_⟩
          · rw [List.length_map, List.length_map]
            have h1 := List.length_filter_le (fun x : Nat × Nat => okAt rs R x.1) (l.take i)
            rw [List.length_take] at h1
            have h2 := wo.few
            exact big (by omega)
          · rw [upd_ne (ne_of_none h nD1)]; exact sg _ _ (kp b u h n)
          · rw [upd_ne nDd.symm]; exact sg _ _ hl
          · rw [upd_same, es, List.map_append, List.map_append]; rfl
        | false =>
          rw [c, if_neg (by decide), List.append_nil] at es
          refine iteF ⟨fun b u h n => sg _ _ (kp b u h n), sg _ _ hl, ?_⟩
          rw [es]; exact sg _ _ hD
      · rintro H2 ⟨kp, hl, hD⟩
        rw [List.length_map, List.take_length] at hD
        refine ⟨hl, D, (((l.filter fun x => okAt rs R x.1).map fun x => x.2).map fun n : Nat => (n : Int)), rfl, SqL.of (by rw [upd_ne nDd, ← nv_ints]; exact hD), ?_⟩
        rw [sum_cast, cnt]
        refine q _ fun b u h => ?_
        have n : b ≠ d := ne_of_none h nd
        rw [upd_ne n]; exact kp b u (sm b u h) n
end
end Cr
end
section
set_option Elab.async false
set_option maxRecDepth 100000
set_option maxHeartbeats 2000000
set_option linter.all false
namespace Cr
open PySem PySem.Spec PyProof.Rows L2
/-! ### a Making in the heap -/
def mF (sp gv s w : Addr) : List (Str × V) := [("spots", .ref sp), ("given", .ref gv), ("settled", .ref s), ("waiting", .ref w)]
structure Ms (K : PySem.W.Frag) (mg : Str → Option Value) (C : Addr) : Prop where
  cl : Cls K C
  nSpots : NoAttr K C "spots"
  nGiven : NoAttr K C "given"
  nSettled : NoAttr K C "settled"
  nWaiting : NoAttr K C "waiting"
abbrev sk (x : Nat × Nat) : List Key := [ik x.1, ik x.2]
theorem sk_inj : ∀ a b : Nat × Nat, sk a = sk b → a = b := fun a b h => by
  obtain ⟨a1, a2⟩ := a
  obtain ⟨b1, b2⟩ := b
  have h1 := ik_inj _ _ (List.cons.inj h).1
  have h2 := ik_inj _ _ (List.cons.inj (List.cons.inj h).2).1
  dsimp only at h1 h2
  rw [h1, h2]
theorem sk_kV (x : Nat × Nat) : (sk x).map kV = [nv x.1, nv x.2] := rfl
abbrev dE (done : List Rec) : List (List Key × V) := done.map fun x => (sk x.1, (fun _ => V.bl true) x.2)
abbrev rA (y : Addr × List Nat) : V := .ref y.1
abbrev wA (y : Addr × Frt Addr) : V := .ref y.1
abbrev frE (fr : Frt Addr) : List (List Key × V) := fr.map fun x => (sk x.1, rA x.2)
abbrev wtE (W : Wait Addr) : List (List Key × V) := W.map fun x => (sk x.1, wA x.2)
def Front (W : Wait Addr) (b : Addr) : Prop := ∃ k fr, (k, (b, fr)) ∈ W
structure MakeAt (C : Addr) (H : Hp) (m sp gv s w : Addr) (done : List Rec) (W : Wait Addr) : Prop where
  ins : ∃ dx, H m = some (.ins C dx (mF sp gv s w))
  set : H s = some (.dT (dE done))
  wait : H w = some (.dT (wtE W))
  fr : ∀ (k : Nat × Nat) (b : Addr) (fr : Frt Addr), (k, (b, fr)) ∈ W → H b = some (.dT (frE fr)) ∧ ∀ x ∈ fr, H x.2.1 = some (.tup (x.2.2.map nv))
  nsw : s ≠ w
  nf : ∀ b, Front W b → b ≠ s ∧ b ≠ w
  inj : ∀ (b : Addr) (k k' : Nat × Nat) (fr fr' : Frt Addr), (k, (b, fr)) ∈ W → (k', (b, fr')) ∈ W → k = k'
  nd : (akeys W).Nodup
/-- all but those that p tells stands -/
def KeepP (p : Addr → Prop) (H H' : Hp) : Prop := ∀ b o, H b = some o → ¬ p b → H' b = some o
theorem KeepP.refl (p : Addr → Prop) (H : Hp) : KeepP p H H := fun _ _ h _ => h
theorem Same.keepP {p : Addr → Prop} {H H' : Hp} (s : Same H H') : KeepP p H H' := fun b o h _ => s b o h
theorem KeepP.same {p : Addr → Prop} {H H1 H2 : Hp} (k : KeepP p H H1) (s : Same H1 H2) : KeepP p H H2 := fun b o h n => s b o (k b o h n)
theorem KeepP.mono {p q : Addr → Prop} {H H1 : Hp} (k : KeepP p H H1) (h : ∀ b, p b → q b) : KeepP q H H1 := fun b o e n => k b o e fun m => n (h b m)
theorem KeepP.put {p : Addr → Prop} {a : Addr} {o : HO} {H H1 : Hp} (k : KeepP p H H1) (h : p a ∨ H a = none) : KeepP p H (upd H1 a o) := fun b u e n => by
  have ne : b ≠ a := by
    rcases h with h | h
    · exact fun z => n (by rw [z]; exact h)
    · exact ne_of_none e h
  rw [upd_ne ne]; exact k b u e n
/-- and what p tells besides is new or told already -/
theorem KeepP.trans {p q : Addr → Prop} {H H1 H2 : Hp} (k : KeepP p H H1) (l : KeepP q H1 H2) (h : ∀ b o, H b = some o → q b → p b) : KeepP p H H2 := fun b o e n => l b o (k b o e n) fun m => n (h b o e m)
section
variable {C : Addr} {H H' : Hp} {m sp gv s w : Addr} {done : List Rec} {W : Wait Addr}
theorem MakeAt.same (M : MakeAt C H m sp gv s w done W) (e : Same H H') : MakeAt C H' m sp gv s w done W := by
  obtain ⟨dx, h⟩ := M.ins
  exact ⟨⟨dx, e _ _ h⟩, e _ _ M.set, e _ _ M.wait, fun k b fr h => ⟨e _ _ (M.fr k b fr h).1, fun x hx => e _ _ ((M.fr k b fr h).2 x hx)⟩, M.nsw, M.nf, M.inj, M.nd⟩
theorem MakeAt.front (M : MakeAt C H m sp gv s w done W) {b : Addr} (h : Front W b) : ∃ kvs, H b = some (.dT kvs) := by
  obtain ⟨k, fr, h⟩ := h
  exact ⟨_, (M.fr k b fr h).1⟩
/-- what is no dict stands -/
theorem MakeAt.other (M : MakeAt C H m sp gv s w done W) {p : Addr → Prop} (hp : ∀ b, p b → b = s ∨ b = w ∨ Front W b) (k : KeepP p H H') {b : Addr} {o : HO} (h : H b = some o) (n : ∀ kvs, o ≠ .dT kvs) : H' b = some o := by
  refine k b o h fun q => ?_
  rcases hp b q with e | e | e
  · rw [e, M.set] at h; cases h; exact n _ rfl
  · rw [e, M.wait] at h; cases h; exact n _ rfl
  · obtain ⟨kvs, e⟩ := M.front e
    rw [e] at h; cases h; exact n _ rfl
/-- a front is put in place -/
theorem MakeAt.put (M : MakeAt C H m sp gv s w done W) {k : Nat × Nat} {b : Addr} {fr' : Frt Addr} (kp : KeepP (fun x => x = w ∨ x = b) H H') (hw : H' w = some (.dT (wtE (aput W k (b, fr'))))) (hb : H' b = some (.dT (frE fr'))) (ht : ∀ x ∈ fr', H' x.2.1 = some (.tup (x.2.2.map nv)))
    (hn : (∃ fr0, (k, (b, fr0)) ∈ W) ∨ H b = none) : MakeAt C H' m sp gv s w done (aput W k (b, fr')) := by
  have nbs : b ≠ s ∧ b ≠ w := by
    rcases hn with ⟨fr0, h⟩ | h
    · exact M.nf b ⟨k, fr0, h⟩
    · exact ⟨(ne_of_none M.set h).symm, (ne_of_none M.wait h).symm⟩
  have bdict : ∀ {c : Addr} {o : HO}, H c = some o → (∀ kvs, o ≠ .dT kvs) → c ≠ b := by
    intro c o h n e
    rcases hn with ⟨fr0, q⟩ | q
    · rw [e, (M.fr _ _ _ q).1] at h; cases h; exact n _ rfl
    · rw [e, q] at h; cases h
  have wdict : ∀ {c : Addr} {o : HO}, H c = some o → (∀ kvs, o ≠ .dT kvs) → c ≠ w := fun h n e => by rw [e, M.wait] at h; cases h; exact n _ rfl
  obtain ⟨dx, hi⟩ := M.ins
  refine ⟨⟨dx, kp _ _ hi fun e => ?_⟩, kp _ _ M.set fun e => ?_, hw, ?_, M.nsw, ?_, ?_, aput_nodup M.nd⟩
  · rcases e with e | e
    · exact wdict hi (fun _ z => by cases z) e
    · exact bdict hi (fun _ z => by cases z) e
  · rcases e with e | e
    · exact M.nsw e
    · exact nbs.1 e.symm
  · intro k' b' fr h
    rcases mem_aput h with h | ⟨h, ne⟩
    · cases h; exact ⟨hb, ht⟩
    · have hf := M.fr k' b' fr h
      have nb' : b' ≠ b := by
        intro e
        rcases hn with ⟨fr0, q⟩ | q
        · rw [e] at h; exact ne (M.inj b k' k fr fr0 h q)
        · rw [e, q] at hf; cases hf.1
      refine ⟨kp _ _ hf.1 fun e => ?_, fun x hx => kp _ _ (hf.2 x hx) fun e => ?_⟩
      · rcases e with e | e
        · exact (M.nf b' ⟨k', fr, h⟩).2 e
        · exact nb' e
      · rcases e with e | e
        · exact wdict (hf.2 x hx) (fun _ z => by cases z) e
        · exact bdict (hf.2 x hx) (fun _ z => by cases z) e
  · rintro b' ⟨k', fr, h⟩
    rcases mem_aput h with h | ⟨h, _⟩
    · cases h; exact nbs
    · exact M.nf b' ⟨k', fr, h⟩
  · intro b' k1 k2 f1 f2 h1 h2
    have key : ∀ k1 f1, (k1, (b, f1)) ∈ W → k1 = k := by
      intro k1 f1 h
      rcases hn with ⟨fr0, q⟩ | q
      · exact M.inj b k1 k f1 fr0 h q
      · rw [(M.fr _ _ _ h).1] at q; cases q
    rcases mem_aput h1 with h1 | ⟨h1, n1⟩ <;> rcases mem_aput h2 with h2 | ⟨h2, n2⟩
    · cases h1; cases h2; rfl
    · cases h1; exact (n2 (key _ _ h2)).elim
    · cases h2; exact (n1 (key _ _ h1)).elim
    · exact M.inj b' k1 k2 f1 f2 h1 h2
end
theorem wtE_same {W : Wait Addr} (nd : (akeys W).Nodup) {k : Nat × Nat} {b : Addr} {fr fr' : Frt Addr} (h : aget W k = some (b, fr)) : wtE (aput W k (b, fr')) = wtE W := by
  unfold aput
  have hk : k ∈ akeys W := List.mem_map.2 ⟨_, aget_mem h, rfl⟩
  rw [if_pos (any_key.2 hk)]
  unfold wtE
  rw [List.map_map]
  refine List.map_congr_left fun x hx => ?_
  show (sk (if x.1 = k then (x.1, (b, fr')) else x).1, wA (if x.1 = k then (x.1, (b, fr')) else x).2) = (sk x.1, wA x.2)
  by_cases e : x.1 = k
  · rw [if_pos e]
    have := mem_aget nd hx
    rw [e, h] at this
    have := Option.some.inj this
    rw [← this]
  · rw [if_neg e]
/-- how large -/
def Small (N : Nat) (W : Wait Addr) : Prop := W.length ≤ N ∧ ∀ (k : Nat × Nat) (b : Addr) (fr : Frt Addr), (k, (b, fr)) ∈ W → fr.length ≤ N
theorem aput_len {α β : Type} [DecidableEq α] (l : List (α × β)) (k : α) (v : β) : (aput l k v).length ≤ l.length + 1 := by
  unfold aput; split
  · rw [List.length_map]; omega
  · rw [List.length_append, List.length_singleton]; omega
theorem putFr_len (fr : Frt Addr) (st : Stand) (a : Addr) (w : List Nat) : (putFr fr st a w).length ≤ fr.length + 1 := by
  unfold putFr
  cases aget fr st with
  | none => exact aput_len _ _ _
  | some y =>
    dsimp only
    split
    · exact aput_len _ _ _
    · omega
theorem Small.put {N : Nat} {W : Wait Addr} (h : Small N W) (d : Nat) (st : Stand) (b a : Addr) (w : List Nat) : Small (N + 1) (putW W d st b a w) := by
  obtain ⟨b', e⟩ := putW_eq W d st b a w
  rw [e]
  refine ⟨Nat.le_trans (aput_len _ _ _) (by have := h.1; omega), fun k c fr hm => ?_⟩
  rcases mem_aput hm with q | q
  · cases q
    refine Nat.le_trans (putFr_len _ _ _ _) ?_
    have : (frontAt W d w.length).length ≤ N := by
      unfold frontAt
      cases e2 : aget W (d, w.length) with
      | none => exact Nat.zero_le _
      | some y => exact h.2 _ y.1 y.2 (aget_mem e2)
    omega
  · have := h.2 k c fr q.1; omega
section
variable {P : Program} {w : World} {K : PySem.W.Frag} {mg : Str → Option Value} {base : Heap} {C : Addr}
def sp_put (C : Addr) : Sp := fun vs H Q _ => ∃ (m sp gv s w : Addr) (done : List Rec) (W : Wait Addr) (far : Nat) (st : Stand) (t a : Addr) (r : List Nat), vs = [.ref m, nv far, .ref t, .ref a] ∧ MakeAt C H m sp gv s w done W ∧ Small 900000 W ∧ H t = some (.tup [nv st.1, nv st.2]) ∧ H a = some (.tup (r.map nv)) ∧
  ∀ (H' : Hp) (b : Addr), KeepP (fun x => x = w ∨ Front W x) H H' → MakeAt C H' m sp gv s w done (putW W far st b a r) → (∀ x, Front (putW W far st b a r) x → Front W x ∨ H x = none) → Q .non H'
theorem ok_put (B : Own mg) (XM : Ms K mg C) (D : HasM K C "put" "Making.put" s_Making_put) : CalM P w K mg base C 1 "put" ["self", "far", "stand", "made"] (sp_put C) := by
  refine D.cal sc_Making_put (fun _ _ _ _ _ _ us hl => match us, hl with | [_, _, _, _], _ => rfl) (fun vs H Q E h => ?_) (fun f cdv A outer s H vs Q E hr h => ?_)
  · obtain ⟨m, sp, gv, s, w, done, W, far, st, t, a, r, rfl, _⟩ := h; rfl
  · obtain ⟨m, sp, gv, s, w, done, W, far, st, t, a, r, rfl, M, sml, ht, ha, q⟩ := h
    obtain ⟨dx, hm⟩ := M.ins
    refine ⟨_, (pss_cons (ps_set (i := 4) sc_Making_put.nd rfl (Or.inl rfl) (pe_bm PySem.F.plainAttrs_dict PySem.F.slot_dict_setdefault PySem.F.type_dict_setdefault (mt_setdT (hu_of hr)) (pe_fld (pv 0) rfl) (pa_cons (pe_tup (pa_cons (pv 1) (pa_cons (pe_callB call_len_seq (by rfl) B.len (by decide +kernel) (pa_cons (pv 3) pa_nil)) pa_nil))) (pa_cons pe_dnewT pa_nil))))
      (pss_one (ps_if (PW.pt (pw_or (pt_cmp (pc_dnotin (hu_of hr) (pv 2) (pv 4))) (pw_or1 (pt_cmpR (op_ltN hr.units0) (pv 3) (pe_dget (hu_of hr) (pv 4) (pv 2) (fun _ _ => rfl)) (nomark _))))) (pss_one (ps_dput (hu_of hr) (pv 4) (pv 2) (pv 3) rfl)) pss_nil))), ?_⟩
    -- front = self.waiting.setdefault((far, len(made)), {})
    refine ⟨_, rfl, m, C, dx, _, .ref w, rfl, hm, XM.cl, XM.nWaiting, rfl, .inr (.inr (.inl ⟨rfl, .inr ⟨_, M.wait⟩⟩)), _, rfl, _, rfl, a, _, rfl, .inr (SqT.of ha), (by show 2 ≤ sizeLine; decide), fun kt nkt => ?_⟩
    intro d0 nd0
    have s1 : Same H (upd H kt (.tup [nv far, nv (r.map nv).length])) := Same.new nkt
    have s2 : Same (upd H kt (.tup [nv far, nv (r.map nv).length])) (upd (upd H kt (.tup [nv far, nv (r.map nv).length])) d0 (.dT [])) := Same.new nd0
    have s12 := s1.trans s2
    have hkt : upd (upd H kt (.tup [nv far, nv (r.map nv).length])) d0 (.dT []) kt = some (.tup ((sk (far, r.length)).map kV)) := by
      rw [s2 _ _ upd_same, List.length_map]; rfl
    have hd0 : upd (upd H kt (.tup [nv far, nv (r.map nv).length])) d0 (.dT []) d0 = some (.dT (frE [])) := upd_same
    have nd0H : H d0 = none := s1.free nd0
    generalize upd (upd H kt (.tup [nv far, nv (r.map nv).length])) d0 (.dT []) = H1 at s12 hkt hd0 ⊢
    have M1 := M.same s12
    have vW : valV (wtE W) (sk (far, r.length)) = (aget W (far, r.length)).map wA := val_enc (ke := sk) (ve := wA) sk_inj _ W
    have s1t := s12 _ _ ht
    have s1a := s12 _ _ ha
    -- the rest, by the front
    have fin : ∀ (H2 : Hp) (b : Addr) (fr : Frt Addr), H2 t = some (.tup [nv st.1, nv st.2]) → H2 a = some (.tup (r.map nv)) → H2 b = some (.dT (frE fr)) → fr.length ≤ 900000 → (∀ x ∈ fr, H2 x.2.1 = some (.tup (x.2.2.map nv))) →
        (∀ H3, (∀ x o, H2 x = some o → x ≠ b → H3 x = some o) → H3 b = some (.dT (frE (putFr fr st a r))) → (∀ x ∈ putFr fr st a r, H3 x.2.1 = some (.tup (x.2.2.map nv))) → Q .non H3) →
        (tIfS (tOr (tB (tDNotIn (tVar 2) (tVar 4))) (tTest (tOp (rLtN K) (tVar 3) (tDGet (tVar 4) (tVar 2))))) (sDPut (tVar 4) (tVar 2) (tVar 3)) tNext) { nx := fun _ H' => Q .non H', rt := Q } [some (.ref m), some (nv far), some (.ref t), some (.ref a), some (.ref b)] H2 := by
      intro H2 b fr ht2 ha2 hb2 lfr hx2 k
      have vF : valV (frE fr) (sk st) = (aget fr st).map rA := val_enc (ke := sk) (ve := rA) sk_inj _ fr
      have ht2' : H2 t = some (.tup ((sk st).map kV)) := ht2
      -- front[stand] = made
      have store : putFr fr st a r = aput fr st (a, r) → (sDPut (tVar 4) (tVar 2) (tVar 3)) { nx := fun _ H' => Q .non H', rt := Q } [some (.ref m), some (nv far), some (.ref t), some (.ref a), some (.ref b)] H2 := by
        intro e
        have ep : putK (frE fr) (sk st) (.ref a) = frE (aput fr st (a, r)) := put_enc (ke := sk) (ve := rA) sk_inj fr st (a, r)
        refine ⟨_, rfl, _, rfl, _, rfl, b, _, rfl, DPut.t hb2 ht2' (by rw [List.length_map]; exact big (by omega)), ?_⟩
        have up : ∀ x o, H2 x = some o → x ≠ b → upd H2 b (.dT (putK (frE fr) (sk st) (.ref a))) x = some o := fun x o h n => by rw [upd_ne n]; exact h
        refine k _ up (by rw [upd_same, ep, e]) fun x hx => ?_
        rcases putFr_from hx with h | h
        · exact up _ _ (hx2 x h) (ne_of (hx2 x h) hb2 (by intro z; cases z))
        · rw [h]; exact up _ _ ha2 (ne_of ha2 hb2 (by intro z; cases z))
      refine ⟨_, rfl, _, rfl, b, _, rfl, DGet.t hb2 ht2', ?_⟩
      rw [vF]
      cases eg : aget fr st with
      | none =>
        refine ⟨true, rfl, iteT (iteT ?_)⟩
        exact store (by unfold putFr; rw [eg])
      | some y =>
        refine ⟨false, rfl, iteF ?_⟩
        have hy := hx2 _ (aget_mem eg)
        refine ⟨_, rfl, _, rfl, _, rfl, b, .ref y.1, rfl, ?_, a, y.1, r, y.2, rfl, rfl, SqT.of ha2, SqT.of hy, _, rfl, ?_⟩
        · have := DGet.t (k := sk st) hb2 ht2'
          rw [vF, eg] at this; exact this
        · cases c : Wf04.less r y.2 with
          | true =>
            refine iteT ?_
            exact store (by unfold putFr; rw [eg]; dsimp only; rw [if_pos c])
          | false =>
            refine iteF ?_
            have e : putFr fr st a r = fr := by unfold putFr; rw [eg]; dsimp only; rw [if_neg (by rw [c]; decide)]
            refine k H2 (fun x o h _ => h) (by rw [e]; exact hb2) (by rw [e]; exact hx2)
    refine ⟨w, wtE W, sk (far, r.length), kt, .ref d0, rfl, rfl, M1.wait, hkt, ?_, ?_, ?_⟩
    · rw [List.length_map]; exact big (by have := sml.1; omega)
    · intro v hv
      rw [vW] at hv
      cases eg : aget W (far, r.length) with
      | none => rw [eg] at hv; cases hv
      | some y =>
        rw [eg] at hv
        cases hv
        have my := aget_mem eg
        have mf := M1.fr _ y.1 y.2 my
        have eW : putW W far st d0 a r = aput W (far, r.length) (y.1, putFr y.2 st a r) := by unfold putW; rw [eg]
        refine fin H1 y.1 y.2 s1t s1a mf.1 (sml.2 _ y.1 y.2 my) mf.2 fun H3 k3 h3 x3 => ?_
        have nyw := (M1.nf y.1 ⟨_, y.2, my⟩).2
        refine q H3 d0 (fun x o h n => k3 _ _ (s12 _ _ h) fun e => n (.inr ⟨(far, r.length), y.2, by rw [e]; exact my⟩)) ?_ ?_
        · rw [eW]
          refine M1.put (fun x o h n => k3 _ _ h fun e => n (.inr e)) ?_ h3 x3 (.inl ⟨y.2, my⟩)
          rw [k3 _ _ M1.wait (Ne.symm nyw), wtE_same M1.nd eg]
        · rintro x ⟨k, fr, h⟩
          rw [eW] at h
          rcases mem_aput h with h | h
          · cases h; exact .inl ⟨_, y.2, my⟩
          · exact .inl ⟨k, fr, h.1⟩
    · intro hv
      rw [vW] at hv
      cases eg : aget W (far, r.length) with
      | some y => rw [eg] at hv; cases hv
      | none =>
        have ndw : d0 ≠ w := (ne_of_none M.wait nd0H).symm
        have up : ∀ x o, H1 x = some o → x ≠ w → upd H1 w (.dT (putK (wtE W) (sk (far, r.length)) (.ref d0))) x = some o := fun x o h n => by rw [upd_ne n]; exact h
        have ntw : ∀ {x : Addr} {xs : List V}, H1 x = some (.tup xs) → x ≠ w := fun h => ne_of h M1.wait (by intro z; cases z)
        have eW : putW W far st d0 a r = aput W (far, r.length) (d0, putFr [] st a r) := by unfold putW; rw [eg]
        refine fin _ d0 [] (up _ _ s1t (ntw s1t)) (up _ _ s1a (ntw s1a)) (up _ _ hd0 ndw) (Nat.zero_le _) (fun x hx => by cases hx) fun H3 k3 h3 x3 => ?_
        have all : ∀ x o, H x = some o → x ≠ w → H3 x = some o := fun x o h n => k3 _ _ (up _ _ (s12 _ _ h) n) (ne_of_none h nd0H)
        refine q H3 d0 (fun x o h n => all x o h fun e => n (.inl e)) ?_ ?_
        · rw [eW]
          refine M.put (fun x o h n => all x o h fun e => n (.inl e)) ?_ h3 x3 (.inr nd0H)
          rw [k3 _ _ upd_same ndw.symm]
          have ep : putK (wtE W) (sk (far, r.length)) (.ref d0) = wtE (aput W (far, r.length) (d0, putFr [] st a r)) := put_enc (ke := sk) (ve := wA) sk_inj W (far, r.length) (d0, putFr [] st a r)
          rw [ep]
        · rintro x ⟨k, fr, h⟩
          rw [eW] at h
          rcases mem_aput h with h | h
          · cases h; exact .inr nd0H
          · exact .inl ⟨k, fr, h.1⟩
end
end Cr
end
section
set_option Elab.async false
set_option maxRecDepth 100000
set_option maxHeartbeats 2000000
set_option linter.all false
namespace Cr
open PySem PySem.Spec PyProof.Rows L2
section
variable {C : Addr} {H H' : Hp} {m sp gv s w : Addr} {done : List Rec} {W : Wait Addr}
theorem MakeAt.del (M : MakeAt C H m sp gv s w done W) {k : Nat × Nat} (kp : KeepP (fun x => x = w) H H') (hw : H' w = some (.dT (wtE (adel W k)))) : MakeAt C H' m sp gv s w done (adel W k) := by
  obtain ⟨dx, hi⟩ := M.ins
  have sub : ∀ b, Front (adel W k) b → Front W b := fun b ⟨k', fr, h⟩ => ⟨k', fr, (mem_adel.1 h).1⟩
  refine ⟨⟨dx, kp _ _ hi fun e => ?_⟩, kp _ _ M.set M.nsw, hw, fun k' b fr h => ?_, M.nsw, fun b h => M.nf b (sub b h), fun b k1 k2 f1 f2 h1 h2 => M.inj b k1 k2 f1 f2 (mem_adel.1 h1).1 (mem_adel.1 h2).1, adel_nodup M.nd⟩
  · rw [e, M.wait] at hi; cases hi
  · have h' := (mem_adel.1 h).1
    have hf := M.fr k' b fr h'
    refine ⟨kp _ _ hf.1 (M.nf b ⟨k', fr, h'⟩).2, fun x hx => kp _ _ (hf.2 x hx) fun e => ?_⟩
    have := hf.2 x hx
    rw [e, M.wait] at this; cases this
theorem MakeAt.settle (M : MakeAt C H m sp gv s w done W) {done' : List Rec} (kp : KeepP (fun x => x = s) H H') (hs : H' s = some (.dT (dE done'))) : MakeAt C H' m sp gv s w done' W := by
  obtain ⟨dx, hi⟩ := M.ins
  refine ⟨⟨dx, kp _ _ hi fun e => ?_⟩, hs, kp _ _ M.wait (Ne.symm M.nsw), fun k' b fr h => ?_, M.nsw, M.nf, M.inj, M.nd⟩
  · rw [e, M.set] at hi; cases hi
  · have hf := M.fr k' b fr h
    refine ⟨kp _ _ hf.1 (M.nf b ⟨k', fr, h⟩).1, fun x hx => kp _ _ (hf.2 x hx) fun e => ?_⟩
    have := hf.2 x hx
    rw [e, M.set] at this; cases this
end
theorem adel_none {α β : Type} [DecidableEq α] {l : List (α × β)} {k : α} (h : aget l k = none) : adel l k = l := by
  unfold adel
  rw [List.filter_eq_self]
  intro x hx
  exact decide_eq_true fun e => aget_none.1 h (by rw [← e]; exact List.mem_map.2 ⟨x, hx, rfl⟩)
theorem taken_snoc {done : List Rec} {fr : Frt Addr} {i : Nat} {x : Stand × (Addr × List Nat)} (h : fr[i]? = some x) : takenOf done (fr.take (i + 1)) = takenOf done (fr.take i) ++ (if x.1 ∈ akeys done then [] else [x]) := by
  unfold takenOf
  rw [take_succ_of h, List.filter_append]
  by_cases c : x.1 ∈ akeys done
  · rw [if_pos c]; simp [c]
  · rw [if_neg c]; simp [c]
theorem taken_len (done : List Rec) (fr : Frt Addr) : (takenOf done fr).length ≤ fr.length := List.length_filter_le _ _
section
variable {P : Program} {w : World} {K : PySem.W.Frag} {mg : Str → Option Value} {base : Heap} {C : Addr}
def sp_take (C : Addr) : Sp := fun vs H Q _ => ∃ (m sp gv s w : Addr) (done : List Rec) (W : Wait Addr) (far n : Nat), vs = [.ref m, nv far, nv n] ∧ MakeAt C H m sp gv s w done W ∧ done.length ≤ 400000 ∧ (frontAt W far n).length ≤ 400000 ∧ (akeys (frontAt W far n)).Nodup ∧
  ∀ (H' : Hp) (tk : Addr), KeepP (fun x => x = s ∨ x = w) H H' → MakeAt C H' m sp gv s w (done ++ recs far (takenOf done (frontAt W far n))) (adel W (far, n)) → H' tk = some (.dT (frE (takenOf done (frontAt W far n)))) → (∀ x ∈ takenOf done (frontAt W far n), H' x.2.1 = some (.tup (x.2.2.map nv))) → H tk = none → Q (.ref tk) H'
theorem ok_take (B : Own mg) (XM : Ms K mg C) (D : HasM K C "take" "Making.take" s_Making_take) : CalM P w K mg base C 1 "take" ["self", "far", "length"] (sp_take C) := by
  refine D.cal sc_Making_take (fun _ _ _ _ _ _ us hl => match us, hl with | [_, _, _], _ => rfl) (fun vs H Q E h => ?_) (fun f cdv A outer s H vs Q E hr h => ?_)
  · obtain ⟨m, sp, gv, s, w, done, W, far, n, rfl, _⟩ := h; rfl
  · obtain ⟨m, sp, gv, s, w, done, W, far, n, rfl, M, ld, lfr, ndf, q⟩ := h
    obtain ⟨dx, hm⟩ := M.ins
    refine ⟨_, (pss_cons (ps_set (i := 3) sc_Making_take.nd rfl (Or.inl rfl) (pe_bm PySem.F.plainAttrs_dict PySem.F.slot_dict_pop PySem.F.type_dict_pop (L2.DX.mt_popT (hu_of hr)) (pe_fld (pv 0) rfl) (pa_cons (pe_tup (pa_cons (pv 1) (pa_cons (pv 2) pa_nil))) (pa_cons pe_dnewT pa_nil))))
      (pss_cons (ps_set (i := 4) sc_Making_take.nd rfl (Or.inl rfl) pe_dnewT)
      (pss_cons (ps_lock (ps_for PassesOwn.never rfl (pi_keys (pv 3)) (pg_name (i := 5) sc_Making_take.nd rfl (Or.inl rfl))
      (pss_one (ps_if (pt_cmp (pc_dnotin (hu_of hr) (pv 5) (pe_fld (pv 0) rfl))) (pss_cons (ps_dput (hu_of hr) (pe_fld (pv 0) rfl) (pv 5) pe_bl rfl)
      (pss_one (ps_dput (hu_of hr) (pv 4) (pv 5) (pe_dget (hu_of hr) (pv 3) (pv 5) (fun _ _ => rfl)) rfl))) pss_nil))))
      (pss_one (ps_ret (pv 4)))))), ?_⟩
    refine ⟨_, rfl, m, C, dx, _, .ref w, rfl, hm, XM.cl, XM.nWaiting, rfl, .inr (.inr (.inl ⟨rfl, .inr ⟨_, M.wait⟩⟩)), _, rfl, _, rfl, (by show 2 ≤ sizeLine; decide), fun kt nkt => ?_⟩
    intro d0 nd0
    have s1 : Same H (upd H kt (.tup [nv far, nv n])) := Same.new nkt
    have s2 : Same (upd H kt (.tup [nv far, nv n])) (upd (upd H kt (.tup [nv far, nv n])) d0 (.dT [])) := Same.new nd0
    have s12 := s1.trans s2
    have hkt : upd (upd H kt (.tup [nv far, nv n])) d0 (.dT []) kt = some (.tup ((sk (far, n)).map kV)) := by
      rw [s2 _ _ upd_same]; rfl
    have hd0 : upd (upd H kt (.tup [nv far, nv n])) d0 (.dT []) d0 = some (.dT (frE [])) := upd_same
    have nd0H : H d0 = none := s1.free nd0
    generalize upd (upd H kt (.tup [nv far, nv n])) d0 (.dT []) = H1 at s12 hkt hd0 ⊢
    have M1 := M.same s12
    have vW : valV (wtE W) (sk (far, n)) = (aget W (far, n)).map wA := val_enc (ke := sk) (ve := wA) sk_inj _ W
    -- the rest, by the front
    generalize efr : frontAt W far n = fr at lfr ndf q
    have fin : ∀ (H2 : Hp) (fb : Addr), KeepP (fun x => x = w) H H2 → MakeAt C H2 m sp gv s w done (adel W (far, n)) → H2 fb = some (.dT (frE fr)) → (∀ x ∈ fr, H2 x.2.1 = some (.tup (x.2.2.map nv))) → fb ≠ s → fb ≠ w → (∀ b, H2 b = none → H b = none) →
        (tSeq (tAsg tDNewT (gName 4)) (tSeq (tLock (tFor (iKeys (tVar 3)) (gName 5) (tIfS (tB (tDNotIn (tVar 5) (tFld K (tVar 0) "settled"))) (tSeq (sDPut (tFld K (tVar 0) "settled") (tVar 5) (tC (.bl true))) (sDPut (tVar 4) (tVar 5) (tDGet (tVar 3) (tVar 5)))) tNext))) (tRet (tVar 4)))) { nx := fun _ H' => Q .non H', rt := Q } [some (.ref m), some (nv far), some (nv n), some (.ref fb), none, none] H2 := by
      intro H2 fb kp M2 hfb hx nfs nfw back
      intro tk ntk
      have s3 : Same H2 (upd H2 tk (.dT [])) := Same.new ntk
      have nfk : fb ≠ tk := ne_of_none hfb ntk
      have nsk : s ≠ tk := ne_of_none M2.set ntk
      refine ⟨fb, .dT (frE fr), s3 _ _ hfb, trivial, fun od => ?_⟩
      refine ⟨_, rfl, fb, od, rfl, .inr ⟨frE fr, upd_same, ?_⟩⟩
      obtain ⟨dx2, hm2⟩ := M2.ins
      have nms : m ≠ s := ne_of hm2 M2.set (by intro z; cases z)
      have nmf : m ≠ fb := ne_of hm2 hfb (by intro z; cases z)
      refine for_it (walk_keysT (d := fb) (o := od) (kvs := frE fr)) (fun i σ H' => ∃ v5 : Option V, σ = [some (.ref m), some (nv far), some (nv n), some (.ref fb), some (.ref tk), v5] ∧ (∀ x o, H2 x = some o → x ≠ s → x ≠ fb → H' x = some o) ∧ H' fb = some (.frz od (.dT (frE fr))) ∧ H' s = some (.dT (dE (done ++ recs far (takenOf done (fr.take i))))) ∧ H' tk = some (.dT (frE (takenOf done (fr.take i)))))
        ⟨none, rfl, fun x o h n1 n2 => ?_, upd_same, ?_, ?_⟩ (fun i σ H' _ ⟨_, _, _, h, _⟩ => h) ?_ ?_
      · rw [upd_ne n2]; exact s3 _ _ h
      · rw [upd_ne (Ne.symm nfs)]
        have : done ++ recs far (takenOf done (fr.take 0)) = done := by simp [takenOf, recs]
        rw [this]; exact s3 _ _ M2.set
      · rw [upd_ne (Ne.symm nfk)]; exact upd_same
      · rintro i y σ H3 H4 hi ⟨v5, rfl, kp3, hl, hs, htk⟩ ⟨rfl, k, v, qa, gk, rfl, hq⟩
        have hil : i < fr.length := by rw [List.length_map] at hi; exact hi
        have gl : fr[i]? = some fr[i] := List.getElem?_eq_getElem hil
        rw [List.getElem?_map, gl] at gk
        obtain ⟨rfl, rfl⟩ : sk fr[i].1 = k ∧ rA fr[i].2 = v := by
          have := Option.some.inj gk
          exact ⟨congrArg Prod.fst this, congrArg Prod.snd this⟩
        have ml : fr[i] ∈ fr := List.getElem_mem hil
        have hm4 := kp3 _ _ hm2 nms nmf
        have esn := taken_snoc (done := done) gl
        have ltk : (takenOf done (fr.take i)).length ≤ fr.length := by
          refine Nat.le_trans (taken_len _ _) ?_
          rw [List.length_take]; omega
        -- keys of what is taken so far are keys ahead of i
        have nin : fr[i].1 ∉ akeys (takenOf done (fr.take i)) := by
          intro h
          obtain ⟨z, hz, e⟩ := List.mem_map.1 h
          have hz' := (List.mem_filter.1 hz).1
          obtain ⟨j, hj⟩ := List.mem_iff_getElem?.1 hz'
          rw [List.getElem?_take] at hj
          split at hj
          · rename_i lt
            have h1 : (akeys fr)[j]? = some fr[i].1 := by
              show (fr.map fun x => x.1)[j]? = _
              rw [List.getElem?_map, hj]; exact congrArg some e
            have h2 : (akeys fr)[i]? = some fr[i].1 := by
              show (fr.map fun x => x.1)[i]? = _
              rw [List.getElem?_map, gl]; rfl
            exact pairwise_get ndf h1 h2 lt rfl
          · cases hj
        have vS : ∀ D : List Rec, valV (dE D) (sk fr[i].1) = (aget D fr[i].1).map fun _ => V.bl true := fun D => val_enc (ke := sk) (ve := fun _ => V.bl true) sk_inj _ D
        refine ⟨_, rfl, _, rfl, m, C, dx2, _, .ref s, rfl, hm4, XM.cl, XM.nSettled, rfl, s, _, rfl, DGet.t hs hq, ?_⟩
        rw [vS]
        by_cases c : fr[i].1 ∈ akeys done
        · rw [if_pos c, List.append_nil] at esn
          cases eg : aget (done ++ recs far (takenOf done (fr.take i))) fr[i].1 with
          | none =>
            exfalso
            refine aget_none.1 eg ?_
            show fr[i].1 ∈ (done ++ recs far (takenOf done (fr.take i))).map fun x => x.1
            rw [List.map_append]; exact List.mem_append.2 (.inl c)
          | some z =>
            refine ⟨false, rfl, iteF ⟨_, rfl, kp3, hl, ?_, ?_⟩⟩
            · rw [esn]; exact hs
            · rw [esn]; exact htk
        · rw [if_neg c] at esn
          have nD : fr[i].1 ∉ akeys (done ++ recs far (takenOf done (fr.take i))) := by
            intro h
            change fr[i].1 ∈ (done ++ recs far (takenOf done (fr.take i))).map (fun x => x.1) at h
            rw [List.map_append] at h
            rcases List.mem_append.1 h with h | h
            · exact c h
            · rw [List.map_map] at h; exact nin h
          rw [aget_none.2 nD]
          refine ⟨true, rfl, iteT ?_⟩
          -- self.settled[stand] = True
          refine ⟨_, rfl, m, C, dx2, _, .ref s, rfl, hm4, XM.cl, XM.nSettled, rfl, _, rfl, s, _, rfl, DPut.t hs hq (by rw [List.length_map, List.length_append, List.length_map]; exact big (by omega)), ?_⟩
          have ep : putK (dE (done ++ recs far (takenOf done (fr.take i)))) (sk fr[i].1) (V.bl true) = dE (done ++ recs far (takenOf done (fr.take (i + 1)))) := by
            have := put_enc (ke := sk) (ve := fun _ : Wf04.Way => V.bl true) sk_inj (done ++ recs far (takenOf done (fr.take i))) fr[i].1 (far, fr[i].2.2)
            rw [aput_new nD] at this
            rw [esn]
            show _ = dE (done ++ List.map _ (takenOf done (fr.take i) ++ [fr[i]]))
            rw [List.map_append, ← List.append_assoc]
            exact this
          rw [ep]
          have nqs : qa ≠ s := ne_of hq hs (by intro z; cases z)
          have nks : tk ≠ s := Ne.symm nsk
          -- taken[stand] = front[stand]
          refine ⟨_, rfl, _, rfl, fb, .ref fr[i].2.1, rfl, ?_, _, rfl, _, rfl, tk, _, rfl, DPut.t (b := qa) (k := sk fr[i].1) (by rw [upd_ne nks]; exact htk) (by rw [upd_ne nqs]; exact hq) (by rw [List.length_map]; exact big (by omega)), _, rfl, ?_, ?_, ?_, ?_⟩
          · refine .inr ⟨frE fr, sk fr[i].1, qa, .inr ⟨od, by rw [upd_ne nfs]; exact hl⟩, rfl, by rw [upd_ne nqs]; exact hq, ?_⟩
            have := val_enc (ke := sk) (ve := rA) sk_inj fr[i].1 fr
            rw [mem_aget ndf ml] at this
            exact this.symm
          · intro x o h n1 n2
            rw [upd_ne (ne_of_none h ntk), upd_ne n1]; exact kp3 x o h n1 n2
          · rw [upd_ne nfk, upd_ne nfs]; exact hl
          · rw [upd_ne nsk]; exact upd_same
          · rw [upd_same]
            have := put_enc (ke := sk) (ve := rA) sk_inj (takenOf done (fr.take i)) fr[i].1 fr[i].2
            rw [aput_new nin] at this
            rw [show putK (frE (takenOf done (fr.take i))) (sk fr[i].1) (V.ref fr[i].2.1) = _ from this, esn]
      · rintro σ H3 ⟨v5, rfl, kp3, hl, hs, htk⟩
        rw [List.length_map, List.take_length] at hs htk
        refine ⟨hl, _, rfl, q _ tk ?_ ?_ ?_ ?_ (back tk ntk)⟩
        · intro b o h nb
          have h2 : H2 b = some o := kp b o h fun e => nb (.inr e)
          by_cases e : b = fb
          · rw [e, upd_same]; rw [e, hfb] at h2; exact h2
          · rw [upd_ne e]; exact kp3 b o h2 (fun e => nb (.inl e)) e
        · refine M2.settle (fun b o h nb => ?_) (by rw [upd_ne (Ne.symm nfs)]; exact hs)
          by_cases e : b = fb
          · rw [e, upd_same]; rw [e, hfb] at h; exact h
          · rw [upd_ne e]; exact kp3 b o h nb e
        · rw [upd_ne (Ne.symm nfk)]; exact htk
        · intro x hx'
          have h2 := hx x (List.mem_filter.1 hx').1
          have n1 : x.2.1 ≠ fb := ne_of h2 hfb (by intro z; cases z)
          rw [upd_ne n1]
          exact kp3 _ _ h2 (ne_of h2 M2.set (by intro z; cases z)) n1
    refine ⟨w, wtE W, sk (far, n), kt, .ref d0, rfl, rfl, M1.wait, hkt, ?_, ?_⟩
    · intro v hv
      rw [vW] at hv
      cases eg : aget W (far, n) with
      | none => rw [eg] at hv; cases hv
      | some y =>
        rw [eg] at hv
        cases hv
        have my := aget_mem eg
        have mf := M1.fr _ y.1 y.2 my
        have ny := M1.nf y.1 ⟨_, y.2, my⟩
        have ey : fr = y.2 := by
          rw [← efr]; unfold frontAt; rw [eg]
        have ed : dropK (wtE W) (sk (far, n)) = wtE (adel W (far, n)) := drop_enc (ke := sk) (ve := wA) sk_inj W (far, n)
        rw [ed]
        have up : KeepP (fun x => x = w) H1 (upd H1 w (.dT (wtE (adel W (far, n))))) := (KeepP.refl _ _).put (.inl rfl)
        refine fin _ y.1 (fun b o h nb => up b o (s12 b o h) nb) (M1.del up upd_same) (by rw [upd_ne ny.2, ey]; exact mf.1) (fun x hx => ?_) ny.1 ny.2 fun b hb => ?_
        · rw [ey] at hx
          have := mf.2 x hx
          rw [upd_ne (ne_of this M1.wait (by intro z; cases z))]; exact this
        · by_cases e : b = w
          · rw [e, upd_same] at hb; cases hb
          · rw [upd_ne e] at hb; exact s12.free hb
    · intro hv
      rw [vW] at hv
      cases eg : aget W (far, n) with
      | some y => rw [eg] at hv; cases hv
      | none =>
        have ey : fr = [] := by
          rw [← efr]; unfold frontAt; rw [eg]
        have en := adel_none eg
        refine fin H1 d0 (Same.keepP s12) (by rw [en]; exact M1) (by rw [ey]; exact hd0) (fun x hx => by rw [ey] at hx; cases hx) (ne_of_none M.set nd0H).symm (ne_of_none M.wait nd0H).symm fun b hb => s12.free hb
end
end Cr
end
section
set_option Elab.async false
set_option maxRecDepth 100000
set_option maxHeartbeats 2000000
set_option linter.all false
namespace Cr
open PySem PySem.Spec PyProof.Rows L2
section
variable {P : Program} {w : World} {K : PySem.W.Frag} {mg : Str → Option Value} {base : Heap} {C CS : Addr}
def sp_is_end (K : PySem.W.Frag) (CS C : Addr) : Sp := fun vs H Q _ => ∃ (m sp gv s w t dx : Addr) (st : Stand) (rs : List Wf04.Rule) (R : Rows (List Nat)) (F : List (List Nat)) (G : List Nat), vs = [.ref m, .ref t] ∧ H m = some (.ins C dx (mF sp gv s w)) ∧ SpotsOn CS H sp rs R F ∧ H gv = some (.lst (G.map nv)) ∧ H t = some (.tup [nv st.1, nv st.2]) ∧ st.2 < R.length ∧
  ∀ H', Same H H' → Q (.bl (decide (st.1 = G.length) && okAt rs R st.2)) H'
theorem ok_is_end (B : Own mg) (XS : Ss K mg CS) (XM : Ms K mg C) (D : HasM K C "is_end" "Making.is_end" s_Making_is_end) : CalM P w K mg base C 1 "is_end" ["self", "stand"] (sp_is_end K CS C) := by
  refine D.cal sc_Making_is_end (fun _ _ _ _ _ _ us hl => match us, hl with | [_, _], _ => rfl) (fun vs H Q E h => ?_) (fun f cdv A outer s H vs Q E hr h => ?_)
  · obtain ⟨m, sp, gv, s, w, t, dx, st, rs, R, F, G, rfl, _⟩ := h; rfl
  · obtain ⟨m, sp, gv, s, w, t, dx, st, rs, R, F, G, rfl, hm, S, hg, ht, lt, q⟩ := h
    refine ⟨_, (pss_one (ps_ret (pe_and (pe_cmpR op_eq (pe_ix ix_tup (pv 1) pe_int (fun _ _ => rfl)) (pe_callB call_len_seq (by rfl) B.len (by decide +kernel) (pa_cons (pe_fld (pv 0) rfl) pa_nil)) (nomark _)) (pe_one (pe_cmpR (op_eqN hr.units) (pe_ix ix_list (pe_fld (pe_fld (pv 0) rfl) rfl) (pe_ix ix_tup (pv 1) pe_int (fun _ _ => rfl)) (fun _ _ => rfl)) (pe_lst pa_nil) (nomark _)))))), ?_⟩
    refine ⟨_, rfl, t, _, 0, nv st.1, rfl, rfl, SqT.of ht, rfl, _, rfl, m, C, dx, _, .ref gv, rfl, hm, XM.cl, XM.nGiven, rfl, gv, _, rfl, .inl (SqL.of hg), rfl, _, rfl, ?_⟩
    have e1 : decide (nv st.1 = V.int (((G.map nv).length : Nat) : Int)) = decide (st.1 = G.length) := by
      rw [List.length_map]
      by_cases c : st.1 = G.length
      · rw [decide_eq_true c, c]; exact decide_eq_true rfl
      · rw [decide_eq_false c]; refine decide_eq_false fun e => c ?_
        have := V.int.inj e; omega
    rw [e1]
    cases c : decide (st.1 = G.length) with
    | false =>
      rw [c] at q
      exact iteF (q H (Same.refl H))
    | true =>
      rw [c] at q
      obtain ⟨wa, ba, fa, ws, bs, fs, SA⟩ := S
      obtain ⟨dx2, l0, a1, a2, hp⟩ := SA.ins
      have gR : R[st.2]? = some R[st.2] := List.getElem?_eq_getElem lt
      obtain ⟨b, gb, hb⟩ := SA.eB.get gR
      refine iteT ⟨_, rfl, m, C, dx, _, .ref sp, rfl, hm, XM.cl, XM.nSpots, rfl, sp, CS, dx2, _, .ref ba, rfl, hp, XS.cl, XS.nBroken, rfl, _, rfl, t, _, 1, nv st.2, rfl, rfl, SqT.of ht, rfl, ba, _, (st.2 : Int), .ref b, rfl, rfl, SqL.of SA.brk, atI_nat (by rw [List.getElem?_map, gb]; rfl), Nat.zero_le _, fun g ng => ?_⟩
      have sg : Same H (upd H g (.lst [])) := Same.new ng
      refine ⟨b, g, pbrk rs R[st.2].1, [], rfl, rfl, SqL.of (sg _ _ hb), SqL.of upd_same, ?_⟩
      rw [show okAt rs R st.2 = decide (pbrk rs R[st.2].1 = []) from okAt_is gR, Bool.true_and] at q
      exact q _ sg
end
/-- a row with one step more -/
theorem cat_one {K : PySem.W.Frag} {H1 : Hp} {a : Addr} {r : List Nat} {c : Nat} {Q : VK} (ha : H1 a = some (.tup (r.map nv))) (lr : r.length ≤ 900000) (k : ∀ H2 u, Same H1 H2 → H2 u = some (.tup ((r ++ [c]).map nv)) → Q (.ref u) H2) (t1 : Addr) (nt : H1 t1 = none) : rCatA K (.ref a) (.ref t1) (upd H1 t1 (.tup [.int c])) Q := by
  have st : Same H1 (upd H1 t1 (.tup [.int c])) := Same.new nt
  refine ⟨a, t1, r.map nv, [.int c], rfl, rfl, SqT.of (st _ _ ha), SqT.of upd_same, ?_, fun e => ?_, (fun _ e => by cases e), fun ne _ c5 nc => ?_⟩
  · rw [List.length_map]; exact Nat.le_of_lt (big (by simp only [List.length_cons, List.length_nil]; omega))
  · have e0 : r = [] := by simpa using e
    exact k _ t1 st (by rw [upd_same, e0]; rfl)
  · exact k _ c5 (st.trans (Same.new nc)) (by rw [upd_same, List.map_append]; rfl)
/-- along the puts of one stand -/
structure GoSt (C : Addr) (H : Hp) (m sp gv s w : Addr) (done : List Rec) (W : Wait Addr) (H1 : Hp) (W1 : Wait Addr) (ms : List Rec) : Prop where
  kp : KeepP (fun x => x = w ∨ Front W x) H H1
  mak : MakeAt C H1 m sp gv s w done W1
  pt : PutsTo W ms W1
  fr : ∀ x, Front W1 x → Front W x ∨ H x = none
  sm : Small (800000 + ms.length) W1
theorem Small.mono {N N' : Nat} {W : Wait Addr} (h : Small N W) (l : N ≤ N') : Small N' W := ⟨Nat.le_trans h.1 l, fun k b fr q => Nat.le_trans (h.2 k b fr q) l⟩
theorem GoSt.put {C : Addr} {H : Hp} {m sp gv s w : Addr} {done : List Rec} {W : Wait Addr} {H1 : Hp} {W1 : Wait Addr} {ms : List Rec} (G : GoSt C H m sp gv s w done W H1 W1 ms) {H2 : Hp} (e : Same H1 H2) (hl : ms.length < 1000) {mv : Rec} {t a : Addr}
    (ht : H2 t = some (.tup [nv mv.1.1, nv mv.1.2])) (ha : H2 a = some (.tup (mv.2.2.map nv))) {Q : VK} {E : XK} (k : ∀ H3 W3, GoSt C H m sp gv s w done W H3 W3 (ms ++ [mv]) → Q .non H3) : sp_put C [.ref m, nv mv.2.1, .ref t, .ref a] H2 Q E := by
  refine ⟨m, sp, gv, s, w, done, W1, mv.2.1, mv.1, t, a, mv.2.2, rfl, G.mak.same e, G.sm.mono (by omega), ht, ha, fun H3 b kp mk fr => ?_⟩
  refine k H3 _ ⟨?_, mk, G.pt.snoc mv b a, ?_, ?_⟩
  · intro x o h n
    refine kp x o (e _ _ (G.kp x o h n)) fun q => ?_
    rcases q with q | q
    · exact n (.inl q)
    · rcases G.fr x q with q | q
      · exact n (.inr q)
      · rw [h] at q; cases q
  · intro x hx
    rcases fr x hx with q | q
    · exact G.fr x q
    · by_cases c : Front W x
      · exact .inl c
      · right
        cases h : H x with
        | none => rfl
        | some o =>
          exfalso
          by_cases ew : x = w
          · rw [ew, (G.mak.same e).wait] at q; cases q
          · rw [e _ _ (G.kp x o h fun z => z.elim ew c)] at q; cases q
  · have := G.sm.put mv.2.1 mv.1 b a mv.2.2
    rw [List.length_append, List.length_singleton]
    exact this
section
variable {P : Program} {w : World} {K : PySem.W.Frag} {mg : Str → Option Value} {base : Heap} {C CS : Addr}
def sp_mgo (CS C : Addr) : Sp := fun vs H Q _ => ∃ (m sp gv s w : Addr) (done : List Rec) (W : Wait Addr) (far : Nat) (st : Stand) (t a : Addr) (r : List Nat) (rs : List Wf04.Rule) (R : Rows (List Nat)) (F : List (List Nat)) (G : List Nat), vs = [.ref m, nv far, .ref t, .ref a] ∧ MakeAt C H m sp gv s w done W ∧ Small 800000 W ∧
  SpotsOn CS H sp rs R F ∧ Spots rs R F ∧ H gv = some (.lst (G.map nv)) ∧ Row G ∧ H t = some (.tup [nv st.1, nv st.2]) ∧ H a = some (.tup (r.map nv)) ∧ st.2 < R.length ∧ r.length ≤ 900000 ∧
  ∀ (H' : Hp) (W' : Wait Addr), GoSt C H m sp gv s w done W H' W' (moves G (nxt F) st far r) → Q .non H'
theorem ok_mgo (T : Con mg) (B : Own mg) (XS : Ss K mg CS) (XM : Ms K mg C) (D : HasM K C "go_further" "Making.go_further" s_Making_go_further) (M_put : CalM P w K mg base C 1 "put" ["self", "far", "stand", "made"] (sp_put C)) : CalM P w K mg base C 2 "go_further" ["self", "far", "stand", "made"] (sp_mgo CS C) := by
  refine D.cal sc_Making_go_further (fun _ _ _ _ _ _ us hl => match us, hl with | [_, _, _, _], _ => rfl) (fun vs H Q E h => ?_) (fun f cdv A outer s H vs Q E hr h => ?_)
  · obtain ⟨m, sp, gv, s, w, done, W, far, st, t, a, r, rs, R, F, G, rfl, _⟩ := h; rfl
  · obtain ⟨m, sp, gv, s, w, done, W, far, st, t, a, r, rs, R, F, G, rfl, M, sml, S, Z, hg, rG, ht, ha, lt, lr, q⟩ := h
    obtain ⟨dx, hm⟩ := M.ins
    obtain ⟨wa, ba, fa, ws, bs, fs, SA⟩ := S
    obtain ⟨dx2, l0, a1, a2, hp⟩ := SA.ins
    obtain ⟨ll, gF, l5, hr5⟩ := spots_further Z lt
    obtain ⟨fb, gfb, hfb⟩ := SA.eF.get gF
    refine ⟨_, (pss_cons (ps_set (i := 4) sc_Making_go_further.nd rfl (Or.inl rfl) (pe_ix ix_tup (pv 2) pe_int (fun _ _ => rfl)))
      (pss_cons (ps_set (i := 5) sc_Making_go_further.nd rfl (Or.inl rfl) (pe_ix ix_list (pe_fld (pe_fld (pv 0) rfl) rfl) (pe_ix ix_tup (pv 2) pe_int (fun _ _ => rfl)) (fun _ _ => rfl)))
      (pss_cons (ps_if (pt_cmpR op_lt (pv 4) (pe_callB call_len_seq (by rfl) B.len (by decide +kernel) (pa_cons (pe_fld (pv 0) rfl) pa_nil)) (nomark _)) (pss_cons (ps_set (i := 6) sc_Making_go_further.nd rfl (Or.inl rfl) (pe_ix ix_list (pe_fld (pv 0) rfl) (pv 4) (fun _ _ => rfl)))
      (pss_cons (ps_expr (pe_calM (pv 0) XM.cl M_put (hr.mono (by decide)) (pa_cons (pv 1) (pa_cons (pe_tup (pa_cons (pe_op op_add (pv 4) pe_int) (pa_cons (pe_ix ix_list (pv 5) (pv 6) (fun _ _ => rfl)) pa_nil))) (pa_cons (pe_op op_catA (pv 3) (pe_tup (pa_cons (pv 6) pa_nil))) pa_nil)))))
      (pss_one (ps_expr (pe_calM (pv 0) XM.cl M_put (hr.mono (by decide)) (pa_cons (pe_op op_add (pv 1) pe_int) (pa_cons (pe_tup (pa_cons (pe_op op_add (pv 4) pe_int) (pa_cons (pe_ix ix_tup (pv 2) pe_int (fun _ _ => rfl)) pa_nil))) (pa_cons (pv 3) pa_nil)))))))) pss_nil)
      (pss_one (ps_for PassesOwn.never rfl (pi_range1 (by rfl) B.range (pa_cons (pe_num T.STEPS) pa_nil)) (pg_name (i := 7) sc_Making_go_further.nd rfl (Or.inl rfl))
      (pss_one (ps_expr (pe_calM (pv 0) XM.cl M_put (hr.mono (by decide)) (pa_cons (pe_op op_add (pv 1) pe_int) (pa_cons (pe_tup (pa_cons (pv 4) (pa_cons (pe_ix ix_list (pv 5) (pv 7) (fun _ _ => rfl)) pa_nil))) (pa_cons (pe_op op_catA (pv 3) (pe_tup (pa_cons (pv 7) pa_nil))) pa_nil))))))))))), ?_⟩
    refine ⟨_, rfl, t, _, 0, nv st.1, rfl, rfl, SqT.of ht, rfl, ?_⟩
    refine ⟨_, rfl, m, C, dx, _, .ref sp, rfl, hm, XM.cl, XM.nSpots, rfl, sp, CS, dx2, _, .ref fa, rfl, hp, XS.cl, XS.nFurther, rfl, _, rfl, t, _, 1, nv st.2, rfl, rfl, SqT.of ht, rfl, fa, _, (st.2 : Int), .ref fb, rfl, rfl, SqL.of SA.fur, atI_nat (by rw [List.getElem?_map, gfb]; rfl), ?_⟩
    refine ⟨_, rfl, _, rfl, m, C, dx, _, .ref gv, rfl, hm, XM.cl, XM.nGiven, rfl, gv, _, rfl, .inl (SqL.of hg), _, _, rfl, rfl, _, rfl, ?_⟩
    have nx5 : ∀ c, c < 5 → ll[c]? = some (nxt F st.2 c) := by
      intro c hc
      unfold nxt
      rw [List.getD_eq_getElem?_getD (l := F), gF]
      show ll[c]? = some (ll.getD c 0)
      rw [List.getD_eq_getElem?_getD, List.getElem?_eq_getElem (by omega : c < ll.length)]; rfl
    have stay : ∀ {H1 : Hp} {b : Addr} {o : HO}, KeepP (fun x => x = w ∨ Front W x) H H1 → H b = some o → (∀ kvs, o ≠ .dT kvs) → H1 b = some o := fun kp h n => M.other (fun b q => q.elim (fun e => .inr (.inl e)) fun e => .inr (.inr e)) kp h n
    -- the steps put in
    have fin : ∀ (H1 : Hp) (W1 : Wait Addr) (pre : List Rec) (v6 : Option V), pre.length ≤ 2 → GoSt C H m sp gv s w done W H1 W1 pre → pre ++ (List.range 5).map (fun c => ((st.1, nxt F st.2 c), (far + 1, r ++ [c]))) = moves G (nxt F) st far r →
        (tFor (iRng1 (tCons (tC (V.int 5)) tNil)) (gName 7) (tDrop (tMeth C "put" (sp_put C) [] E0 (tVar 0) (tCons (tOp (rI0 fun i j => V.int (i + j)) (tVar 1) (tC (V.int 1))) (tCons (tTup (tCons (tVar 4) (tCons (tOp (rIxL K) (tVar 5) (tVar 7)) tNil))) (tCons (tOp (rCatA K) (tVar 3) (tTup (tCons (tVar 7) tNil))) tNil)))))) { nx := fun _ H' => Q .non H', rt := Q }
        [some (.ref m), some (nv far), some (.ref t), some (.ref a), some (nv st.1), some (.ref fb), v6, none] H1 := by
      intro H1 W1 pre v6 lpre g1 epre
      refine ⟨5, rfl, by decide, by decide, for_range (lo := 0) (n := 5) (fun j σ H' => ∃ (v7 : Option V) (W' : Wait Addr), σ = [some (.ref m), some (nv far), some (.ref t), some (.ref a), some (nv st.1), some (.ref fb), v6, v7] ∧ GoSt C H m sp gv s w done W H' W' (pre ++ (List.range j).map fun c => ((st.1, nxt F st.2 c), (far + 1, r ++ [c])))) ⟨none, W1, rfl, by simpa using g1⟩ ?_ ?_⟩
      · rintro j σ H2 hj ⟨v7, W2, rfl, g2⟩
        have ej : (0 : Int) + (j : Nat) = (j : Int) := Int.zero_add _
        rw [ej]
        have hm2 := stay g2.kp hm (fun _ z => by cases z)
        have hf2 := stay g2.kp hfb (fun _ z => by cases z)
        have ha2 := stay g2.kp ha (fun _ z => by cases z)
        refine ⟨_, rfl, m, dx, _, rfl, hm2, rfl, _, rfl, _, _, rfl, rfl, _, rfl, _, rfl, _, rfl, fb, _, (j : Int), nv (nxt F st.2 j), rfl, rfl, SqL.of hf2, atI_nat (by rw [List.getElem?_map, nx5 j hj]; rfl), (by show 2 ≤ sizeLine; decide), fun kt nkt => ?_⟩
        have sk1 : Same H2 (upd H2 kt (.tup [nv st.1, nv (nxt F st.2 j)])) := Same.new nkt
        refine ⟨_, rfl, _, rfl, (by show 1 ≤ sizeLine; decide), fun t1 nt1 => ?_⟩
        refine cat_one (sk1 _ _ ha2) lr (fun H3 u s3 hu => ?_) t1 nt1
        dsimp only [tNil, List.cons_append, List.nil_append]
        refine g2.put (mv := ((st.1, nxt F st.2 j), (far + 1, r ++ [j]))) (sk1.trans s3) ?_ (s3 _ _ upd_same) hu fun H4 W4 g4 => ?_
        · rw [List.length_append, List.length_map, List.length_range]; omega
        · refine ⟨_, W4, rfl, ?_⟩
          rw [List.range_succ, List.map_append, ← List.append_assoc]
          exact g4
      · rintro σ H2 ⟨v7, W2, rfl, g2⟩
        rw [epre] at g2
        exact q H2 W2 g2
    have g0 : GoSt C H m sp gv s w done W H W [] := ⟨KeepP.refl _ _, M, .nil W, fun x h => .inl h, sml⟩
    have e1 : decide ((st.1 : Int) < ((G.map nv).length : Nat)) = decide (st.1 < G.length) := by rw [List.length_map]; simp
    rw [e1]
    by_cases c : st.1 < G.length
    · rw [decide_eq_true c]
      refine iteT ?_
      have gc : G[st.1]? = some G[st.1] := List.getElem?_eq_getElem c
      have hc5 : G[st.1] < 5 := rG _ (List.getElem_mem c)
      have em : [((st.1 + 1, nxt F st.2 G[st.1]), (far, r ++ [G[st.1]])), ((st.1 + 1, st.2), (far + 1, r))] ++ (List.range 5).map (fun c => ((st.1, nxt F st.2 c), (far + 1, r ++ [c]))) = moves G (nxt F) st far r := by
        unfold moves; rw [gc]
      generalize G[st.1] = kc at gc hc5 em
      refine ⟨_, rfl, m, C, dx, _, .ref gv, rfl, hm, XM.cl, XM.nGiven, rfl, _, rfl, gv, _, (st.1 : Int), nv kc, rfl, rfl, SqL.of hg, atI_nat (by rw [List.getElem?_map, gc]; rfl), ?_⟩
      -- the step kept
      refine ⟨_, rfl, m, dx, _, rfl, hm, rfl, _, rfl, _, rfl, _, _, rfl, rfl, _, rfl, _, rfl, fb, _, (kc : Int), nv (nxt F st.2 kc), rfl, rfl, SqL.of hfb, atI_nat (by rw [List.getElem?_map, nx5 kc hc5]; rfl), (by show 2 ≤ sizeLine; decide), fun kt nkt => ?_⟩
      have sk1 : Same H (upd H kt (.tup [.int ((st.1 : Int) + 1), nv (nxt F st.2 kc)])) := Same.new nkt
      refine ⟨_, rfl, _, rfl, (by show 1 ≤ sizeLine; decide), fun t1 nt1 => ?_⟩
      refine cat_one (sk1 _ _ ha) lr (fun H3 u s3 hu => ?_) t1 nt1
      dsimp only [tNil, List.cons_append, List.nil_append]
      refine g0.put (mv := ((st.1 + 1, nxt F st.2 kc), (far, r ++ [kc]))) (sk1.trans s3) (by decide) (s3 _ _ upd_same) hu fun H4 W4 g4 => ?_
      -- the step left out
      have hm4 := stay g4.kp hm (fun _ z => by cases z)
      have ha4 := stay g4.kp ha (fun _ z => by cases z)
      have ht4 := stay g4.kp ht (fun _ z => by cases z)
      refine ⟨_, rfl, m, dx, _, rfl, hm4, rfl, _, rfl, _, _, rfl, rfl, _, rfl, _, _, rfl, rfl, _, rfl, t, _, 1, nv st.2, rfl, rfl, SqT.of ht4, rfl, (by show 2 ≤ sizeLine; decide), fun kt2 nkt2 => ?_⟩
      have sk2 : Same H4 (upd H4 kt2 (.tup [.int ((st.1 : Int) + 1), nv st.2])) := Same.new nkt2
      refine ⟨_, rfl, ?_⟩
      dsimp only [tNil, List.cons_append, List.nil_append]
      refine g4.put (mv := ((st.1 + 1, st.2), (far + 1, r))) sk2 (by simp) upd_same (sk2 _ _ ha4) fun H5 W5 g5 => ?_
      exact fin H5 W5 _ _ (by simp) g5 em
    · rw [decide_eq_false c]
      refine iteF ?_
      refine fin H W [] none (Nat.zero_le _) g0 ?_
      unfold moves
      rw [List.getElem?_eq_none (by omega)]
end
end Cr
end
section
set_option Elab.async false
set_option maxRecDepth 100000
set_option maxHeartbeats 2000000
set_option linter.all false
namespace Cr
open PySem PySem.Spec PyProof.Rows L2
abbrev spt (rs : List Wf04.Rule) (R : Rows (List Nat)) : List Nat → Nat := spot (preadAll rs) (pstart rs) R
abbrev MIx (rs : List Wf04.Rule) (R : Rows (List Nat)) (F : List (List Nat)) (G : List Nat) (f n : Nat) (done open_ : List Rec) (W : Wait Addr) : Prop := MI G (spt rs R) (nxt F) (okAt rs R) f n done open_ W
/-- what is no dict stands -/
def KeepN (H H' : Hp) : Prop := ∀ b o, H b = some o → (∀ kvs, o ≠ .dT kvs) → H' b = some o
theorem KeepN.trans {H H1 H2 : Hp} (a : KeepN H H1) (b : KeepN H1 H2) : KeepN H H2 := fun c o h n => b c o (a c o h n) n
theorem Same.keepN {H H' : Hp} (s : Same H H') : KeepN H H' := fun b o h _ => s b o h
theorem KeepN.each {α : Type} {H H' : Hp} {ts : List α} {as : List Addr} {o : α → HO} (k : KeepN H H') (n : ∀ x kvs, o x ≠ .dT kvs) (E : Each H ts as o) : Each H' ts as o := ⟨E.1, fun i x a h1 h2 => k _ _ (E.2 i x a h1 h2) (n x)⟩
theorem SpotsOn.keepN {C : Addr} {H H' : Hp} {p : Addr} {rs : List Wf04.Rule} {R : Rows (List Nat)} {F : List (List Nat)} (S : SpotsOn C H p rs R F) (k : KeepN H H') : SpotsOn C H' p rs R F := by
  obtain ⟨wa, ba, fa, ws, bs, fs, h⟩ := S
  obtain ⟨dx, l, a1, a2, hi⟩ := h.ins
  exact ⟨wa, ba, fa, ws, bs, fs, ⟨dx, l, a1, a2, k _ _ hi fun _ z => by cases z⟩, k _ _ h.row (fun _ z => by cases z), k _ _ h.brk (fun _ z => by cases z), k _ _ h.fur (fun _ z => by cases z), k.each (fun _ _ z => by cases z) h.eW, k.each (fun _ _ z => by cases z) h.eB, k.each (fun _ _ z => by cases z) h.eF⟩
theorem MakeAt.keepN {C : Addr} {H H' : Hp} {m sp gv s w : Addr} {done : List Rec} {W : Wait Addr} (M : MakeAt C H m sp gv s w done W) {p : Addr → Prop} (hp : ∀ b, p b → b = s ∨ b = w ∨ Front W b) (k : KeepP p H H') : KeepN H H' := fun b o h n => M.other hp k h n
/-- a dict that is none of its own is locked, or anything else changes beside it -/
theorem MakeAt.beside {C : Addr} {H H' : Hp} {m sp gv s w : Addr} {done : List Rec} {W : Wait Addr} (M : MakeAt C H m sp gv s w done W) {tk : Addr} {kvs : List (List Key × V)} (h : H tk = some (.dT kvs)) (kp : KeepP (fun x => x = tk) H H') (n1 : tk ≠ s) (n2 : tk ≠ w) (n3 : ¬ Front W tk) : MakeAt C H' m sp gv s w done W := by
  obtain ⟨dx, hi⟩ := M.ins
  refine ⟨⟨dx, kp _ _ hi fun e => ?_⟩, kp _ _ M.set (Ne.symm n1), kp _ _ M.wait (Ne.symm n2), fun k b fr hb => ?_, M.nsw, M.nf, M.inj, M.nd⟩
  · rw [e, h] at hi; cases hi
  · have hf := M.fr k b fr hb
    refine ⟨kp _ _ hf.1 fun e => n3 (e ▸ ⟨k, fr, hb⟩), fun x hx => kp _ _ (hf.2 x hx) fun e => ?_⟩
    have := hf.2 x hx
    rw [e, h] at this; cases this
def endsOf (rs : List Wf04.Rule) (R : Rows (List Nat)) (G : List Nat) (l : Frt Addr) : Frt Addr := l.filter fun x => decide (x.1.1 = G.length) && okAt rs R x.1.2
theorem ends_mem {rs : List Wf04.Rule} {R : Rows (List Nat)} {G : List Nat} {l : Frt Addr} {x : Stand × (Addr × List Nat)} : x ∈ endsOf rs R G l ↔ x ∈ l ∧ IsEnd G (okAt rs R) x.1 := by
  unfold endsOf IsEnd
  rw [List.mem_filter, Bool.and_eq_true, decide_eq_true_eq]
section
variable {rs : List Wf04.Rule} {R : Rows (List Nat)} {F : List (List Nat)} {G : List Nat} {f n : Nat} {done open_ : List Rec} {W : Wait Addr}
theorem mi_small (Z : Spots rs R F) (lR : R.length ≤ 10000) (lG : G.length ≤ 8) (lf : f ≤ 100000) (I : MIx rs R F G f n done open_ W) (hn : Near W (f + 1)) : Small 800000 W := by
  have hN : ∀ w, Row w → spt rs R w < R.length := fun w h => Z.lt h
  have h9 : (G.length + 1) * R.length ≤ 90000 := by
    have : (G.length + 1) * R.length ≤ 9 * 10000 := Nat.mul_le_mul (by omega) lR
    omega
  refine ⟨by have := I.wait_few hn; omega, fun k b fr h => ?_⟩
  obtain ⟨d, m⟩ := k
  have := I.front_few hN d m
  rw [mem_frontAt I.nd h] at this
  omega
theorem mi_few (Z : Spots rs R F) (lR : R.length ≤ 10000) (lG : G.length ≤ 8) (I : MIx rs R F G f n done open_ W) : done.length ≤ 90000 ∧ (frontAt W f n).length ≤ 90000 := by
  have hN : ∀ w, Row w → spt rs R w < R.length := fun w h => Z.lt h
  have h9 : (G.length + 1) * R.length ≤ 9 * 10000 := Nat.mul_le_mul (by omega) lR
  exact ⟨Nat.le_trans (I.done_few hN) (by omega), Nat.le_trans (I.front_few hN f n) (by omega)⟩
end
section
variable {P : Program} {w : World} {K : PySem.W.Frag} {mg : Str → Option Value} {base : Heap} {C CS : Addr}
def sp_nol (CS C : Addr) : Sp := fun vs H Q _ => ∃ (m sp gv s w : Addr) (done : List Rec) (W : Wait Addr) (f n : Nat) (rs : List Wf04.Rule) (R : Rows (List Nat)) (F : List (List Nat)) (G : List Nat), vs = [.ref m, nv f, nv n] ∧ MakeAt C H m sp gv s w done W ∧ SpotsOn CS H sp rs R F ∧ Spots rs R F ∧ R.length ≤ 10000 ∧
  H gv = some (.lst (G.map nv)) ∧ Row G ∧ G.length ≤ 8 ∧ f ≤ 100000 ∧ MIx rs R F G f n done [] W ∧ Near W (f + 1) ∧
  (∀ (H' : Hp) (done' : List Rec) (W' : Wait Addr), KeepP (fun x => x = s ∨ x = w ∨ Front W x) H H' → MakeAt C H' m sp gv s w done' W' → MIx rs R F G f (n + 1) done' [] W' → Near W' (f + 1) → done.length ≤ done'.length → (Near W f → Near W' f ∨ done.length < done'.length) → (∀ x, Front W' x → Front W x ∨ H x = none) → Q .non H') ∧
  (∀ (H' : Hp) (q : Addr) (r : List Nat), KeepP (fun x => x = s ∨ x = w ∨ Front W x) H H' → H' q = some (.tup (r.map nv)) → Nearest (fun w => okAt rs R (spt rs R w) = true) G (some (f, r)) → r.length ≤ 200000 → Q (.ref q) H')
theorem ok_nol (B : Own mg) (XS : Ss K mg CS) (XM : Ms K mg C) (D : HasM K C "nearest_of_length" "Making.nearest_of_length" s_Making_nearest_of_length) (M_take : CalM P w K mg base C 1 "take" ["self", "far", "length"] (sp_take C)) (M_is_end : CalM P w K mg base C 1 "is_end" ["self", "stand"] (sp_is_end K CS C))
    (M_go_further : CalM P w K mg base C 2 "go_further" ["self", "far", "stand", "made"] (sp_mgo CS C)) : CalM P w K mg base C 3 "nearest_of_length" ["self", "far", "length"] (sp_nol CS C) := by
  refine D.cal sc_Making_nearest_of_length (fun _ _ _ _ _ _ us hl => match us, hl with | [_, _, _], _ => rfl) (fun vs H Q E h => ?_) (fun fn cdv A outer s H vs Q E hr h => ?_)
  · obtain ⟨m, sp, gv, s, w, done, W, f, n, rs, R, F, G, rfl, _⟩ := h; rfl
  · obtain ⟨m, sp, gv, s, w, done, W, f, n, rs, R, F, G, rfl, M, S, Z, lR, hg, rG, lG, lf, I, nr, q1, q2⟩ := h
    obtain ⟨dx, hm⟩ := M.ins
    have N := spots_net Z rG
    have fews := mi_few Z lR lG I
    refine ⟨_, (pss_cons (ps_set (i := 3) sc_Making_nearest_of_length.nd rfl (Or.inr rfl) (pe_calM (pv 0) XM.cl M_take (hr.mono (by decide)) (pa_cons (pv 1) (pa_cons (pv 2) pa_nil))))
      (pss_cons (ps_lock (ps_setLc (i := 4) (own := [("stand", 5)]) rfl sc_Making_nearest_of_length.nd rfl rfl (sw_true rfl rfl rfl (by decide +kernel)) (pi_keys (pv 3)) (blkOk_by (own := [("stand", 5)]) (N := ["self", "far", "length", "taken", "ends", "stand"]) (sc := defScope s_Making_nearest_of_length) (by decide +kernel)) (fun _ _ _ _ _ => by exact (pg_name (i := 5) sc_Making_nearest_of_length.nd rfl (Or.inl rfl))) (fun _ _ _ _ _ => (pts_one (pt_val (pe_calM (pv 0) XM.cl M_is_end (hr.mono (by decide)) (pa_cons (pv 5) pa_nil))))) (fun _ _ _ _ _ => (pe_dget (hu_of hr) (pv 3) (pv 5) (fun _ _ => rfl)))))
      (pss_cons (ps_if (pt_cmpR op_gt (pe_callB call_len_seq (by rfl) B.len (by decide +kernel) (pa_cons (pv 4) pa_nil)) pe_int (nomark _)) (pss_one (ps_ret (pe_callB (cr_minT rfl (hu_of hr)) (by rfl) B.min (by decide +kernel) (pa_cons (pv 4) pa_nil)))) pss_nil)
      (pss_cons (ps_lock (ps_for PassesOwn.never rfl (pi_keys (pv 3)) (pg_name (i := 5) sc_Making_nearest_of_length.nd rfl (Or.inl rfl))
      (pss_one (ps_expr (pe_calM (pv 0) XM.cl M_go_further (hr.mono (by decide)) (pa_cons (pv 1) (pa_cons (pv 5) (pa_cons (pe_dget (hu_of hr) (pv 3) (pv 5) (fun _ _ => rfl)) pa_nil))))))))
      (pss_one (ps_ret pe_non)))))), ?_⟩
    -- taken = self.take(far, length)
    refine ⟨_, rfl, m, dx, _, rfl, hm, rfl, _, rfl, _, rfl, m, sp, gv, s, w, done, W, f, n, rfl, M, by omega, by omega, I.front_nodup f n, fun H1 tk kp1 M1 htk hx1 ntk => ?_⟩
    have kn1 : KeepN H H1 := M.keepN (fun b h => h.elim .inl fun e => .inr (.inl e)) kp1
    have good : ∀ x ∈ takenOf done (frontAt W f n), Fair G (spt rs R) x.1 f x.2.2 ∧ x.2.2.length = n := by
      intro x hx
      have h1 := (List.mem_filter.1 hx).1
      obtain ⟨b, hb⟩ := frontAt_mem h1
      obtain ⟨st, a, r⟩ := x
      exact I.good _ _ _ _ _ _ _ hb h1
    have ndT : (akeys (takenOf done (frontAt W f n))).Nodup := (I.front_nodup f n).sublist (List.filter_sublist.map _)
    have lT : (takenOf done (frontAt W f n)).length ≤ 90000 := Nat.le_trans (taken_len _ _) fews.2
    have found := fun (st : Stand) (a : Addr) (r : List Nat) => I.found N (st := st) (a := a) (w := r)
    have tookI := I.take (ok := okAt rs R)
    have empty : takenOf done (frontAt W f n) = [] → Near W f → Near (adel W (f, n)) f := fun _ h => h.del _
    generalize takenOf done (frontAt W f n) = tkn at M1 htk hx1 good ndT lT found tookI empty
    have slt : ∀ x ∈ tkn, x.1.2 < R.length := fun x hx => by
      have g := (good x hx).1
      rw [← g.2.2.2]; exact Z.lt g.2.2.1
    have slen : ∀ x ∈ tkn, x.2.2.length ≤ 200000 := fun x hx => by
      have := (good x hx).1.len
      omega
    obtain ⟨dx1, hm1⟩ := M1.ins
    have S1 := S.keepN kn1
    have hg1 := kn1 _ _ hg (fun _ z => by cases z)
    have ntks : tk ≠ s := (ne_of_none M.set ntk).symm
    have ntkw : tk ≠ w := (ne_of_none M.wait ntk).symm
    have subF : ∀ x, Front (adel W (f, n)) x → Front W x := fun x ⟨k, fr, h⟩ => ⟨k, fr, (mem_adel.1 h).1⟩
    have ntkF : ∀ x, Front W x → x ≠ tk := fun x h e => by
      obtain ⟨kvs, hk⟩ := M.front h
      rw [e, ntk] at hk; cases hk
    -- ends = [..]
    refine ⟨tk, .dT (frE tkn), htk, trivial, fun od => ?_⟩
    have knL : KeepN H1 (upd H1 tk (.frz od (.dT (frE tkn)))) := fun b o h nn => by
      have ne : b ≠ tk := fun e => by rw [e, htk] at h; cases h; exact nn _ rfl
      rw [upd_ne ne]; exact h
    refine ⟨_, rfl, tk, od, rfl, .inr ⟨frE tkn, upd_same, fun D nD => ?_⟩⟩
    have nDt : D ≠ tk := fun e => by rw [e, upd_same] at nD; cases nD
    have nD1 : H1 D = none := by rw [upd_ne nDt] at nD; exact nD
    have nDH : H D = none := by
      cases e : H D with
      | none => rfl
      | some o =>
        exfalso
        by_cases c1 : D = s
        · rw [c1, M1.set] at nD1; cases nD1
        · by_cases c2 : D = w
          · rw [c2, M1.wait] at nD1; cases nD1
          · rw [kp1 D o e fun z => z.elim c1 c2] at nD1; cases nD1
    refine lc_it (walk_keysT (d := tk) (o := od) (kvs := frE tkn)) (fun i H' => (∀ b o, upd H1 tk (.frz od (.dT (frE tkn))) b = some o → H' b = some o) ∧ H' D = some (.lst ((endsOf rs R G (tkn.take i)).map fun x => V.ref x.2.1))) ⟨Same.new nD, upd_same⟩ (fun i H' _ h => h.1 _ _ upd_same) ?_ ?_
    · rintro i y H2 H3 hi ⟨sm, hD⟩ ⟨rfl, k, v, qa, gk, rfl, hq⟩
      have hil : i < tkn.length := by rw [List.length_map] at hi; exact hi
      have gl : tkn[i]? = some tkn[i] := List.getElem?_eq_getElem hil
      rw [List.getElem?_map, gl] at gk
      obtain ⟨rfl, rfl⟩ : sk tkn[i].1 = k ∧ rA tkn[i].2 = v := by
        have := Option.some.inj gk
        exact ⟨congrArg Prod.fst this, congrArg Prod.snd this⟩
      have ml : tkn[i] ∈ tkn := List.getElem_mem hil
      have kn3 : KeepN H1 H3 := knL.trans (Same.keepN sm)
      have es : endsOf rs R G (tkn.take (i + 1)) = endsOf rs R G (tkn.take i) ++ (if (decide (tkn[i].1.1 = G.length) && okAt rs R tkn[i].1.2) = true then [tkn[i]] else []) := by
        unfold endsOf
        rw [take_succ_of gl, List.filter_append]
        cases c : (decide (tkn[i].1.1 = G.length) && okAt rs R tkn[i].1.2) <;> simp [List.filter_cons, c]
      refine ⟨rfl, _, rfl, m, dx1, _, rfl, kn3 _ _ hm1 (fun _ z => by cases z), rfl, _, rfl, m, sp, gv, s, w, qa, dx1, tkn[i].1, rs, R, F, G, rfl, kn3 _ _ hm1 (fun _ z => by cases z), S1.keepN kn3, kn3 _ _ hg1 (fun _ z => by cases z), hq, slt _ ml, fun H4 s4 => ⟨_, rfl, ?_⟩⟩
      cases c : (decide (tkn[i].1.1 = G.length) && okAt rs R tkn[i].1.2) with
      | true =>
        rw [c, if_pos rfl] at es
        refine iteT ⟨_, rfl, _, rfl, tk, .ref tkn[i].2.1, rfl, .inr ⟨frE tkn, sk tkn[i].1, qa, .inr ⟨od, s4 _ _ (sm _ _ upd_same)⟩, rfl, s4 _ _ hq, ?_⟩, _, s4 _ _ hD, ?_, ?_, ?_⟩
        · have := val_enc (ke := sk) (ve := rA) sk_inj tkn[i].1 tkn
          rw [mem_aget ndT ml] at this
          exact this.symm
        · rw [List.length_map]
          have h1 := List.length_filter_le (fun x : Stand × (Addr × List Nat) => decide (x.1.1 = G.length) && okAt rs R x.1.2) (tkn.take i)
          rw [List.length_take] at h1
          unfold endsOf
          exact big (by omega)
        · intro b o h
          rw [upd_ne (ne_of_none h nD)]; exact s4 _ _ (sm b o h)
        · rw [upd_same, es, List.map_append]; rfl
      | false =>
        rw [c, if_neg (by decide), List.append_nil] at es
        refine iteF ⟨fun b o h => s4 _ _ (sm b o h), ?_⟩
        rw [es]; exact s4 _ _ hD
    · rintro H2 ⟨sm, hD⟩
      rw [List.length_map, List.take_length] at hD
      have htk2 := sm _ _ upd_same
      refine ⟨htk2, ?_⟩
      -- behind the list
      have s15 : Same H1 (upd H2 tk (.dT (frE tkn))) := fun b o h => by
        by_cases e : b = tk
        · rw [e, upd_same]; rw [e, htk] at h; exact h
        · rw [upd_ne e]; exact sm b o (by rw [upd_ne e]; exact h)
      have hD5 : upd H2 tk (.dT (frE tkn)) D = some (.lst ((endsOf rs R G tkn).map fun x => V.ref x.2.1)) := by rw [upd_ne nDt]; exact hD
      have htk5 : upd H2 tk (.dT (frE tkn)) tk = some (.dT (frE tkn)) := upd_same
      generalize upd H2 tk (.dT (frE tkn)) = H5 at s15 hD5 htk5 ⊢
      have M5 := M1.same s15
      have kp5 : KeepP (fun x => x = s ∨ x = w ∨ Front W x) H H5 := (kp1.mono fun b h => h.elim .inl fun e => .inr (.inl e)).same s15
      refine ⟨_, rfl, D, _, rfl, .inl (SqL.of hD5), _, _, rfl, rfl, _, rfl, ?_⟩
      by_cases c : endsOf rs R G tkn = []
      · -- none is an end
        have z : decide (((((endsOf rs R G tkn).map fun x => V.ref x.2.1).length : Nat) : Int) > 0) = false := by rw [c]; rfl
        rw [z]
        refine iteF ?_
        have noEnd : ∀ x ∈ tkn, ¬ IsEnd G (okAt rs R) x.1 := fun x hx he => by
          have : x ∈ endsOf rs R G tkn := ends_mem.2 ⟨hx, he⟩
          rw [c] at this; cases this
        have I5 := tookI noEnd
        have near5 : Near (adel W (f, n)) (f + 1) := nr.del _
        refine ⟨tk, .dT (frE tkn), htk5, trivial, fun od2 => ?_⟩
        refine ⟨_, rfl, tk, od2, rfl, .inr ⟨frE tkn, upd_same, ?_⟩⟩
        have kpL : KeepP (fun x => x = tk) H5 (upd H5 tk (.frz od2 (.dT (frE tkn)))) := (KeepP.refl _ _).put (.inl rfl)
        have knL5 : KeepN H5 (upd H5 tk (.frz od2 (.dT (frE tkn)))) := fun b o h nn => by
          have ne : b ≠ tk := fun e => by rw [e, htk5] at h; cases h; exact nn _ rfl
          rw [upd_ne ne]; exact h
        refine for_it (walk_keysT (d := tk) (o := od2) (kvs := frE tkn)) (fun i σ H' => ∃ (v5 : Option V) (Wi : Wait Addr), σ = [some (.ref m), some (nv f), some (nv n), some (.ref tk), some (.ref D), v5] ∧ H' tk = some (.frz od2 (.dT (frE tkn))) ∧ (∀ b o, H5 b = some o → b ≠ tk → b ≠ w → ¬ Front (adel W (f, n)) b → H' b = some o) ∧ KeepN H5 H' ∧ MakeAt C H' m sp gv s w (done ++ recs f tkn) Wi ∧ MIx rs R F G f (n + 1) (done ++ recs f tkn) (recs f (tkn.drop i)) Wi ∧ Near Wi (f + 1) ∧ (∀ x, Front Wi x → Front (adel W (f, n)) x ∨ H5 x = none) ∧ (i = 0 → Wi = adel W (f, n)))
          ⟨none, adel W (f, n), rfl, upd_same, (fun b o h n1 _ _ => by rw [upd_ne n1]; exact h), knL5, M5.beside htk5 kpL ntks ntkw (fun h => ntkF tk (subF tk h) rfl), I5, near5, (fun x h => .inl h), fun _ => rfl⟩ (fun i σ H' _ ⟨_, _, _, h, _⟩ => h) ?_ ?_
        · rintro i y σ H6 H7 hi ⟨v5, Wi, rfl, hl, kpi, kni, Mi, Ii, ni, fi, _⟩ ⟨rfl, k, v, qa, gk, rfl, hq⟩
          have hil : i < tkn.length := by rw [List.length_map] at hi; exact hi
          have gl : tkn[i]? = some tkn[i] := List.getElem?_eq_getElem hil
          rw [List.getElem?_map, gl] at gk
          obtain ⟨rfl, rfl⟩ : sk tkn[i].1 = k ∧ rA tkn[i].2 = v := by
            have := Option.some.inj gk
            exact ⟨congrArg Prod.fst this, congrArg Prod.snd this⟩
          have ml : tkn[i] ∈ tkn := List.getElem_mem hil
          obtain ⟨dx7, hm7⟩ := Mi.ins
          have k15 : KeepN H1 H7 := (Same.keepN s15).trans kni
          have er : recs f (tkn.drop i) = (tkn[i].1, (f, tkn[i].2.2)) :: recs f (tkn.drop (i + 1)) := by
            unfold recs
            rw [List.drop_eq_getElem_cons hil]; rfl
          refine ⟨_, rfl, m, dx7, _, rfl, hm7, rfl, _, rfl, _, rfl, _, rfl, _, rfl, tk, .ref tkn[i].2.1, rfl, .inr ⟨frE tkn, sk tkn[i].1, qa, .inr ⟨od2, hl⟩, rfl, hq, ?_⟩, ?_⟩
          · have := val_enc (ke := sk) (ve := rA) sk_inj tkn[i].1 tkn
            rw [mem_aget ndT ml] at this
            exact this.symm
          refine ⟨m, sp, gv, s, w, done ++ recs f tkn, Wi, f, tkn[i].1, qa, tkn[i].2.1, tkn[i].2.2, rs, R, F, G, rfl, Mi, mi_small Z lR lG lf Ii ni, S1.keepN k15, Z, k15 _ _ hg1 (fun _ z => by cases z), rG, hq, k15 _ _ (hx1 _ ml) (fun _ z => by cases z), slt _ ml, by have := slen _ ml; omega, fun H8 W8 g8 => ?_⟩
          have ntw : ∀ x, Front Wi x → x ≠ tk := fun x h e => by
            rcases fi x h with z | z
            · exact ntkF x (subF x z) e
            · rw [e, htk5] at z; cases z
          rw [er] at Ii
          refine ⟨_, W8, rfl, g8.kp _ _ hl fun z => z.elim ntkw fun z => ntw tk z rfl, fun b o h n1 n2 n3 => ?_, ?_, g8.mak, Ii.further N g8.pt, ?_, fun x h => ?_, fun e => by omega⟩
          · refine g8.kp _ _ (kpi b o h n1 n2 n3) fun z => ?_
            rcases z with z | z
            · exact n2 z
            · rcases fi b z with z | z
              · exact n3 z
              · rw [h] at z; cases z
          · exact kni.trans (Mi.keepN (fun b z => z.elim (fun e => .inr (.inl e)) fun e => .inr (.inr e)) g8.kp)
          · refine Near.puts g8.pt ni fun mv hmv => moves_near mv hmv
          · rcases g8.fr x h with z | z
            · exact fi x z
            · by_cases c3 : Front (adel W (f, n)) x
              · exact .inl c3
              · right
                cases e : H5 x with
                | none => rfl
                | some o =>
                  exfalso
                  by_cases c1 : x = tk
                  · rw [c1, hl] at z; cases z
                  · by_cases c2 : x = w
                    · rw [c2, Mi.wait] at z; cases z
                    · rw [kpi x o e c1 c2 c3] at z; cases z
        · rintro σ H6 ⟨v5, Wi, rfl, hl, kpi, kni, Mi, Ii, ni, fi, w0⟩
          rw [List.length_map] at Ii w0
          rw [List.drop_of_length_le (Nat.le_refl _)] at Ii
          refine ⟨hl, ?_⟩
          have ntw : ∀ x, Front Wi x → x ≠ tk := fun x h e => by
            rcases fi x h with z | z
            · exact ntkF x (subF x z) e
            · rw [e, htk5] at z; cases z
          obtain ⟨dx6, hm6⟩ := Mi.ins
          have up : ∀ b o, H6 b = some o → b ≠ tk → upd H6 tk (.dT (frE tkn)) b = some o := fun b o h n => by rw [upd_ne n]; exact h
          have M7 : MakeAt C (upd H6 tk (.dT (frE tkn))) m sp gv s w (done ++ recs f tkn) Wi := by
            refine ⟨⟨dx6, up _ _ hm6 fun e => ?_⟩, up _ _ Mi.set (Ne.symm ntks), up _ _ Mi.wait (Ne.symm ntkw), fun k b fr hb => ?_, Mi.nsw, Mi.nf, Mi.inj, Mi.nd⟩
            · rw [e, hl] at hm6; cases hm6
            · have hf := Mi.fr k b fr hb
              refine ⟨up _ _ hf.1 (ntw b ⟨k, fr, hb⟩), fun x hx => up _ _ (hf.2 x hx) fun e => ?_⟩
              have := hf.2 x hx
              rw [e, hl] at this; cases this
          refine q1 _ (done ++ recs f tkn) Wi (fun b o h nb => ?_) M7 Ii ni (by rw [List.length_append]; omega) (fun hne => ?_) fun x h => ?_
          · have h5 := kp5 b o h nb
            have nt : b ≠ tk := ne_of_none h ntk
            exact up _ _ (kpi b o h5 nt (fun e => nb (.inr (.inl e))) fun z => nb (.inr (.inr (subF b z)))) nt
          · by_cases c0 : tkn = []
            · left
              have : tkn.length = 0 := by rw [c0]; rfl
              rw [w0 this]
              exact empty c0 hne
            · right
              have : 0 < tkn.length := List.length_pos_iff.2 c0
              rw [List.length_append, List.length_map]; omega
          · rcases fi x h with z | z
            · exact .inl (subF x z)
            · by_cases c3 : Front W x
              · exact .inl c3
              · right
                cases e : H x with
                | none => rfl
                | some o =>
                  exfalso
                  by_cases c1 : x = s
                  · rw [c1, M5.set] at z; cases z
                  · by_cases c2 : x = w
                    · rw [c2, M5.wait] at z; cases z
                    · rw [kp5 x o e fun y => y.elim c1 fun y => y.elim c2 c3] at z; cases z
      · -- the least of the ends
        have lp : 0 < (endsOf rs R G tkn).length := List.length_pos_iff.2 c
        have z : decide (((((endsOf rs R G tkn).map fun x => V.ref x.2.1).length : Nat) : Int) > 0) = true := decide_eq_true (by rw [List.length_map]; omega)
        rw [z]
        refine iteT ?_
        refine ⟨_, rfl, D, (endsOf rs R G tkn).map fun x => (x.2.1, x.2.2), rfl, SqL.of (by rw [hD5, List.map_map]; rfl), ?_, fun t ht => ?_, fun t ht hmin => ?_⟩
        · intro e; exact c (List.map_eq_nil_iff.1 e)
        · obtain ⟨x, hx, rfl⟩ := List.mem_map.1 ht
          exact SqT.of (s15 _ _ (hx1 x (ends_mem.1 hx).1))
        · obtain ⟨x, hx, rfl⟩ := List.mem_map.1 ht
          obtain ⟨hx', he⟩ := ends_mem.1 hx
          obtain ⟨st, a, r⟩ := x
          refine q2 H5 a r kp5 (s15 _ _ (hx1 _ hx')) (found st a r hx' he fun st' a' r' h' e' => ?_) (slen _ hx')
          exact hmin (a', r') (List.mem_map.2 ⟨(st', (a', r')), ends_mem.2 ⟨h', e'⟩, rfl⟩)
end
end Cr
end
section
set_option Elab.async false
set_option maxRecDepth 100000
set_option maxHeartbeats 2000000
set_option linter.all false
namespace Cr
open PySem PySem.Spec PyProof.Rows L2
section
variable {P : Program} {w : World} {K : PySem.W.Frag} {mg : Str → Option Value} {base : Heap} {C CS : Addr}
def sp_minit (C : Addr) : Sp := fun vs H Q _ => ∃ (m dx sp gv : Addr), vs = [.ref m, .ref sp, .ref gv] ∧ H m = some (.ins C dx []) ∧
  ∀ (H' : Hp) (s w b a : Addr), MakeAt C H' m sp gv s w [] (putW [] 0 (0, 0) b a []) → (∀ x o, H x = some o → x ≠ m → H' x = some o) → H s = none → H w = none → (∀ x, Front (putW [] 0 (0, 0) b a []) x → H x = none) → Q .non H'
theorem ok_minit (XM : Ms K mg C) (D : HasI K mg C "Making" "Making.__init__" s_Making_init) (M_put : CalM P w K mg base C 1 "put" ["self", "far", "stand", "made"] (sp_put C)) : CalI P w K mg base C 2 "Making" ["self", "spots", "given"] (sp_minit C) := by
  refine D.cal sc_Making_init (fun _ _ _ _ _ _ us hl => match us, hl with | [_, _, _], _ => rfl) (fun vs H Q E h => ?_) (fun f cdv A outer s H vs Q E hr h => ?_)
  · obtain ⟨m, dx, sp, gv, rfl, _⟩ := h; rfl
  · obtain ⟨m, dx, sp, gv, rfl, hm, q⟩ := h
    refine ⟨_, (pss_cons (ps_fld (pv 0) (pv 1) rfl)
      (pss_cons (ps_fld (pv 0) (pv 2) rfl)
      (pss_cons (ps_fld (pv 0) pe_dnewT rfl)
      (pss_cons (ps_fld (pv 0) pe_dnewT rfl)
      (pss_one (ps_expr (pe_calM (pv 0) XM.cl M_put (hr.mono (by decide)) (pa_cons pe_int (pa_cons (pe_tup (pa_cons pe_int (pa_cons pe_int pa_nil))) (pa_cons (pe_tup pa_nil) pa_nil)))))))))), ?_⟩
    -- self.spots = spots; self.given = given
    refine ⟨_, rfl, _, rfl, m, C, dx, [], rfl, hm, XM.cl, XM.nSpots, (by show 0 < 1000; decide), ?_⟩
    refine ⟨_, rfl, _, rfl, m, C, dx, _, rfl, upd_same, XM.cl, XM.nGiven, (by show 1 < 1000; decide), ?_⟩
    have k1 : ∀ b u, H b = some u → b ≠ m → upd (upd H m (.ins C dx (putF "spots" (V.ref sp) []))) m (.ins C dx (putF "given" (V.ref gv) (putF "spots" (V.ref sp) []))) b = some u := fun b u h n => by rw [upd_ne n, upd_ne n]; exact h
    have p1 : upd (upd H m (.ins C dx (putF "spots" (V.ref sp) []))) m (.ins C dx (putF "given" (V.ref gv) (putF "spots" (V.ref sp) []))) m = some (.ins C dx (putF "given" (V.ref gv) (putF "spots" (V.ref sp) []))) := upd_same
    generalize upd (upd H m (.ins C dx (putF "spots" (V.ref sp) []))) m (.ins C dx (putF "given" (V.ref gv) (putF "spots" (V.ref sp) []))) = H1 at k1 p1 ⊢
    have f1 : ∀ b, H1 b = none → H b = none := fun b hb => by
      cases e : H b with
      | none => rfl
      | some o =>
        by_cases c : b = m
        · rw [c, p1] at hb; cases hb
        · rw [k1 b o e c] at hb; cases hb
    -- self.settled = {}
    intro s1 n1
    refine ⟨_, rfl, m, C, dx, _, rfl, (Same.new n1) _ _ p1, XM.cl, XM.nSettled, (by show 2 < 1000; decide), ?_⟩
    obtain ⟨k2, b1, p2⟩ := store_new (o := .dT []) (j := .ins C dx (putF "settled" (V.ref s1) (putF "given" (V.ref gv) (putF "spots" (V.ref sp) [])))) p1 n1
    have na1 : s1 ≠ m := (ne_of_none p1 n1).symm
    generalize upd (upd H1 s1 (.dT [])) m (.ins C dx (putF "settled" (V.ref s1) (putF "given" (V.ref gv) (putF "spots" (V.ref sp) [])))) = H2 at k2 b1 p2 ⊢
    have f2 : ∀ b, H2 b = none → H1 b = none := fun b hb => by
      cases e : H1 b with
      | none => rfl
      | some o =>
        by_cases c : b = m
        · rw [c, p2] at hb; cases hb
        · rw [k2 b o e c] at hb; cases hb
    -- self.waiting = {}
    intro w1 n2
    refine ⟨_, rfl, m, C, dx, _, rfl, (Same.new n2) _ _ p2, XM.cl, XM.nWaiting, (by show 3 < 1000; decide), ?_⟩
    have eF : putF "waiting" (V.ref w1) (putF "settled" (V.ref s1) (putF "given" (V.ref gv) (putF "spots" (V.ref sp) []))) = mF sp gv s1 w1 := rfl
    rw [eF]
    obtain ⟨k3, b2, p3⟩ := store_new (o := .dT []) (j := .ins C dx (mF sp gv s1 w1)) p2 n2
    have na2 : w1 ≠ m := (ne_of_none p2 n2).symm
    generalize upd (upd H2 w1 (.dT [])) m (.ins C dx (mF sp gv s1 w1)) = H3 at k3 b2 p3 ⊢
    have f3 : ∀ b, H3 b = none → H2 b = none := fun b hb => by
      cases e : H2 b with
      | none => rfl
      | some o =>
        by_cases c : b = m
        · rw [c, p3] at hb; cases hb
        · rw [k3 b o e c] at hb; cases hb
    have ka : ∀ b u, H b = some u → b ≠ m → H3 b = some u := fun b u h n => k3 b u (k2 b u (k1 b u h n) n) n
    have c1 : H3 s1 = some (.dT []) := k3 _ _ b1 na1
    have nsw : s1 ≠ w1 := ne_of_none b1 n2
    have M3 : MakeAt C H3 m sp gv s1 w1 [] [] := ⟨⟨dx, p3⟩, c1, b2, (fun k b fr h => by cases h), nsw, (fun b ⟨_, _, h⟩ => by cases h), (fun b k k' fr fr' h => by cases h), by simp⟩
    -- self.put(0, (0, 0), ())
    refine ⟨_, rfl, m, dx, _, rfl, p3, rfl, (by show 2 ≤ sizeLine; decide), fun t nt => ?_⟩
    have st : Same H3 (upd H3 t (.tup [nv 0, nv 0])) := Same.new nt
    refine ⟨Nat.zero_le _, fun u nu => ?_⟩
    have su : Same (upd H3 t (.tup [nv 0, nv 0])) (upd (upd H3 t (.tup [nv 0, nv 0])) u (.tup [])) := Same.new nu
    dsimp only [tNil, List.cons_append, List.nil_append]
    refine ⟨m, sp, gv, s1, w1, [], [], 0, (0, 0), t, u, [], rfl, M3.same (st.trans su), ⟨Nat.zero_le _, fun k b fr h => by cases h⟩, su _ _ upd_same, upd_same, fun H5 b kp5 M5 fr5 => ?_⟩
    refine q H5 s1 w1 b u M5 (fun x o h n => kp5 x o (su _ _ (st _ _ (ka x o h n))) fun z => ?_) (f1 s1 n1) (f1 w1 (f2 w1 n2)) fun x hx => ?_
    · rcases z with z | ⟨_, _, z⟩
      · rw [z] at h
        rw [f1 w1 (f2 w1 n2)] at h; cases h
      · cases z
    · rcases fr5 x hx with ⟨_, _, z⟩ | z
      · cases z
      · exact f1 x (f2 x (f3 x (st.free (su.free z))))

def NearOut (H : Hp) (Q : VK) : Option Wf04.Way → Prop
  | none => ∀ H', Same H H' → Q .non H'
  | some y => y.2.length ≤ 200000 → ∀ H' p u, Same H H' → H' p = some (.tup [nv y.1, .ref u]) → H' u = some (.tup (y.2.map nv)) → Q (.ref p) H'
def sp_nearest_row (CS : Addr) : Sp := fun vs H Q _ => ∃ (sp gv : Addr) (rs : List Wf04.Rule) (R : Rows (List Nat)) (F : List (List Nat)) (G : List Nat), vs = [.ref sp, .ref gv] ∧ SpotsOn CS H sp rs R F ∧ SpotsG rs R F ∧ (∀ r ∈ rs, Valid r) ∧ rs.length ≤ 4 ∧ H gv = some (.lst (G.map nv)) ∧ Row G ∧ G.length ≤ 8 ∧
  NearOut H Q (Wf04.nearest rs G)
theorem ok_nearest_row (B : Own mg) (XM : Ms K mg C) (D : Has K mg "nearest_row" s_nearest_row) (N_Making : CalI P w K mg base C 2 "Making" ["self", "spots", "given"] (sp_minit C)) (M_nearest_of_length : CalM P w K mg base C 3 "nearest_of_length" ["self", "far", "length"] (sp_nol CS C)) : Cal P w K mg base 4 "nearest_row" ["spots", "given"] (sp_nearest_row CS) := by
  refine D.cal sc_nearest_row (fun _ _ _ _ _ _ us hl => match us, hl with | [_, _], _ => rfl) (fun vs H Q E h => ?_) (fun fn cdv A outer s H vs Q E hr h => ?_)
  · obtain ⟨sp, gv, rs, R, F, G, rfl, _⟩ := h; rfl
  · obtain ⟨sp, gv, rs, R, F, G, rfl, S, Zg, v, few, hg, rG, lG, q⟩ := h
    have Z := Zg.1
    have lR := spots_few Z few
    have N := spots_net Z rG
    have uniq : ∀ {o : Option Wf04.Way}, Nearest (fun w => okAt rs R (spt rs R w) = true) G o → NearOut H Q o := fun h => by rw [spots_nearest Z v few rG lG h]; exact q
    refine ⟨_, (pss_cons (ps_set (i := 2) sc_nearest_row.nd rfl (Or.inl rfl) (pe_new N_Making (hr.mono (by decide)) (pa_cons (pv 0) (pa_cons (pv 1) pa_nil))))
      (pss_cons (ps_set (i := 3) sc_nearest_row.nd rfl (Or.inl rfl) pe_int)
      (pss_cons (ps_while PassesOwn.never (pt_cmpR op_gt (pe_callB call_len_dT (by rfl) B.len (by decide +kernel) (pa_cons (pe_fld (pv 2) rfl) pa_nil)) pe_int (nomark _))
      (pss_cons (ps_for PassesOwn.never rfl (pi_range1 (by rfl) B.range (pa_cons (pe_op op_add (pe_op op_add (pe_callB call_len_seq (by rfl) B.len (by decide +kernel) (pa_cons (pv 1) pa_nil)) (pv 3)) pe_int) pa_nil)) (pg_name (i := 4) sc_nearest_row.nd rfl (Or.inl rfl))
      (pss_cons (ps_set (i := 5) sc_nearest_row.nd rfl (Or.inl rfl) (pe_calM (pv 2) XM.cl M_nearest_of_length (hr.mono (by decide)) (pa_cons (pv 3) (pa_cons (pv 4) pa_nil))))
      (pss_one (ps_if (pt_cmpR op_notN (pv 5) pe_non (nomark _)) (pss_one (ps_ret (pe_tup (pa_cons (pv 3) (pa_cons (pv 5) pa_nil))))) pss_nil))))
      (pss_one (ps_aug (i := 3) sc_nearest_row.nd rfl (.inl rfl) pe_int ip_add))))
      (pss_one (ps_ret pe_non))))), ?_⟩
    refine ⟨_, rfl, _, rfl, ?_⟩
    intro m dx nm ndx ne
    refine ⟨m, dx, sp, gv, rfl, upd_same, fun H1 s w b a M1 kp1 ns nw nf => ⟨rfl, ?_⟩⟩
    have s1 : Same H H1 := Same.made nm ndx kp1
    have offm : ∀ {x : Addr}, upd (upd H dx (.own m)) m (.ins C dx []) x = none → H x = none := fun {x} hx => by
      have n1 : x ≠ m := fun z => by rw [z, upd_same] at hx; cases hx
      rw [upd_ne n1] at hx
      have n2 : x ≠ dx := fun z => by rw [z, upd_same] at hx; cases hx
      rwa [upd_ne n2] at hx
    have nsH := offm ns
    have nwH := offm nw
    refine ⟨fun mm σ H' => ∃ (done : List Rec) (W : Wait Addr) (f : Nat) (v4 v5 : Option V), σ = [some (.ref sp), some (.ref gv), some (.ref m), some (nv f), v4, v5] ∧ Same H H' ∧ MakeAt C H' m sp gv s w done W ∧ (∀ x, Front W x → H x = none) ∧ MIx rs R F G f 0 done [] W ∧ Near W f ∧ (W ≠ [] → f ≤ done.length) ∧ mm = 2 * (90000 - done.length) + (if W = [] then 0 else 1),
      ⟨_, [], _, 0, none, none, rfl, s1, M1, fun x h => offm (nf x h), MI.start N b a, ?_, fun _ => Nat.le_refl _, rfl⟩, ?_⟩
    · intro d mm y h
      have e : putW ([] : Wait Addr) 0 (0, 0) b a [] = [((0, 0), (b, [((0, 0), (a, []))]))] := rfl
      rw [e] at h
      cases List.mem_singleton.1 h; exact Nat.le_refl _
    rintro mm σ H2 ⟨done, W, f, v4, v5, rfl, s2, M2, nf2, I2, nr2, lf2, rfl⟩
    obtain ⟨dx2, hm2⟩ := M2.ins
    refine ⟨_, rfl, m, C, dx2, _, .ref w, rfl, hm2, XM.cl, XM.nWaiting, rfl, w, _, rfl, M2.wait, _, _, rfl, rfl, _, rfl, ?_⟩
    by_cases c : W = []
    · have z : decide ((((wtE W).length : Nat) : Int) > 0) = false := by rw [c]; rfl
      rw [z]
      refine iteF ?_
      rw [c] at I2
      exact uniq (I2.none N) H2 s2
    · have lp : 0 < W.length := List.length_pos_iff.2 c
      have z : decide ((((wtE W).length : Nat) : Int) > 0) = true := decide_eq_true (by rw [List.length_map]; omega)
      rw [z]
      refine iteT ?_
      have fd := (mi_few Z lR lG I2).1
      have lf := lf2 c
      refine ⟨fun σ' H' => ∃ (done' : List Rec) (W' : Wait Addr) (f' : Nat) (v4 v5 : Option V), σ' = [some (.ref sp), some (.ref gv), some (.ref m), some (nv f'), v4, v5] ∧ Same H H' ∧ MakeAt C H' m sp gv s w done' W' ∧ (∀ x, Front W' x → H x = none) ∧ MIx rs R F G f' 0 done' [] W' ∧ Near W' f' ∧ (W' ≠ [] → f' ≤ done'.length) ∧ 2 * (90000 - done'.length) + (if W' = [] then 0 else 1) < 2 * (90000 - done.length) + (if W = [] then 0 else 1),
        fun σ' H' ⟨done', W', f', v4, v5, e1, e2, e3, e4, e5, e6, e7, e8⟩ => ⟨_, e8, done', W', f', v4, v5, e1, e2, e3, e4, e5, e6, e7, rfl⟩, ?_⟩
      refine ⟨_, rfl, gv, _, rfl, .inl (SqL.of (s2 _ _ hg)), _, rfl, _, _, rfl, rfl, _, _, rfl, rfl, _, rfl, ?_, ?_, ?_⟩
      · rw [List.length_map]; omega
      · rw [List.length_map]; omega
      have en : ((((G.map nv).length : Nat) : Int) + (f : Nat) + 1).toNat = G.length + f + 1 := by rw [List.length_map]; omega
      rw [en]
      refine for_range (lo := 0) (n := G.length + f + 1) (fun n σ H' => ∃ (done' : List Rec) (W' : Wait Addr) (v4 v5 : Option V), σ = [some (.ref sp), some (.ref gv), some (.ref m), some (nv f), v4, v5] ∧ Same H H' ∧ MakeAt C H' m sp gv s w done' W' ∧ (∀ x, Front W' x → H x = none) ∧ MIx rs R F G f n done' [] W' ∧ Near W' (f + 1) ∧ done.length ≤ done'.length ∧ (Near W' f ∨ done.length < done'.length))
        ⟨done, W, v4, v5, rfl, s2, M2, nf2, I2, nr2.mono (Nat.le_succ _), Nat.le_refl _, .inl nr2⟩ ?_ ?_
      · rintro n σ H3 hn ⟨d3, W3, v4, v5, rfl, s3, M3, nf3, I3, nr3, l3, g3⟩
        have ej : (0 : Int) + (n : Nat) = (n : Int) := Int.zero_add _
        rw [ej]
        obtain ⟨dx3, hm3⟩ := M3.ins
        have keep : ∀ {H' : Hp}, KeepP (fun x => x = s ∨ x = w ∨ Front W3 x) H3 H' → Same H H' := fun kp b o h => kp b o (s3 b o h) fun z => by
          rcases z with z | z | z
          · rw [z, nsH] at h; cases h
          · rw [z, nwH] at h; cases h
          · rw [nf3 b z] at h; cases h
        refine ⟨_, rfl, m, dx3, _, rfl, hm3, rfl, _, rfl, _, rfl, m, sp, gv, s, w, d3, W3, f, n, rs, R, F, G, rfl, M3, S.same s3, Z, lR, s3 _ _ hg, rG, lG, by omega, I3, nr3, fun H4 d4 W4 kp4 M4 I4 nr4 l4 g4 nf4 => ?_, fun H4 qa r kp4 hq near lr => ?_⟩
        · refine ⟨_, rfl, rfl, _, rfl, iteF ⟨d4, W4, _, _, rfl, keep kp4, M4, fun x hx => ?_, I4, nr4, by omega, ?_⟩⟩
          · rcases nf4 x hx with z | z
            · exact nf3 x z
            · exact s3.free z
          · rcases g3 with g3 | g3
            · rcases g4 g3 with z | z
              · exact .inl z
              · exact .inr (by omega)
            · exact .inr (by omega)
        · refine ⟨_, rfl, rfl, _, rfl, iteT ⟨_, rfl, _, rfl, (by show 2 ≤ sizeLine; decide), fun p np => ?_⟩⟩
          exact uniq near lr _ p qa ((keep kp4).trans (Same.new np)) upd_same ((Same.new np) _ _ hq)
      · rintro σ H3 ⟨d3, W3, v4, v5, rfl, s3, M3, nf3, I3, nr3, l3, g3⟩
        have fd3 := (mi_few Z lR lG I3).1
        have grown : W3 ≠ [] → done.length < d3.length := fun h => by
          rcases g3 with g | g
          · exact (h (I3.left g)).elim
          · exact g
        refine ⟨_, rfl, _, _, rfl, rfl, d3, W3, f + 1, v4, v5, rfl, s3, M3, nf3, I3.round, nr3, fun h => by have := grown h; omega, ?_⟩
        rw [if_neg c]
        by_cases c3 : W3 = []
        · rw [if_pos c3]; omega
        · rw [if_neg c3]
          have := grown c3
          omega
end
end Cr
end
section
set_option Elab.async false
set_option maxRecDepth 100000
set_option maxHeartbeats 2000000
set_option linter.all false
namespace Cr
open PySem PySem.Spec PyProof.Rows L2
theorem get_snoc {α : Type} {l : List α} {x y : α} {i : Nat} (h : (l ++ [x])[i]? = some y) : l[i]? = some y ∨ (i = l.length ∧ x = y) := get_snoc0 h
/-! ### the house in the heap -/
def hF (l : Addr) : List (Str × V) := [("rules", .ref l)]
theorem hF_rules (l : Addr) : (hF l).lookup ("rules" : Str) = some (.ref l) := rfl
structure HouseAt (C : Addr) (H : Hp) (h l : Addr) (as : List Addr) (rs : List Wf04.Rule) : Prop where
  ins : ∃ dx, H h = some (.ins C dx (hF l))
  lst : H l = some (.lst (as.map V.ref))
  len : as.length = rs.length
  few : rs.length ≤ 4
  at_ : ∀ (i : Nat) (a : Addr) (r : Wf04.Rule), as[i]? = some a → rs[i]? = some r → H a = some (.tup (code r))
  valid : ∀ r ∈ rs, Valid r
theorem HouseAt.rules {K : PySem.W.Frag} {C : Addr} {H : Hp} {h l : Addr} {as : List Addr} {rs : List Wf04.Rule} (A : HouseAt C H h l as rs) : RulesAt K H l as rs := ⟨SqL.of A.lst, A.len, A.few, fun i a r h1 h2 => SqT.of (A.at_ i a r h1 h2)⟩
theorem HouseAt.rulesIn {C : Addr} {H : Hp} {h l : Addr} {as : List Addr} {rs : List Wf04.Rule} (A : HouseAt C H h l as rs) : RulesIn H l as rs := ⟨A.lst, A.len, A.few, A.at_⟩
theorem HouseAt.same {C : Addr} {H H' : Hp} {h l : Addr} {as : List Addr} {rs : List Wf04.Rule} (A : HouseAt C H h l as rs) (e : Same H H') : HouseAt C H' h l as rs := by
  obtain ⟨dx, hi⟩ := A.ins
  exact ⟨⟨dx, e _ _ hi⟩, e _ _ A.lst, A.len, A.few, fun i a r h1 h2 => e _ _ (A.at_ i a r h1 h2), A.valid⟩
/-- all but the house and its list stands -/
def KeepH (h l : Addr) (H H' : Hp) : Prop := ∀ b o, H b = some o → b ≠ h → b ≠ l → H' b = some o
theorem Same.keepH {h l : Addr} {H H' : Hp} (e : Same H H') : KeepH h l H H' := fun b o q _ _ => e b o q
/-- what a call of the house hands back -/
def Told (C : Addr) (H : Hp) (h l : Addr) (Q : VK) (rs' : List Wf04.Rule) (ans : List Int) : Prop :=
  ∀ (H' : Hp) (p l' : Addr) (as' : List Addr), HouseAt C H' h l' as' rs' → (l' = l ∨ H l' = none) → KeepH h l H H' → H p = none → p ≠ l' → H' p = some (.lst (ans.map V.int)) → Q (.ref p) H'
/-- an answer that leaves the house as it is -/
theorem Told.plain {C : Addr} {H H' : Hp} {h l p : Addr} {Q : VK} {as : List Addr} {rs : List Wf04.Rule} {ans : List Int} (t : Told C H h l Q rs ans) (A : HouseAt C H h l as rs) (e : Same H H') (np : H p = none) (hp : H' p = some (.lst (ans.map V.int))) : Q (.ref p) H' :=
  t H' p l as (A.same e) (.inl rfl) (Same.keepH e) np (ne_of_none A.lst np).symm hp
structure Hs (K : PySem.W.Frag) (mg : Str → Option Value) (C : Addr) : Prop where
  cl : Cls K C
  nR : NoAttr K C "rules"
  gC : mg "House" = some (.ref C)
section
variable {P : Program} {w : World} {K : PySem.W.Frag} {mg : Str → Option Value} {base : Heap} {C : Addr}
def sp_init (C : Addr) : Sp := fun vs H Q _ => ∃ (p dx : Addr), vs = [.ref p] ∧ H p = some (.ins C dx []) ∧ ∀ (H' : Hp) (l : Addr), HouseAt C H' p l [] [] → H l = none → (∀ b o, H b = some o → b ≠ p → H' b = some o) → Q .non H'
theorem ok_init {f : Addr} {fd : FuncData} (F : Fun K "__init__" "House.__init__" s_House_init f fd) (X : Hs K mg C) : FnOk P w K mg base CX0 1 f fd ["self"] (sp_init C) := by
  refine F.ok sc_House_init (fun vs H Q E h => ?_) (fun cdv A outer s H vs Q E hr h => ?_)
  · obtain ⟨p, dx, rfl, _⟩ := h; rfl
  · obtain ⟨p, dx, rfl, hp, k⟩ := h
    refine ⟨_, (pss_one (ps_fld (pv 0) (pe_lst pa_nil) rfl)), ?_⟩
    refine ⟨Nat.zero_le _, fun l nl => ?_⟩
    have npl : p ≠ l := ne_of_none hp nl
    refine ⟨_, rfl, p, C, dx, [], rfl, (Same.new nl) _ _ hp, X.cl, X.nR, (by show 0 < 1000; decide), ?_⟩
    refine k _ l ⟨⟨dx, upd_same⟩, by rw [upd_ne npl.symm]; exact upd_same, rfl, Nat.zero_le _, (fun i a r h => by cases h), fun r hr => by cases hr⟩ nl fun b o e hb => ?_
    rw [upd_ne hb, upd_ne (ne_of_none e nl)]; exact e
def sp_begins (C : Addr) : Sp := fun vs H Q _ => ∃ (h l : Addr) (as : List Addr) (rs : List Wf04.Rule), vs = [.ref h] ∧ HouseAt C H h l as rs ∧ Told C H h l Q [] [0]
theorem ok_begins (D : HasM K C "begins" "House.begins" s_House_begins) (X : Hs K mg C) : CalM P w K mg base C 1 "begins" ["self"] (sp_begins C) := by
  refine D.cal sc_House_begins (fun _ _ _ _ _ _ us hl => match us, hl with | [_], _ => rfl) (fun vs H Q E h => ?_) (fun f cdv A outer s H vs Q E hr h => ?_)
  · obtain ⟨h, l, as, rs, rfl, _⟩ := h; rfl
  · obtain ⟨h, l, as, rs, rfl, A0, q⟩ := h
    obtain ⟨dx, hi⟩ := A0.ins
    refine ⟨_, (pss_cons (ps_fld (pv 0) (pe_lst pa_nil) rfl)
      (pss_one (ps_ret (pe_lst (pa_cons pe_int pa_nil))))), ?_⟩
    refine ⟨Nat.zero_le _, fun l2 n2 => ?_⟩
    have nhl : h ≠ l2 := ne_of_none hi n2
    refine ⟨_, rfl, h, C, dx, hF l, rfl, (Same.new n2) _ _ hi, X.cl, X.nR, (by show 1 < 1000; decide), ?_⟩
    refine ⟨(by show 1 ≤ sizeLine; decide), fun p np => ?_⟩
    have e1 : putF "rules" (V.ref l2) (hF l) = hF l2 := rfl
    rw [e1] at np ⊢
    have np2 : p ≠ h := fun z => by rw [z, upd_same] at np; cases np
    have np3 : upd H l2 (.lst []) p = none := by rw [upd_ne np2] at np; exact np
    have np4 : p ≠ l2 := fun z => by rw [z, upd_same] at np3; cases np3
    have np5 : H p = none := by rw [upd_ne np4] at np3; exact np3
    refine q _ p l2 [] ⟨⟨dx, by rw [upd_ne np2.symm]; exact upd_same⟩, by rw [upd_ne np4.symm, upd_ne nhl.symm]; exact upd_same, rfl, Nat.zero_le _, (fun i a r h => by cases h), fun r hr => by cases hr⟩ (.inr n2) (fun b o e n1 n2' => ?_) np5 np4 upd_same
    rw [upd_ne (ne_of_none e np5), upd_ne n1, upd_ne (ne_of_none e n2)]; exact e
end
end Cr
end
section
set_option Elab.async false
set_option maxRecDepth 100000
set_option maxHeartbeats 2000000
set_option linter.all false
namespace Cr
open PySem PySem.Spec PyProof.Rows L2
theorem rule_code {ns : List Nat} {r : Wf04.Rule} (h : Wf04.rule? ns = some r) : ns.map nv = code r := by
  unfold Wf04.rule? at h
  dsimp only at h
  split at h
  case h_10 => cases h
  all_goals
    obtain ⟨_, rfl⟩ := ite_some h
    rfl
section
variable {P : Program} {w : World} {K : PySem.W.Frag} {mg : Str → Option Value} {base : Heap} {C : Addr}
/-- the rules behind a rule told -/
def ruleTo (rs : List Wf04.Rule) (ns : List Nat) : List Wf04.Rule := match Wf04.rule? ns with
  | none => rs
  | some r => if rs.length = 4 then rs else rs ++ [r]
def ruleAns (rs : List Wf04.Rule) (ns : List Nat) : List Int := match Wf04.rule? ns with
  | none => [-1]
  | some _ => if rs.length = 4 then [-7] else [(rs.length : Int)]
def sp_add_rule (K : PySem.W.Frag) (C : Addr) : Sp := fun vs H Q _ => ∃ (h l t : Addr) (as : List Addr) (rs : List Wf04.Rule) (ns : List Nat), vs = [.ref h, .ref t] ∧ HouseAt C H h l as rs ∧ SqL K H t (ns.map nv) ∧ Told C H h l Q (ruleTo rs ns) (ruleAns rs ns)
theorem ok_add_rule (T : Con3 mg) (B : Own mg) (D : HasM K C "add_rule" "House.add_rule" s_House_add_rule) (X : Hs K mg C) (G_is_form : Cal P w K mg base 2 "is_form" ["row"] (sp_is_form K)) : CalM P w K mg base C 3 "add_rule" ["self", "row"] (sp_add_rule K C) := by
  refine D.cal sc_House_add_rule (fun _ _ _ _ _ _ us hl => match us, hl with | [_, _], _ => rfl) (fun vs H Q E h => ?_) (fun f cdv A outer s H vs Q E hr h => ?_)
  · obtain ⟨h, l, t, as, rs, ns, rfl, _⟩ := h; rfl
  · obtain ⟨h, l, t, as, rs, ns, rfl, A0, hT, q⟩ := h
    obtain ⟨dx, hi⟩ := A0.ins
    refine ⟨_, (pss_cons (ps_if (pt_not (pt_val (pe_cal G_is_form (hr.mono (by decide)) (pa_cons (pv 1) pa_nil)))) (pss_one (ps_ret (pe_lst (pa_cons (pe_num T.WRONG_FORM) pa_nil)))) pss_nil)
      (pss_cons (ps_if (pt_cmpR op_eq (pe_callB call_len_seq (by rfl) B.len (by decide +kernel) (pa_cons (pe_fld (pv 0) rfl) pa_nil)) (pe_num T.MOST_RULES) (nomark _)) (pss_one (ps_ret (pe_lst (pa_cons (pe_num T.TOO_MANY_RULES) pa_nil)))) pss_nil)
      (pss_cons (ps_expr (pe_bm PySem.F.plainAttrs_list PySem.F.slot_list_append PySem.F.type_list_append mt_append (pe_fld (pv 0) rfl) (pa_cons (pe_callTy call_tuple_of (by rfl) B.tuple (by decide +kernel) (pa_cons (pv 1) pa_nil)) pa_nil)))
      (pss_one (ps_ret (pe_lst (pa_cons (pe_op op_sub (pe_callB call_len_seq (by rfl) B.len (by decide +kernel) (pa_cons (pe_fld (pv 0) rfl) pa_nil)) pe_int) pa_nil))))))), ?_⟩
    refine ⟨_, rfl, t, ns, rfl, hT, formB ns, rfl, ?_⟩
    rw [← rule_form ns]
    unfold ruleTo ruleAns at q
    cases er : Wf04.rule? ns with
    | none =>
      rw [er] at q
      dsimp only at q
      refine iteT ⟨(by show 1 ≤ sizeLine; decide), fun p np => ?_⟩
      exact q.plain A0 (Same.new np) np upd_same
    | some r =>
      rw [er] at q
      dsimp only at q
      refine iteF ?_
      refine ⟨_, rfl, h, C, dx, hF l, .ref l, rfl, hi, X.cl, X.nR, rfl, l, _, rfl, .inl (SqL.of A0.lst), rfl, _, rfl, ?_⟩
      have e4 : decide (V.int ((as.map V.ref).length : Nat) = V.int 4) = decide (rs.length = 4) := by
        rw [List.length_map, A0.len]
        by_cases c : rs.length = 4
        · rw [c]; rfl
        · rw [decide_eq_false c]; refine decide_eq_false fun e => c ?_
          have := V.int.inj e; omega
      rw [e4]
      by_cases c : rs.length = 4
      · rw [decide_eq_true c]
        rw [if_pos c, if_pos c] at q
        refine iteT ⟨(by show 1 ≤ sizeLine; decide), fun p np => ?_⟩
        exact q.plain A0 (Same.new np) np upd_same
      · rw [decide_eq_false c]
        rw [if_neg c, if_neg c] at q
        refine iteF ?_
        refine ⟨_, rfl, h, C, dx, hF l, .ref l, rfl, hi, X.cl, X.nR, rfl, .inl ⟨rfl, _, SqL.of A0.lst⟩, _, rfl, t, _, rfl, .inl ⟨hT, fun a na => ?_⟩⟩
        have nal : a ≠ l := (ne_of_none A0.lst na).symm
        have nah : a ≠ h := (ne_of_none hi na).symm
        have nhl : h ≠ l := ne_of hi A0.lst (by intro z; cases z)
        refine ⟨l, _, _, rfl, rfl, (Same.new na) _ _ A0.lst, ?_, ?_⟩
        · rw [List.length_map, A0.len]; exact Nat.lt_of_le_of_lt A0.few (by decide)
        · have e5 : as.map V.ref ++ [V.ref a] = (as ++ [a]).map V.ref := by rw [List.map_append]; rfl
          rw [e5]
          have hi2 : upd (upd H a (.tup (ns.map nv))) l (.lst ((as ++ [a]).map V.ref)) h = some (.ins C dx (hF l)) := by rw [upd_ne nhl, upd_ne nah.symm]; exact hi
          refine ⟨_, rfl, h, C, dx, hF l, .ref l, rfl, hi2, X.cl, X.nR, rfl, l, _, rfl, .inl (SqL.of upd_same), _, _, rfl, rfl, (by show 1 ≤ sizeLine; decide), fun p np => ?_⟩
          have np1 : p ≠ l := fun z => by rw [z, upd_same] at np; cases np
          have np2 : upd H a (.tup (ns.map nv)) p = none := by rw [upd_ne np1] at np; exact np
          have np3 : p ≠ a := fun z => by rw [z, upd_same] at np2; cases np2
          have np4 : H p = none := by rw [upd_ne np3] at np2; exact np2
          have nph : p ≠ h := (ne_of_none hi np4).symm
          have tups : ∀ (i : Nat) (b : Addr) (r' : Wf04.Rule), (as ++ [a])[i]? = some b → (rs ++ [r])[i]? = some r' → upd H a (.tup (ns.map nv)) b = some (.tup (code r')) := by
            intro i b r' h1 h2
            rcases get_snoc h1 with h1 | ⟨e, rfl⟩
            · have lt : i < rs.length := by rw [← A0.len]; exact (List.getElem?_eq_some_iff.1 h1).1
              rw [List.getElem?_append_left lt] at h2
              have := A0.at_ i b r' h1 h2
              rw [upd_ne (ne_of_none this na)]; exact this
            · rw [e, A0.len, List.getElem?_append_right (Nat.le_refl _)] at h2
              simp at h2
              subst h2
              rw [upd_same, rule_code er]
          refine q _ p l (as ++ [a]) ⟨⟨dx, by rw [upd_ne nph.symm]; exact hi2⟩, by rw [upd_ne np1.symm]; exact upd_same, by simp [A0.len], ?_, ?_, ?_⟩ (.inl rfl) (fun b o e n1 n2 => ?_) np4 np1 ?_
          · rw [List.length_append, List.length_singleton]; have := A0.few; omega
          · intro i b r' h1 h2
            have := tups i b r' h1 h2
            have nbl : b ≠ l := fun z => by rw [z, upd_ne nal.symm, A0.lst] at this; cases this
            have nbp : b ≠ p := fun z => by rw [z, np2] at this; cases this
            rw [upd_ne nbp, upd_ne nbl]; exact this
          · intro x hx
            rcases List.mem_append.1 hx with h | h
            · exact A0.valid x h
            · rw [List.mem_singleton.1 h]; exact rule_valid er
          · rw [upd_ne (ne_of_none e np4), upd_ne n2, upd_ne (ne_of_none e na)]; exact e
          · rw [upd_same]
            congr 3
            show V.int ((((as ++ [a]).map V.ref).length : Nat) - 1 : Int) = V.int (rs.length : Int)
            rw [List.length_map, List.length_append, A0.len, List.length_singleton]
            congr 1; omega
def dropTo (rs : List Wf04.Rule) (n : Nat) : List Wf04.Rule := if rs.length ≤ n then rs else rs.eraseIdx n
def dropAns (rs : List Wf04.Rule) (n : Nat) : List Int := if rs.length ≤ n then [-2] else [((rs.length - 1 : Nat) : Int)]
def sp_drop (C : Addr) : Sp := fun vs H Q _ => ∃ (h l : Addr) (as : List Addr) (rs : List Wf04.Rule) (n : Nat), vs = [.ref h, .int n] ∧ HouseAt C H h l as rs ∧ n < 4294967296 ∧ Told C H h l Q (dropTo rs n) (dropAns rs n)
theorem erase_map {α β : Type} {f : α → β} : ∀ (l : List α) (n : Nat), (l.map f).eraseIdx n = (l.eraseIdx n).map f
  | [], _ => rfl
  | _ :: _, 0 => rfl
  | a :: l, n + 1 => by
    show f a :: (l.map f).eraseIdx n = f a :: (l.eraseIdx n).map f
    rw [erase_map l n]
theorem get_erase {α : Type} {l : List α} {n i : Nat} : (l.eraseIdx n)[i]? = if i < n then l[i]? else l[i + 1]? := List.getElem?_eraseIdx
theorem ok_drop (T : Con3 mg) (B : Own mg) (D : HasM K C "drop" "House.drop" s_House_drop) (X : Hs K mg C) : CalM P w K mg base C 1 "drop" ["self", "which"] (sp_drop C) := by
  refine D.cal sc_House_drop (fun _ _ _ _ _ _ us hl => match us, hl with | [_, _], _ => rfl) (fun vs H Q E h => ?_) (fun f cdv A outer s H vs Q E hr h => ?_)
  · obtain ⟨h, l, as, rs, n, rfl, _⟩ := h; rfl
  · obtain ⟨h, l, as, rs, n, rfl, A0, hn, q⟩ := h
    obtain ⟨dx, hi⟩ := A0.ins
    refine ⟨_, (pss_cons (ps_if (pt_cmpR op_ge (pv 1) (pe_callB call_len_seq (by rfl) B.len (by decide +kernel) (pa_cons (pe_fld (pv 0) rfl) pa_nil)) (nomark _)) (pss_one (ps_ret (pe_lst (pa_cons (pe_num T.NO_SUCH_RULE) pa_nil)))) pss_nil)
      (pss_cons (ps_expr (pe_bm PySem.F.plainAttrs_list PySem.F.slot_list_pop PySem.F.type_list_pop mt_popAt (pe_fld (pv 0) rfl) (pa_cons (pv 1) pa_nil)))
      (pss_one (ps_ret (pe_lst (pa_cons (pe_callB call_len_seq (by rfl) B.len (by decide +kernel) (pa_cons (pe_fld (pv 0) rfl) pa_nil)) pa_nil)))))), ?_⟩
    refine ⟨_, rfl, _, rfl, h, C, dx, hF l, .ref l, rfl, hi, X.cl, X.nR, rfl, l, _, rfl, .inl (SqL.of A0.lst), _, _, rfl, rfl, _, rfl, ?_⟩
    unfold dropTo dropAns at q
    have e1 : decide (((as.map V.ref).length : Int) ≤ (n : Int)) = decide (rs.length ≤ n) := by rw [List.length_map, A0.len]; simp
    rw [show decide ((n : Int) ≥ ((as.map V.ref).length : Nat)) = decide (rs.length ≤ n) from e1]
    by_cases c : rs.length ≤ n
    · rw [decide_eq_true c]
      rw [if_pos c, if_pos c] at q
      refine iteT ⟨(by show 1 ≤ sizeLine; decide), fun p np => ?_⟩
      exact q.plain A0 (Same.new np) np upd_same
    · rw [decide_eq_false c]
      rw [if_neg c, if_neg c] at q
      refine iteF ?_
      have lt : n < as.length := by rw [A0.len]; omega
      have nhl : h ≠ l := ne_of hi A0.lst (by intro z; cases z)
      refine ⟨_, rfl, h, C, dx, hF l, .ref l, rfl, hi, X.cl, X.nR, rfl, .inl ⟨rfl, _, SqL.of A0.lst⟩, _, rfl, l, _, n, n, .ref as[n], rfl, rfl, A0.lst, by omega, by omega, ?_, ?_, ?_⟩
      · unfold seqIndex?
        rw [List.length_map]
        have c1 : ¬ (n : Int) < 0 := by omega
        have c2 : (decide (0 ≤ (n : Int)) && decide ((n : Int) < (as.length : Nat))) = true := by rw [Bool.and_eq_true]; exact ⟨decide_eq_true (by omega), decide_eq_true (by omega)⟩
        rw [if_neg c1]
        show (if (decide (0 ≤ (n : Int)) && decide ((n : Int) < (as.length : Nat))) = true then some (n : Int).toNat else none) = some n
        rw [if_pos c2]; rfl
      · rw [List.getElem?_map, List.getElem?_eq_getElem lt]; rfl
      · have e5 : (as.map V.ref).eraseIdx n = (as.eraseIdx n).map V.ref := erase_map _ _
        rw [e5]
        have hi2 : upd H l (.lst ((as.eraseIdx n).map V.ref)) h = some (.ins C dx (hF l)) := by rw [upd_ne nhl]; exact hi
        refine ⟨_, rfl, h, C, dx, hF l, .ref l, rfl, hi2, X.cl, X.nR, rfl, l, _, rfl, .inl (SqL.of upd_same), (by show 1 ≤ sizeLine; decide), fun p np => ?_⟩
        have np1 : p ≠ l := fun z => by rw [z, upd_same] at np; cases np
        have np4 : H p = none := by rw [upd_ne np1] at np; exact np
        have nph : p ≠ h := (ne_of_none hi np4).symm
        refine q _ p l (as.eraseIdx n) ⟨⟨dx, by rw [upd_ne nph.symm]; exact hi2⟩, by rw [upd_ne np1.symm]; exact upd_same, ?_, ?_, ?_, ?_⟩ (.inl rfl) (fun b o e n1 n2 => ?_) np4 np1 ?_
        · rw [List.length_eraseIdx, List.length_eraseIdx, A0.len]
        · rw [List.length_eraseIdx]; have := A0.few; split <;> omega
        · intro i b r' h1 h2
          rw [get_erase] at h1 h2
          have : H b = some (.tup (code r')) := by
            by_cases ci : i < n
            · rw [if_pos ci] at h1 h2; exact A0.at_ i b r' h1 h2
            · rw [if_neg ci] at h1 h2; exact A0.at_ (i + 1) b r' h1 h2
          rw [upd_ne (ne_of_none this np4), upd_ne (ne_of this A0.lst (by intro z; cases z))]; exact this
        · intro x hx
          exact A0.valid x (List.mem_of_mem_eraseIdx hx)
        · rw [upd_ne (ne_of_none e np4), upd_ne n2]; exact e
        · rw [upd_same]
          congr 3
          show V.int ((((as.eraseIdx n).map V.ref).length : Nat) : Int) = V.int ((rs.length - 1 : Nat) : Int)
          rw [List.length_map, List.length_eraseIdx, if_pos lt, A0.len]
end
end Cr
end
section
set_option Elab.async false
set_option maxRecDepth 100000
set_option maxHeartbeats 2000000
set_option linter.all false
namespace Cr
open PySem PySem.Spec PyProof.Rows L2
section
variable {P : Program} {w : World} {K : PySem.W.Frag} {mg : Str → Option Value} {base : Heap} {C CS : Addr}
def judgeAns (rs : List Wf04.Rule) (ns : List Nat) : List Int := if Wf04.isRow ns = false then [-1] else (Wf04.flag (rs.all fun r => r.holds ns) : Int) :: (rs.map fun r => (((if r.holds ns = false then 0 else if r.idle ns = true then 2 else 1) : Nat) : Int))
def sp_judge (K : PySem.W.Frag) (C : Addr) : Sp := fun vs H Q _ => ∃ (h l t : Addr) (as : List Addr) (rs : List Wf04.Rule) (ns : List Nat), vs = [.ref h, .ref t] ∧ HouseAt C H h l as rs ∧ SqL K H t (ns.map nv) ∧ ns.length ≤ 1000 ∧ Told C H h l Q rs (judgeAns rs ns)
theorem ok_judge (T : Con3 mg) (B : Own mg) (D : HasM K C "judge" "House.judge" s_House_judge) (X : Hs K mg C) (G_is_row : Cal P w K mg base 2 "is_row" ["steps"] (sp_is_row K)) (G_verdicts_of : Cal P w K mg base 4 "verdicts_of" ["rules", "row"] (sp_verdicts_of K))
    (G_broken_in : Cal P w K mg base 1 "broken_in" ["verdicts"] (sp_broken_in K)) : CalM P w K mg base C 5 "judge" ["self", "steps"] (sp_judge K C) := by
  refine D.cal sc_House_judge (fun _ _ _ _ _ _ us hl => match us, hl with | [_, _], _ => rfl) (fun vs H Q E h => ?_) (fun f cdv A outer s H vs Q E hr h => ?_)
  · obtain ⟨h, l, t, as, rs, ns, rfl, _⟩ := h; rfl
  · obtain ⟨h, l, t, as, rs, ns, rfl, A0, hT, hn, q⟩ := h
    refine ⟨_, (pss_cons (ps_if (pt_not (pt_val (pe_cal G_is_row (hr.mono (by decide)) (pa_cons (pv 1) pa_nil)))) (pss_one (ps_ret (pe_lst (pa_cons (pe_num T.WRONG_FORM) pa_nil)))) pss_nil)
      (pss_cons (ps_set (i := 2) sc_House_judge.nd rfl (Or.inl rfl) (pe_cal G_verdicts_of (hr.mono (by decide)) (pa_cons (pe_fld (pv 0) rfl) (pa_cons (pv 1) pa_nil))))
      (pss_one (ps_ret (pe_op op_cat (pe_lst (pa_cons (pe_ifExp (pt_cmpR (op_eqN hr.units) (pe_cal G_broken_in (hr.mono (by decide)) (pa_cons (pv 2) pa_nil)) (pe_lst pa_nil) (nomark _)) pe_int pe_int) pa_nil)) (pv 2)))))), ?_⟩
    refine ⟨_, rfl, t, ns, rfl, hT, hn, fun H1 s1 => ⟨Wf04.isRow ns, rfl, ?_⟩⟩
    unfold judgeAns at q
    cases e : Wf04.isRow ns with
    | false =>
      rw [if_pos e] at q
      refine iteT ⟨(by show 1 ≤ sizeLine; decide), fun p np => ?_⟩
      exact q.plain A0 (s1.trans (Same.new np)) (s1.free np) upd_same
    | true =>
      rw [if_neg (by rw [e]; decide)] at q
      refine iteF ?_
      have A1 := A0.same s1
      obtain ⟨dx, hi⟩ := A1.ins
      refine ⟨_, rfl, h, C, dx, hF l, .ref l, rfl, hi, X.cl, X.nR, rfl, _, rfl, l, t, as, rs, ns, rfl, A1.rules, s1.seq hT, fun H2 v s2 nv2 hv => ?_⟩
      have ver := pverd_run A0.valid ns
      have bn := brk_nil A0.valid (w := ns)
      have len4 : (rs.map fun r => if r.holds ns = false then 0 else if r.idle ns = true then 2 else 1).length ≤ 4 := by rw [List.length_map]; exact A0.few
      refine ⟨_, rfl, v, _, rfl, SqL.of hv, by rw [ver]; omega, fun H3 g s3 ng hg => ?_⟩
      refine ⟨Nat.zero_le _, fun g2 ng2 => ?_⟩
      have s4 : Same H3 (upd H3 g2 (.lst [])) := Same.new ng2
      refine ⟨g, g2, pbrk rs (prunAll rs ns), [], rfl, rfl, SqL.of (s4 _ _ hg), SqL.of upd_same, _, rfl, ?_⟩
      have s14 := (s1.trans s2).trans (s3.trans s4)
      have hv4 := s4 _ _ (s3 _ _ hv)
      rw [ver] at hv4
      generalize upd H3 g2 (.lst []) = H4 at s14 hv4 ⊢
      have fin : ∀ n : Nat, n = Wf04.flag (rs.all fun r => r.holds ns) → (tLst (tCons (tC (.int n)) tNil)) [some (.ref h), some (.ref t), some (.ref v)] H4 fun x H3 => tVar 2 [some (.ref h), some (.ref t), some (.ref v)] H3 fun y H4 => rCat x y H4 Q := by
        intro n en
        refine ⟨(by show 1 ≤ sizeLine; decide), fun p1 n1 => ?_⟩
        refine ⟨_, rfl, p1, v, _, _, rfl, rfl, upd_same, (Same.new n1) _ _ hv4, ?_, fun p2 n2 => ?_⟩
        · rw [List.length_map]
          exact Nat.le_of_lt (big (by simp only [List.length_cons, List.length_nil]; omega))
        · have s5 : Same H4 (upd H4 p1 (.lst [.int n])) := Same.new n1
          refine q.plain A0 ((s14.trans s5).trans (Same.new n2)) ((s14.trans s5).free n2) ?_
          rw [upd_same, en]
          simp only [List.map_cons, List.map_map, List.cons_append, List.nil_append]
          rfl
      cases e2 : rs.all fun r => r.holds ns with
      | true =>
        rw [decide_eq_true (bn.2 e2)]
        refine iteT ?_
        have := fin 1 (by rw [e2]; rfl)
        exact this
      | false =>
        rw [decide_eq_false (fun z => by have := bn.1 z; unfold Keeps at this; rw [e2] at this; cases this)]
        refine iteF ?_
        have := fin 0 (by rw [e2]; rfl)
        exact this
def sp_shortest (C : Addr) : Sp := fun vs H Q _ => ∃ (h l : Addr) (as : List Addr) (rs : List Wf04.Rule), vs = [.ref h] ∧ HouseAt C H h l as rs ∧ Told C H h l Q rs (rowAns (Wf04.shortest rs))
theorem ok_shortest (D : HasM K C "shortest" "House.shortest" s_House_shortest) (X : Hs K mg C) (N_Spots : CalI P w K mg base CS 5 "Spots" ["self", "rules"] (sp_sinit CS)) (G_earliest_row : Cal P w K mg base 1 "earliest_row" ["spots", "wanted"] (sp_earliest_row K CS)) (G_told_row : Cal P w K mg base 1 "told_row" ["row"] (sp_told_row K)) : CalM P w K mg base C 7 "shortest" ["self"] (sp_shortest C) := by
  refine D.cal sc_House_shortest (fun _ _ _ _ _ _ us hl => match us, hl with | [_], _ => rfl) (fun vs H Q E h => ?_) (fun f cdv A outer s H vs Q E hr h => ?_)
  · obtain ⟨h, l, as, rs, rfl, _⟩ := h; rfl
  · obtain ⟨h, l, as, rs, rfl, A0, q⟩ := h
    obtain ⟨dx, hi⟩ := A0.ins
    refine ⟨_, (pss_one (ps_ret (pe_cal G_told_row (hr.mono (by decide)) (pa_cons (pe_cal G_earliest_row (hr.mono (by decide)) (pa_cons (pe_new N_Spots (hr.mono (by decide)) (pa_cons (pe_fld (pv 0) rfl) pa_nil)) (pa_cons (pe_lst pa_nil) pa_nil))) pa_nil)))), ?_⟩
    refine ⟨_, rfl, h, C, dx, hF l, .ref l, rfl, hi, X.cl, X.nR, rfl, ?_⟩
    intro x dy nx ny ne
    have smk : Same H (upd (upd H dy (.own x)) x (.ins CS dy [])) := Same.put (Same.new ny) nx
    refine ⟨x, dy, l, as, rs, rfl, upd_same, A0.rulesIn.same smk, fun H1 R F S Z kp => ⟨rfl, ?_⟩⟩
    have s1 : Same H H1 := Same.made nx ny kp
    refine ⟨Nat.zero_le _, fun g ng => ?_⟩
    have sg : Same H1 (upd H1 g (.lst [])) := Same.new ng
    refine ⟨x, g, rs, R, F, [], rfl, S.same sg, Z, SqL.of upd_same, fun o ho => ?_⟩
    rw [← spots_short A0.valid A0.few ho] at q
    cases o with
    | none =>
      intro H2 s2
      exact ⟨none, rfl, fun H3 p s3 np hp => q.plain A0 ((s1.trans sg).trans (s2.trans s3)) ((s1.trans sg).free (s2.free np)) hp⟩
    | some ws =>
      intro lw H2 p s2 hp
      exact ⟨some ws, ⟨lw, p, rfl, hp⟩, fun H3 p s3 np hp => q.plain A0 ((s1.trans sg).trans (s2.trans s3)) ((s1.trans sg).free (s2.free np)) hp⟩
def breaksAns (rs : List Wf04.Rule) (n : Nat) : List Int := if rs.length ≤ n then [-2] else rowAns (Wf04.breaks rs n)
def sp_breaks (C : Addr) : Sp := fun vs H Q _ => ∃ (h l : Addr) (as : List Addr) (rs : List Wf04.Rule) (n : Nat), vs = [.ref h, nv n] ∧ HouseAt C H h l as rs ∧ Told C H h l Q rs (breaksAns rs n)
theorem ok_breaks (T : Con3 mg) (B : Own mg) (D : HasM K C "breaks" "House.breaks" s_House_breaks) (X : Hs K mg C) (N_Spots : CalI P w K mg base CS 5 "Spots" ["self", "rules"] (sp_sinit CS)) (G_earliest_row : Cal P w K mg base 1 "earliest_row" ["spots", "wanted"] (sp_earliest_row K CS)) (G_told_row : Cal P w K mg base 1 "told_row" ["row"] (sp_told_row K)) : CalM P w K mg base C 7 "breaks" ["self", "which"] (sp_breaks C) := by
  refine D.cal sc_House_breaks (fun _ _ _ _ _ _ us hl => match us, hl with | [_, _], _ => rfl) (fun vs H Q E h => ?_) (fun f cdv A outer s H vs Q E hr h => ?_)
  · obtain ⟨h, l, as, rs, n, rfl, _⟩ := h; rfl
  · obtain ⟨h, l, as, rs, n, rfl, A0, q⟩ := h
    obtain ⟨dx, hi⟩ := A0.ins
    refine ⟨_, (pss_cons (ps_if (pt_cmpR op_ge (pv 1) (pe_callB call_len_seq (by rfl) B.len (by decide +kernel) (pa_cons (pe_fld (pv 0) rfl) pa_nil)) (nomark _)) (pss_one (ps_ret (pe_lst (pa_cons (pe_num T.NO_SUCH_RULE) pa_nil)))) pss_nil)
      (pss_one (ps_ret (pe_cal G_told_row (hr.mono (by decide)) (pa_cons (pe_cal G_earliest_row (hr.mono (by decide)) (pa_cons (pe_new N_Spots (hr.mono (by decide)) (pa_cons (pe_fld (pv 0) rfl) pa_nil)) (pa_cons (pe_lst (pa_cons (pv 1) pa_nil)) pa_nil))) pa_nil))))), ?_⟩
    refine ⟨_, rfl, _, rfl, h, C, dx, hF l, .ref l, rfl, hi, X.cl, X.nR, rfl, l, _, rfl, .inl (SqL.of A0.lst), _, _, rfl, rfl, _, rfl, ?_⟩
    unfold breaksAns at q
    have e1 : decide (((as.map V.ref).length : Int) ≤ (n : Int)) = decide (rs.length ≤ n) := by rw [List.length_map, A0.len]; simp
    rw [show decide ((n : Int) ≥ ((as.map V.ref).length : Nat)) = decide (rs.length ≤ n) from e1]
    by_cases c : rs.length ≤ n
    · rw [decide_eq_true c]
      rw [if_pos c] at q
      refine iteT ⟨(by show 1 ≤ sizeLine; decide), fun p np => ?_⟩
      exact q.plain A0 (Same.new np) np upd_same
    · rw [decide_eq_false c]
      rw [if_neg c] at q
      refine iteF ?_
      refine ⟨_, rfl, h, C, dx, hF l, .ref l, rfl, hi, X.cl, X.nR, rfl, ?_⟩
      intro x dy nx ny ne
      have smk : Same H (upd (upd H dy (.own x)) x (.ins CS dy [])) := Same.put (Same.new ny) nx
      refine ⟨x, dy, l, as, rs, rfl, upd_same, A0.rulesIn.same smk, fun H1 R F S Z kp => ⟨rfl, ?_⟩⟩
      have s1 : Same H H1 := Same.made nx ny kp
      refine ⟨_, rfl, (by show 1 ≤ sizeLine; decide), fun g ng => ?_⟩
      have sg : Same H1 (upd H1 g (.lst [nv n])) := Same.new ng
      refine ⟨x, g, rs, R, F, [n], rfl, S.same sg, Z, SqL.of upd_same, fun o ho => ?_⟩
      rw [← spots_breaks A0.valid A0.few ho] at q
      cases o with
      | none =>
        intro H2 s2
        exact ⟨none, rfl, fun H3 p s3 np hp => q.plain A0 ((s1.trans sg).trans (s2.trans s3)) ((s1.trans sg).free (s2.free np)) hp⟩
      | some ws =>
        intro lw H2 p s2 hp
        exact ⟨some ws, ⟨lw, p, rfl, hp⟩, fun H3 p s3 np hp => q.plain A0 ((s1.trans sg).trans (s2.trans s3)) ((s1.trans sg).free (s2.free np)) hp⟩
def countAns (rs : List Wf04.Rule) (n : Nat) : List Int := if 10 < n then [-1] else [((Wf04.count rs n : Nat) : Int)]
def sp_count (C : Addr) : Sp := fun vs H Q _ => ∃ (h l : Addr) (as : List Addr) (rs : List Wf04.Rule) (n : Nat), vs = [.ref h, nv n] ∧ HouseAt C H h l as rs ∧ Told C H h l Q rs (countAns rs n)
theorem ok_count (T : Con3 mg) (D : HasM K C "count" "House.count" s_House_count) (X : Hs K mg C) (N_Spots : CalI P w K mg base CS 5 "Spots" ["self", "rules"] (sp_sinit CS)) (G_rows_that_keep_all : Cal P w K mg base 2 "rows_that_keep_all" ["spots", "many"] (sp_rows_that CS)) : CalM P w K mg base C 7 "count" ["self", "many"] (sp_count C) := by
  refine D.cal sc_House_count (fun _ _ _ _ _ _ us hl => match us, hl with | [_, _], _ => rfl) (fun vs H Q E h => ?_) (fun f cdv A outer s H vs Q E hr h => ?_)
  · obtain ⟨h, l, as, rs, n, rfl, _⟩ := h; rfl
  · obtain ⟨h, l, as, rs, n, rfl, A0, q⟩ := h
    obtain ⟨dx, hi⟩ := A0.ins
    refine ⟨_, (pss_cons (ps_if (pt_cmpR op_gt (pv 1) (pe_num T.MOST_COUNTED) (nomark _)) (pss_one (ps_ret (pe_lst (pa_cons (pe_num T.WRONG_FORM) pa_nil)))) pss_nil)
      (pss_one (ps_ret (pe_lst (pa_cons (pe_cal G_rows_that_keep_all (hr.mono (by decide)) (pa_cons (pe_new N_Spots (hr.mono (by decide)) (pa_cons (pe_fld (pv 0) rfl) pa_nil)) (pa_cons (pv 1) pa_nil))) pa_nil))))), ?_⟩
    refine ⟨_, rfl, _, _, rfl, rfl, _, rfl, ?_⟩
    unfold countAns at q
    have e1 : decide ((n : Int) > 10) = decide (10 < n) := by simp; omega
    rw [e1]
    by_cases c : 10 < n
    · rw [decide_eq_true c]
      rw [if_pos c] at q
      refine iteT ⟨(by show 1 ≤ sizeLine; decide), fun p np => ?_⟩
      exact q.plain A0 (Same.new np) np upd_same
    · rw [decide_eq_false c]
      rw [if_neg c] at q
      refine iteF ?_
      refine ⟨_, rfl, h, C, dx, hF l, .ref l, rfl, hi, X.cl, X.nR, rfl, ?_⟩
      intro x dy nx ny ne
      have smk : Same H (upd (upd H dy (.own x)) x (.ins CS dy [])) := Same.put (Same.new ny) nx
      refine ⟨x, dy, l, as, rs, rfl, upd_same, A0.rulesIn.same smk, fun H1 R F S Z kp => ⟨rfl, ?_⟩⟩
      have s1 : Same H H1 := Same.made nx ny kp
      refine ⟨_, rfl, x, n, rs, R, F, rfl, by omega, S, Z, A0.valid, A0.few, fun H2 s2 => ?_⟩
      refine ⟨(by show 1 ≤ sizeLine; decide), fun p np => ?_⟩
      exact q.plain A0 ((s1.trans s2).trans (Same.new np)) ((s1.trans s2).free np) upd_same
def spareAns (rs : List Wf04.Rule) : List Int := ((((List.range rs.length).filter fun i => (Wf04.breaks rs i).isNone).length : Nat) : Int) :: ((List.range rs.length).filter fun i => (Wf04.breaks rs i).isNone).map fun n : Nat => (n : Int)
def sp_spare (C : Addr) : Sp := fun vs H Q _ => ∃ (h l : Addr) (as : List Addr) (rs : List Wf04.Rule), vs = [.ref h] ∧ HouseAt C H h l as rs ∧ Told C H h l Q rs (spareAns rs)
theorem ok_spare (B : Own mg) (D : HasM K C "spare" "House.spare" s_House_spare) (X : Hs K mg C) (N_Spots : CalI P w K mg base CS 5 "Spots" ["self", "rules"] (sp_sinit CS)) (G_spare_of : Cal P w K mg base 2 "spare_of" ["spots", "many"] (sp_spare_of CS)) : CalM P w K mg base C 7 "spare" ["self"] (sp_spare C) := by
  refine D.cal sc_House_spare (fun _ _ _ _ _ _ us hl => match us, hl with | [_], _ => rfl) (fun vs H Q E h => ?_) (fun f cdv A outer s H vs Q E hr h => ?_)
  · obtain ⟨h, l, as, rs, rfl, _⟩ := h; rfl
  · obtain ⟨h, l, as, rs, rfl, A0, q⟩ := h
    obtain ⟨dx, hi⟩ := A0.ins
    refine ⟨_, (pss_cons (ps_set (i := 1) sc_House_spare.nd rfl (Or.inl rfl) (pe_cal G_spare_of (hr.mono (by decide)) (pa_cons (pe_new N_Spots (hr.mono (by decide)) (pa_cons (pe_fld (pv 0) rfl) pa_nil)) (pa_cons (pe_callB call_len_seq (by rfl) B.len (by decide +kernel) (pa_cons (pe_fld (pv 0) rfl) pa_nil)) pa_nil))))
      (pss_one (ps_ret (pe_op op_cat (pe_lst (pa_cons (pe_callB call_len_seq (by rfl) B.len (by decide +kernel) (pa_cons (pv 1) pa_nil)) pa_nil)) (pv 1))))), ?_⟩
    refine ⟨_, rfl, h, C, dx, hF l, .ref l, rfl, hi, X.cl, X.nR, rfl, ?_⟩
    intro x dy nx ny ne
    have smk : Same H (upd (upd H dy (.own x)) x (.ins CS dy [])) := Same.put (Same.new ny) nx
    refine ⟨x, dy, l, as, rs, rfl, upd_same, A0.rulesIn.same smk, fun H1 R F S Z kp => ⟨rfl, ?_⟩⟩
    have s1 : Same H H1 := Same.made nx ny kp
    refine ⟨_, rfl, h, C, dx, hF l, .ref l, rfl, s1 _ _ hi, X.cl, X.nR, rfl, l, _, rfl, .inl (SqL.of (s1 _ _ A0.lst)), ?_⟩
    refine ⟨x, rs, R, F, by rw [List.length_map, A0.len]; rfl, S, Z, A0.valid, A0.few, fun H2 g s2 ng hg => ?_⟩
    unfold spareAns at q
    have lf : ((List.range rs.length).filter fun i => (Wf04.breaks rs i).isNone).length ≤ 4 := by
      have := List.length_filter_le (fun i => (Wf04.breaks rs i).isNone) (List.range rs.length)
      rw [List.length_range] at this
      have := A0.few
      omega
    generalize (List.range rs.length).filter (fun i => (Wf04.breaks rs i).isNone) = L at q hg lf
    refine ⟨_, rfl, g, _, rfl, .inl (SqL.of hg), (by show 1 ≤ sizeLine; decide), fun p1 n1 => ?_⟩
    have s3 : Same H2 (upd H2 p1 (.lst [.int (((L.map nv).length : Nat) : Int)])) := Same.new n1
    refine ⟨_, rfl, p1, g, _, _, rfl, rfl, upd_same, s3 _ _ hg, ?_, fun p2 n2 => ?_⟩
    · rw [List.length_map]
      exact Nat.le_of_lt (big (by simp only [List.length_cons, List.length_nil]; omega))
    · refine q.plain A0 (((s1.trans s2).trans s3).trans (Same.new n2)) (((s1.trans s2).trans s3).free n2) ?_
      rw [upd_same, List.length_map]
      simp only [List.map_cons, List.map_map, List.cons_append, List.nil_append]
      rfl
end
end Cr
end
section
set_option Elab.async false
set_option maxRecDepth 100000
set_option maxHeartbeats 2000000
set_option linter.all false
namespace Cr
open PySem PySem.Spec PyProof.Rows L2
theorem clashes_few {rs : List Wf04.Rule} {R : Rows (List Nat)} {F : List (List Nat)} (Z : Spots rs R F) (v : ∀ r ∈ rs, Valid r) (hl : rs.length ≤ 4) : (Wf04.clashes rs).length ≤ 16 ∧ ∀ s ∈ Wf04.clashes rs, s.length ≤ 4 := by
  have h := clash_few (rs := rs) (R := R) (Wf04.sets rs.length) [] (fun s hs => set_few (sets_ok hl).1 hs) (fun s hs => by cases hs)
  rw [clash_same Z v hl, List.length_nil] at h
  have := sets_few hl
  exact ⟨by omega, h.2⟩
section
variable {P : Program} {w : World} {K : PySem.W.Frag} {mg : Str → Option Value} {base : Heap} {C CS : Addr}
def clashesAns (rs : List Wf04.Rule) : List Int := ((Wf04.clashes rs).length : Int) :: ((Wf04.clashes rs).flatMap fun s => s.length :: s).map fun n : Nat => (n : Int)
def sp_clashes (C : Addr) : Sp := fun vs H Q _ => ∃ (h l : Addr) (as : List Addr) (rs : List Wf04.Rule), vs = [.ref h] ∧ HouseAt C H h l as rs ∧ Told C H h l Q rs (clashesAns rs)
theorem ok_clashes (B : Own mg) (D : HasM K C "clashes" "House.clashes" s_House_clashes) (X : Hs K mg C) (N_Spots : CalI P w K mg base CS 5 "Spots" ["self", "rules"] (sp_sinit CS)) (G_clashes_of : Cal P w K mg base 3 "clashes_of" ["spots", "many"] (sp_clashes_of CS)) : CalM P w K mg base C 7 "clashes" ["self"] (sp_clashes C) := by
  refine D.cal sc_House_clashes (fun _ _ _ _ _ _ us hl => match us, hl with | [_], _ => rfl) (fun vs H Q E h => ?_) (fun f cdv A outer s H vs Q E hr h => ?_)
  · obtain ⟨h, l, as, rs, rfl, _⟩ := h; rfl
  · obtain ⟨h, l, as, rs, rfl, A0, q⟩ := h
    obtain ⟨dx, hi⟩ := A0.ins
    refine ⟨_, (pss_cons (ps_set (i := 1) sc_House_clashes.nd rfl (Or.inl rfl) (pe_cal G_clashes_of (hr.mono (by decide)) (pa_cons (pe_new N_Spots (hr.mono (by decide)) (pa_cons (pe_fld (pv 0) rfl) pa_nil)) (pa_cons (pe_callB call_len_seq (by rfl) B.len (by decide +kernel) (pa_cons (pe_fld (pv 0) rfl) pa_nil)) pa_nil))))
      (pss_cons (ps_set (i := 2) sc_House_clashes.nd rfl (Or.inl rfl) (pe_lst (pa_cons (pe_callB call_len_seq (by rfl) B.len (by decide +kernel) (pa_cons (pv 1) pa_nil)) pa_nil)))
      (pss_cons (ps_for PassesOwn.never rfl (pi_list (pv 1)) (pg_name (i := 3) sc_House_clashes.nd rfl (Or.inl rfl))
      (pss_cons (ps_expr (pe_bm PySem.F.plainAttrs_list PySem.F.slot_list_append PySem.F.type_list_append mt_append (pv 2) (pa_cons (pe_callB call_len_seq (by rfl) B.len (by decide +kernel) (pa_cons (pv 3) pa_nil)) pa_nil)))
      (pss_one (ps_expr (pe_bm PySem.F.plainAttrs_list PySem.F.slot_list_extend PySem.F.type_list_extend mt_extend (pv 2) (pa_cons (pv 3) pa_nil))))))
      (pss_one (ps_ret (pv 2)))))), ?_⟩
    refine ⟨_, rfl, h, C, dx, hF l, .ref l, rfl, hi, X.cl, X.nR, rfl, ?_⟩
    intro x dy nx ny ne
    have smk : Same H (upd (upd H dy (.own x)) x (.ins CS dy [])) := Same.put (Same.new ny) nx
    refine ⟨x, dy, l, as, rs, rfl, upd_same, A0.rulesIn.same smk, fun H1 R F S Z kp => ⟨rfl, ?_⟩⟩
    have s1 : Same H H1 := Same.made nx ny kp
    refine ⟨_, rfl, h, C, dx, hF l, .ref l, rfl, s1 _ _ hi, X.cl, X.nR, rfl, l, _, rfl, .inl (SqL.of (s1 _ _ A0.lst)), ?_⟩
    refine ⟨x, rs, R, F, by rw [List.length_map, A0.len]; rfl, S, Z, A0.valid, A0.few, fun H2 g gs s2 ng hg eG hgs => ?_⟩
    have cf := clashes_few Z.1 A0.valid A0.few
    unfold clashesAns at q
    generalize Wf04.clashes rs = L at q eG cf
    have lg : gs.length = L.length := eG.1
    refine ⟨_, rfl, g, _, rfl, .inl (SqL.of hg), (by show 1 ≤ sizeLine; decide), fun t nt => ?_⟩
    have s3 : Same H2 (upd H2 t (.lst [.int (((gs.map V.ref).length : Nat) : Int)])) := Same.new nt
    refine ⟨_, rfl, g, rfl, ⟨_, SqL.of (s3 _ _ hg)⟩, for_list (K := K) (a := g) (xs := gs.map V.ref) (fun i σ H' => ∃ v3 : Option V, σ = [some (.ref h), some (.ref g), some (.ref t), v3] ∧ Same H2 H' ∧ H' t = some (.lst (nv L.length :: ((L.take i).flatMap fun s => s.length :: s).map nv)))
      ⟨none, rfl, s3, by rw [upd_same, List.length_map, lg]; rfl⟩ (fun i σ H' _ ⟨_, _, sm, _⟩ => SqL.of (sm _ _ hg)) ?_ ?_⟩
    · rintro i y σ H3 hi3 ⟨v3, rfl, sm, ht⟩
      obtain ⟨d, hd, rfl⟩ := map_get hi3
      have li : i < L.length := by rw [← lg]; exact (List.getElem?_eq_some_iff.1 hd).1
      have gi : L[i]? = some L[i] := List.getElem?_eq_getElem li
      have hcd := sm _ _ (eG.2 i _ d gi hd)
      have ls := cf.2 _ (List.getElem_mem li)
      have ndt : d ≠ t := ne_of_none (eG.2 i _ d gi hd) nt
      have lsum : ((L.take i).flatMap fun s => s.length :: s).length ≤ 80 := by
        have h1 := flat_few (f := fun s : List Nat => s.length :: s) (m := 5) (L.take i) (fun s hs => by have := cf.2 s (List.mem_of_mem_take hs); simp only [List.length_cons]; omega)
        have h2 : (L.take i).length ≤ L.length := by rw [List.length_take]; omega
        omega
      refine ⟨_, rfl, .inl ⟨rfl, _, SqL.of ht⟩, _, rfl, d, _, rfl, .inl (SqL.of hcd), t, _, _, rfl, rfl, ht, ?_, ?_⟩
      · rw [List.length_cons, List.length_map]; exact big (by omega)
      refine ⟨_, rfl, .inl ⟨rfl, _, SqL.of upd_same⟩, _, rfl, t, d, _, _, rfl, rfl, upd_same, by rw [upd_ne ndt]; exact hcd, ?_, _, rfl, Same.put (Same.put sm nt) nt, ?_⟩
      · rw [List.length_append, List.length_cons, List.length_map, List.length_map, List.length_singleton]; exact Nat.le_of_lt (big (by omega))
      · rw [upd_same, flat_snoc gi, List.map_append]
        simp only [List.map_cons, List.length_map, List.cons_append, List.append_assoc, List.nil_append]
    · rintro σ H3 ⟨v3, rfl, sm, ht⟩
      rw [List.length_map, lg, List.take_length] at ht
      refine ⟨_, rfl, q.plain A0 ((s1.trans s2).trans sm) ((s1.trans s2).free nt) ?_⟩
      rw [ht]
      simp only [List.map_cons, List.map_map]
      rfl
def nearAns : Option Wf04.Way → List Int
  | none => [-6]
  | some y => (y.1 : Int) :: y.2.map fun n : Nat => (n : Int)
def nearestAns (rs : List Wf04.Rule) (ns : List Nat) : List Int := if Wf04.isRow ns = false then [-1] else nearAns (Wf04.nearest rs ns)
def sp_nearest (C : Addr) : Sp := fun vs H Q _ => ∃ (h l t : Addr) (as : List Addr) (rs : List Wf04.Rule) (ns : List Nat), vs = [.ref h, .ref t] ∧ HouseAt C H h l as rs ∧ H t = some (.lst (ns.map nv)) ∧ ns.length ≤ 1000 ∧ Told C H h l Q rs (nearestAns rs ns)
theorem row_of {ns : List Nat} (h : Wf04.isRow ns = true) : Row ns ∧ ns.length ≤ 8 := by
  unfold Wf04.isRow at h
  rw [Bool.and_eq_true] at h
  exact ⟨fun c hc => of_decide_eq_true (List.all_eq_true.1 h.2 c hc), of_decide_eq_true h.1⟩
theorem ok_nearest (T : Con3 mg) (B : Own mg) (D : HasM K C "nearest" "House.nearest" s_House_nearest) (X : Hs K mg C) (N_Spots : CalI P w K mg base CS 5 "Spots" ["self", "rules"] (sp_sinit CS)) (G_is_row : Cal P w K mg base 2 "is_row" ["steps"] (sp_is_row K)) (G_nearest_row : Cal P w K mg base 4 "nearest_row" ["spots", "given"] (sp_nearest_row CS)) : CalM P w K mg base C 7 "nearest" ["self", "steps"] (sp_nearest C) := by
  refine D.cal sc_House_nearest (fun _ _ _ _ _ _ us hl => match us, hl with | [_, _], _ => rfl) (fun vs H Q E h => ?_) (fun f cdv A outer s H vs Q E hr h => ?_)
  · obtain ⟨h, l, t, as, rs, ns, rfl, _⟩ := h; rfl
  · obtain ⟨h, l, t, as, rs, ns, rfl, A0, hT, hn, q⟩ := h
    refine ⟨_, (pss_cons (ps_if (pt_not (pt_val (pe_cal G_is_row (hr.mono (by decide)) (pa_cons (pv 1) pa_nil)))) (pss_one (ps_ret (pe_lst (pa_cons (pe_num T.WRONG_FORM) pa_nil)))) pss_nil)
      (pss_cons (ps_set (i := 2) sc_House_nearest.nd rfl (Or.inl rfl) (pe_cal G_nearest_row (hr.mono (by decide)) (pa_cons (pe_new N_Spots (hr.mono (by decide)) (pa_cons (pe_fld (pv 0) rfl) pa_nil)) (pa_cons (pv 1) pa_nil))))
      (pss_cons (ps_if (pt_cmpR op_isN (pv 2) pe_non (nomark _)) (pss_one (ps_ret (pe_lst (pa_cons (pe_num T.NO_SUCH_ROW) pa_nil)))) pss_nil)
      (pss_one (ps_ret (pe_op op_cat (pe_lst (pa_cons (pe_ix ix_tup (pv 2) pe_int (fun _ _ => rfl)) pa_nil)) (pe_callTy call_list_of (by rfl) B.list (by decide +kernel) (pa_cons (pe_ix ix_tup (pv 2) pe_int (fun _ _ => rfl)) pa_nil)))))))), ?_⟩
    refine ⟨_, rfl, t, ns, rfl, SqL.of hT, hn, fun H0 s0 => ⟨Wf04.isRow ns, rfl, ?_⟩⟩
    unfold nearestAns at q
    cases e : Wf04.isRow ns with
    | false =>
      rw [if_pos e] at q
      refine iteT ⟨(by show 1 ≤ sizeLine; decide), fun p np => ?_⟩
      exact q.plain A0 (s0.trans (Same.new np)) (s0.free np) upd_same
    | true =>
      rw [if_neg (by rw [e]; decide)] at q
      obtain ⟨rN, l8⟩ := row_of e
      refine iteF ?_
      have A1 := A0.same s0
      obtain ⟨dx, hi⟩ := A1.ins
      refine ⟨_, rfl, h, C, dx, hF l, .ref l, rfl, hi, X.cl, X.nR, rfl, ?_⟩
      intro x dy nx ny ne
      have smk : Same H0 (upd (upd H0 dy (.own x)) x (.ins CS dy [])) := Same.put (Same.new ny) nx
      refine ⟨x, dy, l, as, rs, rfl, upd_same, A1.rulesIn.same smk, fun H1 R F S Z kp => ⟨rfl, ?_⟩⟩
      have s1 : Same H0 H1 := Same.made nx ny kp
      have s01 := s0.trans s1
      refine ⟨_, rfl, x, t, rs, R, F, ns, rfl, S, Z, A0.valid, A0.few, s01 _ _ hT, rN, l8, ?_⟩
      cases en : Wf04.nearest rs ns with
      | none =>
        rw [en] at q
        intro H2 s2
        refine ⟨_, rfl, rfl, _, rfl, iteT ⟨(by show 1 ≤ sizeLine; decide), fun p np => ?_⟩⟩
        exact q.plain A0 ((s01.trans s2).trans (Same.new np)) ((s01.trans s2).free np) upd_same
      | some y =>
        rw [en] at q
        intro ly H2 p u s2 hp hu
        refine ⟨_, rfl, rfl, _, rfl, iteF ?_⟩
        refine ⟨_, rfl, p, _, 0, nv y.1, rfl, rfl, SqT.of hp, rfl, (by show 1 ≤ sizeLine; decide), fun p1 n1 => ?_⟩
        have s3 : Same H2 (upd H2 p1 (.lst [nv y.1])) := Same.new n1
        refine ⟨_, rfl, p, _, 1, .ref u, rfl, rfl, SqT.of (s3 _ _ hp), rfl, u, _, rfl, .inr (SqT.of (s3 _ _ hu)), fun p2 n2 => ?_⟩
        have n21 : p1 ≠ p2 := fun z => by rw [← z, upd_same] at n2; cases n2
        refine ⟨p1, p2, _, _, rfl, rfl, by rw [upd_ne n21]; exact upd_same, upd_same, ?_, fun p3 n3 => ?_⟩
        · rw [List.length_map]; exact Nat.le_of_lt (big (by simp only [List.length_cons, List.length_nil]; omega))
        · have s4 : Same H2 (upd (upd H2 p1 (.lst [nv y.1])) p2 (.lst (y.2.map nv))) := s3.trans (Same.new n2)
          refine q.plain A0 ((s01.trans s2).trans (s4.trans (Same.new n3))) ((s01.trans s2).free (s4.free n3)) ?_
          rw [upd_same]
          simp only [nearAns, List.map_cons, List.map_map, List.cons_append, List.nil_append]
          rfl
end
end Cr
end
section
set_option Elab.async false
set_option maxRecDepth 100000
set_option maxHeartbeats 2000000
set_option linter.all false
namespace Cr
open PySem PySem.Spec PyProof.Rows L2
theorem cut_row (xs : List V) (i m : Nat) (h : i + m ≤ xs.length) : cutV xs (some (i : Int)) (some ((i : Int) + (m : Int))) = (xs.drop i).take m := by
  unfold cutV
  rw [show ((i : Int) + (m : Int)) = ((i + m : Nat) : Int) by omega, HT.sIx_nat, HT.sIx_nat, Nat.min_eq_left h, Nat.min_eq_left (by omega)]
  congr 1; omega
section
variable {P : Program} {w : World} {K : PySem.W.Frag} {mg : Str → Option Value} {base : Heap} {C : Addr}
def sp_row_at (K : PySem.W.Frag) : Sp := fun vs H Q _ => ∃ (a : Addr) (ns : List Nat) (i m : Nat), vs = [.ref a, .int i] ∧ SqL K H a (ns.map nv) ∧ ns[i]? = some m ∧ i + 1 + m ≤ ns.length ∧
  ∀ H' p, Same H H' → H p = none → H' p = some (.lst (((ns.drop (i + 1)).take m).map nv)) → Q (.ref p) H'
theorem ok_row_at (D : Has K mg "row_at" s_row_at) : Cal P w K mg base 1 "row_at" ["calls", "place"] (sp_row_at K) := by
  refine D.cal sc_row_at (fun _ _ _ _ _ _ us hl => match us, hl with | [_, _], _ => rfl) (fun vs H Q E h => ?_) (fun f cdv A outer s H vs Q E hr h => ?_)
  · obtain ⟨a, ns, i, m, rfl, _⟩ := h; rfl
  · obtain ⟨a, ns, i, m, rfl, hS, gi, hm, q⟩ := h
    refine ⟨_, (pss_cons (ps_set (i := 2) sc_row_at.nd rfl (Or.inl rfl) (pe_op op_add (pv 1) pe_int))
      (pss_one (ps_ret (pe_slice sl_list (pv 0) (po_some (pv 2)) (po_some (pe_op op_add (pv 2) (pe_ix ix_list (pv 0) (pv 1) (fun _ _ => rfl)))))))), ?_⟩
    refine ⟨_, rfl, _, _, rfl, rfl, _, rfl, _, rfl, _, rfl, _, rfl, _, rfl, _, rfl, a, _, i, nv m, rfl, rfl, hS, atI_nat (by rw [List.getElem?_map, gi]; rfl), _, _, rfl, rfl, _, rfl, a, _, rfl, hS, fun p np => ?_⟩
    refine q _ p (Same.new np) np ?_
    rw [upd_same]
    have := cut_row (ns.map nv) (i + 1) m (by rw [List.length_map]; exact hm)
    rw [← List.map_drop, ← List.map_take] at this
    rw [← this]
    rfl
end
end Cr
end
section
set_option Elab.async false
set_option maxRecDepth 100000
set_option maxHeartbeats 2000000
set_option linter.all false
namespace Cr
open PySem PySem.Spec PyProof.Rows L2
theorem HouseAt.upd {C : Addr} {H : Hp} {h l t : Addr} {as : List Addr} {rs : List Wf04.Rule} {xs : List V} {o : HO} (A : HouseAt C H h l as rs) (ht : H t = some (.lst xs)) (nl : t ≠ l) : HouseAt C (upd H t o) h l as rs := by
  obtain ⟨dx, hi⟩ := A.ins
  refine ⟨⟨dx, ?_⟩, ?_, A.len, A.few, fun i a r h1 h2 => ?_, A.valid⟩
  · rw [upd_ne (ne_of hi ht (by intro z; cases z))]; exact hi
  · rw [upd_ne nl.symm]; exact A.lst
  · have := A.at_ i a r h1 h2
    rw [upd_ne (ne_of this ht (by intro z; cases z))]; exact this
section
variable {P : Program} {w : World} {K : PySem.W.Frag} {mg : Str → Option Value} {base : Heap} {C : Addr}
def sp_answer_at (K : PySem.W.Frag) (C : Addr) : Sp := fun vs H Q _ => ∃ (h l a : Addr) (as : List Addr) (rs : List Wf04.Rule) (ns : List Nat) (i : Nat) (k : Wf04.Call) (j : Nat), vs = [.ref h, .ref a, .int i] ∧ HouseAt C H h l as rs ∧ SqL K H a (ns.map nv) ∧ (∀ n ∈ ns, n < 4294967296) ∧ CallAt ns i k j ∧
  Told C H h l Q (nextR rs k) (ansR rs k)
def sp_place_behind (K : PySem.W.Frag) : Sp := fun vs H Q _ => ∃ (a : Addr) (ns : List Nat) (i : Nat) (k : Wf04.Call) (j : Nat), vs = [.ref a, .int i] ∧ SqL K H a (ns.map nv) ∧ CallAt ns i k j ∧ ∀ H', Same H H' → Q (.int j) H'
def sp_answers (K : PySem.W.Frag) : Sp := fun vs H Q _ => ∃ (a : Addr) (ns : List Nat), vs = [.ref a] ∧ SqL K H a (ns.map nv) ∧ (∀ n ∈ ns, n < 4294967296) ∧ PyWf04.answers_asked (asInts ns) = true ∧
  ∀ (H' : Hp) (p : Addr), H' p = some (.lst ((PyWf04.answers (asInts ns)).map V.int)) → Q (.ref p) H'
theorem ok_answers {f : Addr} {fd : FuncData} (F : Fun K "answers" "answers" s_answers f fd) (B : Own mg) (X : Hs K mg C) {fI : Addr} {fdI : FuncData} (M_House : Mk K C fI) (GI_House : FnOk P w K mg base CX0 1 fI fdI ["self"] (sp_init C)) (bI_House : Binds K fdI ["self"] [])
    (G_answer_at : Cal P w K mg base 20 "answer_at" ["house", "calls", "place"] (sp_answer_at K C)) (G_place_behind : Cal P w K mg base 1 "place_behind" ["calls", "place"] (sp_place_behind K)) : FnOk P w K mg base CX0 21 f fd ["calls"] (sp_answers K) := by
  refine F.ok sc_answers (fun vs H Q E h => ?_) (fun cdv A outer s H vs Q E hr h => ?_)
  · obtain ⟨a, ns, rfl, _⟩ := h; rfl
  · obtain ⟨a, ns, rfl, hS, hb, ask, q⟩ := h
    obtain ⟨due, ln⟩ := asked_due ask
    refine ⟨_, (pss_cons (ps_set (i := 1) sc_answers.nd rfl (Or.inl rfl) (pe_make0 M_House GI_House (hr.mono (by decide)) rfl X.gC bI_House .nil pass0))
      (pss_cons (ps_set (i := 2) sc_answers.nd rfl (Or.inl rfl) (pe_lst pa_nil))
      (pss_cons (ps_set (i := 3) sc_answers.nd rfl (Or.inl rfl) pe_int)
      (pss_cons (ps_while PassesOwn.never (pt_cmpR op_lt (pv 3) (pe_callB call_len_seq (by rfl) B.len (by decide +kernel) (pa_cons (pv 0) pa_nil)) (nomark _))
      (pss_cons (ps_set (i := 4) sc_answers.nd rfl (Or.inl rfl) (pe_cal G_answer_at (hr.mono (by decide)) (pa_cons (pv 1) (pa_cons (pv 0) (pa_cons (pv 3) pa_nil)))))
      (pss_cons (ps_expr (pe_bm PySem.F.plainAttrs_list PySem.F.slot_list_append PySem.F.type_list_append mt_append (pv 2) (pa_cons (pe_callB call_len_seq (by rfl) B.len (by decide +kernel) (pa_cons (pv 4) pa_nil)) pa_nil)))
      (pss_cons (ps_expr (pe_bm PySem.F.plainAttrs_list PySem.F.slot_list_extend PySem.F.type_list_extend mt_extend (pv 2) (pa_cons (pv 4) pa_nil)))
      (pss_one (ps_set (i := 3) sc_answers.nd rfl (Or.inl rfl) (pe_cal G_place_behind (hr.mono (by decide)) (pa_cons (pv 0) (pa_cons (pv 3) pa_nil)))))))))
      (pss_one (ps_ret (pv 2))))))), ?_⟩
    intro h dx nh nd ne
    refine ⟨h, dx, rfl, upd_same, fun H1 l0 A0 nl0 kp0 => ⟨rfl, ?_⟩⟩
    have s1 : Same H H1 := Same.made nh nd kp0
    have nl : H l0 = none := by
      have n1 : l0 ≠ h := fun z => by rw [z, upd_same] at nl0; cases nl0
      rw [upd_ne n1] at nl0
      have n2 : l0 ≠ dx := fun z => by rw [z, upd_same] at nl0; cases nl0
      rwa [upd_ne n2] at nl0
    refine ⟨Nat.zero_le _, fun t nt => ?_⟩
    have s2 : Same H1 (upd H1 t (.lst [])) := Same.new nt
    refine ⟨fun m σ H' => ∃ (l : Addr) (as : List Addr) (rs : List Wf04.Rule) (i : Nat) (sofar rest : List Int) (v4 : Option V), σ = [some (.ref a), some (.ref h), some (.ref t), some (.int i), v4] ∧ Same H H' ∧ HouseAt C H' h l as rs ∧ H l = none ∧ t ≠ l ∧ H' t = some (.lst (sofar.map V.int)) ∧ Due ns i rs rest ∧ sofar ++ rest = PyWf04.answers (asInts ns) ∧ m = ns.length - i,
      ⟨_, l0, [], [], 0, [], _, none, rfl, s1.trans s2, A0.same s2, nl, (ne_of_none A0.lst nt).symm, upd_same, due, rfl, rfl⟩, ?_⟩
    have ht : H t = none := s1.free nt
    rintro m σ H2 ⟨l, as, rs, i, sofar, rest, v4, rfl, s3, A2, nl2, ntl, h2, due2, es, rfl⟩
    refine ⟨_, rfl, _, rfl, a, _, rfl, .inl (s3.seq hS), _, _, rfl, rfl, _, rfl, ?_⟩
    have e0 : decide ((i : Int) < ((ns.map nv).length : Nat)) = decide (i < ns.length) := by rw [List.length_map]; simp
    rw [e0]
    by_cases c : i < ns.length
    · rw [decide_eq_true c]
      refine iteT ?_
      obtain ⟨k, j, rest', ck, eo, due3⟩ := due_step due2 c
      have lt := ck.lt
      refine ⟨fun σ' H' => ∃ (l : Addr) (as : List Addr) (rs : List Wf04.Rule) (i' : Nat) (sofar rest : List Int) (v4 : Option V), σ' = [some (.ref a), some (.ref h), some (.ref t), some (.int i'), v4] ∧ Same H H' ∧ HouseAt C H' h l as rs ∧ H l = none ∧ t ≠ l ∧ H' t = some (.lst (sofar.map V.int)) ∧ Due ns i' rs rest ∧ sofar ++ rest = PyWf04.answers (asInts ns) ∧ ns.length - i' < ns.length - i,
        fun σ' H' ⟨l, as, rs, i', sofar, rest, v4, e1, e2, e3, e4, e5, e6, e7, e8, e9⟩ => ⟨_, e9, l, as, rs, i', sofar, rest, v4, e1, e2, e3, e4, e5, e6, e7, e8, rfl⟩, ?_⟩
      refine ⟨_, rfl, _, rfl, _, rfl, h, l, a, as, rs, ns, i, k, j, rfl, A2, s3.seq hS, hb, ck, fun H3 p l3 as3 A3 hl3 kp3 np npl hp => ?_⟩
      obtain ⟨dx2, hi2⟩ := A2.ins
      have nth : t ≠ h := ne_of h2 hi2 (by intro z; cases z)
      have ht3 : H3 t = some (.lst (sofar.map V.int)) := kp3 _ _ h2 nth ntl
      have ntl3 : t ≠ l3 := by
        rcases hl3 with e | e
        · rw [e]; exact ntl
        · exact ne_of_none h2 e
      have npt : p ≠ t := (ne_of_none h2 np).symm
      have nl3 : H l3 = none := by
        rcases hl3 with e | e
        · rw [e]; exact nl2
        · exact s3.free e
      have s4 : Same H H3 := fun b o e => kp3 b o (s3 b o e) (ne_of_none e nh) (ne_of_none e nl2)
      have total : sofar.length + ((ansR rs k).length + 1) ≤ 10000000 := by
        rw [eo] at es
        have := congrArg List.length es
        simp only [List.length_append, List.length_cons] at this
        omega
      have A4 : HouseAt C (upd H3 t (.lst (sofar.map V.int ++ [V.int ((((ansR rs k).map V.int).length : Nat) : Int)]))) h l3 as3 (nextR rs k) := A3.upd ht3 ntl3
      refine ⟨_, rfl, .inl ⟨rfl, _, SqL.of ht3⟩, _, rfl, p, _, rfl, .inl (SqL.of hp), t, _, _, rfl, rfl, ht3, ?_, ?_⟩
      · rw [List.length_map, sizeLine_eq]; omega
      refine ⟨_, rfl, .inl ⟨rfl, _, SqL.of upd_same⟩, _, rfl, t, p, _, _, rfl, rfl, upd_same, by rw [upd_ne npt]; exact hp, ?_, ?_⟩
      · rw [List.length_append, List.length_map, List.length_map, List.length_singleton, sizeLine_eq]; omega
      have s5 : Same H (upd (upd H3 t (.lst (sofar.map V.int ++ [V.int ((((ansR rs k).map V.int).length : Nat) : Int)]))) t (.lst ((sofar.map V.int ++ [V.int ((((ansR rs k).map V.int).length : Nat) : Int)]) ++ (ansR rs k).map V.int))) := Same.put (Same.put s4 ht) ht
      refine ⟨_, rfl, _, rfl, a, ns, i, k, j, rfl, s5.seq hS, ck, fun H6 s6 => ?_⟩
      refine ⟨l3, as3, nextR rs k, j, sofar ++ (((ansR rs k).length : Int) :: ansR rs k), rest', _, rfl, s5.trans s6, (A4.upd upd_same ntl3).same s6, nl3, ntl3, ?_, due3, ?_, by omega⟩
      · rw [s6 _ _ upd_same, List.length_map]
        simp only [List.map_append, List.map_cons, List.append_assoc, List.cons_append, List.nil_append]
      · rw [← es, eo]
        simp only [List.append_assoc, List.cons_append]
    · rw [decide_eq_false c]
      refine iteF ?_
      rw [due_end due2 c, List.append_nil] at es
      refine ⟨_, rfl, q H2 t ?_⟩
      rw [← es]; exact h2
/-- from the request to the promise -/
theorem req_answers {H : Hp} {p : Addr} (l : List Int) (hs : SqL K H p (l.map V.int)) (hb : l.all (PySem.W.Codec.inInt 0 4294967295) = true) (hask : PyWf04.answers_asked l = true) {Q : VK} {E : XK} (hq : ∀ (H' : Hp) (p : Addr), H' p = some (.lst ((PyWf04.answers l).map V.int)) → Q (.ref p) H') : sp_answers K [.ref p] H Q E := by
  have all := List.all_eq_true.1 hb
  have bd : ∀ z ∈ l, 0 ≤ z ∧ z ≤ 4294967295 := fun z hz => by
    have := all z hz
    simpa [PySem.W.Codec.inInt] using this
  have en : asInts (l.map Int.toNat) = l := by
    show (l.map Int.toNat).map (fun n : Nat => (n : Int)) = l
    rw [List.map_map]
    refine (List.map_congr_left fun z hz => ?_).trans (List.map_id' l)
    have := (bd z hz).1
    show ((z.toNat : Nat) : Int) = z
    omega
  have ev : (l.map Int.toNat).map nv = l.map V.int := by
    conv => rhs; rw [← en]
    show (l.map Int.toNat).map nv = ((l.map Int.toNat).map (fun n : Nat => (n : Int))).map V.int
    rw [List.map_map, List.map_map, List.map_map]; rfl
  refine ⟨p, l.map Int.toNat, rfl, by rw [ev]; exact hs, ?_, by rw [en]; exact hask, by rw [en]; exact hq⟩
  intro n hn
  obtain ⟨z, hz, rfl⟩ := List.mem_map.1 hn
  have := bd z hz
  omega
end
end Cr
end
section
set_option Elab.async false
set_option maxRecDepth 100000
set_option maxHeartbeats 2000000
set_option linter.all false
namespace Cr
open PySem PySem.Spec PyProof.Rows L2
structure Con4 (mg : Str → Option Value) : Prop where
  BEGINS : ∃ t, mg "BEGINS" = some (.int 0 t)
  RULE : ∃ t, mg "RULE" = some (.int 1 t)
  DROP : ∃ t, mg "DROP" = some (.int 2 t)
  JUDGE : ∃ t, mg "JUDGE" = some (.int 3 t)
  SHORTEST : ∃ t, mg "SHORTEST" = some (.int 4 t)
  COUNT : ∃ t, mg "COUNT" = some (.int 5 t)
  CLASHES : ∃ t, mg "CLASHES" = some (.int 6 t)
  SPARE : ∃ t, mg "SPARE" = some (.int 7 t)
  BREAKS : ∃ t, mg "BREAKS" = some (.int 8 t)
  NEAREST : ∃ t, mg "NEAREST" = some (.int 9 t)
theorem due_rule (rs : List Wf04.Rule) (ns : List Nat) : nextR rs (.rule ns) = ruleTo rs ns ∧ ansR rs (.rule ns) = ruleAns rs ns := by
  unfold nextR ansR ruleTo ruleAns Wf04.step
  dsimp only
  cases Wf04.rule? ns with
  | none => exact ⟨rfl, rfl⟩
  | some r =>
    dsimp only
    by_cases c : rs.length = 4
    · rw [if_pos (show rs.length = Wf04.RULES from c), if_pos c, if_pos c]; exact ⟨rfl, rfl⟩
    · rw [if_neg (show ¬ rs.length = Wf04.RULES from c), if_neg c, if_neg c]; exact ⟨rfl, rfl⟩
theorem due_drop (rs : List Wf04.Rule) (n : Nat) : nextR rs (.drop n) = dropTo rs n ∧ ansR rs (.drop n) = dropAns rs n := by
  unfold nextR ansR dropTo dropAns Wf04.step
  dsimp only
  by_cases c : rs.length ≤ n
  · rw [if_pos c, if_pos c, if_pos c]; exact ⟨rfl, rfl⟩
  · rw [if_neg c, if_neg c, if_neg c]
    refine ⟨?_, rfl⟩
    show rs.take n ++ rs.drop (n + 1) = rs.eraseIdx n
    rw [List.eraseIdx_eq_take_drop_succ]
theorem due_judge (rs : List Wf04.Rule) (ns : List Nat) : nextR rs (.judge ns) = rs ∧ ansR rs (.judge ns) = judgeAns rs ns := by
  unfold nextR ansR judgeAns Wf04.step
  dsimp only
  by_cases c : Wf04.isRow ns = false
  · rw [if_pos c, if_pos c]; exact ⟨rfl, rfl⟩
  · rw [if_neg c, if_neg c]
    refine ⟨rfl, ?_⟩
    unfold Wf04Neutral.out
    dsimp only
    rw [List.map_map]; rfl
theorem due_shortest (rs : List Wf04.Rule) : nextR rs .shortest = rs ∧ ansR rs .shortest = rowAns (Wf04.shortest rs) := by
  refine ⟨rfl, ?_⟩
  unfold ansR Wf04.step
  dsimp only
  cases Wf04.shortest rs <;> rfl
theorem due_count (rs : List Wf04.Rule) (n : Nat) : nextR rs (.count n) = rs ∧ ansR rs (.count n) = countAns rs n := by
  unfold nextR ansR countAns Wf04.step
  dsimp only
  by_cases c : 10 < n
  · rw [if_pos (show Wf04.COUNT < n from c), if_pos c]; exact ⟨rfl, rfl⟩
  · rw [if_neg (show ¬ Wf04.COUNT < n from c), if_neg c]; exact ⟨rfl, rfl⟩
theorem due_clashes (rs : List Wf04.Rule) : nextR rs .clashes = rs ∧ ansR rs .clashes = clashesAns rs := ⟨rfl, rfl⟩
theorem due_spare (rs : List Wf04.Rule) : nextR rs .spare = rs ∧ ansR rs .spare = spareAns rs := ⟨rfl, rfl⟩
theorem due_breaks (rs : List Wf04.Rule) (n : Nat) : nextR rs (.breaks n) = rs ∧ ansR rs (.breaks n) = breaksAns rs n := by
  unfold nextR ansR breaksAns Wf04.step
  dsimp only
  by_cases c : rs.length ≤ n
  · rw [if_pos c, if_pos c]; exact ⟨rfl, rfl⟩
  · rw [if_neg c, if_neg c]
    refine ⟨rfl, ?_⟩
    dsimp only
    cases Wf04.breaks rs n <;> rfl
theorem due_nearest (rs : List Wf04.Rule) (ns : List Nat) : nextR rs (.nearest ns) = rs ∧ ansR rs (.nearest ns) = nearestAns rs ns := by
  unfold nextR ansR nearestAns Wf04.step
  dsimp only
  by_cases c : Wf04.isRow ns = false
  · rw [if_pos c, if_pos c]; exact ⟨rfl, rfl⟩
  · rw [if_neg c, if_neg c]
    refine ⟨rfl, ?_⟩
    dsimp only
    cases Wf04.nearest rs ns <;> rfl
theorem Told.later {C : Addr} {H H1 : Hp} {h l : Addr} {Q : VK} {rs : List Wf04.Rule} {ans : List Int} (t : Told C H h l Q rs ans) (e : Same H H1) : Told C H1 h l Q rs ans := fun H' p l' as' A hl kp np nl hp =>
  t H' p l' as' A (hl.imp id fun z => e.free z) (fun b o q n1 n2 => kp b o (e b o q) n1 n2) (e.free np) nl hp
section
variable {P : Program} {w : World} {K : PySem.W.Frag} {mg : Str → Option Value} {base : Heap} {C : Addr}
theorem ok_answer_at (T : Con4 mg) (B : Own mg) (D : Has K mg "answer_at" s_answer_at) (X : Hs K mg C) (G_row_at : Cal P w K mg base 1 "row_at" ["calls", "place"] (sp_row_at K))
    (M_begins : CalM P w K mg base C 1 "begins" ["self"] (sp_begins C)) (M_add_rule : CalM P w K mg base C 3 "add_rule" ["self", "row"] (sp_add_rule K C)) (M_drop : CalM P w K mg base C 1 "drop" ["self", "which"] (sp_drop C))
    (M_judge : CalM P w K mg base C 5 "judge" ["self", "steps"] (sp_judge K C)) (M_shortest : CalM P w K mg base C 7 "shortest" ["self"] (sp_shortest C)) (M_count : CalM P w K mg base C 7 "count" ["self", "many"] (sp_count C)) (M_clashes : CalM P w K mg base C 7 "clashes" ["self"] (sp_clashes C))
    (M_spare : CalM P w K mg base C 7 "spare" ["self"] (sp_spare C)) (M_breaks : CalM P w K mg base C 7 "breaks" ["self", "which"] (sp_breaks C)) (M_nearest : CalM P w K mg base C 7 "nearest" ["self", "steps"] (sp_nearest C)) : Cal P w K mg base 20 "answer_at" ["house", "calls", "place"] (sp_answer_at K C) := by
  refine D.cal sc_answer_at (fun _ _ _ _ _ _ us hl => match us, hl with | [_, _, _], _ => rfl) (fun vs H Q E h => ?_) (fun f cdv A outer s H vs Q E hr h => ?_)
  · obtain ⟨h, l, a, as, rs, ns, i, k, j, rfl, _⟩ := h; rfl
  · obtain ⟨h, l, a, as, rs, ns, i, k, j, rfl, A0, hS, hb, ck, q⟩ := h
    obtain ⟨dx, hi⟩ := A0.ins
    refine ⟨_, (pss_cons (ps_set (i := 3) sc_answer_at.nd rfl (Or.inl rfl) (pe_ix ix_list (pv 1) (pv 2) (fun _ _ => rfl)))
      (pss_cons (ps_if (pt_cmpR op_eq (pv 3) (pe_num T.BEGINS) (nomark _)) (pss_one (ps_ret (pe_calM0 (pv 0) X.cl M_begins (hr.mono (by decide))))) pss_nil)
      (pss_cons (ps_if (pt_cmpR op_eq (pv 3) (pe_num T.RULE) (nomark _)) (pss_one (ps_ret (pe_calM (pv 0) X.cl M_add_rule (hr.mono (by decide)) (pa_cons (pe_cal G_row_at (hr.mono (by decide)) (pa_cons (pv 1) (pa_cons (pe_op op_add (pv 2) pe_int) pa_nil))) pa_nil)))) pss_nil)
      (pss_cons (ps_if (pt_cmpR op_eq (pv 3) (pe_num T.DROP) (nomark _)) (pss_one (ps_ret (pe_calM (pv 0) X.cl M_drop (hr.mono (by decide)) (pa_cons (pe_ix ix_list (pv 1) (pe_op op_add (pv 2) pe_int) (fun _ _ => rfl)) pa_nil)))) pss_nil)
      (pss_cons (ps_if (pt_cmpR op_eq (pv 3) (pe_num T.JUDGE) (nomark _)) (pss_one (ps_ret (pe_calM (pv 0) X.cl M_judge (hr.mono (by decide)) (pa_cons (pe_cal G_row_at (hr.mono (by decide)) (pa_cons (pv 1) (pa_cons (pe_op op_add (pv 2) pe_int) pa_nil))) pa_nil)))) pss_nil)
      (pss_cons (ps_if (pt_cmpR op_eq (pv 3) (pe_num T.SHORTEST) (nomark _)) (pss_one (ps_ret (pe_calM0 (pv 0) X.cl M_shortest (hr.mono (by decide))))) pss_nil)
      (pss_cons (ps_if (pt_cmpR op_eq (pv 3) (pe_num T.COUNT) (nomark _)) (pss_one (ps_ret (pe_calM (pv 0) X.cl M_count (hr.mono (by decide)) (pa_cons (pe_ix ix_list (pv 1) (pe_op op_add (pv 2) pe_int) (fun _ _ => rfl)) pa_nil)))) pss_nil)
      (pss_cons (ps_if (pt_cmpR op_eq (pv 3) (pe_num T.CLASHES) (nomark _)) (pss_one (ps_ret (pe_calM0 (pv 0) X.cl M_clashes (hr.mono (by decide))))) pss_nil)
      (pss_cons (ps_if (pt_cmpR op_eq (pv 3) (pe_num T.SPARE) (nomark _)) (pss_one (ps_ret (pe_calM0 (pv 0) X.cl M_spare (hr.mono (by decide))))) pss_nil)
      (pss_cons (ps_if (pt_cmpR op_eq (pv 3) (pe_num T.BREAKS) (nomark _)) (pss_one (ps_ret (pe_calM (pv 0) X.cl M_breaks (hr.mono (by decide)) (pa_cons (pe_ix ix_list (pv 1) (pe_op op_add (pv 2) pe_int) (fun _ _ => rfl)) pa_nil)))) pss_nil)
      (pss_cons (ps_if (pt_cmpR op_eq (pv 3) (pe_num T.NEAREST) (nomark _)) (pss_one (ps_ret (pe_calM (pv 0) X.cl M_nearest (hr.mono (by decide)) (pa_cons (pe_cal G_row_at (hr.mono (by decide)) (pa_cons (pv 1) (pa_cons (pe_op op_add (pv 2) pe_int) pa_nil))) pa_nil)))) pss_nil)
      (pss_one ps_never)))))))))))), ?_⟩
    have at0 : ∀ {x : Nat} {n : Nat}, ns[x]? = some n → atI (ns.map nv) (x : Int) = some (.int (n : Int)) := fun g => atI_nat (by rw [List.getElem?_map, g]; rfl)
    have at1 : ∀ {n : Nat}, ns[i + 1]? = some n → atI (ns.map nv) ((i : Int) + 1) = some (.int (n : Int)) := fun g => at0 (x := i + 1) g
    cases ck with
    | begins g =>
      refine ⟨_, rfl, _, rfl, a, _, i, .int 0, rfl, rfl, hS, at0 g, ?_⟩
      simp only [tSeq, tIfS, tAnd, tOr, tNot, tTest, tB, tOp, rI0, rEq, rNe, scal, tVar, tC, tRet, tNext, tAsg, gName, tIf, tAndV, tOrV, tNotV, L2.start, tCall, tCons, tNil, tDrop, bnot_if, ↓reduceIte, List.map_cons, List.map_nil, List.cons_append, List.nil_append, List.length_cons, List.length_nil, List.replicate_succ, List.replicate_zero, Nat.reduceAdd, Nat.reduceSub, Nat.sub_self, List.getElem?_cons_zero, List.getElem?_cons_succ, List.set_cons_zero, List.set_cons_succ, Option.some.injEq, exists_eq_left', exists_eq_left, V.int.injEq, V.bl.injEq, decide_eq_true_eq, true_and, and_true, Nat.zero_add, List.append_nil, exists_eq, exists_and_left, exists_const, reduceCtorEq, Bool.false_eq_true, if_true_left, V.ref.injEq, Int.reduceEq]
      exact ⟨_, rfl, h, dx, hF l, rfl, hi, rfl, h, l, as, rs, rfl, A0, q⟩
    | @rule m g g1 hm h20 =>
      refine ⟨_, rfl, _, rfl, a, _, i, .int 1, rfl, rfl, hS, at0 g, ?_⟩
      simp only [tSeq, tIfS, tAnd, tOr, tNot, tTest, tB, tOp, rI0, rEq, rNe, scal, tVar, tC, tRet, tNext, tAsg, gName, tIf, tAndV, tOrV, tNotV, L2.start, tCall, tCons, tNil, tDrop, bnot_if, ↓reduceIte, List.map_cons, List.map_nil, List.cons_append, List.nil_append, List.length_cons, List.length_nil, List.replicate_succ, List.replicate_zero, Nat.reduceAdd, Nat.reduceSub, Nat.sub_self, List.getElem?_cons_zero, List.getElem?_cons_succ, List.set_cons_zero, List.set_cons_succ, Option.some.injEq, exists_eq_left', exists_eq_left, V.int.injEq, V.bl.injEq, decide_eq_true_eq, true_and, and_true, Nat.zero_add, List.append_nil, exists_eq, exists_and_left, exists_const, reduceCtorEq, Bool.false_eq_true, if_true_left, V.ref.injEq, Int.reduceEq]
      refine ⟨_, rfl, h, dx, hF l, rfl, hi, rfl, ?_⟩
      refine ⟨_, rfl, _, rfl, _, _, rfl, rfl, a, ns, i + 1, m, rfl, hS, g1, by omega, fun H1 p s1 np hp => ?_⟩
      refine ⟨h, l, p, as, rs, _, rfl, A0.same s1, SqL.of hp, ?_⟩
      rw [(due_rule rs _).1, (due_rule rs _).2] at q
      exact q.later s1
    | @drop x g g1 =>
      refine ⟨_, rfl, _, rfl, a, _, i, .int 2, rfl, rfl, hS, at0 g, ?_⟩
      simp only [tSeq, tIfS, tAnd, tOr, tNot, tTest, tB, tOp, rI0, rEq, rNe, scal, tVar, tC, tRet, tNext, tAsg, gName, tIf, tAndV, tOrV, tNotV, L2.start, tCall, tCons, tNil, tDrop, bnot_if, ↓reduceIte, List.map_cons, List.map_nil, List.cons_append, List.nil_append, List.length_cons, List.length_nil, List.replicate_succ, List.replicate_zero, Nat.reduceAdd, Nat.reduceSub, Nat.sub_self, List.getElem?_cons_zero, List.getElem?_cons_succ, List.set_cons_zero, List.set_cons_succ, Option.some.injEq, exists_eq_left', exists_eq_left, V.int.injEq, V.bl.injEq, decide_eq_true_eq, true_and, and_true, Nat.zero_add, List.append_nil, exists_eq, exists_and_left, exists_const, reduceCtorEq, Bool.false_eq_true, if_true_left, V.ref.injEq, Int.reduceEq]
      refine ⟨_, rfl, h, dx, hF l, rfl, hi, rfl, ?_⟩
      refine ⟨_, rfl, _, rfl, _, _, rfl, rfl, a, _, _, _, rfl, rfl, hS, at1 g1, ?_⟩
      rw [(due_drop rs _).1, (due_drop rs _).2] at q
      exact ⟨h, l, as, rs, x, rfl, A0, hb x (List.mem_of_getElem? g1), q⟩
    | @judge m g g1 hm h20 =>
      refine ⟨_, rfl, _, rfl, a, _, i, .int 3, rfl, rfl, hS, at0 g, ?_⟩
      simp only [tSeq, tIfS, tAnd, tOr, tNot, tTest, tB, tOp, rI0, rEq, rNe, scal, tVar, tC, tRet, tNext, tAsg, gName, tIf, tAndV, tOrV, tNotV, L2.start, tCall, tCons, tNil, tDrop, bnot_if, ↓reduceIte, List.map_cons, List.map_nil, List.cons_append, List.nil_append, List.length_cons, List.length_nil, List.replicate_succ, List.replicate_zero, Nat.reduceAdd, Nat.reduceSub, Nat.sub_self, List.getElem?_cons_zero, List.getElem?_cons_succ, List.set_cons_zero, List.set_cons_succ, Option.some.injEq, exists_eq_left', exists_eq_left, V.int.injEq, V.bl.injEq, decide_eq_true_eq, true_and, and_true, Nat.zero_add, List.append_nil, exists_eq, exists_and_left, exists_const, reduceCtorEq, Bool.false_eq_true, if_true_left, V.ref.injEq, Int.reduceEq]
      refine ⟨_, rfl, h, dx, hF l, rfl, hi, rfl, ?_⟩
      refine ⟨_, rfl, _, rfl, _, _, rfl, rfl, a, ns, i + 1, m, rfl, hS, g1, by omega, fun H1 p s1 np hp => ?_⟩
      rw [(due_judge rs _).1, (due_judge rs _).2] at q
      exact ⟨h, l, p, as, rs, _, rfl, A0.same s1, SqL.of hp, by rw [List.length_take]; omega, q.later s1⟩
    | shortest g =>
      refine ⟨_, rfl, _, rfl, a, _, i, .int 4, rfl, rfl, hS, at0 g, ?_⟩
      simp only [tSeq, tIfS, tAnd, tOr, tNot, tTest, tB, tOp, rI0, rEq, rNe, scal, tVar, tC, tRet, tNext, tAsg, gName, tIf, tAndV, tOrV, tNotV, L2.start, tCall, tCons, tNil, tDrop, bnot_if, ↓reduceIte, List.map_cons, List.map_nil, List.cons_append, List.nil_append, List.length_cons, List.length_nil, List.replicate_succ, List.replicate_zero, Nat.reduceAdd, Nat.reduceSub, Nat.sub_self, List.getElem?_cons_zero, List.getElem?_cons_succ, List.set_cons_zero, List.set_cons_succ, Option.some.injEq, exists_eq_left', exists_eq_left, V.int.injEq, V.bl.injEq, decide_eq_true_eq, true_and, and_true, Nat.zero_add, List.append_nil, exists_eq, exists_and_left, exists_const, reduceCtorEq, Bool.false_eq_true, if_true_left, V.ref.injEq, Int.reduceEq]
      rw [(due_shortest rs).1, (due_shortest rs).2] at q
      exact ⟨_, rfl, h, dx, hF l, rfl, hi, rfl, h, l, as, rs, rfl, A0, q⟩
    | @count x g g1 =>
      refine ⟨_, rfl, _, rfl, a, _, i, .int 5, rfl, rfl, hS, at0 g, ?_⟩
      simp only [tSeq, tIfS, tAnd, tOr, tNot, tTest, tB, tOp, rI0, rEq, rNe, scal, tVar, tC, tRet, tNext, tAsg, gName, tIf, tAndV, tOrV, tNotV, L2.start, tCall, tCons, tNil, tDrop, bnot_if, ↓reduceIte, List.map_cons, List.map_nil, List.cons_append, List.nil_append, List.length_cons, List.length_nil, List.replicate_succ, List.replicate_zero, Nat.reduceAdd, Nat.reduceSub, Nat.sub_self, List.getElem?_cons_zero, List.getElem?_cons_succ, List.set_cons_zero, List.set_cons_succ, Option.some.injEq, exists_eq_left', exists_eq_left, V.int.injEq, V.bl.injEq, decide_eq_true_eq, true_and, and_true, Nat.zero_add, List.append_nil, exists_eq, exists_and_left, exists_const, reduceCtorEq, Bool.false_eq_true, if_true_left, V.ref.injEq, Int.reduceEq]
      refine ⟨_, rfl, h, dx, hF l, rfl, hi, rfl, ?_⟩
      refine ⟨_, rfl, _, rfl, _, _, rfl, rfl, a, _, _, _, rfl, rfl, hS, at1 g1, ?_⟩
      rw [(due_count rs _).1, (due_count rs _).2] at q
      exact ⟨h, l, as, rs, x, rfl, A0, q⟩
    | clashes g =>
      refine ⟨_, rfl, _, rfl, a, _, i, .int 6, rfl, rfl, hS, at0 g, ?_⟩
      simp only [tSeq, tIfS, tAnd, tOr, tNot, tTest, tB, tOp, rI0, rEq, rNe, scal, tVar, tC, tRet, tNext, tAsg, gName, tIf, tAndV, tOrV, tNotV, L2.start, tCall, tCons, tNil, tDrop, bnot_if, ↓reduceIte, List.map_cons, List.map_nil, List.cons_append, List.nil_append, List.length_cons, List.length_nil, List.replicate_succ, List.replicate_zero, Nat.reduceAdd, Nat.reduceSub, Nat.sub_self, List.getElem?_cons_zero, List.getElem?_cons_succ, List.set_cons_zero, List.set_cons_succ, Option.some.injEq, exists_eq_left', exists_eq_left, V.int.injEq, V.bl.injEq, decide_eq_true_eq, true_and, and_true, Nat.zero_add, List.append_nil, exists_eq, exists_and_left, exists_const, reduceCtorEq, Bool.false_eq_true, if_true_left, V.ref.injEq, Int.reduceEq]
      rw [(due_clashes rs).1, (due_clashes rs).2] at q
      exact ⟨_, rfl, h, dx, hF l, rfl, hi, rfl, h, l, as, rs, rfl, A0, q⟩
    | spare g =>
      refine ⟨_, rfl, _, rfl, a, _, i, .int 7, rfl, rfl, hS, at0 g, ?_⟩
      simp only [tSeq, tIfS, tAnd, tOr, tNot, tTest, tB, tOp, rI0, rEq, rNe, scal, tVar, tC, tRet, tNext, tAsg, gName, tIf, tAndV, tOrV, tNotV, L2.start, tCall, tCons, tNil, tDrop, bnot_if, ↓reduceIte, List.map_cons, List.map_nil, List.cons_append, List.nil_append, List.length_cons, List.length_nil, List.replicate_succ, List.replicate_zero, Nat.reduceAdd, Nat.reduceSub, Nat.sub_self, List.getElem?_cons_zero, List.getElem?_cons_succ, List.set_cons_zero, List.set_cons_succ, Option.some.injEq, exists_eq_left', exists_eq_left, V.int.injEq, V.bl.injEq, decide_eq_true_eq, true_and, and_true, Nat.zero_add, List.append_nil, exists_eq, exists_and_left, exists_const, reduceCtorEq, Bool.false_eq_true, if_true_left, V.ref.injEq, Int.reduceEq]
      rw [(due_spare rs).1, (due_spare rs).2] at q
      exact ⟨_, rfl, h, dx, hF l, rfl, hi, rfl, h, l, as, rs, rfl, A0, q⟩
    | @breaks x g g1 =>
      refine ⟨_, rfl, _, rfl, a, _, i, .int 8, rfl, rfl, hS, at0 g, ?_⟩
      simp only [tSeq, tIfS, tAnd, tOr, tNot, tTest, tB, tOp, rI0, rEq, rNe, scal, tVar, tC, tRet, tNext, tAsg, gName, tIf, tAndV, tOrV, tNotV, L2.start, tCall, tCons, tNil, tDrop, bnot_if, ↓reduceIte, List.map_cons, List.map_nil, List.cons_append, List.nil_append, List.length_cons, List.length_nil, List.replicate_succ, List.replicate_zero, Nat.reduceAdd, Nat.reduceSub, Nat.sub_self, List.getElem?_cons_zero, List.getElem?_cons_succ, List.set_cons_zero, List.set_cons_succ, Option.some.injEq, exists_eq_left', exists_eq_left, V.int.injEq, V.bl.injEq, decide_eq_true_eq, true_and, and_true, Nat.zero_add, List.append_nil, exists_eq, exists_and_left, exists_const, reduceCtorEq, Bool.false_eq_true, if_true_left, V.ref.injEq, Int.reduceEq]
      refine ⟨_, rfl, h, dx, hF l, rfl, hi, rfl, ?_⟩
      refine ⟨_, rfl, _, rfl, _, _, rfl, rfl, a, _, _, _, rfl, rfl, hS, at1 g1, ?_⟩
      rw [(due_breaks rs _).1, (due_breaks rs _).2] at q
      exact ⟨h, l, as, rs, x, rfl, A0, q⟩
    | @nearest m g g1 hm h20 =>
      refine ⟨_, rfl, _, rfl, a, _, i, .int 9, rfl, rfl, hS, at0 g, ?_⟩
      simp only [tSeq, tIfS, tAnd, tOr, tNot, tTest, tB, tOp, rI0, rEq, rNe, scal, tVar, tC, tRet, tNext, tAsg, gName, tIf, tAndV, tOrV, tNotV, L2.start, tCall, tCons, tNil, tDrop, bnot_if, ↓reduceIte, List.map_cons, List.map_nil, List.cons_append, List.nil_append, List.length_cons, List.length_nil, List.replicate_succ, List.replicate_zero, Nat.reduceAdd, Nat.reduceSub, Nat.sub_self, List.getElem?_cons_zero, List.getElem?_cons_succ, List.set_cons_zero, List.set_cons_succ, Option.some.injEq, exists_eq_left', exists_eq_left, V.int.injEq, V.bl.injEq, decide_eq_true_eq, true_and, and_true, Nat.zero_add, List.append_nil, exists_eq, exists_and_left, exists_const, reduceCtorEq, Bool.false_eq_true, if_true_left, V.ref.injEq, Int.reduceEq]
      refine ⟨_, rfl, h, dx, hF l, rfl, hi, rfl, ?_⟩
      refine ⟨_, rfl, _, rfl, _, _, rfl, rfl, a, ns, i + 1, m, rfl, hS, g1, by omega, fun H1 p s1 np hp => ?_⟩
      rw [(due_nearest rs _).1, (due_nearest rs _).2] at q
      exact ⟨h, l, p, as, rs, _, rfl, A0.same s1, hp, by rw [List.length_take]; omega, q.later s1⟩
end
end Cr
end
section
set_option Elab.async false
set_option maxRecDepth 100000
set_option maxHeartbeats 2000000
set_option linter.all false
namespace Cr
open PySem PySem.Spec PyProof.Rows L2
section
variable {P : Program} {w : World} {K : PySem.W.Frag} {mg : Str → Option Value} {base : Heap} {C : Addr}
theorem in3 (x a b c : Nat) : inV (.int (x : Int)) [.int (a : Int), .int (b : Int), .int (c : Int)] = decide (x = a ∨ x = b ∨ x = c) := by
  have := in_nv x [a, b, c]
  show inV (nv x) ([a, b, c].map nv) = _
  rw [this]
  by_cases h : x = a ∨ x = b ∨ x = c
  · rw [decide_eq_true h]; simp [List.contains_cons]; rcases h with h | h | h <;> simp [h]
  · rw [decide_eq_false h]
    have h1 : ¬ x = a := fun e => h (.inl e)
    have h2 : ¬ x = b := fun e => h (.inr (.inl e))
    have h3 : ¬ x = c := fun e => h (.inr (.inr e))
    simp [h1, h2, h3]
theorem ok_place_behind (T : Con4 mg) (D : Has K mg "place_behind" s_place_behind) : Cal P w K mg base 1 "place_behind" ["calls", "place"] (sp_place_behind K) := by
  refine D.cal sc_place_behind (fun _ _ _ _ _ _ us hl => match us, hl with | [_, _], _ => rfl) (fun vs H Q E h => ?_) (fun f cdv A outer s H vs Q E hr h => ?_)
  · obtain ⟨a, ns, i, k, j, rfl, _⟩ := h; rfl
  · obtain ⟨a, ns, i, k, j, rfl, hS, ck, q⟩ := h
    refine ⟨_, (pss_cons (ps_set (i := 2) sc_place_behind.nd rfl (Or.inl rfl) (pe_ix ix_list (pv 0) (pv 1) (fun _ _ => rfl)))
      (pss_cons (ps_if (pt_cmpR op_in_seq (pv 2) (pe_tup (pa_cons (pe_num T.RULE) (pa_cons (pe_num T.JUDGE) (pa_cons (pe_num T.NEAREST) pa_nil)))) (by rfl)) (pss_one (ps_ret (pe_op op_add (pe_op op_add (pv 1) pe_int) (pe_ix ix_list (pv 0) (pe_op op_add (pv 1) pe_int) (fun _ _ => rfl))))) pss_nil)
      (pss_cons (ps_if (pt_cmpR op_in_seq (pv 2) (pe_tup (pa_cons (pe_num T.DROP) (pa_cons (pe_num T.COUNT) (pa_cons (pe_num T.BREAKS) pa_nil)))) (by rfl)) (pss_one (ps_ret (pe_op op_add (pv 1) pe_int))) pss_nil)
      (pss_one (ps_ret (pe_op op_add (pv 1) pe_int)))))), ?_⟩
    have at0 : ∀ {x : Nat} {n : Nat}, ns[x]? = some n → atI (ns.map nv) (x : Int) = some (.int (n : Int)) := fun g => atI_nat (by rw [List.getElem?_map, g]; rfl)
    have at1 : ∀ {n : Nat}, ns[i + 1]? = some n → atI (ns.map nv) ((i : Int) + 1) = some (.int (n : Int)) := fun g => at0 (x := i + 1) g
    suffices hh : ∃ c : Nat, ns[i]? = some c ∧ (c = 1 ∨ c = 3 ∨ c = 9 → ∃ m, ns[i + 1]? = some m ∧ j = i + 2 + m) ∧ (¬ (c = 1 ∨ c = 3 ∨ c = 9) → (c = 2 ∨ c = 5 ∨ c = 8) → j = i + 2) ∧ (¬ (c = 1 ∨ c = 3 ∨ c = 9) → ¬ (c = 2 ∨ c = 5 ∨ c = 8) → j = i + 1) by
      obtain ⟨c, g, k1, k2, k3⟩ := hh
      refine ⟨_, rfl, _, rfl, a, _, i, .int c, rfl, rfl, hS, at0 g, ?_⟩
      refine ⟨_, rfl, (by show 3 ≤ sizeLine; decide), fun t nt => ?_⟩
      have s1 : Same H (upd H t (.tup [.int 1, .int 3, .int 9])) := Same.new nt
      refine ⟨t, _, rfl, .inr (SqT.of upd_same), rfl, rfl, _, rfl, ?_⟩
      have e1 : inV (.int (c : Int)) [.int 1, .int 3, .int 9] = decide (c = 1 ∨ c = 3 ∨ c = 9) := in3 c 1 3 9
      rw [e1]
      by_cases h1 : c = 1 ∨ c = 3 ∨ c = 9
      · rw [decide_eq_true h1]
        obtain ⟨m, gm, ej⟩ := k1 h1
        refine iteT ⟨_, rfl, _, _, rfl, rfl, _, rfl, _, rfl, _, _, rfl, rfl, a, _, _, .int (m : Int), rfl, rfl, s1.seq hS, at1 gm, _, _, rfl, rfl, ?_⟩
        have := q _ s1
        rw [ej] at this
        have e : ((i + 2 + m : Nat) : Int) = (i : Int) + 2 + (m : Int) := by omega
        rw [e] at this; exact this
      · rw [decide_eq_false h1]
        refine iteF ⟨_, rfl, (by show 3 ≤ sizeLine; decide), fun t2 nt2 => ?_⟩
        have s2 : Same (upd H t (.tup [.int 1, .int 3, .int 9])) (upd (upd H t (.tup [.int 1, .int 3, .int 9])) t2 (.tup [.int 2, .int 5, .int 8])) := Same.new nt2
        refine ⟨t2, _, rfl, .inr (SqT.of upd_same), rfl, rfl, _, rfl, ?_⟩
        have e2 : inV (.int (c : Int)) [.int 2, .int 5, .int 8] = decide (c = 2 ∨ c = 5 ∨ c = 8) := in3 c 2 5 8
        rw [e2]
        by_cases h2 : c = 2 ∨ c = 5 ∨ c = 8
        · rw [decide_eq_true h2]
          refine iteT ⟨_, rfl, _, _, rfl, rfl, ?_⟩
          have := q _ (s1.trans s2)
          rw [k2 h1 h2] at this; exact this
        · rw [decide_eq_false h2]
          refine iteF ⟨_, rfl, _, _, rfl, rfl, ?_⟩
          have := q _ (s1.trans s2)
          rw [k3 h1 h2] at this; exact this
    cases ck with
    | begins g => exact ⟨0, g, (fun h => by omega), (fun _ h => by omega), (fun _ _ => rfl)⟩
    | @rule m g g1 hm h20 => exact ⟨1, g, (fun _ => ⟨m, g1, rfl⟩), (fun h => (h (by omega)).elim), (fun h => (h (by omega)).elim)⟩
    | @drop x g g1 => exact ⟨2, g, (fun h => by omega), (fun _ _ => rfl), (fun _ h => (h (by omega)).elim)⟩
    | @judge m g g1 hm h20 => exact ⟨3, g, (fun _ => ⟨m, g1, rfl⟩), (fun h => (h (by omega)).elim), (fun h => (h (by omega)).elim)⟩
    | shortest g => exact ⟨4, g, (fun h => by omega), (fun _ h => by omega), (fun _ _ => rfl)⟩
    | @count x g g1 => exact ⟨5, g, (fun h => by omega), (fun _ _ => rfl), (fun _ h => (h (by omega)).elim)⟩
    | clashes g => exact ⟨6, g, (fun h => by omega), (fun _ h => by omega), (fun _ _ => rfl)⟩
    | spare g => exact ⟨7, g, (fun h => by omega), (fun _ h => by omega), (fun _ _ => rfl)⟩
    | @breaks x g g1 => exact ⟨8, g, (fun h => by omega), (fun _ _ => rfl), (fun _ h => (h (by omega)).elim)⟩
    | @nearest m g g1 hm h20 => exact ⟨9, g, (fun _ => ⟨m, g1, rfl⟩), (fun h => (h (by omega)).elim), (fun h => (h (by omega)).elim)⟩
end
end Cr
end
section
set_option Elab.async false
set_option maxRecDepth 100000
set_option maxHeartbeats 4000000
set_option linter.all false
namespace Cr
open PySem PySem.Spec PyProof.Rows L2
theorem all_mk {P : Program} {w : World} {K : PySem.W.Frag} {h : Heap} {mg : Str → Option Value} {fa : Addr} (X : K.In h) (G : h.Ns mainGlobals mg) (hfa : mg "answers" = some (.ref fa))
    {C : Addr}
    {CS : Addr}
    {CM : Addr}
    {f_is_step : Addr} {od_is_step an_is_step : Option Addr} {sl_is_step : Array (Option Value)} {oc_is_step kV_is_step dc_is_step pm_is_step cd_is_step ct_is_step : Value}
    {f_is_form : Addr} {od_is_form an_is_form : Option Addr} {sl_is_form : Array (Option Value)} {oc_is_form kV_is_form dc_is_form pm_is_form cd_is_form ct_is_form : Value}
    {f_after_counted : Addr} {od_after_counted an_after_counted : Option Addr} {sl_after_counted : Array (Option Value)} {oc_after_counted kV_after_counted dc_after_counted pm_after_counted cd_after_counted ct_after_counted : Value}
    {f_after_first : Addr} {od_after_first an_after_first : Option Addr} {sl_after_first : Array (Option Value)} {oc_after_first kV_after_first dc_after_first pm_after_first cd_after_first ct_after_first : Value}
    {f_after_last : Addr} {od_after_last an_after_last : Option Addr} {sl_after_last : Array (Option Value)} {oc_after_last kV_after_last dc_after_last pm_after_last cd_after_last ct_after_last : Value}
    {f_after_later : Addr} {od_after_later an_after_later : Option Addr} {sl_after_later : Array (Option Value)} {oc_after_later kV_after_later dc_after_later pm_after_later cd_after_later ct_after_later : Value}
    {f_after_ahead : Addr} {od_after_ahead an_after_ahead : Option Addr} {sl_after_ahead : Array (Option Value)} {oc_after_ahead kV_after_ahead dc_after_ahead pm_after_ahead cd_after_ahead ct_after_ahead : Value}
    {f_after_right_behind : Addr} {od_after_right_behind an_after_right_behind : Option Addr} {sl_after_right_behind : Array (Option Value)} {oc_after_right_behind kV_after_right_behind dc_after_right_behind pm_after_right_behind cd_after_right_behind ct_after_right_behind : Value}
    {f_after_not_both : Addr} {od_after_not_both an_after_not_both : Option Addr} {sl_after_not_both : Array (Option Value)} {oc_after_not_both kV_after_not_both dc_after_not_both pm_after_not_both cd_after_not_both ct_after_not_both : Value}
    {f_after_between : Addr} {od_after_between an_after_between : Option Addr} {sl_after_between : Array (Option Value)} {oc_after_between kV_after_between dc_after_between pm_after_between cd_after_between ct_after_between : Value}
    {f_state_after : Addr} {od_state_after an_state_after : Option Addr} {sl_state_after : Array (Option Value)} {oc_state_after kV_state_after dc_state_after pm_state_after cd_state_after ct_state_after : Value}
    {f_verdict_in : Addr} {od_verdict_in an_verdict_in : Option Addr} {sl_verdict_in : Array (Option Value)} {oc_verdict_in kV_verdict_in dc_verdict_in pm_verdict_in cd_verdict_in ct_verdict_in : Value}
    {f_nearest_row : Addr} {od_nearest_row an_nearest_row : Option Addr} {sl_nearest_row : Array (Option Value)} {oc_nearest_row kV_nearest_row dc_nearest_row pm_nearest_row cd_nearest_row ct_nearest_row : Value}
    {f_first_states : Addr} {od_first_states an_first_states : Option Addr} {sl_first_states : Array (Option Value)} {oc_first_states kV_first_states dc_first_states pm_first_states cd_first_states ct_first_states : Value}
    {f_states_after : Addr} {od_states_after an_states_after : Option Addr} {sl_states_after : Array (Option Value)} {oc_states_after kV_states_after dc_states_after pm_states_after cd_states_after ct_states_after : Value}
    {f_verdicts_in : Addr} {od_verdicts_in an_verdicts_in : Option Addr} {sl_verdicts_in : Array (Option Value)} {oc_verdicts_in kV_verdicts_in dc_verdicts_in pm_verdicts_in cd_verdicts_in ct_verdicts_in : Value}
    {f_verdicts_of : Addr} {od_verdicts_of an_verdicts_of : Option Addr} {sl_verdicts_of : Array (Option Value)} {oc_verdicts_of kV_verdicts_of dc_verdicts_of pm_verdicts_of cd_verdicts_of ct_verdicts_of : Value}
    {f_broken_in : Addr} {od_broken_in an_broken_in : Option Addr} {sl_broken_in : Array (Option Value)} {oc_broken_in kV_broken_in dc_broken_in pm_broken_in cd_broken_in ct_broken_in : Value}
    {f_earliest_row : Addr} {od_earliest_row an_earliest_row : Option Addr} {sl_earliest_row : Array (Option Value)} {oc_earliest_row kV_earliest_row dc_earliest_row pm_earliest_row cd_earliest_row ct_earliest_row : Value}
    {f_ways_further : Addr} {od_ways_further an_ways_further : Option Addr} {sl_ways_further : Array (Option Value)} {oc_ways_further kV_ways_further dc_ways_further pm_ways_further cd_ways_further ct_ways_further : Value}
    {f_rows_that_keep_all : Addr} {od_rows_that_keep_all an_rows_that_keep_all : Option Addr} {sl_rows_that_keep_all : Array (Option Value)} {oc_rows_that_keep_all kV_rows_that_keep_all dc_rows_that_keep_all pm_rows_that_keep_all cd_rows_that_keep_all ct_rows_that_keep_all : Value}
    {f_one_larger : Addr} {od_one_larger an_one_larger : Option Addr} {sl_one_larger : Array (Option Value)} {oc_one_larger kV_one_larger dc_one_larger pm_one_larger cd_one_larger ct_one_larger : Value}
    {f_sets_in_order : Addr} {od_sets_in_order an_sets_in_order : Option Addr} {sl_sets_in_order : Array (Option Value)} {oc_sets_in_order kV_sets_in_order dc_sets_in_order pm_sets_in_order cd_sets_in_order ct_sets_in_order : Value}
    {f_holds_all : Addr} {od_holds_all an_holds_all : Option Addr} {sl_holds_all : Array (Option Value)} {oc_holds_all kV_holds_all dc_holds_all pm_holds_all cd_holds_all ct_holds_all : Value}
    {f_can_be_kept : Addr} {od_can_be_kept an_can_be_kept : Option Addr} {sl_can_be_kept : Array (Option Value)} {oc_can_be_kept kV_can_be_kept dc_can_be_kept pm_can_be_kept cd_can_be_kept ct_can_be_kept : Value}
    {f_clashes_of : Addr} {od_clashes_of an_clashes_of : Option Addr} {sl_clashes_of : Array (Option Value)} {oc_clashes_of kV_clashes_of dc_clashes_of pm_clashes_of cd_clashes_of ct_clashes_of : Value}
    {f_spare_of : Addr} {od_spare_of an_spare_of : Option Addr} {sl_spare_of : Array (Option Value)} {oc_spare_of kV_spare_of dc_spare_of pm_spare_of cd_spare_of ct_spare_of : Value}
    {f_told_row : Addr} {od_told_row an_told_row : Option Addr} {sl_told_row : Array (Option Value)} {oc_told_row kV_told_row dc_told_row pm_told_row cd_told_row ct_told_row : Value}
    {f_is_row : Addr} {od_is_row an_is_row : Option Addr} {sl_is_row : Array (Option Value)} {oc_is_row kV_is_row dc_is_row pm_is_row cd_is_row ct_is_row : Value}
    {f_row_at : Addr} {od_row_at an_row_at : Option Addr} {sl_row_at : Array (Option Value)} {oc_row_at kV_row_at dc_row_at pm_row_at cd_row_at ct_row_at : Value}
    {f_answer_at : Addr} {od_answer_at an_answer_at : Option Addr} {sl_answer_at : Array (Option Value)} {oc_answer_at kV_answer_at dc_answer_at pm_answer_at cd_answer_at ct_answer_at : Value}
    {f_place_behind : Addr} {od_place_behind an_place_behind : Option Addr} {sl_place_behind : Array (Option Value)} {oc_place_behind kV_place_behind dc_place_behind pm_place_behind cd_place_behind ct_place_behind : Value}
    {f_answers : Addr} {od_answers an_answers : Option Addr} {sl_answers : Array (Option Value)} {oc_answers kV_answers dc_answers pm_answers cd_answers ct_answers : Value}
    {f_m_init : Addr} {od_m_init an_m_init : Option Addr} {sl_m_init : Array (Option Value)} {oc_m_init kV_m_init dc_m_init pm_m_init cd_m_init ct_m_init : Value}
    {f_m_begins : Addr} {od_m_begins an_m_begins : Option Addr} {sl_m_begins : Array (Option Value)} {oc_m_begins kV_m_begins dc_m_begins pm_m_begins cd_m_begins ct_m_begins : Value}
    {f_m_add_rule : Addr} {od_m_add_rule an_m_add_rule : Option Addr} {sl_m_add_rule : Array (Option Value)} {oc_m_add_rule kV_m_add_rule dc_m_add_rule pm_m_add_rule cd_m_add_rule ct_m_add_rule : Value}
    {f_m_drop : Addr} {od_m_drop an_m_drop : Option Addr} {sl_m_drop : Array (Option Value)} {oc_m_drop kV_m_drop dc_m_drop pm_m_drop cd_m_drop ct_m_drop : Value}
    {f_m_judge : Addr} {od_m_judge an_m_judge : Option Addr} {sl_m_judge : Array (Option Value)} {oc_m_judge kV_m_judge dc_m_judge pm_m_judge cd_m_judge ct_m_judge : Value}
    {f_m_shortest : Addr} {od_m_shortest an_m_shortest : Option Addr} {sl_m_shortest : Array (Option Value)} {oc_m_shortest kV_m_shortest dc_m_shortest pm_m_shortest cd_m_shortest ct_m_shortest : Value}
    {f_m_count : Addr} {od_m_count an_m_count : Option Addr} {sl_m_count : Array (Option Value)} {oc_m_count kV_m_count dc_m_count pm_m_count cd_m_count ct_m_count : Value}
    {f_m_clashes : Addr} {od_m_clashes an_m_clashes : Option Addr} {sl_m_clashes : Array (Option Value)} {oc_m_clashes kV_m_clashes dc_m_clashes pm_m_clashes cd_m_clashes ct_m_clashes : Value}
    {f_m_spare : Addr} {od_m_spare an_m_spare : Option Addr} {sl_m_spare : Array (Option Value)} {oc_m_spare kV_m_spare dc_m_spare pm_m_spare cd_m_spare ct_m_spare : Value}
    {f_m_breaks : Addr} {od_m_breaks an_m_breaks : Option Addr} {sl_m_breaks : Array (Option Value)} {oc_m_breaks kV_m_breaks dc_m_breaks pm_m_breaks cd_m_breaks ct_m_breaks : Value}
    {f_m_nearest : Addr} {od_m_nearest an_m_nearest : Option Addr} {sl_m_nearest : Array (Option Value)} {oc_m_nearest kV_m_nearest dc_m_nearest pm_m_nearest cd_m_nearest ct_m_nearest : Value}
    {f_s_init : Addr} {od_s_init an_s_init : Option Addr} {sl_s_init : Array (Option Value)} {oc_s_init kV_s_init dc_s_init pm_s_init cd_s_init ct_s_init : Value}
    {f_s_number_of : Addr} {od_s_number_of an_s_number_of : Option Addr} {sl_s_number_of : Array (Option Value)} {oc_s_number_of kV_s_number_of dc_s_number_of pm_s_number_of cd_s_number_of ct_s_number_of : Value}
    {f_s_go_further : Addr} {od_s_go_further an_s_go_further : Option Addr} {sl_s_go_further : Array (Option Value)} {oc_s_go_further kV_s_go_further dc_s_go_further pm_s_go_further cd_s_go_further ct_s_go_further : Value}
    {f_n_init : Addr} {od_n_init an_n_init : Option Addr} {sl_n_init : Array (Option Value)} {oc_n_init kV_n_init dc_n_init pm_n_init cd_n_init ct_n_init : Value}
    {f_n_put : Addr} {od_n_put an_n_put : Option Addr} {sl_n_put : Array (Option Value)} {oc_n_put kV_n_put dc_n_put pm_n_put cd_n_put ct_n_put : Value}
    {f_n_take : Addr} {od_n_take an_n_take : Option Addr} {sl_n_take : Array (Option Value)} {oc_n_take kV_n_take dc_n_take pm_n_take cd_n_take ct_n_take : Value}
    {f_n_is_end : Addr} {od_n_is_end an_n_is_end : Option Addr} {sl_n_is_end : Array (Option Value)} {oc_n_is_end kV_n_is_end dc_n_is_end pm_n_is_end cd_n_is_end ct_n_is_end : Value}
    {f_n_go_further : Addr} {od_n_go_further an_n_go_further : Option Addr} {sl_n_go_further : Array (Option Value)} {oc_n_go_further kV_n_go_further dc_n_go_further pm_n_go_further cd_n_go_further ct_n_go_further : Value}
    {f_n_nearest_of_length : Addr} {od_n_nearest_of_length an_n_nearest_of_length : Option Addr} {sl_n_nearest_of_length : Array (Option Value)} {oc_n_nearest_of_length kV_n_nearest_of_length dc_n_nearest_of_length pm_n_nearest_of_length cd_n_nearest_of_length ct_n_nearest_of_length : Value}
    {t_STEPS : Tok}
    {t_MOST_TIMES : Tok}
    {t_AT_LEAST : Tok}
    {t_AT_MOST : Tok}
    {t_FIRST : Tok}
    {t_LAST : Tok}
    {t_LATER : Tok}
    {t_AHEAD : Tok}
    {t_RIGHT_BEHIND : Tok}
    {t_NOT_BOTH : Tok}
    {t_BETWEEN : Tok}
    {t_BROKEN : Tok}
    {t_KEPT : Tok}
    {t_BEGINS : Tok}
    {t_RULE : Tok}
    {t_DROP : Tok}
    {t_JUDGE : Tok}
    {t_SHORTEST : Tok}
    {t_COUNT : Tok}
    {t_CLASHES : Tok}
    {t_SPARE : Tok}
    {t_BREAKS : Tok}
    {t_NEAREST : Tok}
    {t_MOST_RULES : Tok}
    {t_LONGEST_ROW : Tok}
    {t_MOST_COUNTED : Tok}
    {t_WRONG_FORM : Tok}
    {t_NO_SUCH_RULE : Tok}
    {t_NO_SUCH_ROW : Tok}
    {t_TOO_MANY_RULES : Tok}
    {D_VERDICTS : Addr} {n_VERDICTS : Nat}
    {h_VERDICTS_2 : Int} {u_VERDICTS_2 : Tok} {t_VERDICTS_2 : Addr} {dd_VERDICTS_2 : Option Addr} {sl_VERDICTS_2 : Array (Option Value)} {n_VERDICTS_2 : Nat}
    {h_VERDICTS_3 : Int} {u_VERDICTS_3 : Tok} {t_VERDICTS_3 : Addr} {dd_VERDICTS_3 : Option Addr} {sl_VERDICTS_3 : Array (Option Value)} {n_VERDICTS_3 : Nat}
    {h_VERDICTS_4 : Int} {u_VERDICTS_4 : Tok} {t_VERDICTS_4 : Addr} {dd_VERDICTS_4 : Option Addr} {sl_VERDICTS_4 : Array (Option Value)} {n_VERDICTS_4 : Nat}
    {h_VERDICTS_5 : Int} {u_VERDICTS_5 : Tok} {t_VERDICTS_5 : Addr} {dd_VERDICTS_5 : Option Addr} {sl_VERDICTS_5 : Array (Option Value)} {n_VERDICTS_5 : Nat}
    {h_VERDICTS_6 : Int} {u_VERDICTS_6 : Tok} {t_VERDICTS_6 : Addr} {dd_VERDICTS_6 : Option Addr} {sl_VERDICTS_6 : Array (Option Value)} {n_VERDICTS_6 : Nat}
    {h_VERDICTS_7 : Int} {u_VERDICTS_7 : Tok} {t_VERDICTS_7 : Addr} {dd_VERDICTS_7 : Option Addr} {sl_VERDICTS_7 : Array (Option Value)} {n_VERDICTS_7 : Nat}
    {h_VERDICTS_8 : Int} {u_VERDICTS_8 : Tok} {t_VERDICTS_8 : Addr} {dd_VERDICTS_8 : Option Addr} {sl_VERDICTS_8 : Array (Option Value)} {n_VERDICTS_8 : Nat}
    {x_VERDICTS_2_0 : Tok}
    {x_VERDICTS_2_1 : Tok}
    {x_VERDICTS_2_2 : Tok}
    {x_VERDICTS_3_0 : Tok}
    {x_VERDICTS_3_1 : Tok}
    {x_VERDICTS_4_0 : Tok}
    {x_VERDICTS_4_1 : Tok}
    {x_VERDICTS_4_2 : Tok}
    {x_VERDICTS_5_0 : Tok}
    {x_VERDICTS_5_1 : Tok}
    {x_VERDICTS_5_2 : Tok}
    {x_VERDICTS_5_3 : Tok}
    {x_VERDICTS_6_0 : Tok}
    {x_VERDICTS_6_1 : Tok}
    {x_VERDICTS_6_2 : Tok}
    {x_VERDICTS_6_3 : Tok}
    {x_VERDICTS_7_0 : Tok}
    {x_VERDICTS_7_1 : Tok}
    {x_VERDICTS_7_2 : Tok}
    {x_VERDICTS_7_3 : Tok}
    {x_VERDICTS_8_0 : Tok}
    {x_VERDICTS_8_1 : Tok}
    {x_VERDICTS_8_2 : Tok}
    {x_VERDICTS_8_3 : Tok}
    {x_VERDICTS_8_4 : Tok}
    {x_VERDICTS_8_5 : Tok}
    (aC : PySem.W.nsIn K mainGlobals "House" = some (some (.ref C)))
    (aCS : PySem.W.nsIn K mainGlobals "Spots" = some (some (.ref CS)))
    (aCM : PySem.W.nsIn K mainGlobals "Making" = some (some (.ref CM)))
    (a_is_step : PySem.W.nsIn K mainGlobals "is_step" = some (some (.ref f_is_step)))
    (l_is_step : K.lookup f_is_step = some ⟨oc_is_step, od_is_step, .func (PySem.W.fnOf "is_step" "is_step" (defArgs s_is_step) (defBody s_is_step) (defScope s_is_step) .none kV_is_step dc_is_step pm_is_step an_is_step cd_is_step ct_is_step), sl_is_step⟩)
    (c_is_step : PySem.W.codeIn K cd_is_step "is_step" = true)
    (k_is_step : PySem.W.keepIn K (.ref f_is_step) = true)
    (a_is_form : PySem.W.nsIn K mainGlobals "is_form" = some (some (.ref f_is_form)))
    (l_is_form : K.lookup f_is_form = some ⟨oc_is_form, od_is_form, .func (PySem.W.fnOf "is_form" "is_form" (defArgs s_is_form) (defBody s_is_form) (defScope s_is_form) .none kV_is_form dc_is_form pm_is_form an_is_form cd_is_form ct_is_form), sl_is_form⟩)
    (c_is_form : PySem.W.codeIn K cd_is_form "is_form" = true)
    (k_is_form : PySem.W.keepIn K (.ref f_is_form) = true)
    (a_after_counted : PySem.W.nsIn K mainGlobals "after_counted" = some (some (.ref f_after_counted)))
    (l_after_counted : K.lookup f_after_counted = some ⟨oc_after_counted, od_after_counted, .func (PySem.W.fnOf "after_counted" "after_counted" (defArgs s_after_counted) (defBody s_after_counted) (defScope s_after_counted) .none kV_after_counted dc_after_counted pm_after_counted an_after_counted cd_after_counted ct_after_counted), sl_after_counted⟩)
    (c_after_counted : PySem.W.codeIn K cd_after_counted "after_counted" = true)
    (k_after_counted : PySem.W.keepIn K (.ref f_after_counted) = true)
    (a_after_first : PySem.W.nsIn K mainGlobals "after_first" = some (some (.ref f_after_first)))
    (l_after_first : K.lookup f_after_first = some ⟨oc_after_first, od_after_first, .func (PySem.W.fnOf "after_first" "after_first" (defArgs s_after_first) (defBody s_after_first) (defScope s_after_first) .none kV_after_first dc_after_first pm_after_first an_after_first cd_after_first ct_after_first), sl_after_first⟩)
    (c_after_first : PySem.W.codeIn K cd_after_first "after_first" = true)
    (k_after_first : PySem.W.keepIn K (.ref f_after_first) = true)
    (a_after_last : PySem.W.nsIn K mainGlobals "after_last" = some (some (.ref f_after_last)))
    (l_after_last : K.lookup f_after_last = some ⟨oc_after_last, od_after_last, .func (PySem.W.fnOf "after_last" "after_last" (defArgs s_after_last) (defBody s_after_last) (defScope s_after_last) .none kV_after_last dc_after_last pm_after_last an_after_last cd_after_last ct_after_last), sl_after_last⟩)
    (c_after_last : PySem.W.codeIn K cd_after_last "after_last" = true)
    (k_after_last : PySem.W.keepIn K (.ref f_after_last) = true)
    (a_after_later : PySem.W.nsIn K mainGlobals "after_later" = some (some (.ref f_after_later)))
    (l_after_later : K.lookup f_after_later = some ⟨oc_after_later, od_after_later, .func (PySem.W.fnOf "after_later" "after_later" (defArgs s_after_later) (defBody s_after_later) (defScope s_after_later) .none kV_after_later dc_after_later pm_after_later an_after_later cd_after_later ct_after_later), sl_after_later⟩)
    (c_after_later : PySem.W.codeIn K cd_after_later "after_later" = true)
    (k_after_later : PySem.W.keepIn K (.ref f_after_later) = true)
    (a_after_ahead : PySem.W.nsIn K mainGlobals "after_ahead" = some (some (.ref f_after_ahead)))
    (l_after_ahead : K.lookup f_after_ahead = some ⟨oc_after_ahead, od_after_ahead, .func (PySem.W.fnOf "after_ahead" "after_ahead" (defArgs s_after_ahead) (defBody s_after_ahead) (defScope s_after_ahead) .none kV_after_ahead dc_after_ahead pm_after_ahead an_after_ahead cd_after_ahead ct_after_ahead), sl_after_ahead⟩)
    (c_after_ahead : PySem.W.codeIn K cd_after_ahead "after_ahead" = true)
    (k_after_ahead : PySem.W.keepIn K (.ref f_after_ahead) = true)
    (a_after_right_behind : PySem.W.nsIn K mainGlobals "after_right_behind" = some (some (.ref f_after_right_behind)))
    (l_after_right_behind : K.lookup f_after_right_behind = some ⟨oc_after_right_behind, od_after_right_behind, .func (PySem.W.fnOf "after_right_behind" "after_right_behind" (defArgs s_after_right_behind) (defBody s_after_right_behind) (defScope s_after_right_behind) .none kV_after_right_behind dc_after_right_behind pm_after_right_behind an_after_right_behind cd_after_right_behind ct_after_right_behind), sl_after_right_behind⟩)
    (c_after_right_behind : PySem.W.codeIn K cd_after_right_behind "after_right_behind" = true)
    (k_after_right_behind : PySem.W.keepIn K (.ref f_after_right_behind) = true)
    (a_after_not_both : PySem.W.nsIn K mainGlobals "after_not_both" = some (some (.ref f_after_not_both)))
    (l_after_not_both : K.lookup f_after_not_both = some ⟨oc_after_not_both, od_after_not_both, .func (PySem.W.fnOf "after_not_both" "after_not_both" (defArgs s_after_not_both) (defBody s_after_not_both) (defScope s_after_not_both) .none kV_after_not_both dc_after_not_both pm_after_not_both an_after_not_both cd_after_not_both ct_after_not_both), sl_after_not_both⟩)
    (c_after_not_both : PySem.W.codeIn K cd_after_not_both "after_not_both" = true)
    (k_after_not_both : PySem.W.keepIn K (.ref f_after_not_both) = true)
    (a_after_between : PySem.W.nsIn K mainGlobals "after_between" = some (some (.ref f_after_between)))
    (l_after_between : K.lookup f_after_between = some ⟨oc_after_between, od_after_between, .func (PySem.W.fnOf "after_between" "after_between" (defArgs s_after_between) (defBody s_after_between) (defScope s_after_between) .none kV_after_between dc_after_between pm_after_between an_after_between cd_after_between ct_after_between), sl_after_between⟩)
    (c_after_between : PySem.W.codeIn K cd_after_between "after_between" = true)
    (k_after_between : PySem.W.keepIn K (.ref f_after_between) = true)
    (a_state_after : PySem.W.nsIn K mainGlobals "state_after" = some (some (.ref f_state_after)))
    (l_state_after : K.lookup f_state_after = some ⟨oc_state_after, od_state_after, .func (PySem.W.fnOf "state_after" "state_after" (defArgs s_state_after) (defBody s_state_after) (defScope s_state_after) .none kV_state_after dc_state_after pm_state_after an_state_after cd_state_after ct_state_after), sl_state_after⟩)
    (c_state_after : PySem.W.codeIn K cd_state_after "state_after" = true)
    (k_state_after : PySem.W.keepIn K (.ref f_state_after) = true)
    (a_verdict_in : PySem.W.nsIn K mainGlobals "verdict_in" = some (some (.ref f_verdict_in)))
    (l_verdict_in : K.lookup f_verdict_in = some ⟨oc_verdict_in, od_verdict_in, .func (PySem.W.fnOf "verdict_in" "verdict_in" (defArgs s_verdict_in) (defBody s_verdict_in) (defScope s_verdict_in) .none kV_verdict_in dc_verdict_in pm_verdict_in an_verdict_in cd_verdict_in ct_verdict_in), sl_verdict_in⟩)
    (c_verdict_in : PySem.W.codeIn K cd_verdict_in "verdict_in" = true)
    (k_verdict_in : PySem.W.keepIn K (.ref f_verdict_in) = true)
    (a_nearest_row : PySem.W.nsIn K mainGlobals "nearest_row" = some (some (.ref f_nearest_row)))
    (l_nearest_row : K.lookup f_nearest_row = some ⟨oc_nearest_row, od_nearest_row, .func (PySem.W.fnOf "nearest_row" "nearest_row" (defArgs s_nearest_row) (defBody s_nearest_row) (defScope s_nearest_row) .none kV_nearest_row dc_nearest_row pm_nearest_row an_nearest_row cd_nearest_row ct_nearest_row), sl_nearest_row⟩)
    (c_nearest_row : PySem.W.codeIn K cd_nearest_row "nearest_row" = true)
    (k_nearest_row : PySem.W.keepIn K (.ref f_nearest_row) = true)
    (a_first_states : PySem.W.nsIn K mainGlobals "first_states" = some (some (.ref f_first_states)))
    (l_first_states : K.lookup f_first_states = some ⟨oc_first_states, od_first_states, .func (PySem.W.fnOf "first_states" "first_states" (defArgs s_first_states) (defBody s_first_states) (defScope s_first_states) .none kV_first_states dc_first_states pm_first_states an_first_states cd_first_states ct_first_states), sl_first_states⟩)
    (c_first_states : PySem.W.codeIn K cd_first_states "first_states" = true)
    (k_first_states : PySem.W.keepIn K (.ref f_first_states) = true)
    (a_states_after : PySem.W.nsIn K mainGlobals "states_after" = some (some (.ref f_states_after)))
    (l_states_after : K.lookup f_states_after = some ⟨oc_states_after, od_states_after, .func (PySem.W.fnOf "states_after" "states_after" (defArgs s_states_after) (defBody s_states_after) (defScope s_states_after) .none kV_states_after dc_states_after pm_states_after an_states_after cd_states_after ct_states_after), sl_states_after⟩)
    (c_states_after : PySem.W.codeIn K cd_states_after "states_after" = true)
    (k_states_after : PySem.W.keepIn K (.ref f_states_after) = true)
    (a_verdicts_in : PySem.W.nsIn K mainGlobals "verdicts_in" = some (some (.ref f_verdicts_in)))
    (l_verdicts_in : K.lookup f_verdicts_in = some ⟨oc_verdicts_in, od_verdicts_in, .func (PySem.W.fnOf "verdicts_in" "verdicts_in" (defArgs s_verdicts_in) (defBody s_verdicts_in) (defScope s_verdicts_in) .none kV_verdicts_in dc_verdicts_in pm_verdicts_in an_verdicts_in cd_verdicts_in ct_verdicts_in), sl_verdicts_in⟩)
    (c_verdicts_in : PySem.W.codeIn K cd_verdicts_in "verdicts_in" = true)
    (k_verdicts_in : PySem.W.keepIn K (.ref f_verdicts_in) = true)
    (a_verdicts_of : PySem.W.nsIn K mainGlobals "verdicts_of" = some (some (.ref f_verdicts_of)))
    (l_verdicts_of : K.lookup f_verdicts_of = some ⟨oc_verdicts_of, od_verdicts_of, .func (PySem.W.fnOf "verdicts_of" "verdicts_of" (defArgs s_verdicts_of) (defBody s_verdicts_of) (defScope s_verdicts_of) .none kV_verdicts_of dc_verdicts_of pm_verdicts_of an_verdicts_of cd_verdicts_of ct_verdicts_of), sl_verdicts_of⟩)
    (c_verdicts_of : PySem.W.codeIn K cd_verdicts_of "verdicts_of" = true)
    (k_verdicts_of : PySem.W.keepIn K (.ref f_verdicts_of) = true)
    (a_broken_in : PySem.W.nsIn K mainGlobals "broken_in" = some (some (.ref f_broken_in)))
    (l_broken_in : K.lookup f_broken_in = some ⟨oc_broken_in, od_broken_in, .func (PySem.W.fnOf "broken_in" "broken_in" (defArgs s_broken_in) (defBody s_broken_in) (defScope s_broken_in) .none kV_broken_in dc_broken_in pm_broken_in an_broken_in cd_broken_in ct_broken_in), sl_broken_in⟩)
    (c_broken_in : PySem.W.codeIn K cd_broken_in "broken_in" = true)
    (k_broken_in : PySem.W.keepIn K (.ref f_broken_in) = true)
    (a_earliest_row : PySem.W.nsIn K mainGlobals "earliest_row" = some (some (.ref f_earliest_row)))
    (l_earliest_row : K.lookup f_earliest_row = some ⟨oc_earliest_row, od_earliest_row, .func (PySem.W.fnOf "earliest_row" "earliest_row" (defArgs s_earliest_row) (defBody s_earliest_row) (defScope s_earliest_row) .none kV_earliest_row dc_earliest_row pm_earliest_row an_earliest_row cd_earliest_row ct_earliest_row), sl_earliest_row⟩)
    (c_earliest_row : PySem.W.codeIn K cd_earliest_row "earliest_row" = true)
    (k_earliest_row : PySem.W.keepIn K (.ref f_earliest_row) = true)
    (a_ways_further : PySem.W.nsIn K mainGlobals "ways_further" = some (some (.ref f_ways_further)))
    (l_ways_further : K.lookup f_ways_further = some ⟨oc_ways_further, od_ways_further, .func (PySem.W.fnOf "ways_further" "ways_further" (defArgs s_ways_further) (defBody s_ways_further) (defScope s_ways_further) .none kV_ways_further dc_ways_further pm_ways_further an_ways_further cd_ways_further ct_ways_further), sl_ways_further⟩)
    (c_ways_further : PySem.W.codeIn K cd_ways_further "ways_further" = true)
    (k_ways_further : PySem.W.keepIn K (.ref f_ways_further) = true)
    (a_rows_that_keep_all : PySem.W.nsIn K mainGlobals "rows_that_keep_all" = some (some (.ref f_rows_that_keep_all)))
    (l_rows_that_keep_all : K.lookup f_rows_that_keep_all = some ⟨oc_rows_that_keep_all, od_rows_that_keep_all, .func (PySem.W.fnOf "rows_that_keep_all" "rows_that_keep_all" (defArgs s_rows_that_keep_all) (defBody s_rows_that_keep_all) (defScope s_rows_that_keep_all) .none kV_rows_that_keep_all dc_rows_that_keep_all pm_rows_that_keep_all an_rows_that_keep_all cd_rows_that_keep_all ct_rows_that_keep_all), sl_rows_that_keep_all⟩)
    (c_rows_that_keep_all : PySem.W.codeIn K cd_rows_that_keep_all "rows_that_keep_all" = true)
    (k_rows_that_keep_all : PySem.W.keepIn K (.ref f_rows_that_keep_all) = true)
    (a_one_larger : PySem.W.nsIn K mainGlobals "one_larger" = some (some (.ref f_one_larger)))
    (l_one_larger : K.lookup f_one_larger = some ⟨oc_one_larger, od_one_larger, .func (PySem.W.fnOf "one_larger" "one_larger" (defArgs s_one_larger) (defBody s_one_larger) (defScope s_one_larger) .none kV_one_larger dc_one_larger pm_one_larger an_one_larger cd_one_larger ct_one_larger), sl_one_larger⟩)
    (c_one_larger : PySem.W.codeIn K cd_one_larger "one_larger" = true)
    (k_one_larger : PySem.W.keepIn K (.ref f_one_larger) = true)
    (a_sets_in_order : PySem.W.nsIn K mainGlobals "sets_in_order" = some (some (.ref f_sets_in_order)))
    (l_sets_in_order : K.lookup f_sets_in_order = some ⟨oc_sets_in_order, od_sets_in_order, .func (PySem.W.fnOf "sets_in_order" "sets_in_order" (defArgs s_sets_in_order) (defBody s_sets_in_order) (defScope s_sets_in_order) .none kV_sets_in_order dc_sets_in_order pm_sets_in_order an_sets_in_order cd_sets_in_order ct_sets_in_order), sl_sets_in_order⟩)
    (c_sets_in_order : PySem.W.codeIn K cd_sets_in_order "sets_in_order" = true)
    (k_sets_in_order : PySem.W.keepIn K (.ref f_sets_in_order) = true)
    (a_holds_all : PySem.W.nsIn K mainGlobals "holds_all" = some (some (.ref f_holds_all)))
    (l_holds_all : K.lookup f_holds_all = some ⟨oc_holds_all, od_holds_all, .func (PySem.W.fnOf "holds_all" "holds_all" (defArgs s_holds_all) (defBody s_holds_all) (defScope s_holds_all) .none kV_holds_all dc_holds_all pm_holds_all an_holds_all cd_holds_all ct_holds_all), sl_holds_all⟩)
    (c_holds_all : PySem.W.codeIn K cd_holds_all "holds_all" = true)
    (k_holds_all : PySem.W.keepIn K (.ref f_holds_all) = true)
    (a_can_be_kept : PySem.W.nsIn K mainGlobals "can_be_kept" = some (some (.ref f_can_be_kept)))
    (l_can_be_kept : K.lookup f_can_be_kept = some ⟨oc_can_be_kept, od_can_be_kept, .func (PySem.W.fnOf "can_be_kept" "can_be_kept" (defArgs s_can_be_kept) (defBody s_can_be_kept) (defScope s_can_be_kept) .none kV_can_be_kept dc_can_be_kept pm_can_be_kept an_can_be_kept cd_can_be_kept ct_can_be_kept), sl_can_be_kept⟩)
    (c_can_be_kept : PySem.W.codeIn K cd_can_be_kept "can_be_kept" = true)
    (k_can_be_kept : PySem.W.keepIn K (.ref f_can_be_kept) = true)
    (a_clashes_of : PySem.W.nsIn K mainGlobals "clashes_of" = some (some (.ref f_clashes_of)))
    (l_clashes_of : K.lookup f_clashes_of = some ⟨oc_clashes_of, od_clashes_of, .func (PySem.W.fnOf "clashes_of" "clashes_of" (defArgs s_clashes_of) (defBody s_clashes_of) (defScope s_clashes_of) .none kV_clashes_of dc_clashes_of pm_clashes_of an_clashes_of cd_clashes_of ct_clashes_of), sl_clashes_of⟩)
    (c_clashes_of : PySem.W.codeIn K cd_clashes_of "clashes_of" = true)
    (k_clashes_of : PySem.W.keepIn K (.ref f_clashes_of) = true)
    (a_spare_of : PySem.W.nsIn K mainGlobals "spare_of" = some (some (.ref f_spare_of)))
    (l_spare_of : K.lookup f_spare_of = some ⟨oc_spare_of, od_spare_of, .func (PySem.W.fnOf "spare_of" "spare_of" (defArgs s_spare_of) (defBody s_spare_of) (defScope s_spare_of) .none kV_spare_of dc_spare_of pm_spare_of an_spare_of cd_spare_of ct_spare_of), sl_spare_of⟩)
    (c_spare_of : PySem.W.codeIn K cd_spare_of "spare_of" = true)
    (k_spare_of : PySem.W.keepIn K (.ref f_spare_of) = true)
    (a_told_row : PySem.W.nsIn K mainGlobals "told_row" = some (some (.ref f_told_row)))
    (l_told_row : K.lookup f_told_row = some ⟨oc_told_row, od_told_row, .func (PySem.W.fnOf "told_row" "told_row" (defArgs s_told_row) (defBody s_told_row) (defScope s_told_row) .none kV_told_row dc_told_row pm_told_row an_told_row cd_told_row ct_told_row), sl_told_row⟩)
    (c_told_row : PySem.W.codeIn K cd_told_row "told_row" = true)
    (k_told_row : PySem.W.keepIn K (.ref f_told_row) = true)
    (a_is_row : PySem.W.nsIn K mainGlobals "is_row" = some (some (.ref f_is_row)))
    (l_is_row : K.lookup f_is_row = some ⟨oc_is_row, od_is_row, .func (PySem.W.fnOf "is_row" "is_row" (defArgs s_is_row) (defBody s_is_row) (defScope s_is_row) .none kV_is_row dc_is_row pm_is_row an_is_row cd_is_row ct_is_row), sl_is_row⟩)
    (c_is_row : PySem.W.codeIn K cd_is_row "is_row" = true)
    (k_is_row : PySem.W.keepIn K (.ref f_is_row) = true)
    (a_row_at : PySem.W.nsIn K mainGlobals "row_at" = some (some (.ref f_row_at)))
    (l_row_at : K.lookup f_row_at = some ⟨oc_row_at, od_row_at, .func (PySem.W.fnOf "row_at" "row_at" (defArgs s_row_at) (defBody s_row_at) (defScope s_row_at) .none kV_row_at dc_row_at pm_row_at an_row_at cd_row_at ct_row_at), sl_row_at⟩)
    (c_row_at : PySem.W.codeIn K cd_row_at "row_at" = true)
    (k_row_at : PySem.W.keepIn K (.ref f_row_at) = true)
    (a_answer_at : PySem.W.nsIn K mainGlobals "answer_at" = some (some (.ref f_answer_at)))
    (l_answer_at : K.lookup f_answer_at = some ⟨oc_answer_at, od_answer_at, .func (PySem.W.fnOf "answer_at" "answer_at" (defArgs s_answer_at) (defBody s_answer_at) (defScope s_answer_at) .none kV_answer_at dc_answer_at pm_answer_at an_answer_at cd_answer_at ct_answer_at), sl_answer_at⟩)
    (c_answer_at : PySem.W.codeIn K cd_answer_at "answer_at" = true)
    (k_answer_at : PySem.W.keepIn K (.ref f_answer_at) = true)
    (a_place_behind : PySem.W.nsIn K mainGlobals "place_behind" = some (some (.ref f_place_behind)))
    (l_place_behind : K.lookup f_place_behind = some ⟨oc_place_behind, od_place_behind, .func (PySem.W.fnOf "place_behind" "place_behind" (defArgs s_place_behind) (defBody s_place_behind) (defScope s_place_behind) .none kV_place_behind dc_place_behind pm_place_behind an_place_behind cd_place_behind ct_place_behind), sl_place_behind⟩)
    (c_place_behind : PySem.W.codeIn K cd_place_behind "place_behind" = true)
    (k_place_behind : PySem.W.keepIn K (.ref f_place_behind) = true)
    (a_answers : PySem.W.nsIn K mainGlobals "answers" = some (some (.ref f_answers)))
    (l_answers : K.lookup f_answers = some ⟨oc_answers, od_answers, .func (PySem.W.fnOf "answers" "answers" (defArgs s_answers) (defBody s_answers) (defScope s_answers) .none kV_answers dc_answers pm_answers an_answers cd_answers ct_answers), sl_answers⟩)
    (c_answers : PySem.W.codeIn K cd_answers "answers" = true)
    (k_answers : PySem.W.keepIn K (.ref f_answers) = true)
    (a_m_init : PySem.W.findIn K (.ref C) "__init__" = some (some (.ref f_m_init)))
    (i_m_init : PySem.W.isFn K (.ref f_m_init) = true)
    (l_m_init : K.lookup f_m_init = some ⟨oc_m_init, od_m_init, .func (PySem.W.fnOf "__init__" "House.__init__" (defArgs s_House_init) (defBody s_House_init) (defScope s_House_init) .none kV_m_init dc_m_init pm_m_init an_m_init cd_m_init ct_m_init), sl_m_init⟩)
    (c_m_init : PySem.W.codeIn K cd_m_init "House.__init__" = true)
    (k_m_init : PySem.W.keepIn K (.ref f_m_init) = true)
    (a_m_begins : PySem.W.findIn K (.ref C) "begins" = some (some (.ref f_m_begins)))
    (i_m_begins : PySem.W.isFn K (.ref f_m_begins) = true)
    (l_m_begins : K.lookup f_m_begins = some ⟨oc_m_begins, od_m_begins, .func (PySem.W.fnOf "begins" "House.begins" (defArgs s_House_begins) (defBody s_House_begins) (defScope s_House_begins) .none kV_m_begins dc_m_begins pm_m_begins an_m_begins cd_m_begins ct_m_begins), sl_m_begins⟩)
    (c_m_begins : PySem.W.codeIn K cd_m_begins "House.begins" = true)
    (k_m_begins : PySem.W.keepIn K (.ref f_m_begins) = true)
    (a_m_add_rule : PySem.W.findIn K (.ref C) "add_rule" = some (some (.ref f_m_add_rule)))
    (i_m_add_rule : PySem.W.isFn K (.ref f_m_add_rule) = true)
    (l_m_add_rule : K.lookup f_m_add_rule = some ⟨oc_m_add_rule, od_m_add_rule, .func (PySem.W.fnOf "add_rule" "House.add_rule" (defArgs s_House_add_rule) (defBody s_House_add_rule) (defScope s_House_add_rule) .none kV_m_add_rule dc_m_add_rule pm_m_add_rule an_m_add_rule cd_m_add_rule ct_m_add_rule), sl_m_add_rule⟩)
    (c_m_add_rule : PySem.W.codeIn K cd_m_add_rule "House.add_rule" = true)
    (k_m_add_rule : PySem.W.keepIn K (.ref f_m_add_rule) = true)
    (a_m_drop : PySem.W.findIn K (.ref C) "drop" = some (some (.ref f_m_drop)))
    (i_m_drop : PySem.W.isFn K (.ref f_m_drop) = true)
    (l_m_drop : K.lookup f_m_drop = some ⟨oc_m_drop, od_m_drop, .func (PySem.W.fnOf "drop" "House.drop" (defArgs s_House_drop) (defBody s_House_drop) (defScope s_House_drop) .none kV_m_drop dc_m_drop pm_m_drop an_m_drop cd_m_drop ct_m_drop), sl_m_drop⟩)
    (c_m_drop : PySem.W.codeIn K cd_m_drop "House.drop" = true)
    (k_m_drop : PySem.W.keepIn K (.ref f_m_drop) = true)
    (a_m_judge : PySem.W.findIn K (.ref C) "judge" = some (some (.ref f_m_judge)))
    (i_m_judge : PySem.W.isFn K (.ref f_m_judge) = true)
    (l_m_judge : K.lookup f_m_judge = some ⟨oc_m_judge, od_m_judge, .func (PySem.W.fnOf "judge" "House.judge" (defArgs s_House_judge) (defBody s_House_judge) (defScope s_House_judge) .none kV_m_judge dc_m_judge pm_m_judge an_m_judge cd_m_judge ct_m_judge), sl_m_judge⟩)
    (c_m_judge : PySem.W.codeIn K cd_m_judge "House.judge" = true)
    (k_m_judge : PySem.W.keepIn K (.ref f_m_judge) = true)
    (a_m_shortest : PySem.W.findIn K (.ref C) "shortest" = some (some (.ref f_m_shortest)))
    (i_m_shortest : PySem.W.isFn K (.ref f_m_shortest) = true)
    (l_m_shortest : K.lookup f_m_shortest = some ⟨oc_m_shortest, od_m_shortest, .func (PySem.W.fnOf "shortest" "House.shortest" (defArgs s_House_shortest) (defBody s_House_shortest) (defScope s_House_shortest) .none kV_m_shortest dc_m_shortest pm_m_shortest an_m_shortest cd_m_shortest ct_m_shortest), sl_m_shortest⟩)
    (c_m_shortest : PySem.W.codeIn K cd_m_shortest "House.shortest" = true)
    (k_m_shortest : PySem.W.keepIn K (.ref f_m_shortest) = true)
    (a_m_count : PySem.W.findIn K (.ref C) "count" = some (some (.ref f_m_count)))
    (i_m_count : PySem.W.isFn K (.ref f_m_count) = true)
    (l_m_count : K.lookup f_m_count = some ⟨oc_m_count, od_m_count, .func (PySem.W.fnOf "count" "House.count" (defArgs s_House_count) (defBody s_House_count) (defScope s_House_count) .none kV_m_count dc_m_count pm_m_count an_m_count cd_m_count ct_m_count), sl_m_count⟩)
    (c_m_count : PySem.W.codeIn K cd_m_count "House.count" = true)
    (k_m_count : PySem.W.keepIn K (.ref f_m_count) = true)
    (a_m_clashes : PySem.W.findIn K (.ref C) "clashes" = some (some (.ref f_m_clashes)))
    (i_m_clashes : PySem.W.isFn K (.ref f_m_clashes) = true)
    (l_m_clashes : K.lookup f_m_clashes = some ⟨oc_m_clashes, od_m_clashes, .func (PySem.W.fnOf "clashes" "House.clashes" (defArgs s_House_clashes) (defBody s_House_clashes) (defScope s_House_clashes) .none kV_m_clashes dc_m_clashes pm_m_clashes an_m_clashes cd_m_clashes ct_m_clashes), sl_m_clashes⟩)
    (c_m_clashes : PySem.W.codeIn K cd_m_clashes "House.clashes" = true)
    (k_m_clashes : PySem.W.keepIn K (.ref f_m_clashes) = true)
    (a_m_spare : PySem.W.findIn K (.ref C) "spare" = some (some (.ref f_m_spare)))
    (i_m_spare : PySem.W.isFn K (.ref f_m_spare) = true)
    (l_m_spare : K.lookup f_m_spare = some ⟨oc_m_spare, od_m_spare, .func (PySem.W.fnOf "spare" "House.spare" (defArgs s_House_spare) (defBody s_House_spare) (defScope s_House_spare) .none kV_m_spare dc_m_spare pm_m_spare an_m_spare cd_m_spare ct_m_spare), sl_m_spare⟩)
    (c_m_spare : PySem.W.codeIn K cd_m_spare "House.spare" = true)
    (k_m_spare : PySem.W.keepIn K (.ref f_m_spare) = true)
    (a_m_breaks : PySem.W.findIn K (.ref C) "breaks" = some (some (.ref f_m_breaks)))
    (i_m_breaks : PySem.W.isFn K (.ref f_m_breaks) = true)
    (l_m_breaks : K.lookup f_m_breaks = some ⟨oc_m_breaks, od_m_breaks, .func (PySem.W.fnOf "breaks" "House.breaks" (defArgs s_House_breaks) (defBody s_House_breaks) (defScope s_House_breaks) .none kV_m_breaks dc_m_breaks pm_m_breaks an_m_breaks cd_m_breaks ct_m_breaks), sl_m_breaks⟩)
    (c_m_breaks : PySem.W.codeIn K cd_m_breaks "House.breaks" = true)
    (k_m_breaks : PySem.W.keepIn K (.ref f_m_breaks) = true)
    (a_m_nearest : PySem.W.findIn K (.ref C) "nearest" = some (some (.ref f_m_nearest)))
    (i_m_nearest : PySem.W.isFn K (.ref f_m_nearest) = true)
    (l_m_nearest : K.lookup f_m_nearest = some ⟨oc_m_nearest, od_m_nearest, .func (PySem.W.fnOf "nearest" "House.nearest" (defArgs s_House_nearest) (defBody s_House_nearest) (defScope s_House_nearest) .none kV_m_nearest dc_m_nearest pm_m_nearest an_m_nearest cd_m_nearest ct_m_nearest), sl_m_nearest⟩)
    (c_m_nearest : PySem.W.codeIn K cd_m_nearest "House.nearest" = true)
    (k_m_nearest : PySem.W.keepIn K (.ref f_m_nearest) = true)
    (a_s_init : PySem.W.findIn K (.ref CS) "__init__" = some (some (.ref f_s_init)))
    (i_s_init : PySem.W.isFn K (.ref f_s_init) = true)
    (l_s_init : K.lookup f_s_init = some ⟨oc_s_init, od_s_init, .func (PySem.W.fnOf "__init__" "Spots.__init__" (defArgs s_Spots_init) (defBody s_Spots_init) (defScope s_Spots_init) .none kV_s_init dc_s_init pm_s_init an_s_init cd_s_init ct_s_init), sl_s_init⟩)
    (c_s_init : PySem.W.codeIn K cd_s_init "Spots.__init__" = true)
    (k_s_init : PySem.W.keepIn K (.ref f_s_init) = true)
    (a_s_number_of : PySem.W.findIn K (.ref CS) "number_of" = some (some (.ref f_s_number_of)))
    (i_s_number_of : PySem.W.isFn K (.ref f_s_number_of) = true)
    (l_s_number_of : K.lookup f_s_number_of = some ⟨oc_s_number_of, od_s_number_of, .func (PySem.W.fnOf "number_of" "Spots.number_of" (defArgs s_Spots_number_of) (defBody s_Spots_number_of) (defScope s_Spots_number_of) .none kV_s_number_of dc_s_number_of pm_s_number_of an_s_number_of cd_s_number_of ct_s_number_of), sl_s_number_of⟩)
    (c_s_number_of : PySem.W.codeIn K cd_s_number_of "Spots.number_of" = true)
    (k_s_number_of : PySem.W.keepIn K (.ref f_s_number_of) = true)
    (a_s_go_further : PySem.W.findIn K (.ref CS) "go_further" = some (some (.ref f_s_go_further)))
    (i_s_go_further : PySem.W.isFn K (.ref f_s_go_further) = true)
    (l_s_go_further : K.lookup f_s_go_further = some ⟨oc_s_go_further, od_s_go_further, .func (PySem.W.fnOf "go_further" "Spots.go_further" (defArgs s_Spots_go_further) (defBody s_Spots_go_further) (defScope s_Spots_go_further) .none kV_s_go_further dc_s_go_further pm_s_go_further an_s_go_further cd_s_go_further ct_s_go_further), sl_s_go_further⟩)
    (c_s_go_further : PySem.W.codeIn K cd_s_go_further "Spots.go_further" = true)
    (k_s_go_further : PySem.W.keepIn K (.ref f_s_go_further) = true)
    (a_n_init : PySem.W.findIn K (.ref CM) "__init__" = some (some (.ref f_n_init)))
    (i_n_init : PySem.W.isFn K (.ref f_n_init) = true)
    (l_n_init : K.lookup f_n_init = some ⟨oc_n_init, od_n_init, .func (PySem.W.fnOf "__init__" "Making.__init__" (defArgs s_Making_init) (defBody s_Making_init) (defScope s_Making_init) .none kV_n_init dc_n_init pm_n_init an_n_init cd_n_init ct_n_init), sl_n_init⟩)
    (c_n_init : PySem.W.codeIn K cd_n_init "Making.__init__" = true)
    (k_n_init : PySem.W.keepIn K (.ref f_n_init) = true)
    (a_n_put : PySem.W.findIn K (.ref CM) "put" = some (some (.ref f_n_put)))
    (i_n_put : PySem.W.isFn K (.ref f_n_put) = true)
    (l_n_put : K.lookup f_n_put = some ⟨oc_n_put, od_n_put, .func (PySem.W.fnOf "put" "Making.put" (defArgs s_Making_put) (defBody s_Making_put) (defScope s_Making_put) .none kV_n_put dc_n_put pm_n_put an_n_put cd_n_put ct_n_put), sl_n_put⟩)
    (c_n_put : PySem.W.codeIn K cd_n_put "Making.put" = true)
    (k_n_put : PySem.W.keepIn K (.ref f_n_put) = true)
    (a_n_take : PySem.W.findIn K (.ref CM) "take" = some (some (.ref f_n_take)))
    (i_n_take : PySem.W.isFn K (.ref f_n_take) = true)
    (l_n_take : K.lookup f_n_take = some ⟨oc_n_take, od_n_take, .func (PySem.W.fnOf "take" "Making.take" (defArgs s_Making_take) (defBody s_Making_take) (defScope s_Making_take) .none kV_n_take dc_n_take pm_n_take an_n_take cd_n_take ct_n_take), sl_n_take⟩)
    (c_n_take : PySem.W.codeIn K cd_n_take "Making.take" = true)
    (k_n_take : PySem.W.keepIn K (.ref f_n_take) = true)
    (a_n_is_end : PySem.W.findIn K (.ref CM) "is_end" = some (some (.ref f_n_is_end)))
    (i_n_is_end : PySem.W.isFn K (.ref f_n_is_end) = true)
    (l_n_is_end : K.lookup f_n_is_end = some ⟨oc_n_is_end, od_n_is_end, .func (PySem.W.fnOf "is_end" "Making.is_end" (defArgs s_Making_is_end) (defBody s_Making_is_end) (defScope s_Making_is_end) .none kV_n_is_end dc_n_is_end pm_n_is_end an_n_is_end cd_n_is_end ct_n_is_end), sl_n_is_end⟩)
    (c_n_is_end : PySem.W.codeIn K cd_n_is_end "Making.is_end" = true)
    (k_n_is_end : PySem.W.keepIn K (.ref f_n_is_end) = true)
    (a_n_go_further : PySem.W.findIn K (.ref CM) "go_further" = some (some (.ref f_n_go_further)))
    (i_n_go_further : PySem.W.isFn K (.ref f_n_go_further) = true)
    (l_n_go_further : K.lookup f_n_go_further = some ⟨oc_n_go_further, od_n_go_further, .func (PySem.W.fnOf "go_further" "Making.go_further" (defArgs s_Making_go_further) (defBody s_Making_go_further) (defScope s_Making_go_further) .none kV_n_go_further dc_n_go_further pm_n_go_further an_n_go_further cd_n_go_further ct_n_go_further), sl_n_go_further⟩)
    (c_n_go_further : PySem.W.codeIn K cd_n_go_further "Making.go_further" = true)
    (k_n_go_further : PySem.W.keepIn K (.ref f_n_go_further) = true)
    (a_n_nearest_of_length : PySem.W.findIn K (.ref CM) "nearest_of_length" = some (some (.ref f_n_nearest_of_length)))
    (i_n_nearest_of_length : PySem.W.isFn K (.ref f_n_nearest_of_length) = true)
    (l_n_nearest_of_length : K.lookup f_n_nearest_of_length = some ⟨oc_n_nearest_of_length, od_n_nearest_of_length, .func (PySem.W.fnOf "nearest_of_length" "Making.nearest_of_length" (defArgs s_Making_nearest_of_length) (defBody s_Making_nearest_of_length) (defScope s_Making_nearest_of_length) .none kV_n_nearest_of_length dc_n_nearest_of_length pm_n_nearest_of_length an_n_nearest_of_length cd_n_nearest_of_length ct_n_nearest_of_length), sl_n_nearest_of_length⟩)
    (c_n_nearest_of_length : PySem.W.codeIn K cd_n_nearest_of_length "Making.nearest_of_length" = true)
    (k_n_nearest_of_length : PySem.W.keepIn K (.ref f_n_nearest_of_length) = true)
    (g_STEPS : PySem.W.nsIn K mainGlobals "STEPS" = some (some (.int 5 t_STEPS)))
    (g_MOST_TIMES : PySem.W.nsIn K mainGlobals "MOST_TIMES" = some (some (.int 3 t_MOST_TIMES)))
    (g_AT_LEAST : PySem.W.nsIn K mainGlobals "AT_LEAST" = some (some (.int 0 t_AT_LEAST)))
    (g_AT_MOST : PySem.W.nsIn K mainGlobals "AT_MOST" = some (some (.int 1 t_AT_MOST)))
    (g_FIRST : PySem.W.nsIn K mainGlobals "FIRST" = some (some (.int 2 t_FIRST)))
    (g_LAST : PySem.W.nsIn K mainGlobals "LAST" = some (some (.int 3 t_LAST)))
    (g_LATER : PySem.W.nsIn K mainGlobals "LATER" = some (some (.int 4 t_LATER)))
    (g_AHEAD : PySem.W.nsIn K mainGlobals "AHEAD" = some (some (.int 5 t_AHEAD)))
    (g_RIGHT_BEHIND : PySem.W.nsIn K mainGlobals "RIGHT_BEHIND" = some (some (.int 6 t_RIGHT_BEHIND)))
    (g_NOT_BOTH : PySem.W.nsIn K mainGlobals "NOT_BOTH" = some (some (.int 7 t_NOT_BOTH)))
    (g_BETWEEN : PySem.W.nsIn K mainGlobals "BETWEEN" = some (some (.int 8 t_BETWEEN)))
    (g_BROKEN : PySem.W.nsIn K mainGlobals "BROKEN" = some (some (.int 0 t_BROKEN)))
    (g_KEPT : PySem.W.nsIn K mainGlobals "KEPT" = some (some (.int 1 t_KEPT)))
    (g_BEGINS : PySem.W.nsIn K mainGlobals "BEGINS" = some (some (.int 0 t_BEGINS)))
    (g_RULE : PySem.W.nsIn K mainGlobals "RULE" = some (some (.int 1 t_RULE)))
    (g_DROP : PySem.W.nsIn K mainGlobals "DROP" = some (some (.int 2 t_DROP)))
    (g_JUDGE : PySem.W.nsIn K mainGlobals "JUDGE" = some (some (.int 3 t_JUDGE)))
    (g_SHORTEST : PySem.W.nsIn K mainGlobals "SHORTEST" = some (some (.int 4 t_SHORTEST)))
    (g_COUNT : PySem.W.nsIn K mainGlobals "COUNT" = some (some (.int 5 t_COUNT)))
    (g_CLASHES : PySem.W.nsIn K mainGlobals "CLASHES" = some (some (.int 6 t_CLASHES)))
    (g_SPARE : PySem.W.nsIn K mainGlobals "SPARE" = some (some (.int 7 t_SPARE)))
    (g_BREAKS : PySem.W.nsIn K mainGlobals "BREAKS" = some (some (.int 8 t_BREAKS)))
    (g_NEAREST : PySem.W.nsIn K mainGlobals "NEAREST" = some (some (.int 9 t_NEAREST)))
    (g_MOST_RULES : PySem.W.nsIn K mainGlobals "MOST_RULES" = some (some (.int 4 t_MOST_RULES)))
    (g_LONGEST_ROW : PySem.W.nsIn K mainGlobals "LONGEST_ROW" = some (some (.int 8 t_LONGEST_ROW)))
    (g_MOST_COUNTED : PySem.W.nsIn K mainGlobals "MOST_COUNTED" = some (some (.int 10 t_MOST_COUNTED)))
    (g_WRONG_FORM : PySem.W.nsIn K mainGlobals "WRONG_FORM" = some (some (.int (-1) t_WRONG_FORM)))
    (g_NO_SUCH_RULE : PySem.W.nsIn K mainGlobals "NO_SUCH_RULE" = some (some (.int (-2) t_NO_SUCH_RULE)))
    (g_NO_SUCH_ROW : PySem.W.nsIn K mainGlobals "NO_SUCH_ROW" = some (some (.int (-6) t_NO_SUCH_ROW)))
    (g_TOO_MANY_RULES : PySem.W.nsIn K mainGlobals "TOO_MANY_RULES" = some (some (.int (-7) t_TOO_MANY_RULES)))
    (b_len : PySem.W.nsIn K mainGlobals "len" = some none)
    (b_range : PySem.W.nsIn K mainGlobals "range" = some none)
    (b_zip : PySem.W.nsIn K mainGlobals "zip" = some none)
    (b_tuple : PySem.W.nsIn K mainGlobals "tuple" = some none)
    (b_list : PySem.W.nsIn K mainGlobals "list" = some none)
    (b_all : PySem.W.nsIn K mainGlobals "all" = some none)
    (b_any : PySem.W.nsIn K mainGlobals "any" = some none)
    (b_enumerate : PySem.W.nsIn K mainGlobals "enumerate" = some none)
    (b_sum : PySem.W.nsIn K mainGlobals "sum" = some none)
    (b_min : PySem.W.nsIn K mainGlobals "min" = some none)
    (pg_C : PySem.W.plainGet K C Str.empty = true)
    (hd_C : PySem.W.hasDictIn K C = true)
    (po_C : PySem.W.plainOver K C = true)
    (sa_C : PySem.W.findIn K (.ref C) "__setattr__" = some (some (.builtin "object.__setattr__")))
    (mk_C : PySem.W.makesIn K C = true)
    (kc_C : PySem.W.keepIn K (.ref C) = true)
    (n_rules_C : PySem.W.findIn K (.ref C) "rules" = some none)
    (pg_CS : PySem.W.plainGet K CS Str.empty = true)
    (hd_CS : PySem.W.hasDictIn K CS = true)
    (po_CS : PySem.W.plainOver K CS = true)
    (sa_CS : PySem.W.findIn K (.ref CS) "__setattr__" = some (some (.builtin "object.__setattr__")))
    (mk_CS : PySem.W.makesIn K CS = true)
    (kc_CS : PySem.W.keepIn K (.ref CS) = true)
    (n_rules_CS : PySem.W.findIn K (.ref CS) "rules" = some none)
    (n_states_CS : PySem.W.findIn K (.ref CS) "states" = some none)
    (n_numbers_CS : PySem.W.findIn K (.ref CS) "numbers" = some none)
    (n_rows_CS : PySem.W.findIn K (.ref CS) "rows" = some none)
    (n_broken_CS : PySem.W.findIn K (.ref CS) "broken" = some none)
    (n_further_CS : PySem.W.findIn K (.ref CS) "further" = some none)
    (pg_CM : PySem.W.plainGet K CM Str.empty = true)
    (hd_CM : PySem.W.hasDictIn K CM = true)
    (po_CM : PySem.W.plainOver K CM = true)
    (sa_CM : PySem.W.findIn K (.ref CM) "__setattr__" = some (some (.builtin "object.__setattr__")))
    (mk_CM : PySem.W.makesIn K CM = true)
    (kc_CM : PySem.W.keepIn K (.ref CM) = true)
    (n_spots_CM : PySem.W.findIn K (.ref CM) "spots" = some none)
    (n_given_CM : PySem.W.findIn K (.ref CM) "given" = some none)
    (n_settled_CM : PySem.W.findIn K (.ref CM) "settled" = some none)
    (n_waiting_CM : PySem.W.findIn K (.ref CM) "waiting" = some none)
    (a_VERDICTS : PySem.W.nsIn K mainGlobals "VERDICTS" = some (some (.ref D_VERDICTS)))
    (l_VERDICTS : K.lookup D_VERDICTS = some ⟨.type "dict", none, .dict #[⟨h_VERDICTS_2, .int 2 u_VERDICTS_2, .ref t_VERDICTS_2⟩, ⟨h_VERDICTS_3, .int 3 u_VERDICTS_3, .ref t_VERDICTS_3⟩, ⟨h_VERDICTS_4, .int 4 u_VERDICTS_4, .ref t_VERDICTS_4⟩, ⟨h_VERDICTS_5, .int 5 u_VERDICTS_5, .ref t_VERDICTS_5⟩, ⟨h_VERDICTS_6, .int 6 u_VERDICTS_6, .ref t_VERDICTS_6⟩, ⟨h_VERDICTS_7, .int 7 u_VERDICTS_7, .ref t_VERDICTS_7⟩, ⟨h_VERDICTS_8, .int 8 u_VERDICTS_8, .ref t_VERDICTS_8⟩] n_VERDICTS, #[]⟩)
    (q_VERDICTS_2 : h_VERDICTS_2 = hashInt 2)
    (l_VERDICTS_2 : K.lookup t_VERDICTS_2 = some ⟨.type "tuple", dd_VERDICTS_2, .seq #[.int 0 x_VERDICTS_2_0, .int 1 x_VERDICTS_2_1, .int 0 x_VERDICTS_2_2] n_VERDICTS_2, sl_VERDICTS_2⟩)
    (q_VERDICTS_3 : h_VERDICTS_3 = hashInt 3)
    (l_VERDICTS_3 : K.lookup t_VERDICTS_3 = some ⟨.type "tuple", dd_VERDICTS_3, .seq #[.int 0 x_VERDICTS_3_0, .int 1 x_VERDICTS_3_1] n_VERDICTS_3, sl_VERDICTS_3⟩)
    (q_VERDICTS_4 : h_VERDICTS_4 = hashInt 4)
    (l_VERDICTS_4 : K.lookup t_VERDICTS_4 = some ⟨.type "tuple", dd_VERDICTS_4, .seq #[.int 2 x_VERDICTS_4_0, .int 0 x_VERDICTS_4_1, .int 1 x_VERDICTS_4_2] n_VERDICTS_4, sl_VERDICTS_4⟩)
    (q_VERDICTS_5 : h_VERDICTS_5 = hashInt 5)
    (l_VERDICTS_5 : K.lookup t_VERDICTS_5 = some ⟨.type "tuple", dd_VERDICTS_5, .seq #[.int 2 x_VERDICTS_5_0, .int 2 x_VERDICTS_5_1, .int 1 x_VERDICTS_5_2, .int 0 x_VERDICTS_5_3] n_VERDICTS_5, sl_VERDICTS_5⟩)
    (q_VERDICTS_6 : h_VERDICTS_6 = hashInt 6)
    (l_VERDICTS_6 : K.lookup t_VERDICTS_6 = some ⟨.type "tuple", dd_VERDICTS_6, .seq #[.int 2 x_VERDICTS_6_0, .int 0 x_VERDICTS_6_1, .int 1 x_VERDICTS_6_2, .int 0 x_VERDICTS_6_3] n_VERDICTS_6, sl_VERDICTS_6⟩)
    (q_VERDICTS_7 : h_VERDICTS_7 = hashInt 7)
    (l_VERDICTS_7 : K.lookup t_VERDICTS_7 = some ⟨.type "tuple", dd_VERDICTS_7, .seq #[.int 1 x_VERDICTS_7_0, .int 1 x_VERDICTS_7_1, .int 1 x_VERDICTS_7_2, .int 0 x_VERDICTS_7_3] n_VERDICTS_7, sl_VERDICTS_7⟩)
    (q_VERDICTS_8 : h_VERDICTS_8 = hashInt 8)
    (l_VERDICTS_8 : K.lookup t_VERDICTS_8 = some ⟨.type "tuple", dd_VERDICTS_8, .seq #[.int 2 x_VERDICTS_8_0, .int 2 x_VERDICTS_8_1, .int 2 x_VERDICTS_8_2, .int 1 x_VERDICTS_8_3, .int 1 x_VERDICTS_8_4, .int 0 x_VERDICTS_8_5] n_VERDICTS_8, sl_VERDICTS_8⟩) :
    ∃ fd : FuncData, (∀ (s : Shared) (us : List Value), us.length = (["calls"] : List Str).length → BindsTo s fd ⟨us, []⟩ ((["calls"] : List Str).zip us)) ∧ ∀ base : Heap, K.In base → base.Ns mainGlobals mg → FnOk P w K mg base CX0 21 fa fd ["calls"] (sp_answers K) := by
  have e := hfa.symm.trans (PySem.W.mg_of X G a_answers)
  cases e
  have T_Con : Con mg := ⟨⟨_, PySem.W.mg_of X G g_STEPS⟩, ⟨_, PySem.W.mg_of X G g_MOST_TIMES⟩, ⟨_, PySem.W.mg_of X G g_AT_LEAST⟩, ⟨_, PySem.W.mg_of X G g_AT_MOST⟩, ⟨_, PySem.W.mg_of X G g_FIRST⟩, ⟨_, PySem.W.mg_of X G g_LAST⟩, ⟨_, PySem.W.mg_of X G g_LATER⟩, ⟨_, PySem.W.mg_of X G g_AHEAD⟩, ⟨_, PySem.W.mg_of X G g_RIGHT_BEHIND⟩, ⟨_, PySem.W.mg_of X G g_NOT_BOTH⟩, ⟨_, PySem.W.mg_of X G g_BETWEEN⟩, ⟨_, PySem.W.mg_of X G g_BROKEN⟩, ⟨_, PySem.W.mg_of X G g_KEPT⟩⟩
  have T_Con2 : Con2 mg := ⟨⟨_, PySem.W.mg_of X G g_LONGEST_ROW⟩⟩
  have T_Con3 : Con3 mg := ⟨⟨_, PySem.W.mg_of X G g_MOST_RULES⟩, ⟨_, PySem.W.mg_of X G g_MOST_COUNTED⟩, ⟨_, PySem.W.mg_of X G g_WRONG_FORM⟩, ⟨_, PySem.W.mg_of X G g_NO_SUCH_RULE⟩, ⟨_, PySem.W.mg_of X G g_NO_SUCH_ROW⟩, ⟨_, PySem.W.mg_of X G g_TOO_MANY_RULES⟩⟩
  have T_Con4 : Con4 mg := ⟨⟨_, PySem.W.mg_of X G g_BEGINS⟩, ⟨_, PySem.W.mg_of X G g_RULE⟩, ⟨_, PySem.W.mg_of X G g_DROP⟩, ⟨_, PySem.W.mg_of X G g_JUDGE⟩, ⟨_, PySem.W.mg_of X G g_SHORTEST⟩, ⟨_, PySem.W.mg_of X G g_COUNT⟩, ⟨_, PySem.W.mg_of X G g_CLASHES⟩, ⟨_, PySem.W.mg_of X G g_SPARE⟩, ⟨_, PySem.W.mg_of X G g_BREAKS⟩, ⟨_, PySem.W.mg_of X G g_NEAREST⟩⟩
  have B : Own mg := ⟨PySem.W.mg_none_of X G b_len, PySem.W.mg_none_of X G b_range, PySem.W.mg_none_of X G b_zip, PySem.W.mg_none_of X G b_tuple, PySem.W.mg_none_of X G b_list, PySem.W.mg_none_of X G b_all, PySem.W.mg_none_of X G b_any, PySem.W.mg_none_of X G b_enumerate, PySem.W.mg_none_of X G b_sum, PySem.W.mg_none_of X G b_min⟩
  have HX : Hs K mg C := ⟨⟨pg_C, hd_C, po_C, sa_C⟩, n_rules_C, PySem.W.mg_of X G aC⟩
  have XS : Ss K mg CS := ⟨⟨pg_CS, hd_CS, po_CS, sa_CS⟩, n_rules_CS, n_states_CS, n_numbers_CS, n_rows_CS, n_broken_CS, n_further_CS⟩
  have XM : Ms K mg CM := ⟨⟨pg_CM, hd_CM, po_CM, sa_CM⟩, n_spots_CM, n_given_CM, n_settled_CM, n_waiting_CM⟩
  have D_is_step : Has K mg "is_step" s_is_step := ⟨_, _, fun_mk (st := s_is_step) l_is_step c_is_step k_is_step, PySem.W.mg_of X G a_is_step⟩
  have D_is_form : Has K mg "is_form" s_is_form := ⟨_, _, fun_mk (st := s_is_form) l_is_form c_is_form k_is_form, PySem.W.mg_of X G a_is_form⟩
  have D_after_counted : Has K mg "after_counted" s_after_counted := ⟨_, _, fun_mk (st := s_after_counted) l_after_counted c_after_counted k_after_counted, PySem.W.mg_of X G a_after_counted⟩
  have D_after_first : Has K mg "after_first" s_after_first := ⟨_, _, fun_mk (st := s_after_first) l_after_first c_after_first k_after_first, PySem.W.mg_of X G a_after_first⟩
  have D_after_last : Has K mg "after_last" s_after_last := ⟨_, _, fun_mk (st := s_after_last) l_after_last c_after_last k_after_last, PySem.W.mg_of X G a_after_last⟩
  have D_after_later : Has K mg "after_later" s_after_later := ⟨_, _, fun_mk (st := s_after_later) l_after_later c_after_later k_after_later, PySem.W.mg_of X G a_after_later⟩
  have D_after_ahead : Has K mg "after_ahead" s_after_ahead := ⟨_, _, fun_mk (st := s_after_ahead) l_after_ahead c_after_ahead k_after_ahead, PySem.W.mg_of X G a_after_ahead⟩
  have D_after_right_behind : Has K mg "after_right_behind" s_after_right_behind := ⟨_, _, fun_mk (st := s_after_right_behind) l_after_right_behind c_after_right_behind k_after_right_behind, PySem.W.mg_of X G a_after_right_behind⟩
  have D_after_not_both : Has K mg "after_not_both" s_after_not_both := ⟨_, _, fun_mk (st := s_after_not_both) l_after_not_both c_after_not_both k_after_not_both, PySem.W.mg_of X G a_after_not_both⟩
  have D_after_between : Has K mg "after_between" s_after_between := ⟨_, _, fun_mk (st := s_after_between) l_after_between c_after_between k_after_between, PySem.W.mg_of X G a_after_between⟩
  have D_state_after : Has K mg "state_after" s_state_after := ⟨_, _, fun_mk (st := s_state_after) l_state_after c_state_after k_state_after, PySem.W.mg_of X G a_state_after⟩
  have D_verdict_in : Has K mg "verdict_in" s_verdict_in := ⟨_, _, fun_mk (st := s_verdict_in) l_verdict_in c_verdict_in k_verdict_in, PySem.W.mg_of X G a_verdict_in⟩
  have D_nearest_row : Has K mg "nearest_row" s_nearest_row := ⟨_, _, fun_mk (st := s_nearest_row) l_nearest_row c_nearest_row k_nearest_row, PySem.W.mg_of X G a_nearest_row⟩
  have D_first_states : Has K mg "first_states" s_first_states := ⟨_, _, fun_mk (st := s_first_states) l_first_states c_first_states k_first_states, PySem.W.mg_of X G a_first_states⟩
  have D_states_after : Has K mg "states_after" s_states_after := ⟨_, _, fun_mk (st := s_states_after) l_states_after c_states_after k_states_after, PySem.W.mg_of X G a_states_after⟩
  have D_verdicts_in : Has K mg "verdicts_in" s_verdicts_in := ⟨_, _, fun_mk (st := s_verdicts_in) l_verdicts_in c_verdicts_in k_verdicts_in, PySem.W.mg_of X G a_verdicts_in⟩
  have D_verdicts_of : Has K mg "verdicts_of" s_verdicts_of := ⟨_, _, fun_mk (st := s_verdicts_of) l_verdicts_of c_verdicts_of k_verdicts_of, PySem.W.mg_of X G a_verdicts_of⟩
  have D_broken_in : Has K mg "broken_in" s_broken_in := ⟨_, _, fun_mk (st := s_broken_in) l_broken_in c_broken_in k_broken_in, PySem.W.mg_of X G a_broken_in⟩
  have D_earliest_row : Has K mg "earliest_row" s_earliest_row := ⟨_, _, fun_mk (st := s_earliest_row) l_earliest_row c_earliest_row k_earliest_row, PySem.W.mg_of X G a_earliest_row⟩
  have D_ways_further : Has K mg "ways_further" s_ways_further := ⟨_, _, fun_mk (st := s_ways_further) l_ways_further c_ways_further k_ways_further, PySem.W.mg_of X G a_ways_further⟩
  have D_rows_that_keep_all : Has K mg "rows_that_keep_all" s_rows_that_keep_all := ⟨_, _, fun_mk (st := s_rows_that_keep_all) l_rows_that_keep_all c_rows_that_keep_all k_rows_that_keep_all, PySem.W.mg_of X G a_rows_that_keep_all⟩
  have D_one_larger : Has K mg "one_larger" s_one_larger := ⟨_, _, fun_mk (st := s_one_larger) l_one_larger c_one_larger k_one_larger, PySem.W.mg_of X G a_one_larger⟩
  have D_sets_in_order : Has K mg "sets_in_order" s_sets_in_order := ⟨_, _, fun_mk (st := s_sets_in_order) l_sets_in_order c_sets_in_order k_sets_in_order, PySem.W.mg_of X G a_sets_in_order⟩
  have D_holds_all : Has K mg "holds_all" s_holds_all := ⟨_, _, fun_mk (st := s_holds_all) l_holds_all c_holds_all k_holds_all, PySem.W.mg_of X G a_holds_all⟩
  have D_can_be_kept : Has K mg "can_be_kept" s_can_be_kept := ⟨_, _, fun_mk (st := s_can_be_kept) l_can_be_kept c_can_be_kept k_can_be_kept, PySem.W.mg_of X G a_can_be_kept⟩
  have D_clashes_of : Has K mg "clashes_of" s_clashes_of := ⟨_, _, fun_mk (st := s_clashes_of) l_clashes_of c_clashes_of k_clashes_of, PySem.W.mg_of X G a_clashes_of⟩
  have D_spare_of : Has K mg "spare_of" s_spare_of := ⟨_, _, fun_mk (st := s_spare_of) l_spare_of c_spare_of k_spare_of, PySem.W.mg_of X G a_spare_of⟩
  have D_told_row : Has K mg "told_row" s_told_row := ⟨_, _, fun_mk (st := s_told_row) l_told_row c_told_row k_told_row, PySem.W.mg_of X G a_told_row⟩
  have D_is_row : Has K mg "is_row" s_is_row := ⟨_, _, fun_mk (st := s_is_row) l_is_row c_is_row k_is_row, PySem.W.mg_of X G a_is_row⟩
  have D_row_at : Has K mg "row_at" s_row_at := ⟨_, _, fun_mk (st := s_row_at) l_row_at c_row_at k_row_at, PySem.W.mg_of X G a_row_at⟩
  have D_answer_at : Has K mg "answer_at" s_answer_at := ⟨_, _, fun_mk (st := s_answer_at) l_answer_at c_answer_at k_answer_at, PySem.W.mg_of X G a_answer_at⟩
  have D_place_behind : Has K mg "place_behind" s_place_behind := ⟨_, _, fun_mk (st := s_place_behind) l_place_behind c_place_behind k_place_behind, PySem.W.mg_of X G a_place_behind⟩
  have D_m_begins : HasM K C "begins" "House.begins" s_House_begins := ⟨_, _, fun_mk (st := s_House_begins) l_m_begins c_m_begins k_m_begins, ⟨a_m_begins, i_m_begins, k_m_begins⟩⟩
  have D_m_add_rule : HasM K C "add_rule" "House.add_rule" s_House_add_rule := ⟨_, _, fun_mk (st := s_House_add_rule) l_m_add_rule c_m_add_rule k_m_add_rule, ⟨a_m_add_rule, i_m_add_rule, k_m_add_rule⟩⟩
  have D_m_drop : HasM K C "drop" "House.drop" s_House_drop := ⟨_, _, fun_mk (st := s_House_drop) l_m_drop c_m_drop k_m_drop, ⟨a_m_drop, i_m_drop, k_m_drop⟩⟩
  have D_m_judge : HasM K C "judge" "House.judge" s_House_judge := ⟨_, _, fun_mk (st := s_House_judge) l_m_judge c_m_judge k_m_judge, ⟨a_m_judge, i_m_judge, k_m_judge⟩⟩
  have D_m_shortest : HasM K C "shortest" "House.shortest" s_House_shortest := ⟨_, _, fun_mk (st := s_House_shortest) l_m_shortest c_m_shortest k_m_shortest, ⟨a_m_shortest, i_m_shortest, k_m_shortest⟩⟩
  have D_m_count : HasM K C "count" "House.count" s_House_count := ⟨_, _, fun_mk (st := s_House_count) l_m_count c_m_count k_m_count, ⟨a_m_count, i_m_count, k_m_count⟩⟩
  have D_m_clashes : HasM K C "clashes" "House.clashes" s_House_clashes := ⟨_, _, fun_mk (st := s_House_clashes) l_m_clashes c_m_clashes k_m_clashes, ⟨a_m_clashes, i_m_clashes, k_m_clashes⟩⟩
  have D_m_spare : HasM K C "spare" "House.spare" s_House_spare := ⟨_, _, fun_mk (st := s_House_spare) l_m_spare c_m_spare k_m_spare, ⟨a_m_spare, i_m_spare, k_m_spare⟩⟩
  have D_m_breaks : HasM K C "breaks" "House.breaks" s_House_breaks := ⟨_, _, fun_mk (st := s_House_breaks) l_m_breaks c_m_breaks k_m_breaks, ⟨a_m_breaks, i_m_breaks, k_m_breaks⟩⟩
  have D_m_nearest : HasM K C "nearest" "House.nearest" s_House_nearest := ⟨_, _, fun_mk (st := s_House_nearest) l_m_nearest c_m_nearest k_m_nearest, ⟨a_m_nearest, i_m_nearest, k_m_nearest⟩⟩
  have D_s_init : HasI K mg CS "Spots" "Spots.__init__" s_Spots_init := ⟨_, _, fun_mk (st := s_Spots_init) l_s_init c_s_init k_s_init, ⟨mk_CS, a_s_init, i_s_init, kc_CS⟩, PySem.W.mg_of X G aCS⟩
  have D_s_number_of : HasM K CS "number_of" "Spots.number_of" s_Spots_number_of := ⟨_, _, fun_mk (st := s_Spots_number_of) l_s_number_of c_s_number_of k_s_number_of, ⟨a_s_number_of, i_s_number_of, k_s_number_of⟩⟩
  have D_s_go_further : HasM K CS "go_further" "Spots.go_further" s_Spots_go_further := ⟨_, _, fun_mk (st := s_Spots_go_further) l_s_go_further c_s_go_further k_s_go_further, ⟨a_s_go_further, i_s_go_further, k_s_go_further⟩⟩
  have D_n_init : HasI K mg CM "Making" "Making.__init__" s_Making_init := ⟨_, _, fun_mk (st := s_Making_init) l_n_init c_n_init k_n_init, ⟨mk_CM, a_n_init, i_n_init, kc_CM⟩, PySem.W.mg_of X G aCM⟩
  have D_n_put : HasM K CM "put" "Making.put" s_Making_put := ⟨_, _, fun_mk (st := s_Making_put) l_n_put c_n_put k_n_put, ⟨a_n_put, i_n_put, k_n_put⟩⟩
  have D_n_take : HasM K CM "take" "Making.take" s_Making_take := ⟨_, _, fun_mk (st := s_Making_take) l_n_take c_n_take k_n_take, ⟨a_n_take, i_n_take, k_n_take⟩⟩
  have D_n_is_end : HasM K CM "is_end" "Making.is_end" s_Making_is_end := ⟨_, _, fun_mk (st := s_Making_is_end) l_n_is_end c_n_is_end k_n_is_end, ⟨a_n_is_end, i_n_is_end, k_n_is_end⟩⟩
  have D_n_go_further : HasM K CM "go_further" "Making.go_further" s_Making_go_further := ⟨_, _, fun_mk (st := s_Making_go_further) l_n_go_further c_n_go_further k_n_go_further, ⟨a_n_go_further, i_n_go_further, k_n_go_further⟩⟩
  have D_n_nearest_of_length : HasM K CM "nearest_of_length" "Making.nearest_of_length" s_Making_nearest_of_length := ⟨_, _, fun_mk (st := s_Making_nearest_of_length) l_n_nearest_of_length c_n_nearest_of_length k_n_nearest_of_length, ⟨a_n_nearest_of_length, i_n_nearest_of_length, k_n_nearest_of_length⟩⟩
  have V : Verds K mg := by
    refine ⟨D_VERDICTS, fun k => if k = 2 then some (.ref t_VERDICTS_2) else if k = 3 then some (.ref t_VERDICTS_3) else if k = 4 then some (.ref t_VERDICTS_4) else if k = 5 then some (.ref t_VERDICTS_5) else if k = 6 then some (.ref t_VERDICTS_6) else if k = 7 then some (.ref t_VERDICTS_7) else if k = 8 then some (.ref t_VERDICTS_8) else none, PySem.W.mg_of X G a_VERDICTS, ⟨_, n_VERDICTS, l_VERDICTS, ?_, ?_⟩, ?_⟩
    · exact ⟨⟨_, _, rfl, q_VERDICTS_2⟩, ⟨_, _, rfl, q_VERDICTS_3⟩, ⟨_, _, rfl, q_VERDICTS_4⟩, ⟨_, _, rfl, q_VERDICTS_5⟩, ⟨_, _, rfl, q_VERDICTS_6⟩, ⟨_, _, rfl, q_VERDICTS_7⟩, ⟨_, _, rfl, q_VERDICTS_8⟩, trivial⟩
    · intro k u hk
      dsimp only at hk
      by_cases e2 : k = 2
      · subst e2; cases hk; rfl
      rw [if_neg e2] at hk
      by_cases e3 : k = 3
      · subst e3; cases hk; rfl
      rw [if_neg e3] at hk
      by_cases e4 : k = 4
      · subst e4; cases hk; rfl
      rw [if_neg e4] at hk
      by_cases e5 : k = 5
      · subst e5; cases hk; rfl
      rw [if_neg e5] at hk
      by_cases e6 : k = 6
      · subst e6; cases hk; rfl
      rw [if_neg e6] at hk
      by_cases e7 : k = 7
      · subst e7; cases hk; rfl
      rw [if_neg e7] at hk
      by_cases e8 : k = 8
      · subst e8; cases hk; rfl
      rw [if_neg e8] at hk
      cases hk
    · exact ⟨⟨t_VERDICTS_2, rfl, fun H => .inr ⟨_, _, _, l_VERDICTS_2, rfl, rfl, (by show 3 ≤ sizeLine; decide), (.cons ⟨_, rfl⟩ (.cons ⟨_, rfl⟩ (.cons ⟨_, rfl⟩ .nil)))⟩⟩,
        ⟨t_VERDICTS_3, rfl, fun H => .inr ⟨_, _, _, l_VERDICTS_3, rfl, rfl, (by show 2 ≤ sizeLine; decide), (.cons ⟨_, rfl⟩ (.cons ⟨_, rfl⟩ .nil))⟩⟩,
        ⟨t_VERDICTS_4, rfl, fun H => .inr ⟨_, _, _, l_VERDICTS_4, rfl, rfl, (by show 3 ≤ sizeLine; decide), (.cons ⟨_, rfl⟩ (.cons ⟨_, rfl⟩ (.cons ⟨_, rfl⟩ .nil)))⟩⟩,
        ⟨t_VERDICTS_5, rfl, fun H => .inr ⟨_, _, _, l_VERDICTS_5, rfl, rfl, (by show 4 ≤ sizeLine; decide), (.cons ⟨_, rfl⟩ (.cons ⟨_, rfl⟩ (.cons ⟨_, rfl⟩ (.cons ⟨_, rfl⟩ .nil))))⟩⟩,
        ⟨t_VERDICTS_6, rfl, fun H => .inr ⟨_, _, _, l_VERDICTS_6, rfl, rfl, (by show 4 ≤ sizeLine; decide), (.cons ⟨_, rfl⟩ (.cons ⟨_, rfl⟩ (.cons ⟨_, rfl⟩ (.cons ⟨_, rfl⟩ .nil))))⟩⟩,
        ⟨t_VERDICTS_7, rfl, fun H => .inr ⟨_, _, _, l_VERDICTS_7, rfl, rfl, (by show 4 ≤ sizeLine; decide), (.cons ⟨_, rfl⟩ (.cons ⟨_, rfl⟩ (.cons ⟨_, rfl⟩ (.cons ⟨_, rfl⟩ .nil))))⟩⟩,
        ⟨t_VERDICTS_8, rfl, fun H => .inr ⟨_, _, _, l_VERDICTS_8, rfl, rfl, (by show 6 ≤ sizeLine; decide), (.cons ⟨_, rfl⟩ (.cons ⟨_, rfl⟩ (.cons ⟨_, rfl⟩ (.cons ⟨_, rfl⟩ (.cons ⟨_, rfl⟩ (.cons ⟨_, rfl⟩ .nil))))))⟩⟩⟩
  have FA := fun_mk (st := s_answers) l_answers c_answers k_answers
  have FI := fun_mk (st := s_House_init) l_m_init c_m_init k_m_init
  have bI := FI.binds (ps := ["self"]) fun _ _ _ _ _ _ us hl => match us, hl with | [_], _ => rfl
  refine ⟨PySem.W.fnOf "answers" "answers" (defArgs s_answers) (defBody s_answers) (defScope s_answers) .none kV_answers dc_answers pm_answers an_answers cd_answers ct_answers, fun s us hu => match us, hu with | [_], _ => .of_eq rfl, fun base _ _ => ?_⟩
  have G1 := ok_is_step (P := P) (w := w) (base := base) T_Con D_is_step
  have G2 := ok_is_form (P := P) (w := w) (base := base) T_Con B D_is_form G1
  have G3 := ok_state_after (P := P) (w := w) (base := base) T_Con D_state_after (ok_after_counted T_Con D_after_counted) (ok_after_first D_after_first) (ok_after_last D_after_last) (ok_after_later D_after_later) (ok_after_ahead D_after_ahead) (ok_after_right_behind D_after_right_behind) (ok_after_not_both D_after_not_both) (ok_after_between D_after_between)
  have G4 := ok_verdict_in (P := P) (w := w) (base := base) T_Con V D_verdict_in
  have G5 := ok_first_states (P := P) (w := w) (base := base) T_Con B D_first_states
  have G6 := ok_states_after (P := P) (w := w) (base := base) T_Con B D_states_after G3
  have G7 := ok_verdicts_in (P := P) (w := w) (base := base) T_Con B D_verdicts_in G4
  have G8 := ok_verdicts_of (P := P) (w := w) (base := base) D_verdicts_of G5 G6 G7
  have G9 := ok_broken_in (P := P) (w := w) (base := base) T_Con B D_broken_in
  have S1 := ok_number_of (P := P) (w := w) (base := base) B XS D_s_number_of G7 G9
  have S2 := ok_sgo (P := P) (w := w) (base := base) T_Con B XS D_s_go_further G6 S1
  have NS := ok_sinit (P := P) (w := w) (base := base) B XS D_s_init G5 S1 S2
  have G10 := ok_earliest_row (P := P) (w := w) (base := base) B XS D_earliest_row
  have G11 := ok_told_row (P := P) (w := w) (base := base) T_Con3 B D_told_row
  have G12 := ok_is_row (P := P) (w := w) (base := base) T_Con2 B D_is_row G1
  have G13 := ok_row_at (P := P) (w := w) (base := base) D_row_at
  have G14 := ok_can_be_kept (P := P) (w := w) (base := base) B XS D_can_be_kept
  have G15 := ok_spare_of (P := P) (w := w) (base := base) B XS D_spare_of G10
  have G16 := ok_one_larger (P := P) (w := w) (base := base) B D_one_larger
  have G17 := ok_sets (P := P) (w := w) (base := base) B D_sets_in_order G16
  have G18 := ok_holds_all (P := P) (w := w) (base := base) B D_holds_all
  have G19 := ok_clashes_of (P := P) (w := w) (base := base) B XS D_clashes_of G17 G18 G14
  have G20 := ok_ways_further (P := P) (w := w) (base := base) XS D_ways_further
  have G21 := ok_rows_that (P := P) (w := w) (base := base) B XS D_rows_that_keep_all G20
  have N1 := ok_put (P := P) (w := w) (base := base) B XM D_n_put
  have N2 := ok_take (P := P) (w := w) (base := base) B XM D_n_take
  have N3 := ok_is_end (P := P) (w := w) (base := base) B XS XM D_n_is_end
  have N4 := ok_mgo (P := P) (w := w) (base := base) T_Con B XS XM D_n_go_further N1
  have N5 := ok_nol (P := P) (w := w) (base := base) B XS XM D_n_nearest_of_length N2 N3 N4
  have NM := ok_minit (P := P) (w := w) (base := base) XM D_n_init N1
  have G22 := ok_nearest_row (P := P) (w := w) (base := base) B XM D_nearest_row NM N5
  have M1 := ok_begins (P := P) (w := w) (base := base) D_m_begins HX
  have M2 := ok_add_rule (P := P) (w := w) (base := base) T_Con3 B D_m_add_rule HX G2
  have M3 := ok_drop (P := P) (w := w) (base := base) T_Con3 B D_m_drop HX
  have M4 := ok_judge (P := P) (w := w) (base := base) T_Con3 B D_m_judge HX G12 G8 G9
  have M5 := ok_shortest (P := P) (w := w) (base := base) D_m_shortest HX NS G10 G11
  have M6 := ok_count (P := P) (w := w) (base := base) T_Con3 D_m_count HX NS G21
  have M7 := ok_clashes (P := P) (w := w) (base := base) B D_m_clashes HX NS G19
  have M8 := ok_spare (P := P) (w := w) (base := base) B D_m_spare HX NS G15
  have M9 := ok_breaks (P := P) (w := w) (base := base) T_Con3 B D_m_breaks HX NS G10 G11
  have M10 := ok_nearest (P := P) (w := w) (base := base) T_Con3 B D_m_nearest HX NS G12 G22
  have GA := ok_answer_at (P := P) (w := w) (base := base) T_Con4 B D_answer_at HX G13 M1 M2 M3 M4 M5 M6 M7 M8 M9 M10
  have GP := ok_place_behind (P := P) (w := w) (base := base) T_Con4 D_place_behind
  exact ok_answers FA B HX ⟨mk_C, a_m_init, i_m_init, kc_C⟩ (ok_init FI HX) bI GA GP
end Cr
end
open PySem PySem.W PyProof.Rows
set_option maxRecDepth 100000 in
set_option maxHeartbeats 0 in
theorem PySem.Challenge.cw_caserules_s01_answers_holds : PySem.Challenge.rw_caserules_s01_answers.Holds := by
  w_on; k_headS; (case hw => exact ⟨[.list [.int 0]], by decide +kernel, by decide +kernel⟩)
  k_fillS
  refine L2.walk_specK (r := PySem.Challenge.rw_caserules_s01_answers) (k := 21) (CX := L2.CX0) (ps := ["calls"]) (sp := Cr.sp_answers) (by decide +kernel) rfl rfl ⟨rfl, by decide, by decide⟩ (fun w h Y => PySem.W.kIn_of Y) ?F ?S (fun _ _ _ _ z => z)
  case F =>
    intro w mg fa h Y KX G hmg
    refine' Cr.all_mk KX G hmg ?aC ?aCS ?aCM ?a_is_step ?l_is_step ?c_is_step ?k_is_step ?a_is_form ?l_is_form ?c_is_form ?k_is_form ?a_after_counted ?l_after_counted ?c_after_counted ?k_after_counted ?a_after_first ?l_after_first ?c_after_first ?k_after_first ?a_after_last ?l_after_last ?c_after_last ?k_after_last ?a_after_later ?l_after_later ?c_after_later ?k_after_later ?a_after_ahead ?l_after_ahead ?c_after_ahead ?k_after_ahead ?a_after_right_behind ?l_after_right_behind ?c_after_right_behind ?k_after_right_behind ?a_after_not_both ?l_after_not_both ?c_after_not_both ?k_after_not_both ?a_after_between ?l_after_between ?c_after_between ?k_after_between ?a_state_after ?l_state_after ?c_state_after ?k_state_after ?a_verdict_in ?l_verdict_in ?c_verdict_in ?k_verdict_in ?a_nearest_row ?l_nearest_row ?c_nearest_row ?k_nearest_row ?a_first_states ?l_first_states ?c_first_states ?k_first_states ?a_states_after ?l_states_after ?c_states_after ?k_states_after ?a_verdicts_in ?l_verdicts_in ?c_verdicts_in ?k_verdicts_in ?a_verdicts_of ?l_verdicts_of ?c_verdicts_of ?k_verdicts_of ?a_broken_in ?l_broken_in ?c_broken_in ?k_broken_in ?a_earliest_row ?l_earliest_row ?c_earliest_row ?k_earliest_row ?a_ways_further ?l_ways_further ?c_ways_further ?k_ways_further ?a_rows_that_keep_all ?l_rows_that_keep_all ?c_rows_that_keep_all ?k_rows_that_keep_all ?a_one_larger ?l_one_larger ?c_one_larger ?k_one_larger ?a_sets_in_order ?l_sets_in_order ?c_sets_in_order ?k_sets_in_order ?a_holds_all ?l_holds_all ?c_holds_all ?k_holds_all ?a_can_be_kept ?l_can_be_kept ?c_can_be_kept ?k_can_be_kept ?a_clashes_of ?l_clashes_of ?c_clashes_of ?k_clashes_of ?a_spare_of ?l_spare_of ?c_spare_of ?k_spare_of ?a_told_row ?l_told_row ?c_told_row ?k_told_row ?a_is_row ?l_is_row ?c_is_row ?k_is_row ?a_row_at ?l_row_at ?c_row_at ?k_row_at ?a_answer_at ?l_answer_at ?c_answer_at ?k_answer_at ?a_place_behind ?l_place_behind ?c_place_behind ?k_place_behind ?a_answers ?l_answers ?c_answers ?k_answers ?a_m_init ?i_m_init ?l_m_init ?c_m_init ?k_m_init ?a_m_begins ?i_m_begins ?l_m_begins ?c_m_begins ?k_m_begins ?a_m_add_rule ?i_m_add_rule ?l_m_add_rule ?c_m_add_rule ?k_m_add_rule ?a_m_drop ?i_m_drop ?l_m_drop ?c_m_drop ?k_m_drop ?a_m_judge ?i_m_judge ?l_m_judge ?c_m_judge ?k_m_judge ?a_m_shortest ?i_m_shortest ?l_m_shortest ?c_m_shortest ?k_m_shortest ?a_m_count ?i_m_count ?l_m_count ?c_m_count ?k_m_count ?a_m_clashes ?i_m_clashes ?l_m_clashes ?c_m_clashes ?k_m_clashes ?a_m_spare ?i_m_spare ?l_m_spare ?c_m_spare ?k_m_spare ?a_m_breaks ?i_m_breaks ?l_m_breaks ?c_m_breaks ?k_m_breaks ?a_m_nearest ?i_m_nearest ?l_m_nearest ?c_m_nearest ?k_m_nearest ?a_s_init ?i_s_init ?l_s_init ?c_s_init ?k_s_init ?a_s_number_of ?i_s_number_of ?l_s_number_of ?c_s_number_of ?k_s_number_of ?a_s_go_further ?i_s_go_further ?l_s_go_further ?c_s_go_further ?k_s_go_further ?a_n_init ?i_n_init ?l_n_init ?c_n_init ?k_n_init ?a_n_put ?i_n_put ?l_n_put ?c_n_put ?k_n_put ?a_n_take ?i_n_take ?l_n_take ?c_n_take ?k_n_take ?a_n_is_end ?i_n_is_end ?l_n_is_end ?c_n_is_end ?k_n_is_end ?a_n_go_further ?i_n_go_further ?l_n_go_further ?c_n_go_further ?k_n_go_further ?a_n_nearest_of_length ?i_n_nearest_of_length ?l_n_nearest_of_length ?c_n_nearest_of_length ?k_n_nearest_of_length ?g_STEPS ?g_MOST_TIMES ?g_AT_LEAST ?g_AT_MOST ?g_FIRST ?g_LAST ?g_LATER ?g_AHEAD ?g_RIGHT_BEHIND ?g_NOT_BOTH ?g_BETWEEN ?g_BROKEN ?g_KEPT ?g_BEGINS ?g_RULE ?g_DROP ?g_JUDGE ?g_SHORTEST ?g_COUNT ?g_CLASHES ?g_SPARE ?g_BREAKS ?g_NEAREST ?g_MOST_RULES ?g_LONGEST_ROW ?g_MOST_COUNTED ?g_WRONG_FORM ?g_NO_SUCH_RULE ?g_NO_SUCH_ROW ?g_TOO_MANY_RULES ?b_len ?b_range ?b_zip ?b_tuple ?b_list ?b_all ?b_any ?b_enumerate ?b_sum ?b_min ?pg_C ?hd_C ?po_C ?sa_C ?mk_C ?kc_C ?n_rules_C ?pg_CS ?hd_CS ?po_CS ?sa_CS ?mk_CS ?kc_CS ?n_rules_CS ?n_states_CS ?n_numbers_CS ?n_rows_CS ?n_broken_CS ?n_further_CS ?pg_CM ?hd_CM ?po_CM ?sa_CM ?mk_CM ?kc_CM ?n_spots_CM ?n_given_CM ?n_settled_CM ?n_waiting_CM ?a_VERDICTS ?l_VERDICTS ?q_VERDICTS_2 ?l_VERDICTS_2 ?q_VERDICTS_3 ?l_VERDICTS_3 ?q_VERDICTS_4 ?l_VERDICTS_4 ?q_VERDICTS_5 ?l_VERDICTS_5 ?q_VERDICTS_6 ?l_VERDICTS_6 ?q_VERDICTS_7 ?l_VERDICTS_7 ?q_VERDICTS_8 ?l_VERDICTS_8
    (case aC => k_is)
    (case aCS => k_is)
    (case aCM => k_is)
    (case a_is_step => k_is)
    (case l_is_step => k_is)
    (case c_is_step => k_is)
    (case k_is_step => k_is)
    (case a_is_form => k_is)
    (case l_is_form => k_is)
    (case c_is_form => k_is)
    (case k_is_form => k_is)
    (case a_after_counted => k_is)
    (case l_after_counted => k_is)
    (case c_after_counted => k_is)
    (case k_after_counted => k_is)
    (case a_after_first => k_is)
    (case l_after_first => k_is)
    (case c_after_first => k_is)
    (case k_after_first => k_is)
    (case a_after_last => k_is)
    (case l_after_last => k_is)
    (case c_after_last => k_is)
    (case k_after_last => k_is)
    (case a_after_later => k_is)
    (case l_after_later => k_is)
    (case c_after_later => k_is)
    (case k_after_later => k_is)
    (case a_after_ahead => k_is)
    (case l_after_ahead => k_is)
    (case c_after_ahead => k_is)
    (case k_after_ahead => k_is)
    (case a_after_right_behind => k_is)
    (case l_after_right_behind => k_is)
    (case c_after_right_behind => k_is)
    (case k_after_right_behind => k_is)
    (case a_after_not_both => k_is)
    (case l_after_not_both => k_is)
    (case c_after_not_both => k_is)
    (case k_after_not_both => k_is)
    (case a_after_between => k_is)
    (case l_after_between => k_is)
    (case c_after_between => k_is)
    (case k_after_between => k_is)
    (case a_state_after => k_is)
    (case l_state_after => k_is)
    (case c_state_after => k_is)
    (case k_state_after => k_is)
    (case a_verdict_in => k_is)
    (case l_verdict_in => k_is)
    (case c_verdict_in => k_is)
    (case k_verdict_in => k_is)
    (case a_nearest_row => k_is)
    (case l_nearest_row => k_is)
    (case c_nearest_row => k_is)
    (case k_nearest_row => k_is)
    (case a_first_states => k_is)
    (case l_first_states => k_is)
    (case c_first_states => k_is)
    (case k_first_states => k_is)
    (case a_states_after => k_is)
    (case l_states_after => k_is)
    (case c_states_after => k_is)
    (case k_states_after => k_is)
    (case a_verdicts_in => k_is)
    (case l_verdicts_in => k_is)
    (case c_verdicts_in => k_is)
    (case k_verdicts_in => k_is)
    (case a_verdicts_of => k_is)
    (case l_verdicts_of => k_is)
    (case c_verdicts_of => k_is)
    (case k_verdicts_of => k_is)
    (case a_broken_in => k_is)
    (case l_broken_in => k_is)
    (case c_broken_in => k_is)
    (case k_broken_in => k_is)
    (case a_earliest_row => k_is)
    (case l_earliest_row => k_is)
    (case c_earliest_row => k_is)
    (case k_earliest_row => k_is)
    (case a_ways_further => k_is)
    (case l_ways_further => k_is)
    (case c_ways_further => k_is)
    (case k_ways_further => k_is)
    (case a_rows_that_keep_all => k_is)
    (case l_rows_that_keep_all => k_is)
    (case c_rows_that_keep_all => k_is)
    (case k_rows_that_keep_all => k_is)
    (case a_one_larger => k_is)
    (case l_one_larger => k_is)
    (case c_one_larger => k_is)
    (case k_one_larger => k_is)
    (case a_sets_in_order => k_is)
    (case l_sets_in_order => k_is)
    (case c_sets_in_order => k_is)
    (case k_sets_in_order => k_is)
    (case a_holds_all => k_is)
    (case l_holds_all => k_is)
    (case c_holds_all => k_is)
    (case k_holds_all => k_is)
    (case a_can_be_kept => k_is)
    (case l_can_be_kept => k_is)
    (case c_can_be_kept => k_is)
    (case k_can_be_kept => k_is)
    (case a_clashes_of => k_is)
    (case l_clashes_of => k_is)
    (case c_clashes_of => k_is)
    (case k_clashes_of => k_is)
    (case a_spare_of => k_is)
    (case l_spare_of => k_is)
    (case c_spare_of => k_is)
    (case k_spare_of => k_is)
    (case a_told_row => k_is)
    (case l_told_row => k_is)
    (case c_told_row => k_is)
    (case k_told_row => k_is)
    (case a_is_row => k_is)
    (case l_is_row => k_is)
    (case c_is_row => k_is)
    (case k_is_row => k_is)
    (case a_row_at => k_is)
    (case l_row_at => k_is)
    (case c_row_at => k_is)
    (case k_row_at => k_is)
    (case a_answer_at => k_is)
    (case l_answer_at => k_is)
    (case c_answer_at => k_is)
    (case k_answer_at => k_is)
    (case a_place_behind => k_is)
    (case l_place_behind => k_is)
    (case c_place_behind => k_is)
    (case k_place_behind => k_is)
    (case a_answers => k_is)
    (case l_answers => k_is)
    (case c_answers => k_is)
    (case k_answers => k_is)
    (case a_m_init => k_is)
    (case i_m_init => k_is)
    (case l_m_init => k_is)
    (case c_m_init => k_is)
    (case k_m_init => k_is)
    (case a_m_begins => k_is)
    (case i_m_begins => k_is)
    (case l_m_begins => k_is)
    (case c_m_begins => k_is)
    (case k_m_begins => k_is)
    (case a_m_add_rule => k_is)
    (case i_m_add_rule => k_is)
    (case l_m_add_rule => k_is)
    (case c_m_add_rule => k_is)
    (case k_m_add_rule => k_is)
    (case a_m_drop => k_is)
    (case i_m_drop => k_is)
    (case l_m_drop => k_is)
    (case c_m_drop => k_is)
    (case k_m_drop => k_is)
    (case a_m_judge => k_is)
    (case i_m_judge => k_is)
    (case l_m_judge => k_is)
    (case c_m_judge => k_is)
    (case k_m_judge => k_is)
    (case a_m_shortest => k_is)
    (case i_m_shortest => k_is)
    (case l_m_shortest => k_is)
    (case c_m_shortest => k_is)
    (case k_m_shortest => k_is)
    (case a_m_count => k_is)
    (case i_m_count => k_is)
    (case l_m_count => k_is)
    (case c_m_count => k_is)
    (case k_m_count => k_is)
    (case a_m_clashes => k_is)
    (case i_m_clashes => k_is)
    (case l_m_clashes => k_is)
    (case c_m_clashes => k_is)
    (case k_m_clashes => k_is)
    (case a_m_spare => k_is)
    (case i_m_spare => k_is)
    (case l_m_spare => k_is)
    (case c_m_spare => k_is)
    (case k_m_spare => k_is)
    (case a_m_breaks => k_is)
    (case i_m_breaks => k_is)
    (case l_m_breaks => k_is)
    (case c_m_breaks => k_is)
    (case k_m_breaks => k_is)
    (case a_m_nearest => k_is)
    (case i_m_nearest => k_is)
    (case l_m_nearest => k_is)
    (case c_m_nearest => k_is)
    (case k_m_nearest => k_is)
    (case a_s_init => k_is)
    (case i_s_init => k_is)
    (case l_s_init => k_is)
    (case c_s_init => k_is)
    (case k_s_init => k_is)
    (case a_s_number_of => k_is)
    (case i_s_number_of => k_is)
    (case l_s_number_of => k_is)
    (case c_s_number_of => k_is)
    (case k_s_number_of => k_is)
    (case a_s_go_further => k_is)
    (case i_s_go_further => k_is)
    (case l_s_go_further => k_is)
    (case c_s_go_further => k_is)
    (case k_s_go_further => k_is)
    (case a_n_init => k_is)
    (case i_n_init => k_is)
    (case l_n_init => k_is)
    (case c_n_init => k_is)
    (case k_n_init => k_is)
    (case a_n_put => k_is)
    (case i_n_put => k_is)
    (case l_n_put => k_is)
    (case c_n_put => k_is)
    (case k_n_put => k_is)
    (case a_n_take => k_is)
    (case i_n_take => k_is)
    (case l_n_take => k_is)
    (case c_n_take => k_is)
    (case k_n_take => k_is)
    (case a_n_is_end => k_is)
    (case i_n_is_end => k_is)
    (case l_n_is_end => k_is)
    (case c_n_is_end => k_is)
    (case k_n_is_end => k_is)
    (case a_n_go_further => k_is)
    (case i_n_go_further => k_is)
    (case l_n_go_further => k_is)
    (case c_n_go_further => k_is)
    (case k_n_go_further => k_is)
    (case a_n_nearest_of_length => k_is)
    (case i_n_nearest_of_length => k_is)
    (case l_n_nearest_of_length => k_is)
    (case c_n_nearest_of_length => k_is)
    (case k_n_nearest_of_length => k_is)
    (case g_STEPS => k_is)
    (case g_MOST_TIMES => k_is)
    (case g_AT_LEAST => k_is)
    (case g_AT_MOST => k_is)
    (case g_FIRST => k_is)
    (case g_LAST => k_is)
    (case g_LATER => k_is)
    (case g_AHEAD => k_is)
    (case g_RIGHT_BEHIND => k_is)
    (case g_NOT_BOTH => k_is)
    (case g_BETWEEN => k_is)
    (case g_BROKEN => k_is)
    (case g_KEPT => k_is)
    (case g_BEGINS => k_is)
    (case g_RULE => k_is)
    (case g_DROP => k_is)
    (case g_JUDGE => k_is)
    (case g_SHORTEST => k_is)
    (case g_COUNT => k_is)
    (case g_CLASHES => k_is)
    (case g_SPARE => k_is)
    (case g_BREAKS => k_is)
    (case g_NEAREST => k_is)
    (case g_MOST_RULES => k_is)
    (case g_LONGEST_ROW => k_is)
    (case g_MOST_COUNTED => k_is)
    (case g_WRONG_FORM => k_is)
    (case g_NO_SUCH_RULE => k_is)
    (case g_NO_SUCH_ROW => k_is)
    (case g_TOO_MANY_RULES => k_is)
    (case b_len => k_is)
    (case b_range => k_is)
    (case b_zip => k_is)
    (case b_tuple => k_is)
    (case b_list => k_is)
    (case b_all => k_is)
    (case b_any => k_is)
    (case b_enumerate => k_is)
    (case b_sum => k_is)
    (case b_min => k_is)
    (case pg_C => k_is)
    (case hd_C => k_is)
    (case po_C => k_is)
    (case sa_C => k_is)
    (case mk_C => k_is)
    (case kc_C => k_is)
    (case n_rules_C => k_is)
    (case pg_CS => k_is)
    (case hd_CS => k_is)
    (case po_CS => k_is)
    (case sa_CS => k_is)
    (case mk_CS => k_is)
    (case kc_CS => k_is)
    (case n_rules_CS => k_is)
    (case n_states_CS => k_is)
    (case n_numbers_CS => k_is)
    (case n_rows_CS => k_is)
    (case n_broken_CS => k_is)
    (case n_further_CS => k_is)
    (case pg_CM => k_is)
    (case hd_CM => k_is)
    (case po_CM => k_is)
    (case sa_CM => k_is)
    (case mk_CM => k_is)
    (case kc_CM => k_is)
    (case n_spots_CM => k_is)
    (case n_given_CM => k_is)
    (case n_settled_CM => k_is)
    (case n_waiting_CM => k_is)
    (case a_VERDICTS => k_is)
    (case l_VERDICTS => k_is)
    (case q_VERDICTS_2 => first | rfl | decide +kernel | k_is)
    (case l_VERDICTS_2 => k_is)
    (case q_VERDICTS_3 => first | rfl | decide +kernel | k_is)
    (case l_VERDICTS_3 => k_is)
    (case q_VERDICTS_4 => first | rfl | decide +kernel | k_is)
    (case l_VERDICTS_4 => k_is)
    (case q_VERDICTS_5 => first | rfl | decide +kernel | k_is)
    (case l_VERDICTS_5 => k_is)
    (case q_VERDICTS_6 => first | rfl | decide +kernel | k_is)
    (case l_VERDICTS_6 => k_is)
    (case q_VERDICTS_7 => first | rfl | decide +kernel | k_is)
    (case l_VERDICTS_7 => k_is)
    (case q_VERDICTS_8 => first | rfl | decide +kernel | k_is)
    (case l_VERDICTS_8 => k_is)
  case S =>
    intro K H xs a hO hwi hask hx
    cases hx with
    | cons h1 h2 =>
      cases h2
      cases h1 with
      | lst hs ha =>
        have e := L2.ints_dw a.1 _ ha
        subst e
        have q : ((Codec.inLen 0 1320 a.1 && a.1.all (Codec.inInt 0 4294967295)) && true) = true := hwi
        rw [Bool.and_eq_true, Bool.and_eq_true] at q
        exact Cr.req_answers a.1 hs q.1.2 hask fun H' p hp => .lst (L2.SqL.of hp) (L2.dw_ints _)
