import PyProof.Rows.All
import Wide.All
import OpenK.AllK
import Wide.FinOn
import Open.SpecLaws
import KE.OsGo
import HandS.ForSpec
import HandS.Comp
import HandS.Dict
import HandS.Iter
import HandS.Evl
import HandS.More
import HandS.Conv
import HandS.SetFor
import KE.Datum
import HandS.SortRule
import HandS.SortInts
import KE.KSortTupAny
import PyProof.TupleOfSeq
import PyProof.Rows.TupAdd
import HandS.WordsDict
import HandS.ClsMeth
import KE.KEqNest
import HandS.Walk
import PySem.Challenge.RW_riddledesk_s01_answers
set_option Elab.async false
section
/-! Choices: the specification's fewest numbers against a search level by level. -/
namespace Rd

/-! ### Choices by size -/
/-- each choice with each told number behind its last one -/
def oneLonger (cs : List (List Nat)) (told : List Nat) : List (List Nat) :=
  cs.flatMap fun c => (told.filter fun n => match c.getLast? with | none => true | some l => decide (l < n)).map fun n => c ++ [n]
/-- all choices of n of them, those with the first one first -/
def sized : Nat → List Nat → List (List Nat)
  | 0, _ => [[]]
  | _ + 1, [] => []
  | n + 1, a :: l => (sized n l).map (fun r => a :: r) ++ sized (n + 1) l
def level (told : List Nat) : Nat → List (List Nat)
  | 0 => [[]]
  | n + 1 => oneLonger (level told n) told

theorem keepAll {A : Type} (l : List A) : l.filter (fun _ => true) = l := List.filter_eq_self.mpr fun _ _ => rfl
theorem oneLonger_append (a b : List (List Nat)) (t : List Nat) : oneLonger (a ++ b) t = oneLonger a t ++ oneLonger b t := by
  simp [oneLonger]

theorem sized_len : ∀ (n : Nat) (l c : List Nat), c ∈ sized n l → c.length = n
  | 0, _, c, h => by simp [sized] at h; simp [h]
  | n + 1, [], c, h => by simp [sized] at h
  | n + 1, a :: l, c, h => by
    simp only [sized, List.mem_append, List.mem_map] at h
    rcases h with ⟨r, hr, rfl⟩ | h
    · simp [sized_len n l r hr]
    · exact sized_len (n + 1) l c h

theorem sized_mem : ∀ (n : Nat) (l c : List Nat), c ∈ sized n l → ∀ x ∈ c, x ∈ l
  | 0, _, c, h => by simp [sized] at h; simp [h]
  | n + 1, [], c, h => by simp [sized] at h
  | n + 1, a :: l, c, h => by
    simp only [sized, List.mem_append, List.mem_map] at h
    intro x hx
    rcases h with ⟨r, hr, rfl⟩ | h
    · rcases List.mem_cons.mp hx with rfl | hx
      · exact List.mem_cons_self
      · exact List.mem_cons_of_mem _ (sized_mem n l r hr x hx)
    · exact List.mem_cons_of_mem _ (sized_mem (n + 1) l c h x hx)

/-- choices of a list by size are the choices of that size -/
theorem choices_sized : ∀ (l : List Nat) (n : Nat), (Sy64.choices l).filter (fun c => c.length == n) = sized n l
  | [], 0 => by simp [Sy64.choices, sized]
  | [], n + 1 => by simp [Sy64.choices, sized]
  | a :: l, 0 => by
    have h := choices_sized l 0
    simp only [Sy64.choices, List.filter_append, h, sized, List.filter_map]
    have e : ((fun c => c.length == 0) ∘ fun r : List Nat => a :: r) = fun _ => false := by funext c; simp
    rw [e]; simp
  | a :: l, n + 1 => by
    have h := choices_sized l (n + 1)
    have h2 := choices_sized l n
    simp only [Sy64.choices, List.filter_append, h, sized, List.filter_map]
    have e : ((fun c => c.length == n + 1) ∘ fun r : List Nat => a :: r) = fun c => c.length == n := by funext c; simp
    rw [e, h2]

/-- oneLonger of choices whose last is known: told above a number -/
theorem oneLonger_cons (a : Nat) (told : List Nat) (cs : List (List Nat)) (h : ∀ c ∈ cs, c ≠ [] ) :
    oneLonger (cs.map fun r => a :: r) told = (oneLonger cs told).map fun r => a :: r := by
  induction cs with
  | nil => rfl
  | cons c cs ih =>
    have e1 : oneLonger ((c :: cs).map fun r => a :: r) told = oneLonger [a :: c] told ++ oneLonger (cs.map fun r => a :: r) told := by
      rw [← oneLonger_append]; rfl
    have e2 : oneLonger (c :: cs) told = oneLonger [c] told ++ oneLonger cs told := by rw [← oneLonger_append]; rfl
    rw [e1, e2, List.map_append, ih fun c hc => h c (List.mem_cons_of_mem _ hc)]
    congr 1
    have hc := h c List.mem_cons_self
    simp only [oneLonger, List.flatMap_cons, List.flatMap_nil, List.append_nil, List.map_map]
    rw [List.getLast?_cons_of_ne_nil hc] 
    rfl

/-- in rising told: what is above all of c's members among a :: l is in l -/
theorem oneLonger_told (a : Nat) (l : List Nat) (cs : List (List Nat)) (h : ∀ c ∈ cs, ∃ z, c.getLast? = some z ∧ a ≤ z) :
    oneLonger cs (a :: l) = oneLonger cs l := by
  induction cs with
  | nil => rfl
  | cons c cs ih =>
    have e1 : ∀ t, oneLonger (c :: cs) t = oneLonger [c] t ++ oneLonger cs t := by intro t; rw [← oneLonger_append]; rfl
    rw [e1, e1, ih fun c hc => h c (List.mem_cons_of_mem _ hc)]
    congr 1
    obtain ⟨z, hz, hle⟩ := h c List.mem_cons_self
    simp only [oneLonger, List.flatMap_cons, List.flatMap_nil, List.append_nil, hz]
    rw [List.filter_cons]
    have : ¬ (z < a) := by omega
    simp [this]

theorem getLast_mem {c : List Nat} (h : c ≠ []) : ∃ z, c.getLast? = some z ∧ z ∈ c := by
  cases e : c.getLast? with
  | none => simp at e; exact absurd e h
  | some z => exact ⟨z, rfl, List.mem_of_getLast? e⟩

/-- one more of a size: with rising told -/
theorem sized_longer : ∀ (l : List Nat), l.Pairwise (· < ·) → ∀ n, oneLonger (sized n l) l = sized (n + 1) l
  | [], _, 0 => by simp [sized, oneLonger]
  | [], _, n + 1 => by simp [sized, oneLonger]
  | a :: l, h, 0 => by
    have ih := sized_longer l (List.pairwise_cons.mp h).2 0
    simp only [sized] at ih ⊢
    have e : ∀ (l : List Nat), oneLonger [[]] l = l.map fun n => [n] := by
      intro l; simp [oneLonger, keepAll]
    rw [e] at ih ⊢
    rw [List.map_cons, ih]; rfl
  | a :: l, h, n + 1 => by
    obtain ⟨h1, h2⟩ := List.pairwise_cons.mp h
    have ih := sized_longer l h2 (n + 1)
    have ih0 := sized_longer l h2 n
    show oneLonger ((sized n l).map (fun r => a :: r) ++ sized (n + 1) l) (a :: l) = (sized (n + 1) l).map (fun r => a :: r) ++ sized (n + 2) l
    rw [oneLonger_append]
    have e2 : oneLonger (sized (n + 1) l) (a :: l) = sized (n + 2) l := by
      rw [oneLonger_told, ih]
      intro c hc
      have hl := sized_len _ _ _ hc
      obtain ⟨z, hz, hm⟩ := getLast_mem (c := c) (by intro e; subst e; simp at hl)
      exact ⟨z, hz, Nat.le_of_lt (h1 z (sized_mem _ _ _ hc z hm))⟩
    rw [e2]
    congr 1
    cases n with
    | zero =>
      simp only [sized, List.map_cons, List.map_nil] at ih0 ⊢
      have e3 : oneLonger [[a]] (a :: l) = l.map fun n => [a, n] := by
        simp only [oneLonger, List.flatMap_cons, List.flatMap_nil, List.append_nil, List.getLast?_singleton]
        rw [List.filter_cons]
        simp only [Nat.lt_irrefl, decide_false, Bool.false_eq_true, if_false]
        have : l.filter (fun n => decide (a < n)) = l := by
          rw [List.filter_eq_self]; intro x hx; simpa using h1 x hx
        rw [this]; rfl
      rw [e3, ← ih0]
      simp [oneLonger, keepAll]
    | succ m =>
      have hne : ∀ c ∈ sized (m + 1) l, c ≠ [] := by
        intro c hc e; have := sized_len _ _ _ hc; subst e; simp at this
      rw [oneLonger_told]
      · rw [oneLonger_cons a l _ hne, ih0]
      · intro c hc
        obtain ⟨r, hr, rfl⟩ := List.mem_map.mp hc
        obtain ⟨z, hz, hm⟩ := getLast_mem (hne r hr)
        exact ⟨z, by rw [List.getLast?_cons_of_ne_nil (hne r hr)]; exact hz, Nat.le_of_lt (h1 z (sized_mem _ _ _ hr z hm))⟩

theorem level_sized (told : List Nat) (h : told.Pairwise (· < ·)) : ∀ n, level told n = sized n told
  | 0 => by cases told <;> rfl
  | n + 1 => by rw [level, level_sized told h n, sized_longer told h n]

/-! ### The first of the shortest -/
def pick (m : Option (List Nat)) (k : List Nat) : Option (List Nat) := match m with
  | none => some k
  | some j => if k.length < j.length then some k else some j

theorem pick_some (l : List (List Nat)) (j : List Nat) : ∃ k, l.foldl pick (some j) = some k := by
  induction l generalizing j with
  | nil => exact ⟨j, rfl⟩
  | cons a l ih =>
    simp only [List.foldl_cons, pick]
    split <;> exact ih _

/-- what the fold picks: the first of the shortest -/
theorem pick_is (l : List (List Nat)) (n : Nat) (hmin : ∀ k ∈ l, n ≤ k.length) (c : List Nat)
    (hc : (l.filter (fun k => k.length == n)).head? = some c) : l.foldl pick none = some c := by
  have gen : ∀ (l : List (List Nat)) (m : Option (List Nat)), (∀ k ∈ l, n ≤ k.length) → (∀ j, m = some j → n < j.length) → ∀ c,
      (l.filter (fun k => k.length == n)).head? = some c → l.foldl pick m = some c := by
    intro l
    induction l with
    | nil => intro m _ _ c hc; simp at hc
    | cons a l ih =>
      intro m hmin hm c hc
      rw [List.filter_cons] at hc
      by_cases e : a.length = n
      · simp only [e, beq_self_eq_true, if_true, List.head?_cons, Option.some.injEq] at hc
        subst hc
        have e1 : pick m a = some a := by
          cases m with
          | none => rfl
          | some j => simp only [pick]; rw [if_pos]; rw [e]; exact hm j rfl
        rw [List.foldl_cons, e1]
        clear ih hm
        have stay : ∀ l : List (List Nat), (∀ k ∈ l, n ≤ k.length) → l.foldl pick (some a) = some a := by
          intro l; induction l with
          | nil => intro _; rfl
          | cons b l ih2 =>
            intro hb
            have : pick (some a) b = some a := by
              simp only [pick]; rw [if_neg]; have := hb b List.mem_cons_self; omega
            rw [List.foldl_cons, this]; exact ih2 fun k hk => hb k (List.mem_cons_of_mem _ hk)
        exact stay l fun k hk => hmin k (List.mem_cons_of_mem _ hk)
      · have e' : (a.length == n) = false := by simpa using e
        simp only [e', Bool.false_eq_true, if_false] at hc
        rw [List.foldl_cons]
        apply ih _ (fun k hk => hmin k (List.mem_cons_of_mem _ hk)) _ c hc
        intro j hj
        have ha := hmin a List.mem_cons_self
        cases m with
        | none => simp only [pick, Option.some.injEq] at hj; subst hj; omega
        | some i =>
          have hi := hm i rfl
          simp only [pick] at hj
          split at hj <;> (simp only [Option.some.injEq] at hj; subst hj; omega)
  exact gen l none hmin (by intro j h; cases h) c hc

/-- level by level: the first level at which one is good, its first good one, is what the fold picks from all good choices -/
theorem pick_level (told : List Nat) (ht : told.Pairwise (· < ·)) (good : List Nat → Bool) (n : Nat) (c : List Nat)
    (hn : ∀ m < n, (level told m).find? good = none) (hc : (level told n).find? good = some c) :
    ((Sy64.choices told).filter good).foldl pick none = some c := by
  apply pick_is _ n
  · intro k hk
    rw [List.mem_filter] at hk
    apply Nat.le_of_not_lt
    intro hlt
    have h := hn k.length hlt
    rw [level_sized told ht, ← choices_sized, List.find?_eq_none] at h
    exact h k (List.mem_filter.mpr ⟨hk.1, by simp⟩) hk.2
  · rw [level_sized told ht, ← choices_sized] at hc
    rw [List.filter_filter, ← hc, ← List.head?_filter, List.filter_filter]
    congr 1
    apply List.filter_congr
    intro x _
    exact Bool.and_comm _ _

theorem all_choice : ∀ l : List Nat, l ∈ sized l.length l
  | [] => by simp [sized]
  | a :: l => by
    simp only [List.length_cons, sized, List.mem_append, List.mem_map]
    exact .inl ⟨l, all_choice l, rfl⟩

/-- at the latest with all told one is good -/
theorem level_ends (told : List Nat) (ht : told.Pairwise (· < ·)) (good : List Nat → Bool) (h : good told = true) :
    (level told told.length).find? good ≠ none := by
  rw [level_sized told ht]
  intro e
  rw [List.find?_eq_none] at e
  exact e told (all_choice told) h

theorem choices85 : ∀ l, Sy85.choices l = Sy64.choices l
  | [] => rfl
  | a :: l => by simp only [Sy85.choices, Sy64.choices, choices85 l]

theorem sized_le : ∀ (n : Nat) (l : List Nat), (sized n l).length ≤ 2 ^ l.length
  | 0, l => by simp [sized]; exact Nat.one_le_two_pow
  | n + 1, [] => by simp [sized]
  | n + 1, a :: l => by
    have h1 := sized_le n l
    have h2 := sized_le (n + 1) l
    simp only [sized, List.length_append, List.length_map, List.length_cons, Nat.pow_succ]
    omega
end Rd
end
section
/-! The order of settings: by the first cell in which they differ. -/
namespace Rd
abbrev bef := Sy64.before
theorem before85 : ∀ a b, Sy85.before a b = Sy64.before a b
  | a :: l, b :: r => by simp only [Sy85.before, Sy64.before, before85 l r]
  | [], _ :: _ => rfl
  | _ :: _, [] => rfl
  | [], [] => rfl
theorem put85 (p : List Nat) : ∀ l, Sy85.put p l = Sy64.put p l
  | [] => rfl
  | q :: l => by simp only [Sy85.put, Sy64.put, before85, put85 p l]
theorem insert85 (n : Nat) : ∀ l, Sy85.insert n l = Sy64.insert n l
  | [] => rfl
  | q :: l => by simp only [Sy85.insert, Sy64.insert, insert85 n l]

theorem bef_irrefl : ∀ a, bef a a = false
  | [] => rfl
  | a :: l => by simp [bef, Sy64.before]; exact bef_irrefl l
theorem bef_trans : ∀ a b c, bef a b = true → bef b c = true → bef a c = true
  | [], b, c, h, k => by
    cases b with
    | nil => simp [bef, Sy64.before] at h
    | cons y b => simp [bef, Sy64.before] at h
  | x :: a, [], c, h, k => by
    cases c with
    | nil => simp [bef, Sy64.before] at k
    | cons z c => simp [bef, Sy64.before] at k
  | x :: a, y :: b, [], h, k => by simp [bef, Sy64.before]
  | x :: a, y :: b, z :: c, h, k => by
    simp only [bef, Sy64.before, Bool.or_eq_true, decide_eq_true_eq, Bool.and_eq_true, beq_iff_eq] at *
    rcases h with h | ⟨rfl, h⟩ <;> rcases k with k | ⟨rfl, k⟩
    · left; omega
    · left; omega
    · left; omega
    · right; exact ⟨rfl, bef_trans a b c h k⟩
theorem bef_total : ∀ a b, a ≠ b → bef a b = true ∨ bef b a = true
  | [], [], h => absurd rfl h
  | [], _ :: _, _ => by simp [bef, Sy64.before]
  | _ :: _, [], _ => by simp [bef, Sy64.before]
  | x :: a, y :: b, h => by
    simp only [bef, Sy64.before, Bool.or_eq_true, decide_eq_true_eq, Bool.and_eq_true, beq_iff_eq]
    rcases Nat.lt_trichotomy x y with e | rfl | e
    · left; left; exact e
    · have : a ≠ b := by intro e; subst e; exact h rfl
      rcases bef_total a b this with e | e
      · left; right; exact ⟨rfl, e⟩
      · right; right; exact ⟨rfl, e⟩
    · right; left; exact e
theorem bef_asymm {a b : List Nat} (h : bef a b = true) (k : bef b a = true) : False := by
  have := bef_trans a b a h k
  rw [bef_irrefl] at this
  cases this

/-- strictly in order -/
def InOrder (l : List (List Nat)) : Prop := l.Pairwise fun a b => bef a b = true

theorem mem_put (p : List Nat) : ∀ (l : List (List Nat)) (q : List Nat), q ∈ Sy64.put p l ↔ q = p ∨ q ∈ l
  | [], q => by simp [Sy64.put]
  | x :: l, q => by
    simp only [Sy64.put]
    split
    · next e => subst e; simp
    · split
      · simp
      · rw [List.mem_cons, mem_put p l q, List.mem_cons]
        constructor
        · rintro (h | h | h) <;> simp [h]
        · rintro (h | h | h) <;> simp [h]
theorem put_inOrder (p : List Nat) : ∀ (l : List (List Nat)), InOrder l → InOrder (Sy64.put p l)
  | [], _ => by simp [Sy64.put, InOrder]
  | x :: l, h => by
    simp only [Sy64.put]
    obtain ⟨h1, h2⟩ := List.pairwise_cons.mp h
    split
    · exact h
    · next ne =>
      split
      · next b =>
        refine List.pairwise_cons.mpr ⟨?_, h⟩
        intro y hy
        rcases List.mem_cons.mp hy with rfl | hy
        · exact b
        · exact bef_trans _ _ _ b (h1 y hy)
      · next b =>
        refine List.pairwise_cons.mpr ⟨?_, put_inOrder p l h2⟩
        intro y hy
        rcases (mem_put p l y).mp hy with rfl | hy
        · rcases bef_total _ _ ne with e | e
          · exact absurd e b
          · exact e
        · exact h1 y hy
theorem foldl_put (ps : List (List Nat)) : ∀ m, InOrder m → InOrder (ps.foldl (fun m p => Sy64.put p m) m) ∧ ∀ q, q ∈ ps.foldl (fun m p => Sy64.put p m) m ↔ q ∈ ps ∨ q ∈ m := by
  induction ps with
  | nil => intro m h; exact ⟨h, by simp⟩
  | cons p ps ih =>
    intro m h
    obtain ⟨i1, i2⟩ := ih (Sy64.put p m) (put_inOrder p m h)
    refine ⟨i1, ?_⟩
    intro q
    rw [List.foldl_cons, i2, mem_put, List.mem_cons]
    constructor
    · rintro (h | h | h) <;> simp [h]
    · rintro ((h | h) | h) <;> simp [h]

/-- two lists in order with the same members are one -/
theorem inOrder_unique : ∀ (a b : List (List Nat)), InOrder a → InOrder b → (∀ q, q ∈ a ↔ q ∈ b) → a = b
  | [], [], _, _, _ => rfl
  | [], y :: b, _, _, h => by have := (h y).mpr List.mem_cons_self; cases this
  | x :: a, [], _, _, h => by have := (h x).mp List.mem_cons_self; cases this
  | x :: a, y :: b, ha, hb, h => by
    obtain ⟨a1, a2⟩ := List.pairwise_cons.mp ha
    obtain ⟨b1, b2⟩ := List.pairwise_cons.mp hb
    have e : x = y := by
      rcases List.mem_cons.mp ((h x).mp List.mem_cons_self) with e | hx
      · exact e
      · rcases List.mem_cons.mp ((h y).mpr List.mem_cons_self) with e | hy
        · exact e.symm
        · exact (bef_asymm (a1 y hy) (b1 x hx)).elim
    subst e
    have : a = b := by
      refine inOrder_unique a b a2 b2 ?_
      intro q
      constructor
      · intro hq
        rcases List.mem_cons.mp ((h q).mp (List.mem_cons_of_mem _ hq)) with rfl | h'
        · have := a1 q hq; rw [bef_irrefl] at this; cases this
        · exact h'
      · intro hq
        rcases List.mem_cons.mp ((h q).mpr (List.mem_cons_of_mem _ hq)) with rfl | h'
        · have := b1 q hq; rw [bef_irrefl] at this; cases this
        · exact h'
    rw [this]

/-- rising lists -/
abbrev Rising (l : List Nat) : Prop := l.Pairwise (· < ·)
theorem mem_insert (n : Nat) : ∀ (l : List Nat) (x : Nat), x ∈ Sy64.insert n l ↔ x = n ∨ x ∈ l
  | [], x => by simp [Sy64.insert]
  | m :: l, x => by
    simp only [Sy64.insert]
    split
    · simp
    · split
      · next e => subst e; simp
      · rw [List.mem_cons, mem_insert n l x, List.mem_cons]
        constructor
        · rintro (h | h | h) <;> simp [h]
        · rintro (h | h | h) <;> simp [h]
theorem insert_rising (n : Nat) : ∀ (l : List Nat), Rising l → Rising (Sy64.insert n l)
  | [], _ => by simp [Sy64.insert, Rising]
  | m :: l, h => by
    simp only [Sy64.insert]
    obtain ⟨h1, h2⟩ := List.pairwise_cons.mp h
    split
    · next e =>
      refine List.pairwise_cons.mpr ⟨?_, h⟩
      intro y hy
      rcases List.mem_cons.mp hy with rfl | hy
      · exact e
      · have := h1 y hy; omega
    · next ne =>
      split
      · exact h
      · next e =>
        refine List.pairwise_cons.mpr ⟨?_, insert_rising n l h2⟩
        intro y hy
        rcases (mem_insert n l y).mp hy with rfl | hy
        · omega
        · exact h1 y hy
theorem insert_len (n : Nat) : ∀ (l : List Nat), n ∉ l → (Sy64.insert n l).length = l.length + 1
  | [], _ => rfl
  | m :: l, h => by
    simp only [Sy64.insert]
    split
    · rfl
    · split
      · next e => subst e; simp at h
      · simp only [List.length_cons]; rw [insert_len n l (by intro h'; exact h (List.mem_cons_of_mem _ h'))]
theorem rising_unique : ∀ (a b : List Nat), Rising a → Rising b → (∀ q, q ∈ a ↔ q ∈ b) → a = b
  | [], [], _, _, _ => rfl
  | [], y :: b, _, _, h => by have := (h y).mpr List.mem_cons_self; cases this
  | x :: a, [], _, _, h => by have := (h x).mp List.mem_cons_self; cases this
  | x :: a, y :: b, ha, hb, h => by
    obtain ⟨a1, a2⟩ := List.pairwise_cons.mp ha
    obtain ⟨b1, b2⟩ := List.pairwise_cons.mp hb
    have e : x = y := by
      rcases List.mem_cons.mp ((h x).mp List.mem_cons_self) with e | hx
      · exact e
      · rcases List.mem_cons.mp ((h y).mpr List.mem_cons_self) with e | hy
        · exact e.symm
        · have := a1 y hy; have := b1 x hx; omega
    subst e
    have : a = b := by
      refine rising_unique a b a2 b2 ?_
      intro q
      constructor
      · intro hq
        rcases List.mem_cons.mp ((h q).mp (List.mem_cons_of_mem _ hq)) with rfl | h'
        · have := a1 q hq; omega
        · exact h'
      · intro hq
        rcases List.mem_cons.mp ((h q).mpr (List.mem_cons_of_mem _ hq)) with rfl | h'
        · have := b1 q hq; omega
        · exact h'
    rw [this]
theorem rising_nodup {l : List Nat} (h : Rising l) : l.Nodup := h.imp fun {_ _} h => Nat.ne_of_lt h
theorem range_rising (n : Nat) : Rising (List.range n) := List.pairwise_lt_range
end Rd
end
section
/-! The field's settings: tree by tree from the first, each once; against the specification's, from the last. -/
namespace Rd.F
open Sy64 (St)
/-- off a cell and not touching it -/
def near1 (s : St) (x y : Nat) : Bool := decide (Sy64.apart (Sy64.rowOf s x) (Sy64.rowOf s y) ≤ 1) && decide (Sy64.apart (Sy64.colOf s x) (Sy64.colOf s y) ≤ 1)
def beside (s : St) (t : Nat) : List Nat := (Sy64.cells s).filter (Sy64.beside s t)
def fitting (s : St) (t : Nat) (p : List Nat) : List Nat := (beside s t).filter fun x => !s.trees.contains x && !p.any (near1 s x)
def addKey (acc : List (List Nat)) (k : List Nat) : List (List Nat) := if acc.contains k then acc else acc ++ [k]
def grow (s : St) (t : Nat) (acc : List (List Nat)) (p : List Nat) : List (List Nat) := (fitting s t p).foldl (fun acc x => addKey acc (Sy64.insert x p)) acc
def withTent (s : St) (t : Nat) (found : List (List Nat)) : List (List Nat) := found.foldl (grow s t) []
def foundBy (s : St) (ts : List Nat) (found : List (List Nat)) : List (List Nat) := ts.foldl (fun f t => withTent s t f) found
def found (s : St) : List (List Nat) := foundBy s s.trees [[]]

theorem apart_zero {a b : Nat} (h : Sy64.apart a b = 0) : a = b := by unfold Sy64.apart at h; omega
theorem near1_iff (s : St) (x y : Nat) (hc : 0 < s.cols) : near1 s x y = (x == y || Sy64.touches s x y) := by
  unfold near1 Sy64.touches
  by_cases e : x = y
  · subst e
    simp [Sy64.apart]
  · have e2 : (x == y) = false := by simpa using e
    have e3 : (x != y) = true := by simpa using e
    rw [e2, e3]; simp
theorem fitting_is (s : St) (t : Nat) (p : List Nat) (hc : 0 < s.cols) :
    fitting s t p = (Sy64.cells s).filter fun x => Sy64.beside s t x && !s.trees.contains x && !p.contains x && p.all fun y => !Sy64.touches s x y := by
  unfold fitting beside
  rw [List.filter_filter]
  apply List.filter_congr
  intro x _
  have : (!p.any (near1 s x)) = (!p.contains x && p.all fun y => !Sy64.touches s x y) := by
    induction p with
    | nil => rfl
    | cons y p ih =>
      simp only [List.any_cons, near1_iff s _ _ hc, List.contains_cons, List.all_cons] at ih ⊢
      cases (x == y) <;> cases Sy64.touches s x y <;> simp_all
  rw [this]
  cases Sy64.beside s t x <;> cases s.trees.contains x <;> simp

theorem mem_addKey (acc : List (List Nat)) (k q : List Nat) : q ∈ addKey acc k ↔ q ∈ acc ∨ q = k := by
  unfold addKey
  split
  · next h =>
    rw [List.contains_iff_mem] at h
    constructor
    · exact .inl
    · rintro (h' | rfl) <;> assumption
  · simp
theorem addKey_nodup {acc : List (List Nat)} {k : List Nat} (h : acc.Nodup) : (addKey acc k).Nodup := by
  unfold addKey
  split
  · exact h
  · next c =>
    rw [List.contains_iff_mem] at c
    rw [List.nodup_append]
    refine ⟨h, by simp, ?_⟩
    intro a ha b hb
    simp at hb; subst hb
    intro e; subst e; exact c ha
theorem fold_addKey (f : Nat → List Nat) (l : List Nat) : ∀ acc : List (List Nat), acc.Nodup →
    (l.foldl (fun acc x => addKey acc (f x)) acc).Nodup ∧ ∀ q, q ∈ l.foldl (fun acc x => addKey acc (f x)) acc ↔ q ∈ acc ∨ ∃ x ∈ l, q = f x := by
  induction l with
  | nil => intro acc h; exact ⟨h, by simp⟩
  | cons a l ih =>
    intro acc h
    obtain ⟨i1, i2⟩ := ih (addKey acc (f a)) (addKey_nodup h)
    refine ⟨i1, fun q => ?_⟩
    rw [List.foldl_cons, i2, mem_addKey]
    constructor
    · rintro ((h | h) | ⟨x, hx, h⟩)
      · exact .inl h
      · exact .inr ⟨a, List.mem_cons_self, h⟩
      · exact .inr ⟨x, List.mem_cons_of_mem _ hx, h⟩
    · rintro (h | ⟨x, hx, h⟩)
      · exact .inl (.inl h)
      · rcases List.mem_cons.mp hx with rfl | hx
        · exact .inl (.inr h)
        · exact .inr ⟨x, hx, h⟩
theorem fold_grow (s : St) (t : Nat) (ps : List (List Nat)) : ∀ acc : List (List Nat), acc.Nodup →
    (ps.foldl (grow s t) acc).Nodup ∧ ∀ q, q ∈ ps.foldl (grow s t) acc ↔ q ∈ acc ∨ ∃ p ∈ ps, ∃ x ∈ fitting s t p, q = Sy64.insert x p := by
  induction ps with
  | nil => intro acc h; exact ⟨h, by simp⟩
  | cons p ps ih =>
    intro acc h
    obtain ⟨g1, g2⟩ := fold_addKey (fun x => Sy64.insert x p) (fitting s t p) acc h
    obtain ⟨i1, i2⟩ := ih (grow s t acc p) g1
    refine ⟨i1, fun q => ?_⟩
    rw [List.foldl_cons, i2]
    rw [show (q ∈ grow s t acc p) = (q ∈ (fitting s t p).foldl (fun acc x => addKey acc (Sy64.insert x p)) acc) from rfl, g2]
    constructor
    · rintro ((h | h) | ⟨p', hp, h⟩)
      · exact .inl h
      · exact .inr ⟨p, List.mem_cons_self, h⟩
      · exact .inr ⟨p', List.mem_cons_of_mem _ hp, h⟩
    · rintro (h | ⟨p', hp, h⟩)
      · exact .inl (.inl h)
      · rcases List.mem_cons.mp hp with rfl | hp
        · exact .inl (.inr h)
        · exact .inr ⟨p', hp, h⟩
theorem withTent_nodup (s : St) (t : Nat) (f : List (List Nat)) : (withTent s t f).Nodup := (fold_grow s t f [] List.nodup_nil).1
theorem mem_withTent (s : St) (t : Nat) (f : List (List Nat)) (q : List Nat) : q ∈ withTent s t f ↔ ∃ p ∈ f, ∃ x ∈ fitting s t p, q = Sy64.insert x p := by
  rw [withTent, (fold_grow s t f [] List.nodup_nil).2]; simp

/-- a tent may be given to a tree; two tents are apart -/
def fit (s : St) (t x : Nat) : Prop := x ∈ Sy64.cells s ∧ Sy64.beside s t x = true ∧ s.trees.contains x = false
def sep (s : St) (x y : Nat) : Prop := near1 s x y = false
theorem sep_symm {s : St} {x y : Nat} (h : sep s x y) : sep s y x := by
  unfold sep near1 Sy64.apart at *
  rw [← h]; congr 1 <;> (congr 1; simp only [Nat.add_comm])
/-- tents for trees, tree by tree, the last one's ahead -/
inductive Given (s : St) : List Nat → List Nat → Prop
  | nil : Given s [] []
  | cons {t x : Nat} {ts xs : List Nat} : fit s t x → (∀ y ∈ xs, sep s x y) → Given s ts xs → Given s (t :: ts) (x :: xs)
/-- rising p has just the members of xs -/
def Same (p xs : List Nat) : Prop := Rising p ∧ ∀ y, y ∈ p ↔ y ∈ xs
theorem mem_fitting (s : St) (t x : Nat) (p : List Nat) : x ∈ fitting s t p ↔ fit s t x ∧ ∀ y ∈ p, sep s x y := by
  unfold fitting beside fit sep
  simp only [List.mem_filter, Bool.and_eq_true, Bool.not_eq_true', List.any_eq_false, Bool.not_eq_true]
  constructor
  · rintro ⟨⟨a, b⟩, c, d⟩; exact ⟨⟨a, b, c⟩, d⟩
  · rintro ⟨⟨a, b, c⟩, d⟩; exact ⟨⟨a, b⟩, c, d⟩
theorem mem_beginnings (s : St) (hc : 0 < s.cols) : ∀ (ts p : List Nat), p ∈ Sy64.beginnings s ts ↔ ∃ xs, Given s ts xs ∧ Same p xs
  | [], p => by
    simp only [Sy64.beginnings, List.mem_singleton]
    constructor
    · rintro rfl; exact ⟨[], .nil, List.Pairwise.nil, fun _ => Iff.rfl⟩
    · rintro ⟨xs, g, r, m⟩
      cases g
      exact List.eq_nil_iff_forall_not_mem.mpr fun y hy => by simpa using (m y).mp hy
  | t :: ts, p => by
    simp only [Sy64.beginnings, List.mem_flatMap, List.mem_map]
    constructor
    · rintro ⟨q, hq, x, hx, rfl⟩
      obtain ⟨xs, g, r, m⟩ := (mem_beginnings s hc ts q).mp hq
      rw [← fitting_is s t q hc, mem_fitting] at hx
      refine ⟨x :: xs, .cons hx.1 (fun y hy => hx.2 y ((m y).mpr hy)) g, insert_rising x q r, fun y => ?_⟩
      rw [mem_insert, m, List.mem_cons]
    · rintro ⟨xs, g, r, m⟩
      cases g with
      | @cons t x ts xs f h g =>
        have ex : ∃ q, Same q xs := by
          refine ⟨xs.foldl (fun m n => Sy64.insert n m) [], ?_⟩
          have gen : ∀ (xs m : List Nat), Rising m → Rising (xs.foldl (fun m n => Sy64.insert n m) m) ∧ ∀ y, y ∈ xs.foldl (fun m n => Sy64.insert n m) m ↔ y ∈ m ∨ y ∈ xs := by
            intro xs
            induction xs with
            | nil => intro m hm; exact ⟨hm, by simp⟩
            | cons a xs ih =>
              intro m hm
              obtain ⟨i1, i2⟩ := ih _ (insert_rising a m hm)
              refine ⟨i1, fun y => ?_⟩
              rw [List.foldl_cons, i2, mem_insert, List.mem_cons]
              constructor
              · rintro ((h | h) | h) <;> simp [h]
              · rintro (h | h | h) <;> simp [h]
          obtain ⟨i1, i2⟩ := gen xs [] List.Pairwise.nil
          exact ⟨i1, fun y => by rw [i2]; simp⟩
        obtain ⟨q, hq⟩ := ex
        refine ⟨q, (mem_beginnings s hc ts q).mpr ⟨xs, g, hq⟩, x, ?_, ?_⟩
        · rw [← fitting_is s t q hc, mem_fitting]
          exact ⟨f, fun y hy => h y ((hq.2 y).mp hy)⟩
        · refine rising_unique _ _ (insert_rising x q hq.1) r fun y => ?_
          rw [mem_insert, hq.2, m, List.mem_cons]

theorem given_append (s : St) : ∀ (ts us xs ys : List Nat), Given s ts xs → Given s us ys → (∀ x ∈ xs, ∀ y ∈ ys, sep s x y) → Given s (ts ++ us) (xs ++ ys)
  | [], us, _, ys, g, k, h => by cases g; exact k
  | t :: ts, us, _, ys, g, k, h => by
    cases g with
    | @cons _ x _ xs f hh g =>
      refine .cons f ?_ (given_append s ts us xs ys g k fun a ha => h a (List.mem_cons_of_mem _ ha))
      intro y hy
      rcases List.mem_append.mp hy with hy | hy
      · exact hh y hy
      · exact h x List.mem_cons_self y hy
theorem given_reverse (s : St) : ∀ (ts xs : List Nat), Given s ts xs → Given s ts.reverse xs.reverse
  | [], _, g => by cases g; exact .nil
  | t :: ts, _, g => by
    cases g with
    | @cons _ x _ xs f hh g =>
      rw [List.reverse_cons, List.reverse_cons]
      refine given_append s _ _ _ _ (given_reverse s ts xs g) (.cons f (by simp) .nil) ?_
      intro a ha b hb
      simp at hb; subst hb
      exact sep_symm (hh a (List.mem_reverse.mp ha))
theorem beginnings_reverse (s : St) (hc : 0 < s.cols) (ts p : List Nat) : p ∈ Sy64.beginnings s ts.reverse ↔ p ∈ Sy64.beginnings s ts := by
  rw [mem_beginnings s hc, mem_beginnings s hc]
  constructor
  · rintro ⟨xs, g, m⟩
    refine ⟨xs.reverse, ?_, m.1, fun y => by rw [m.2, List.mem_reverse]⟩
    have := given_reverse s _ _ g
    rwa [List.reverse_reverse] at this
  · rintro ⟨xs, g, m⟩
    exact ⟨xs.reverse, given_reverse s _ _ g, m.1, fun y => by rw [m.2, List.mem_reverse]⟩

theorem mem_foundBy (s : St) (hc : 0 < s.cols) : ∀ (ts us : List Nat) (f : List (List Nat)), (∀ p, p ∈ f ↔ p ∈ Sy64.beginnings s us) →
    ∀ p, p ∈ foundBy s ts f ↔ p ∈ Sy64.beginnings s (ts.reverse ++ us)
  | [], us, f, h, p => by simpa [foundBy] using h p
  | t :: ts, us, f, h, p => by
    show p ∈ foundBy s ts (withTent s t f) ↔ _
    rw [mem_foundBy s hc ts (t :: us) (withTent s t f) ?_ p]
    · simp
    · intro q
      rw [mem_withTent]
      simp only [Sy64.beginnings, List.mem_flatMap, List.mem_map]
      constructor
      · rintro ⟨p, hp, x, hx, rfl⟩
        exact ⟨p, (h p).mp hp, x, by rw [← fitting_is s t p hc]; exact hx, rfl⟩
      · rintro ⟨p, hp, x, hx, rfl⟩
        exact ⟨p, (h p).mpr hp, x, by rw [← fitting_is s t p hc] at hx; exact hx, rfl⟩
theorem mem_found (s : St) (hc : 0 < s.cols) (p : List Nat) : p ∈ found s ↔ p ∈ Sy64.beginnings s s.trees := by
  rw [found, mem_foundBy s hc s.trees [] [[]] (by intro p; simp [Sy64.beginnings]) p, List.append_nil, beginnings_reverse s hc]
theorem foundBy_nodup (s : St) : ∀ (ts : List Nat) (f : List (List Nat)), f.Nodup → (foundBy s ts f).Nodup
  | [], f, h => h
  | t :: ts, f, _ => foundBy_nodup s ts (withTent s t f) (withTent_nodup s t f)
theorem found_nodup (s : St) : (found s).Nodup := foundBy_nodup s _ _ (by simp)
theorem settings_spec (s : St) : InOrder (Sy64.settings s) ∧ ∀ p, p ∈ Sy64.settings s ↔ p ∈ Sy64.beginnings s s.trees := by
  obtain ⟨h1, h2⟩ := foldl_put (Sy64.beginnings s s.trees) [] List.Pairwise.nil
  exact ⟨h1, fun p => by rw [Sy64.settings, h2]; simp⟩
/-- **The settings**: what is found, in order. -/
theorem settings_is (s : St) (hc : 0 < s.cols) (l : List (List Nat)) (hp : l.Perm (found s)) (ho : l.Pairwise fun a b => bef b a = false) : l = Sy64.settings s := by
  obtain ⟨h1, h2⟩ := settings_spec s
  refine inOrder_unique _ _ ?_ h1 fun q => by rw [hp.mem_iff, mem_found s hc, h2]
  have hn : l.Nodup := hp.nodup_iff.mpr (found_nodup s)
  refine (List.Pairwise.and hn ho).imp ?_
  rintro a b ⟨ne, h⟩
  rcases bef_total a b ne with e | e
  · exact e
  · rw [h] at e; cases e
/-- what's found: rising, as many as trees gone through, of cells -/
theorem foundBy_facts (s : St) (hc : 0 < s.cols) : ∀ (ts : List Nat) (f : List (List Nat)) (n : Nat), (∀ p ∈ f, Rising p ∧ p.length = n ∧ ∀ x ∈ p, x < s.rows * s.cols) →
    ∀ p ∈ foundBy s ts f, Rising p ∧ p.length = n + ts.length ∧ ∀ x ∈ p, x < s.rows * s.cols
  | [], f, n, h => h
  | t :: ts, f, n, h => by
    intro p hp
    have := foundBy_facts s hc ts (withTent s t f) (n + 1) ?_ p hp
    · simpa [Nat.add_assoc, Nat.add_comm 1] using this
    · intro q hq
      obtain ⟨p, hp, x, hx, rfl⟩ := (mem_withTent s t f q).mp hq
      obtain ⟨r, l, m⟩ := h p hp
      obtain ⟨⟨c, _, _⟩, d⟩ := (mem_fitting s t x p).mp hx
      refine ⟨insert_rising x p r, ?_, ?_⟩
      · rw [insert_len, l]
        intro hx
        have := d x hx
        unfold sep at this
        rw [near1_iff s _ _ hc] at this
        simp at this
      · intro y hy
        rcases (mem_insert x p y).mp hy with rfl | hy
        · simpa [Sy64.cells] using c
        · exact m y hy
theorem found_facts (s : St) (hc : 0 < s.cols) : ∀ p ∈ found s, Rising p ∧ p.length = s.trees.length ∧ ∀ x ∈ p, x < s.rows * s.cols := by
  have := foundBy_facts s hc s.trees [[]] 0 (by simp [Rising])
  intro p hp
  simpa using this p hp
theorem settings_facts (s : St) (hc : 0 < s.cols) : ∀ p ∈ Sy64.settings s, Rising p ∧ p.length = s.trees.length ∧ ∀ x ∈ p, x < s.rows * s.cols := by
  intro p hp
  exact found_facts s hc p ((mem_found s hc p).mpr (((settings_spec s).2 p).mp hp))
end Rd.F
end
section
/-! The hall's settings: cell by cell with a lamp or without, those kept that light all; against the specification's search. -/
namespace Rd.H
open Sy85 (St)
/-- a hall as it may be -/
structure Good (s : St) : Prop where
  r1 : 1 ≤ s.rows
  r4 : s.rows ≤ 4
  c1 : 1 ≤ s.cols
  c4 : s.cols ≤ 4
def opp (w : Nat) : Nat := if w = 0 then 2 else if w = 1 then 3 else if w = 2 then 0 else 1
theorem div_lt {s : St} {x : Nat} (h : x < Sy85.size s) : x / s.cols < s.rows := by
  apply Nat.div_lt_of_lt_mul
  unfold Sy85.size at h
  rwa [Nat.mul_comm]
theorem next_in {s : St} (g : Good s) {x w z : Nat} (hx : x < Sy85.size s) (h : Sy85.next s x w = some z) : z < Sy85.size s := by
  have hc := g.c1
  unfold Sy85.next at h
  split at h
  · split at h
    · cases h
    · cases h; omega
  · split at h
    · split at h
      · cases h
      · next e =>
        cases h
        have h1 := div_lt hx
        have h2 := Nat.div_add_mod x s.cols
        have h3 := Nat.mod_lt x hc
        have h4 : s.cols * (x / s.cols + 1) ≤ s.cols * s.rows := Nat.mul_le_mul_left _ h1
        rw [Nat.mul_add] at h4
        unfold Sy85.size
        rw [Nat.mul_comm s.rows]
        omega
    · split at h
      · split at h
        · cases h
        · cases h; omega
      · split at h
        · cases h
        · cases h; omega
theorem mod_succ {x c : Nat} (hc : 0 < c) (h : x % c + 1 ≠ c) : (x + 1) % c = x % c + 1 := by
  have h3 := Nat.mod_lt x hc
  rw [Nat.add_mod]
  by_cases e : c = 1
  · subst e; omega
  · rw [Nat.mod_eq_of_lt (a := 1) (by omega), Nat.mod_eq_of_lt (by omega)]
theorem next0 (s : St) (x : Nat) : Sy85.next s x 0 = if x < s.cols then none else some (x - s.cols) := rfl
theorem next1 (s : St) (x : Nat) : Sy85.next s x 1 = if x % s.cols + 1 = s.cols then none else some (x + 1) := rfl
theorem next2 (s : St) (x : Nat) : Sy85.next s x 2 = if Sy85.size s ≤ x + s.cols then none else some (x + s.cols) := rfl
theorem next3 (s : St) (x : Nat) : Sy85.next s x 3 = if x % s.cols = 0 then none else some (x - 1) := rfl
theorem next_opp {s : St} (g : Good s) {x w z : Nat} (hx : x < Sy85.size s) (hw : w < 4) (h : Sy85.next s x w = some z) : Sy85.next s z (opp w) = some x := by
  have hc := g.c1
  have hm := Nat.mod_lt x hc
  have cases4 : w = 0 ∨ w = 1 ∨ w = 2 ∨ w = 3 := by omega
  rcases cases4 with rfl | rfl | rfl | rfl
  · rw [next0] at h
    split at h
    · cases h
    · cases h
      show Sy85.next s _ 2 = _
      rw [next2, if_neg (by omega)]
      congr 1; omega
  · rw [next1] at h
    split at h
    · cases h
    · next e =>
      cases h
      show Sy85.next s _ 3 = _
      rw [next3, if_neg (by rw [mod_succ hc e]; omega)]
      congr 1
  · rw [next2] at h
    split at h
    · cases h
    · cases h
      show Sy85.next s _ 0 = _
      rw [next0, if_neg (by omega)]
      congr 1; omega
  · rw [next3] at h
    split at h
    · cases h
    · next e =>
      cases h
      show Sy85.next s _ 1 = _
      have e1 : x - 1 + 1 = x := by
        have : x ≠ 0 := by intro e0; subst e0; simp at e
        omega
      rw [next1, if_neg, e1]
      intro e3
      have h1 := Nat.div_add_mod x s.cols
      have h2 := Nat.div_add_mod (x - 1) s.cols
      have : x = s.cols * ((x - 1) / s.cols) + s.cols := by omega
      rw [← Nat.mul_succ] at this
      rw [this, Nat.mul_mod_right] at e
      exact e rfl

theorem pair_of {R : Nat → Nat → Prop} : ∀ {l : List Nat}, Rising l → l.Pairwise R → ∀ {x y : Nat}, x ∈ l → y ∈ l → x < y → R x y
  | [], _, _, x, y, hx, _, _ => by cases hx
  | a :: l, r, p, x, y, hx, hy, h => by
    obtain ⟨r1, r2⟩ := List.pairwise_cons.mp r
    obtain ⟨p1, p2⟩ := List.pairwise_cons.mp p
    rcases List.mem_cons.mp hx with ex | kx <;> rcases List.mem_cons.mp hy with ey | ky
    · omega
    · rw [ex]; exact p1 y ky
    · have := r1 x kx; omega
    · exact pair_of r2 p2 kx ky h
theorem ray_in {s : St} (g : Good s) (w : Nat) : ∀ (f x y : Nat), x < Sy85.size s → y ∈ Sy85.ray s w f x → y < Sy85.size s ∧ Sy85.isPillar s y = false
  | 0, _, _, _, h => by simp [Sy85.ray] at h
  | f + 1, x, y, hx, h => by
    simp only [Sy85.ray] at h
    split at h
    · simp at h
    · next z e =>
      split at h
      · simp at h
      · next np =>
        rcases List.mem_cons.mp h with rfl | h
        · exact ⟨next_in g hx e, by simpa using np⟩
        · exact ray_in g w f z y (next_in g hx e) h
theorem ray_more {s : St} (w : Nat) {z x : Nat} (e : Sy85.next s z w = some x) (np : Sy85.isPillar s x = false) :
    ∀ (f y : Nat), z ∈ Sy85.ray s w f y → x ∈ Sy85.ray s w (f + 1) y
  | 0, _, h => by simp [Sy85.ray] at h
  | f + 1, y, h => by
    rw [Sy85.ray] at h ⊢
    split at h
    · simp at h
    · next u eu =>
      split at h
      · simp at h
      · next nu =>
        simp only [if_neg nu]
        rcases List.mem_cons.mp h with rfl | h
        · apply List.mem_cons_of_mem
          rw [Sy85.ray, e]
          simp [np]
        · exact List.mem_cons_of_mem _ (ray_more w e np f u h)
theorem ray_symm {s : St} (g : Good s) {w : Nat} (hw : w < 4) : ∀ (f x y : Nat), x < Sy85.size s → Sy85.isPillar s x = false → y ∈ Sy85.ray s w f x → x ∈ Sy85.ray s (opp w) f y
  | 0, _, _, _, _, h => by simp [Sy85.ray] at h
  | f + 1, x, y, hx, np, h => by
    rw [Sy85.ray] at h
    split at h
    · simp at h
    · next z e =>
      split at h
      · simp at h
      · next nz =>
        have eo := next_opp g hx hw e
        rcases List.mem_cons.mp h with rfl | h
        · rw [Sy85.ray, eo]; simp [np]
        · exact ray_more (opp w) eo np f y (ray_symm g hw f z y (next_in g hx e) (by simpa using nz) h)

/-- what a lamp lights but for its own cell: north, west, east, south -/
def litFrom (s : St) (x : Nat) : List Nat := Sy85.ray s 0 6 x ++ Sy85.ray s 3 6 x ++ Sy85.ray s 1 6 x ++ Sy85.ray s 2 6 x
theorem lights_is (s : St) (x : Nat) : Sy85.lights s x = x :: (Sy85.ray s 0 6 x ++ (Sy85.ray s 1 6 x ++ (Sy85.ray s 2 6 x ++ Sy85.ray s 3 6 x))) := by
  simp [Sy85.lights, List.range, List.range.loop]
theorem mem_lights (s : St) (x y : Nat) : y ∈ Sy85.lights s x ↔ y = x ∨ y ∈ litFrom s x := by
  rw [lights_is]
  simp only [List.mem_cons, List.mem_append, litFrom]
  constructor
  · rintro (h | h | h | h | h) <;> simp [h]
  · rintro (h | ((h | h) | h) | h) <;> simp [h]
theorem mem_free (s : St) (x : Nat) : x ∈ Sy85.free s ↔ x < Sy85.size s ∧ Sy85.isPillar s x = false := by
  simp [Sy85.free]
theorem lights_free {s : St} (g : Good s) {x y : Nat} (hx : x ∈ Sy85.free s) (h : y ∈ Sy85.lights s x) : y ∈ Sy85.free s := by
  have hf := (mem_free s x).mp hx
  rcases (mem_lights s x y).mp h with rfl | h
  · exact hx
  · simp only [litFrom, List.mem_append] at h
    rw [mem_free]
    rcases h with ((h | h) | h) | h <;> exact ray_in g _ 6 x y hf.1 h
theorem lights_symm {s : St} (g : Good s) {x y : Nat} (hx : x ∈ Sy85.free s) (h : y ∈ Sy85.lights s x) : x ∈ Sy85.lights s y := by
  have hf := (mem_free s x).mp hx
  rw [mem_lights] at h ⊢
  rcases h with rfl | h
  · exact .inl rfl
  · right
    simp only [litFrom, List.mem_append] at h ⊢
    rcases h with ((h | h) | h) | h
    · exact .inr (ray_symm g (w := 0) (by omega) 6 x y hf.1 hf.2 h)
    · exact .inl (.inr (ray_symm g (w := 3) (by omega) 6 x y hf.1 hf.2 h))
    · exact .inl (.inl (.inr (ray_symm g (w := 1) (by omega) 6 x y hf.1 hf.2 h)))
    · exact .inl (.inl (.inl (ray_symm g (w := 2) (by omega) 6 x y hf.1 hf.2 h)))

/-- none lights another one; all is lit -/
structure Whole (s : St) (p : List Nat) : Prop where
  rising : Rising p
  free : ∀ x ∈ p, x ∈ Sy85.free s
  apart : ∀ x ∈ p, ∀ y ∈ p, y ∈ Sy85.lights s x → y = x
  lit : ∀ x ∈ Sy85.free s, ∃ l ∈ p, x ∈ Sy85.lights s l

/-! ### The specification's search -/
structure Inv (s : St) (lamps lit : List Nat) : Prop where
  rising : Rising lamps
  free : ∀ x ∈ lamps, x ∈ Sy85.free s
  apart : ∀ x ∈ lamps, ∀ y ∈ lamps, y ∈ Sy85.lights s x → y = x
  lit : ∀ y, y ∈ lit ↔ ∃ l ∈ lamps, y ∈ Sy85.lights s l
theorem inv_more {s : St} (g : Good s) {lamps lit : List Nat} (I : Inv s lamps lit) {z : Nat} (hz : z ∈ Sy85.free s) (nz : z ∉ lit) :
    Inv s (Sy85.insert z lamps) (lit ++ Sy85.lights s z) := by
  rw [insert85]
  refine ⟨insert_rising z lamps I.rising, ?_, ?_, ?_⟩
  · intro x hx
    rcases (mem_insert z lamps x).mp hx with rfl | hx
    · exact hz
    · exact I.free x hx
  · intro x hx y hy h
    rcases (mem_insert z lamps x).mp hx with ex | kx <;> rcases (mem_insert z lamps y).mp hy with ey | ky
    · rw [ex, ey]
    · rw [ex] at h; exact absurd ((I.lit _).mpr ⟨y, ky, lights_symm g hz h⟩) nz
    · rw [ey] at h; exact absurd ((I.lit _).mpr ⟨x, kx, h⟩) nz
    · exact I.apart x kx y ky h
  · intro y
    rw [List.mem_append, I.lit]
    constructor
    · rintro (⟨l, hl, h⟩ | h)
      · exact ⟨l, (mem_insert z lamps l).mpr (.inr hl), h⟩
      · exact ⟨z, (mem_insert z lamps z).mpr (.inl rfl), h⟩
    · rintro ⟨l, hl, h⟩
      rcases (mem_insert z lamps l).mp hl with rfl | hl
      · exact .inr h
      · exact .inl ⟨l, hl, h⟩
theorem search_sound {s : St} (g : Good s) : ∀ (f : Nat) (lamps lit not_ : List Nat), Inv s lamps lit → ∀ p ∈ Sy85.search s f lamps lit not_, Whole s p
  | 0, _, _, _, _, p, h => by simp [Sy85.search] at h
  | f + 1, lamps, lit, not_, I, p, h => by
    simp only [Sy85.search] at h
    split at h
    · next e =>
      rw [List.mem_singleton] at h; subst h
      refine ⟨I.rising, I.free, I.apart, fun x hx => ?_⟩
      rw [List.find?_eq_none] at e
      have := e x hx
      simp only [Bool.not_eq_true', Bool.not_eq_false, List.contains_iff_mem] at this
      simpa using (I.lit x).mp (by simpa using this)
    · next x e =>
      rw [List.mem_flatMap] at h
      obtain ⟨z, hz, h⟩ := h
      have hz1 : z.1 ∈ (Sy85.lights s x).filter fun y => !lit.contains y && !not_.contains y := by
        have h2 := List.mem_zipIdx hz
        obtain ⟨_, h3, h4⟩ := h2
        rw [h4]; exact List.getElem_mem _
      have hx := List.mem_of_find?_eq_some e
      rw [List.mem_filter] at hz1
      simp only [Bool.and_eq_true, Bool.not_eq_true', List.contains_eq_mem, decide_eq_false_iff_not] at hz1
      exact search_sound g f _ _ _ (inv_more g I (lights_free g hx hz1.1) hz1.2.1) p h

theorem first_in (p : List Nat) : ∀ (c : List Nat), (∃ y ∈ c, y ∈ p) → ∃ i, ∃ h : i < c.length, c[i] ∈ p ∧ ∀ y ∈ c.take i, y ∉ p
  | [], h => by obtain ⟨y, hy, _⟩ := h; cases hy
  | a :: c, h => by
    by_cases e : a ∈ p
    · exact ⟨0, by simp, e, by simp⟩
    · obtain ⟨y, hy, hp⟩ := h
      rcases List.mem_cons.mp hy with rfl | hy
      · exact absurd hp e
      · obtain ⟨i, hi, h1, h2⟩ := first_in p c ⟨y, hy, hp⟩
        refine ⟨i + 1, by simp; omega, by simpa using h1, ?_⟩
        intro y hy
        rw [List.take_succ_cons] at hy
        rcases List.mem_cons.mp hy with rfl | hy
        · exact e
        · exact h2 y hy
theorem filter_lt {l : List Nat} {a b : Nat → Bool} (h : ∀ x ∈ l, b x = true → a x = true) {x : Nat} (hx : x ∈ l) (ha : a x = true) (hb : b x = false) :
    (l.filter b).length < (l.filter a).length := by
  induction l with
  | nil => cases hx
  | cons y l ih =>
    have le : ∀ l : List Nat, (∀ x ∈ l, b x = true → a x = true) → (l.filter b).length ≤ (l.filter a).length := by
      intro l; induction l with
      | nil => intro _; exact Nat.le_refl _
      | cons y l ih2 =>
        intro h
        have i := ih2 fun x hx => h x (List.mem_cons_of_mem _ hx)
        have hy := h y List.mem_cons_self
        rw [List.filter_cons, List.filter_cons]
        cases eb : b y
        · cases ea : a y <;> simp <;> omega
        · rw [hy eb]; simp; omega
    rw [List.filter_cons, List.filter_cons]
    rcases List.mem_cons.mp hx with rfl | hx
    · rw [ha, hb]
      have := le l fun x hx => h x (List.mem_cons_of_mem _ hx)
      simp; omega
    · have i := ih (fun x hx => h x (List.mem_cons_of_mem _ hx)) hx
      have hy := h y List.mem_cons_self
      cases eb : b y
      · cases ea : a y <;> simp <;> omega
      · rw [hy eb]; simp; omega
theorem search_complete {s : St} (g : Good s) : ∀ (f : Nat) (lamps lit not_ p : List Nat), Inv s lamps lit → Whole s p → (∀ x ∈ lamps, x ∈ p) → (∀ x ∈ not_, x ∉ p) →
    ((Sy85.free s).filter fun x => !lit.contains x).length < f → p ∈ Sy85.search s f lamps lit not_
  | 0, _, _, _, _, _, _, _, _, h => by omega
  | f + 1, lamps, lit, not_, p, I, W, hl, hn, hf => by
    simp only [Sy85.search]
    split
    · next e =>
      rw [List.mem_singleton]
      refine rising_unique _ _ W.rising I.rising fun y => ⟨fun hy => ?_, hl y⟩
      rw [List.find?_eq_none] at e
      have := e y (W.free y hy)
      obtain ⟨l, hm, h⟩ := (I.lit y).mp (by simpa using this)
      have := W.apart l (hl l hm) y hy h
      rwa [this]
    · next x e =>
      have hx := List.mem_of_find?_eq_some e
      have nx := List.find?_some e
      simp only [Bool.not_eq_true', List.contains_eq_mem, decide_eq_false_iff_not] at nx
      have hex : ∃ y ∈ (Sy85.lights s x).filter fun y => !lit.contains y && !not_.contains y, y ∈ p := by
        obtain ⟨y, hy, h⟩ := W.lit x hx
        refine ⟨y, ?_, hy⟩
        rw [List.mem_filter]
        refine ⟨lights_symm g (W.free y hy) h, ?_⟩
        simp only [Bool.and_eq_true, Bool.not_eq_true', List.contains_eq_mem, decide_eq_false_iff_not]
        constructor
        · intro hlit
          obtain ⟨l, hm, h2⟩ := (I.lit y).mp hlit
          have e2 := W.apart l (hl l hm) y hy h2
          subst e2
          exact nx ((I.lit x).mpr ⟨y, hm, h⟩)
        · intro hnot; exact hn y hnot hy
      obtain ⟨i, hi, h1, h2⟩ := first_in p _ hex
      generalize hc : (Sy85.lights s x).filter (fun y => !lit.contains y && !not_.contains y) = c at hi h1 h2 ⊢
      have hci : c[i] ∈ c := List.getElem_mem _
      have hall : ∀ y ∈ c, y ∈ Sy85.lights s x ∧ y ∉ lit ∧ y ∉ not_ := by
        intro y hy
        rw [← hc, List.mem_filter] at hy
        simpa only [Bool.and_eq_true, Bool.not_eq_true', List.contains_eq_mem, decide_eq_false_iff_not] using hy
      have hci2 := hall _ hci
      rw [List.mem_flatMap]
      refine ⟨(c[i], i), ?_, ?_⟩
      · exact List.mem_zipIdx_iff_getElem?.mpr (List.getElem?_eq_getElem hi)
      · have hfree := lights_free g hx hci2.1
        refine search_complete g f _ _ _ p (inv_more g I hfree hci2.2.1) W ?_ ?_ ?_
        · intro y hy
          rw [insert85] at hy
          rcases (mem_insert _ lamps y).mp hy with rfl | hy
          · exact h1
          · exact hl y hy
        · intro y hy
          rcases List.mem_append.mp hy with hy | hy
          · exact hn y hy
          · exact h2 y hy
        · have : ((Sy85.free s).filter fun x => !(lit ++ Sy85.lights s c[i]).contains x).length < ((Sy85.free s).filter fun x => !lit.contains x).length := by
            refine filter_lt ?_ hx (by simpa using nx) ?_
            · intro y _ hy
              simp only [Bool.not_eq_true', List.contains_eq_mem, decide_eq_false_iff_not, List.mem_append] at hy ⊢
              intro h; exact hy (.inl h)
            · have := lights_symm g hx hci2.1
              simp [this]
          exact Nat.lt_of_lt_of_le this (Nat.le_of_lt_succ hf)
theorem settings_spec {s : St} (g : Good s) : InOrder (Sy85.settings s) ∧ ∀ p, p ∈ Sy85.settings s ↔ Whole s p := by
  have e : Sy85.settings s = (Sy85.search s (Sy85.size s + 1) [] [] []).foldl (fun m p => Sy64.put p m) [] := by
    unfold Sy85.settings
    congr 1
    funext m p
    exact put85 p m
  obtain ⟨h1, h2⟩ := foldl_put (Sy85.search s (Sy85.size s + 1) [] [] []) [] List.Pairwise.nil
  rw [e]
  refine ⟨h1, fun p => ?_⟩
  rw [h2]
  have I0 : Inv s [] [] := ⟨List.Pairwise.nil, by simp, by simp, by simp⟩
  constructor
  · rintro (h | h)
    · exact search_sound g _ _ _ _ I0 p h
    · cases h
  · intro W
    left
    refine search_complete g _ _ _ _ p I0 W (by simp) (by simp) ?_
    have : ((Sy85.free s).filter fun x => !([] : List Nat).contains x).length ≤ (Sy85.free s).length := List.length_filter_le _ _
    have h3 : (Sy85.free s).length ≤ Sy85.size s := by
      unfold Sy85.free
      have := List.length_filter_le (fun x => !Sy85.isPillar s x) (List.range (Sy85.size s))
      simpa using this
    omega

/-! ### The program's way -/
def twoWays (s : St) (cell : Nat) (lamps : List Nat) : List (List Nat) :=
  (if lamps.any (fun l => (litFrom s cell).contains l) then [] else [lamps ++ [cell]]) ++ [lamps]
def grow (s : St) (found : List (List Nat)) (cell : Nat) : List (List Nat) := found.flatMap (twoWays s cell)
def found (s : St) : List (List Nat) := (Sy85.free s).foldl (grow s) [[]]
def allLit (s : St) (lamps : List Nat) : Bool := (Sy85.free s).all fun x => lamps.contains x || lamps.any fun l => (litFrom s x).contains l

theorem bef_ext (c : Nat) : ∀ (a b : List Nat), bef a b = true → (∀ x ∈ a, x < c) → (∀ x ∈ b, x < c) → bef (a ++ [c]) b = true ∧ bef a (b ++ [c]) = true ∧ bef (a ++ [c]) (b ++ [c]) = true
  | [], [], h, _, _ => by simp [bef, Sy64.before] at h
  | [], y :: b, h, _, _ => by simp [bef, Sy64.before] at h
  | x :: a, [], _, ha, _ => by
    have := ha x List.mem_cons_self
    simp [bef, Sy64.before, this]
  | x :: a, y :: b, h, ha, hb => by
    simp only [bef, Sy64.before, List.cons_append, Bool.or_eq_true, decide_eq_true_eq, Bool.and_eq_true, beq_iff_eq] at h ⊢
    rcases h with h | ⟨e, h⟩
    · exact ⟨.inl h, .inl h, .inl h⟩
    · obtain ⟨i1, i2, i3⟩ := bef_ext c a b h (fun z hz => ha z (List.mem_cons_of_mem _ hz)) (fun z hz => hb z (List.mem_cons_of_mem _ hz))
      exact ⟨.inr ⟨e, i1⟩, .inr ⟨e, i2⟩, .inr ⟨e, i3⟩⟩
theorem bef_longer (c : Nat) : ∀ (a : List Nat), bef (a ++ [c]) a = true
  | [] => rfl
  | x :: a => by
    simp only [bef, Sy64.before, List.cons_append, Bool.or_eq_true, decide_eq_true_eq, Bool.and_eq_true, beq_iff_eq]
    exact .inr ⟨trivial, bef_longer c a⟩
theorem mem_twoWays (s : St) (c : Nat) (a q : List Nat) : q ∈ twoWays s c a ↔ q = a ∨ (q = a ++ [c] ∧ ∀ l ∈ a, l ∉ litFrom s c) := by
  unfold twoWays
  split
  · next h =>
    simp only [List.any_eq_true, List.contains_iff_mem] at h
    obtain ⟨l, h1, h2⟩ := h
    simp only [List.nil_append, List.mem_singleton]
    constructor
    · exact .inl
    · rintro (h | ⟨_, h⟩)
      · exact h
      · exact absurd h2 (h l h1)
  · next h =>
    simp only [List.any_eq_true, List.contains_iff_mem, not_exists, not_and] at h
    simp only [List.singleton_append, List.mem_cons, List.not_mem_nil, or_false]
    constructor
    · rintro (h2 | h2)
      · exact .inr ⟨h2, h⟩
      · exact .inl h2
    · rintro (h2 | ⟨h2, _⟩)
      · exact .inr h2
      · exact .inl h2
theorem grow_inOrder (s : St) (c : Nat) (f : List (List Nat)) (h : InOrder f) (hlt : ∀ p ∈ f, ∀ x ∈ p, x < c) : InOrder (grow s f c) := by
  unfold grow InOrder
  induction f with
  | nil => exact List.Pairwise.nil
  | cons a f ih =>
    obtain ⟨h1, h2⟩ := List.pairwise_cons.mp h
    rw [List.flatMap_cons, List.pairwise_append]
    refine ⟨?_, ih h2 (fun p hp => hlt p (List.mem_cons_of_mem _ hp)), ?_⟩
    · unfold twoWays
      split
      · simp
      · simp [bef_longer]
    · intro p hp q hq
      rw [List.mem_flatMap] at hq
      obtain ⟨b, hb, hq⟩ := hq
      have hab := h1 b hb
      have la := hlt a List.mem_cons_self
      have lb := hlt b (List.mem_cons_of_mem _ hb)
      obtain ⟨i1, i2, i3⟩ := bef_ext c a b hab la lb
      rw [mem_twoWays] at hp hq
      rcases hp with rfl | ⟨rfl, _⟩ <;> rcases hq with rfl | ⟨rfl, _⟩ <;> assumption
/-- lists of some cells, none lit by another -/
structure Part (s : St) (cs p : List Nat) : Prop where
  rising : Rising p
  of : ∀ x ∈ p, x ∈ cs
  apart : p.Pairwise fun a b => a ∉ litFrom s b
theorem pairwise_snoc {A : Type} {R : A → A → Prop} (l : List A) (a : A) : (l ++ [a]).Pairwise R ↔ l.Pairwise R ∧ ∀ x ∈ l, R x a := by
  rw [List.pairwise_append]
  constructor
  · rintro ⟨h1, _, h3⟩; exact ⟨h1, fun x hx => h3 x hx a (by simp)⟩
  · rintro ⟨h1, h3⟩; exact ⟨h1, by simp, fun x hx b hb => by simp at hb; subst hb; exact h3 x hx⟩
theorem part_more (s : St) (cs : List Nat) (c : Nat) (hc : ∀ x ∈ cs, x < c) (q : List Nat) :
    Part s (cs ++ [c]) q ↔ Part s cs q ∨ ∃ p, Part s cs p ∧ q = p ++ [c] ∧ ∀ l ∈ p, l ∉ litFrom s c := by
  constructor
  · intro P
    rcases List.eq_nil_or_concat q with rfl | ⟨p, z, rfl⟩
    · exact .inl ⟨List.Pairwise.nil, by simp, List.Pairwise.nil⟩
    · have P1 := P.rising
      have P2 := P.of
      have P3 := P.apart
      rw [Rising] at P1
      simp only [List.concat_eq_append] at P1 P2 P3 ⊢
      rw [pairwise_snoc] at P1 P3
      by_cases e : z = c
      · subst e
        right
        refine ⟨p, ⟨P1.1, ?_, P3.1⟩, rfl, P3.2⟩
        intro x hx
        have := P2 x (by simp [hx])
        have := P1.2 x hx
        rcases List.mem_append.mp (P2 x (by simp [hx])) with h | h
        · exact h
        · simp at h; omega
      · left
        have hz : z ∈ cs := by
          rcases List.mem_append.mp (P2 z (by simp)) with h | h
          · exact h
          · simp at h; exact absurd h e
        refine ⟨by rw [Rising, pairwise_snoc]; exact P1, ?_, by rw [pairwise_snoc]; exact P3⟩
        intro x hx
        rcases List.mem_append.mp (P2 x hx) with h | h
        · exact h
        · simp at h; subst h
          rcases List.mem_append.mp hx with hx | hx
          · have := P1.2 _ hx; have := hc z hz; omega
          · simp at hx; exact absurd hx.symm e
  · rintro (P | ⟨p, P, rfl, h⟩)
    · exact ⟨P.rising, fun x hx => by simp [P.of x hx], P.apart⟩
    · refine ⟨by rw [Rising, pairwise_snoc]; exact ⟨P.rising, fun x hx => hc x (P.of x hx)⟩, ?_, by rw [pairwise_snoc]; exact ⟨P.apart, h⟩⟩
      intro x hx
      rcases List.mem_append.mp hx with hx | hx
      · simp [P.of x hx]
      · simp at hx; simp [hx]
theorem foldl_grow (s : St) : ∀ (cs ds : List Nat) (f : List (List Nat)), Rising (cs ++ ds) → InOrder f → (∀ q, q ∈ f ↔ Part s cs q) →
    InOrder (ds.foldl (grow s) f) ∧ ∀ q, q ∈ ds.foldl (grow s) f ↔ Part s (cs ++ ds) q
  | cs, [], f, _, h, hm => ⟨h, by simpa using hm⟩
  | cs, c :: ds, f, r, h, hm => by
    have e : cs ++ c :: ds = (cs ++ [c]) ++ ds := by simp
    have hc : ∀ x ∈ cs, x < c := by
      rw [Rising, List.pairwise_append] at r
      intro x hx; exact r.2.2 x hx c List.mem_cons_self
    rw [e]
    refine foldl_grow s (cs ++ [c]) ds (grow s f c) (by rw [← e]; exact r) (grow_inOrder s c f h ?_) ?_
    · intro p hp x hx
      exact hc x (((hm p).mp hp).of x hx)
    · intro q
      rw [part_more s cs c hc, grow, List.mem_flatMap]
      constructor
      · rintro ⟨p, hp, hq⟩
        rw [mem_twoWays] at hq
        rcases hq with rfl | ⟨rfl, h⟩
        · exact .inl ((hm _).mp hp)
        · exact .inr ⟨p, (hm p).mp hp, rfl, h⟩
      · rintro (P | ⟨p, P, rfl, h⟩)
        · exact ⟨q, (hm q).mpr P, (mem_twoWays s c q q).mpr (.inl rfl)⟩
        · exact ⟨p, (hm p).mpr P, (mem_twoWays s c p _).mpr (.inr ⟨rfl, h⟩)⟩
theorem free_rising (s : St) : Rising (Sy85.free s) := (range_rising _).filter _
theorem found_spec (s : St) : InOrder (found s) ∧ ∀ q, q ∈ found s ↔ Part s (Sy85.free s) q := by
  have := foldl_grow s [] (Sy85.free s) [[]] (by simpa using free_rising s) (by simp [InOrder]) (by
    intro q
    rw [List.mem_singleton]
    constructor
    · rintro rfl; exact ⟨List.Pairwise.nil, by simp, List.Pairwise.nil⟩
    · intro P; exact List.eq_nil_iff_forall_not_mem.mpr fun x hx => by simpa using P.of x hx)
  simpa [found] using this
/-- **The settings**: what is found and lights all. -/
theorem settings_is {s : St} (g : Good s) : (found s).filter (allLit s) = Sy85.settings s := by
  obtain ⟨o1, m1⟩ := found_spec s
  obtain ⟨o2, m2⟩ := settings_spec g
  refine inOrder_unique _ _ (o1.filter _) o2 fun q => ?_
  rw [List.mem_filter, m1, m2]
  constructor
  · rintro ⟨P, hl⟩
    refine ⟨P.rising, P.of, ?_, ?_⟩
    · intro x hx y hy h
      rcases Nat.lt_trichotomy x y with e | e | e
      · have h2 := lights_symm g (P.of x hx) h
        rcases (mem_lights s y x).mp h2 with h2 | h2
        · exact h2.symm
        · exact absurd h2 (pair_of P.rising P.apart hx hy e)
      · exact e.symm
      · rcases (mem_lights s x y).mp h with h2 | h2
        · exact h2
        · exact absurd h2 (pair_of P.rising P.apart hy hx e)
    · intro x hx
      unfold allLit at hl
      rw [List.all_eq_true] at hl
      have := hl x hx
      simp only [Bool.or_eq_true, List.contains_iff_mem, List.any_eq_true] at this
      rcases this with h | ⟨l, h1, h2⟩
      · exact ⟨x, h, (mem_lights s x x).mpr (.inl rfl)⟩
      · exact ⟨l, h1, lights_symm g hx ((mem_lights s x l).mpr (.inr h2))⟩
  · intro W
    refine ⟨⟨W.rising, W.free, ?_⟩, ?_⟩
    · refine W.rising.imp_of_mem ?_
      intro a b ha hb hlt h
      have := W.apart b hb a ha ((mem_lights s b a).mpr (.inr h))
      omega
    · unfold allLit
      rw [List.all_eq_true]
      intro x hx
      obtain ⟨l, h1, h2⟩ := W.lit x hx
      have := lights_symm g (W.free l h1) h2
      simp only [Bool.or_eq_true, List.contains_iff_mem, List.any_eq_true]
      rcases (mem_lights s x l).mp this with rfl | h
      · exact .inl h1
      · exact .inr ⟨l, h1, h⟩
end Rd.H
end
section
/-! The fewest numbers: what fails to fit must be met. -/
namespace Rd
/-- the numbers that are told otherwise than a setting has them, in the order of the table -/
def misfits (cnt : Nat → List Nat → Nat) (nums : List (Nat × Nat)) (p : List Nat) : List Nat := (nums.filter fun kv => cnt kv.1 p != kv.2).map (·.1)
def meetsAll (choice : List Nat) (clashes : List (List Nat)) : Bool := clashes.all fun clash => clash.any fun n => choice.contains n
/-- a table holds just what is told -/
structure Nums (val : Nat → Option Nat) (nums : List (Nat × Nat)) : Prop where
  nodup : (nums.map (·.1)).Nodup
  mem : ∀ n v, (n, v) ∈ nums ↔ val n = some v
theorem Nums.keys {val : Nat → Option Nat} {nums : List (Nat × Nat)} (N : Nums val nums) (n : Nat) : n ∈ nums.map (·.1) ↔ (val n).isSome = true := by
  rw [List.mem_map, Option.isSome_iff_exists]
  constructor
  · rintro ⟨⟨m, v⟩, h, rfl⟩; exact ⟨v, (N.mem _ _).mp h⟩
  · rintro ⟨v, h⟩; exact ⟨(n, v), (N.mem n v).mpr h, rfl⟩
theorem mem_misfits {val : Nat → Option Nat} {cnt : Nat → List Nat → Nat} {nums : List (Nat × Nat)} (N : Nums val nums) (p : List Nat) (n : Nat) :
    n ∈ misfits cnt nums p ↔ ∃ v, val n = some v ∧ cnt n p ≠ v := by
  unfold misfits
  simp only [List.mem_map, List.mem_filter, bne_iff_ne]
  constructor
  · rintro ⟨⟨m, v⟩, ⟨h, h2⟩, rfl⟩; exact ⟨v, (N.mem _ _).mp h, h2⟩
  · rintro ⟨v, h, h2⟩; exact ⟨(n, v), ⟨(N.mem n v).mpr h, h2⟩, rfl⟩
/-- what is counted with some numbers kept: none of them is a misfit -/
theorem kept_iff {val : Nat → Option Nat} {cnt : Nat → List Nat → Nat} {nums : List (Nat × Nat)} (N : Nums val nums) (p k : List Nat) :
    ((misfits cnt nums p).all fun n => !k.contains n) = true ↔ ∀ n v, val n = some v → k.contains n = true → cnt n p = v := by
  rw [List.all_eq_true]
  constructor
  · intro h n v hv hk
    apply Classical.byContradiction
    intro hne
    have := h n ((mem_misfits N p n).mpr ⟨v, hv, hne⟩)
    rw [hk] at this; cases this
  · intro h n hn
    obtain ⟨v, hv, hne⟩ := (mem_misfits N p n).mp hn
    cases e : k.contains n
    · rfl
    · exact absurd (h n v hv e) hne
theorem count_filter (misf : List Nat → List Nat) : ∀ T : List (List Nat), (T.map misf).count [] = (T.filter fun p => (misf p).isEmpty).length
  | [] => rfl
  | p :: T => by
    rw [List.map_cons, List.count_cons, count_filter misf T, List.filter_cons]
    cases misf p <;> simp
theorem filter_countP (misf : List Nat → List Nat) (k : List Nat) : ∀ T : List (List Nat), (T.filter fun p => (misf p).all fun n => !k.contains n).length = (T.map misf).countP fun c => c.all fun n => !k.contains n
  | [] => rfl
  | p :: T => by
    rw [List.map_cons, List.countP_cons, List.filter_cons]
    have ih := filter_countP misf k T
    split <;> simp_all
theorem good_is (misf : List Nat → List Nat) (T : List (List Nat)) (h : (T.map misf).count [] = 1) (k : List Nat) :
    ((T.filter fun p => (misf p).all fun n => !k.contains n).length == 1) = meetsAll k ((T.map misf).erase []) := by
  rw [filter_countP]
  have hm : [] ∈ T.map misf := by rw [← List.count_pos_iff]; omega
  rw [(List.perm_cons_erase hm).countP_eq, List.countP_cons]
  simp only [List.all_nil, if_true]
  rw [Bool.eq_iff_iff]
  simp only [beq_iff_eq, Nat.add_eq_right, meetsAll, List.all_eq_true, List.any_eq_true]
  rw [List.countP_eq_zero]
  constructor
  · intro h2 c hc
    have := h2 c hc
    apply Classical.byContradiction
    intro hne
    apply this
    rw [List.all_eq_true]
    intro n hn
    cases e : k.contains n
    · rfl
    · exact absurd ⟨n, hn, e⟩ hne
  · intro h2 c hc hall
    obtain ⟨n, hn, e⟩ := h2 c hc
    rw [List.all_eq_true] at hall
    have := hall n hn
    rw [e] at this; cases this

/-! ### The field -/
namespace F
open Sy64 (St)
structure Ok (s : St) : Prop where
  r1 : 1 ≤ s.rows
  r5 : s.rows ≤ 5
  c1 : 1 ≤ s.cols
  c5 : s.cols ≤ 5
  lr : s.inRow.length = s.rows
  lc : s.inCol.length = s.cols
  trees : s.trees.Nodup
  cells : ∀ x ∈ s.trees, x < s.rows * s.cols
  six : s.trees.length ≤ 6
  tents : s.tents = []
  bare : s.bare = []
def val (s : St) (n : Nat) : Option Nat := (s.inRow ++ s.inCol).getD n none
def cnt (s : St) (n : Nat) (p : List Nat) : Nat := if n < s.rows then Sy64.rowCount s p n else Sy64.colCount s p (n - s.rows)
theorem val_row {s : St} (o : Ok s) {n : Nat} (h : n < s.rows) : val s n = s.inRow.getD n none := by
  unfold val
  rw [List.getD_eq_getElem?_getD, List.getD_eq_getElem?_getD, List.getElem?_append_left (by rw [o.lr]; exact h)]
theorem val_col {s : St} (o : Ok s) {n : Nat} : val s (s.rows + n) = s.inCol.getD n none := by
  unfold val
  rw [List.getD_eq_getElem?_getD, List.getD_eq_getElem?_getD, List.getElem?_append_right (by rw [o.lr]; omega), o.lr]
  congr 2; omega
theorem val_out {s : St} (o : Ok s) {n : Nat} (h : s.rows + s.cols ≤ n) : val s n = none := by
  unfold val
  rw [List.getD_eq_getElem?_getD, List.getElem?_eq_none (by rw [List.length_append, o.lr, o.lc]; exact h)]; rfl
theorem opt_all (o : Option Nat) (q : Nat → Bool) : o.all q = true ↔ ∀ v, o = some v → q v = true := by
  cases o <;> simp
theorem counted_iff {s : St} (o : Ok s) (p : List Nat) : Sy64.counted s p = true ↔ ∀ n v, val s n = some v → cnt s n p = v := by
  unfold Sy64.counted
  rw [Bool.and_eq_true, List.all_eq_true, List.all_eq_true]
  constructor
  · rintro ⟨h1, h2⟩ n v hv
    by_cases c : n < s.rows
    · rw [val_row o c] at hv
      have := (opt_all _ _).mp (h1 n (List.mem_range.mpr c)) v hv
      simpa [cnt, c] using this
    · by_cases c2 : n < s.rows + s.cols
      · have e : n = s.rows + (n - s.rows) := by omega
        rw [e, val_col o] at hv
        have := (opt_all _ _).mp (h2 (n - s.rows) (List.mem_range.mpr (by omega))) v hv
        simpa [cnt, c] using this
      · rw [val_out o (by omega)] at hv; cases hv
  · intro h
    constructor
    · intro r hr
      have hr := List.mem_range.mp hr
      rw [opt_all]
      intro v hv
      have := h r v (by rw [val_row o hr]; exact hv)
      simpa [cnt, hr] using this
    · intro c hc
      have hc := List.mem_range.mp hc
      rw [opt_all]
      intro v hv
      have := h (s.rows + c) v (by rw [val_col o]; exact hv)
      simpa [cnt, show ¬ (s.rows + c < s.rows) by omega] using this
theorem zip_keep (k : List Nat) (off : Nat) : ∀ (l : List (Option Nat)) (i n : Nat), ((l.zipIdx i).map fun x => if k.contains (off + x.2) = true then x.1 else none).getD n none = if k.contains (off + (i + n)) = true then l.getD n none else none
  | [], i, n => by simp
  | a :: l, i, 0 => by simp
  | a :: l, i, n + 1 => by
    have := zip_keep k off l (i + 1) n
    simp only [List.zipIdx_cons, List.map_cons, List.getD_cons_succ] at this ⊢
    rw [this, show off + (i + 1 + n) = off + (i + (n + 1)) by omega]
theorem keep_ok {s : St} (o : Ok s) (k : List Nat) : Ok (Sy64.keep s k) := by
  refine ⟨o.r1, o.r5, o.c1, o.c5, ?_, ?_, o.trees, o.cells, o.six, o.tents, o.bare⟩
  · simp [Sy64.keep, o.lr]
  · simp [Sy64.keep, o.lc]
theorem keep_val {s : St} (o : Ok s) (k : List Nat) (n : Nat) : val (Sy64.keep s k) n = if k.contains n = true then val s n else none := by
  by_cases c : n < s.rows
  · rw [val_row (keep_ok o k) c, val_row o c]
    have := zip_keep k 0 s.inRow 0 n
    simp only [Nat.zero_add] at this
    exact this
  · by_cases c2 : n < s.rows + s.cols
    · have e : n = s.rows + (n - s.rows) := by omega
      rw [e]
      have h1 : val (Sy64.keep s k) (s.rows + (n - s.rows)) = (Sy64.keep s k).inCol.getD (n - s.rows) none := val_col (keep_ok o k)
      rw [h1, val_col o]
      have := zip_keep k s.rows s.inCol 0 (n - s.rows)
      simp only [Nat.zero_add] at this
      exact this
    · rw [val_out (keep_ok o k) (show s.rows + s.cols ≤ n by omega), val_out o (by omega)]; simp
theorem counted_is {s : St} (o : Ok s) {nums : List (Nat × Nat)} (N : Nums (val s) nums) (p : List Nat) : Sy64.counted s p = (misfits (cnt s) nums p).isEmpty := by
  rw [Bool.eq_iff_iff, counted_iff o, List.isEmpty_iff, List.eq_nil_iff_forall_not_mem]
  constructor
  · intro h n hn
    obtain ⟨v, hv, hne⟩ := (mem_misfits N p n).mp hn
    exact hne (h n v hv)
  · intro h n v hv
    apply Classical.byContradiction
    intro hne
    exact h n ((mem_misfits N p n).mpr ⟨v, hv, hne⟩)
theorem counted_keep {s : St} (o : Ok s) {nums : List (Nat × Nat)} (N : Nums (val s) nums) (k p : List Nat) :
    Sy64.counted (Sy64.keep s k) p = (misfits (cnt s) nums p).all fun n => !k.contains n := by
  rw [Bool.eq_iff_iff, counted_iff (keep_ok o k), kept_iff N]
  constructor
  · intro h n v hv hk
    exact h n v (by rw [keep_val o, if_pos hk]; exact hv)
  · intro h n v hv
    rw [keep_val o] at hv
    by_cases c : k.contains n = true
    · rw [if_pos c] at hv; exact h n v hv c
    · rw [if_neg c] at hv; cases hv
theorem zip_told : ∀ (l : List (Option Nat)) (i : Nat), Rising ((l.zipIdx i |>.filter fun x => x.1.isSome).map fun x => x.2) ∧
    ∀ n, n ∈ ((l.zipIdx i |>.filter fun x => x.1.isSome).map fun x => x.2) ↔ i ≤ n ∧ (l.getD (n - i) none).isSome = true
  | [], i => by simp [Rising]
  | a :: l, i => by
    obtain ⟨h1, h2⟩ := zip_told l (i + 1)
    have key : ∀ n, (i ≤ n ∧ ((a :: l).getD (n - i) none).isSome = true) ↔ (n = i ∧ a.isSome = true) ∨ (i + 1 ≤ n ∧ (l.getD (n - (i + 1)) none).isSome = true) := by
      intro n
      by_cases e : n = i
      · subst e
        constructor
        · rintro ⟨_, h⟩; exact .inl ⟨rfl, by simpa using h⟩
        · rintro (⟨_, h⟩ | ⟨h, _⟩)
          · exact ⟨Nat.le_refl _, by simpa using h⟩
          · omega
      · constructor
        · rintro ⟨h, h3⟩
          right
          refine ⟨by omega, ?_⟩
          rw [show n - i = (n - (i + 1)) + 1 by omega, List.getD_cons_succ] at h3
          exact h3
        · rintro (⟨h, _⟩ | ⟨h, h3⟩)
          · exact absurd h e
          · refine ⟨by omega, ?_⟩
            rw [show n - i = (n - (i + 1)) + 1 by omega, List.getD_cons_succ]
            exact h3
    rw [List.zipIdx_cons, List.filter_cons]
    cases ha : a.isSome
    · simp only [ha, Bool.false_eq_true, if_false]
      refine ⟨h1, fun n => ?_⟩
      rw [key, h2]; simp [ha]
    · simp only [ha, if_true, List.map_cons]
      refine ⟨List.pairwise_cons.mpr ⟨fun y hy => ?_, h1⟩, fun n => ?_⟩
      · have := ((h2 y).mp hy).1; omega
      · rw [List.mem_cons, h2, key]; simp [ha]
theorem told_spec (s : St) : Rising (Sy64.told s) ∧ ∀ n, n ∈ Sy64.told s ↔ (val s n).isSome = true := by
  obtain ⟨h1, h2⟩ := zip_told (s.inRow ++ s.inCol) 0
  refine ⟨h1, fun n => ?_⟩
  have := h2 n
  simpa [Sy64.told, val] using this
theorem ways_is {s : St} (o : Ok s) {nums : List (Nat × Nat)} (N : Nums (val s) nums) : Sy64.ways s = (Sy64.settings s).filter fun p => (misfits (cnt s) nums p).isEmpty := by
  unfold Sy64.ways
  apply List.filter_congr
  intro p _
  exact counted_is o N p
theorem fewest_none {s : St} (o : Ok s) {nums : List (Nat × Nat)} (N : Nums (val s) nums) (h : ((Sy64.settings s).map (misfits (cnt s) nums)).count [] ≠ 1) : Sy64.fewest s = none := by
  unfold Sy64.fewest
  rw [if_pos]
  rw [ways_is o N, ← count_filter]
  exact h
theorem fewest_some {s : St} (o : Ok s) {nums : List (Nat × Nat)} (N : Nums (val s) nums) (h : ((Sy64.settings s).map (misfits (cnt s) nums)).count [] = 1) (n : Nat) (c : List Nat)
    (hn : ∀ m < n, (level (Sy64.told s) m).find? (fun k => meetsAll k (((Sy64.settings s).map (misfits (cnt s) nums)).erase [])) = none)
    (hc : (level (Sy64.told s) n).find? (fun k => meetsAll k (((Sy64.settings s).map (misfits (cnt s) nums)).erase [])) = some c) : Sy64.fewest s = some c := by
  unfold Sy64.fewest
  rw [if_neg]
  · rw [← pick_level (Sy64.told s) (told_spec s).1 _ n c hn hc]
    have e : (Sy64.choices (Sy64.told s)).filter (fun k => ((Sy64.settings s).filter (Sy64.counted (Sy64.keep s k))).length == 1) =
        (Sy64.choices (Sy64.told s)).filter (fun k => meetsAll k (((Sy64.settings s).map (misfits (cnt s) nums)).erase [])) := by
      apply List.filter_congr
      intro k _
      rw [← good_is _ _ h]
      congr 2
      apply List.filter_congr
      intro p _
      exact counted_keep o N k p
    rw [e]
    rfl
  · rw [ways_is o N, ← count_filter]
    omega
/-- all told are enough: none of what clashes is empty -/
theorem all_told {s : St} {nums : List (Nat × Nat)} (N : Nums (val s) nums) (h : ((Sy64.settings s).map (misfits (cnt s) nums)).count [] = 1) :
    meetsAll (Sy64.told s) (((Sy64.settings s).map (misfits (cnt s) nums)).erase []) = true := by
  rw [← good_is _ _ h, beq_iff_eq, ← h, count_filter]
  congr 1
  apply List.filter_congr
  intro p _
  cases e : misfits (cnt s) nums p with
  | nil => rfl
  | cons a l =>
    have ha : a ∈ misfits (cnt s) nums p := by rw [e]; exact List.mem_cons_self
    obtain ⟨v, hv, _⟩ := (mem_misfits N p a).mp ha
    have : a ∈ Sy64.told s := ((told_spec s).2 a).mpr (by rw [hv]; rfl)
    simp [this]
end F

/-! ### The hall -/
namespace H
open Sy85 (St)
structure Ok (s : St) : Prop where
  good : Good s
  rising : Rising (s.pillars.map (·.1))
  cells : ∀ x ∈ s.pillars.map (·.1), x < s.rows * s.cols
  lamps : s.lamps = []
  bare : s.bare = []
def val (s : St) (x : Nat) : Option Nat := (s.pillars.lookup x).join
def cnt (s : St) (n : Nat) (p : List Nat) : Nat := ((Sy85.beside s n).filter fun x => p.contains x).length
theorem lookup_mem : ∀ {l : List (Nat × Option Nat)}, (l.map (·.1)).Nodup → ∀ x o, l.lookup x = some o ↔ (x, o) ∈ l
  | [], _, x, o => by simp
  | q :: l, h, x, o => by
    rw [List.map_cons, List.nodup_cons] at h
    rw [List.lookup_cons]
    by_cases e : x = q.1
    · subst e
      simp only [beq_self_eq_true, List.mem_cons]
      constructor
      · intro h2; cases h2; exact .inl rfl
      · rintro (h2 | h2)
        · rw [← h2]
        · exact absurd (List.mem_map.mpr ⟨_, h2, rfl⟩) h.1
    · have e2 : (x == q.1) = false := by simpa using e
      rw [e2]
      simp only [List.mem_cons]
      rw [lookup_mem h.2]
      constructor
      · exact .inr
      · rintro (h2 | h2)
        · rw [← h2] at e; exact absurd rfl e
        · exact h2
theorem val_some {s : St} (h : (s.pillars.map (·.1)).Nodup) (x v : Nat) : val s x = some v ↔ (x, some v) ∈ s.pillars := by
  unfold val
  rw [Option.join_eq_some_iff, lookup_mem h]
theorem counted_iff {s : St} (o : Ok s) (p : List Nat) : Sy85.counted s p = true ↔ ∀ n v, val s n = some v → cnt s n p = v := by
  unfold Sy85.counted
  rw [List.all_eq_true]
  have nd := rising_nodup o.rising
  constructor
  · intro h n v hv
    have := h _ ((val_some nd n v).mp hv)
    simpa [cnt] using this
  · rintro h ⟨x, q⟩ hq
    cases q with
    | none => rfl
    | some v =>
      have := h x v ((val_some nd x v).mpr hq)
      simpa [cnt] using this
theorem keep_keys (s : St) (k : List Nat) : (Sy85.keep s k).pillars.map (·.1) = s.pillars.map (·.1) := by
  simp only [Sy85.keep, List.map_map]
  apply List.map_congr_left
  intro q _
  simp only [Function.comp]
  split <;> rfl
theorem keep_ok {s : St} (o : Ok s) (k : List Nat) : Ok (Sy85.keep s k) := by
  refine ⟨⟨o.good.r1, o.good.r4, o.good.c1, o.good.c4⟩, ?_, ?_, o.lamps, o.bare⟩
  · rw [keep_keys]; exact o.rising
  · rw [keep_keys]; exact o.cells
theorem keep_val {s : St} (o : Ok s) (k : List Nat) (n v : Nat) : val (Sy85.keep s k) n = some v ↔ k.contains n = true ∧ val s n = some v := by
  have nd := rising_nodup o.rising
  rw [val_some (rising_nodup (keep_ok o k).rising), val_some nd]
  simp only [Sy85.keep, List.mem_map]
  constructor
  · rintro ⟨⟨x, q⟩, hq, e⟩
    by_cases c : k.contains x = true
    · simp only [c, if_true] at e; cases e; exact ⟨c, hq⟩
    · simp only [c] at e; cases e
  · rintro ⟨c, hq⟩
    exact ⟨_, hq, by simp only [c, if_true]⟩
theorem counted_is {s : St} (o : Ok s) {nums : List (Nat × Nat)} (N : Nums (val s) nums) (p : List Nat) : Sy85.counted s p = (misfits (cnt s) nums p).isEmpty := by
  rw [Bool.eq_iff_iff, counted_iff o, List.isEmpty_iff, List.eq_nil_iff_forall_not_mem]
  constructor
  · intro h n hn
    obtain ⟨v, hv, hne⟩ := (mem_misfits N p n).mp hn
    exact hne (h n v hv)
  · intro h n v hv
    apply Classical.byContradiction
    intro hne
    exact h n ((mem_misfits N p n).mpr ⟨v, hv, hne⟩)
theorem counted_keep {s : St} (o : Ok s) {nums : List (Nat × Nat)} (N : Nums (val s) nums) (k p : List Nat) :
    Sy85.counted (Sy85.keep s k) p = (misfits (cnt s) nums p).all fun n => !k.contains n := by
  rw [Bool.eq_iff_iff, counted_iff (keep_ok o k), kept_iff N]
  constructor
  · intro h n v hv hk
    exact h n v ((keep_val o k n v).mpr ⟨hk, hv⟩)
  · intro h n v hv
    obtain ⟨c, hv⟩ := (keep_val o k n v).mp hv
    exact h n v hv c
theorem told_spec {s : St} (o : Ok s) : Rising (Sy85.told s) ∧ ∀ n, n ∈ Sy85.told s ↔ (val s n).isSome = true := by
  have nd := rising_nodup o.rising
  constructor
  · have h : (s.pillars.filter fun p => p.2.isSome).Sublist s.pillars := List.filter_sublist
    have h2 : (Sy85.told s).Sublist (s.pillars.map (·.1)) := h.map _
    exact List.Pairwise.sublist h2 o.rising
  · intro n
    rw [Option.isSome_iff_exists]
    unfold Sy85.told
    simp only [List.mem_map, List.mem_filter]
    constructor
    · rintro ⟨⟨x, q⟩, ⟨hq, hs⟩, rfl⟩
      obtain ⟨v, rfl⟩ := Option.isSome_iff_exists.mp hs
      exact ⟨v, (val_some nd _ v).mpr hq⟩
    · rintro ⟨v, hv⟩
      exact ⟨_, ⟨(val_some nd n v).mp hv, rfl⟩, rfl⟩
theorem ways_is {s : St} (o : Ok s) {nums : List (Nat × Nat)} (N : Nums (val s) nums) : Sy85.ways s = (Sy85.settings s).filter fun p => (misfits (cnt s) nums p).isEmpty := by
  unfold Sy85.ways
  apply List.filter_congr
  intro p _
  exact counted_is o N p
theorem fewest_none {s : St} (o : Ok s) {nums : List (Nat × Nat)} (N : Nums (val s) nums) (h : ((Sy85.settings s).map (misfits (cnt s) nums)).count [] ≠ 1) : Sy85.fewest s = none := by
  have e := ways_is o N
  unfold Sy85.ways at e
  unfold Sy85.fewest
  simp only
  rw [if_pos]
  rw [e, ← count_filter]
  exact h
theorem fewest_some {s : St} (o : Ok s) {nums : List (Nat × Nat)} (N : Nums (val s) nums) (h : ((Sy85.settings s).map (misfits (cnt s) nums)).count [] = 1) (n : Nat) (c : List Nat)
    (hn : ∀ m < n, (level (Sy85.told s) m).find? (fun k => meetsAll k (((Sy85.settings s).map (misfits (cnt s) nums)).erase [])) = none)
    (hc : (level (Sy85.told s) n).find? (fun k => meetsAll k (((Sy85.settings s).map (misfits (cnt s) nums)).erase [])) = some c) : Sy85.fewest s = some c := by
  have e := ways_is o N
  unfold Sy85.ways at e
  unfold Sy85.fewest
  simp only
  rw [if_neg]
  · rw [← pick_level (Sy85.told s) (told_spec o).1 _ n c hn hc, choices85]
    have e : (Sy64.choices (Sy85.told s)).filter (fun k => ((Sy85.settings s).filter (Sy85.counted (Sy85.keep s k))).length == 1) =
        (Sy64.choices (Sy85.told s)).filter (fun k => meetsAll k (((Sy85.settings s).map (misfits (cnt s) nums)).erase [])) := by
      apply List.filter_congr
      intro k _
      rw [← good_is _ _ h]
      congr 2
      apply List.filter_congr
      intro p _
      exact counted_keep o N k p
    rw [e]
    rfl
  · rw [e, ← count_filter]
    omega
theorem all_told {s : St} (o : Ok s) {nums : List (Nat × Nat)} (N : Nums (val s) nums) (h : ((Sy85.settings s).map (misfits (cnt s) nums)).count [] = 1) :
    meetsAll (Sy85.told s) (((Sy85.settings s).map (misfits (cnt s) nums)).erase []) = true := by
  rw [← good_is _ _ h, beq_iff_eq, ← h, count_filter]
  congr 1
  apply List.filter_congr
  intro p _
  cases e : misfits (cnt s) nums p with
  | nil => rfl
  | cons a l =>
    have ha : a ∈ misfits (cnt s) nums p := by rw [e]; exact List.mem_cons_self
    obtain ⟨v, hv, _⟩ := (mem_misfits N p a).mp ha
    have : a ∈ Sy85.told s := ((told_spec o).2 a).mpr (by rw [hv]; rfl)
    simp [this]
end H
end Rd
end
set_option linter.all false
set_option maxRecDepth 100000
set_option maxHeartbeats 2000000
/-! The riddles' common part: how it lies in the heap, and the small methods. -/
namespace Rd
open PySem PySem.Spec PyProof.Rows L2 Evl
/-! ### words -/
abbrev vN (n : Nat) : V := .int (n : Int)
def vL (l : List Nat) : List V := l.map vN
def kvN (nums : List (Nat × Nat)) : List (L2.Key × V) := nums.map fun p => (Sum.inl (p.1 : Int), vN p.2)
theorem vL_len (l : List Nat) : (vL l).length = l.length := List.length_map ..
theorem vL_get (l : List Nat) (i : Nat) : (vL l)[i]? = l[i]?.map vN := List.getElem?_map ..
theorem vL_get_some {l : List Nat} {i : Nat} {x : V} (h : (vL l)[i]? = some x) : ∃ n, l[i]? = some n ∧ x = vN n := by
  rw [vL_get] at h
  cases e : l[i]? with
  | none => rw [e] at h; cases h
  | some n => rw [e] at h; exact ⟨n, rfl, (Option.some.inj h).symm⟩
theorem vL_append (a b : List Nat) : vL (a ++ b) = vL a ++ vL b := List.map_append ..
theorem flat_vL (l : List Nat) : (vL l).all flatV = true := by
  rw [List.all_eq_true]
  intro x hx
  obtain ⟨n, _, rfl⟩ := List.mem_map.mp hx
  rfl
theorem inV_vL (x : Nat) (l : List Nat) : inV (vN x) (vL l) = l.contains x := by
  unfold inV vL
  rw [List.any_map, List.contains_eq_any_beq]
  congr 1
  funext y
  show decide ((y : Int) = (x : Int)) = (x == y)
  by_cases e : x = y
  · subst e; simp
  · have : ¬ ((y : Int) = (x : Int)) := by omega
    simp [e, this]
theorem lk_here {k : Str} {v : V} {r : List (Str × V)} : List.lookup k ((k, v) :: r) = some v := by
  have e : (k == k) = true := beq_self_eq_true k
  simp only [List.lookup, e]
theorem lk_past {k g : Str} {v : V} {r : List (Str × V)} (h : (k == g) = false) : List.lookup k ((g, v) :: r) = List.lookup k r := by
  simp only [List.lookup, h]
theorem put_here {f : Str} {v x : V} {r : List (Str × V)} : putF f v ((f, x) :: r) = (f, v) :: r := if_pos rfl
theorem put_past {f g : Str} {v x : V} {r : List (Str × V)} (h : ¬ g = f) : putF f v ((g, x) :: r) = (g, x) :: putF f v r := if_neg h

/-! ### what an expression gives, by what is true of it -/
def EvP (te : TE) (σ : L2.St) (H : Hp) (P : V → Hp → Prop) : Prop := ∀ H1, Ex H H1 → ∀ Q : VK, (∀ v H2, Ex H1 H2 → P v H2 → Q v H2) → te σ H1 Q
def SpP (sp : Sp) (vs : List V) (H : Hp) (P : V → Hp → Prop) : Prop := ∀ H1, Ex H H1 → ∀ Q : VK, (∀ v H2, Ex H1 H2 → P v H2 → Q v H2) → ∀ E : XK, sp vs H1 Q E
def RetP (P : V → Hp → Prop) (H : Hp) (Q : VK) : Prop := ∀ v H2, Ex H H2 → P v H2 → Q v H2
section
variable {σ : L2.St} {H H' : Hp} {v x y z : V} {ta tb te : TE} {t u : TT} {K : PySem.W.Frag} {P : V → Hp → Prop}
theorem EvP.mono (e : Ex H H') (h : EvP te σ H P) : EvP te σ H' P := fun H1 a Q q => h H1 (e.trans a) Q q
theorem EvP.of_L {xs : List V} (h : EvL te σ H xs) : EvP te σ H (fun v H => ∃ p, v = .ref p ∧ H p = some (.lst xs)) := fun H1 e Q q => h H1 e _ fun p H2 _ e2 hp => q _ H2 e2 ⟨p, rfl, hp⟩
theorem EvP.of_V (h : Ev te σ H v) : EvP te σ H (fun w _ => w = v) := fun H1 e Q q => h H1 e _ fun H2 e2 => q v H2 e2 rfl
theorem ev_fld {a C dx : Addr} {fs : List (Str × V)} {f : Str} (h : Ev ta σ H (.ref a)) (ho : H a = some (.ins C dx fs)) (hc : Cls K C) (hn : NoAttr K C f) (hl : fs.lookup f = some v) : Ev (tFld K ta f) σ H v := fun H1 e Q q =>
  h H1 e _ fun H2 e2 => ⟨a, C, dx, fs, v, rfl, e2 a _ (e a _ ho), hc, hn, hl, q H2 e2⟩
theorem ev_meth {C a dx : Addr} {m : Str} {sp : Sp} {dvs vs : List V} {E : XK} {ts : TA} {fs : List (Str × V)} (h : Ev ta σ H (.ref a)) (ho : H a = some (.ins C dx fs)) (hl : fs.lookup m = none) (hv : EvA ts σ H vs)
    (hs : SpV sp (.ref a :: (vs ++ dvs)) H z) : Ev (tMeth C m sp dvs E ta ts) σ H z := fun H1 e Q q =>
  h H1 e _ fun H2 e2 => ⟨a, dx, fs, rfl, e2 a _ (e a _ ho), hl, hv H2 (e.trans e2) _ fun H3 e3 => hs H3 ((e.trans e2).trans e3) _ (fun H4 e4 => q H4 ((e2.trans e3).trans e4)) E⟩
theorem el_meth {C a dx : Addr} {m : Str} {sp : Sp} {dvs vs xs : List V} {E : XK} {ts : TA} {fs : List (Str × V)} (h : Ev ta σ H (.ref a)) (ho : H a = some (.ins C dx fs)) (hl : fs.lookup m = none) (hv : EvA ts σ H vs)
    (hs : SpL sp (.ref a :: (vs ++ dvs)) H xs) : EvL (tMeth C m sp dvs E ta ts) σ H xs := fun H1 e Q q =>
  h H1 e _ fun H2 e2 => ⟨a, dx, fs, rfl, e2 a _ (e a _ ho), hl, hv H2 (e.trans e2) _ fun H3 e3 => hs H3 ((e.trans e2).trans e3) _ (fun p H4 hp e4 h4 => q p H4 (fresh_back (e2.trans e3) hp) ((e2.trans e3).trans e4) h4) E⟩
theorem ep_meth {C a dx : Addr} {m : Str} {sp : Sp} {dvs vs : List V} {E : XK} {ts : TA} {fs : List (Str × V)} (h : Ev ta σ H (.ref a)) (ho : H a = some (.ins C dx fs)) (hl : fs.lookup m = none) (hv : EvA ts σ H vs)
    (hs : SpP sp (.ref a :: (vs ++ dvs)) H P) : EvP (tMeth C m sp dvs E ta ts) σ H P := fun H1 e Q q =>
  h H1 e _ fun H2 e2 => ⟨a, dx, fs, rfl, e2 a _ (e a _ ho), hl, hv H2 (e.trans e2) _ fun H3 e3 => hs H3 ((e.trans e2).trans e3) _ (fun v H4 e4 h4 => q v H4 ((e2.trans e3).trans e4) h4) E⟩
theorem ep_call {sp : Sp} {dvs vs : List V} {E : XK} {ts : TA} (hv : EvA ts σ H vs) (hs : SpP sp (vs ++ dvs) H P) : EvP (tCall sp dvs E ts) σ H P := fun H1 e Q q =>
  hv H1 e _ fun H2 e2 => hs H2 (e.trans e2) _ (fun v H3 e3 h3 => q v H3 (e2.trans e3) h3) E
theorem s_retP {D : Ends} (h : EvP te σ H P) (k : RetP P H D.rt) : tRet te D σ H := h H (Ex.refl H) _ fun v H2 e p => k v H2 e p
theorem q_asgP {D : Ends} {tz : TS} {i : Nat} (h : EvP te σ H P) (k : ∀ v H1, Ex H H1 → P v H1 → tz D (σ.set i (some v)) H1) : tSeq (tAsg te (gName i)) tz D σ H := h H (Ex.refl H) _ fun v H1 e p => k v H1 e p
/-- a value by its test -/
theorem ev_cmp {r : R2} (ha : Ev ta σ H x) (hb : Ev tb σ H y) (hr : RV r x y H z) : Ev (tOp r ta tb) σ H z := ev_op ha hb hr
theorem rv_lt {i j : Int} : RV (rI0 fun i j => .bl (decide (i < j))) (.int i) (.int j) H (.bl (decide (i < j))) := rv_I0
theorem et_chain {r r' : R2} {tc : TE} {a b : Bool} {X Y W : V} (ha : Ev ta σ H X) (hb : Ev tb σ H Y) (hr : RV r X Y H (.bl a)) (hc : a = true → Ev tc σ H W ∧ RV r' Y W H (.bl b)) :
    Ev (tChain r r' ta tb tc) σ H (.bl (a && b)) := fun H1 e Q q => ha H1 e _ fun H2 e2 => hb H2 (e.trans e2) _ fun H3 e3 => hr H3 ((e.trans e2).trans e3) _ fun H4 e4 => ⟨a, rfl, by
  cases a with
  | false => exact q H4 ((e2.trans e3).trans e4)
  | true =>
    obtain ⟨h1, h2⟩ := hc rfl
    exact h1 H4 (((e.trans e2).trans e3).trans e4) _ fun H5 e5 => h2 H5 ((((e.trans e2).trans e3).trans e4).trans e5) _ fun H6 e6 => q H6 ((((e2.trans e3).trans e4).trans e5).trans e6)⟩
theorem et_truth_l {k : Bool} {a : Addr} {xs : List V} (ha : Ev ta σ H (.ref a)) (hx : SqL K H a xs) : EvT (fun σ H Q => ta σ H fun x H' => ∃ k, TruV K x H' k ∧ Q k H') σ H (!xs.isEmpty) := fun H1 e Q q =>
  ha H1 e _ fun H2 e2 => ⟨_, .inl ⟨xs, ex_l (e.trans e2) hx, rfl⟩, q H2 e2⟩
end
end Rd
set_option linter.all false
set_option maxRecDepth 100000
set_option maxHeartbeats 2000000
namespace Rd
open PySem PySem.Spec PyProof.Rows L2 Evl
def top (i : Nat) : Stmt := PySem.Challenge.pw_riddledesk_s01_answers.main.body.getD i (.Pass ⟨0, 0, 0, 0⟩)
/-! ### a riddle in the heap -/
structure R where
  rows : Nat
  cols : Nat
  bl : List Nat
  nums : List (Nat × Nat)
structure R.Ok (r : R) : Prop where
  r1 : 1 ≤ r.rows
  r5 : r.rows ≤ 5
  c1 : 1 ≤ r.cols
  c5 : r.cols ≤ 5
  nd : r.bl.Nodup
  cells : ∀ x ∈ r.bl, x < r.rows * r.cols
  keys : (r.nums.map (·.1)).Nodup
  low : ∀ p ∈ r.nums, p.1 < 25
theorem R.Ok.size {r : R} (o : r.Ok) : r.rows * r.cols ≤ 25 := Nat.mul_le_mul o.r5 o.c5
structure Ad where
  L : Int
  dx : Addr
  wd : Addr
  ba : Addr
  na : Addr
def rF (d : Ad) (r : R) : List (Str × V) := [("longest", .int d.L), ("wants", .ref d.wd), ("rows", vN r.rows), ("columns", vN r.cols), ("blocked", .ref d.ba), ("numbers", .ref d.na)]
theorem rF_longest (d : Ad) (r : R) : (rF d r).lookup ("longest" : Str) = some (.int d.L) := lk_here
theorem rF_wants (d : Ad) (r : R) : (rF d r).lookup ("wants" : Str) = some (.ref d.wd) := (lk_past (by decide +kernel)).trans lk_here
theorem rF_rows (d : Ad) (r : R) : (rF d r).lookup ("rows" : Str) = some (vN r.rows) := (lk_past (by decide +kernel)).trans ((lk_past (by decide +kernel)).trans lk_here)
theorem rF_columns (d : Ad) (r : R) : (rF d r).lookup ("columns" : Str) = some (vN r.cols) := (lk_past (by decide +kernel)).trans ((lk_past (by decide +kernel)).trans ((lk_past (by decide +kernel)).trans lk_here))
theorem rF_blocked (d : Ad) (r : R) : (rF d r).lookup ("blocked" : Str) = some (.ref d.ba) := (lk_past (by decide +kernel)).trans ((lk_past (by decide +kernel)).trans ((lk_past (by decide +kernel)).trans ((lk_past (by decide +kernel)).trans lk_here)))
theorem rF_numbers (d : Ad) (r : R) : (rF d r).lookup ("numbers" : Str) = some (.ref d.na) := (lk_past (by decide +kernel)).trans ((lk_past (by decide +kernel)).trans ((lk_past (by decide +kernel)).trans ((lk_past (by decide +kernel)).trans ((lk_past (by decide +kernel)).trans lk_here))))
/-- a method's name is none of the attributes -/
theorem rF_no (d : Ad) (r : R) {m : Str} (h : (["longest", "wants", "rows", "columns", "blocked", "numbers"] : List Str).all (fun f => !(m == f)) = true) : (rF d r).lookup m = none := by
  simp only [List.all_cons, List.all_nil, Bool.and_true, Bool.and_eq_true, Bool.not_eq_true'] at h
  obtain ⟨h1, h2, h3, h4, h5, h6⟩ := h
  exact (lk_past h1).trans ((lk_past h2).trans ((lk_past h3).trans ((lk_past h4).trans ((lk_past h5).trans ((lk_past h6).trans rfl)))))
/-- as it may be read -/
structure Seen (C : Addr) (H : Hp) (x : Addr) (d : Ad) (r : R) : Prop where
  ok : r.Ok
  ins : H x = some (.ins C d.dx (rF d r))
  bl : H d.ba = some (.lst (vL r.bl))
  nu : Rd H d.na (.dK (kvN r.nums))
theorem Seen.mono {C : Addr} {H H' : Hp} {x : Addr} {d : Ad} {r : R} (e : Ex H H') (S : Seen C H x d r) : Seen C H' x d r := ⟨S.ok, e _ _ S.ins, e _ _ S.bl, ex_rd e S.nu⟩
/-- the facts of its class -/
structure RC (K : PySem.W.Frag) (C : Addr) : Prop where
  cl : Cls K C
  n1 : NoAttr K C "longest"
  n2 : NoAttr K C "wants"
  n3 : NoAttr K C "rows"
  n4 : NoAttr K C "columns"
  n5 : NoAttr K C "blocked"
  n6 : NoAttr K C "numbers"
section
variable {K : PySem.W.Frag} {C : Addr} {σ : L2.St} {H : Hp} {x : Addr} {d : Ad} {r : R} {ta : TE}
theorem ev_rows (T : RC K C) (S : Seen C H x d r) (h : Ev ta σ H (.ref x)) : Ev (tFld K ta "rows") σ H (vN r.rows) := ev_fld h S.ins T.cl T.n3 (rF_rows d r)
theorem ev_cols (T : RC K C) (S : Seen C H x d r) (h : Ev ta σ H (.ref x)) : Ev (tFld K ta "columns") σ H (vN r.cols) := ev_fld h S.ins T.cl T.n4 (rF_columns d r)
theorem ev_blk (T : RC K C) (S : Seen C H x d r) (h : Ev ta σ H (.ref x)) : Ev (tFld K ta "blocked") σ H (.ref d.ba) := ev_fld h S.ins T.cl T.n5 (rF_blocked d r)
theorem ev_num (T : RC K C) (S : Seen C H x d r) (h : Ev ta σ H (.ref x)) : Ev (tFld K ta "numbers") σ H (.ref d.na) := ev_fld h S.ins T.cl T.n6 (rF_numbers d r)
end
/-- a method, a def of the module, with its promise -/
def Mt (P : Program) (w : World) (K : PySem.W.Frag) (mg : Str → Option Value) (base : Heap) (C : Addr) (k : Nat) (m : Str) (ps : List Str) (sp : Sp) : Prop :=
  ∃ (f : Addr) (fd : FuncData), Meth K C m f ∧ FnOk P w K mg base CX0 k f fd ps sp ∧ L2.Binds K fd ps []
def Gf (P : Program) (w : World) (K : PySem.W.Frag) (mg : Str → Option Value) (base : Heap) (k : Nat) (m : Str) (ps : List Str) (sp : Sp) : Prop :=
  ∃ (f : Addr) (fd : FuncData), mg m = some (.ref f) ∧ PySem.W.keepIn K (.ref f) = true ∧ FnOk P w K mg base CX0 k f fd ps sp ∧ L2.Binds K fd ps []
/-- a whole number that the module's top has named -/
def KInt (mg : Str → Option Value) (m : Str) (i : Int) : Prop := ∃ t, mg m = some (.int i t)
/-! ### promises -/
def spSize (C : Addr) : Sp := fun vs H Q _ => ∃ (x : Addr) (d : Ad) (r : R), vs = [.ref x] ∧ Seen C H x d r ∧ RetV (vN (r.rows * r.cols)) H Q
theorem spv_size {C : Addr} {H : Hp} {x : Addr} {d : Ad} {r : R} (S : Seen C H x d r) : SpV (spSize C) [.ref x] H (vN (r.rows * r.cols)) := fun H1 e Q q E => ⟨x, d, r, rfl, S.mono e, q⟩
/-- the cells that want a mark -/
def wanting (r : R) : List Nat := (List.range (r.rows * r.cols)).filter fun x => !r.bl.contains x
def spWanting (C : Addr) : Sp := fun vs H Q _ => ∃ (x : Addr) (d : Ad) (r : R), vs = [.ref x] ∧ Seen C H x d r ∧ RetL (vL (wanting r)) H Q
theorem spl_wanting {C : Addr} {H : Hp} {x : Addr} {d : Ad} {r : R} (S : Seen C H x d r) : SpL (spWanting C) [.ref x] H (vL (wanting r)) := fun H1 e Q q E => ⟨x, d, r, rfl, S.mono e, fun p H2 hp e2 h2 => q p H2 hp e2 h2⟩
abbrev sSize : Stmt := inClass (top 9) 6
abbrev sWanting : Stmt := inClass (top 9) 7
section
variable {P : Program} {w : World} {K : PySem.W.Frag} {mg : Str → Option Value} {base : Heap} {C : Addr}
theorem scSize : FnScope ["self"] ["self"] (defScope sSize) := ⟨rfl, rfl, rfl, by decide +kernel, rfl, by decide +kernel, by decide +kernel⟩
theorem ok_size {f : Addr} {fd : FuncData} (F : Fun K "size" "Riddle.size" sSize f fd) (T : RC K C) : FnOk P w K mg base CX0 1 f fd ["self"] (spSize C) := by
  refine F.ok scSize (fun vs H Q E h => ?_) (fun cdv A outer s H vs Q E hr h => ?_)
  · obtain ⟨x, d, r, rfl, _⟩ := h; rfl
  · refine ⟨_, pss_one (ps_ret (pe_op op_mul (pe_fld (pv 0) rfl) (pe_fld (pv 0) rfl))), ?_⟩
    obtain ⟨x, d, r, rfl, S, k⟩ := h
    refine s_ret (ev_op (ev_rows T S (ev_var rfl)) (ev_cols T S (ev_var rfl)) (rv_I (.inl ?_))) fun H1 e => ?_
    · have := S.ok.r5
      constructor <;> omega
    · rw [← Int.natCast_mul]; exact k H1 e
theorem scWanting : FnScope ["self", "cell"] ["self"] (defScope sWanting) := ⟨rfl, rfl, rfl, by decide +kernel, rfl, by decide +kernel, by decide +kernel⟩
theorem ok_wanting {f : Addr} {fd : FuncData} (F : Fun K "wanting" "Riddle.wanting" sWanting f fd) (T : RC K C) (gR : mg "range" = none) (mS : Mt P w K mg base C 1 "size" ["self"] (spSize C)) :
    FnOk P w K mg base CX0 2 f fd ["self"] (spWanting C) := by
  refine F.ok scWanting (fun vs H Q E h => ?_) (fun cdv A outer s H vs Q E hr h => ?_)
  · obtain ⟨x, d, r, rfl, _⟩ := h; rfl
  · obtain ⟨fs, fds, mS, FS, bS⟩ := mS
    refine ⟨_, pss_one (ps_ret (pe_lc (own := [("cell", 1)]) (g := gName 1) (tt := tTest (tOp (rIn K true) (tVar 1) (tFld K (tVar 0) "blocked"))) (te := tVar 1) rfl scWanting.nd (pi_range1 (by rfl) gR (pa_cons (pe_meth0 (pv 0) T.cl mS FS hr bS .nil pass0) pa_nil)) (blkOk_by (N := ["self", "cell"]) (sc := defScope sWanting) (by decide +kernel))
      (fun _ _ _ _ _ => pg_name (i := 1) scWanting.nd rfl (Or.inl rfl)) (fun _ _ _ _ _ => pts_one (pt_cmpR op_notIn_seq (pv 1) (pe_fld (pv 0) rfl) rfl)) (fun _ _ _ _ _ => pv 1))), ?_⟩
    obtain ⟨x, d, r, rfl, S, k⟩ := h
    refine s_retL (el_lcR1 (fun i => !r.bl.contains i) vN (ea_cons (ev_meth (ev_var rfl) S.ins (rF_no d r (by decide +kernel)) ea_nil (spv_size S)) ea_nil) ?_ (fun _ => rfl) ?_ ?_) ?_
    · have h1 := S.ok.size
      constructor <;> omega
    · intro i H1 e _
      refine et_test (ev_is (ev_op (ev_var rfl) (ev_blk T (S.mono e) (ev_var rfl)) (rv_niL (sq_of (S.mono e).bl) rfl (flat_vL _))) ?_)
      rw [inV_vL]
    · intro i H1 e _ _
      exact ev_var rfl
    · intro p H1 hp e h1
      refine k p H1 hp e ?_
      rw [h1, Int.toNat_natCast]
      unfold given wanting vL
      rfl
end
end Rd
set_option linter.all false
set_option maxRecDepth 100000
set_option maxHeartbeats 2000000
namespace Rd
open PySem PySem.Spec PyProof.Rows L2 Evl
/-! ### the cells beside a cell -/
def steps : List (Int × Int) := [(-1, 0), (0, -1), (0, 1), (1, 0)]
def nearStep (rows cols cell : Nat) (s : Int × Int) : List Nat :=
  if (0 ≤ ((cell / cols : Nat) : Int) + s.1 ∧ ((cell / cols : Nat) : Int) + s.1 < rows) ∧ (0 ≤ ((cell % cols : Nat) : Int) + s.2 ∧ ((cell % cols : Nat) : Int) + s.2 < cols)
  then [((((cell / cols : Nat) : Int) + s.1) * cols + (((cell % cols : Nat) : Int) + s.2)).toNat] else []
def near (rows cols cell : Nat) : List Nat := steps.flatMap (nearStep rows cols cell)
/-- a tuple of the module's own top -/
def KTup (K : PySem.W.Frag) (a : Addr) (xs : List V) : Prop := ∃ (o : Obj) (its : Array Value) (n : Nat), K.lookup a = some o ∧ o.cls = .type "tuple" ∧ o.data = .seq its n ∧ its.size ≤ sizeLine ∧ Vals xs its.toList
structure Stp (K : PySem.W.Frag) (mg : Str → Option Value) : Prop where
  at_ : ∃ a t0 t1 t2 t3 : Addr, mg "STEPS" = some (.ref a) ∧ KTup K a [.ref t0, .ref t1, .ref t2, .ref t3] ∧ KTup K t0 [.int (-1), .int 0] ∧ KTup K t1 [.int 0, .int (-1)] ∧ KTup K t2 [.int 0, .int 1] ∧ KTup K t3 [.int 1, .int 0]
theorem stp_get {K : PySem.W.Frag} {t0 t1 t2 t3 : Addr} (k0 : KTup K t0 [.int (-1), .int 0]) (k1 : KTup K t1 [.int 0, .int (-1)]) (k2 : KTup K t2 [.int 0, .int 1]) (k3 : KTup K t3 [.int 1, .int 0]) {i : Nat} {x : V}
    (h : ([.ref t0, .ref t1, .ref t2, .ref t3] : List V)[i]? = some x) : ∃ (t : Addr) (s : Int × Int), x = .ref t ∧ steps[i]? = some s ∧ KTup K t [.int s.1, .int s.2] := by
  match i, h with
  | 0, h => cases h; exact ⟨t0, _, rfl, rfl, k0⟩
  | 1, h => cases h; exact ⟨t1, _, rfl, rfl, k1⟩
  | 2, h => cases h; exact ⟨t2, _, rfl, rfl, k2⟩
  | 3, h => cases h; exact ⟨t3, _, rfl, rfl, k3⟩
theorem steps_small {i : Nat} {s : Int × Int} (h : steps[i]? = some s) : -1 ≤ s.1 ∧ s.1 ≤ 1 ∧ -1 ≤ s.2 ∧ s.2 ≤ 1 := by
  match i, h with
  | 0, h => cases h; decide
  | 1, h => cases h; decide
  | 2, h => cases h; decide
  | 3, h => cases h; decide
theorem take_more {α : Type} : ∀ {l : List α} {i : Nat} {x : α}, l[i]? = some x → l.take (i + 1) = l.take i ++ [x]
  | [], i, x, h => by simp at h
  | a :: l, 0, x, h => by
    have e : a = x := Option.some.inj h
    subst e
    rfl
  | a :: l, i + 1, x, h => by
    have ih := take_more (l := l) (i := i) (x := x) h
    show a :: l.take (i + 1) = a :: l.take i ++ [x]
    rw [ih]
    rfl
theorem nearStep_len (rows cols cell : Nat) (s : Int × Int) : (nearStep rows cols cell s).length ≤ 1 := by
  unfold nearStep; split <;> simp
theorem near_len (rows cols cell : Nat) : ∀ l : List (Int × Int), (l.flatMap (nearStep rows cols cell)).length ≤ l.length
  | [] => by simp
  | s :: l => by
    have h1 := nearStep_len rows cols cell s
    have h2 := near_len rows cols cell l
    rw [List.flatMap_cons, List.length_append, List.length_cons]
    omega
def spBeside (C : Addr) : Sp := fun vs H Q _ => ∃ (x : Addr) (d : Ad) (r : R) (n : Nat), vs = [.ref x, vN n] ∧ Seen C H x d r ∧ n < 25 ∧ RetL (vL (near r.rows r.cols n)) H Q
theorem spl_beside {C : Addr} {H : Hp} {x : Addr} {d : Ad} {r : R} {n : Nat} (S : Seen C H x d r) (hn : n < 25) : SpL (spBeside C) [.ref x, vN n] H (vL (near r.rows r.cols n)) := fun H1 e Q q E => ⟨x, d, r, n, rfl, S.mono e, hn, fun p H2 hp e2 h2 => q p H2 hp e2 h2⟩
abbrev sBeside : Stmt := inClass (top 9) 8
theorem scBeside : FnScope ["self", "cell", "near", "down", "across", "row", "column"] ["self", "cell"] (defScope sBeside) := ⟨rfl, rfl, rfl, by decide +kernel, rfl, by decide +kernel, by decide +kernel⟩
section
variable {P : Program} {w : World} {K : PySem.W.Frag} {mg : Str → Option Value} {base : Heap} {C : Addr}
theorem ok_beside {f : Addr} {fd : FuncData} (F : Fun K "beside" "Riddle.beside" sBeside f fd) (T : RC K C) (ST : Stp K mg) : FnOk P w K mg base CX0 1 f fd ["self", "cell"] (spBeside C) := by
  refine F.ok scBeside (fun vs H Q E h => ?_) (fun cdv A outer s H vs Q E hr h => ?_)
  · obtain ⟨x, d, r, n, rfl, _⟩ := h; rfl
  · obtain ⟨a, t0, t1, t2, t3, g, ka, k0, k1, k2, k3⟩ := ST.at_
    refine ⟨_, pss_cons (ps_set (i := 2) scBeside.nd rfl (Or.inl rfl) (pe_lst pa_nil))
      (pss_cons (ps_for PassesOwn.never rfl (pi_tup (pe_glob (v := .ref a) rfl g rfl)) (pg_tup rfl (pgs_cons (pg_name (i := 3) scBeside.nd rfl (Or.inl rfl)) (pgs_cons (pg_name (i := 4) scBeside.nd rfl (Or.inl rfl)) pgs_nil)))
        (pss_cons (ps_set (i := 5) scBeside.nd rfl (Or.inl rfl) (pe_op op_add (pe_op op_fdiv (pv 1) (pe_fld (pv 0) rfl)) (pv 3)))
        (pss_cons (ps_set (i := 6) scBeside.nd rfl (Or.inl rfl) (pe_op op_add (pe_op op_mod (pv 1) (pe_fld (pv 0) rfl)) (pv 4)))
        (pss_one (ps_if (PW.pt (pw_and (pt_chain op_le op_lt pe_int (pv 5) (pe_fld (pv 0) rfl)) (pw_and1 (pt_chain op_le op_lt pe_int (pv 6) (pe_fld (pv 0) rfl)))))
          (pss_one (ps_expr (pe_bm PySem.F.plainAttrs_list PySem.F.slot_list_append PySem.F.type_list_append mt_append (pv 2) (pa_cons (pe_op op_add (pe_op op_mul (pv 5) (pe_fld (pv 0) rfl)) (pv 6)) pa_nil))))
          pss_nil)))))
      (pss_one (ps_ret (pv 2)))), ?_⟩
    obtain ⟨x, d, r, n, rfl, S, hn, k⟩ := h
    refine q_asgL (el_lst ea_nil (by decide)) fun p H1 hp e1 h1 => ?_
    refine q_forT (a := a) (xs := [.ref t0, .ref t1, .ref t2, .ref t3]) ev_c (.inr ka)
      (fun i σ' H' => ∃ v3 v4 v5 v6 : Option V, σ' = [some (.ref x), some (vN n), some (.ref p), v3, v4, v5, v6] ∧ Ex H H' ∧ H' p = some (.lst (vL ((steps.take i).flatMap (nearStep r.rows r.cols n)))))
      (fun H2 e2 => ⟨none, none, none, none, rfl, e1.trans e2, e2 _ _ h1⟩) (fun _ _ _ _ _ => .inr ka) ?_ ?_
    · rintro i y σ' H' hi ⟨v3, v4, v5, v6, rfl, e2, h2⟩
      obtain ⟨t, s, rfl, hs, kt⟩ := stp_get k0 k1 k2 k3 hi
      refine ⟨t, _, rfl, .inr kt, rfl, _, _, rfl, _, _, rfl, rfl, ?_⟩
      have S2 := S.mono e2
      have o := S.ok
      have hc : (0 : Int) < (r.cols : Int) := by have := o.c1; omega
      have hc5 := o.c5
      have hs4 := steps_small hs
      refine q_asg (v := .int (((n / r.cols : Nat) : Int) + s.1)) (ev_is (ev_op (ev_op (ev_var rfl) (ev_cols T S2 (ev_var rfl)) (rv_I ⟨hc, by omega⟩)) (ev_var rfl) rv_I0) ?_) fun H3 e3 => ?_
      · show V.int ((n : Int) / (r.cols : Int) + s.1) = _
        rw [Int.natCast_ediv]
      refine q_asg (v := .int (((n % r.cols : Nat) : Int) + s.2)) (ev_is (ev_op (ev_op (ev_var rfl) (ev_cols T (S2.mono e3) (ev_var rfl)) (rv_I hc)) (ev_var rfl) rv_I0) ?_) fun H4 e4 => ?_
      · show V.int ((n : Int) % (r.cols : Int) + s.2) = _
        rw [Int.natCast_emod]
      have e34 := e3.trans e4
      have S4 := S2.mono e34
      have hq : n / r.cols ≤ n := Nat.div_le_self _ _
      have hm : n % r.cols < r.cols := Nat.mod_lt _ o.c1
      generalize hrow : ((n / r.cols : Nat) : Int) + s.1 = row
      generalize hcol : ((n % r.cols : Nat) : Int) + s.2 = col
      have more : (steps.take (i + 1)).flatMap (nearStep r.rows r.cols n) = (steps.take i).flatMap (nearStep r.rows r.cols n) ++ nearStep r.rows r.cols n s := by
        rw [take_more hs, List.flatMap_append]; simp
      refine s_if (b := (decide ((0 : Int) ≤ row) && decide (row < (r.rows : Int))) && (decide ((0 : Int) ≤ col) && decide (col < (r.cols : Int)))) (et_and (et_test (et_chain (X := .int 0) (Y := .int row) (W := vN r.rows) (a := decide ((0 : Int) ≤ row)) (b := decide (row < (r.rows : Int))) ev_c (ev_var rfl) rv_I0 fun _ => ⟨ev_rows T S4 (ev_var rfl), rv_I0⟩))
        (fun _ => et_test (et_chain (X := .int 0) (Y := .int col) (W := vN r.cols) (a := decide ((0 : Int) ≤ col)) (b := decide (col < (r.cols : Int))) ev_c (ev_var rfl) rv_I0 fun _ => ⟨ev_cols T S4 (ev_var rfl), rv_I0⟩))) ?_ ?_
      · intro hb H5 e5
        simp only [Bool.and_eq_true, decide_eq_true_eq] at hb
        have hz : ((steps.take i).flatMap (nearStep r.rows r.cols n)).length < 100000 := by
          have h1 := near_len r.rows r.cols n (steps.take i)
          have h2 : (steps.take i).length ≤ 4 := Nat.le_trans (List.length_take_le' _ _) (by decide)
          omega
        refine s_app (xs := vL ((steps.take i).flatMap (nearStep r.rows r.cols n))) (v := .int (row * r.cols + col)) ((e34.trans e5) _ _ h2) (ev_var rfl)
          (ev_op (ev_op (ev_var rfl) (ev_cols T (S4.mono e5) (ev_var rfl)) (rv_I (.inl (by have := o.r5; constructor <;> omega)))) (ev_var rfl) rv_I0) (by rw [vL_len]; exact hz) fun H6 e6 => ?_
        refine ⟨_, _, _, _, rfl, ?_, ?_⟩
        · exact Ex.mut (((e2.trans e34).trans e5).trans e6) hp
        · rw [upd_same, more, vL_append]
          congr 3
          unfold nearStep
          rw [hrow, hcol, if_pos hb]
          have : 0 ≤ row * r.cols + col := Int.add_nonneg (Int.mul_nonneg hb.1.1 (by omega)) hb.2.1
          show [V.int _] = [V.int _]
          rw [Int.toNat_of_nonneg this]
      · intro hb H5 e5
        refine ⟨_, _, _, _, rfl, (e2.trans e34).trans e5, ?_⟩
        have hb' : ¬ ((0 ≤ row ∧ row < (r.rows : Int)) ∧ 0 ≤ col ∧ col < (r.cols : Int)) := by
          intro hc
          have : (decide (0 ≤ row) && decide (row < (r.rows : Int)) && (decide (0 ≤ col) && decide (col < (r.cols : Int)))) = true := by
            simp only [Bool.and_eq_true, decide_eq_true_eq]; exact hc
          rw [hb] at this; cases this
        have : nearStep r.rows r.cols n s = [] := by
          unfold nearStep
          rw [hrow, hcol, if_neg hb']
        rw [more, this, List.append_nil]
        exact (e34.trans e5) _ _ h2
    · rintro σ' H' ⟨v3, v4, v5, v6, rfl, e2, h2⟩
      refine s_ret (v := .ref p) (ev_var rfl) fun H3 e3 => k p H3 hp (e2.trans e3) (e3 _ _ h2)
end
end Rd
set_option linter.all false
set_option maxRecDepth 100000
set_option maxHeartbeats 2000000
namespace Rd
open PySem PySem.Spec PyProof.Rows L2 Evl
/-! ### what changes, what stays -/
/-- all that was tracked is as it was, but at some places -/
def Kept (H H' : Hp) (xs : List Addr) : Prop := ∀ b o, H b = some o → b ∉ xs → H' b = some o
theorem Kept.of_ex {H H' : Hp} {xs : List Addr} (e : Ex H H') : Kept H H' xs := fun b o h _ => e b o h
theorem Kept.trans {H H1 H2 : Hp} {xs : List Addr} (a : Kept H H1 xs) (b : Kept H1 H2 xs) : Kept H H2 xs := fun c o h hn => b c o (a c o h hn) hn
theorem Kept.set {H H' : Hp} {xs : List Addr} {a : Addr} {o : HO} (k : Kept H H' xs) (h : a ∈ xs) : Kept H (upd H' a o) xs := fun b u hb hn => by
  rw [upd_ne (by intro e; subst e; exact hn h)]
  exact k b u hb hn
theorem Kept.new {H H' : Hp} {xs : List Addr} {a : Addr} {o : HO} (k : Kept H H' xs) (h : H a = none) : Kept H (upd H' a o) xs := fun b u hb hn => by
  rw [upd_ne (by intro e; subst e; rw [h] at hb; cases hb)]
  exact k b u hb hn
theorem Kept.ex {H H1 H2 : Hp} {xs : List Addr} (k : Kept H H1 xs) (e : Ex H1 H2) : Kept H H2 xs := fun b o h hn => e b o (k b o h hn)
theorem Kept.sub {H H' : Hp} {xs ys : List Addr} (k : Kept H H' xs) (h : ∀ a ∈ xs, a ∈ ys) : Kept H H' ys := fun b o hb hn => k b o hb fun z => hn (h b z)
/-- what is free behind was free before -/
theorem Kept.free {H H' : Hp} {xs : List Addr} (k : Kept H H' xs) {a : Addr} (h : H' a = none) (hx : a ∉ xs) : H a = none := by
  cases e : H a with
  | none => rfl
  | some o => rw [k a o e hx] at h; cases h
/-- as it may be changed -/
structure Own (C : Addr) (H : Hp) (x : Addr) (d : Ad) (r : R) : Prop where
  seen : Seen C H x d r
  nu : H d.na = some (.dK (kvN r.nums))
theorem Own.mono {C : Addr} {H H' : Hp} {x : Addr} {d : Ad} {r : R} (e : Ex H H') (S : Own C H x d r) : Own C H' x d r := ⟨S.seen.mono e, e _ _ S.nu⟩
structure Moved (H : Hp) (d d' : Ad) : Prop where
  L : d'.L = d.L
  dx : d'.dx = d.dx
  wd : d'.wd = d.wd
  ba : d'.ba = d.ba ∨ H d'.ba = none
  na : d'.na = d.na ∨ H d'.na = none
theorem Moved.refl (H : Hp) (d : Ad) : Moved H d d := ⟨rfl, rfl, rfl, .inl rfl, .inl rfl⟩
/-- behind a deed: the riddle is r', the answer is told -/
def Aft (C : Addr) (H : Hp) (x : Addr) (d : Ad) (r' : R) (ans : List Int) (Q : VK) : Prop :=
  ∀ (H' : Hp) (d' : Ad) (p : Addr), Kept H H' [x, d.ba, d.na] → Own C H' x d' r' → Moved H d d' → H' p = some (.lst (ans.map V.int)) → Q (.ref p) H'
theorem Aft.ex {C : Addr} {H H1 : Hp} {x : Addr} {d : Ad} {r' : R} {ans : List Int} {Q : VK} (k : Aft C H x d r' ans Q) (e : Ex H H1) : Aft C H1 x d r' ans Q := fun H' d' p k1 o m h =>
  k H' d' p (fun b o hb hn => k1 b o (e b o hb) hn) o ⟨m.L, m.dx, m.wd, m.ba.imp_right (fresh_back e), m.na.imp_right (fresh_back e)⟩ h
theorem Aft.same {C : Addr} {H H' : Hp} {x : Addr} {d : Ad} {r : R} {ans : List Int} {Q : VK} (k : Aft C H x d r ans Q) (O : Own C H x d r) (e : Ex H H') {p : Addr} (h : H' p = some (.lst (ans.map V.int))) : Q (.ref p) H' :=
  k H' d p (.of_ex e) (O.mono e) (.refl H d) h
/-! ### the numbers that are told -/
def oV : Option Nat → V
  | none => .non
  | some v => vN v
def tellM (nums : List (Nat × Nat)) (n : Nat) : Option Nat → List (Nat × Nat)
  | none => nums.filter fun p => p.1 != n
  | some v => if (nums.any fun p => p.1 == n) = true then nums.map (fun p => if p.1 = n then (p.1, v) else p) else nums ++ [(n, v)]
theorem key_eq (a b : Nat) : decide ((Sum.inl (a : Int) : L2.Key) = Sum.inl (b : Int)) = (a == b) := by
  rw [key_ll]
  by_cases e : a = b
  · subst e; simp
  · have : ¬ ((a : Int) = (b : Int)) := by omega
    have h1 : ((a : Int) == (b : Int)) = false := by simpa using this
    have h2 : (a == b) = false := by simpa using e
    rw [h1, h2]
theorem kvN_drop (nums : List (Nat × Nat)) (n : Nat) : dropK (kvN nums) (Sum.inl (n : Int)) = kvN (tellM nums n none) := by
  unfold dropK kvN tellM
  rw [List.filter_map]
  congr 1
  apply List.filter_congr
  intro p _
  have := key_eq p.1 n
  show decide ((Sum.inl (p.1 : Int) : L2.Key) ≠ Sum.inl (n : Int)) = (p.1 != n)
  rw [bne, ← this]
  exact decide_not ..
theorem kvN_put (nums : List (Nat × Nat)) (n v : Nat) : putK (kvN nums) (Sum.inl (n : Int)) (vN v) = kvN (tellM nums n (some v)) := by
  unfold putK tellM
  have e : (kvN nums).any (fun kv => decide (kv.1 = Sum.inl (n : Int))) = nums.any fun p => p.1 == n := by
    unfold kvN
    rw [List.any_map]
    congr 1
    funext p
    exact key_eq p.1 n
  rw [e]
  split
  · unfold kvN
    rw [List.map_map, List.map_map]
    apply List.map_congr_left
    intro p _
    simp only [Function.comp]
    have h := key_eq p.1 n
    by_cases c : p.1 = n
    · rw [if_pos c, if_pos (by rw [c])]
    · rw [if_neg c, if_neg]
      intro q
      have : (p.1 == n) = false := by simpa using c
      rw [this] at h
      exact absurd q (of_decide_eq_false h)
  · unfold kvN; rw [List.map_append]; rfl
theorem kvN_get (nums : List (Nat × Nat)) (n : Nat) : valV (kvN nums) (Sum.inl (n : Int)) = (nums.lookup n).map vN := by
  induction nums with
  | nil => rfl
  | cons p r ih =>
    have h := key_eq p.1 n
    by_cases c : p.1 = n
    · rw [show kvN (p :: r) = ((Sum.inl (p.1 : Int), vN p.2) : L2.Key × V) :: kvN r from rfl, valV_pos (by rw [c])]
      rw [List.lookup_cons, show (n == p.1) = true by simpa using c.symm]; rfl
    · have e : (p.1 == n) = false := by simpa using c
      rw [show kvN (p :: r) = ((Sum.inl (p.1 : Int), vN p.2) : L2.Key × V) :: kvN r from rfl, valV_neg (by intro q; rw [e] at h; exact absurd q (of_decide_eq_false h)), ih]
      rw [List.lookup_cons, show (n == p.1) = false by simpa using fun q => c q.symm]
theorem kvN_len (nums : List (Nat × Nat)) : (kvN nums).length = nums.length := List.length_map ..
theorem lookup_none_filter (nums : List (Nat × Nat)) (n : Nat) (h : nums.lookup n = none) : tellM nums n none = nums := by
  unfold tellM
  rw [List.filter_eq_self]
  intro p hp
  rw [bne_iff_ne]
  intro e
  rw [List.lookup_eq_none_iff] at h
  have := h p hp
  rw [e] at this
  simp at this
/-- tell: the table behind -/
def spTell (C : Addr) : Sp := fun vs H Q _ => ∃ (x dx na : Addr) (fs : List (Str × V)) (n : Nat) (o : Option Nat) (nums : List (Nat × Nat)), vs = [.ref x, vN n, oV o] ∧
  H x = some (.ins C dx fs) ∧ fs.lookup ("numbers" : Str) = some (.ref na) ∧ H na = some (.dK (kvN nums)) ∧ nums.length < 1000 ∧
  ∀ H', Kept H H' [na] → H' na = some (.dK (kvN (tellM nums n o))) → Q .non H'
abbrev sTell : Stmt := inClass (top 9) 5
theorem scTell : FnScope ["self", "number", "value"] ["self", "number", "value"] (defScope sTell) := ⟨rfl, rfl, rfl, by decide +kernel, rfl, by decide +kernel, by decide +kernel⟩
section
variable {P : Program} {w : World} {K : PySem.W.Frag} {mg : Str → Option Value} {base : Heap} {C : Addr}
theorem ok_tell {f : Addr} {fd : FuncData} (F : Fun K "tell" "Riddle.tell" sTell f fd) (T : RC K C) : FnOk P w K mg base CX0 1 f fd ["self", "number", "value"] (spTell C) := by
  refine F.ok scTell (fun vs H Q E h => ?_) (fun cdv A outer s H vs Q E hr h => ?_)
  · obtain ⟨x, dx, na, fs, n, o, nums, rfl, _⟩ := h; rfl
  · refine ⟨_, pss_one (ps_if (pt_cmpR op_isN (pv 2) pe_non (nomark _))
      (pss_one (ps_expr (pe_dpop2 (pe_fld (pv 0) rfl) (pv 1) pe_non ⟨rfl, rfl, rfl, rfl⟩)))
      (pss_one (ps_dput (hu_of hr) (pe_fld (pv 0) rfl) (pv 1) (pv 2) rfl))), ?_⟩
    obtain ⟨x, dx, na, fs, n, o, nums, rfl, hx, lk, hn, hl, k⟩ := h
    cases o with
    | none =>
      refine ⟨_, rfl, rfl, _, rfl, iteT ?_⟩
      refine ⟨_, rfl, x, C, dx, _, _, rfl, hx, T.cl, T.n6, lk, na, rfl, .inl ⟨_, .inl hn⟩, _, rfl, _, Sum.inl (n : Int), hn, rfl, fun v hv => ?_, fun hv => ?_⟩
      · rw [kvN_drop]
        exact k _ (fun b o hb hn => by rw [upd_ne (by intro e; exact hn (by rw [e]; exact List.mem_cons_self))]; exact hb) upd_same
      · rw [kvN_get] at hv
        refine k _ (fun b o hb _ => hb) ?_
        rw [lookup_none_filter nums n (by simpa using hv)]
        exact hn
    | some v =>
      refine ⟨_, rfl, rfl, _, rfl, iteF ?_⟩
      refine ⟨_, rfl, _, rfl, x, C, dx, _, _, rfl, hx, T.cl, T.n6, lk, _, rfl, na, _, rfl, DPut.k (k := Sum.inl (n : Int)) hn (by rw [kvN_len]; exact small1000 (Nat.le_of_lt hl)), ?_⟩
      rw [show oV (some v) = vN v from rfl, kvN_put]
      exact k _ (fun b o hb hn => by rw [upd_ne (by intro e; exact hn (by rw [e]; exact List.mem_cons_self))]; exact hb) upd_same
end
end Rd
set_option linter.all false
set_option maxRecDepth 100000
set_option maxHeartbeats 2000000
namespace Rd
open PySem PySem.Spec PyProof.Rows L2 Evl
theorem vL_ints (l : List Nat) : vL l = (l.map fun n : Nat => (n : Int)).map V.int := by unfold vL; rw [List.map_map]; rfl
theorem ins_inj {C C' dx dx' : Addr} {fs fs' : List (Str × V)} (h : HO.ins C dx fs = HO.ins C' dx' fs') : fs = fs' := by cases h; rfl
theorem erase_filter : ∀ {l : List Nat} {j n : Nat}, l.Nodup → l[j]? = some n → l.eraseIdx j = l.filter fun y => y != n
  | [], j, n, _, h => by simp at h
  | a :: l, 0, n, hd, h => by
    have e : a = n := Option.some.inj h
    subst e
    have := List.nodup_cons.mp hd
    rw [List.eraseIdx_zero, List.filter_cons]
    simp only [bne_self_eq_false, Bool.false_eq_true, if_false, List.tail_cons]
    symm
    rw [List.filter_eq_self]
    intro y hy
    rw [bne_iff_ne]; intro e; subst e; exact this.1 hy
  | a :: l, j + 1, n, hd, h => by
    have hd := List.nodup_cons.mp hd
    have h' : l[j]? = some n := h
    rw [List.eraseIdx_cons_succ, erase_filter hd.2 h', List.filter_cons, if_pos]
    rw [bne_iff_ne]; intro e; subst e; exact hd.1 (List.mem_of_getElem? h')
theorem map_erase {A B : Type} (f : A → B) : ∀ (l : List A) (j : Nat), (l.map f).eraseIdx j = (l.eraseIdx j).map f
  | [], _ => rfl
  | a :: l, 0 => rfl
  | a :: l, j + 1 => by rw [List.map_cons, List.eraseIdx_cons_succ, List.eraseIdx_cons_succ, map_erase f l j]; rfl
/-- a list's method as a statement -/
theorem q_bm {K : PySem.W.Frag} {σ : L2.St} {H : Hp} {D : Ends} {tz : TS} {ta te : TE} {rr : V → List V → Hp → VK → Prop} {l : Addr} {xs : List V} {v : V} (ha : Ev ta σ H (.ref l)) (hl : H l = some (.lst xs)) (h : Ev te σ H v)
    (k : ∀ H1, Ex H H1 → rr (.ref l) [v] H1 fun _ H2 => tz D σ H2) : tSeq (tDrop (tBM K "list" rr ta (tCons te tNil))) tz D σ H := ha H (Ex.refl H) _ fun H1 e1 =>
  ⟨Or.inl ⟨rfl, xs, sq_of (e1 l _ hl)⟩, h H1 e1 _ fun H2 e2 => k H2 (e1.trans e2)⟩
/-! ### unblock -/
def unblockM (r : R) (n : Nat) : R × List Int :=
  if r.rows * r.cols ≤ n then (r, [-2]) else if r.bl.contains n = false then (r, [-4]) else ({ r with bl := r.bl.filter fun y => y != n }, [((r.bl.length - 1 : Nat) : Int)])
def spUnblock (C : Addr) : Sp := fun vs H Q _ => ∃ (x : Addr) (d : Ad) (r : R) (n : Nat), vs = [.ref x, vN n] ∧ Own C H x d r ∧ Aft C H x d (unblockM r n).1 (unblockM r n).2 Q
abbrev sUnblock : Stmt := inClass (top 9) 4
theorem scUnblock : FnScope ["self", "cell"] ["self", "cell"] (defScope sUnblock) := ⟨rfl, rfl, rfl, by decide +kernel, rfl, by decide +kernel, by decide +kernel⟩
section
variable {P : Program} {w : World} {K : PySem.W.Frag} {mg : Str → Option Value} {base : Heap} {C : Addr}
theorem ok_unblock {f : Addr} {fd : FuncData} (F : Fun K "unblock" "Riddle.unblock" sUnblock f fd) (T : RC K C) (gL : mg "len" = none) (c2 : KInt mg "NO_SUCH" (-2)) (c4 : KInt mg "NOT_AS_IT_IS" (-4)) (mS : Mt P w K mg base C 1 "size" ["self"] (spSize C)) :
    FnOk P w K mg base CX0 2 f fd ["self", "cell"] (spUnblock C) := by
  refine F.ok scUnblock (fun vs H Q E h => ?_) (fun cdv A outer s H vs Q E hr h => ?_)
  · obtain ⟨x, d, r, n, rfl, _⟩ := h; rfl
  · obtain ⟨fs, fds, MS, GS, BS⟩ := mS
    obtain ⟨t2, c2⟩ := c2
    obtain ⟨t4, c4⟩ := c4
    refine ⟨_, pss_cons (ps_if (pt_cmpR op_ge (pv 1) (pe_meth0 (pv 0) T.cl MS GS hr BS .nil pass0) (nomark _)) (pss_one (ps_ret (pe_lst (pa_cons (pe_glob (v := .int (-2)) rfl c2 ⟨_, rfl⟩) pa_nil)))) pss_nil)
      (pss_cons (ps_if (pt_cmpR op_notIn_seq (pv 1) (pe_fld (pv 0) rfl) (by rfl)) (pss_one (ps_ret (pe_lst (pa_cons (pe_glob (v := .int (-4)) rfl c4 ⟨_, rfl⟩) pa_nil)))) pss_nil)
      (pss_cons (ps_expr (pe_bm PySem.F.plainAttrs_list PySem.F.slot_list_remove PySem.F.type_list_remove mt_remove (pe_fld (pv 0) rfl) (pa_cons (pv 1) pa_nil)))
      (pss_one (ps_ret (pe_lst (pa_cons (pe_callB call_len_seq (by rfl) gL PySem.boot_len (pa_cons (pe_fld (pv 0) rfl) pa_nil)) pa_nil)))))), ?_⟩
    obtain ⟨x, d, r, n, rfl, O, k⟩ := h
    have S := O.seen
    have z1 : ([V.int (-2)] : List V).length ≤ 100000 := by decide
    have z2 : ([V.int (-4)] : List V).length ≤ 100000 := by decide
    refine q_when (b := decide (((r.rows * r.cols : Nat) : Int) ≤ (n : Int))) (et_test (ev_op (ev_var rfl) (ev_meth (ev_var rfl) S.ins (rF_no d r (by decide +kernel)) ea_nil (spv_size S)) rv_I0)) (fun hb H1 e1 => ?_) (fun hb H1 e1 => ?_)
    · have hb : r.rows * r.cols ≤ n := Int.ofNat_le.mp (of_decide_eq_true hb)
      rw [unblockM, if_pos hb] at k
      exact s_retL (el_lst (ea_cons ev_c ea_nil) z1) fun p H2 _ e2 h2 => k.same O (e1.trans e2) h2
    have hb : ¬ r.rows * r.cols ≤ n := fun z => of_decide_eq_false hb (Int.ofNat_le.mpr z)
    have S1 := S.mono e1
    refine q_when (b := !r.bl.contains n) (et_test (ev_is (ev_op (ev_var rfl) (ev_blk T S1 (ev_var rfl)) (rv_niL (sq_of S1.bl) rfl (flat_vL _))) (by rw [inV_vL]))) (fun hb2 H2 e2 => ?_) (fun hb2 H2 e2 => ?_)
    · have hb2 : r.bl.contains n = false := by simpa using hb2
      rw [unblockM, if_neg hb, if_pos hb2] at k
      exact s_retL (el_lst (ea_cons ev_c ea_nil) z2) fun p H3 _ e3 h3 => k.same O ((e1.trans e2).trans e3) h3
    have hb2 : r.bl.contains n = true := by simpa using hb2
    rw [unblockM, if_neg hb, if_neg (by rw [hb2]; decide)] at k
    have e12 := e1.trans e2
    have S2 := S.mono e12
    have hm : n ∈ r.bl := by simpa using hb2
    obtain ⟨j, hj, hjn⟩ := List.getElem_of_mem hm
    have hj2 : r.bl[j]? = some n := by rw [List.getElem?_eq_getElem hj, hjn]
    refine q_bm (l := d.ba) (xs := vL r.bl) (v := vN n) (ev_blk T S2 (ev_var rfl)) S2.bl (ev_var rfl) fun H3 e3 => ?_
    have O3 := O.mono (e12.trans e3)
    have S3 := O3.seen
    have hne : x ≠ d.ba := ne_of S3.ins S3.bl (by intro z; cases z)
    have hnn : d.na ≠ d.ba := ne_of O3.nu S3.bl (by intro z; cases z)
    refine ⟨d.ba, r.bl.map fun n : Nat => (n : Int), (n : Int), j, rfl, rfl, by rw [← vL_ints]; exact S3.bl, by rw [List.getElem?_map, hj2]; rfl, ?_, ?_⟩
    · intro m hm' h
      rw [List.getElem?_map] at h
      cases e : r.bl[m]? with
      | none => rw [e] at h; cases h
      | some z =>
        rw [e] at h
        have hz : z = n := by have h0 : (z : Int) = (n : Int) := Option.some.inj h; omega
        obtain ⟨h1, h1'⟩ := List.getElem?_eq_some_iff.mp e
        have := (List.getElem_inj S.ok.nd).mp (h1'.trans (hz.trans hjn.symm))
        omega
    · rw [map_erase, ← vL_ints, erase_filter S.ok.nd hj2]
      have ok' : ({ r with bl := r.bl.filter fun y => y != n } : R).Ok := ⟨S.ok.r1, S.ok.r5, S.ok.c1, S.ok.c5, S.ok.nd.filter _, fun y hy => S.ok.cells y (List.mem_filter.mp hy).1, S.ok.keys, S.ok.low⟩
      have O4 : Own C (upd H3 d.ba (.lst (vL (r.bl.filter fun y => y != n)))) x d { r with bl := r.bl.filter fun y => y != n } :=
        ⟨⟨ok', by rw [upd_ne hne]; exact S3.ins, upd_same, .inl (by rw [upd_ne hnn]; exact O3.nu)⟩, by rw [upd_ne hnn]; exact O3.nu⟩
      refine s_retL (el_lst (ea_cons (ev_len (ev_blk T O4.seen (ev_var rfl)) (sq_of upd_same)) ea_nil) (by simp)) fun p H4 _ e4 h4 => ?_
      refine k H4 d p ((Kept.set (.of_ex (e12.trans e3)) (by simp)).ex e4) (O4.mono e4) (.refl H d) ?_
      rw [h4, vL_len]
      congr 4
      rw [← erase_filter S.ok.nd hj2, List.length_eraseIdx_of_lt hj]
end
end Rd
set_option linter.all false
set_option maxRecDepth 100000
set_option maxHeartbeats 2000000
namespace Rd
open PySem PySem.Spec PyProof.Rows L2 Evl
theorem rF_put_rows (d : Ad) (r : R) (a : Nat) : putF "rows" (vN a) (rF d r) = rF d { r with rows := a } := (put_past (by decide +kernel)).trans (congrArg _ ((put_past (by decide +kernel)).trans (congrArg _ put_here)))
theorem rF_put_cols (d : Ad) (r : R) (a : Nat) : putF "columns" (vN a) (rF d r) = rF d { r with cols := a } := (put_past (by decide +kernel)).trans (congrArg _ ((put_past (by decide +kernel)).trans (congrArg _ ((put_past (by decide +kernel)).trans (congrArg _ put_here)))))
theorem rF_put_blk (d : Ad) (r : R) (a : Addr) : putF "blocked" (.ref a) (rF d r) = rF { d with ba := a } r := (put_past (by decide +kernel)).trans (congrArg _ ((put_past (by decide +kernel)).trans (congrArg _ ((put_past (by decide +kernel)).trans (congrArg _ ((put_past (by decide +kernel)).trans (congrArg _ put_here)))))))
theorem rF_put_num (d : Ad) (r : R) (a : Addr) : putF "numbers" (.ref a) (rF d r) = rF { d with na := a } r := (put_past (by decide +kernel)).trans (congrArg _ ((put_past (by decide +kernel)).trans (congrArg _ ((put_past (by decide +kernel)).trans (congrArg _ ((put_past (by decide +kernel)).trans (congrArg _ ((put_past (by decide +kernel)).trans (congrArg _ put_here)))))))))
theorem rF_len (d : Ad) (r : R) : (rF d r).length < 1000 := by show 6 < 1000; decide
section
variable {σ : L2.St} {H : Hp} {D : Ends} {tz : TS} {ta tv : TE} {K : PySem.W.Frag} {a C dx : Addr} {fs : List (Str × V)} {f : Str} {v : V}
theorem q_fld (hv : Ev tv σ H v) (ha : Ev ta σ H (.ref a)) (ho : H a = some (.ins C dx fs)) (c : Cls K C) (n : NoAttr K C f) (hl : fs.length < 1000) (k : ∀ H1, Ex H H1 → tz D σ (upd H1 a (.ins C dx (putF f v fs)))) : tSeq (sFld K ta tv f) tz D σ H :=
  hv H (Ex.refl H) _ fun H1 e1 => ha H1 e1 _ fun H2 e2 => ⟨a, C, dx, fs, rfl, e2 _ _ (e1 _ _ ho), c, n, hl, k H2 (e1.trans e2)⟩
theorem q_fldL {xs : List V} (hv : EvL tv σ H xs) (ha : Ev ta σ H (.ref a)) (ho : H a = some (.ins C dx fs)) (c : Cls K C) (n : NoAttr K C f) (hl : fs.length < 1000)
    (k : ∀ p H1, H p = none → Ex H H1 → H1 p = some (.lst xs) → tz D σ (upd H1 a (.ins C dx (putF f (.ref p) fs)))) : tSeq (sFld K ta tv f) tz D σ H :=
  hv H (Ex.refl H) _ fun p H1 hp e1 h1 => ha H1 e1 _ fun H2 e2 => ⟨a, C, dx, fs, rfl, e2 _ _ (e1 _ _ ho), c, n, hl, k p H2 hp (e1.trans e2) (e2 _ _ h1)⟩
theorem q_fldD (ha : Ev ta σ H (.ref a)) (ho : H a = some (.ins C dx fs)) (c : Cls K C) (n : NoAttr K C f) (hl : fs.length < 1000)
    (k : ∀ p H1, H p = none → Ex H H1 → H1 p = some (.dK []) → tz D σ (upd H1 a (.ins C dx (putF f (.ref p) fs)))) : tSeq (sFld K ta tDNewK f) tz D σ H :=
  fun p hp => ha _ (Ex.new hp) _ fun H2 e2 => ⟨a, C, dx, fs, rfl, e2 _ _ (Ex.new hp _ _ ho), c, n, hl, k p H2 hp ((Ex.new hp).trans e2) (e2 _ _ upd_same)⟩
end
/-- nothing is lost -/
def Grows (H H' : Hp) : Prop := ∀ q, H' q = none → H q = none
theorem Grows.of_ex {H H' : Hp} (e : Ex H H') : Grows H H' := fun q h => fresh_back e h
theorem Grows.set {H H' : Hp} {a : Addr} {o : HO} (g : Grows H H') : Grows H (upd H' a o) := fun q h => by
  by_cases e : q = a
  · rw [e, upd_same] at h; cases h
  · rw [upd_ne e] at h; exact g q h
theorem Grows.trans {H H1 H2 : Hp} (a : Grows H H1) (b : Grows H1 H2) : Grows H H2 := fun q h => a q (b q h)
theorem Grows.ex {H H1 H2 : Hp} (a : Grows H H1) (e : Ex H1 H2) : Grows H H2 := a.trans (.of_ex e)
theorem ne_fresh {H : Hp} {a q : Addr} {o : HO} (h : upd H a o q = none) : q ≠ a := fun e => by rw [e, upd_same] at h; cases h
theorem ok_new {a b : Nat} (h1 : 1 ≤ a) (h2 : a ≤ 5) (h3 : 1 ≤ b) (h4 : b ≤ 5) : (⟨a, b, [], []⟩ : R).Ok := ⟨h1, h2, h3, h4, by simp, by simp, by simp, by simp⟩
/-! ### begins -/
def beginsM (L : Nat) (r : R) (a b : Nat) : R × List Int := if 1 ≤ a ∧ a ≤ L ∧ 1 ≤ b ∧ b ≤ L then (⟨a, b, [], []⟩, [((a * b : Nat) : Int)]) else (r, [-1])
def spBegins (C : Addr) : Sp := fun vs H Q _ => ∃ (x : Addr) (d : Ad) (r : R) (L a b : Nat), vs = [.ref x, vN a, vN b] ∧ Own C H x d r ∧ d.L = (L : Int) ∧ L ≤ 5 ∧ Aft C H x d (beginsM L r a b).1 (beginsM L r a b).2 Q
abbrev sBegins : Stmt := inClass (top 9) 3
theorem scBegins : FnScope ["self", "rows", "columns"] ["self", "rows", "columns"] (defScope sBegins) := ⟨rfl, rfl, rfl, by decide +kernel, rfl, by decide +kernel, by decide +kernel⟩
section
variable {P : Program} {w : World} {K : PySem.W.Frag} {mg : Str → Option Value} {base : Heap} {C : Addr}
theorem ok_begins {f : Addr} {fd : FuncData} (F : Fun K "begins" "Riddle.begins" sBegins f fd) (T : RC K C) (c1 : KInt mg "BAD_VALUE" (-1)) (mS : Mt P w K mg base C 1 "size" ["self"] (spSize C)) :
    FnOk P w K mg base CX0 2 f fd ["self", "rows", "columns"] (spBegins C) := by
  refine F.ok scBegins (fun vs H Q E h => ?_) (fun cdv A outer s H vs Q E hr h => ?_)
  · obtain ⟨x, d, r, L, a, b, rfl, _⟩ := h; rfl
  · obtain ⟨fs, fds, MS, GS, BS⟩ := mS
    obtain ⟨t1, c1⟩ := c1
    refine ⟨_, pss_cons (ps_if (pt_not (PW.pt (pw_and (pt_chain op_le op_le pe_int (pv 1) (pe_fld (pv 0) rfl)) (pw_and1 (pt_chain op_le op_le pe_int (pv 2) (pe_fld (pv 0) rfl))))))
        (pss_one (ps_ret (pe_lst (pa_cons (pe_glob (v := .int (-1)) rfl c1 ⟨_, rfl⟩) pa_nil)))) pss_nil)
      (pss_cons (ps_fld (pv 0) (pv 1) rfl) (pss_cons (ps_fld (pv 0) (pv 2) rfl) (pss_cons (ps_fld (pv 0) (pe_lst pa_nil) rfl) (pss_cons (ps_fld (pv 0) pe_dnewK rfl)
      (pss_one (ps_ret (pe_lst (pa_cons (pe_meth0 (pv 0) T.cl MS GS hr BS .nil pass0) pa_nil)))))))), ?_⟩
    obtain ⟨x, d, r, L, a, b, rfl, O, hL, h5, k⟩ := h
    have S := O.seen
    have evL : ∀ H1, Ex H H1 → Ev (tFld K (tVar 0) "longest") [some (.ref x), some (vN a), some (vN b)] H1 (.int (L : Int)) := fun H1 e => by
      have := ev_fld (σ := [some (V.ref x), some (vN a), some (vN b)]) (ta := tVar 0) (ev_var rfl) (S.mono e).ins T.cl T.n1 (rF_longest d r)
      rw [hL] at this
      exact this
    refine q_when (b := !((decide ((1 : Int) ≤ (a : Int)) && decide ((a : Int) ≤ (L : Int))) && (decide ((1 : Int) ≤ (b : Int)) && decide ((b : Int) ≤ (L : Int)))))
      (et_not (et_and (et_test (et_chain (X := .int 1) (Y := vN a) (W := .int (L : Int)) ev_c (ev_var rfl) rv_I0 fun _ => ⟨evL H (Ex.refl H), rv_I0⟩))
        fun _ => et_test (et_chain (X := .int 1) (Y := vN b) (W := .int (L : Int)) ev_c (ev_var rfl) rv_I0 fun _ => ⟨evL H (Ex.refl H), rv_I0⟩))) (fun hb H1 e1 => ?_) (fun hb H1 e1 => ?_)
    · have hb : ¬ (1 ≤ a ∧ a ≤ L ∧ 1 ≤ b ∧ b ≤ L) := by
        rintro ⟨h1, h2, h3, h4⟩
        have g1 : (1 : Int) ≤ (a : Int) := by omega
        have g2 : (a : Int) ≤ (L : Int) := by omega
        have g3 : (1 : Int) ≤ (b : Int) := by omega
        have g4 : (b : Int) ≤ (L : Int) := by omega
        simp [g1, g2, g3, g4] at hb
      rw [beginsM, if_neg hb] at k
      exact s_retL (el_lst (ea_cons ev_c ea_nil) (by simp)) fun p H2 _ e2 h2 => k.same O (e1.trans e2) h2
    · have hb : 1 ≤ a ∧ a ≤ L ∧ 1 ≤ b ∧ b ≤ L := by
        simp only [Bool.not_eq_false', Bool.and_eq_true, decide_eq_true_eq] at hb
        omega
      rw [beginsM, if_pos hb] at k
      have S1 := S.mono e1
      refine q_fld (v := vN a) (ev_var rfl) (ev_var rfl) S1.ins T.cl T.n3 (rF_len d r) fun H2 e2 => ?_
      rw [rF_put_rows]
      refine q_fld (v := vN b) (ev_var rfl) (ev_var rfl) upd_same T.cl T.n4 (rF_len d _) fun H3 e3 => ?_
      rw [rF_put_cols]
      refine q_fldL (el_lst ea_nil (by simp)) (ev_var rfl) upd_same T.cl T.n5 (rF_len d _) fun pb H4 hpb e4 h4 => ?_
      rw [rF_put_blk]
      refine q_fldD (ev_var rfl) upd_same T.cl T.n6 (rF_len _ _) fun pn H5 hpn e5 h5' => ?_
      rw [rF_put_num]
      have g2 : Grows H (upd H2 x (.ins C d.dx (rF d { r with rows := a }))) := (Grows.of_ex (e1.trans e2)).set
      have g3 := (g2.ex e3).set (a := x) (o := .ins C d.dx (rF d { r with rows := a, cols := b }))
      have fb : H pb = none := g3 pb hpb
      have g4 := (g3.ex e4).set (a := x) (o := .ins C d.dx (rF { d with ba := pb } { r with rows := a, cols := b }))
      have fn : H pn = none := g4 pn hpn
      have bx : pb ≠ x := ne_fresh hpb
      have nx : pn ≠ x := ne_fresh hpn
      have hb5 : H5 pb = some (.lst []) := e5 _ _ (by rw [upd_ne bx]; exact h4)
      have kk : Kept H (upd H5 x (.ins C d.dx (rF { d with ba := pb, na := pn } { r with rows := a, cols := b }))) [x, d.ba, d.na] :=
        ((((((Kept.of_ex (e1.trans e2)).set (a := x) (by simp)).ex e3).set (a := x) (by simp)).ex e4).set (a := x) (by simp)).ex e5 |>.set (by simp)
      have O6 : Own C (upd H5 x (.ins C d.dx (rF { d with ba := pb, na := pn } { r with rows := a, cols := b }))) x { d with ba := pb, na := pn } ⟨a, b, [], []⟩ :=
        ⟨⟨ok_new hb.1 (by omega) hb.2.2.1 (by omega), upd_same, by rw [upd_ne bx]; exact hb5, .inl (by rw [upd_ne nx]; exact h5')⟩, by rw [upd_ne nx]; exact h5'⟩
      refine s_retL (el_lst (ea_cons (ev_meth (ev_var rfl) O6.seen.ins (rF_no _ _ (by decide +kernel)) ea_nil (spv_size O6.seen)) ea_nil) (by simp)) fun p H7 _ e7 h7 => ?_
      exact k H7 { d with ba := pb, na := pn } p (kk.ex e7) (O6.mono e7) ⟨rfl, rfl, rfl, .inr fb, .inr fn⟩ h7
end
end Rd
set_option linter.all false
set_option maxRecDepth 100000
set_option maxHeartbeats 2000000
namespace Rd
open PySem PySem.Spec PyProof.Rows L2 Evl
/-! ### a list of lists -/
def LLs (H : Hp) (as : List Addr) (xss : List (List Nat)) : Prop := Paired (fun (a : Addr) (xs : List Nat) => H a = some (.lst (vL xs))) as xss
/-- v is a list of these lists -/
def IsLL (xss : List (List Nat)) : V → Hp → Prop := fun v H => ∃ (p : Addr) (as : List Addr), v = .ref p ∧ H p = some (.lst (as.map V.ref)) ∧ LLs H as xss
theorem Paired.get {α β : Type} {R : α → β → Prop} : ∀ {l : List α} {m : List β}, Paired R l m → ∀ {i : Nat} {a : α}, l[i]? = some a → ∃ b, m[i]? = some b ∧ R a b
  | _, _, .nil, i, a, h => by simp at h
  | _, _, .cons r t, 0, a, h => by
    have e := Option.some.inj h
    subst e
    exact ⟨_, rfl, r⟩
  | _, _, .cons r t, i + 1, a, h => by
    obtain ⟨b, h1, h2⟩ := Paired.get t (i := i) (a := a) h
    exact ⟨b, h1, h2⟩
theorem Paired.get' {α β : Type} {R : α → β → Prop} : ∀ {l : List α} {m : List β}, Paired R l m → ∀ {i : Nat} {b : β}, m[i]? = some b → ∃ a, l[i]? = some a ∧ R a b
  | _, _, .nil, i, a, h => by simp at h
  | _, _, .cons r t, 0, a, h => by
    have e := Option.some.inj h
    subst e
    exact ⟨_, rfl, r⟩
  | _, _, .cons r t, i + 1, a, h => by
    obtain ⟨b, h1, h2⟩ := Paired.get' t (i := i) (b := a) h
    exact ⟨b, h1, h2⟩
theorem Paired.snoc {α β : Type} {R : α → β → Prop} : ∀ {l : List α} {m : List β} {a : α} {b : β}, Paired R l m → R a b → Paired R (l ++ [a]) (m ++ [b])
  | _, _, _, _, .nil, h => .cons h .nil
  | _, _, _, _, .cons r t, h => .cons r (Paired.snoc t h)
theorem Paired.imp {α β : Type} {R S : α → β → Prop} (h : ∀ a b, R a b → S a b) : ∀ {l : List α} {m : List β}, Paired R l m → Paired S l m
  | _, _, .nil => .nil
  | _, _, .cons r t => .cons (h _ _ r) (Paired.imp h t)
theorem Paired.len {α β : Type} {R : α → β → Prop} : ∀ {l : List α} {m : List β}, Paired R l m → l.length = m.length
  | _, _, .nil => rfl
  | _, _, .cons _ t => by rw [List.length_cons, List.length_cons, Paired.len t]
theorem Paired.erase {α β : Type} {R : α → β → Prop} : ∀ {l : List α} {m : List β} (j : Nat), Paired R l m → Paired R (l.eraseIdx j) (m.eraseIdx j)
  | _, _, _, .nil => .nil
  | _, _, 0, .cons _ t => t
  | _, _, j + 1, .cons r t => .cons r (Paired.erase j t)
theorem LLs.mono {H H' : Hp} {as : List Addr} {xss : List (List Nat)} (e : Ex H H') (h : LLs H as xss) : LLs H' as xss := Paired.imp (fun a xs q => e a _ q) h
theorem LLs.upd {H : Hp} {as : List Addr} {xss : List (List Nat)} {p : Addr} {o : HO} (h : LLs H as xss) (hp : p ∉ as) : LLs (upd H p o) as xss := by
  induction h with
  | nil => exact .nil
  | cons r t ih =>
    refine .cons ?_ (ih fun z => hp (List.mem_cons_of_mem _ z))
    rw [upd_ne (fun e => hp (by rw [← e]; exact List.mem_cons_self))]
    exact r
theorem IsLL.mono {xss : List (List Nat)} {v : V} {H H' : Hp} (e : Ex H H') (h : IsLL xss v H) : IsLL xss v H' := by
  obtain ⟨p, as, e1, h1, h2⟩ := h
  exact ⟨p, as, e1, e _ _ h1, h2.mono e⟩

def castL (l : List Nat) : List Int := l.map fun n : Nat => (n : Int)
theorem castL_inj {a b : List Nat} : castL a = castL b ↔ a = b := by
  constructor
  · intro h
    induction a generalizing b with
    | nil => cases b with
      | nil => rfl
      | cons y b => cases h
    | cons x a ih => cases b with
      | nil => cases h
      | cons y b =>
        obtain ⟨h1, h2⟩ := List.cons.inj h
        rw [ih h2, Int.ofNat.inj h1]
  · intro h; rw [h]
theorem vals_refs_of : ∀ {as : List Addr} {its : List Value}, Vals (as.map V.ref) its → its = as.map Value.ref
  | [], _, .nil => rfl
  | a :: as, _, .cons r t => by
    obtain rfl : _ = Value.ref a := r
    rw [vals_refs_of t]; rfl
section
variable {X : Cx} {pins : List (Addr × Obj)} {σ : L2.St} {H : Hp} {s : Shared}
theorem holds_vL (I : Inv X pins σ H s) {a : Addr} {xs : List Nat} (h : SqL X.K H a (vL xs)) : PySem.W.Holds s.heap (.ref a) (castL xs) := by
  obtain ⟨its, rv, ⟨o, n, ho, hc, _, hd⟩, _⟩ := I.list h
  rw [vL_ints] at rv
  exact PySem.W.holds_list (vs := its.toArray) ⟨o, ho, hc, n, hd⟩ (PySem.W.HoldAll.of_ints (ints_of_vals rv))
theorem holds_LLs (I : Inv X pins σ H s) : ∀ {as : List Addr} {xss : List (List Nat)}, LLs H as xss → PySem.W.HoldAll s.heap (as.map Value.ref) (xss.map castL)
  | _, _, .nil => .nil
  | _, _, .cons r t => .cons (holds_vL I (SqL.of r)) (holds_LLs I t)
def rCntLL : V → List V → Hp → VK → Prop := fun x xs H Q => ∃ (p b : Addr) (as : List Addr) (xss : List (List Nat)) (y : List Nat), x = .ref p ∧ xs = [.ref b] ∧ H p = some (.lst (as.map V.ref)) ∧ LLs H as xss ∧ H b = some (.lst (vL y)) ∧ Q (.int (xss.count y : Nat)) H
theorem mt_countLL (hu : X.A.units + 64 < cLine) : MtR X "list.count" rCntLL := by
  intro pins s σ H x xs v us Q I rx rxs h
  obtain ⟨p, b, as, xss, y, rfl, rfl, hp, hl, hb, q⟩ := h
  cases rx
  obtain ⟨u, rfl, ru⟩ := rxs.one
  obtain rfl : u = Value.ref b := ru
  obtain ⟨its, rv, ⟨o, n, ho, hc, _, hd⟩, _⟩ := I.list (SqL.of hp)
  have e := vals_refs_of rv
  subst e
  refine PySem.W.count_list_datum (α := List Int) (vs := (as.map Value.ref).toArray) (xs := xss.map castL) (x := castL y) ⟨o, ho, hc, n, hd⟩ (by simpa using holds_LLs I hl) (holds_vL I (SqL.of hb)) (by show X.A.units + 1 + 1 < cLine; omega) ?_
  have ec : (xss.map castL).countP (fun y_1 => decide (y_1 = castL y)) = xss.count y := by
    rw [List.countP_map]
    show List.countP _ xss = List.countP _ xss
    congr 1
    funext z
    show decide (castL z = castL y) = (z == y)
    by_cases e : z = y
    · subst e; simp
    · have : ¬ castL z = castL y := fun h => e (castL_inj.mp h)
      simp [e, this]
  rw [ec]
  exact ⟨.int (xss.count y : Nat), H, I.tok _, ⟨s.toks, rfl⟩, q⟩
def rRemLL : V → List V → Hp → VK → Prop := fun x xs H Q => ∃ (p b : Addr) (as : List Addr) (xss : List (List Nat)) (y : List Nat), x = .ref p ∧ xs = [.ref b] ∧ H p = some (.lst (as.map V.ref)) ∧ LLs H as xss ∧ H b = some (.lst (vL y)) ∧ y ∈ xss ∧
  ∀ as', LLs H as' (xss.erase y) → (∀ a ∈ as', a ∈ as) → Q .non (upd H p (.lst (as'.map V.ref)))
theorem first_at {α : Type} [BEq α] [LawfulBEq α] (y : α) : ∀ {l : List α}, y ∈ l → ∃ j, l[j]? = some y ∧ (∀ m, m < j → l[m]? ≠ some y) ∧ l.eraseIdx j = l.erase y
  | [], h => by cases h
  | a :: l, h => by
    by_cases e : a = y
    · subst e
      exact ⟨0, rfl, fun m hm => by omega, by simp⟩
    · have hm : y ∈ l := by
        rcases List.mem_cons.mp h with h | h
        · exact absurd h.symm e
        · exact h
      obtain ⟨j, h1, h2, h3⟩ := first_at y hm
      refine ⟨j + 1, h1, fun m hm => ?_, ?_⟩
      · match m, hm with
        | 0, _ => intro q; exact e (Option.some.inj q)
        | m + 1, hm => exact h2 m (by omega)
      · rw [List.eraseIdx_cons_succ, h3, List.erase_cons_tail (by simpa using e)]
theorem mt_remLL (hu : X.A.units + 64 < cLine) : MtM X "list.remove" rRemLL := by
  intro pins s σ H x xs v us Q I rx rxs h
  obtain ⟨p, b, as, xss, y, rfl, rfl, hp, hl, hb, hy, q⟩ := h
  cases rx
  obtain ⟨u, rfl, ru⟩ := rxs.one
  obtain rfl : u = Value.ref b := ru
  obtain ⟨z, its, n, r, hlen, e⟩ := I.lstM hp
  have ei := vals_refs_of r
  subst ei
  obtain ⟨j, h1, h2, h3⟩ := first_at y hy
  have hj : (xss.map castL)[j]? = some (castL y) := by rw [List.getElem?_map, h1]; rfl
  have hno : ∀ m, m < j → (xss.map castL)[m]? ≠ some (castL y) := fun m hm q => by
    rw [List.getElem?_map] at q
    cases e : xss[m]? with
    | none => rw [e] at q; cases q
    | some w => rw [e] at q; exact h2 m hm (by rw [e, castL_inj.mp (Option.some.inj q)])
  refine PySem.W.remove_list_datum (α := List Int) (vs := (as.map Value.ref).toArray) (xs := xss.map castL) (x := castL y) ⟨_, e, rfl, n, rfl⟩ (by simpa using holds_LLs I hl) (holds_vL I (SqL.of hb)) (by show X.A.units + 1 + 1 < cLine; omega) hj hno (by simpa using z) ?_
  have ll : LLs H (as.eraseIdx j) (xss.erase y) := by rw [← h3]; exact Paired.erase j hl
  refine ⟨.non, _, I.lset (its' := (as.eraseIdx j).map Value.ref) (t' := s.toks) hp e ?_ (?_ : Vals ((as.eraseIdx j).map V.ref) _) ?_, rfl, q (as.eraseIdx j) ll fun a ha => List.mem_of_mem_eraseIdx ha⟩
  · show ((as.map Value.ref).toArray).eraseIdxIfInBounds j = ((as.eraseIdx j).map Value.ref).toArray
    rw [List.eraseIdxIfInBounds_toArray, map_erase]
  · rw [← map_erase, ← map_erase]
    exact r.eraseIdx j
  · have := len_erase as j
    rw [List.length_map] at z ⊢
    omega
end
end Rd
set_option linter.all false
set_option maxRecDepth 100000
set_option maxHeartbeats 2000000
/-! sorted of a list of tuples of whole numbers, any number of them; sorted of a tuple -/
namespace Rd
open PySem PySem.Spec PyProof.Rows L2 Evl
abbrev noText : Nat → Bool := fun _ => false
def itemsN (l : List Nat) : List (Int ⊕ List Nat) := l.map fun n : Nat => Sum.inl (n : Int)
def ltN (a b : List Nat) : Bool := PyProof.Rows.lexLt itemOrd (itemsN a) (itemsN b)
theorem tupItems_N : ∀ {us : List Value} {l : List Nat} (i : Nat), Vals (vL l) us → tupItems noText i us = some (itemsN l)
  | _, [], i, .nil => rfl
  | _, n :: l, i, .cons r t => by
    obtain ⟨tk, rfl⟩ := r
    have ih := tupItems_N (l := l) (i + 1) t
    show (if noText i = true then none else (tupItems noText (i + 1) _).map (Sum.inl (n : Int) :: ·)) = _
    rw [if_neg (show ¬ false = true by decide), ih]
    rfl
def keyO (h : Heap) (v : Value) : List (Int ⊕ List Nat) := (tupKey h noText v).getD []
theorem swoK (h : Heap) : SrtO.Swo fun v u => PyProof.Rows.lexLt itemOrd (keyO h v) (keyO h u) := by
  refine ⟨fun x y h1 => ?_, fun x y z h1 h2 => ?_⟩
  · cases e : PyProof.Rows.lexLt itemOrd (keyO h y) (keyO h x) with
    | false => rfl
    | true =>
      have q := lex_trans _ _ _ h1 e
      rw [lex_irrefl] at q; cases q
  · cases e : PyProof.Rows.lexLt itemOrd (keyO h z) (keyO h x) with
    | false => rfl
    | true =>
      rcases lex_negTrans _ (keyO h y) _ e with q | q
      · rw [q] at h2; cases h2
      · rw [q] at h1; cases h1
def unN : V → Nat
  | .int i => i.toNat
  | _ => 0
theorem unN_vL : ∀ l : List Nat, (vL l).map unN = l
  | [] => rfl
  | n :: l => by
    have ih := unN_vL l
    show unN (vN n) :: (vL l).map unN = n :: l
    rw [ih]; rfl
def backT (H : Hp) : Value → Addr × List Nat
  | .ref a => (a, match H a with
    | some (.tup xs) => xs.map unN
    | _ => [])
  | _ => (0, [])
theorem backT_of {H : Hp} {e : Addr × List Nat} (h : H e.1 = some (.tup (vL e.2))) : backT H (.ref e.1) = e := by
  simp only [backT, h, unN_vL]
theorem tups_of {h : Heap} : ∀ {L : List (Addr × List Nat)}, (∀ e ∈ L, e.2 ≠ []) → (∀ e ∈ L, ∃ (o : Obj) (xs : Array Value) (n : Nat), h.get? e.1 = some o ∧ o.cls = .type "tuple" ∧ o.data = .seq xs n ∧ Vals (vL e.2) xs.toList) →
    ∃ fs, TupsOf h noText (L.map fun e => Value.ref e.1) fs ∧ fs.length = L.length
  | [], _, _ => ⟨[], .nil, rfl⟩
  | e :: L, hn, hh => by
    obtain ⟨fs, hf, hl⟩ := tups_of (L := L) (fun e he => hn e (List.mem_cons_of_mem _ he)) fun e he => hh e (List.mem_cons_of_mem _ he)
    obtain ⟨o, xs, n, ho, hc, hd, rv⟩ := hh e List.mem_cons_self
    cases e2 : e.2 with
    | nil => exact absurd e2 (hn e List.mem_cons_self)
    | cons m l =>
      rw [e2] at rv
      have h0 : (vL (m :: l))[0]? = some (vN m) := rfl
      obtain ⟨u, hu, ru⟩ := rv.get h0
      obtain ⟨t, rfl⟩ := ru
      refine ⟨_, .cons (f := .int (m : Int) t) ⟨e.1, o, xs, n, rfl, ho, hc, hd, by simpa using hu, fun _ => ⟨_, _, rfl⟩, fun z => by cases z⟩ hf, by rw [List.length_cons, List.length_cons, hl]⟩
def rSortTL : List V → Hp → VK → Prop := fun xs H Q => ∃ (p : Addr) (L : List (Addr × List Nat)), xs = [.ref p] ∧ H p = some (.lst (L.map fun e => V.ref e.1)) ∧ (∀ e ∈ L, H e.1 = some (.tup (vL e.2))) ∧ (L.length < 2 ∨ ∀ e ∈ L, e.2 ≠ []) ∧
  ∀ (L' : List (Addr × List Nat)) (q : Addr), L'.Perm L → L'.Pairwise (fun x y => ltN y.2 x.2 = false) → H q = none → Q (.ref q) (upd H q (.lst (L'.map fun e => V.ref e.1)))
section
variable {X : Cx}
theorem cr_sortTL : CallR X (.builtin "sorted") rSortTL := by
  intro pins s σ H vs us Q I r h
  obtain ⟨p, L, rfl, hp, ht, hne, q⟩ := h
  obtain ⟨its, rv, hl, hz⟩ := I.list (SqL.of hp)
  obtain ⟨u, rfl, ru⟩ := vals1 r
  obtain rfl : u = Value.ref p := ru
  have ei : its = L.map fun e => Value.ref e.1 := by
    have : Vals ((L.map fun e => e.1).map V.ref) its := by rw [List.map_map]; exact rv
    rw [vals_refs_of this, List.map_map]; rfl
  subst ei
  have tk : ∀ (h' : Heap), (∀ b o, s.heap.get? b = some o → o.cls = .type "tuple" → h'.get? b = some o) → ∀ e ∈ L, ∃ (o : Obj) (xs : Array Value) (n : Nat), h'.get? e.1 = some o ∧ o.cls = .type "tuple" ∧ o.data = .seq xs n ∧ Vals (vL e.2) xs.toList := by
    intro h' keep e he
    obtain ⟨_, vs, r2, o, ho, hc, n, hd⟩ := I.hok _ _ (ht e he)
    exact ⟨o, _, n, keep _ _ ho hc, hc, hd, by simpa using r2⟩
  have kk : ∀ (h' : Heap), (∀ b o, s.heap.get? b = some o → o.cls = .type "tuple" → h'.get? b = some o) → ∀ e ∈ L, tupKey h' noText (.ref e.1) = some (itemsN e.2) := by
    intro h' keep e he
    obtain ⟨o, xs, n, ho, hc, hd, rx⟩ := tk h' keep e he
    simp only [tupKey, ho, hd]
    exact tupItems_N 0 rx
  refine SrtO.sorted_ord (swoK s.heap) hl.isList (by rw [← rv.length]; exact hz) (fun h2 h₁ a' ha' old => ?_) fun out h1 h2 => ?_
  · rw [List.length_map] at h2
    intro h' keep
    have keep' : ∀ b o, h₁.get? b = some o → o.cls = .type "tuple" → h'.get? b = some o := fun b o e c => keep b o (fun z => by
      subst z
      rw [ha'] at e
      obtain rfl := Option.some.inj e
      have c2 : Value.type "list" = Value.type "tuple" := c
      injection c2 with c3
      exact absurd c3 (by decide)) e
    have kp : ∀ b o, s.heap.get? b = some o → o.cls = .type "tuple" → h'.get? b = some o := fun b o e c => keep' b o (old b o e).2 c
    have hne2 : ∀ e ∈ L, e.2 ≠ [] := by
      rcases hne with z | z
      · omega
      · exact z
    obtain ⟨fs, hf, hfl⟩ := tups_of hne2 (tk h' kp)
    refine ⟨tuples' true, fun R E hq => tup_kind (s := { s with heap := h' }) (by rw [hfl]; omega) hf hq, ?_⟩
    intro x y hx hy
    obtain ⟨e1, m1, q1⟩ := List.mem_map.mp hx
    obtain ⟨e2, m2, q2⟩ := List.mem_map.mp hy
    rw [← q1, ← q2]
    refine tup_ltAt (s := { s with heap := h' }) true _ _ _ _ (itemsN e1.2) (itemsN e2.2) (kk h' kp e1 m1) (kk h' kp e2 m2) ⟨rfl, ?_⟩
    show _ = PyProof.Rows.lexLt itemOrd (keyO s.heap x.1) (keyO s.heap y.1)
    have k1 : keyO s.heap x.1 = itemsN e1.2 := by rw [← q1, keyO, kk s.heap (fun _ _ h _ => h) e1 m1]; rfl
    have k2 : keyO s.heap y.1 = itemsN e2.2 := by rw [← q2, keyO, kk s.heap (fun _ _ h _ => h) e2 m2]; rfl
    rw [k1, k2]
  · have hm : ∀ v ∈ out, ∃ e ∈ L, v = Value.ref e.1 := fun v hv => by
      obtain ⟨e, he, z⟩ := List.mem_map.mp (h2.perm.mem_iff.mp hv)
      exact ⟨e, he, z.symm⟩
    have hL : (L.map fun e => Value.ref e.1).map (backT H) = L := by
      rw [List.map_map]
      conv => rhs; rw [← List.map_id L]
      apply List.map_congr_left
      intro e he
      exact backT_of (ht e he)
    have hperm : (out.map (backT H)).Perm L := by
      have := h2.perm.map (backT H)
      rw [hL] at this
      exact this
    have hpw : (out.map (backT H)).Pairwise (fun x y => ltN y.2 x.2 = false) := by
      rw [List.pairwise_map]
      refine List.Pairwise.imp_of_mem ?_ h1
      intro x y hx hy hlt
      obtain ⟨e1, m1, rfl⟩ := hm x hx
      obtain ⟨e2, m2, rfl⟩ := hm y hy
      rw [backT_of (ht e1 m1), backT_of (ht e2 m2)]
      have k1 : keyO s.heap (.ref e1.1) = itemsN e1.2 := by rw [keyO, kk s.heap (fun _ _ h _ => h) e1 m1]; rfl
      have k2 : keyO s.heap (.ref e2.1) = itemsN e2.2 := by rw [keyO, kk s.heap (fun _ _ h _ => h) e2 m2]; rfl
      have z : PyProof.Rows.lexLt itemOrd (keyO s.heap (.ref e2.1)) (keyO s.heap (.ref e1.1)) = false := hlt
      rw [k1, k2] at z
      exact z
    obtain ⟨ep, he'⟩ := PyProof.Rows.sortedAll_at s.heap (L.map fun e => Value.ref e.1) out.toArray
    have rvo : Vals ((out.map (backT H)).map fun e => V.ref e.1) out := by
      have gen : ∀ l : List Value, (∀ v ∈ l, ∃ e ∈ L, v = Value.ref e.1) → Vals ((l.map (backT H)).map fun e => V.ref e.1) l := by
        intro l
        induction l with
        | nil => intro _; exact .nil
        | cons v l ih =>
          intro h
          obtain ⟨e, _, rfl⟩ := h v List.mem_cons_self
          exact .cons rfl (ih fun v hv => h v (List.mem_cons_of_mem _ hv))
      exact gen out hm
    have hlen : ((out.map (backT H)).map fun e => V.ref e.1).length ≤ sizeLine := by
      rw [List.length_map, hperm.length_eq]
      rw [List.length_map] at hz
      exact hz
    exact ⟨.ref _, upd H (s.heap.objs.size + 1) (.lst ((out.map (backT H)).map fun e => V.ref e.1)), I.laid (t' := s.toks) (fun _ _ => PyProof.Rows.sortedAll_old) (Nat.le_succ _) ⟨hlen, out, ep, rvo, he'⟩, rfl, q _ _ hperm hpw (I.hok.fresh (Nat.le_succ _))⟩
end
end Rd
set_option linter.all false
set_option maxRecDepth 100000
set_option maxHeartbeats 2000000
/-! sorted of a tuple of whole numbers; a tuple behind an empty one -/
namespace Rd
open PySem PySem.Spec PyProof.Rows L2 Evl
/-- sorted(t), t a tuple of whole numbers -/
def rSortedTI (K : PySem.W.Frag) : List V → Hp → VK → Prop := fun vs H Q => ∃ (a : Addr) (ns : List Int), vs = [V.ref a] ∧ SqT K H a (ns.map V.int) ∧
  ∀ (ns' : List Int) (p : Addr), ns'.Perm ns → ns'.Pairwise (· ≤ ·) → H p = none → Q (.ref p) (upd H p (.lst (ns'.map V.int)))
section
variable {X : Cx}
theorem cr_sortedTI : CallR X (.builtin "sorted") (rSortedTI X.K) := by
  intro pins s σ H vs us Q I r h
  obtain ⟨a, ns, rfl, hs, q⟩ := h
  obtain ⟨its, rv, ⟨o, ho, hc, n, hd⟩, hz⟩ := I.tuple hs
  obtain ⟨u, rfl, ru⟩ := vals1 r
  obtain rfl : u = Value.ref a := ru
  have hi : IntsAre its ns := ints_of_vals rv
  have hzi : its.length ≤ sizeLine := by rw [← rv.length]; exact hz
  refine Calls.call_function_entry kind_sorted plain_sorted entry_sorted (args_sorted1 _) ?_
  unfold Builtin.«sorted»
  refine wpAny_bind (m := checkCount "sorted" 1 1 _) (wpAny_pure ?_)
  refine wpAny_bind (wpAny_collect_seq a (.inr rfl) ho hc hd (fun h' kp => ?_) (by rw [List.size_toArray]; exact hzi))
  refine wpAny_bind (wpAny_newList ?_ hzi)
  have hoL : (h'.push (seqObj "list" its.toArray 0)).get? h'.objs.size = some (seqObj "list" its.toArray 0) := Heap.get?_push_size _ rfl
  have I1 : Inv X pins σ H { s with heap := h' } := I.kept (t' := s.toks) kp
  show wpAny _ _ _ _ _ { s with heap := h'.push (seqObj "list" its.toArray 0) }
  refine wpAny_bind (wpAny_holding (wpAny_call_entry slot_list_sort ⟨_, hoL, rfl⟩ entry_list_sort
    (SrtO.list_sort_ord SrtO.swo_int hoL hzi (fun h2 => SrtO.ints_sortable hi h2) fun out h1 h2 => ⟨_, rfl, ?_⟩) (args_list_sort _)))
  refine wpAny_pure ⟨_, rfl, ?_⟩
  obtain ⟨k1, k2, k3⟩ := SrtO.ints_out hi h1 h2
  obtain ⟨ep, he'⟩ := PyProof.Rows.sortedHeap_at (vs := its) (out := out.toArray) hoL
  have hlen : ((out.map SrtO.iv).map V.int).length ≤ sizeLine := by
    rw [List.length_map, k2.length_eq]
    rw [List.length_map] at hz
    exact hz
  refine ⟨.ref h'.objs.size, upd H h'.objs.size (.lst ((out.map SrtO.iv).map V.int)), I1.laid (t' := s.toks) (fun b u e => ?_) (Nat.le_refl _) ⟨hlen, out, ep, vals_of_ints k1, he'⟩, rfl, q _ _ k2 k3 (I1.hok.fresh (Nat.le_refl _))⟩
  have hlt := Heap.lt_size e
  have e2 : (h'.push (seqObj "list" its.toArray 0)).get? b = some u := Heap.get?_push_of_some _ e
  rw [PyProof.Rows.sortedHeap_old (Nat.ne_of_lt hlt) (Heap.lt_size e2)]
  exact e2
/-- () + t is t -/
def rCatT0 (K : PySem.W.Frag) : R2 := fun x y H Q => ∃ a b ys, x = .ref a ∧ y = .ref b ∧ SqT K H a [] ∧ SqT K H b ys ∧ Q (.ref b) H
theorem op_catT0 : OpR X (binaryOp .Add) (rCatT0 X.K) := by
  intro pins s σ H x y v u Q I rx ry h
  obtain ⟨a, b, ys, rfl, rfl, ha, hb, q⟩ := h
  cases rx
  cases ry
  obtain ⟨its, r1, ⟨⟨cls, dd, data, sl⟩, ho, hc, n, hd⟩, _⟩ := I.tuple ha
  obtain ⟨its2, r2, ⟨⟨cls2, dd2, data2, sl2⟩, ho2, hc2, n2, hd2⟩, _⟩ := I.tuple hb
  simp only at hc hd hc2 hd2
  subst hc hd hc2 hd2
  have e0 : its = [] := r1.nil_iff.mpr rfl
  exact concat_meets ⟨_, ho, rfl⟩ ⟨_, ho2, rfl⟩ noFill_tuple_add seq_tuple_add PySem.F.slot_tuple_add PySem.F.entry_tuple_add (PySem.F.args_tuple_add_2 _ _)
    (PyProof.Rows.tuple_addW0 a b its.toArray its2.toArray n n2 dd dd2 sl sl2 (by simp [e0])) ⟨ho, ho2, ⟨.ref b, H, I, rfl, q⟩⟩
def rCatA (K : PySem.W.Frag) : R2 := fun x y H Q => rCatT K x y H Q ∨ rCatT0 K x y H Q
theorem op_catA : OpR X (binaryOp .Add) (rCatA X.K) := op_catT.or op_catT0
end
end Rd
set_option linter.all false
set_option maxRecDepth 100000
set_option maxHeartbeats 2000000
namespace Rd
open PySem PySem.Spec PyProof.Rows L2 Evl
/-! ### words for a comprehension over a dict's keys, under its lock -/
section
variable {σ : L2.St} {H : Hp} {te td : TE} {t : TT}
theorem el_lcK {d : Addr} {o : Obj} {kvs : List (L2.Key × V)} {j : Nat} {vs : List Nat} (f : Nat → Bool) (v : Nat → V) (h : Ev td σ H (.ref d)) (hx : H d = some (.frz o (.dK kvs))) (hz : kvs.length ≤ 40000) (hw : ∀ x, wipe ((wipe σ vs).set j (some x)) vs = wipe σ vs)
    (ht : ∀ (i : Nat) (k : L2.Key) (y : V) H1, Ex H H1 → kvs[i]? = some (k, y) → EvT t ((wipe σ vs).set j (some (kV k))) H1 (f i)) (he : ∀ (i : Nat) (k : L2.Key) (y : V) H1, Ex H H1 → kvs[i]? = some (k, y) → f i = true → Ev te ((wipe σ vs).set j (some (kV k))) H1 (v i)) :
    EvL (tLc (iKeys td) (gName j) t te vs) σ H (given kvs.length f v) := fun H0 e Q q => h H0 e _ fun H1 e1 => ⟨d, o, rfl, .inl ⟨kvs, (e.trans e1) d _ hx, fun Dl hD =>
  ⟨fun i m H' => m = kvs.length - i ∧ i ≤ kvs.length ∧ Cw H1 f v Dl i H', ⟨kvs.length, by simp, Nat.zero_le _, hD, Ex.new hD, upd_same⟩, by
    rintro i m H' ⟨rfl, hi, p⟩
    have hd : H' d = some (.frz o (.dK kvs)) := p.2.1 d _ ((e.trans e1) d _ hx)
    by_cases hlt : i < kvs.length
    · refine .inr ⟨⟨hd, hlt⟩, Cw H1 f v Dl (i + 1), fun H2 p2 => ⟨kvs.length - (i + 1), by omega, rfl, hlt, p2⟩, fun x H2 y => ?_⟩
      obtain ⟨rfl, k, y, hk, rfl⟩ := y
      exact ⟨hw _, cw_turn p (by omega) (ht i k y H1 (e.trans e1) hk) (fun hf => he i k y H1 (e.trans e1) hk hf)⟩
    · have : i = kvs.length := by omega
      subst this
      exact .inl ⟨⟨hd, Nat.le_refl _⟩, q Dl H' (fresh_back e1 p.1) (e1.trans p.2.1) p.2.2⟩⟩⟩⟩
theorem el_lock {d : Addr} {u : HO} {xs : List V} (hd : H d = some u) (hm : Mut (some u)) (h : ∀ H1, Ex H H1 → ∀ od, EvL te σ (upd H1 d (.frz od u)) xs) : EvL (tLockE te) σ H xs := fun H1 e Q q =>
  ⟨d, u, e d _ hd, hm, fun od => h H1 e od _ (Ex.refl _) _ fun p H2 hp e2 h2 => by
    have h1 : H1 d = some u := e d _ hd
    have pd : p ≠ d := ne_fresh hp
    rw [upd_ne pd] at hp
    refine ⟨e2 d _ upd_same, q p _ hp (fun b o hb => ?_) (by rw [upd_ne pd]; exact h2)⟩
    by_cases c : b = d
    · subst c; rw [upd_same]; rw [h1] at hb; exact hb
    · rw [upd_ne c]; exact e2 b o (by rw [upd_ne c]; exact hb)⟩
end
/-! ### what the field and the hall add -/
structure Kind where
  cnt : R → Nat → List Nat → Nat
  sets : R → List (List Nat)
  all : R → List Nat
  good : R → Prop
structure Kind.Fits (kd : Kind) : Prop where
  ok : ∀ r, kd.good r → r.Ok
  few : ∀ r, kd.good r → (kd.sets r).length ≤ 70000
  short : ∀ r, kd.good r → ∀ p ∈ kd.sets r, p.length ≤ 25
  nums : ∀ r, kd.good r → r.nums.length ≤ 16
  low : ∀ r, kd.good r → ∀ n ∈ kd.all r, n < 25
  tell : ∀ r n v, kd.good r → n ∈ kd.all r → kd.good { r with nums := tellM r.nums n (some v) }
  drop : ∀ r n, kd.good r → kd.good { r with nums := tellM r.nums n none }
  cntN : ∀ r ns n q, kd.cnt { r with nums := ns } n q = kd.cnt r n q
  allN : ∀ r ns, kd.all { r with nums := ns } = kd.all r
def spCounted (C : Addr) (kd : Kind) : Sp := fun vs H Q _ => ∃ (x p : Addr) (d : Ad) (r : R) (n : Nat) (q : List Nat), vs = [.ref x, vN n, .ref p] ∧ Seen C H x d r ∧ kd.good r ∧ n < 25 ∧ H p = some (.lst (vL q)) ∧ q.length ≤ 25 ∧ RetV (vN (kd.cnt r n q)) H Q
theorem spv_counted {C : Addr} {kd : Kind} {H : Hp} {x p : Addr} {d : Ad} {r : R} {n : Nat} {q : List Nat} (S : Seen C H x d r) (g : kd.good r) (hn : n < 25) (hp : H p = some (.lst (vL q))) (hq : q.length ≤ 25) : SpV (spCounted C kd) [.ref x, vN n, .ref p] H (vN (kd.cnt r n q)) := fun H1 e Q k E => ⟨x, p, d, r, n, q, rfl, S.mono e, g, hn, e _ _ hp, hq, k⟩
def spSettings (C : Addr) (kd : Kind) : Sp := fun vs H Q _ => ∃ (x : Addr) (d : Ad) (r : R), vs = [.ref x] ∧ Seen C H x d r ∧ kd.good r ∧ RetP (IsLL (kd.sets r)) H Q
theorem spp_settings {C : Addr} {kd : Kind} {H : Hp} {x : Addr} {d : Ad} {r : R} (S : Seen C H x d r) (g : kd.good r) : SpP (spSettings C kd) [.ref x] H (IsLL (kd.sets r)) := fun H1 e Q k E => ⟨x, d, r, rfl, S.mono e, g, k⟩
def spAll (C : Addr) (kd : Kind) : Sp := fun vs H Q _ => ∃ (x : Addr) (d : Ad) (r : R), vs = [.ref x] ∧ Seen C H x d r ∧ kd.good r ∧ RetL (vL (kd.all r)) H Q
theorem spl_all {C : Addr} {kd : Kind} {H : Hp} {x : Addr} {d : Ad} {r : R} (S : Seen C H x d r) (g : kd.good r) : SpL (spAll C kd) [.ref x] H (vL (kd.all r)) := fun H1 e Q k E => ⟨x, d, r, rfl, S.mono e, g, fun p H2 hp e2 h2 => k p H2 hp e2 h2⟩
def misM (kd : Kind) (r : R) (q : List Nat) : List Nat := misfits (kd.cnt r) r.nums q
def spMisfits (C : Addr) (kd : Kind) : Sp := fun vs H Q _ => ∃ (x p : Addr) (d : Ad) (r : R) (q : List Nat), vs = [.ref x, .ref p] ∧ Own C H x d r ∧ kd.good r ∧ H p = some (.lst (vL q)) ∧ q.length ≤ 25 ∧ RetL (vL (misM kd r q)) H Q
theorem spl_misfits {C : Addr} {kd : Kind} {H : Hp} {x p : Addr} {d : Ad} {r : R} {q : List Nat} (S : Own C H x d r) (g : kd.good r) (hp : H p = some (.lst (vL q))) (hq : q.length ≤ 25) : SpL (spMisfits C kd) [.ref x, .ref p] H (vL (misM kd r q)) := fun H1 e Q k E => ⟨x, p, d, r, q, rfl, S.mono e, g, e _ _ hp, hq, fun p H2 hp e2 h2 => k p H2 hp e2 h2⟩
abbrev sMisfits : Stmt := inClass (top 9) 9
abbrev nMisfits : List Str := ["self", "setting", "number"]
theorem scMisfits : FnScope nMisfits ["self", "setting"] (defScope sMisfits) := ⟨rfl, rfl, rfl, by decide +kernel, rfl, by decide +kernel, by decide +kernel⟩
theorem range_getD {α : Type} (l : List α) (d : α) : (List.range l.length).map (fun i => l.getD i d) = l := by
  apply List.ext_getElem
  · simp
  · intro i h1 h2
    simp [List.getD_eq_getElem?_getD, h2]
theorem given_filter {α : Type} (l : List α) (f : α → Bool) (g : α → V) (d : α) : given l.length (fun i => f (l.getD i d)) (fun i => g (l.getD i d)) = (l.filter f).map g := by
  have e := range_getD l d
  unfold given
  conv => rhs; rw [← e, List.filter_map, List.map_map]
  rfl
theorem getD_of {α : Type} {l : List α} {i : Nat} {a d : α} (h : l[i]? = some a) : l.getD i d = a := by
  rw [List.getD_eq_getElem?_getD, h]; rfl
theorem kvN_at {nums : List (Nat × Nat)} {i : Nat} {k : L2.Key} {y : V} (h : (kvN nums)[i]? = some (k, y)) : ∃ n v, nums[i]? = some (n, v) ∧ k = Sum.inl (n : Int) ∧ y = vN v := by
  unfold kvN at h
  rw [List.getElem?_map] at h
  cases e : nums[i]? with
  | none => rw [e] at h; cases h
  | some p =>
    rw [e] at h
    have := Option.some.inj h
    injection this with h1 h2
    exact ⟨p.1, p.2, rfl, h1.symm, h2.symm⟩
theorem lookup_nodup : ∀ {l : List (Nat × Nat)}, (l.map (·.1)).Nodup → ∀ {n v : Nat}, (n, v) ∈ l → l.lookup n = some v
  | [], _, n, v, h => by cases h
  | q :: l, hd, n, v, h => by
    rw [List.map_cons, List.nodup_cons] at hd
    rw [List.lookup_cons]
    rcases List.mem_cons.mp h with e | h
    · subst e; simp
    · have : n ≠ q.1 := by
        intro e; subst e
        exact hd.1 (List.mem_map.mpr ⟨_, h, rfl⟩)
      have e2 : (n == q.1) = false := by simpa using this
      rw [e2]
      exact lookup_nodup hd.2 h
theorem Own.lock {C : Addr} {H : Hp} {x : Addr} {d : Ad} {r : R} (O : Own C H x d r) (od : Obj) : Seen C (upd H d.na (.frz od (.dK (kvN r.nums)))) x d r :=
  ⟨O.seen.ok, by rw [upd_ne (ne_of O.seen.ins O.nu (by intro z; cases z))]; exact O.seen.ins, by rw [upd_ne (ne_of O.seen.bl O.nu (by intro z; cases z))]; exact O.seen.bl, .inr ⟨od, upd_same⟩⟩
/-- d[k] as a value -/
theorem ev_dget {σ : L2.St} {H : Hp} {td ty : TE} {a : Addr} {n v : Nat} {nums : List (Nat × Nat)} (h : Ev td σ H (.ref a)) (hk : Ev ty σ H (vN n)) (ha : Rd H a (.dK (kvN nums))) (hl : nums.lookup n = some v) : Ev (tDGet td ty) σ H (vN v) := fun H1 e Q q =>
  h H1 e _ fun H2 e2 => hk H2 (e.trans e2) _ fun H3 e3 => ⟨a, vN v, rfl, .inl ⟨kvN nums, Sum.inl (n : Int), ex_rd ((e.trans e2).trans e3) ha, rfl, by rw [kvN_get, hl]; rfl⟩, q H3 (e2.trans e3)⟩
theorem beq_cast (a b : Nat) : (((a : Nat) : Int) == ((b : Nat) : Int)) = (a == b) := by
  by_cases c : a = b
  · subst c; rw [beq_self_eq_true, beq_self_eq_true]
  · have c2 : ¬ ((a : Int) = (b : Int)) := by omega
    rw [beq_eq_false_iff_ne.mpr c, beq_eq_false_iff_ne.mpr c2]
theorem bne_cast (a b : Nat) : (!(((a : Nat) : Int) == ((b : Nat) : Int))) = (a != b) := by rw [beq_cast]; rfl
section
variable {P : Program} {w : World} {K : PySem.W.Frag} {mg : Str → Option Value} {base : Heap} {C : Addr} {kd : Kind}
theorem ok_misfits {f : Addr} {fd : FuncData} (F : Fun K "misfits" "Riddle.misfits" sMisfits f fd) (T : RC K C) (ft : kd.Fits) (mC : Mt P w K mg base C 2 "counted" ["self", "number", "setting"] (spCounted C kd)) :
    FnOk P w K mg base CX0 3 f fd ["self", "setting"] (spMisfits C kd) := by
  refine F.ok scMisfits (fun vs H Q E h => ?_) (fun cdv A outer s H vs Q E hr h => ?_)
  · obtain ⟨x, p, d, r, q, rfl, _⟩ := h; rfl
  · obtain ⟨fc, fdc, MC, GC, BC⟩ := mC
    refine ⟨_, pss_one (ps_ret (pe_lock (pe_lc (own := [("number", 2)]) (g := gName 2)
      (tt := tTest (tOp rNe (tMeth C "counted" (spCounted C kd) [] E0 (tVar 0) (tCons (tVar 2) (tCons (tVar 1) tNil))) (tDGet (tFld K (tVar 0) "numbers") (tVar 2)))) (te := tVar 2) rfl scMisfits.nd (pi_keys (pe_fld (pv 0) rfl)) (blkOk_by (N := nMisfits) (sc := defScope sMisfits) (by decide +kernel))
      (fun _ _ _ _ _ => pg_name (i := 2) scMisfits.nd rfl (Or.inl rfl))
      (fun _ _ _ _ _ => pts_one (pt_cmpR op_ne (pe_meth (pv 0) T.cl MC GC hr BC .nil pass0 (pa_cons (pv 2) (pa_cons (pv 1) pa_nil))) (pe_dget (hu_of hr) (pe_fld (pv 0) rfl) (pv 2) (fun _ _ => rfl)) (nomark _))) (fun _ _ _ _ _ => pv 2)))), ?_⟩
    obtain ⟨x, p, d, r, q, rfl, O, g, hp, hq, k⟩ := h
    have hpn : p ≠ d.na := ne_of hp O.nu (by intro z; cases z)
    have hl := ft.nums r g
    refine s_retL (xs := vL (misM kd r q)) (el_lock O.nu trivial fun H1 e1 od => ?_) fun p2 H2 hp2 e2 h2 => k p2 H2 hp2 e2 h2
    have O1 := O.mono e1
    have S := O1.lock od
    have hp1 : upd H1 d.na (.frz od (.dK (kvN r.nums))) p = some (.lst (vL q)) := by rw [upd_ne hpn]; exact e1 _ _ hp
    have key := el_lcK (te := tVar 2) (t := tTest (tOp rNe (tMeth C "counted" (spCounted C kd) [] E0 (tVar 0) (tCons (tVar 2) (tCons (tVar 1) tNil))) (tDGet (tFld K (tVar 0) "numbers") (tVar 2))))
      (td := tFld K (tVar 0) "numbers") (σ := [some (.ref x), some (.ref p), none]) (H := upd H1 d.na (.frz od (.dK (kvN r.nums)))) (j := 2) (vs := [2])
      (fun i => (fun kv : Nat × Nat => kd.cnt r kv.1 q != kv.2) (r.nums.getD i (0, 0))) (fun i => vN (r.nums.getD i (0, 0)).1) (ev_num T S (ev_var rfl)) upd_same (by rw [kvN_len]; omega) (fun _ => rfl)
      (fun i kk y H2 e2 hi => ?_) (fun i kk y H2 e2 hi _ => ?_)
    · rw [kvN_len, given_filter r.nums (fun kv => kd.cnt r kv.1 q != kv.2) (fun kv => vN kv.1) (0, 0)] at key
      have em : vL (misM kd r q) = (r.nums.filter fun kv => kd.cnt r kv.1 q != kv.2).map fun kv => vN kv.1 := by
        unfold vL misM misfits; rw [List.map_map]; rfl
      rw [em]
      exact key
    · obtain ⟨n, v, hn, rfl, rfl⟩ := kvN_at hi
      have S2 := S.mono e2
      have hm : (n, v) ∈ r.nums := List.mem_of_getElem? hn
      rw [getD_of hn]
      have hlow := (ft.ok r g).low _ hm
      refine et_test (ev_is (ev_op (x := vN (kd.cnt r n q)) (y := vN v) (ev_meth (vs := [vN n, .ref p]) (ev_var rfl) S2.ins (rF_no d r (by decide +kernel)) (ea_cons (ev_var rfl) (ea_cons (ev_var rfl) ea_nil)) (spv_counted S2 g hlow (e2 _ _ hp1) hq))
        (ev_dget (ev_num T S2 (ev_var rfl)) (ev_var rfl) S2.nu (lookup_nodup (ft.ok r g).keys hm)) (rv_ne rfl)) ?_)
      rw [dec_int]
      congr 1
      exact bne_cast _ _
    · obtain ⟨n, v, hn, rfl, rfl⟩ := kvN_at hi
      rw [getD_of hn]
      exact ev_var rfl
end
end Rd
set_option linter.all false
set_option maxRecDepth 100000
set_option maxHeartbeats 2000000
namespace Rd
open PySem PySem.Spec PyProof.Rows L2 Evl
/-! ### a comprehension over a list of lists -/
theorem pick_refs {H : Hp} {as : List Addr} {xss : List (List Nat)} (h : LLs H as xss) (f : List Nat → Bool) :
    ∃ as' : List Addr, given as.length (fun i => f (xss.getD i [])) (fun i => V.ref (as.getD i 0)) = as'.map V.ref ∧ LLs H as' (xss.filter f) := by
  have hl := h.length
  refine ⟨((List.range as.length).filter fun i => f (xss.getD i [])).map fun i => as.getD i 0, by unfold given; rw [List.map_map]; rfl, ?_⟩
  have e : xss.filter f = ((List.range as.length).filter fun i => f (xss.getD i [])).map fun i => xss.getD i [] := by
    rw [hl]
    conv => lhs; rw [← range_getD xss [], List.filter_map]
    rfl
  rw [e]
  have gen : ∀ l : List Nat, (∀ i ∈ l, i < as.length) → LLs H (l.map fun i => as.getD i 0) (l.map fun i => xss.getD i []) := by
    intro l
    induction l with
    | nil => intro _; exact .nil
    | cons i l ih =>
      intro hi
      refine .cons ?_ (ih fun j hj => hi j (List.mem_cons_of_mem _ hj))
      have hlt := hi i List.mem_cons_self
      obtain ⟨b, hb, r⟩ := Paired.get h (i := i) (a := as[i]) (List.getElem?_eq_getElem hlt)
      show H (as.getD i 0) = some (.lst (vL (xss.getD i [])))
      rw [getD_of (List.getElem?_eq_getElem hlt), getD_of hb]
      exact r
  exact gen _ fun i hi => List.mem_range.mp (List.mem_filter.mp hi).1
theorem szB {n : Nat} (h : n ≤ 100000) : n < sizeLine := Nat.lt_of_le_of_lt h (by decide)
section
variable {σ : L2.St} {H : Hp} {te tl : TE} {t : TT} {K : PySem.W.Frag}
/-- a comprehension over a list of up to a hundred thousand -/
theorem el_lcB {a : Addr} {xs : List V} {j : Nat} {vs : List Nat} (f : Nat → Bool) (v : Nat → V) (h : Ev tl σ H (.ref a)) (hx : SqL K H a xs) (hz : xs.length ≤ 99999) (hw : ∀ x, wipe ((wipe σ vs).set j (some x)) vs = wipe σ vs)
    (ht : ∀ (i : Nat) (x : V) H1, Ex H H1 → xs[i]? = some x → EvT t ((wipe σ vs).set j (some x)) H1 (f i)) (he : ∀ (i : Nat) (x : V) H1, Ex H H1 → xs[i]? = some x → f i = true → Ev te ((wipe σ vs).set j (some x)) H1 (v i)) :
    EvL (tLc (iList K tl) (gName j) t te vs) σ H (given xs.length f v) := fun H0 e Q q => h H0 e _ fun H1 e1 => ⟨a, rfl, ⟨xs, ex_l (e.trans e1) hx⟩, fun Dl hD =>
  lc_list (xs := xs) (fun i H' => Ex H1 H' ∧ H' Dl = some (.lst (given i f v))) ⟨Ex.new hD, upd_same⟩ (fun i H' _ p => ex_l ((e.trans e1).trans p.1) hx) (fun i x H' hi p => ⟨hw x, by
    have hlt : i < xs.length := (List.getElem?_eq_some_iff.mp hi).1
    refine ht i x H1 (e.trans e1) hi H' p.1 _ fun H3 e3 => ?_
    cases hf : f i with
    | true =>
      simp only [if_true]
      refine he i x H1 (e.trans e1) hi hf H3 (p.1.trans e3) _ fun H4 e4 => ⟨given i f v, e4 Dl _ (e3 Dl _ p.2), szB (by have := given_len i f v; omega), Ex.mut ((p.1.trans e3).trans e4) hD, ?_⟩
      rw [given_yes hf]
      exact upd_same
    | false =>
      simp only [Bool.false_eq_true, if_false]
      refine ⟨p.1.trans e3, ?_⟩
      rw [given_no hf]
      exact e3 Dl _ p.2⟩)
    (fun H' p => q Dl H' (fresh_back e1 hD) (e1.trans p.1) p.2)⟩
/-- over such a list, values alone -/
theorem el_lcLL {xss : List (List Nat)} {j : Nat} {vs : List Nat} (f : List Nat → Bool) (v : List Nat → V) (h : EvP tl σ H (IsLL xss)) (hz : xss.length ≤ 99999) (hw : ∀ x, wipe ((wipe σ vs).set j (some x)) vs = wipe σ vs)
    (ht : ∀ (a : Addr) (q : List Nat) H1, Ex H H1 → H1 a = some (.lst (vL q)) → q ∈ xss → EvT t ((wipe σ vs).set j (some (.ref a))) H1 (f q))
    (he : ∀ (a : Addr) (q : List Nat) H1, Ex H H1 → H1 a = some (.lst (vL q)) → q ∈ xss → f q = true → Ev te ((wipe σ vs).set j (some (.ref a))) H1 (v q)) :
    EvL (tLc (iList K tl) (gName j) t te vs) σ H ((xss.filter f).map v) := fun H1 e Q k => h H1 e _ fun w H2 e2 ⟨p, as, ew, hp, hl⟩ => by
  subst ew
  have hlen := hl.length
  have key := el_lcB (K := K) (a := p) (xs := as.map V.ref) (tl := tC (.ref p)) (σ := σ) (H := H2) (t := t) (te := te) (j := j) (vs := vs) (fun i => f (xss.getD i [])) (fun i => v (xss.getD i [])) ev_c (SqL.of hp) (by rw [List.length_map]; omega) hw
    (fun i x H3 e3 hi => by
      rw [List.getElem?_map] at hi
      cases ea : as[i]? with
      | none => rw [ea] at hi; cases hi
      | some a =>
        rw [ea] at hi
        obtain ⟨q, hq, r⟩ := Paired.get hl ea
        have : x = .ref a := (Option.some.inj hi).symm
        rw [this, getD_of hq]
        exact ht a q H3 ((e.trans e2).trans e3) (e3 _ _ r) (List.mem_of_getElem? hq))
    (fun i x H3 e3 hi hf => by
      rw [List.getElem?_map] at hi
      cases ea : as[i]? with
      | none => rw [ea] at hi; cases hi
      | some a =>
        rw [ea] at hi
        obtain ⟨q, hq, r⟩ := Paired.get hl ea
        have : x = .ref a := (Option.some.inj hi).symm
        rw [getD_of hq] at hf
        rw [this, getD_of hq]
        exact he a q H3 ((e.trans e2).trans e3) (e3 _ _ r) (List.mem_of_getElem? hq) hf)
  rw [List.length_map, hlen, given_filter xss f v []] at key
  exact key H2 (Ex.refl H2) Q fun p2 H3 hp2 e3 h3 => k p2 H3 (fresh_back e2 hp2) (e2.trans e3) h3
/-- those of them that .. -/
theorem ep_lcLL {xss : List (List Nat)} {j : Nat} {vs : List Nat} (f : List Nat → Bool) (h : EvP tl σ H (IsLL xss)) (hz : xss.length ≤ 99999) (hw : ∀ x, wipe ((wipe σ vs).set j (some x)) vs = wipe σ vs) (hj : ∀ x : V, ((wipe σ vs).set j (some x))[j]? = some (some x))
    (ht : ∀ (a : Addr) (q : List Nat) H1, Ex H H1 → H1 a = some (.lst (vL q)) → q ∈ xss → EvT t ((wipe σ vs).set j (some (.ref a))) H1 (f q)) :
    EvP (tLc (iList K tl) (gName j) t (tVar j) vs) σ H (IsLL (xss.filter f)) := fun H1 e Q k => h H1 e _ fun w H2 e2 ⟨p, as, ew, hp, hl⟩ => by
  subst ew
  have hlen := hl.length
  have key := el_lcB (K := K) (a := p) (xs := as.map V.ref) (tl := tC (.ref p)) (σ := σ) (H := H2) (t := t) (te := tVar j) (j := j) (vs := vs) (fun i => f (xss.getD i [])) (fun i => V.ref (as.getD i 0)) ev_c (SqL.of hp) (by rw [List.length_map]; omega) hw
    (fun i x H3 e3 hi => by
      rw [List.getElem?_map] at hi
      cases ea : as[i]? with
      | none => rw [ea] at hi; cases hi
      | some a =>
        rw [ea] at hi
        obtain ⟨q, hq, r⟩ := Paired.get hl ea
        have : x = .ref a := (Option.some.inj hi).symm
        rw [this, getD_of hq]
        exact ht a q H3 ((e.trans e2).trans e3) (e3 _ _ r) (List.mem_of_getElem? hq))
    (fun i x H3 e3 hi hf => by
      rw [List.getElem?_map] at hi
      cases ea : as[i]? with
      | none => rw [ea] at hi; cases hi
      | some a =>
        rw [ea] at hi
        have : x = .ref a := (Option.some.inj hi).symm
        rw [this, getD_of ea]
        exact ev_var (hj _))
  obtain ⟨as', e', l'⟩ := pick_refs hl f
  rw [List.length_map, e'] at key
  exact key H2 (Ex.refl H2) Q fun p2 H3 hp2 e3 h3 => k (.ref p2) H3 (e2.trans e3) ⟨p2, as', rfl, h3, l'.mono e3⟩
theorem ev_cb1L {r : List V → Hp → VK → Prop} {xs : List V} {z : V} (h : EvL te σ H xs) (hr : ∀ p H1, Ex H H1 → H1 p = some (.lst xs) → ∀ Q : VK, (∀ H2, Ex H1 H2 → Q z H2) → r [.ref p] H1 Q) : Ev (tCB r (tCons te tNil)) σ H z := fun H1 e Q q =>
  h H1 e _ fun p H2 _ e2 hp => hr p H2 (e.trans e2) hp Q fun H3 e3 => q H3 (e2.trans e3)
theorem et_truthL {xs : List V} {ta : TE} (h : EvL ta σ H xs) : EvT (fun σ H Q => ta σ H fun x H' => ∃ k, TruV K x H' k ∧ Q k H') σ H (!xs.isEmpty) := fun H1 e Q q =>
  h H1 e _ fun p H2 _ e2 hp => ⟨_, .inl ⟨xs, sq_of hp, rfl⟩, q H2 e2⟩
end
/-! ### ways -/
def waysM (kd : Kind) (r : R) : List (List Nat) := (kd.sets r).filter fun q => (misM kd r q).isEmpty
def spWays (C : Addr) (kd : Kind) : Sp := fun vs H Q _ => ∃ (x : Addr) (d : Ad) (r : R), vs = [.ref x] ∧ Own C H x d r ∧ kd.good r ∧ RetP (IsLL (waysM kd r)) H Q
theorem spp_ways {C : Addr} {kd : Kind} {H : Hp} {x : Addr} {d : Ad} {r : R} (S : Own C H x d r) (g : kd.good r) : SpP (spWays C kd) [.ref x] H (IsLL (waysM kd r)) := fun H1 e Q k E => ⟨x, d, r, rfl, S.mono e, g, k⟩
abbrev sWays : Stmt := inClass (top 9) 10
abbrev nWays : List Str := ["self", "setting"]
theorem scWays : FnScope nWays ["self"] (defScope sWays) := ⟨rfl, rfl, rfl, by decide +kernel, rfl, by decide +kernel, by decide +kernel⟩
section
variable {P : Program} {w : World} {K : PySem.W.Frag} {mg : Str → Option Value} {base : Heap} {C : Addr} {kd : Kind}
abbrev tMis (K : PySem.W.Frag) (C : Addr) (kd : Kind) (i : Nat) : TT := tNot (fun σ H Q => tMeth C "misfits" (spMisfits C kd) [] E0 (tVar 0) (tCons (tVar i) tNil) σ H fun x H' => ∃ k, TruV K x H' k ∧ Q k H')
theorem et_mis {σ : L2.St} {H : Hp} {x : Addr} {d : Ad} {r : R} {i : Nat} {a : Addr} {q : List Nat} (O : Own C H x d r) (g : kd.good r) (s0 : σ[0]? = some (some (.ref x))) (si : σ[i]? = some (some (.ref a))) (ha : H a = some (.lst (vL q))) (hq : q.length ≤ 25) :
    EvT (tMis K C kd i) σ H (misM kd r q).isEmpty := by
  have := et_not (et_truthL (K := K) (el_meth (vs := [.ref a]) (m := "misfits") (E := E0) (ev_var s0) O.seen.ins (rF_no d r (by decide +kernel)) (ea_cons (ev_var si) ea_nil) (spl_misfits O g ha hq)))
  refine et_is this ?_
  cases misM kd r q <;> rfl
theorem ok_ways {f : Addr} {fd : FuncData} (F : Fun K "ways" "Riddle.ways" sWays f fd) (T : RC K C) (ft : kd.Fits) (mS : Mt P w K mg base C 4 "settings" ["self"] (spSettings C kd)) (mM : Mt P w K mg base C 3 "misfits" ["self", "setting"] (spMisfits C kd)) :
    FnOk P w K mg base CX0 5 f fd ["self"] (spWays C kd) := by
  refine F.ok scWays (fun vs H Q E h => ?_) (fun cdv A outer s H vs Q E hr h => ?_)
  · obtain ⟨x, d, r, rfl, _⟩ := h; rfl
  · obtain ⟨f1, fd1, M1, G1, B1⟩ := mS
    obtain ⟨f2, fd2, M2, G2, B2⟩ := mM
    refine ⟨_, pss_one (ps_ret (pe_lc (own := [("setting", 1)]) (g := gName 1) (tt := tMis K C kd 1) (te := tVar 1) rfl scWays.nd (pi_list (pe_meth0 (pv 0) T.cl M1 G1 hr B1 .nil pass0)) (blkOk_by (N := nWays) (sc := defScope sWays) (by decide +kernel))
      (fun _ _ _ _ _ => pg_name (i := 1) scWays.nd rfl (Or.inl rfl))
      (fun _ _ _ _ _ => pts_one (pt_not (pt_truth (pe_meth (pv 0) T.cl M2 G2 (hr.mono (by decide)) B2 .nil pass0 (pa_cons (pv 1) pa_nil)) (by intro _; rfl)))) (fun _ _ _ _ _ => pv 1))), ?_⟩
    obtain ⟨x, d, r, rfl, O, g, k⟩ := h
    have S := O.seen
    refine s_retP (ep_lcLL (fun q => (misM kd r q).isEmpty) (ep_meth (vs := []) (ev_var rfl) S.ins (rF_no d r (by decide +kernel)) ea_nil (spp_settings S g)) (Nat.le_trans (ft.few r g) (by decide)) (fun _ => rfl) (fun _ => rfl) fun a q H1 e1 ha hq => ?_) k
    exact et_mis (O.mono e1) g rfl rfl ha (ft.short r g q hq)
end
/-! ### meets_all -/
def spMeets : Sp := fun vs H Q _ => ∃ (a p : Addr) (as : List Addr) (c : List Nat) (cl : List (List Nat)), vs = [.ref a, .ref p] ∧ H a = some (.lst (vL c)) ∧ H p = some (.lst (as.map V.ref)) ∧ LLs H as cl ∧ (∀ q ∈ cl, q.length ≤ 25) ∧ RetV (.bl (meetsAll c cl)) H Q
abbrev sMeets : Stmt := top 10
abbrev nMeets : List Str := ["choice", "clashes", "clash", "number"]
theorem scMeets : FnScope nMeets ["choice", "clashes"] (defScope sMeets) := ⟨rfl, rfl, rfl, by decide +kernel, rfl, by decide +kernel, by decide +kernel⟩
section
variable {P : Program} {w : World} {K : PySem.W.Frag} {mg : Str → Option Value} {base : Heap}
theorem any_map_id (l : List Nat) (f : Nat → Bool) : (l.map f).any id = l.any f := by rw [List.any_map]; rfl
theorem ok_meets {f : Addr} {fd : FuncData} (F : Fun K "meets_all" "meets_all" sMeets f fd) (gA : mg "any" = none) : FnOk P w K mg base CX0 1 f fd ["choice", "clashes"] spMeets := by
  refine F.ok scMeets (fun vs H Q E h => ?_) (fun cdv A outer s H vs Q E hr h => ?_)
  · obtain ⟨a, p, as, c, cl, rfl, _⟩ := h; rfl
  · refine ⟨_, pss_cons (ps_for PassesOwn.never rfl (pi_list (pv 1)) (pg_name (i := 2) scMeets.nd rfl (Or.inl rfl))
        (pss_one (ps_if (pt_not (pt_val (pe_callB (cr_any rfl) (by rfl) gA (by decide +kernel) (pa_cons
          (pe_lc (own := [("number", 3)]) (g := gName 3) (tt := tYes) (te := tOp (rIn K false) (tVar 3) (tVar 0)) rfl scMeets.nd (pi_list (pv 2)) (blkOk_by (N := nMeets) (sc := defScope sMeets) (by decide +kernel))
            (fun _ _ _ _ _ => pg_name (i := 3) scMeets.nd rfl (Or.inl rfl)) (fun _ _ _ _ _ => pts_nil) (fun _ _ _ _ _ => pe_cmpR op_in_seq (pv 3) (pv 0) (by rfl))) pa_nil))))
          (pss_one (ps_ret pe_bl)) pss_nil)))
      (pss_one (ps_ret pe_bl)), ?_⟩
    obtain ⟨a, p, as, c, cl, rfl, ha, hp, hl, hs, k⟩ := h
    have hlen := hl.length
    refine q_forLn (a := p) (xs := as.map V.ref) (ev_var rfl) (sq_of hp) (fun i σ' H' => ∃ v2 v3 : Option V, σ' = [some (.ref a), some (.ref p), v2, v3] ∧ Ex H H' ∧ meetsAll c (cl.take i) = true)
      (fun H1 e1 => ⟨none, none, rfl, e1, rfl⟩) (fun i σ' H' _ ⟨_, _, _, e, _⟩ => sq_of (e _ _ hp)) ?_ ?_
    · rintro i y σ' H' hi ⟨v2, v3, rfl, e1, hm⟩
      rw [List.getElem?_map] at hi
      cases ea : as[i]? with
      | none => rw [ea] at hi; cases hi
      | some b =>
        rw [ea] at hi
        obtain ⟨q, hq, r⟩ := Paired.get hl ea
        obtain rfl : y = .ref b := (Option.some.inj hi).symm
        have more : meetsAll c (cl.take (i + 1)) = (q.any fun n => c.contains n) := by
          rw [take_more hq]
          unfold meetsAll at hm ⊢
          rw [List.all_append, hm]; simp
        have ql := hs q (List.mem_of_getElem? hq)
        have hb := e1 _ _ r
        have key := el_lcL (K := K) (a := b) (xs := vL q) (tl := tVar 2) (t := tYes) (te := tOp (rIn K false) (tVar 3) (tVar 0)) (σ := [some (.ref a), some (.ref p), some (.ref b), v3]) (H := H') (j := 3) (vs := [3]) (fun _ => true) (fun i => .bl (c.contains (q.getD i 0))) (ev_var rfl) (sq_of hb) (by rw [vL_len]; omega) (fun _ => rfl)
          (fun i x H2 e2 _ => fun H3 e3 Q k => k H3 (Ex.refl H3))
          (fun i x H2 e2 hi _ => by
            obtain ⟨n, hn, rfl⟩ := vL_get_some hi
            rw [getD_of hn]
            exact ev_is (ev_op (ev_var rfl) (ev_var rfl) (rv_isL (sq_of (e2 _ _ (e1 _ _ ha))) rfl (flat_vL _))) (by rw [inV_vL]))
        rw [vL_len, given_filter q (fun _ => true) (fun n => .bl (c.contains n)) 0] at key
        have ek : (q.filter fun _ => true).map (fun n => V.bl (c.contains n)) = (q.map fun n => c.contains n).map V.bl := by rw [keepAll, List.map_map]; rfl
        rw [ek] at key
        have ev : Ev (tCB (rAny K) (tCons (tLc (iList K (tVar 2)) (gName 3) tYes (tOp (rIn K false) (tVar 3) (tVar 0)) [3]) tNil)) [some (.ref a), some (.ref p), some (.ref b), v3] H' (.bl (q.any fun n => c.contains n)) :=
          ev_cb1L key fun p2 H3 e3 h3 Q kk => ⟨p2, _, rfl, sq_of h3, by rw [any_map_id]; exact kk H3 (Ex.refl H3)⟩
        refine s_when (et_not (et_B ev)) (fun hb H2 e2 => ?_) (fun hb H2 e2 => ?_)
        · refine s_ret ev_c fun H3 e3 => ?_
          have : meetsAll c cl = false := by
            have hb : (q.any fun n => c.contains n) = false := by simpa using hb
            unfold meetsAll
            rw [Bool.eq_false_iff]
            intro h
            rw [List.all_eq_true] at h
            have := h q (List.mem_of_getElem? hq)
            rw [hb] at this; cases this
          rw [this] at k
          exact k H3 ((e1.trans e2).trans e3)
        · exact ⟨_, _, rfl, e1.trans e2, by rw [more]; simpa using hb⟩
    · rintro σ' H' ⟨v2, v3, rfl, e1, hm⟩
      rw [List.length_map, hlen, List.take_length] at hm
      refine s_ret ev_c fun H3 e3 => ?_
      rw [hm] at k
      exact k H3 (e1.trans e3)
end
end Rd
set_option linter.all false
set_option maxRecDepth 100000
set_option maxHeartbeats 2000000
namespace Rd
open PySem PySem.Spec PyProof.Rows L2 Evl
section
variable {σ : L2.St} {H : Hp} {ta tb te tl : TE} {t : TT} {K : PySem.W.Frag}
/-- xs + ys -/
theorem el_cat {l : Addr} {xs ys : List V} (ha : Ev ta σ H (.ref l)) (hl : H l = some (.lst xs)) (hb : EvL tb σ H ys) (hz : xs.length + ys.length ≤ 100000) : EvL (tOp rCat ta tb) σ H (xs ++ ys) := fun H1 e Q q =>
  ha H1 e _ fun H2 e2 => hb H2 (e.trans e2) _ fun b H3 hb e3 h3 => ⟨l, b, xs, ys, rfl, rfl, ((e.trans e2).trans e3) _ _ hl, h3, sz_of hz, fun p hp => q p _ (fresh_back (e2.trans e3) hp) ((e2.trans e3).trans (Ex.new hp)) upd_same⟩
theorem el_catL {xs ys : List V} (ha : EvL ta σ H xs) (hb : EvL tb σ H ys) (hz : xs.length + ys.length ≤ 100000) : EvL (tOp rCat ta tb) σ H (xs ++ ys) := fun H1 e Q q =>
  ha H1 e _ fun l H2 _ e2 hl => hb H2 (e.trans e2) _ fun b H3 hb e3 h3 => ⟨l, b, xs, ys, rfl, rfl, e3 _ _ hl, h3, sz_of hz, fun p hp => q p _ (fresh_back (e2.trans e3) hp) ((e2.trans e3).trans (Ex.new hp)) upd_same⟩
/-- e1 + xs -/
theorem el_catR {l : Addr} {xs ys : List V} (ha : EvL ta σ H xs) (hb : Ev tb σ H (.ref l)) (hl : H l = some (.lst ys)) (hz : xs.length + ys.length ≤ 100000) : EvL (tOp rCat ta tb) σ H (xs ++ ys) := fun H1 e Q q =>
  ha H1 e _ fun a H2 _ e2 h2 => hb H2 (e.trans e2) _ fun H3 e3 => ⟨a, l, xs, ys, rfl, rfl, e3 _ _ h2, ((e.trans e2).trans e3) _ _ hl, sz_of hz, fun p hp => q p _ (fresh_back (e2.trans e3) hp) ((e2.trans e3).trans (Ex.new hp)) upd_same⟩
end
/-! ### one_longer -/
def longer1 (c ts : List Nat) : List (List Nat) := oneLonger [c] ts
def after (c : List Nat) (n : Nat) : Bool := match c.getLast? with
  | none => true
  | some l => decide (l < n)
theorem longer1_append (c a b : List Nat) : longer1 c (a ++ b) = longer1 c a ++ longer1 c b := by simp [longer1, oneLonger]
theorem longer1_one (c : List Nat) (n : Nat) : longer1 c [n] = if after c n = true then [c ++ [n]] else [] := by
  unfold longer1 oneLonger after
  cases h : c.getLast? with
  | none => simp [h]
  | some l =>
    simp only [List.flatMap_cons, List.flatMap_nil, List.append_nil, h, List.filter_cons, List.filter_nil]
    split <;> simp_all
def spLonger : Sp := fun vs H Q _ => ∃ (p t : Addr) (as : List Addr) (cs : List (List Nat)) (told : List Nat), vs = [.ref p, .ref t] ∧ H p = some (.lst (as.map V.ref)) ∧ LLs H as cs ∧ H t = some (.lst (vL told)) ∧ (∀ c ∈ cs, c.length ≤ 25) ∧ (oneLonger cs told).length < 100000 ∧ RetP (IsLL (oneLonger cs told)) H Q
abbrev sLonger : Stmt := top 11
abbrev nLonger : List Str := ["choices", "told", "longer", "choice", "number"]
theorem scLonger : FnScope nLonger ["choices", "told"] (defScope sLonger) := ⟨rfl, rfl, rfl, by decide +kernel, rfl, by decide +kernel, by decide +kernel⟩
theorem atI_lastN (c : List Nat) (l : Nat) (h : c.getLast? = some l) : atI (vL c) (-1) = some (vN l) := by
  obtain ⟨a, rfl⟩ : ∃ a, c = a ++ [l] := by
    rw [List.getLast?_eq_some_iff] at h
    obtain ⟨a, rfl⟩ := h
    exact ⟨a, rfl⟩
  rw [vL_append]
  exact atI_last _ _
section
variable {P : Program} {w : World} {K : PySem.W.Frag} {mg : Str → Option Value} {base : Heap}
theorem ok_longer {f : Addr} {fd : FuncData} (F : Fun K "one_longer" "one_longer" sLonger f fd) : FnOk P w K mg base CX0 1 f fd ["choices", "told"] spLonger := by
  refine F.ok scLonger (fun vs H Q E h => ?_) (fun cdv A outer s H vs Q E hr h => ?_)
  · obtain ⟨p, t, as, cs, told, rfl, _⟩ := h; rfl
  · refine ⟨_, pss_cons (ps_set (i := 2) scLonger.nd rfl (Or.inl rfl) (pe_lst pa_nil))
      (pss_cons (ps_for PassesOwn.never rfl (pi_list (pv 0)) (pg_name (i := 3) scLonger.nd rfl (Or.inl rfl))
        (pss_one (ps_for PassesOwn.never rfl (pi_list (pv 1)) (pg_name (i := 4) scLonger.nd rfl (Or.inl rfl))
          (pss_one (ps_if (PW.pt (pw_or (pt_not (pt_truth (pv 3) (by intro _; rfl))) (pw_or1 (pt_cmpR op_gt (pv 4) (pe_ix ix_list (pv 3) (pe_un un_neg pe_int) (fun _ _ => rfl)) (nomark _)))))
            (pss_one (ps_expr (pe_bm PySem.F.plainAttrs_list PySem.F.slot_list_append PySem.F.type_list_append mt_append (pv 2) (pa_cons (pe_op op_cat (pv 3) (pe_lst (pa_cons (pv 4) pa_nil))) pa_nil))))
            pss_nil)))))
      (pss_one (ps_ret (pv 2)))), ?_⟩
    obtain ⟨p, t, as, cs, told, rfl, hp, hl, ht, hc, hz, k⟩ := h
    have hlen := hl.length
    refine q_asgL (el_lst ea_nil (by decide)) fun L H1 hL e1 h1 => ?_
    refine q_forLn (a := p) (xs := as.map V.ref) (ev_var rfl) (sq_of (e1 _ _ hp)) (fun i σ' H' => ∃ (v3 v4 : Option V) (as' : List Addr), σ' = [some (.ref p), some (.ref t), some (.ref L), v3, v4] ∧ Ex H H' ∧ H' L = some (.lst (as'.map V.ref)) ∧ L ∉ as' ∧ LLs H' as' (oneLonger (cs.take i) told))
      (fun H2 e2 => ⟨none, none, [], rfl, e1.trans e2, e2 _ _ h1, by simp, .nil⟩) (fun i σ' H' _ ⟨_, _, _, _, e, _⟩ => sq_of (e _ _ hp)) ?_ ?_
    · rintro i y σ' H' hi ⟨v3, v4, as', rfl, e2, h2, hn, hll⟩
      rw [List.getElem?_map] at hi
      cases ea : as[i]? with
      | none => rw [ea] at hi; cases hi
      | some b =>
        rw [ea] at hi
        obtain ⟨c, hcc, r⟩ := Paired.get hl ea
        obtain rfl : y = .ref b := (Option.some.inj hi).symm
        have hbL : b ≠ L := ne_of_none r hL
        have hc25 := hc c (List.mem_of_getElem? hcc)
        have more : oneLonger (cs.take (i + 1)) told = oneLonger (cs.take i) told ++ longer1 c told := by rw [take_more hcc, oneLonger_append]; rfl
        refine s_forLn (a := t) (xs := vL told) (ev_var rfl) (sq_of (e2 _ _ ht)) (fun k σ' H' => ∃ (v4 : Option V) (as' : List Addr), σ' = [some (.ref p), some (.ref t), some (.ref L), some (.ref b), v4] ∧ Ex H H' ∧ H' L = some (.lst (as'.map V.ref)) ∧ L ∉ as' ∧ LLs H' as' (oneLonger (cs.take i) told ++ longer1 c (told.take k)))
          (fun H3 e3 => ⟨v4, as', rfl, e2.trans e3, e3 _ _ h2, hn, by rw [List.take_zero, show longer1 c [] = [] from rfl, List.append_nil]; exact hll.mono e3⟩) (fun k σ' H' _ ⟨_, _, _, e, _⟩ => sq_of (e _ _ ht)) ?_ ?_
        · rintro k y σ' H3 hk ⟨v4', as3, rfl, e3, h3, hn3, hl3⟩
          obtain ⟨n, hkn, rfl⟩ := vL_get_some hk
          have hb3 := e3 _ _ r
          have em : longer1 c (told.take (k + 1)) = longer1 c (told.take k) ++ longer1 c [n] := by rw [take_more hkn, longer1_append]
          have lenb : (oneLonger (cs.take i) told ++ longer1 c (told.take (k + 1))).length ≤ (oneLonger cs told).length := by
            have q1 : oneLonger cs told = oneLonger (cs.take (i + 1)) told ++ oneLonger (cs.drop (i + 1)) told := by rw [← oneLonger_append, List.take_append_drop]
            have q2 : longer1 c told = longer1 c (told.take (k + 1)) ++ longer1 c (told.drop (k + 1)) := by rw [← longer1_append, List.take_append_drop]
            rw [q1, more, q2]
            simp only [List.length_append]
            omega
          have las : as3.length < 100000 := by
            have := hl3.length
            rw [em, List.length_append, List.length_append] at lenb
            rw [List.length_append] at this
            omega
          have go : EvT (tOr (tNot fun σ H Q => tVar 3 σ H fun x H' => ∃ k, TruV K x H' k ∧ Q k H') (tTest (tOp (rI0 fun i j => V.bl (decide (j < i))) (tVar 4) (tOp (rIxL K) (tVar 3) (tUn (rU fun i => .int (-i)) (tC (.int 1)))))))
              [some (.ref p), some (.ref t), some (.ref L), some (.ref b), some (vN n)] H3 (after c n) := by
            have h1 : EvT (tNot fun σ H Q => tVar 3 σ H fun x H' => ∃ k, TruV K x H' k ∧ Q k H') [some (.ref p), some (.ref t), some (.ref L), some (.ref b), some (vN n)] H3 c.isEmpty :=
              et_is (et_not (et_truth_l (K := K) (k := true) (xs := vL c) (ev_var rfl) (sq_of hb3))) (by cases c <;> rfl)
            cases hgl : c.getLast? with
            | none =>
              have : c = [] := by simpa using hgl
              subst this
              exact et_is (et_or (b := true) h1 (fun z => by cases z)) rfl
            | some l =>
              have hne : c.isEmpty = false := by
                cases c with
                | nil => cases hgl
                | cons _ _ => rfl
              refine et_is (et_or (b := decide (l < n)) h1 fun _ => et_test (ev_is (ev_op (x := vN n) (y := vN l) (ev_var rfl) (ev_op (y := .int (-1)) (ev_var rfl) (ev_un (x := .int 1) ev_c ru_neg) (rv_ixL (sq_of hb3) (atI_lastN c l hgl))) rv_I0) ?_)) ?_
              · show V.bl (decide ((l : Int) < (n : Int))) = V.bl (decide (l < n))
                congr 1
                exact decide_eq_decide.mpr Int.ofNat_lt
              · rw [hne]; unfold after; rw [hgl]; rfl
          refine s_when go (fun hb H4 e4 => ?_) (fun hb H4 e4 => ?_)
          · have l1 : longer1 c [n] = [c ++ [n]] := by rw [longer1_one, if_pos hb]
            refine s_appL (l := L) (xs := as3.map V.ref) (ys := vL (c ++ [n])) (e4 _ _ h3) (ev_var rfl) ?_ (by rw [List.length_map]; exact las) fun q H5 hq e5 h5 => ?_
            · rw [vL_append]
              exact el_cat (l := b) (xs := vL c) (ys := [vN n]) (ev_var rfl) (e4 _ _ hb3) (el_lst (ea_cons (ev_var rfl) ea_nil) (by show 1 ≤ 100000; decide)) (by rw [vL_len]; show c.length + 1 ≤ 100000; omega)
            · have qL : q ≠ L := fun z => by rw [z] at hq; rw [e4 _ _ h3] at hq; cases hq
              have Hq : H q = none := fresh_back (e3.trans e4) hq
              refine ⟨_, as3 ++ [q], rfl, ?_, ?_, ?_, ?_⟩
              · exact Ex.mut ((e3.trans e4).trans e5) (show H L = none from hL)
              · rw [upd_same, List.map_append]; rfl
              · intro z
                rcases List.mem_append.mp z with z | z
                · exact hn3 z
                · simp at z; exact qL z.symm
              · rw [em, l1, ← List.append_assoc]
                refine Paired.snoc ?_ ?_
                · exact (hl3.mono (e4.trans e5)).upd hn3
                · rw [upd_ne qL]; exact h5
          · have l1 : longer1 c [n] = [] := by rw [longer1_one, if_neg (by rw [hb]; decide)]
            refine ⟨_, as3, rfl, e3.trans e4, e4 _ _ h3, hn3, ?_⟩
            rw [em, l1, List.append_nil]
            exact hl3.mono e4
        · rintro σ' H3 ⟨v4', as3, rfl, e3, h3, hn3, hl3⟩
          rw [vL_len, List.take_length] at hl3
          exact ⟨_, _, as3, rfl, e3, h3, hn3, by rw [more]; exact hl3⟩
    · rintro σ' H' ⟨v3, v4, as', rfl, e2, h2, hn, hll⟩
      rw [List.length_map, hlen, List.take_length] at hll
      exact s_ret (ev_var rfl) fun H3 e3 => k _ H3 (e2.trans e3) ⟨L, as', rfl, e3 _ _ h2, hll.mono e3⟩
end
end Rd
set_option linter.all false
set_option maxRecDepth 100000
set_option maxHeartbeats 2000000
namespace Rd
open PySem PySem.Spec PyProof.Rows L2 Evl
/-- a new list of these lists -/
def EvLL (te : TE) (σ : L2.St) (H : Hp) (xss : List (List Nat)) : Prop := ∀ H1, Ex H H1 → ∀ Q : VK, (∀ (p : Addr) (as : List Addr) H2, H1 p = none → p ∉ as → Ex H1 H2 → H2 p = some (.lst (as.map V.ref)) → LLs H2 as xss → Q (.ref p) H2) → te σ H1 Q
section
variable {σ : L2.St} {H : Hp} {te tl : TE} {K : PySem.W.Frag} {D : Ends} {tz : TS}
theorem EvLL.P {xss : List (List Nat)} (h : EvLL te σ H xss) : EvP te σ H (IsLL xss) := fun H1 e Q k => h H1 e Q fun p as H2 _ _ e2 h2 l2 => k _ H2 e2 ⟨p, as, rfl, h2, l2⟩
theorem ell_map {xss : List (List Nat)} {j : Nat} {vs : List Nat} (f : List Nat → List Nat) (h : EvP tl σ H (IsLL xss)) (hz : xss.length ≤ 99999) (hw : ∀ x, wipe ((wipe σ vs).set j (some x)) vs = wipe σ vs)
    (he : ∀ (a : Addr) (q : List Nat) H1, Ex H H1 → H1 a = some (.lst (vL q)) → q ∈ xss → EvL te ((wipe σ vs).set j (some (.ref a))) H1 (vL (f q))) :
    EvLL (tLc (iList K tl) (gName j) tYes te vs) σ H (xss.map f) := fun H1 e Q k => h H1 e _ fun w H2 e2 ⟨p, as, ew, hp, hl⟩ => by
  subst ew
  have hlen := hl.length
  refine ⟨p, rfl, ⟨_, sq_of hp⟩, fun Dl hD => lc_list (K := K) (a := p) (xs := as.map V.ref) (fun i H' => ∃ as' : List Addr, Dl ∉ as' ∧ Ex H2 H' ∧ H' Dl = some (.lst (as'.map V.ref)) ∧ LLs H' as' ((xss.take i).map f)) ⟨[], by simp, Ex.new hD, upd_same, .nil⟩
    (fun i H' _ ⟨_, _, e3, _⟩ => sq_of (e3 _ _ hp)) ?_ ?_⟩
  · rintro i x H' hi ⟨as', hn, e3, h3, l3⟩
    rw [List.getElem?_map] at hi
    cases ea : as[i]? with
    | none => rw [ea] at hi; cases hi
    | some a =>
      rw [ea] at hi
      obtain ⟨q, hq, r⟩ := Paired.get hl ea
      obtain rfl : x = .ref a := (Option.some.inj hi).symm
      refine ⟨hw _, ?_⟩
      simp only [tYes, if_true]
      have hi' : i < xss.length := (List.getElem?_eq_some_iff.mp hq).1
      refine he a q H' ((e.trans e2).trans e3) (e3 _ _ r) (List.mem_of_getElem? hq) H' (Ex.refl H') _ fun b H4 hb e4 h4 => ?_
      have bD : b ≠ Dl := fun z => by rw [z, h3] at hb; cases hb
      have la : as'.length = ((xss.take i).map f).length := l3.length
      refine ⟨_, e4 _ _ h3, ?_, as' ++ [b], ?_, Ex.mut (e3.trans e4) hD, by rw [upd_same, List.map_append]; rfl, ?_⟩
      · rw [List.length_map, la, List.length_map]
        have := List.length_take_le' i xss
        exact sz_lt (by omega)
      · intro z
        rcases List.mem_append.mp z with z | z
        · exact hn z
        · simp at z; exact bD z.symm
      · rw [take_more hq, List.map_append]
        refine Paired.snoc ((l3.mono e4).upd hn) ?_
        rw [upd_ne bD]; exact h4
  · rintro H' ⟨as', hn, e3, h3, l3⟩
    rw [List.length_map, hlen, List.take_length] at l3
    exact k Dl as' H' (fresh_back e2 hD) hn (e2.trans e3) h3 l3
theorem q_asgLL {xss : List (List Nat)} {i : Nat} (h : EvLL te σ H xss) (k : ∀ (p : Addr) (as : List Addr) H1, H p = none → p ∉ as → Ex H H1 → H1 p = some (.lst (as.map V.ref)) → LLs H1 as xss → tz D (σ.set i (some (.ref p))) H1) : tSeq (tAsg te (gName i)) tz D σ H :=
  h H (Ex.refl H) _ fun p as H1 hp hn e h1 l1 => k p as H1 hp hn e h1 l1
end
/-! ### the fewest, by the program's search -/
def search (told : List Nat) (good : List Nat → Bool) : Option (List Nat) := (List.range (told.length + 1)).findSome? fun n => (level told n).find? good
theorem search_is {told : List Nat} {good : List Nat → Bool} {n : Nat} {c : List Nat} (hn : n ≤ told.length) (h0 : ∀ m < n, (level told m).find? good = none) (h : (level told n).find? good = some c) : search told good = some c := by
  unfold search
  have e : List.range (told.length + 1) = List.range n ++ (n :: (List.range (told.length - n)).map fun i => n + 1 + i) := by
    rw [show told.length + 1 = n + (told.length + 1 - n) by omega, List.range_add, show told.length + 1 - n = (told.length - n) + 1 by omega, List.range_succ_eq_map]
    simp only [List.map_cons, List.map_map, Nat.add_zero]
    congr 2
    apply List.map_congr_left
    intro i _
    simp only [Function.comp]; omega
  rw [e, List.findSome?_append]
  have : (List.range n).findSome? (fun n => (level told n).find? good) = none := by
    rw [List.findSome?_eq_none_iff]
    intro m hm
    exact h0 m (List.mem_range.mp hm)
  rw [this]
  simp [h]
/-- the told numbers, rising -/
def toldM (r : R) : List Nat := (r.nums.map (·.1)).foldl (fun m n => Sy64.insert n m) []
theorem foldl_insert : ∀ (xs m : List Nat), Rising m → Rising (xs.foldl (fun m n => Sy64.insert n m) m) ∧ ∀ y, y ∈ xs.foldl (fun m n => Sy64.insert n m) m ↔ y ∈ m ∨ y ∈ xs
  | [], m, h => ⟨h, by simp⟩
  | a :: xs, m, h => by
    obtain ⟨i1, i2⟩ := foldl_insert xs _ (insert_rising a m h)
    refine ⟨i1, fun y => ?_⟩
    rw [List.foldl_cons, i2, mem_insert, List.mem_cons]
    constructor
    · rintro ((h | h) | h) <;> simp [h]
    · rintro (h | h | h) <;> simp [h]
theorem toldM_rising (r : R) : Rising (toldM r) := (foldl_insert _ [] .nil).1
theorem mem_toldM (r : R) (n : Nat) : n ∈ toldM r ↔ n ∈ r.nums.map (·.1) := by
  unfold toldM; rw [(foldl_insert _ [] .nil).2]; simp
theorem toldM_perm {r : R} (o : r.Ok) : (toldM r).Perm (r.nums.map (·.1)) := by
  refine (List.perm_ext_iff_of_nodup (rising_nodup (toldM_rising r)) o.keys).mpr fun a => mem_toldM r a
theorem toldM_len {r : R} (o : r.Ok) : (toldM r).length = r.nums.length := by rw [(toldM_perm o).length_eq, List.length_map]
def clashM (kd : Kind) (r : R) : List (List Nat) := (kd.sets r).map (misM kd r)
def fewM (kd : Kind) (r : R) : Option (List Nat) := if (clashM kd r).count [] = 1 then search (toldM r) (fun k => meetsAll k ((clashM kd r).erase [])) else none
theorem told_good (kd : Kind) (r : R) (h : (clashM kd r).count [] = 1) : meetsAll (toldM r) ((clashM kd r).erase []) = true := by
  unfold meetsAll
  rw [List.all_eq_true]
  intro c hc
  cases c with
  | nil =>
    have := List.count_erase_self (a := ([] : List Nat)) (l := clashM kd r)
    have h2 : 0 < ((clashM kd r).erase []).count [] := List.count_pos_iff.mpr hc
    omega
  | cons n c =>
    have hm := List.mem_of_mem_erase hc
    obtain ⟨q, _, e⟩ := List.mem_map.mp hm
    rw [List.any_eq_true]
    refine ⟨n, List.mem_cons_self, ?_⟩
    rw [List.contains_iff_mem, mem_toldM]
    have : n ∈ misM kd r q := by rw [e]; exact List.mem_cons_self
    unfold misM misfits at this
    obtain ⟨kv, h1, h2⟩ := List.mem_map.mp this
    exact List.mem_map.mpr ⟨kv, (List.mem_filter.mp h1).1, h2⟩
def IsFew (o : Option (List Nat)) : V → Hp → Prop := fun v H => match o with
  | none => v = .non
  | some c => ∃ p, v = .ref p ∧ H p = some (.lst (vL c))
def spFew (C : Addr) (kd : Kind) : Sp := fun vs H Q _ => ∃ (x : Addr) (d : Ad) (r : R), vs = [.ref x] ∧ Own C H x d r ∧ kd.good r ∧ RetP (IsFew (fewM kd r)) H Q
theorem spp_few {C : Addr} {kd : Kind} {H : Hp} {x : Addr} {d : Ad} {r : R} (S : Own C H x d r) (g : kd.good r) : SpP (spFew C kd) [.ref x] H (IsFew (fewM kd r)) := fun H1 e Q k E => ⟨x, d, r, rfl, S.mono e, g, k⟩
abbrev sFew : Stmt := inClass (top 9) 11
abbrev nFew : List Str := ["self", "clashes", "told", "choices", "choice", "setting"]
theorem scFew : FnScope nFew ["self"] (defScope sFew) := ⟨rfl, rfl, rfl, by decide +kernel, rfl, by decide +kernel, by decide +kernel⟩
theorem sorted_ints {ys : List Int} {l : List Nat} (hp : ys.Perm (castL l)) (hs : ys.Pairwise (· ≤ ·)) (hl : Rising l) : ys = castL l := by
  refine List.Perm.eq_of_pairwise (le := (· ≤ ·)) ?_ hs ?_ hp
  · intro a b _ _ h1 h2; exact Int.le_antisymm h1 h2
  · unfold castL
    rw [List.pairwise_map]
    exact hl.imp fun h => Int.ofNat_le.mpr (Nat.le_of_lt h)
section
variable {P : Program} {w : World} {K : PySem.W.Frag} {mg : Str → Option Value} {base : Heap} {C : Addr} {kd : Kind}
theorem ok_few {f : Addr} {fd : FuncData} (F : Fun K "fewest_told" "Riddle.fewest_told" sFew f fd) (T : RC K C) (ft : kd.Fits) (gS : mg "sorted" = none) (mS : Mt P w K mg base C 4 "settings" ["self"] (spSettings C kd)) (mM : Mt P w K mg base C 3 "misfits" ["self", "setting"] (spMisfits C kd))
    (mA : Gf P w K mg base 1 "meets_all" ["choice", "clashes"] spMeets) (mL : Gf P w K mg base 1 "one_longer" ["choices", "told"] spLonger) : FnOk P w K mg base CX0 5 f fd ["self"] (spFew C kd) := by
  refine F.ok scFew (fun vs H Q E h => ?_) (fun cdv A outer s H vs Q E hr h => ?_)
  · obtain ⟨x, d, r, rfl, _⟩ := h; rfl
  · obtain ⟨f1, fd1, M1, G1, B1⟩ := mS
    obtain ⟨f2, fd2, M2, G2, B2⟩ := mM
    obtain ⟨f3, fd3, g3, k3, G3, B3⟩ := mA
    obtain ⟨f4, fd4, g4, k4, G4, B4⟩ := mL
    refine ⟨_, pss_cons (ps_setLc (i := 1) (own := [("setting", 5)]) (g := gName 5) (tt := tYes) (te := tMeth C "misfits" (spMisfits C kd) [] E0 (tVar 0) (tCons (tVar 5) tNil)) rfl scFew.nd rfl rfl (sw_true rfl rfl rfl (by decide +kernel)) (pi_list (pe_meth0 (pv 0) T.cl M1 G1 hr B1 .nil pass0)) (blkOk_by (N := nFew) (sc := defScope sFew) (by decide +kernel))
        (fun _ _ _ _ _ => pg_name (i := 5) scFew.nd rfl (Or.inl rfl)) (fun _ _ _ _ _ => pts_nil) (fun _ _ _ _ _ => pe_meth (pv 0) T.cl M2 G2 (hr.mono (by decide)) B2 .nil pass0 (pa_cons (pv 5) pa_nil)))
      (pss_cons (ps_if (pt_cmpR op_ne (pe_bm PySem.F.plainAttrs_list PySem.F.slot_list_count PySem.F.type_list_count (mt_countLL hr.units) (pv 1) (pa_cons (pe_lst pa_nil) pa_nil)) pe_int (nomark _)) (pss_one (ps_ret pe_non)) pss_nil)
      (pss_cons (ps_expr (pe_bm PySem.F.plainAttrs_list PySem.F.slot_list_remove PySem.F.type_list_remove (mt_remLL hr.units) (pv 1) (pa_cons (pe_lst pa_nil) pa_nil)))
      (pss_cons (ps_set (i := 2) scFew.nd rfl (Or.inl rfl) (pe_callB (call_sortedDI rfl) (by rfl) gS (by decide +kernel) (pa_cons (pe_fld (pv 0) rfl) pa_nil)))
      (pss_cons (ps_set (i := 3) scFew.nd rfl (Or.inl rfl) (pe_lst (pa_cons (pe_lst pa_nil) pa_nil)))
      (pss_one (ps_while PassesOwn.never (pt_val pe_bl)
        (pss_cons (ps_for PassesOwn.never rfl (pi_list (pv 3)) (pg_name (i := 4) scFew.nd rfl (Or.inl rfl))
          (pss_one (ps_if (pt_val (pe_call G3 (hr.mono (by decide)) (by rfl) g3 k3 B3 .nil pass0 (pa_cons (pv 4) (pa_cons (pv 1) pa_nil)))) (pss_one (ps_ret (pv 4))) pss_nil)))
        (pss_one (ps_set (i := 3) scFew.nd rfl (Or.inl rfl) (pe_call G4 (hr.mono (by decide)) (by rfl) g4 k4 B4 .nil pass0 (pa_cons (pv 3) (pa_cons (pv 2) pa_nil)))))))))))), ?_⟩
    obtain ⟨x, d, r, rfl, O, g, k⟩ := h
    have S := O.seen
    have o := ft.ok r g
    have tr := toldM_rising r
    have tl : (toldM r).length ≤ 16 := by rw [toldM_len o]; exact ft.nums r g
    have lv : ∀ n, (level (toldM r) n).length ≤ 65536 := fun n => by
      rw [level_sized _ tr]
      refine Nat.le_trans (sized_le n _) ?_
      exact Nat.pow_le_pow_right (by decide) tl
    have lw : ∀ n, ∀ c ∈ level (toldM r) n, c.length = n := fun n c hc => by
      rw [level_sized _ tr] at hc
      exact sized_len n _ c hc
    refine q_asgLL (ell_map (misM kd r) (ep_meth (vs := []) (ev_var rfl) S.ins (rF_no d r (by decide +kernel)) ea_nil (spp_settings S g)) (Nat.le_trans (ft.few r g) (by decide)) (fun _ => rfl) fun a q H1 e1 ha hq =>
      el_meth (vs := [.ref a]) (ev_var rfl) (S.mono e1).ins (rF_no d r (by decide +kernel)) (ea_cons (ev_var rfl) ea_nil) (spl_misfits (O.mono e1) g ha (ft.short r g q hq))) fun p as H1 hp hn e1 h1 l1 => ?_
    have l1 : LLs H1 as (clashM kd r) := l1
    have evc : ∀ {v2 v3 v4 v5 : Option V} H2, Ex H1 H2 → EvT (tTest (tOp rNe (tBM K "list" rCntLL (tVar 1) (tCons (tLst tNil) tNil)) (tC (.int 1)))) [some (.ref x), some (.ref p), v2, v3, v4, v5] H2 (!decide ((clashM kd r).count [] = 1)) := fun {v2 v3 v4 v5} H2 e2 => by
      refine et_test (ev_is (ev_op (x := .int ((clashM kd r).count [] : Nat)) (y := .int 1) (fun H3 e3 Q kk => ⟨_, rfl, .inl ⟨rfl, _, SqL.of ((e2.trans e3) _ _ h1)⟩, by show 0 ≤ sizeLine; decide, fun b hb => ?_⟩) ev_c (rv_ne rfl)) ?_)
      · exact ⟨p, b, as, clashM kd r, [], rfl, rfl, by rw [upd_ne (fun z => by rw [z] at h1; rw [(e2.trans e3) _ _ h1] at hb; cases hb)]; exact (e2.trans e3) _ _ h1, (l1.mono (e2.trans e3)).mono (Ex.new hb), upd_same, kk _ (Ex.new hb)⟩
      · congr 2
        rw [dec_int]
        by_cases c : (clashM kd r).count [] = 1
        · rw [c]; rfl
        · have c2 : ¬ (((clashM kd r).count [] : Nat) : Int) = 1 := by omega
          simp [c, c2]
    refine q_when (evc H1 (Ex.refl H1)) (fun hb H2 e2 => ?_) (fun hb H2 e2 => ?_)
    · have hb : ¬ (clashM kd r).count [] = 1 := by simpa using hb
      rw [fewM, if_neg hb] at k
      exact s_ret ev_c fun H3 e3 => k _ H3 ((e1.trans e2).trans e3) rfl
    have hb : (clashM kd r).count [] = 1 := by simpa using hb
    rw [fewM, if_pos hb] at k
    -- clashes.remove([])
    refine ⟨_, rfl, .inl ⟨rfl, _, SqL.of (e2 _ _ h1)⟩, by show 0 ≤ sizeLine; decide, fun b hbn => ?_⟩
    have e3 := Ex.new (o := .lst []) hbn
    have bp : p ≠ b := ne_of_none (e2 _ _ h1) hbn
    refine ⟨p, b, as, clashM kd r, [], rfl, rfl, e3 _ _ (e2 _ _ h1), l1.mono (e2.trans e3), upd_same, List.count_pos_iff.mp (by omega), fun as' l2 hsub => ?_⟩
    have np : p ∉ as' := fun z => hn (hsub p z)
    have l3 := l2.upd (o := .lst (as'.map V.ref)) np
    have er : Ex H (upd (upd H2 b (.lst [])) p (.lst (as'.map V.ref))) := Ex.mut ((e1.trans e2).trans e3) hp
    have hpr : upd (upd H2 b (.lst [])) p (.lst (as'.map V.ref)) p = some (.lst (as'.map V.ref)) := upd_same
    revert l3 er hpr
    generalize upd (upd H2 b (.lst [])) p (.lst (as'.map V.ref)) = Hr
    intro l3 er hpr
    have Or := O.mono er
    -- told = sorted(self.numbers)
    refine (ev_num T Or.seen (ev_var rfl)) Hr (Ex.refl Hr) _ fun H5 e5 => ⟨d.na, kvN r.nums, castL (r.nums.map (·.1)), rfl, .inl (e5 _ _ Or.nu), ?_, ?_, fun ys q hperm hsort hq => ?_⟩
    · unfold kvN castL; rw [List.map_map, List.map_map, List.map_map]; rfl
    · unfold castL; rw [List.length_map, List.length_map]; have := ft.nums r g; omega
    have hys : ys = castL (toldM r) := sorted_ints (hperm.trans ((toldM_perm o).symm.map _)) hsort tr
    subst hys
    have e6 : Ex Hr (upd H5 q (.lst ((castL (toldM r)).map V.int))) := e5.trans (Ex.new hq)
    have hq6 : upd H5 q (.lst ((castL (toldM r)).map V.int)) q = some (.lst (vL (toldM r))) := by rw [upd_same, vL_ints]; rfl
    revert e6 hq6
    generalize upd H5 q (.lst ((castL (toldM r)).map V.int)) = H6
    intro e6 hq6
    -- choices = [[]]
    refine ⟨by show 0 ≤ sizeLine; decide, fun c0 hc0 => ⟨by show 1 ≤ sizeLine; decide, fun c1 hc1 => ?_⟩⟩
    have e7 : Ex H6 (upd (upd H6 c0 (.lst [])) c1 (.lst [.ref c0])) := (Ex.new hc0).trans (Ex.new hc1)
    have c01 : c0 ≠ c1 := fun z => by rw [← z, upd_same] at hc1; cases hc1
    have lc0 : LLs (upd (upd H6 c0 (.lst [])) c1 (.lst [.ref c0])) [c0] (level (toldM r) 0) := .cons (by rw [upd_ne c01]; exact upd_same) .nil
    have hc1' : upd (upd H6 c0 (.lst [])) c1 (.lst [.ref c0]) c1 = some (.lst (([c0] : List Addr).map V.ref)) := upd_same
    revert e7 lc0 hc1'
    generalize upd (upd H6 c0 (.lst [])) c1 (.lst [.ref c0]) = H7
    intro e7 lc0 hc1'
    have e67 := e6.trans e7
    let good : List Nat → Bool := fun k => meetsAll k ((clashM kd r).erase [])
    have hgood : good (toldM r) = true := told_good kd r hb
    refine s_while (fun m σ' H' => ∃ (n : Nat) (pc : Addr) (asc : List Addr) (v4 v5 : Option V), m = (toldM r).length - n ∧ n ≤ (toldM r).length ∧ σ' = [some (.ref x), some (.ref p), some (.ref q), some (.ref pc), v4, v5] ∧ Ex H7 H' ∧ (∀ k < n, (level (toldM r) k).find? good = none) ∧
      H' pc = some (.lst (asc.map V.ref)) ∧ LLs H' asc (level (toldM r) n)) (toldM r).length ⟨0, c1, [c0], none, none, by simp, Nat.zero_le _, rfl, Ex.refl _, fun k hk => by omega, hc1', lc0⟩ ?_
    rintro m σ' H' ⟨n, pc, asc, v4, v5, rfl, hnl, rfl, e8, hnone, hpc, lpc⟩
    refine ⟨true, et_B ev_c, fun _ H8 e9 => ?_, fun z => by cases z⟩
    have e89 := e8.trans e9
    refine ⟨fun σ2 H2' => ∃ m', m' < (toldM r).length - n ∧ ∃ (n : Nat) (pc : Addr) (asc : List Addr) (v4 v5 : Option V), m' = (toldM r).length - n ∧ n ≤ (toldM r).length ∧ σ2 = [some (.ref x), some (.ref p), some (.ref q), some (.ref pc), v4, v5] ∧ Ex H7 H2' ∧ (∀ k < n, (level (toldM r) k).find? good = none) ∧
      H2' pc = some (.lst (asc.map V.ref)) ∧ LLs H2' asc (level (toldM r) n), fun σ2 H2' h => h, ?_⟩
    have lpl := lpc.length
    refine q_forLn (a := pc) (xs := asc.map V.ref) (ev_var rfl) (sq_of (e9 _ _ hpc)) (fun i σ2 H2' => ∃ v4 : Option V, σ2 = [some (.ref x), some (.ref p), some (.ref q), some (.ref pc), v4, v5] ∧ Ex H8 H2' ∧ ((level (toldM r) n).take i).find? good = none)
      (fun H9 e10 => ⟨v4, rfl, e10, rfl⟩) (fun i σ2 H2' _ ⟨_, _, e, _⟩ => sq_of ((e9.trans e) _ _ hpc)) ?_ ?_
    · rintro i y σ2 H9 hi ⟨v4', rfl, e10, hnn⟩
      rw [List.getElem?_map] at hi
      cases ea : asc[i]? with
      | none => rw [ea] at hi; cases hi
      | some b2 =>
        rw [ea] at hi
        obtain ⟨c, hcc, rr⟩ := Paired.get lpc ea
        obtain rfl : y = .ref b2 := (Option.some.inj hi).symm
        have e11 := e9.trans e10
        have more : ((level (toldM r) n).take (i + 1)).find? good = if good c = true then some c else none := by
          rw [take_more hcc, List.find?_append, hnn]
          cases hg : good c <;> simp [hg]
        have ev : Ev (tCall spMeets [] E0 (tCons (tVar 4) (tCons (tVar 1) tNil))) [some (.ref x), some (.ref p), some (.ref q), some (.ref pc), some (.ref b2), v5] H9 (.bl (good c)) :=
          ev_call (vs := [.ref b2, .ref p]) (ea_cons (ev_var rfl) (ea_cons (ev_var rfl) ea_nil)) fun H10 e12 Q kk E => ⟨b2, p, as', c, (clashM kd r).erase [], rfl, e12 _ _ (e11 _ _ rr), (((e67.trans e89).trans e10).trans e12) _ _ hpr, l3.mono (((e67.trans e89).trans e10).trans e12), ?_, kk⟩
        · refine s_when (et_B ev) (fun hg H10 e12 => ?_) (fun hg H10 e12 => ?_)
          · refine s_ret (ev_var rfl) fun H11 e13 => ?_
            have hfind : (level (toldM r) n).find? good = some c := by
              have hle : (level (toldM r) n) = (level (toldM r) n).take (i + 1) ++ (level (toldM r) n).drop (i + 1) := (List.take_append_drop _ _).symm
              rw [hle, List.find?_append, more, if_pos hg]; rfl
            rw [search_is hnl hnone hfind] at k
            exact k _ H11 (((er.trans (e67.trans e89)).trans e10).trans (e12.trans e13)) ⟨b2, rfl, (e11.trans (e12.trans e13)) _ _ rr⟩
          · exact ⟨_, rfl, e10.trans e12, by rw [more, if_neg (by rw [hg]; decide)]⟩
        · intro c' hc'
          obtain ⟨q', _, e'⟩ := List.mem_map.mp (List.mem_of_mem_erase hc')
          rw [← e']
          unfold misM misfits
          rw [List.length_map]
          exact Nat.le_trans (List.length_filter_le _ _) (Nat.le_trans (ft.nums r g) (by decide))
    · rintro σ2 H9 ⟨v4', rfl, e10, hnn⟩
      rw [List.length_map, lpl, List.take_length] at hnn
      have hlt : n < (toldM r).length := by
        apply Nat.lt_of_le_of_ne hnl
        intro z
        exact level_ends (toldM r) tr good hgood (z ▸ hnn)
      have e11 := e9.trans e10
      have hsz := lv (n + 1)
      refine ep_call (P := IsLL (oneLonger (level (toldM r) n) (toldM r))) (vs := [.ref pc, .ref q]) (ea_cons (ev_var rfl) (ea_cons (ev_var rfl) ea_nil)) (fun H10 e12 Q kk E => ⟨pc, q, asc, level (toldM r) n, toldM r, rfl, (e11.trans e12) _ _ hpc, lpc.mono (e11.trans e12), ((e7.trans e8).trans (e11.trans e12)) _ _ hq6, fun c hc => by have := lw n c hc; omega, ?_, kk⟩) H9 (Ex.refl H9) _ fun v H10 e12 ⟨p3, as3, ev3, h3, l3'⟩ => ?_
      · subst ev3
        refine ⟨(toldM r).length - (n + 1), by omega, n + 1, p3, as3, _, _, rfl, hlt, rfl, e8.trans (e11.trans e12), fun k hk => ?_, h3, l3'⟩
        rcases Nat.lt_succ_iff_lt_or_eq.mp hk with h | h
        · exact hnone k h
        · rw [h]; exact hnn
      · have : oneLonger (level (toldM r) n) (toldM r) = level (toldM r) (n + 1) := rfl
        rw [this]; omega
end
end Rd
set_option linter.all false
set_option maxRecDepth 100000
set_option maxHeartbeats 2000000
namespace Rd
open PySem PySem.Spec PyProof.Rows L2 Evl
/-! ### many, fewest, good -/
def manyA (kd : Kind) (r : R) : List Int := [((waysM kd r).length : Nat), 2, ((waysM kd r).length : Nat), ((kd.sets r).length : Nat)]
def fewA (kd : Kind) (r : R) : List Int := match fewM kd r with
  | none => [-6]
  | some c => ((c.length : Nat) : Int) :: ((c.length : Nat) : Int) :: castL c
def goodA (kd : Kind) (r : R) : List Int := match fewM kd r with
  | none => [0, 2, ((waysM kd r).length : Nat), 0]
  | some c => [if (r.nums.length : Int) - (c.length : Int) = 0 then 1 else 0, 2, 1, (r.nums.length : Int) - (c.length : Int)]
def spPure (C : Addr) (kd : Kind) (ans : R → List Int) : Sp := fun vs H Q _ => ∃ (x : Addr) (d : Ad) (r : R), vs = [.ref x] ∧ Own C H x d r ∧ kd.good r ∧ Aft C H x d r (ans r) Q
abbrev sMany : Stmt := inClass (top 9) 12
abbrev nMany : List Str := ["self", "settings", "ways", "setting"]
theorem scMany : FnScope nMany ["self"] (defScope sMany) := ⟨rfl, rfl, rfl, by decide +kernel, rfl, by decide +kernel, by decide +kernel⟩
abbrev sFewest : Stmt := inClass (top 9) 13
abbrev nFewest : List Str := ["self", "choice"]
theorem scFewest : FnScope nFewest ["self"] (defScope sFewest) := ⟨rfl, rfl, rfl, by decide +kernel, rfl, by decide +kernel, by decide +kernel⟩
abbrev sGood : Stmt := inClass (top 9) 14
abbrev nGood : List Str := ["self", "choice", "spare"]
theorem scGood : FnScope nGood ["self"] (defScope sGood) := ⟨rfl, rfl, rfl, by decide +kernel, rfl, by decide +kernel, by decide +kernel⟩
/-- what is found is short -/
theorem few_len {kd : Kind} (ft : kd.Fits) {r : R} (g : kd.good r) {c : List Nat} (h : fewM kd r = some c) : c.length ≤ 16 := by
  unfold fewM at h
  split at h
  · unfold search at h
    rw [List.findSome?_eq_some_iff] at h
    obtain ⟨l1, n, l2, e, hf, _⟩ := h
    have hn : n ∈ List.range ((toldM r).length + 1) := by rw [e]; simp
    have hm := List.mem_of_find?_eq_some hf
    rw [level_sized _ (toldM_rising r)] at hm
    rw [sized_len _ _ _ hm]
    have := List.mem_range.mp hn
    have := toldM_len (ft.ok r g)
    have := ft.nums r g
    omega
  · cases h
theorem ev_lenP {σ : L2.St} {H : Hp} {ta : TE} {K : PySem.W.Frag} {xss : List (List Nat)} (h : EvP ta σ H (IsLL xss)) : Ev (tCB (rLenS K) (tCons ta tNil)) σ H (.int (xss.length : Nat)) := fun H1 e Q q =>
  h H1 e _ fun v H2 e2 ⟨p, as, ev, hp, hl⟩ => ⟨p, _, by rw [ev], .inl (sq_of hp), by rw [List.length_map, hl.length]; exact q H2 e2⟩
section
variable {P : Program} {w : World} {K : PySem.W.Frag} {mg : Str → Option Value} {base : Heap} {C : Addr} {kd : Kind}
theorem ok_many {f : Addr} {fd : FuncData} (F : Fun K "many" "Riddle.many" sMany f fd) (T : RC K C) (ft : kd.Fits) (gL : mg "len" = none) (mS : Mt P w K mg base C 4 "settings" ["self"] (spSettings C kd)) (mM : Mt P w K mg base C 3 "misfits" ["self", "setting"] (spMisfits C kd)) :
    FnOk P w K mg base CX0 5 f fd ["self"] (spPure C kd (manyA kd)) := by
  refine F.ok scMany (fun vs H Q E h => ?_) (fun cdv A outer s H vs Q E hr h => ?_)
  · obtain ⟨x, d, r, rfl, _⟩ := h; rfl
  · obtain ⟨f1, fd1, M1, G1, B1⟩ := mS
    obtain ⟨f2, fd2, M2, G2, B2⟩ := mM
    refine ⟨_, pss_cons (ps_set (i := 1) scMany.nd rfl (Or.inl rfl) (pe_meth0 (pv 0) T.cl M1 G1 hr B1 .nil pass0))
      (pss_cons (ps_setLc (i := 2) (own := [("setting", 3)]) (g := gName 3) (tt := tMis K C kd 3) (te := tVar 3) rfl scMany.nd rfl rfl (sw_true rfl rfl rfl (by decide +kernel)) (pi_list (pv 1)) (blkOk_by (N := nMany) (sc := defScope sMany) (by decide +kernel))
        (fun _ _ _ _ _ => pg_name (i := 3) scMany.nd rfl (Or.inl rfl))
        (fun _ _ _ _ _ => pts_one (pt_not (pt_truth (pe_meth (pv 0) T.cl M2 G2 (hr.mono (by decide)) B2 .nil pass0 (pa_cons (pv 3) pa_nil)) (by intro _; rfl)))) (fun _ _ _ _ _ => pv 3))
      (pss_one (ps_ret (pe_lst (pa_cons (pe_callB call_len_seq (by rfl) gL PySem.boot_len (pa_cons (pv 2) pa_nil)) (pa_cons pe_int (pa_cons (pe_callB call_len_seq (by rfl) gL PySem.boot_len (pa_cons (pv 2) pa_nil))
        (pa_cons (pe_callB call_len_seq (by rfl) gL PySem.boot_len (pa_cons (pv 1) pa_nil)) pa_nil)))))))), ?_⟩
    obtain ⟨x, d, r, rfl, O, g, k⟩ := h
    have S := O.seen
    refine q_asgP (ep_meth (vs := []) (ev_var rfl) S.ins (rF_no d r (by decide +kernel)) ea_nil (spp_settings S g)) fun v H1 e1 hv => ?_
    have src : EvP (tVar 1) [some (.ref x), some v, none, none] H1 (IsLL (kd.sets r)) := fun H2 e2 Q k => ⟨v, rfl, k v H2 (Ex.refl H2) (hv.mono e2)⟩
    refine q_asgP (ep_lcLL (fun q => (misM kd r q).isEmpty) src (Nat.le_trans (ft.few r g) (by decide)) (fun _ => rfl) (fun _ => rfl) fun a q H2 e2 ha hq => et_mis (O.mono (e1.trans e2)) g rfl rfl ha (ft.short r g q hq)) fun u H2 e2 hu => ?_
    have l2 : ∀ H3, Ex H2 H3 → Ev (tCB (rLenS K) (tCons (tVar 2) tNil)) [some (.ref x), some v, some u, none] H3 (.int ((waysM kd r).length : Nat)) := fun H3 e3 => ev_lenP (xss := waysM kd r) fun H4 e4 Q k => ⟨u, rfl, k u H4 (Ex.refl H4) (hu.mono (e3.trans e4))⟩
    have l1 : ∀ H3, Ex H2 H3 → Ev (tCB (rLenS K) (tCons (tVar 1) tNil)) [some (.ref x), some v, some u, none] H3 (.int ((kd.sets r).length : Nat)) := fun H3 e3 => ev_lenP (xss := kd.sets r) fun H4 e4 Q k => ⟨v, rfl, k v H4 (Ex.refl H4) (hv.mono ((e2.trans e3).trans e4))⟩
    refine s_retL (xs := (manyA kd r).map V.int) (el_lst (ea_cons (l2 _ (Ex.refl _)) (ea_cons ev_c (ea_cons (l2 _ (Ex.refl _)) (ea_cons (l1 _ (Ex.refl _)) ea_nil)))) (by show 4 ≤ 100000; decide)) fun p H3 _ e3 h3 => k.same O ((e1.trans e2).trans e3) h3
theorem ok_fewest {f : Addr} {fd : FuncData} (F : Fun K "fewest" "Riddle.fewest" sFewest f fd) (T : RC K C) (ft : kd.Fits) (gL : mg "len" = none) (c6 : KInt mg "NOT_ENOUGH" (-6)) (mF : Mt P w K mg base C 5 "fewest_told" ["self"] (spFew C kd)) :
    FnOk P w K mg base CX0 6 f fd ["self"] (spPure C kd (fewA kd)) := by
  refine F.ok scFewest (fun vs H Q E h => ?_) (fun cdv A outer s H vs Q E hr h => ?_)
  · obtain ⟨x, d, r, rfl, _⟩ := h; rfl
  · obtain ⟨f1, fd1, M1, G1, B1⟩ := mF
    obtain ⟨t6, c6⟩ := c6
    refine ⟨_, pss_cons (ps_set (i := 1) scFewest.nd rfl (Or.inl rfl) (pe_meth0 (pv 0) T.cl M1 G1 hr B1 .nil pass0))
      (pss_cons (ps_if (pt_cmpR op_isN (pv 1) pe_non (nomark _)) (pss_one (ps_ret (pe_lst (pa_cons (pe_glob (v := .int (-6)) rfl c6 ⟨_, rfl⟩) pa_nil)))) pss_nil)
      (pss_one (ps_ret (pe_op op_cat (pe_lst (pa_cons (pe_callB call_len_seq (by rfl) gL PySem.boot_len (pa_cons (pv 1) pa_nil)) (pa_cons (pe_callB call_len_seq (by rfl) gL PySem.boot_len (pa_cons (pv 1) pa_nil)) pa_nil))) (pv 1))))), ?_⟩
    obtain ⟨x, d, r, rfl, O, g, k⟩ := h
    have S := O.seen
    refine q_asgP (ep_meth (vs := []) (ev_var rfl) S.ins (rF_no d r (by decide +kernel)) ea_nil (spp_few O g)) fun v H1 e1 hv => ?_
    cases hf : fewM kd r with
    | none =>
      rw [hf] at hv
      obtain rfl : v = .non := hv
      rw [fewA, hf] at k
      refine ⟨_, rfl, rfl, _, rfl, iteT ?_⟩
      exact s_retL (el_lst (ea_cons ev_c ea_nil) (by show 1 ≤ 100000; decide)) fun p H2 _ e2 h2 => k.same O (e1.trans e2) h2
    | some c =>
      rw [hf] at hv
      obtain ⟨p, rfl, hp⟩ := hv
      rw [fewA, hf] at k
      have hc := few_len ft g hf
      refine ⟨_, rfl, rfl, _, rfl, iteF ?_⟩
      have lc : Ev (tCB (rLenS K) (tCons (tVar 1) tNil)) [some (.ref x), some (.ref p)] H1 (.int (c.length : Nat)) := ev_is (ev_len (xs := vL c) (ev_var rfl) (sq_of hp)) (by rw [vL_len])
      refine s_retL (el_catR (l := p) (ys := vL c) (el_lst (ea_cons lc (ea_cons lc ea_nil)) (by show 2 ≤ 100000; decide)) (ev_var rfl) hp (by rw [vL_len]; show 2 + c.length ≤ 100000; omega)) fun q H2 _ e2 h2 => k.same O (e1.trans e2) ?_
      rw [h2, vL_ints]; rfl
theorem ok_good {f : Addr} {fd : FuncData} (F : Fun K "good" "Riddle.good" sGood f fd) (T : RC K C) (ft : kd.Fits) (gL : mg "len" = none) (mF : Mt P w K mg base C 5 "fewest_told" ["self"] (spFew C kd)) (mW : Mt P w K mg base C 5 "ways" ["self"] (spWays C kd)) :
    FnOk P w K mg base CX0 6 f fd ["self"] (spPure C kd (goodA kd)) := by
  refine F.ok scGood (fun vs H Q E h => ?_) (fun cdv A outer s H vs Q E hr h => ?_)
  · obtain ⟨x, d, r, rfl, _⟩ := h; rfl
  · obtain ⟨f1, fd1, M1, G1, B1⟩ := mF
    obtain ⟨f2, fd2, M2, G2, B2⟩ := mW
    refine ⟨_, pss_cons (ps_set (i := 1) scGood.nd rfl (Or.inl rfl) (pe_meth0 (pv 0) T.cl M1 G1 hr B1 .nil pass0))
      (pss_cons (ps_if (pt_cmpR op_isN (pv 1) pe_non (nomark _)) (pss_one (ps_ret (pe_lst (pa_cons pe_int (pa_cons pe_int (pa_cons (pe_callB call_len_seq (by rfl) gL PySem.boot_len (pa_cons (pe_meth0 (pv 0) T.cl M2 G2 hr B2 .nil pass0) pa_nil)) (pa_cons pe_int pa_nil))))))) pss_nil)
      (pss_cons (ps_set (i := 2) scGood.nd rfl (Or.inl rfl) (pe_op op_sub (pe_callB call_lenD (by rfl) gL PySem.boot_len (pa_cons (pe_fld (pv 0) rfl) pa_nil)) (pe_callB call_len_seq (by rfl) gL PySem.boot_len (pa_cons (pv 1) pa_nil))))
      (pss_one (ps_ret (pe_lst (pa_cons (pe_ifExp (pt_cmpR op_eq (pv 2) pe_int (nomark _)) pe_int pe_int) (pa_cons pe_int (pa_cons pe_int (pa_cons (pv 2) pa_nil))))))))), ?_⟩
    obtain ⟨x, d, r, rfl, O, g, k⟩ := h
    have S := O.seen
    refine q_asgP (ep_meth (vs := []) (ev_var rfl) S.ins (rF_no d r (by decide +kernel)) ea_nil (spp_few O g)) fun v H1 e1 hv => ?_
    cases hf : fewM kd r with
    | none =>
      rw [hf] at hv
      obtain rfl : v = .non := hv
      rw [goodA, hf] at k
      refine ⟨_, rfl, rfl, _, rfl, iteT ?_⟩
      refine s_retL (el_lst (ea_cons ev_c (ea_cons ev_c (ea_cons (ev_lenP (ep_meth (vs := []) (ev_var rfl) (S.mono e1).ins (rF_no d r (by decide +kernel)) ea_nil (spp_ways (O.mono e1) g))) (ea_cons ev_c ea_nil)))) (by show 4 ≤ 100000; decide)) fun p H2 _ e2 h2 => k.same O (e1.trans e2) h2
    | some c =>
      rw [hf] at hv
      obtain ⟨p, rfl, hp⟩ := hv
      rw [goodA, hf] at k
      refine ⟨_, rfl, rfl, _, rfl, iteF ?_⟩
      have lc : Ev (tCB (rLenS K) (tCons (tVar 1) tNil)) [some (.ref x), some (.ref p), none] H1 (.int (c.length : Nat)) := ev_is (ev_len (xs := vL c) (ev_var rfl) (sq_of hp)) (by rw [vL_len])
      dsimp only [tNext]
      refine q_asg (v := .int ((r.nums.length : Int) - (c.length : Int))) (ev_is (ev_op (x := .int (r.nums.length : Nat)) (ev_cb (vs := [.ref d.na]) (ea_cons (ev_num T (S.mono e1) (ev_var rfl)) ea_nil) (by exact fun H2 e2 Q q => ⟨d.na, kvN r.nums, rfl, e2 _ _ (O.mono e1).nu, by rw [kvN_len]; exact q H2 (Ex.refl H2)⟩)) lc rv_I0) rfl) fun H2 e2 => ?_
      dsimp only at k
      revert k
      generalize (r.nums.length : Int) - (c.length : Int) = sp
      intro k
      refine s_retL (el_lst (ea_cons (ev_if (v := .int (if sp = 0 then 1 else 0)) (b := decide (sp = 0)) (et_test (ev_is (ev_op (x := .int sp) (y := .int 0) (ev_var rfl) ev_c (rv_eq rfl)) ?_)) (fun hb => ev_is ev_c ?_) (fun hb => ev_is ev_c ?_)) (ea_cons ev_c (ea_cons ev_c (ea_cons (ev_var rfl) ea_nil)))) (by show 4 ≤ 100000; decide)) fun q H3 _ e3 h3 => k.same O ((e1.trans e2).trans e3) h3
      · rw [dec_int]; congr 1
      · rw [if_pos (of_decide_eq_true hb)]
      · rw [if_neg (of_decide_eq_false hb)]
end
end Rd
set_option linter.all false
set_option maxRecDepth 100000
set_option maxHeartbeats 2000000
namespace Rd
open PySem PySem.Spec PyProof.Rows L2 Evl
theorem tellM_keys (ns : List (Nat × Nat)) (n : Nat) (o : Option Nat) (h : (ns.map (·.1)).Nodup) : ((tellM ns n o).map (·.1)).Nodup ∧ ∀ k ∈ (tellM ns n o).map (·.1), k ∈ ns.map (·.1) ∨ k = n := by
  cases o with
  | none =>
    unfold tellM
    have hs : ((ns.filter fun p => p.1 != n).map (·.1)).Sublist (ns.map (·.1)) := (List.filter_sublist (l := ns)).map _
    exact ⟨List.Nodup.sublist hs h, fun k hk => .inl (hs.subset hk)⟩
  | some v =>
    simp only [tellM]
    split
    · have e : (ns.map (fun p => if p.1 = n then (p.1, v) else p)).map (·.1) = ns.map (·.1) := by
        rw [List.map_map]
        apply List.map_congr_left
        intro p _
        simp only [Function.comp]
        split <;> rfl
      rw [e]
      exact ⟨h, fun k hk => .inl hk⟩
    · next c =>
      rw [List.map_append]
      constructor
      · rw [List.nodup_append]
        refine ⟨h, by simp, ?_⟩
        intro a ha b hb
        simp at hb; subst hb
        intro e; subst e
        apply c
        obtain ⟨p, hp, e⟩ := List.mem_map.mp ha
        rw [List.any_eq_true]
        exact ⟨p, hp, by simpa using e⟩
      · intro k hk
        rcases List.mem_append.mp hk with hk | hk
        · exact .inl hk
        · simp at hk; exact .inr hk
theorem R.Ok.tell {r : R} (o : r.Ok) {n : Nat} (hn : n < 25) (v : Option Nat) : ({ r with nums := tellM r.nums n v } : R).Ok := by
  obtain ⟨h1, h2⟩ := tellM_keys r.nums n v o.keys
  refine ⟨o.r1, o.r5, o.c1, o.c5, o.nd, o.cells, h1, fun p hp => ?_⟩
  rcases h2 p.1 (List.mem_map.mpr ⟨p, hp, rfl⟩) with h | h
  · obtain ⟨q, hq, e⟩ := List.mem_map.mp h
    rw [← e]; exact o.low q hq
  · omega
section
variable {K : PySem.W.Frag} {C : Addr} {σ : L2.St} {H : Hp} {x : Addr} {d : Ad} {r : R} {ts : TA} {D : Ends} {E : XK}
theorem s_tell {n : Nat} {o : Option Nat} (O : Own C H x d r) (hn : n < 25) (hl : r.nums.length < 1000) (s0 : σ[0]? = some (some (.ref x))) (ha : EvA ts σ H [vN n, oV o]) (k : ∀ H', Kept H H' [d.na] → Own C H' x d { r with nums := tellM r.nums n o } → D.nx σ H') :
    tDrop (tMeth C "tell" (spTell C) [] E (tVar 0) ts) D σ H :=
  ⟨_, s0, x, d.dx, rF d r, rfl, O.seen.ins, rF_no d r (by decide +kernel), ha H (Ex.refl H) _ fun H2 e2 => by
    have O2 := O.mono e2
    refine ⟨x, d.dx, d.na, rF d r, n, o, r.nums, rfl, O2.seen.ins, rF_numbers d r, O2.nu, hl, fun H' k1 h1 => ?_⟩
    refine k H' (fun b ob hb hnb => k1 b ob (e2 b ob hb) hnb) ⟨⟨O.seen.ok.tell hn o, ?_, ?_, .inl h1⟩, h1⟩
    · exact k1 x _ O2.seen.ins (by simp; exact ne_of O2.seen.ins O2.nu (by intro z; cases z))
    · exact k1 d.ba _ O2.seen.bl (by simp; exact ne_of O2.seen.bl O2.nu (by intro z; cases z))⟩
end
/-! ### thin -/
def thinN (c : List Nat) (ks : List Nat) (ns : List (Nat × Nat)) : List (Nat × Nat) := ks.foldl (fun ns n => if c.contains n = true then ns else tellM ns n none) ns
def thinM (kd : Kind) (r : R) : R × List Int := match fewM kd r with
  | none => (r, [-6])
  | some c => ({ r with nums := thinN c (r.nums.map (·.1)) r.nums }, ((c.length : Nat) : Int) :: ((c.length : Nat) : Int) :: castL c)
def spThin (C : Addr) (kd : Kind) : Sp := fun vs H Q _ => ∃ (x : Addr) (d : Ad) (r : R), vs = [.ref x] ∧ Own C H x d r ∧ kd.good r ∧ Aft C H x d (thinM kd r).1 (thinM kd r).2 Q
abbrev sThin : Stmt := inClass (top 9) 15
abbrev nThin : List Str := ["self", "choice", "number"]
theorem scThin : FnScope nThin ["self"] (defScope sThin) := ⟨rfl, rfl, rfl, by decide +kernel, rfl, by decide +kernel, by decide +kernel⟩
/-! ### fill -/
def fillN (kd : Kind) (r : R) (p : List Nat) (ks : List Nat) (ns : List (Nat × Nat)) : List (Nat × Nat) := ks.foldl (fun ns n => tellM ns n (some (kd.cnt r n p))) ns
def fillR (kd : Kind) (r : R) (p : List Nat) : R := { r with nums := fillN kd r p (kd.all r) r.nums }
def fillM (kd : Kind) (r : R) (k : Nat) : R × List Int := match (kd.sets r)[k]? with
  | none => (r, [-6])
  | some p => (fillR kd r p, ((waysM kd (fillR kd r p)).length : Nat) :: ((p.length : Nat) : Int) :: castL p)
def spFill (C : Addr) (kd : Kind) : Sp := fun vs H Q _ => ∃ (x : Addr) (d : Ad) (r : R) (k : Nat), vs = [.ref x, vN k] ∧ Own C H x d r ∧ kd.good r ∧ Aft C H x d (fillM kd r k).1 (fillM kd r k).2 Q
abbrev sFill : Stmt := inClass (top 9) 16
abbrev nFill : List Str := ["self", "ahead", "settings", "setting", "number"]
theorem scFill : FnScope nFill ["self", "ahead"] (defScope sFill) := ⟨rfl, rfl, rfl, by decide +kernel, rfl, by decide +kernel, by decide +kernel⟩
theorem thinN_snoc (c ks : List Nat) (n : Nat) (ns : List (Nat × Nat)) : thinN c (ks ++ [n]) ns = if c.contains n = true then thinN c ks ns else tellM (thinN c ks ns) n none := by
  unfold thinN; rw [List.foldl_append]; rfl
theorem fillN_snoc (kd : Kind) (r : R) (p ks : List Nat) (n : Nat) (ns : List (Nat × Nat)) : fillN kd r p (ks ++ [n]) ns = tellM (fillN kd r p ks ns) n (some (kd.cnt r n p)) := by
  unfold fillN; rw [List.foldl_append]; rfl
section
variable {P : Program} {w : World} {K : PySem.W.Frag} {mg : Str → Option Value} {base : Heap} {C : Addr} {kd : Kind}
theorem ok_thin {f : Addr} {fd : FuncData} (F : Fun K "thin" "Riddle.thin" sThin f fd) (T : RC K C) (ft : kd.Fits) (gL : mg "len" = none) (gLi : mg "list" = none) (c6 : KInt mg "NOT_ENOUGH" (-6)) (mF : Mt P w K mg base C 5 "fewest_told" ["self"] (spFew C kd))
    (mT : Mt P w K mg base C 1 "tell" ["self", "number", "value"] (spTell C)) : FnOk P w K mg base CX0 6 f fd ["self"] (spThin C kd) := by
  refine F.ok scThin (fun vs H Q E h => ?_) (fun cdv A outer s H vs Q E hr h => ?_)
  · obtain ⟨x, d, r, rfl, _⟩ := h; rfl
  · obtain ⟨f1, fd1, M1, G1, B1⟩ := mF
    obtain ⟨f2, fd2, M2, G2, B2⟩ := mT
    obtain ⟨t6, c6⟩ := c6
    refine ⟨_, pss_cons (ps_set (i := 1) scThin.nd rfl (Or.inl rfl) (pe_meth0 (pv 0) T.cl M1 G1 hr B1 .nil pass0))
      (pss_cons (ps_if (pt_cmpR op_isN (pv 1) pe_non (nomark _)) (pss_one (ps_ret (pe_lst (pa_cons (pe_glob (v := .int (-6)) rfl c6 ⟨_, rfl⟩) pa_nil)))) pss_nil)
      (pss_cons (ps_for PassesOwn.never rfl (pi_list (pe_callTy (call_listD rfl) (by rfl) gLi (by decide +kernel) (pa_cons (pe_fld (pv 0) rfl) pa_nil))) (pg_name (i := 2) scThin.nd rfl (Or.inl rfl))
        (pss_one (ps_if (pt_cmpR op_notIn_seq (pv 2) (pv 1) (by rfl)) (pss_one (ps_expr (pe_meth (pv 0) T.cl M2 G2 (hr.mono (by decide)) B2 .nil pass0 (pa_cons (pv 2) (pa_cons pe_non pa_nil))))) pss_nil)))
      (pss_one (ps_ret (pe_op op_cat (pe_lst (pa_cons (pe_callB call_len_seq (by rfl) gL PySem.boot_len (pa_cons (pv 1) pa_nil)) (pa_cons (pe_callB call_len_seq (by rfl) gL PySem.boot_len (pa_cons (pv 1) pa_nil)) pa_nil))) (pv 1)))))), ?_⟩
    obtain ⟨x, d, r, rfl, O, g, k⟩ := h
    have S := O.seen
    have o := ft.ok r g
    refine q_asgP (ep_meth (vs := []) (ev_var rfl) S.ins (rF_no d r (by decide +kernel)) ea_nil (spp_few O g)) fun v H1 e1 hv => ?_
    cases hf : fewM kd r with
    | none =>
      rw [hf] at hv
      obtain rfl : v = .non := hv
      rw [thinM, hf] at k
      refine ⟨_, rfl, rfl, _, rfl, iteT ?_⟩
      exact s_retL (el_lst (ea_cons ev_c ea_nil) (by show 1 ≤ 100000; decide)) fun p H2 _ e2 h2 => k.same O (e1.trans e2) h2
    | some c =>
      rw [hf] at hv
      obtain ⟨p, rfl, hp⟩ := hv
      rw [thinM, hf] at k
      have hc := few_len ft g hf
      refine ⟨_, rfl, rfl, _, rfl, iteF ?_⟩
      dsimp only [tNext]
      have O1 := O.mono e1
      refine q_forNLn (xs := vL (r.nums.map (·.1))) (fun H2 e2 Q q => (ev_num T S (ev_var rfl)) H2 (e1.trans e2) _ fun H3 e3 => ⟨d.na, kvN r.nums, rfl, .inl ((e2.trans e3) _ _ O1.nu), fun l hl => q l _ (fresh_back e3 hl) (e3.trans (Ex.new hl)) ?_⟩)
        (fun l i σ' H' => ∃ v2 : Option V, σ' = [some (.ref x), some (.ref p), v2] ∧ Kept H H' [d.na] ∧ Grows H H' ∧ Own C H' x d { r with nums := thinN c ((r.nums.map (·.1)).take i) r.nums } ∧ kd.good { r with nums := thinN c ((r.nums.map (·.1)).take i) r.nums } ∧ H' p = some (.lst (vL c)) ∧ H' l = some (.lst (vL (r.nums.map (·.1)))))
        (fun l H2 hl e2 h2 => ⟨none, rfl, .of_ex (e1.trans e2), .of_ex (e1.trans e2), O.mono (e1.trans e2), g, e2 _ _ hp, h2⟩) (fun l i σ' H' _ ⟨_, _, _, _, _, _, _, h⟩ => sq_of h) ?_ ?_
      · rw [upd_same]
        unfold vL kvN
        rw [List.map_map, List.map_map]
        rfl
      · rintro l i y σ' H' hi ⟨v2, rfl, kp, gr, Oi, gi, hpi, hli⟩
        obtain ⟨n, hn, rfl⟩ := vL_get_some hi
        have hmem : n ∈ r.nums.map (·.1) := List.mem_of_getElem? hn
        have hn25 : n < 25 := by
          obtain ⟨q, hq, e⟩ := List.mem_map.mp hmem
          rw [← e]; exact o.low q hq
        have pna : p ≠ d.na := ne_of hpi Oi.nu (by intro z; cases z)
        have lna : l ≠ d.na := ne_of hli Oi.nu (by intro z; cases z)
        refine s_when (b := !c.contains n) (et_test (ev_is (ev_op (ev_var rfl) (ev_var rfl) (rv_niL (sq_of hpi) rfl (flat_vL _))) (by rw [inV_vL]))) (fun hb H2 e2 => ?_) (fun hb H2 e2 => ?_)
        · have hb : ¬ c.contains n = true := by simpa using hb
          refine s_tell (o := none) (Oi.mono e2) hn25 (by have := ft.nums _ gi; exact Nat.lt_of_le_of_lt this (by decide)) rfl (ea_cons (ev_var rfl) (ea_cons ev_c ea_nil)) fun H3 k3 O3 => ?_
          refine ⟨_, rfl, (kp.ex e2).trans k3, ?_, ?_, ?_, k3 _ _ (e2 _ _ hpi) (by simpa using pna), k3 _ _ (e2 _ _ hli) (by simpa using lna)⟩
          · intro q hq
            by_cases c : q = d.na
            · rw [c, O3.nu] at hq; cases hq
            · exact (gr.ex e2) q (k3.free hq (by simpa using c))
          · rw [take_more hn, thinN_snoc, if_neg hb]; exact O3
          · rw [take_more hn, thinN_snoc, if_neg hb]; exact ft.drop _ n gi
        · have hb : c.contains n = true := by simpa using hb
          refine ⟨_, rfl, kp.ex e2, gr.ex e2, ?_, ?_, e2 _ _ hpi, e2 _ _ hli⟩
          · rw [take_more hn, thinN_snoc, if_pos hb]; exact Oi.mono e2
          · rw [take_more hn, thinN_snoc, if_pos hb]; exact gi
      · rintro l σ' H' ⟨v2, rfl, kp, gr, Oi, gi, hpi, hli⟩
        rw [vL_len, List.take_length] at Oi gi
        have lc : Ev (tCB (rLenS K) (tCons (tVar 1) tNil)) [some (.ref x), some (.ref p), v2] H' (.int (c.length : Nat)) := ev_is (ev_len (xs := vL c) (ev_var rfl) (sq_of hpi)) (by rw [vL_len])
        refine s_retL (el_catR (l := p) (ys := vL c) (el_lst (ea_cons lc (ea_cons lc ea_nil)) (by show 2 ≤ 100000; decide)) (ev_var rfl) hpi (by rw [vL_len]; show 2 + c.length ≤ 100000; omega)) fun q H2 _ e2 h2 => k H2 d q ((kp.ex e2).sub (by simp)) (Oi.mono e2) (.refl H d) ?_
        rw [h2, vL_ints]; rfl
theorem ok_fill {f : Addr} {fd : FuncData} (F : Fun K "fill" "Riddle.fill" sFill f fd) (T : RC K C) (ft : kd.Fits) (gL : mg "len" = none) (c6 : KInt mg "NOT_ENOUGH" (-6)) (mS : Mt P w K mg base C 4 "settings" ["self"] (spSettings C kd)) (mA : Mt P w K mg base C 1 "all_numbers" ["self"] (spAll C kd))
    (mT : Mt P w K mg base C 1 "tell" ["self", "number", "value"] (spTell C)) (mC : Mt P w K mg base C 2 "counted" ["self", "number", "setting"] (spCounted C kd)) (mW : Mt P w K mg base C 5 "ways" ["self"] (spWays C kd)) : FnOk P w K mg base CX0 6 f fd ["self", "ahead"] (spFill C kd) := by
  refine F.ok scFill (fun vs H Q E h => ?_) (fun cdv A outer s H vs Q E hr h => ?_)
  · obtain ⟨x, d, r, k, rfl, _⟩ := h; rfl
  · obtain ⟨f1, fd1, M1, G1, B1⟩ := mS
    obtain ⟨f2, fd2, M2, G2, B2⟩ := mA
    obtain ⟨f3, fd3, M3, G3, B3⟩ := mT
    obtain ⟨f4, fd4, M4, G4, B4⟩ := mC
    obtain ⟨f5, fd5, M5, G5, B5⟩ := mW
    obtain ⟨t6, c6⟩ := c6
    refine ⟨_, pss_cons (ps_set (i := 2) scFill.nd rfl (Or.inl rfl) (pe_meth0 (pv 0) T.cl M1 G1 (hr.mono (by decide)) B1 .nil pass0))
      (pss_cons (ps_if (pt_cmpR op_ge (pv 1) (pe_callB call_len_seq (by rfl) gL PySem.boot_len (pa_cons (pv 2) pa_nil)) (nomark _)) (pss_one (ps_ret (pe_lst (pa_cons (pe_glob (v := .int (-6)) rfl c6 ⟨_, rfl⟩) pa_nil)))) pss_nil)
      (pss_cons (ps_set (i := 3) scFill.nd rfl (Or.inl rfl) (pe_ix ix_list (pv 2) (pv 1) (fun _ _ => rfl)))
      (pss_cons (ps_for PassesOwn.never rfl (pi_list (pe_meth0 (pv 0) T.cl M2 G2 (hr.mono (by decide)) B2 .nil pass0)) (pg_name (i := 4) scFill.nd rfl (Or.inl rfl))
        (pss_one (ps_expr (pe_meth (pv 0) T.cl M3 G3 (hr.mono (by decide)) B3 .nil pass0 (pa_cons (pv 4) (pa_cons (pe_meth (pv 0) T.cl M4 G4 (hr.mono (by decide)) B4 .nil pass0 (pa_cons (pv 4) (pa_cons (pv 3) pa_nil))) pa_nil))))))
      (pss_one (ps_ret (pe_op op_cat (pe_lst (pa_cons (pe_callB call_len_seq (by rfl) gL PySem.boot_len (pa_cons (pe_meth0 (pv 0) T.cl M5 G5 hr B5 .nil pass0) pa_nil)) (pa_cons (pe_callB call_len_seq (by rfl) gL PySem.boot_len (pa_cons (pv 3) pa_nil)) pa_nil))) (pv 3))))))), ?_⟩
    obtain ⟨x, d, r, n, rfl, O, g, k⟩ := h
    have S := O.seen
    have o := ft.ok r g
    refine q_asgP (ep_meth (vs := []) (ev_var rfl) S.ins (rF_no d r (by decide +kernel)) ea_nil (spp_settings S g)) fun v H1 e1 hv => ?_
    have src : EvP (tVar 2) [some (.ref x), some (vN n), some v, none, none] H1 (IsLL (kd.sets r)) := fun H2 e2 Q k => ⟨v, rfl, k v H2 (Ex.refl H2) (hv.mono e2)⟩
    refine q_when (b := decide (((kd.sets r).length : Int) ≤ (n : Int))) (et_test (ev_op (ev_var rfl) (ev_lenP src) rv_I0)) (fun hb H2 e2 => ?_) (fun hb H2 e2 => ?_)
    · have hb : (kd.sets r).length ≤ n := Int.ofNat_le.mp (of_decide_eq_true hb)
      rw [fillM, List.getElem?_eq_none hb] at k
      exact s_retL (el_lst (ea_cons ev_c ea_nil) (by show 1 ≤ 100000; decide)) fun p H3 _ e3 h3 => k.same O ((e1.trans e2).trans e3) h3
    have hb : n < (kd.sets r).length := Nat.lt_of_not_le fun z => of_decide_eq_false hb (Int.ofNat_le.mpr z)
    rw [fillM, List.getElem?_eq_getElem hb] at k
    dsimp only at k
    generalize hp : (kd.sets r)[n] = p at k
    have hpn : (kd.sets r)[n]? = some p := by rw [List.getElem?_eq_getElem hb, hp]
    have p25 := ft.short r g p (List.mem_of_getElem? hpn)
    obtain ⟨sv, as, rfl, hsv, hll⟩ := hv.mono e2
    obtain ⟨a, ha, hap⟩ := Paired.get' hll hpn
    refine q_asg (v := .ref a) (ev_op (x := .ref sv) (y := vN n) (ev_var rfl) (ev_var rfl) (rv_ixL (xs := as.map V.ref) (sq_of hsv) (atI_nat (by rw [List.getElem?_map, ha]; rfl)))) fun H3 e3 => ?_
    have e13 := (e1.trans e2).trans e3
    refine q_forNLn (xs := vL (kd.all r)) (el_meth (vs := []) (ev_var rfl) (S.mono e13).ins (rF_no d r (by decide +kernel)) ea_nil (spl_all (S.mono e13) g))
      (fun l i σ' H' => ∃ v4 : Option V, σ' = [some (.ref x), some (vN n), some (.ref sv), some (.ref a), v4] ∧ Kept H H' [d.na] ∧ Own C H' x d { r with nums := fillN kd r p ((kd.all r).take i) r.nums } ∧ kd.good { r with nums := fillN kd r p ((kd.all r).take i) r.nums } ∧ H' a = some (.lst (vL p)) ∧ H' l = some (.lst (vL (kd.all r))))
      (fun l H4 hl e4 h4 => ⟨none, rfl, .of_ex (e13.trans e4), O.mono (e13.trans e4), g, e4 _ _ (e3 _ _ hap), h4⟩) (fun l i σ' H' _ ⟨_, _, _, _, _, _, h⟩ => sq_of h) ?_ ?_
    · rintro l i y σ' H' hi ⟨v4, rfl, kp, Oi, gi, hai, hli⟩
      obtain ⟨m, hm, rfl⟩ := vL_get_some hi
      have hmem : m ∈ kd.all r := List.mem_of_getElem? hm
      have m25 := ft.low r g m hmem
      have ana : a ≠ d.na := ne_of hai Oi.nu (by intro z; cases z)
      have lna : l ≠ d.na := ne_of hli Oi.nu (by intro z; cases z)
      have ecnt := ft.cntN r (fillN kd r p ((kd.all r).take i) r.nums) m p
      have ev : Ev (tMeth C "counted" (spCounted C kd) [] E0 (tVar 0) (tCons (tVar 4) (tCons (tVar 3) tNil))) [some (.ref x), some (vN n), some (.ref sv), some (.ref a), some (vN m)] H' (oV (some (kd.cnt r m p))) := by
        have := ev_meth (C := C) (E := E0) (m := "counted") (ta := tVar 0) (ts := tCons (tVar 4) (tCons (tVar 3) tNil)) (σ := [some (V.ref x), some (vN n), some (.ref sv), some (.ref a), some (vN m)]) (vs := [vN m, .ref a]) (ev_var rfl) Oi.seen.ins (rF_no d _ (by decide +kernel)) (ea_cons (ev_var rfl) (ea_cons (ev_var rfl) ea_nil)) (spv_counted Oi.seen gi m25 hai p25)
        rw [ecnt] at this
        exact this
      refine s_tell (o := some (kd.cnt r m p)) Oi m25 (Nat.lt_of_le_of_lt (ft.nums _ gi) (by decide)) rfl (ea_cons (ev_var rfl) (ea_cons ev ea_nil)) fun H2 k2 O2 => ?_
      refine ⟨_, rfl, kp.trans k2, ?_, ?_, k2 _ _ hai (by simpa using ana), k2 _ _ hli (by simpa using lna)⟩
      · rw [take_more hm, fillN_snoc]; exact O2
      · rw [take_more hm, fillN_snoc]; exact ft.tell _ m _ gi (by rw [ft.allN]; exact hmem)
    · rintro l σ' H' ⟨v4, rfl, kp, Oi, gi, hai, hli⟩
      rw [vL_len, List.take_length] at Oi gi
      have lc : Ev (tCB (rLenS K) (tCons (tVar 3) tNil)) [some (.ref x), some (vN n), some (.ref sv), some (.ref a), v4] H' (.int (p.length : Nat)) := ev_is (ev_len (xs := vL p) (ev_var rfl) (sq_of hai)) (by rw [vL_len])
      refine s_retL (el_catR (l := a) (ys := vL p) (el_lst (ea_cons (ev_lenP (ep_meth (vs := []) (ev_var rfl) Oi.seen.ins (rF_no d _ (by decide +kernel)) ea_nil (spp_ways Oi gi))) (ea_cons lc ea_nil)) (by show 2 ≤ 100000; decide)) (ev_var rfl) hai (by rw [vL_len]; show 2 + p.length ≤ 100000; omega)) fun q H2 _ e2 h2 => k H2 d q ((kp.ex e2).sub (by simp)) (Oi.mono e2) (.refl H d) ?_
      rw [h2, vL_ints]; rfl
end
end Rd
set_option linter.all false
set_option maxRecDepth 100000
set_option maxHeartbeats 2000000
namespace Rd
open PySem PySem.Spec PyProof.Rows L2 Evl
/-! ### the field's small methods -/
/-- the field's state with nothing told -/
def sF (r : R) : Sy64.St := ⟨r.rows, r.cols, r.bl, [], [], [], []⟩
def cntF (r : R) (n : Nat) (q : List Nat) : Nat := if n < r.rows then (q.filter fun x => x / r.cols == n).length else (q.filter fun x => x % r.cols == n - r.rows).length
def allF (r : R) : List Nat := List.range (r.rows + r.cols)
structure FGood (r : R) : Prop where
  ok : r.Ok
  six : r.bl.length ≤ 6
  keys : ∀ p ∈ r.nums, p.1 < r.rows + r.cols
def kF : Kind := ⟨cntF, fun r => Sy64.settings (sF r), allF, FGood⟩
abbrev cField : Stmt := top 24
abbrev sAllF : Stmt := inClass cField 5
abbrev sCntF : Stmt := inClass cField 6
abbrev sTouch : Stmt := inClass cField 9
theorem scAllF : FnScope ["self"] ["self"] (defScope sAllF) := ⟨rfl, rfl, rfl, by decide +kernel, rfl, by decide +kernel, by decide +kernel⟩
abbrev nCntF : List Str := ["self", "number", "setting", "tent"]
theorem scCntF : FnScope nCntF ["self", "number", "setting"] (defScope sCntF) := ⟨rfl, rfl, rfl, by decide +kernel, rfl, by decide +kernel, by decide +kernel⟩
abbrev nTouch : List Str := ["self", "cell", "tents", "tent", "down", "across"]
theorem scTouch : FnScope nTouch ["self", "cell", "tents"] (defScope sTouch) := ⟨rfl, rfl, rfl, by decide +kernel, rfl, by decide +kernel, by decide +kernel⟩
def spTouch (C : Addr) : Sp := fun vs H Q _ => ∃ (x a : Addr) (d : Ad) (r : R) (c : Nat) (q : List Nat), vs = [.ref x, vN c, .ref a] ∧ Seen C H x d r ∧ H a = some (.tup (vL q)) ∧ RetV (.bl (q.any (Rd.F.near1 (sF r) c))) H Q
theorem spv_touch {C : Addr} {H : Hp} {x a : Addr} {d : Ad} {r : R} {c : Nat} {q : List Nat} (S : Seen C H x d r) (ha : H a = some (.tup (vL q))) : SpV (spTouch C) [.ref x, vN c, .ref a] H (.bl (q.any (Rd.F.near1 (sF r) c))) := fun H1 e Q k E => ⟨x, a, d, r, c, q, rfl, S.mono e, e _ _ ha, k⟩
def absI (i : Int) : Int := if i < 0 then -i else i
theorem ev_abs {σ : L2.St} {H : Hp} {ta : TE} {i : Int} (h : Ev ta σ H (.int i)) : Ev (tCB (fun xs H Q => ∃ i, xs = [.int i] ∧ Q (.int (if i < 0 then -i else i)) H) (tCons ta tNil)) σ H (.int (absI i)) :=
  ev_cb (vs := [.int i]) (ea_cons h ea_nil) fun H1 e Q q => ⟨i, rfl, q H1 (Ex.refl H1)⟩
theorem abs_apart (a b : Nat) : decide (absI ((a : Int) - (b : Int)) ≤ 1) = decide (Sy64.apart a b ≤ 1) := by
  apply decide_eq_decide.mpr
  unfold absI Sy64.apart
  split <;> omega
theorem rv_div {H : Hp} {a b : Nat} (h : 0 < b) (h2 : b < 1000) : RV (rI CDiv fun i j => .int (i / j)) (vN a) (vN b) H (vN (a / b)) := by
  have := rv_I (H := H) (C := CDiv) (g := fun i j => V.int (i / j)) (i := (a : Int)) (j := (b : Int)) ⟨by omega, by omega⟩
  rw [← Int.natCast_ediv] at this
  exact this
theorem rv_mod {H : Hp} {a b : Nat} (h : 0 < b) : RV (rI (fun _ j => 0 < j) fun i j => .int (i % j)) (vN a) (vN b) H (vN (a % b)) := by
  have := rv_I (H := H) (C := fun _ j => (0 : Int) < j) (g := fun i j => V.int (i % j)) (i := (a : Int)) (j := (b : Int)) (by omega)
  rw [← Int.natCast_emod] at this
  exact this
section
variable {P : Program} {w : World} {K : PySem.W.Frag} {mg : Str → Option Value} {base : Heap} {C : Addr}
theorem ok_allF {f : Addr} {fd : FuncData} (F : Fun K "all_numbers" "Field.all_numbers" sAllF f fd) (T : RC K C) (gLi : mg "list" = none) (gR : mg "range" = none) : FnOk P w K mg base CX0 1 f fd ["self"] (spAll C kF) := by
  refine F.ok scAllF (fun vs H Q E h => ?_) (fun cdv A outer s H vs Q E hr h => ?_)
  · obtain ⟨x, d, r, rfl, _⟩ := h; rfl
  · refine ⟨_, pss_one (ps_ret (pe_listRg rfl (by rfl) gLi (prg_1 (by rfl) gR (pe_op op_add (pe_fld (pv 0) rfl) (pe_fld (pv 0) rfl))))), ?_⟩
    obtain ⟨x, d, r, rfl, S, g, k⟩ := h
    have o := S.ok
    refine ev_op (z := .int ((r.rows : Int) + (r.cols : Int))) (ev_rows T S (ev_var rfl)) (ev_cols T S (ev_var rfl)) rv_I0 H (Ex.refl H) _ fun H1 e1 => ⟨_, rfl, .of_le (by omega) (by have := o.r5; have := o.c5; omega) (by omega) (by omega), fun q hq => ?_⟩
    refine k q _ (fresh_back e1 hq) (e1.trans (Ex.new hq)) ?_
    rw [upd_same]
    congr 2
    unfold rgV vL
    show (List.range (((r.rows : Int) + (r.cols : Int) - 0).toNat)).map _ = (List.range (r.rows + r.cols)).map vN
    rw [show ((r.rows : Int) + (r.cols : Int) - 0).toNat = r.rows + r.cols by omega]
    apply List.map_congr_left
    intro i _
    show V.int (0 + (i : Int)) = V.int (i : Int)
    rw [Int.zero_add]
theorem ok_touch {f : Addr} {fd : FuncData} (F : Fun K "touches_one" "Field.touches_one" sTouch f fd) (T : RC K C) (gA : mg "abs" = none) : FnOk P w K mg base CX0 1 f fd ["self", "cell", "tents"] (spTouch C) := by
  refine F.ok scTouch (fun vs H Q E h => ?_) (fun cdv A outer s H vs Q E hr h => ?_)
  · obtain ⟨x, a, d, r, c, q, rfl, _⟩ := h; rfl
  · refine ⟨_, pss_cons (ps_for PassesOwn.never rfl (pi_tup (pv 2)) (pg_name (i := 3) scTouch.nd rfl (Or.inl rfl))
        (pss_cons (ps_set (i := 4) scTouch.nd rfl (Or.inl rfl) (pe_callB call_abs (by rfl) gA (by decide +kernel) (pa_cons (pe_op op_sub (pe_op op_fdiv (pv 1) (pe_fld (pv 0) rfl)) (pe_op op_fdiv (pv 3) (pe_fld (pv 0) rfl))) pa_nil)))
        (pss_cons (ps_set (i := 5) scTouch.nd rfl (Or.inl rfl) (pe_callB call_abs (by rfl) gA (by decide +kernel) (pa_cons (pe_op op_sub (pe_op op_mod (pv 1) (pe_fld (pv 0) rfl)) (pe_op op_mod (pv 3) (pe_fld (pv 0) rfl))) pa_nil)))
        (pss_one (ps_if (PW.pt (pw_and (pt_cmpR op_le (pv 4) pe_int (nomark _)) (pw_and1 (pt_cmpR op_le (pv 5) pe_int (nomark _))))) (pss_one (ps_ret pe_bl)) pss_nil)))))
      (pss_one (ps_ret pe_bl)), ?_⟩
    obtain ⟨x, a, d, r, c, q, rfl, S, ha, k⟩ := h
    have o := S.ok
    have hc : 0 < r.cols := o.c1
    have hc5 : r.cols < 1000 := by have := o.c5; omega
    refine q_forT (a := a) (xs := vL q) (ev_var rfl) (st_of ha) (fun i σ' H' => ∃ v3 v4 v5 : Option V, σ' = [some (.ref x), some (vN c), some (.ref a), v3, v4, v5] ∧ Ex H H' ∧ (q.take i).any (Rd.F.near1 (sF r) c) = false)
      (fun H1 e1 => ⟨none, none, none, rfl, e1, rfl⟩) (fun i σ' H' _ ⟨_, _, _, _, e, _⟩ => st_of (e _ _ ha)) ?_ ?_
    · rintro i y σ' H' hi ⟨v3, v4, v5, rfl, e1, hn⟩
      obtain ⟨n, hin, rfl⟩ := vL_get_some hi
      have S1 := S.mono e1
      show tSeq _ _ _ [some (.ref x), some (vN c), some (.ref a), some (vN n), v4, v5] H'
      refine q_asg (v := .int (absI (((c / r.cols : Nat) : Int) - ((n / r.cols : Nat) : Int)))) (ev_abs (ev_is (ev_op (ev_op (ev_var rfl) (ev_cols T S1 (ev_var rfl)) (rv_div hc hc5)) (ev_op (ev_var rfl) (ev_cols T S1 (ev_var rfl)) (rv_div hc hc5)) rv_I0) rfl)) fun H2 e2 => ?_
      have S2 := S1.mono e2
      refine q_asg (v := .int (absI (((c % r.cols : Nat) : Int) - ((n % r.cols : Nat) : Int)))) (ev_abs (ev_is (ev_op (ev_op (ev_var rfl) (ev_cols T S2 (ev_var rfl)) (rv_mod hc)) (ev_op (ev_var rfl) (ev_cols T S2 (ev_var rfl)) (rv_mod hc)) rv_I0) rfl)) fun H3 e3 => ?_
      have more : (q.take (i + 1)).any (Rd.F.near1 (sF r) c) = Rd.F.near1 (sF r) c n := by
        rw [take_more hin, List.any_append, hn]; simp
      refine s_when (b := Rd.F.near1 (sF r) c n) (et_is (et_and (a := decide (absI (((c / r.cols : Nat) : Int) - ((n / r.cols : Nat) : Int)) ≤ 1)) (b := decide (absI (((c % r.cols : Nat) : Int) - ((n % r.cols : Nat) : Int)) ≤ 1)) (et_test (ev_op (ev_var rfl) ev_c rv_I0)) (fun _ => et_test (ev_op (ev_var rfl) ev_c rv_I0))) ?_) (fun hb H4 e4 => ?_) (fun hb H4 e4 => ?_)
      · rw [abs_apart, abs_apart]; rfl
      · refine s_ret ev_c fun H5 e5 => ?_
        have : q.any (Rd.F.near1 (sF r) c) = true := by
          rw [List.any_eq_true]
          exact ⟨n, List.mem_of_getElem? hin, hb⟩
        rw [this] at k
        exact k H5 ((((e1.trans e2).trans e3).trans e4).trans e5)
      · exact ⟨_, _, _, rfl, ((e1.trans e2).trans e3).trans e4, by rw [more]; exact hb⟩
    · rintro σ' H' ⟨v3, v4, v5, rfl, e1, hn⟩
      rw [vL_len, List.take_length] at hn
      refine s_ret ev_c fun H5 e5 => ?_
      rw [hn] at k
      exact k H5 (e1.trans e5)
theorem ok_cntF {f : Addr} {fd : FuncData} (F : Fun K "counted" "Field.counted" sCntF f fd) (T : RC K C) (gL : mg "len" = none) : FnOk P w K mg base CX0 1 f fd ["self", "number", "setting"] (spCounted C kF) := by
  refine F.ok scCntF (fun vs H Q E h => ?_) (fun cdv A outer s H vs Q E hr h => ?_)
  · obtain ⟨x, p, d, r, n, q, rfl, _⟩ := h; rfl
  · refine ⟨_, pss_cons (ps_if (pt_cmpR op_lt (pv 1) (pe_fld (pv 0) rfl) (nomark _))
        (pss_one (ps_ret (pe_callB call_len_seq (by rfl) gL PySem.boot_len (pa_cons
          (pe_lc (own := [("tent", 3)]) (g := gName 3) (tt := tTest (tOp rEq (tOp (rI CDiv fun i j => .int (i / j)) (tVar 3) (tFld K (tVar 0) "columns")) (tVar 1))) (te := tVar 3) rfl scCntF.nd (pi_list (pv 2)) (blkOk_by (N := nCntF) (sc := defScope sCntF) (by decide +kernel))
            (fun _ _ _ _ _ => pg_name (i := 3) scCntF.nd rfl (Or.inl rfl)) (fun _ _ _ _ _ => pts_one (pt_cmpR op_eq (pe_op op_fdiv (pv 3) (pe_fld (pv 0) rfl)) (pv 1) (nomark _))) (fun _ _ _ _ _ => pv 3)) pa_nil)))) pss_nil)
      (pss_one (ps_ret (pe_callB call_len_seq (by rfl) gL PySem.boot_len (pa_cons
          (pe_lc (own := [("tent", 3)]) (g := gName 3) (tt := tTest (tOp rEq (tOp (rI (fun _ j => 0 < j) fun i j => .int (i % j)) (tVar 3) (tFld K (tVar 0) "columns")) (tOp (rI0 fun i j => .int (i - j)) (tVar 1) (tFld K (tVar 0) "rows")))) (te := tVar 3) rfl scCntF.nd (pi_list (pv 2)) (blkOk_by (N := nCntF) (sc := defScope sCntF) (by decide +kernel))
            (fun _ _ _ _ _ => pg_name (i := 3) scCntF.nd rfl (Or.inl rfl)) (fun _ _ _ _ _ => pts_one (pt_cmpR op_eq (pe_op op_mod (pv 3) (pe_fld (pv 0) rfl)) (pe_op op_sub (pv 1) (pe_fld (pv 0) rfl)) (nomark _))) (fun _ _ _ _ _ => pv 3)) pa_nil)))), ?_⟩
    obtain ⟨x, p, d, r, n, q, rfl, S, g, hn, hp, hq, k⟩ := h
    have o := S.ok
    have hc : 0 < r.cols := o.c1
    have hc5 : r.cols < 1000 := by have := o.c5; omega
    have go : ∀ (t : TT) (f : Nat → Bool) (H1 : Hp), Ex H H1 → (∀ m H2, Ex H1 H2 → EvT t [some (.ref x), some (vN n), some (.ref p), some (vN m)] H2 (f m)) →
        Ev (tCB (rLenS K) (tCons (tLc (iList K (tVar 2)) (gName 3) t (tVar 3) [3]) tNil)) [some (.ref x), some (vN n), some (.ref p), none] H1 (vN (q.filter f).length) := fun t f H1 e1 ht => by
      have key := el_lcL (K := K) (a := p) (xs := vL q) (tl := tVar 2) (t := t) (te := tVar 3) (σ := [some (.ref x), some (vN n), some (.ref p), none]) (H := H1) (j := 3) (vs := [3]) (fun i => f (q.getD i 0)) (fun i => vN (q.getD i 0)) (ev_var rfl) (sq_of (e1 _ _ hp)) (by rw [vL_len]; omega) (fun _ => rfl)
        (fun i y H2 e2 hi => by
          obtain ⟨m, hm, rfl⟩ := vL_get_some hi
          rw [getD_of hm]
          exact ht m H2 e2)
        (fun i y H2 e2 hi _ => by
          obtain ⟨m, hm, rfl⟩ := vL_get_some hi
          rw [getD_of hm]
          exact ev_var rfl)
      rw [vL_len, given_filter q f vN 0] at key
      exact ev_is (ev_lenN key) (by rw [List.length_map])
    have hcn : (if n < r.rows then (q.filter fun x => x / r.cols == n).length else (q.filter fun x => x % r.cols == n - r.rows).length) = kF.cnt r n q := rfl
    refine q_when (b := decide ((n : Int) < (r.rows : Int))) (et_test (ev_op (ev_var rfl) (ev_rows T S (ev_var rfl)) rv_I0)) (fun hb H1 e1 => ?_) (fun hb H1 e1 => ?_)
    · have hb : n < r.rows := Int.ofNat_lt.mp (of_decide_eq_true hb)
      rw [← hcn, if_pos hb] at k
      refine s_ret (go _ (fun m => m / r.cols == n) H1 e1 fun m H2 e2 => et_test (ev_is (ev_op (x := vN (m / r.cols)) (y := vN n) (ev_op (ev_var rfl) (ev_cols T (S.mono (e1.trans e2)) (ev_var rfl)) (rv_div hc hc5)) (ev_var rfl) (rv_eq rfl)) ?_)) fun H2 e2 => k H2 (e1.trans e2)
      rw [dec_int, beq_cast]
    · have hb : ¬ n < r.rows := fun z => of_decide_eq_false hb (Int.ofNat_lt.mpr z)
      rw [← hcn, if_neg hb] at k
      refine s_ret (go _ (fun m => m % r.cols == n - r.rows) H1 e1 fun m H2 e2 => et_test (ev_is (ev_op (x := vN (m % r.cols)) (y := vN (n - r.rows)) (ev_op (ev_var rfl) (ev_cols T (S.mono (e1.trans e2)) (ev_var rfl)) (rv_mod hc)) (ev_is (ev_op (ev_var rfl) (ev_rows T (S.mono (e1.trans e2)) (ev_var rfl)) rv_I0) ?_) (rv_eq rfl)) ?_)) fun H2 e2 => k H2 (e1.trans e2)
      · show V.int ((n : Int) - (r.rows : Int)) = V.int ((n - r.rows : Nat) : Int)
        congr 1; omega
      · rw [dec_int, beq_cast]
end
end Rd
set_option linter.all false
set_option maxRecDepth 100000
set_option maxHeartbeats 2000000
namespace Rd
open PySem PySem.Spec PyProof.Rows L2 Evl
/-! ### one tent more -/
def TLs (H : Hp) (as : List Addr) (xss : List (List Nat)) : Prop := Paired (fun (a : Addr) (xs : List Nat) => H a = some (.tup (vL xs))) as xss
def IsTL (xss : List (List Nat)) : V → Hp → Prop := fun v H => ∃ (p : Addr) (as : List Addr), v = .ref p ∧ H p = some (.lst (as.map V.ref)) ∧ TLs H as xss
theorem TLs.mono {H H' : Hp} {as : List Addr} {xss : List (List Nat)} (e : Ex H H') (h : TLs H as xss) : TLs H' as xss := Paired.imp (fun a xs q => e a _ q) h
theorem IsTL.mono {xss : List (List Nat)} {v : V} {H H' : Hp} (e : Ex H H') (h : IsTL xss v H) : IsTL xss v H' := by
  obtain ⟨p, as, e1, h1, h2⟩ := h
  exact ⟨p, as, e1, e _ _ h1, h2.mono e⟩
/-- a key -/
def keyN (q : List Nat) : List L2.Key := q.map fun n : Nat => Sum.inl (n : Int)
theorem keyN_vL (q : List Nat) : (keyN q).map kV = vL q := by unfold keyN vL; rw [List.map_map]; rfl
theorem keyN_inj : ∀ {a b : List Nat}, keyN a = keyN b ↔ a = b
  | [], [] => by simp
  | [], _ :: _ => by simp [keyN]
  | _ :: _, [] => by simp [keyN]
  | x :: a, y :: b => by
    constructor
    · intro h
      obtain ⟨h1, h2⟩ := List.cons.inj h
      have h3 : (x : Int) = (y : Int) := Sum.inl.inj h1
      rw [keyN_inj.mp h2, Int.ofNat.inj h3]
    · intro h; rw [h]
def kvT (acc : List (List Nat)) : List (List L2.Key × V) := acc.map fun q => (keyN q, V.bl true)
theorem kvT_put (acc : List (List Nat)) (q : List Nat) : putK (kvT acc) (keyN q) (.bl true) = kvT (F.addKey acc q) := by
  unfold putK F.addKey
  have e : (kvT acc).any (fun kv => decide (kv.1 = keyN q)) = acc.contains q := by
    unfold kvT
    rw [List.any_map, List.contains_eq_any_beq]
    congr 1
    funext y
    show decide (keyN y = keyN q) = (q == y)
    by_cases c : y = q
    · subst c; simp
    · have c1 : ¬ keyN y = keyN q := fun z => c (keyN_inj.mp z)
      have c2 : ¬ q = y := fun z => c z.symm
      simp [c1, c2]
  rw [e]
  split
  · unfold kvT
    rw [List.map_map]
    apply List.map_congr_left
    intro y _
    simp only [Function.comp]
    split <;> rfl
  · unfold kvT; rw [List.map_append]; rfl
section
variable {σ : L2.St} {H : Hp} {ta tb : TE} {K : PySem.W.Frag}
theorem eu_catA {a : Addr} {xs ys : List V} (ha : Ev ta σ H (.ref a)) (hx : H a = some (.tup xs)) (hb : EvU tb σ H ys) (hy : ys ≠ []) (hz : xs.length + ys.length ≤ 100000) : EvU (tOp (rCatA K) ta tb) σ H (xs ++ ys) := fun H1 e Q q =>
  ha H1 e _ fun H2 e2 => hb H2 (e.trans e2) _ fun b H3 hbn e3 h3 => by
    have h1 : H3 a = some (.tup xs) := e3 _ _ (e2 _ _ (e _ _ hx))
    by_cases c : xs = []
    · subst c
      exact .inr ⟨a, b, ys, rfl, rfl, st_of h1, st_of h3, q b H3 (fresh_back e2 hbn) (e2.trans e3) h3⟩
    · exact .inl ⟨a, b, xs, ys, rfl, rfl, st_of h1, st_of h3, c, sz_of hz, fun z => absurd z hy, fun _ p hp => q p _ (fresh_back (e2.trans e3) hp) ((e2.trans e3).trans (Ex.new hp)) upd_same⟩
theorem el_sortTI {l r : List Nat} (ha : EvU ta σ H (vL l)) (hp : r.Perm l) (hr : Rising r) : EvL (tCB (rSortedTI K) (tCons ta tNil)) σ H (vL r) := fun H1 e Q q =>
  ha H1 e _ fun a H2 _ e2 h2 => ⟨a, castL l, rfl, st_of (by rw [← show vL l = (castL l).map V.int from vL_ints l]; exact h2), fun ys p hperm hs hn => by
    have : ys = castL r := sorted_ints (hperm.trans (hp.symm.map _)) hs hr
    subst this
    exact q p _ (fresh_back e2 hn) (e2.trans (Ex.new hn)) (by rw [upd_same, vL_ints]; rfl)⟩
def rTupOf (K : PySem.W.Frag) : List V → Hp → VK → Prop := fun xs H Q => ∃ p ys, xs = [.ref p] ∧ ((SqL K H p ys ∧ ∀ l, H l = none → Q (.ref l) (upd H l (.tup ys))) ∨ (SqT K H p ys ∧ Q (.ref p) H))
theorem eu_tupleL {xs : List V} (ha : EvL ta σ H xs) : EvU (tCB (rTupOf K) (tCons ta tNil)) σ H xs := fun H1 e Q q =>
  ha H1 e _ fun a H2 _ e2 h2 => ⟨a, xs, rfl, .inl ⟨sq_of h2, fun l hl => q l _ (fresh_back e2 hl) (e2.trans (Ex.new hl)) upd_same⟩⟩
end
/-- the cells beside a tree -/
theorem near_table : ∀ r : Fin 6, ∀ c : Fin 6, ∀ t : Fin 25, t.val < r.val * c.val → near r.val c.val t.val = (List.range (r.val * c.val)).filter fun y => (Sy64.apart (t.val / c.val) (y / c.val) + Sy64.apart (t.val % c.val) (y % c.val) == 1) := by decide +kernel
theorem near_beside {r : R} (o : r.Ok) {t : Nat} (ht : t < r.rows * r.cols) : near r.rows r.cols t = F.beside (sF r) t := by
  have hs := o.size
  exact near_table ⟨r.rows, by have := o.r5; omega⟩ ⟨r.cols, by have := o.c5; omega⟩ ⟨t, by omega⟩ ht
def growStep (r : R) (q : List Nat) (acc : List (List Nat)) (x : Nat) : List (List Nat) := if (!r.bl.contains x && !q.any (F.near1 (sF r) x)) = true then F.addKey acc (Sy64.insert x q) else acc
theorem grow_is (r : R) (t : Nat) (acc : List (List Nat)) (q : List Nat) : F.grow (sF r) t acc q = (F.beside (sF r) t).foldl (growStep r q) acc := by
  unfold F.grow F.fitting
  rw [List.foldl_filter]
  rfl
theorem addKey_len (acc : List (List Nat)) (q : List Nat) : (F.addKey acc q).length ≤ acc.length + 1 := by
  unfold F.addKey; split <;> simp
theorem growStep_len (r : R) (q : List Nat) (acc : List (List Nat)) (x : Nat) : (growStep r q acc x).length ≤ acc.length + 1 := by
  unfold growStep
  split
  · exact addKey_len _ _
  · omega
theorem insert_perm {x : Nat} {q : List Nat} (hr : Rising q) (hx : x ∉ q) : (Sy64.insert x q).Perm (q ++ [x]) := by
  refine (List.perm_ext_iff_of_nodup (rising_nodup (insert_rising x q hr)) ?_).mpr fun a => ?_
  · rw [List.nodup_append]
    refine ⟨rising_nodup hr, by simp, ?_⟩
    intro a ha b hb
    simp at hb; subst hb
    intro e; subst e; exact hx ha
  · rw [mem_insert, List.mem_append]
    constructor
    · rintro (h | h) <;> simp [h]
    · rintro (h | h)
      · exact .inr h
      · simp at h; exact .inl h
theorem keys_TLs {H : Hp} : ∀ {acc : List (List Nat)} {bs : List Addr}, IsKeys H (kvT acc) bs → TLs H bs acc
  | [], _, .nil => .nil
  | q :: acc, _, .cons r t => .cons (by rw [← keyN_vL]; exact r) (keys_TLs t)
theorem near1_self (r : R) (n : Nat) : F.near1 (sF r) n n = true := by simp [F.near1, Sy64.apart]
abbrev sTent : Stmt := inClass cField 8
abbrev nTent : List Str := ["self", "tree", "found", "grown", "tents", "cell"]
theorem scTent : FnScope nTent ["self", "tree", "found"] (defScope sTent) := ⟨rfl, rfl, rfl, by decide +kernel, rfl, by decide +kernel, by decide +kernel⟩
def spTent (C : Addr) : Sp := fun vs H Q _ => ∃ (x p : Addr) (d : Ad) (r : R) (t : Nat) (as : List Addr) (fs : List (List Nat)), vs = [.ref x, vN t, .ref p] ∧ Seen C H x d r ∧ t < r.rows * r.cols ∧ H p = some (.lst (as.map V.ref)) ∧ TLs H as fs ∧
  (∀ q ∈ fs, Rising q ∧ q.length ≤ 6) ∧ fs.length ≤ 5000 ∧ RetP (IsTL (F.withTent (sF r) t fs)) H Q
section
variable {P : Program} {w : World} {K : PySem.W.Frag} {mg : Str → Option Value} {base : Heap} {C : Addr}
theorem ok_tent {f : Addr} {fd : FuncData} (F : Fun K "with_tent_for" "Field.with_tent_for" sTent f fd) (T : RC K C) (gT : mg "tuple" = none) (gS : mg "sorted" = none) (gLi : mg "list" = none) (mB : Mt P w K mg base C 1 "beside" ["self", "cell"] (spBeside C)) (mT : Mt P w K mg base C 1 "touches_one" ["self", "cell", "tents"] (spTouch C)) :
    FnOk P w K mg base CX0 2 f fd ["self", "tree", "found"] (spTent C) := by
  refine F.ok scTent (fun vs H Q E h => ?_) (fun cdv A outer s H vs Q E hr h => ?_)
  · obtain ⟨x, p, d, r, t, as, fs, rfl, _⟩ := h; rfl
  · obtain ⟨f1, fd1, M1, G1, B1⟩ := mB
    obtain ⟨f2, fd2, M2, G2, B2⟩ := mT
    refine ⟨_, pss_cons (ps_set (i := 3) scTent.nd rfl (Or.inl rfl) pe_dnewT)
      (pss_cons (ps_for PassesOwn.never rfl (pi_list (pv 2)) (pg_name (i := 4) scTent.nd rfl (Or.inl rfl))
        (pss_one (ps_for PassesOwn.never rfl (pi_list (pe_meth (pv 0) T.cl M1 G1 hr B1 .nil pass0 (pa_cons (pv 1) pa_nil))) (pg_name (i := 5) scTent.nd rfl (Or.inl rfl))
          (pss_one (ps_if (PW.pt (pw_and (pt_cmpR op_notIn_seq (pv 5) (pe_fld (pv 0) rfl) (by rfl)) (pw_and1 (pt_not (pt_val (pe_meth (pv 0) T.cl M2 G2 hr B2 .nil pass0 (pa_cons (pv 5) (pa_cons (pv 4) pa_nil))))))))
            (pss_one (ps_dput (hu_of hr) (pv 3) (pe_callTy call_tuple_of (by rfl) gT (by decide +kernel) (pa_cons (pe_callB cr_sortedTI (by rfl) gS (by decide +kernel) (pa_cons (pe_op op_catA (pv 4) (pe_tup (pa_cons (pv 5) pa_nil))) pa_nil)) pa_nil)) pe_bl rfl)) pss_nil)))))
      (pss_one (ps_ret (pe_callTy (call_list_dT rfl) (by rfl) gLi (by decide +kernel) (pa_cons (pv 3) pa_nil))))), ?_⟩
    obtain ⟨x, p, d, r, t, as, fs, rfl, S, ht, hp, hl, hfs, hz, k⟩ := h
    have o := S.ok
    have hlen := hl.length
    have eb := near_beside o ht
    have t25 : t < 25 := Nat.lt_of_lt_of_le ht o.size
    intro g hg
    show tSeq _ _ _ [some (.ref x), some (vN t), some (.ref p), some (.ref g), none, none] (upd H g (.dT []))
    refine q_forLn (a := p) (xs := as.map V.ref) (ev_var rfl) (sq_of (Ex.new hg _ _ hp)) (fun i σ' H' => ∃ (v4 v5 : Option V) (acc : List (List Nat)), σ' = [some (.ref x), some (vN t), some (.ref p), some (.ref g), v4, v5] ∧ Ex H H' ∧ H' g = some (.dT (kvT acc)) ∧ acc = (fs.take i).foldl (Rd.F.grow (sF r) t) [] ∧ acc.length ≤ 4 * i)
      (fun H1 e1 => ⟨none, none, [], rfl, (Ex.new hg).trans e1, e1 _ _ upd_same, rfl, Nat.le_refl _⟩) (fun i σ' H' _ ⟨_, _, _, _, e, _⟩ => sq_of (e _ _ hp)) ?_ ?_
    · rintro i y σ' H' hi ⟨v4, v5, acc0, rfl, e1, hg1, ha0, hl0⟩
      rw [List.getElem?_map] at hi
      cases ea : as[i]? with
      | none => rw [ea] at hi; cases hi
      | some a =>
        rw [ea] at hi
        obtain ⟨q, hq, ra⟩ := Paired.get hl ea
        obtain rfl : y = .ref a := (Option.some.inj hi).symm
        have hi' : i < fs.length := (List.getElem?_eq_some_iff.mp hq).1
        obtain ⟨qr, ql⟩ := hfs q (List.mem_of_getElem? hq)
        show tFor _ _ _ _ [some (.ref x), some (vN t), some (.ref p), some (.ref g), some (.ref a), v5] H'
        have nl : (near r.rows r.cols t).length ≤ 4 := near_len r.rows r.cols t steps
        refine s_forNL (xs := vL (near r.rows r.cols t)) (el_meth (vs := [vN t]) (ev_var rfl) (S.mono e1).ins (rF_no d r (by decide +kernel)) (ea_cons (ev_var rfl) ea_nil) (spl_beside (S.mono e1) t25))
          (fun l k σ' H' => ∃ (v5 : Option V) (acc : List (List Nat)), σ' = [some (.ref x), some (vN t), some (.ref p), some (.ref g), some (.ref a), v5] ∧ Ex H H' ∧ H' g = some (.dT (kvT acc)) ∧ acc = ((near r.rows r.cols t).take k).foldl (growStep r q) acc0 ∧ acc.length ≤ 4 * i + k ∧ H' l = some (.lst (vL (near r.rows r.cols t))))
          (fun l H2 _ e2 h2 => ⟨v5, acc0, rfl, e1.trans e2, e2 _ _ hg1, rfl, by omega, h2⟩) (fun l k σ' H' _ ⟨_, _, _, _, _, _, _, h⟩ => sq_of h) ?_ ?_
        · rintro l k y σ' H2 hk ⟨v5', acc, rfl, e2, hg2, hacc, hla, hl2⟩
          obtain ⟨n, hn, rfl⟩ := vL_get_some hk
          show tIfS _ _ _ _ [some (.ref x), some (vN t), some (.ref p), some (.ref g), some (.ref a), some (vN n)] H2
          have S2 := S.mono e2
          have klt : k < 4 := Nat.lt_of_lt_of_le (List.getElem?_eq_some_iff.mp hn).1 nl
          have more : growStep r q acc n = ((near r.rows r.cols t).take (k + 1)).foldl (growStep r q) acc0 := by rw [take_more hn, List.foldl_append, hacc]; rfl
          refine s_when (b := !r.bl.contains n && !q.any (Rd.F.near1 (sF r) n)) (et_and (a := !r.bl.contains n) (et_test (ev_is (ev_op (ev_var rfl) (ev_blk T S2 (ev_var rfl)) (rv_niL (sq_of S2.bl) rfl (flat_vL _))) (by rw [inV_vL])))
            (fun _ => et_not (et_B (ev_meth (vs := [vN n, .ref a]) (ev_var rfl) S2.ins (rF_no d r (by decide +kernel)) (ea_cons (ev_var rfl) (ea_cons (ev_var rfl) ea_nil)) (spv_touch S2 (e2 _ _ ra)))))) (fun hb H3 e3 => ?_) (fun hb H3 e3 => ?_)
          · have e23 := e2.trans e3
            have hnq : n ∉ q := by
              intro hm
              simp only [Bool.and_eq_true, Bool.not_eq_true', List.any_eq_false] at hb
              exact hb.2 n hm (near1_self r n)
            have hkey : EvU (tCB (rTupOf K) (tCons (tCB (rSortedTI K) (tCons (tOp (rCatA K) (tVar 4) (tTup (tCons (tVar 5) tNil))) tNil)) tNil)) [some (.ref x), some (vN t), some (.ref p), some (.ref g), some (.ref a), some (vN n)] H3 (vL (Sy64.insert n q)) :=
              eu_tupleL (el_sortTI (l := q ++ [n]) (by rw [vL_append]; exact eu_catA (a := a) (xs := vL q) (ys := [vN n]) (ev_var rfl) (e23 _ _ ra) (eu_tup (ea_cons (ev_var rfl) ea_nil) (by show 1 ≤ 100000; decide)) (by simp) (by rw [vL_len]; show q.length + 1 ≤ 100000; omega)) (insert_perm qr hnq) (insert_rising n q qr))
            refine ⟨.ref g, rfl, hkey H3 (Ex.refl H3) _ fun kx H4 hkx e4 h4 => ⟨g, _, rfl, DPut.t (k := keyN (Sy64.insert n q)) (e4 _ _ (e3 _ _ hg2)) (by rw [keyN_vL]; exact h4) ?_, ?_⟩⟩
            · unfold kvT; rw [List.length_map]
              exact sz_lt (by omega)
            · rw [kvT_put]
              have lg : l ≠ g := ne_of hl2 hg2 (by intro z; cases z)
              refine ⟨_, Rd.F.addKey acc (Sy64.insert n q), rfl, Ex.mut ((e2.trans e3).trans e4) hg, upd_same, ?_, ?_, by rw [upd_ne lg]; exact e4 _ _ (e3 _ _ hl2)⟩
              · rw [← more]; unfold growStep; rw [if_pos hb]
              · have := addKey_len acc (Sy64.insert n q); omega
          · refine ⟨_, acc, rfl, e2.trans e3, e3 _ _ hg2, ?_, by omega, e3 _ _ hl2⟩
            rw [← more]; unfold growStep; rw [if_neg (by rw [hb]; decide)]
        · rintro l σ' H2 ⟨v5', acc, rfl, e2, hg2, hacc, hla, hl2⟩
          rw [vL_len] at hacc hla
          rw [List.take_length, eb, ← grow_is] at hacc
          refine ⟨_, _, acc, rfl, e2, hg2, ?_, by omega⟩
          rw [take_more hq, List.foldl_append, ← ha0, hacc]; rfl
    · rintro σ' H' ⟨v4, v5, acc, rfl, e1, hg1, ha0, hl0⟩
      rw [List.length_map, hlen, List.take_length] at ha0
      refine ⟨.ref g, rfl, g, kvT acc, rfl, .inl hg1, fun p2 bs hn hk => ?_⟩
      refine k _ _ (e1.trans (Ex.new hn)) ⟨p2, bs, rfl, upd_same, ?_⟩
      have : Rd.F.withTent (sF r) t fs = acc := ha0.symm
      rw [this]
      exact (keys_TLs hk).mono (Ex.new hn)
end
end Rd
set_option linter.all false
set_option maxRecDepth 100000
set_option maxHeartbeats 2000000
namespace Rd
open PySem PySem.Spec PyProof.Rows L2 Evl
/-! ### the field's settings -/
theorem ltN_bef : ∀ {a b : List Nat}, a.length = b.length → ltN a b = bef a b
  | [], [], _ => rfl
  | [], _ :: _, h => by simp at h
  | _ :: _, [], h => by simp at h
  | x :: a, y :: b, h => by
    have ih := ltN_bef (a := a) (b := b) (by simpa using h)
    have e : ltN (x :: a) (y :: b) = (decide ((x : Int) < (y : Int)) || (!decide ((y : Int) < (x : Int)) && ltN a b)) := by
      unfold ltN itemsN
      rw [List.map_cons, List.map_cons, PyProof.Rows.lex_cons]
      rfl
    rw [e, ih]
    show _ = (decide (x < y) || (x == y && Sy64.before a b))
    rcases Nat.lt_trichotomy x y with c | c | c
    · have c1 : (x : Int) < (y : Int) := by omega
      simp [c, c1]
    · subst c
      simp
    · have c1 : ¬ (x : Int) < (y : Int) := by omega
      have c2 : (y : Int) < (x : Int) := by omega
      have c3 : ¬ x < y := by omega
      have c4 : ¬ x = y := by omega
      simp [c1, c2, c3, c4]
theorem foldl_grow_len (r : R) (q : List Nat) : ∀ (l : List Nat) (acc : List (List Nat)), (l.foldl (growStep r q) acc).length ≤ acc.length + l.length
  | [], acc => by simp
  | n :: l, acc => by
    have h1 := foldl_grow_len r q l (growStep r q acc n)
    have h2 := growStep_len r q acc n
    rw [List.foldl_cons, List.length_cons]
    omega
theorem withTent_len {r : R} (o : r.Ok) {t : Nat} (ht : t < r.rows * r.cols) (fs : List (List Nat)) : (F.withTent (sF r) t fs).length ≤ 4 * fs.length := by
  unfold F.withTent
  have gen : ∀ (fs acc : List (List Nat)), (fs.foldl (F.grow (sF r) t) acc).length ≤ acc.length + 4 * fs.length := by
    intro fs
    induction fs with
    | nil => intro acc; simp
    | cons q fs ih =>
      intro acc
      have h1 := ih (F.grow (sF r) t acc q)
      have h2 := foldl_grow_len r q (F.beside (sF r) t) acc
      rw [← grow_is, ← near_beside o ht] at h2
      have h3 : (near r.rows r.cols t).length ≤ 4 := near_len r.rows r.cols t steps
      rw [List.foldl_cons, List.length_cons]
      omega
  have := gen fs []
  simpa using this
theorem foundBy_len {r : R} (o : r.Ok) : ∀ (ts : List Nat) (fs : List (List Nat)), (∀ t ∈ ts, t < r.rows * r.cols) → (F.foundBy (sF r) ts fs).length ≤ 4 ^ ts.length * fs.length
  | [], fs, _ => by simp [F.foundBy]
  | t :: ts, fs, h => by
    have h1 := foundBy_len o ts (F.withTent (sF r) t fs) fun t ht => h t (List.mem_cons_of_mem _ ht)
    have h2 := withTent_len o (h t List.mem_cons_self) fs
    show (F.foundBy (sF r) ts (F.withTent (sF r) t fs)).length ≤ 4 ^ (ts.length + 1) * fs.length
    refine Nat.le_trans h1 ?_
    rw [Nat.pow_succ, Nat.mul_assoc]
    exact Nat.mul_le_mul_left _ h2
theorem foundBy_snoc (s : Sy64.St) (ts : List Nat) (t : Nat) (fs : List (List Nat)) : F.foundBy s (ts ++ [t]) fs = F.withTent s t (F.foundBy s ts fs) := by
  unfold F.foundBy; rw [List.foldl_append]; rfl
section
variable {σ : L2.St} {H : Hp} {te tl : TE} {K : PySem.W.Frag}
/-- a new list for each tuple -/
theorem ell_mapT {xss : List (List Nat)} {j : Nat} {vs : List Nat} (h : EvP tl σ H (IsTL xss)) (hz : xss.length ≤ 40000) (hw : ∀ x, wipe ((wipe σ vs).set j (some x)) vs = wipe σ vs)
    (he : ∀ (a : Addr) (q : List Nat) H1, Ex H H1 → H1 a = some (.tup (vL q)) → q ∈ xss → EvL te ((wipe σ vs).set j (some (.ref a))) H1 (vL q)) :
    EvLL (tLc (iList K tl) (gName j) tYes te vs) σ H xss := fun H1 e Q k => h H1 e _ fun w H2 e2 ⟨p, as, ew, hp, hl⟩ => by
  subst ew
  have hlen := hl.length
  refine ⟨p, rfl, ⟨_, sq_of hp⟩, fun Dl hD => lc_list (K := K) (a := p) (xs := as.map V.ref) (fun i H' => ∃ as' : List Addr, Dl ∉ as' ∧ Ex H2 H' ∧ H' Dl = some (.lst (as'.map V.ref)) ∧ LLs H' as' (xss.take i)) ⟨[], by simp, Ex.new hD, upd_same, .nil⟩
    (fun i H' _ ⟨_, _, e3, _⟩ => sq_of (e3 _ _ hp)) ?_ ?_⟩
  · rintro i x H' hi ⟨as', hn, e3, h3, l3⟩
    rw [List.getElem?_map] at hi
    cases ea : as[i]? with
    | none => rw [ea] at hi; cases hi
    | some a =>
      rw [ea] at hi
      obtain ⟨q, hq, r⟩ := Paired.get hl ea
      obtain rfl : x = .ref a := (Option.some.inj hi).symm
      refine ⟨hw _, ?_⟩
      simp only [tYes, if_true]
      have hi' : i < xss.length := (List.getElem?_eq_some_iff.mp hq).1
      refine he a q H' ((e.trans e2).trans e3) (e3 _ _ r) (List.mem_of_getElem? hq) H' (Ex.refl H') _ fun b H4 hb e4 h4 => ?_
      have bD : b ≠ Dl := fun z => by rw [z, h3] at hb; cases hb
      have la : as'.length = (xss.take i).length := l3.length
      refine ⟨_, e4 _ _ h3, ?_, as' ++ [b], ?_, Ex.mut (e3.trans e4) hD, by rw [upd_same, List.map_append]; rfl, ?_⟩
      · rw [List.length_map, la]
        have := List.length_take_le' i xss
        exact sz_lt (by omega)
      · intro z
        rcases List.mem_append.mp z with z | z
        · exact hn z
        · simp at z; exact bD z.symm
      · rw [take_more hq]
        refine Paired.snoc ((l3.mono e4).upd hn) ?_
        rw [upd_ne bD]; exact h4
  · rintro H' ⟨as', hn, e3, h3, l3⟩
    rw [List.length_map, hlen, List.take_length] at l3
    exact k Dl as' H' (fresh_back e2 hD) hn (e2.trans e3) h3 l3
/-- sorted(l), l of tuples of one length -/
theorem ep_sortTL {fs out : List (List Nat)} {n : Nat} (h : EvP tl σ H (IsTL fs)) (hn : ∀ q ∈ fs, q.length = n) (hne : fs.length < 2 ∨ 0 < n) (ho : ∀ l : List (List Nat), l.Perm fs → l.Pairwise (fun a b => bef b a = false) → l = out) :
    EvP (tCB rSortTL (tCons tl tNil)) σ H (IsTL out) := fun H1 e Q k => h H1 e _ fun w H2 e2 ⟨p, as, ew, hp, hl⟩ => by
  subst ew
  have hlen : as.length = fs.length := hl.length
  have m1 : (as.zip fs).map (fun e => V.ref e.1) = as.map V.ref := by
    have : (as.zip fs).map (fun e => V.ref e.1) = ((as.zip fs).map Prod.fst).map V.ref := by rw [List.map_map]; rfl
    rw [this, List.map_fst_zip (Nat.le_of_eq hlen)]
  have m2 : (as.zip fs).map Prod.snd = fs := List.map_snd_zip (Nat.le_of_eq hlen.symm)
  have tup : ∀ e ∈ as.zip fs, H2 e.1 = some (.tup (vL e.2)) := by
    intro e he
    obtain ⟨i, hi, rfl⟩ := List.getElem_of_mem he
    rw [List.length_zip] at hi
    have ha : as[i]? = some as[i] := List.getElem?_eq_getElem (by omega)
    obtain ⟨q, hq, r⟩ := Paired.get hl ha
    have : fs[i]? = some fs[i] := List.getElem?_eq_getElem (by omega)
    rw [this] at hq
    have hq := Option.some.inj hq
    rw [List.getElem_zip]
    show H2 as[i] = some (.tup (vL fs[i]))
    rw [hq]; exact r
  refine ⟨p, as.zip fs, rfl, by rw [m1]; exact hp, tup, ?_, fun L' q hperm hpw hq => ?_⟩
  · rcases hne with z | z
    · exact .inl (by rw [List.length_zip]; omega)
    · refine .inr fun e he => ?_
      have : e.2 ∈ fs := by rw [← m2]; exact List.mem_map.mpr ⟨e, he, rfl⟩
      have := hn e.2 this
      intro c; rw [c] at this; simp at this; omega
  · have p2 : (L'.map Prod.snd).Perm fs := by
      have := hperm.map Prod.snd
      rw [m2] at this
      exact this
    have pw : (L'.map Prod.snd).Pairwise (fun a b => bef b a = false) := by
      rw [List.pairwise_map]
      refine List.Pairwise.imp_of_mem ?_ hpw
      intro a b ha hb hlt
      have la := hn a.2 (p2.mem_iff.mp (List.mem_map.mpr ⟨a, ha, rfl⟩))
      have lb := hn b.2 (p2.mem_iff.mp (List.mem_map.mpr ⟨b, hb, rfl⟩))
      rw [← ltN_bef (by rw [la, lb])]
      exact hlt
    have eo := ho _ p2 pw
    refine k _ _ (e2.trans (Ex.new hq)) ⟨q, L'.map Prod.fst, rfl, by rw [upd_same, List.map_map]; rfl, ?_⟩
    rw [← eo]
    have gen : ∀ l : List (Addr × List Nat), (∀ e ∈ l, e ∈ as.zip fs) → TLs (upd H2 q (.lst (L'.map fun e => V.ref e.1))) (l.map Prod.fst) (l.map Prod.snd) := by
      intro l
      induction l with
      | nil => intro _; exact .nil
      | cons e l ih =>
        intro hm
        exact .cons (Ex.new hq _ _ (tup e (hm e List.mem_cons_self))) (ih fun e he => hm e (List.mem_cons_of_mem _ he))
    exact gen L' fun e he => hperm.mem_iff.mp he
end
theorem settings_perm {r : R} (o : r.Ok) : (Sy64.settings (sF r)).Perm (F.found (sF r)) := by
  obtain ⟨h1, h2⟩ := F.settings_spec (sF r)
  refine (List.perm_ext_iff_of_nodup ?_ (F.found_nodup (sF r))).mpr fun q => by rw [h2, F.mem_found (sF r) o.c1]
  exact h1.imp fun {a b} h e => by subst e; rw [bef_irrefl] at h; cases h
/-- few keys -/
theorem keys_few {l : List Nat} {n : Nat} (hn : l.Nodup) (h : ∀ x ∈ l, x < n) : l.length ≤ n := by
  have : l.Perm ((List.range n).filter fun x => l.contains x) := by
    refine (List.perm_ext_iff_of_nodup hn (List.nodup_range.filter _)).mpr fun a => ?_
    rw [List.mem_filter, List.contains_iff_mem, List.mem_range]
    exact ⟨fun ha => ⟨h a ha, ha⟩, fun ha => ha.2⟩
  rw [this.length_eq]
  refine Nat.le_trans (List.length_filter_le _ _) ?_
  rw [List.length_range]
  exact Nat.le_refl _
theorem FGood.tell {r : R} (g : FGood r) {n : Nat} (hn : n < r.rows + r.cols) (v : Option Nat) : FGood { r with nums := tellM r.nums n v } := by
  have o := g.ok
  refine ⟨o.tell (by have := o.r5; have := o.c5; omega) v, g.six, fun p hp => ?_⟩
  rcases (tellM_keys r.nums n v o.keys).2 p.1 (List.mem_map.mpr ⟨p, hp, rfl⟩) with h | h
  · obtain ⟨q, hq, e⟩ := List.mem_map.mp h
    rw [← e]; exact g.keys q hq
  · show p.1 < r.rows + r.cols
    omega
theorem FGood.drop {r : R} (g : FGood r) (n : Nat) : FGood { r with nums := tellM r.nums n none } := by
  have o := g.ok
  have hs : ∀ p ∈ tellM r.nums n none, p ∈ r.nums := fun p hp => (List.mem_filter.mp hp).1
  exact ⟨⟨o.r1, o.r5, o.c1, o.c5, o.nd, o.cells, (tellM_keys r.nums n none o.keys).1, fun p hp => o.low p (hs p hp)⟩, g.six, fun p hp => g.keys p (hs p hp)⟩
theorem fitsF : kF.Fits where
  ok := fun r g => g.ok
  few := fun r g => by
    have o := g.ok
    show (Sy64.settings (sF r)).length ≤ 70000
    rw [(settings_perm o).length_eq]
    have h1 := foundBy_len o r.bl [[]] o.cells
    have h3 : 4 ^ r.bl.length ≤ 4 ^ 6 := Nat.pow_le_pow_right (by decide) g.six
    simp only [List.length_cons, List.length_nil] at h1
    show (F.foundBy (sF r) r.bl [[]]).length ≤ 70000
    omega
  short := fun r g p hp => by
    have := (F.settings_facts (sF r) g.ok.c1 p hp).2.1
    rw [this]
    exact Nat.le_trans g.six (by decide)
  nums := fun r g => by
    have h := keys_few g.ok.keys (n := r.rows + r.cols) fun x hx => by
      obtain ⟨p, hp, rfl⟩ := List.mem_map.mp hx
      exact g.keys p hp
    rw [List.length_map] at h
    have := g.ok.r5
    have := g.ok.c5
    omega
  low := fun r g n hn => by
    have := List.mem_range.mp (show n ∈ List.range (r.rows + r.cols) from hn)
    have := g.ok.r5
    have := g.ok.c5
    omega
  tell := fun r n v g hn => FGood.tell g (List.mem_range.mp (show n ∈ List.range (r.rows + r.cols) from hn)) (some v)
  drop := fun r n g => FGood.drop g n
  cntN := fun r ns n q => rfl
  allN := fun r ns => rfl
abbrev sSetF : Stmt := inClass cField 7
abbrev nSetF : List Str := ["self", "found", "tree", "tents"]
theorem scSetF : FnScope nSetF ["self"] (defScope sSetF) := ⟨rfl, rfl, rfl, by decide +kernel, rfl, by decide +kernel, by decide +kernel⟩
section
variable {P : Program} {w : World} {K : PySem.W.Frag} {mg : Str → Option Value} {base : Heap} {C : Addr}
theorem ok_setF {f : Addr} {fd : FuncData} (F : Fun K "settings" "Field.settings" sSetF f fd) (T : RC K C) (gS : mg "sorted" = none) (gLi : mg "list" = none) (mT : Mt P w K mg base C 2 "with_tent_for" ["self", "tree", "found"] (spTent C)) :
    FnOk P w K mg base CX0 3 f fd ["self"] (spSettings C kF) := by
  refine F.ok scSetF (fun vs H Q E h => ?_) (fun cdv A outer s H vs Q E hr h => ?_)
  · obtain ⟨x, d, r, rfl, _⟩ := h; rfl
  · obtain ⟨f1, fd1, M1, G1, B1⟩ := mT
    refine ⟨_, pss_cons (ps_set (i := 1) scSetF.nd rfl (Or.inl rfl) (pe_lst (pa_cons (pe_tup pa_nil) pa_nil)))
      (pss_cons (ps_for PassesOwn.never rfl (pi_list (pe_fld (pv 0) rfl)) (pg_name (i := 2) scSetF.nd rfl (Or.inl rfl))
        (pss_one (ps_set (i := 1) scSetF.nd rfl (Or.inl rfl) (pe_meth (pv 0) T.cl M1 G1 hr B1 .nil pass0 (pa_cons (pv 2) (pa_cons (pv 1) pa_nil))))))
      (pss_one (ps_ret (pe_lc (own := [("tents", 3)]) (g := gName 3) (tt := tYes) (te := tCB (fun xs H Q => ∃ p ys, xs = [.ref p] ∧ (SqL K H p ys ∨ SqT K H p ys) ∧ ∀ l, H l = none → Q (.ref l) (upd H l (.lst ys))) (tCons (tVar 3) tNil)) rfl scSetF.nd
        (pi_list (pe_callB cr_sortTL (by rfl) gS (by decide +kernel) (pa_cons (pv 1) pa_nil))) (blkOk_by (N := nSetF) (sc := defScope sSetF) (by decide +kernel))
        (fun _ _ _ _ _ => pg_name (i := 3) scSetF.nd rfl (Or.inl rfl)) (fun _ _ _ _ _ => pts_nil) (fun _ _ _ _ _ => pe_callTy call_list_of (by rfl) gLi (by decide +kernel) (pa_cons (pv 3) pa_nil)))))), ?_⟩
    obtain ⟨x, d, r, rfl, S, g, k⟩ := h
    have o := S.ok
    have hcols : 0 < (sF r).cols := o.c1
    have lens : ∀ i, (Rd.F.foundBy (sF r) (r.bl.take i) [[]]).length ≤ 4096 := fun i => by
      have h1 := foundBy_len o (r.bl.take i) [[]] fun t ht => o.cells t (List.mem_of_mem_take ht)
      have h2 : (r.bl.take i).length ≤ 6 := Nat.le_trans (List.length_take_le' _ _) g.six
      have h3 : 4 ^ (r.bl.take i).length ≤ 4 ^ 6 := Nat.pow_le_pow_right (by decide) h2
      simp only [List.length_cons, List.length_nil] at h1
      omega
    have facts : ∀ i, ∀ q ∈ Rd.F.foundBy (sF r) (r.bl.take i) [[]], Rising q ∧ q.length = (r.bl.take i).length := fun i q hq => by
      have := Rd.F.foundBy_facts (sF r) hcols (r.bl.take i) [[]] 0 (by simp [Rising]) q hq
      exact ⟨this.1, by rw [this.2.1, Nat.zero_add]⟩
    refine ⟨by show 0 ≤ sizeLine; decide, fun a0 ha0 => ⟨by show 1 ≤ sizeLine; decide, fun p0 hp0 => ?_⟩⟩
    have ap : a0 ≠ p0 := fun z => by rw [← z, upd_same] at hp0; cases hp0
    have e0 : Ex H (upd (upd H a0 (.tup [])) p0 (.lst [.ref a0])) := (Ex.new ha0).trans (Ex.new hp0)
    have f0 : IsTL [[]] (.ref p0) (upd (upd H a0 (.tup [])) p0 (.lst [.ref a0])) := ⟨p0, [a0], rfl, upd_same, .cons (by rw [upd_ne ap]; exact upd_same) .nil⟩
    revert e0 f0
    generalize upd (upd H a0 (.tup [])) p0 (.lst [.ref a0]) = H1
    intro e0 f0
    show tSeq _ _ _ [some (.ref x), some (.ref p0), none, none] H1
    refine q_forLn (a := d.ba) (xs := vL r.bl) (ev_blk T (S.mono e0) (ev_var rfl)) (sq_of (e0 _ _ S.bl)) (fun i σ' H' => ∃ (v : V) (v2 : Option V), σ' = [some (.ref x), some v, v2, none] ∧ Ex H H' ∧ IsTL (Rd.F.foundBy (sF r) (r.bl.take i) [[]]) v H')
      (fun H2 e2 => ⟨_, none, rfl, e0.trans e2, f0.mono e2⟩) (fun i σ' H' _ ⟨_, _, _, e, _⟩ => sq_of (e _ _ S.bl)) ?_ ?_
    · rintro i y σ' H' hi ⟨v, v2, rfl, e1, hv⟩
      obtain ⟨t, ht, rfl⟩ := vL_get_some hi
      have htm : t ∈ r.bl := List.mem_of_getElem? ht
      obtain ⟨p, as, rfl, hp, hl⟩ := hv
      refine ep_meth (P := IsTL (Rd.F.withTent (sF r) t (Rd.F.foundBy (sF r) (r.bl.take i) [[]]))) (vs := [vN t, .ref p]) (ev_var rfl) (S.mono e1).ins (rF_no d r (by decide +kernel)) (ea_cons (ev_var rfl) (ea_cons (ev_var rfl) ea_nil)) (fun H2 e2 Q kk E => ⟨x, p, d, r, t, as, _, rfl, S.mono (e1.trans e2), o.cells t htm, e2 _ _ hp, hl.mono e2, fun q hq => ⟨(facts i q hq).1, ?_⟩, Nat.le_trans (lens i) (by decide), kk⟩) H' (Ex.refl H') _ fun v' H2 e2 hv' => ?_
      · refine ⟨v', _, rfl, e1.trans e2, ?_⟩
        rw [take_more ht, foundBy_snoc]
        exact hv'
      · rw [(facts i q hq).2]
        exact Nat.le_trans (List.length_take_le' _ _) g.six
    · rintro σ' H' ⟨v, v2, rfl, e1, hv⟩
      rw [vL_len, List.take_length] at hv
      have lens' := lens r.bl.length
      have facts' := facts r.bl.length
      rw [List.take_length] at lens' facts'
      have src : EvP (tVar 1) [some (.ref x), some v, v2, none] H' (IsTL (Rd.F.found (sF r))) := fun H2 e2 Q k => ⟨v, rfl, k v H2 (Ex.refl H2) (hv.mono e2)⟩
      have hperm : ∀ l : List (List Nat), l.Perm (Rd.F.found (sF r)) → l.Pairwise (fun a b => bef b a = false) → l = Sy64.settings (sF r) := fun l h1 h2 => Rd.F.settings_is (sF r) hcols l h1 h2
      have hne : (Rd.F.found (sF r)).length < 2 ∨ 0 < r.bl.length := by
        cases eb : r.bl with
        | nil =>
          left
          have : Rd.F.found (sF r) = [[]] := by unfold Rd.F.found; show Rd.F.foundBy (sF r) r.bl [[]] = _; rw [eb]; rfl
          rw [this]; decide
        | cons a l => right; simp
      have sl : (Sy64.settings (sF r)).length ≤ 40000 := by
        have hp : (Sy64.settings (sF r)).Perm (Rd.F.found (sF r)) := settings_perm o
        rw [hp.length_eq]
        exact Nat.le_trans lens' (by decide)
      refine s_retP (EvLL.P (ell_mapT (ep_sortTL src (fun q hq => (facts' q hq).2) hne hperm) sl (fun _ => rfl) fun a q H2 e2 ha hq => ?_)) fun w H2 e2 hw => k w H2 (e1.trans e2) hw
      exact fun H3 e3 Q kk => ⟨_, rfl, a, _, rfl, .inr (st_of (e3 _ _ ha)), fun l hl => kk l _ hl (Ex.new hl) upd_same⟩
end
end Rd
set_option linter.all false
set_option maxRecDepth 100000
set_option maxHeartbeats 2000000
namespace Rd
open PySem PySem.Spec PyProof.Rows L2 Evl
/-! ### the field's deeds -/
def treeM (r : R) (n : Nat) : R × List Int := if r.rows * r.cols ≤ n then (r, [-2]) else if r.bl.contains n = true then (r, [-4]) else if r.bl.length = 6 then (r, [-5]) else ({ r with bl := r.bl ++ [n] }, [((r.bl.length + 1 : Nat) : Int)])
def lineM (r : R) (first lines n v : Nat) : R × List Int := if lines ≤ n then (r, [-2]) else if 6 < v ∧ v ≠ 99 then (r, [-1]) else ({ r with nums := tellM r.nums (first + n) (if v = 99 then none else some v) }, [0])
def shownF (r : R) : List Nat := (List.range (r.rows + r.cols)).map fun n => (r.nums.lookup n).getD 99
def stateF (r : R) : List Int := castL ([r.bl.length, r.bl.length] ++ r.bl ++ ([r.rows] ++ (shownF r).take r.rows) ++ ([r.cols] ++ (shownF r).drop r.rows) ++ [0, 0])
def spTree (C : Addr) : Sp := fun vs H Q _ => ∃ (x : Addr) (d : Ad) (r : R) (n : Nat), vs = [.ref x, vN n] ∧ Own C H x d r ∧ r.bl.length ≤ 6 ∧ Aft C H x d (treeM r n).1 (treeM r n).2 Q
def spLine (C : Addr) : Sp := fun vs H Q _ => ∃ (x : Addr) (d : Ad) (r : R) (first lines n v : Nat), vs = [.ref x, vN first, vN lines, vN n, vN v] ∧ Own C H x d r ∧ first + lines ≤ 25 ∧ r.nums.length < 1000 ∧ Aft C H x d (lineM r first lines n v).1 (lineM r first lines n v).2 Q
abbrev sTree : Stmt := inClass cField 2
abbrev sLine : Stmt := inClass cField 3
abbrev sStateF : Stmt := inClass cField 4
abbrev sOwnF : Stmt := inClass cField 1
theorem scTree : FnScope ["self", "cell"] ["self", "cell"] (defScope sTree) := ⟨rfl, rfl, rfl, by decide +kernel, rfl, by decide +kernel, by decide +kernel⟩
abbrev nLine : List Str := ["self", "first", "lines", "line", "tents"]
theorem scLine : FnScope nLine nLine (defScope sLine) := ⟨rfl, rfl, rfl, by decide +kernel, rfl, by decide +kernel, by decide +kernel⟩
abbrev nStateF : List Str := ["self", "trees", "shown", "rows", "columns", "number"]
theorem scStateF : FnScope nStateF ["self"] (defScope sStateF) := ⟨rfl, rfl, rfl, by decide +kernel, rfl, by decide +kernel, by decide +kernel⟩
theorem scOwnF : FnScope ["self", "told", "call"] ["self", "told"] (defScope sOwnF) := ⟨rfl, rfl, rfl, by decide +kernel, rfl, by decide +kernel, by decide +kernel⟩
theorem q_tell {C : Addr} {σ : L2.St} {H : Hp} {x : Addr} {d : Ad} {r : R} {ts : TA} {D : Ends} {tz : TS} {E : XK} {n : Nat} {o : Option Nat} (O : Own C H x d r) (hn : n < 25) (hl : r.nums.length < 1000) (s0 : σ[0]? = some (some (.ref x))) (ha : EvA ts σ H [vN n, oV o])
    (k : ∀ H', Kept H H' [d.na] → Own C H' x d { r with nums := tellM r.nums n o } → tz D σ H') : tSeq (tDrop (tMeth C "tell" (spTell C) [] E (tVar 0) ts)) tz D σ H := s_tell (D := { D with nx := tz D }) O hn hl s0 ha k
/-- d.get(k, x) -/
theorem ev_dget2 {σ : L2.St} {H : Hp} {td ty tx : TE} {a : Addr} {n z : Nat} {nums : List (Nat × Nat)} (h : Ev td σ H (.ref a)) (hk : Ev ty σ H (vN n)) (hx : Ev tx σ H (vN z)) (ha : Rd H a (.dK (kvN nums))) : Ev (tDGet2 td ty tx) σ H (vN ((nums.lookup n).getD z)) := fun H1 e Q q =>
  h H1 e _ fun H2 e2 => ⟨a, rfl, .inl ⟨_, ex_rd (e.trans e2) ha⟩, hk H2 (e.trans e2) _ fun H3 e3 => hx H3 ((e.trans e2).trans e3) _ fun H4 e4 => ⟨_, .inl ⟨kvN nums, Sum.inl (n : Int), ex_rd (((e.trans e2).trans e3).trans e4) ha, rfl, rfl⟩, by
    rw [kvN_get]
    have : (Option.map vN (nums.lookup n)).getD (vN z) = vN ((nums.lookup n).getD z) := by cases nums.lookup n <;> rfl
    rw [this]
    exact q H4 ((e2.trans e3).trans e4)⟩⟩
/-- d.get(k) -/
theorem ev_dget1 {σ : L2.St} {H : Hp} {td ty : TE} {a : Addr} {n : Nat} {nums : List (Nat × Nat)} (h : Ev td σ H (.ref a)) (hk : Ev ty σ H (vN n)) (ha : Rd H a (.dK (kvN nums))) : Ev (tDGet1 td ty) σ H (oV (nums.lookup n)) := fun H1 e Q q =>
  h H1 e _ fun H2 e2 => ⟨a, rfl, .inl ⟨_, ex_rd (e.trans e2) ha⟩, hk H2 (e.trans e2) _ fun H3 e3 => ⟨_, .inl ⟨kvN nums, Sum.inl (n : Int), ex_rd ((e.trans e2).trans e3) ha, rfl, rfl⟩, by
    rw [kvN_get]
    have : (Option.map vN (nums.lookup n)).getD V.non = oV (nums.lookup n) := by cases nums.lookup n <;> rfl
    rw [this]
    exact q H3 (e2.trans e3)⟩⟩
/-- a slice of a list -/
theorem el_slL {σ : L2.St} {H : Hp} {te : TE} {tl th : TO} {K : PySem.W.Frag} {a : Addr} {xs : List V} {lo hi : Option Int} (h : Ev te σ H (.ref a)) (h1 : EvO tl σ H lo) (h2 : EvO th σ H hi) (hs : SqL K H a xs) : EvL (tSl (rSlL K) te tl th) σ H (cutV xs lo hi) := el_sl h h1 h2 hs
theorem cut_take (l : List Nat) (n : Nat) (h : n ≤ l.length) : cutV (vL l) none (some (n : Int)) = vL (l.take n) := by
  unfold cutV
  rw [HT.sIx_none, HT.sIx_nat, vL_len, Nat.min_eq_left h, List.drop_zero, Nat.sub_zero]
  exact (List.map_take ..).symm
theorem cut_drop (l : List Nat) (n : Nat) (h : n ≤ l.length) : cutV (vL l) (some (n : Int)) none = vL (l.drop n) := by
  unfold cutV
  rw [HT.sIx_none, HT.sIx_nat, vL_len, Nat.min_eq_left h]
  have e : (vL l).drop n = vL (l.drop n) := (List.map_drop ..).symm
  rw [e, List.take_of_length_le]
  rw [vL_len, List.length_drop]
  exact Nat.le_refl _
section
variable {P : Program} {w : World} {K : PySem.W.Frag} {mg : Str → Option Value} {base : Heap} {C : Addr}
theorem ok_tree {f : Addr} {fd : FuncData} (F : Fun K "tree" "Field.tree" sTree f fd) (T : RC K C) (gL : mg "len" = none) (c2 : KInt mg "NO_SUCH" (-2)) (c4 : KInt mg "NOT_AS_IT_IS" (-4)) (c5 : KInt mg "FULL" (-5)) (c6 : KInt mg "MOST_TREES" 6) (mS : Mt P w K mg base C 1 "size" ["self"] (spSize C)) :
    FnOk P w K mg base CX0 2 f fd ["self", "cell"] (spTree C) := by
  refine F.ok scTree (fun vs H Q E h => ?_) (fun cdv A outer s H vs Q E hr h => ?_)
  · obtain ⟨x, d, r, n, rfl, _⟩ := h; rfl
  · obtain ⟨fs, fds, MS, GS, BS⟩ := mS
    obtain ⟨t2, c2⟩ := c2
    obtain ⟨t4, c4⟩ := c4
    obtain ⟨t5, c5⟩ := c5
    obtain ⟨t6, c6⟩ := c6
    refine ⟨_, pss_cons (ps_if (pt_cmpR op_ge (pv 1) (pe_meth0 (pv 0) T.cl MS GS hr BS .nil pass0) (nomark _)) (pss_one (ps_ret (pe_lst (pa_cons (pe_glob (v := .int (-2)) rfl c2 ⟨_, rfl⟩) pa_nil)))) pss_nil)
      (pss_cons (ps_if (pt_cmpR op_in_seq (pv 1) (pe_fld (pv 0) rfl) (by rfl)) (pss_one (ps_ret (pe_lst (pa_cons (pe_glob (v := .int (-4)) rfl c4 ⟨_, rfl⟩) pa_nil)))) pss_nil)
      (pss_cons (ps_if (pt_cmpR op_eq (pe_callB call_len_seq (by rfl) gL PySem.boot_len (pa_cons (pe_fld (pv 0) rfl) pa_nil)) (pe_glob (v := .int 6) rfl c6 ⟨_, rfl⟩) (nomark _)) (pss_one (ps_ret (pe_lst (pa_cons (pe_glob (v := .int (-5)) rfl c5 ⟨_, rfl⟩) pa_nil)))) pss_nil)
      (pss_cons (ps_expr (pe_bm PySem.F.plainAttrs_list PySem.F.slot_list_append PySem.F.type_list_append mt_append (pe_fld (pv 0) rfl) (pa_cons (pv 1) pa_nil)))
      (pss_one (ps_ret (pe_lst (pa_cons (pe_callB call_len_seq (by rfl) gL PySem.boot_len (pa_cons (pe_fld (pv 0) rfl) pa_nil)) pa_nil))))))), ?_⟩
    obtain ⟨x, d, r, n, rfl, O, h6, k⟩ := h
    have S := O.seen
    refine q_when (b := decide (((r.rows * r.cols : Nat) : Int) ≤ (n : Int))) (et_test (ev_op (ev_var rfl) (ev_meth (ev_var rfl) S.ins (rF_no d r (by decide +kernel)) ea_nil (spv_size S)) rv_I0)) (fun hb H1 e1 => ?_) (fun hb H1 e1 => ?_)
    · have hb : r.rows * r.cols ≤ n := Int.ofNat_le.mp (of_decide_eq_true hb)
      rw [treeM, if_pos hb] at k
      exact s_retL (el_lst (ea_cons ev_c ea_nil) (by show 1 ≤ 100000; decide)) fun p H2 _ e2 h2 => k.same O (e1.trans e2) h2
    have hb : ¬ r.rows * r.cols ≤ n := fun z => of_decide_eq_false hb (Int.ofNat_le.mpr z)
    have S1 := S.mono e1
    refine q_when (b := r.bl.contains n) (et_test (ev_is (ev_op (ev_var rfl) (ev_blk T S1 (ev_var rfl)) (rv_isL (sq_of S1.bl) rfl (flat_vL _))) (by rw [inV_vL]))) (fun hb2 H2 e2 => ?_) (fun hb2 H2 e2 => ?_)
    · rw [treeM, if_neg hb, if_pos hb2] at k
      exact s_retL (el_lst (ea_cons ev_c ea_nil) (by show 1 ≤ 100000; decide)) fun p H3 _ e3 h3 => k.same O ((e1.trans e2).trans e3) h3
    have S2 := S1.mono e2
    have e12 := e1.trans e2
    refine q_when (b := decide (r.bl.length = 6)) (et_test (ev_is (ev_op (x := .int (r.bl.length : Nat)) (y := .int 6) (ev_is (ev_len (ev_blk T S2 (ev_var rfl)) (sq_of S2.bl)) (by rw [vL_len])) ev_c (rv_eq rfl)) ?_)) (fun hb3 H3 e3 => ?_) (fun hb3 H3 e3 => ?_)
    · rw [dec_int]
      congr 1
      have := beq_cast r.bl.length 6
      rw [show (((6 : Nat) : Int)) = 6 from rfl] at this
      rw [this]; rfl
    · have hb3 := of_decide_eq_true hb3
      rw [treeM, if_neg hb, if_neg (by rw [hb2]; decide), if_pos hb3] at k
      exact s_retL (el_lst (ea_cons ev_c ea_nil) (by show 1 ≤ 100000; decide)) fun p H4 _ e4 h4 => k.same O ((e12.trans e3).trans e4) h4
    have hb3 := of_decide_eq_false hb3
    rw [treeM, if_neg hb, if_neg (by rw [hb2]; decide), if_neg hb3] at k
    have S3 := S2.mono e3
    refine q_app (l := d.ba) (xs := vL r.bl) (v := vN n) S3.bl (ev_blk T S3 (ev_var rfl)) (ev_var rfl) (by rw [vL_len]; omega) fun H4 e4 => ?_
    have O4 := O.mono ((e12.trans e3).trans e4)
    have S4 := O4.seen
    have hne : x ≠ d.ba := ne_of S4.ins S4.bl (by intro z; cases z)
    have hnn : d.na ≠ d.ba := ne_of O4.nu S4.bl (by intro z; cases z)
    have hnm : n ∉ r.bl := by
      intro z
      rw [List.contains_iff_mem.mpr z] at hb2; cases hb2
    have ok' : ({ r with bl := r.bl ++ [n] } : R).Ok := by
      refine ⟨S.ok.r1, S.ok.r5, S.ok.c1, S.ok.c5, ?_, fun y hy => ?_, S.ok.keys, S.ok.low⟩
      · rw [List.nodup_append]
        refine ⟨S.ok.nd, by simp, ?_⟩
        intro a ha b hb'
        simp at hb'; subst hb'
        intro e; subst e; exact hnm ha
      · rcases List.mem_append.mp hy with hy | hy
        · exact S.ok.cells y hy
        · simp at hy; subst hy
          exact Nat.lt_of_not_le hb
    have eL : vL r.bl ++ [vN n] = vL (r.bl ++ [n]) := (vL_append r.bl [n]).symm
    rw [eL]
    have O5 : Own C (upd H4 d.ba (.lst (vL (r.bl ++ [n])))) x d { r with bl := r.bl ++ [n] } := ⟨⟨ok', by rw [upd_ne hne]; exact S4.ins, upd_same, .inl (by rw [upd_ne hnn]; exact O4.nu)⟩, by rw [upd_ne hnn]; exact O4.nu⟩
    refine s_retL (el_lst (ea_cons (ev_len (ev_blk T O5.seen (ev_var rfl)) (sq_of upd_same)) ea_nil) (by show 1 ≤ 100000; decide)) fun p H6 _ e6 h6 => ?_
    refine k H6 d p ((Kept.set (.of_ex ((e12.trans e3).trans e4)) (by simp)).ex e6) (O5.mono e6) (.refl H d) ?_
    rw [h6, vL_len, List.length_append]
    rfl
theorem ok_line {f : Addr} {fd : FuncData} (F : Fun K "line" "Field.line" sLine f fd) (T : RC K C) (c2 : KInt mg "NO_SUCH" (-2)) (c1 : KInt mg "BAD_VALUE" (-1)) (c6 : KInt mg "MOST_TENTS" 6) (c9 : KInt mg "NOT_TOLD" 99) (mT : Mt P w K mg base C 1 "tell" ["self", "number", "value"] (spTell C)) :
    FnOk P w K mg base CX0 2 f fd nLine (spLine C) := by
  refine F.ok scLine (fun vs H Q E h => ?_) (fun cdv A outer s H vs Q E hr h => ?_)
  · obtain ⟨x, d, r, a, b, n, v, rfl, _⟩ := h; rfl
  · obtain ⟨f1, fd1, M1, G1, B1⟩ := mT
    obtain ⟨t2, c2⟩ := c2
    obtain ⟨t1, c1⟩ := c1
    obtain ⟨t6, c6⟩ := c6
    obtain ⟨t9, c9⟩ := c9
    refine ⟨_, pss_cons (ps_if (pt_cmpR op_ge (pv 3) (pv 2) (nomark _)) (pss_one (ps_ret (pe_lst (pa_cons (pe_glob (v := .int (-2)) rfl c2 ⟨_, rfl⟩) pa_nil)))) pss_nil)
      (pss_cons (ps_if (PW.pt (pw_and (pt_cmpR op_gt (pv 4) (pe_glob (v := .int 6) rfl c6 ⟨_, rfl⟩) (nomark _)) (pw_and1 (pt_cmpR op_ne (pv 4) (pe_glob (v := .int 99) rfl c9 ⟨_, rfl⟩) (nomark _))))) (pss_one (ps_ret (pe_lst (pa_cons (pe_glob (v := .int (-1)) rfl c1 ⟨_, rfl⟩) pa_nil)))) pss_nil)
      (pss_cons (ps_expr (pe_meth (pv 0) T.cl M1 G1 hr B1 .nil pass0 (pa_cons (pe_op op_add (pv 1) (pv 3)) (pa_cons (pe_ifExp (pt_cmpR op_eq (pv 4) (pe_glob (v := .int 99) rfl c9 ⟨_, rfl⟩) (nomark _)) pe_non (pv 4)) pa_nil))))
      (pss_one (ps_ret (pe_lst (pa_cons pe_int pa_nil)))))), ?_⟩
    obtain ⟨x, d, r, a, b, n, v, rfl, O, h25, hl, k⟩ := h
    refine q_when (b := decide ((b : Int) ≤ (n : Int))) (et_test (ev_op (ev_var rfl) (ev_var rfl) rv_I0)) (fun hb H1 e1 => ?_) (fun hb H1 e1 => ?_)
    · have hb : b ≤ n := Int.ofNat_le.mp (of_decide_eq_true hb)
      rw [lineM, if_pos hb] at k
      exact s_retL (el_lst (ea_cons ev_c ea_nil) (by show 1 ≤ 100000; decide)) fun p H2 _ e2 h2 => k.same O (e1.trans e2) h2
    have hb : ¬ b ≤ n := fun z => of_decide_eq_false hb (Int.ofNat_le.mpr z)
    have e99 : ∀ H2, Ev (tOp rEq (tVar 4) (tC (.int 99))) [some (.ref x), some (vN a), some (vN b), some (vN n), some (vN v)] H2 (.bl (decide (v = 99))) := fun H2 => by
      refine ev_is (ev_op (x := vN v) (y := .int 99) (ev_var rfl) ev_c (rv_eq rfl)) ?_
      rw [dec_int]
      congr 1
      have := beq_cast v 99
      rw [show (((99 : Nat) : Int)) = 99 from rfl] at this
      rw [this]; rfl
    refine q_when (b := decide (6 < v) && !decide (v = 99)) (et_and (a := decide (6 < v)) (et_test (ev_is (ev_op (x := vN v) (y := .int 6) (ev_var rfl) ev_c rv_I0) ?_)) (fun _ => et_test (ev_is (ev_op (x := vN v) (y := .int 99) (ev_var rfl) ev_c (rv_ne rfl)) ?_))) (fun hb2 H2 e2 => ?_) (fun hb2 H2 e2 => ?_)
    · show V.bl (decide ((6 : Int) < (v : Int))) = _
      congr 1
      exact decide_eq_decide.mpr (by omega)
    · rw [dec_int]
      congr 1
      have := beq_cast v 99
      rw [show (((99 : Nat) : Int)) = 99 from rfl] at this
      rw [this]; rfl
    · have hb2 : 6 < v ∧ v ≠ 99 := by simpa using hb2
      rw [lineM, if_neg hb, if_pos hb2] at k
      exact s_retL (el_lst (ea_cons ev_c ea_nil) (by show 1 ≤ 100000; decide)) fun p H3 _ e3 h3 => k.same O ((e1.trans e2).trans e3) h3
    · have hb2 : ¬ (6 < v ∧ v ≠ 99) := by
        rintro ⟨z1, z2⟩
        rw [decide_eq_true z1, decide_eq_false z2] at hb2
        cases hb2
      rw [lineM, if_neg hb, if_neg hb2] at k
      have e12 := e1.trans e2
      refine q_tell (n := a + n) (o := if v = 99 then none else some v) (O.mono e12) (by omega) hl rfl (ea_cons (ev_is (ev_op (ev_var rfl) (ev_var rfl) rv_I0) rfl) (ea_cons (ev_if (et_test (e99 _)) (fun h9 => ev_is ev_c ?_) (fun h9 => ev_is (ev_var rfl) ?_)) ea_nil)) fun H3 k3 O3 => ?_
      · rw [if_pos (of_decide_eq_true h9)]; rfl
      · rw [if_neg (of_decide_eq_false h9)]; rfl
      · exact s_retL (el_lst (ea_cons ev_c ea_nil) (by show 1 ≤ 100000; decide)) fun p H4 _ e4 h4 => k H4 d p ((((Kept.of_ex e12).trans (k3.sub (by simp)))).ex e4) (O3.mono e4) (.refl H d) h4
end
end Rd
set_option linter.all false
set_option maxRecDepth 100000
set_option maxHeartbeats 2000000
namespace Rd
open PySem PySem.Spec PyProof.Rows L2 Evl
def fieldDeed (r : R) : List Nat → R × List Int
  | [1, a] => treeM r a
  | [2, a] => unblockM r a
  | [3, a, b] => lineM r 0 r.rows a b
  | [4, a, b] => lineM r r.rows r.cols a b
  | [6] => (r, manyA kF r)
  | [11] => (r, fewA kF r)
  | [12] => (r, stateF r)
  | _ => (r, [-100])
def wantsF : List (Nat × Nat) := [(0, 2), (1, 1), (2, 1), (3, 2), (4, 2), (6, 0), (11, 0), (12, 0)]
/-- one of the riddle's own calls -/
def spOwn (C : Addr) (kd : Kind) (ws : List (Nat × Nat)) (dm : R → List Nat → R × List Int) : Sp := fun vs H Q _ => ∃ (x l : Addr) (d : Ad) (r : R) (c : Nat) (t : List Nat), vs = [.ref x, .ref l] ∧ Own C H x d r ∧ kd.good r ∧ H l = some (.lst (vL (c :: t))) ∧ ws.lookup c = some t.length ∧ c ≠ 0 ∧ Aft C H x d (dm r (c :: t)).1 (dm r (c :: t)).2 Q
def deedM (ws : List (Nat × Nat)) (L : Nat) (dm : R → List Nat → R × List Int) (r : R) : List Nat → R × List Int
  | [] => (r, [-100])
  | c :: t => if ws.lookup c = some t.length then (if c = 0 then beginsM L r (t.getD 0 0) (t.getD 1 0) else dm r (c :: t)) else (r, [-100])
def spDeed (C : Addr) (kd : Kind) (ws : List (Nat × Nat)) (L : Nat) (dm : R → List Nat → R × List Int) : Sp := fun vs H Q _ => ∃ (x l : Addr) (d : Ad) (r : R) (t : List Nat), vs = [.ref x, .ref l] ∧ Own C H x d r ∧ kd.good r ∧ d.L = (L : Int) ∧ L ≤ 5 ∧ H d.wd = some (.dK (kvN ws)) ∧ H l = some (.lst (vL t)) ∧ t.length ≤ 1000 ∧ Aft C H x d (deedM ws L dm r t).1 (deedM ws L dm r t).2 Q
abbrev sDeed : Stmt := inClass (top 9) 2
theorem scDeed : FnScope ["self", "told"] ["self", "told"] (defScope sDeed) := ⟨rfl, rfl, rfl, by decide +kernel, rfl, by decide +kernel, by decide +kernel⟩
/-- told[i] -/
theorem ev_told {σ : L2.St} {H : Hp} {K : PySem.W.Frag} {l : Addr} {t : List Nat} {i j n : Nat} (h : σ[j]? = some (some (.ref l))) (hl : H l = some (.lst (vL t))) (hi : t[i]? = some n) : Ev (tOp (rIxL K) (tVar j) (tC (.int (i : Int)))) σ H (vN n) :=
  ev_op (ev_var h) ev_c (rv_ixL (sq_of hl) (atI_nat (by rw [vL_get, hi]; rfl)))
/-- a number is a number -/
theorem rv_eqN {H : Hp} {a b : Nat} : RV rEq (vN a) (vN b) H (.bl (a == b)) := fun H1 e Q q => ⟨rfl, by rw [dec_int, beq_cast]; exact q H1 (Ex.refl H1)⟩
theorem rv_neN {H : Hp} {a b : Nat} : RV rNe (vN a) (vN b) H (.bl (a != b)) := fun H1 e Q q => ⟨rfl, by rw [dec_int, bne_cast]; exact q H1 (Ex.refl H1)⟩
section
variable {P : Program} {w : World} {K : PySem.W.Frag} {mg : Str → Option Value} {base : Heap} {C : Addr}
theorem ok_stateF {f : Addr} {fd : FuncData} (F : Fun K "state" "Field.state" sStateF f fd) (T : RC K C) (gL : mg "len" = none) (c9 : KInt mg "NOT_TOLD" 99) (mA : Mt P w K mg base C 1 "all_numbers" ["self"] (spAll C kF)) :
    FnOk P w K mg base CX0 2 f fd ["self"] (spPure C kF stateF) := by
  refine F.ok scStateF (fun vs H Q E h => ?_) (fun cdv A outer s H vs Q E hr h => ?_)
  · obtain ⟨x, d, r, rfl, _⟩ := h; rfl
  · obtain ⟨f1, fd1, M1, G1, B1⟩ := mA
    obtain ⟨t9, c9⟩ := c9
    refine ⟨_, pss_cons (ps_set (i := 1) scStateF.nd rfl (Or.inl rfl) (pe_callB call_len_seq (by rfl) gL PySem.boot_len (pa_cons (pe_fld (pv 0) rfl) pa_nil)))
      (pss_cons (ps_setLc (i := 2) (own := [("number", 5)]) (g := gName 5) (tt := tYes) (te := tDGet2 (tFld K (tVar 0) "numbers") (tVar 5) (tC (.int 99))) rfl scStateF.nd rfl rfl (sw_true rfl rfl rfl (by decide +kernel)) (pi_list (pe_meth0 (pv 0) T.cl M1 G1 hr B1 .nil pass0)) (blkOk_by (N := nStateF) (sc := defScope sStateF) (by decide +kernel))
        (fun _ _ _ _ _ => pg_name (i := 5) scStateF.nd rfl (Or.inl rfl)) (fun _ _ _ _ _ => pts_nil) (fun _ _ _ _ _ => pe_dget2 (hu_of hr) (pe_fld (pv 0) rfl) (pv 5) (pe_glob (v := .int 99) rfl c9 ⟨_, rfl⟩) ⟨rfl, rfl, rfl, rfl⟩))
      (pss_cons (ps_set (i := 3) scStateF.nd rfl (Or.inl rfl) (pe_op op_cat (pe_lst (pa_cons (pe_fld (pv 0) rfl) pa_nil)) (pe_slice sl_list (pv 2) po_none (po_some (pe_fld (pv 0) rfl)))))
      (pss_cons (ps_set (i := 4) scStateF.nd rfl (Or.inl rfl) (pe_op op_cat (pe_lst (pa_cons (pe_fld (pv 0) rfl) pa_nil)) (pe_slice sl_list (pv 2) (po_some (pe_fld (pv 0) rfl)) po_none)))
      (pss_one (ps_ret (pe_op op_cat (pe_op op_cat (pe_op op_cat (pe_op op_cat (pe_lst (pa_cons (pv 1) (pa_cons (pv 1) pa_nil))) (pe_fld (pv 0) rfl)) (pv 3)) (pv 4)) (pe_lst (pa_cons pe_int (pa_cons pe_int pa_nil))))))))), ?_⟩
    obtain ⟨x, d, r, rfl, O, g, k⟩ := h
    have S := O.seen
    have o := S.ok
    have r5 := o.r5
    have c5 := o.c5
    have b6 := g.six
    have sl : (shownF r).length = r.rows + r.cols := by unfold shownF; rw [List.length_map, List.length_range]
    refine q_asg (v := vN r.bl.length) (ev_is (ev_len (ev_blk T S (ev_var rfl)) (sq_of S.bl)) (by rw [vL_len])) fun H1 e1 => ?_
    have S1 := S.mono e1
    have key : EvL (tLc (iList K (tMeth C "all_numbers" (spAll C kF) [] E0 (tVar 0) tNil)) (gName 5) tYes (tDGet2 (tFld K (tVar 0) "numbers") (tVar 5) (tC (.int 99))) [5]) [some (.ref x), some (vN r.bl.length), none, none, none, none] H1 (vL (shownF r)) := by
      have := el_lcNL (K := K) (xs := vL (allF r)) (tl := tMeth C "all_numbers" (spAll C kF) [] E0 (tVar 0) tNil) (t := tYes) (te := tDGet2 (tFld K (tVar 0) "numbers") (tVar 5) (tC (.int 99))) (σ := [some (.ref x), some (vN r.bl.length), none, none, none, none]) (H := H1) (j := 5) (vs := [5]) (fun _ => true) (fun i => vN ((r.nums.lookup ((allF r).getD i 0)).getD 99))
        (el_meth (vs := []) (ev_var rfl) S1.ins (rF_no d r (by decide +kernel)) ea_nil (spl_all (kd := kF) S1 g)) (by rw [vL_len]; unfold allF; rw [List.length_range]; omega) (fun _ => rfl)
        (fun i y H2 e2 _ H3 e3 Q q => q H3 (Ex.refl H3))
        (fun i y H2 e2 hi _ => by
          obtain ⟨n, hn, rfl⟩ := vL_get_some hi
          rw [getD_of hn]
          exact ev_dget2 (z := 99) (ev_num T (S1.mono e2) (ev_var rfl)) (ev_var rfl) ev_c (S1.mono e2).nu)
      rw [vL_len, given_filter (allF r) (fun _ => true) (fun n => vN ((r.nums.lookup n).getD 99)) 0, keepAll] at this
      have e : vL (shownF r) = (allF r).map fun n => vN ((r.nums.lookup n).getD 99) := by unfold vL shownF allF; rw [List.map_map]; rfl
      rw [e]
      exact this
    refine q_asgL key fun p2 H2 hp2 e2 h2 => ?_
    have S2 := S1.mono e2
    refine q_asgL (xs := vL ([r.rows] ++ (shownF r).take r.rows)) (by
      rw [vL_append]
      exact el_catL (el_lst (ea_cons (ev_rows T S2 (ev_var rfl)) ea_nil) (by show 1 ≤ 100000; decide)) (by rw [← cut_take (shownF r) r.rows (by omega)]; exact el_slL (ev_var rfl) eo_none (eo_some (ev_rows T S2 (ev_var rfl))) (sq_of h2)) (by rw [vL_len, vL_len, List.length_take]; simp only [List.length_cons, List.length_nil]; omega)) fun p3 H3 hp3 e3 h3 => ?_
    have S3 := S2.mono e3
    refine q_asgL (xs := vL ([r.cols] ++ (shownF r).drop r.rows)) (by
      rw [vL_append]
      exact el_catL (el_lst (ea_cons (ev_cols T S3 (ev_var rfl)) ea_nil) (by show 1 ≤ 100000; decide)) (by rw [← cut_drop (shownF r) r.rows (by omega)]; exact el_slL (ev_var rfl) (eo_some (ev_rows T S3 (ev_var rfl))) eo_none (sq_of (e3 _ _ h2))) (by rw [vL_len, vL_len, List.length_drop]; simp only [List.length_cons, List.length_nil]; omega)) fun p4 H4 hp4 e4 h4 => ?_
    have S4 := S3.mono e4
    have z1 : ([r.bl.length, r.bl.length] ++ r.bl).length ≤ 8 := by simp only [List.length_append, List.length_cons, List.length_nil]; omega
    have z2 : ([r.rows] ++ (shownF r).take r.rows).length ≤ 6 := by simp only [List.length_append, List.length_cons, List.length_nil, List.length_take]; omega
    have z3 : ([r.cols] ++ (shownF r).drop r.rows).length ≤ 6 := by simp only [List.length_append, List.length_cons, List.length_nil, List.length_drop]; omega
    have a1 : EvL (tOp rCat (tLst (tCons (tVar 1) (tCons (tVar 1) tNil))) (tFld K (tVar 0) "blocked")) [some (.ref x), some (vN r.bl.length), some (.ref p2), some (.ref p3), some (.ref p4), none] H4 (vL ([r.bl.length, r.bl.length] ++ r.bl)) := by
      rw [vL_append]
      exact el_catR (el_lst (ea_cons (ev_var rfl) (ea_cons (ev_var rfl) ea_nil)) (by show 2 ≤ 100000; decide)) (ev_blk T S4 (ev_var rfl)) S4.bl (by rw [vL_len, vL_len]; simp only [List.length_cons, List.length_nil]; omega)
    have a2 := el_catR (tb := tVar 3) a1 (ev_var rfl) (e4 _ _ h3) (by rw [vL_len, vL_len]; omega)
    rw [← vL_append] at a2
    have a3 := el_catR (tb := tVar 4) a2 (ev_var rfl) h4 (by rw [vL_len, vL_len, List.length_append]; omega)
    rw [← vL_append] at a3
    have a0 : EvL (tLst (tCons (tC (.int 0)) (tCons (tC (.int 0)) tNil))) [some (.ref x), some (vN r.bl.length), some (.ref p2), some (.ref p3), some (.ref p4), none] H4 [V.int 0, V.int 0] := el_lst (ea_cons ev_c (ea_cons ev_c ea_nil)) (by show 2 ≤ 100000; decide)
    have a4 := el_catL a3 a0 (by rw [vL_len, List.length_append, List.length_append]; show _ + 2 ≤ 100000; omega)
    refine s_retL a4 fun q H5 hq e5 h5 => k.same O (((e1.trans e2).trans e3).trans (e4.trans e5)) ?_
    rw [h5]
    congr 1
    unfold stateF
    show _ = HO.lst ((castL _).map V.int)
    congr 1
    have e : ([V.int 0, V.int 0] : List V) = vL [0, 0] := rfl
    rw [e, ← vL_append, vL_ints]
    rfl
end
end Rd
set_option linter.all false
set_option maxRecDepth 100000
set_option maxHeartbeats 2000000
namespace Rd
open PySem PySem.Spec PyProof.Rows L2 Evl
theorem s_retM {C : Addr} {σ : L2.St} {H : Hp} {x : Addr} {d : Ad} {r : R} {ts : TA} {D : Ends} {E : XK} {m : Str} {sp : Sp} {vs : List V} (S : Seen C H x d r) (s0 : σ[0]? = some (some (.ref x))) (hm : (rF d r).lookup m = none) (ha : EvA ts σ H vs)
    (k : ∀ H1, Ex H H1 → sp (.ref x :: (vs ++ [])) H1 D.rt E) : tRet (tMeth C m sp [] E (tVar 0) ts) D σ H :=
  ⟨_, s0, x, d.dx, rF d r, rfl, S.ins, hm, ha H (Ex.refl H) _ fun H1 e1 => k H1 e1⟩
theorem len0 {t : List Nat} (h : some 0 = some t.length) : t = [] := List.eq_nil_of_length_eq_zero (Option.some.inj h).symm
theorem len1 {t : List Nat} (h : some 1 = some t.length) : ∃ a, t = [a] := List.length_eq_one_iff.mp (Option.some.inj h).symm
theorem len2 {t : List Nat} (h : some 2 = some t.length) : ∃ a b, t = [a, b] := by
  match t, Option.some.inj h with
  | [a, b], _ => exact ⟨a, b, rfl⟩
theorem lookup_key : ∀ {l : List (Nat × Nat)} {c v : Nat}, l.lookup c = some v → c ∈ l.map (·.1)
  | [], _, _, h => by cases h
  | q :: l, c, v, h => by
    rw [List.lookup_cons] at h
    by_cases e : c = q.1
    · rw [e]; exact List.mem_cons_self
    · rw [show (c == q.1) = false by simpa using e] at h
      exact List.mem_cons_of_mem _ (lookup_key h)
section
variable {P : Program} {w : World} {K : PySem.W.Frag} {mg : Str → Option Value} {base : Heap} {C : Addr}
theorem ok_ownF {f : Addr} {fd : FuncData} (F : Fun K "own_deed" "Field.own_deed" sOwnF f fd) (T : RC K C) (c1 : KInt mg "TREE" 1) (c2 : KInt mg "FELL" 2) (c3 : KInt mg "ROW" 3) (c4 : KInt mg "COL" 4) (c6 : KInt mg "MANY_field" 6) (c11 : KInt mg "FEWEST_field" 11)
    (mT : Mt P w K mg base C 2 "tree" ["self", "cell"] (spTree C)) (mU : Mt P w K mg base C 2 "unblock" ["self", "cell"] (spUnblock C)) (mL : Mt P w K mg base C 2 "line" nLine (spLine C)) (mM : Mt P w K mg base C 5 "many" ["self"] (spPure C kF (manyA kF)))
    (mF : Mt P w K mg base C 6 "fewest" ["self"] (spPure C kF (fewA kF))) (mS : Mt P w K mg base C 2 "state" ["self"] (spPure C kF stateF)) : FnOk P w K mg base CX0 7 f fd ["self", "told"] (spOwn C kF wantsF fieldDeed) := by
  refine F.ok scOwnF (fun vs H Q E h => ?_) (fun cdv A outer s H vs Q E hr h => ?_)
  · obtain ⟨x, l, d, r, c, t, rfl, _⟩ := h; rfl
  · obtain ⟨f1, fd1, M1, G1, B1⟩ := mT
    obtain ⟨f2, fd2, M2, G2, B2⟩ := mU
    obtain ⟨f3, fd3, M3, G3, B3⟩ := mL
    obtain ⟨f4, fd4, M4, G4, B4⟩ := mM
    obtain ⟨f5, fd5, M5, G5, B5⟩ := mF
    obtain ⟨f6, fd6, M6, G6, B6⟩ := mS
    obtain ⟨t1, c1⟩ := c1
    obtain ⟨t2, c2⟩ := c2
    obtain ⟨t3, c3⟩ := c3
    obtain ⟨t4, c4⟩ := c4
    obtain ⟨t6, c6⟩ := c6
    obtain ⟨t11, c11⟩ := c11
    refine ⟨_, pss_cons (ps_set (i := 2) scOwnF.nd rfl (Or.inl rfl) (pe_ix ix_list (pv 1) pe_int (fun _ _ => rfl)))
      (pss_cons (ps_if (pt_cmpR op_eq (pv 2) (pe_glob (v := .int 1) rfl c1 ⟨_, rfl⟩) (nomark _)) (pss_one (ps_ret (pe_meth (pv 0) T.cl M1 G1 (hr.mono (by decide)) B1 .nil pass0 (pa_cons (pe_ix ix_list (pv 1) pe_int (fun _ _ => rfl)) pa_nil)))) pss_nil)
      (pss_cons (ps_if (pt_cmpR op_eq (pv 2) (pe_glob (v := .int 2) rfl c2 ⟨_, rfl⟩) (nomark _)) (pss_one (ps_ret (pe_meth (pv 0) T.cl M2 G2 (hr.mono (by decide)) B2 .nil pass0 (pa_cons (pe_ix ix_list (pv 1) pe_int (fun _ _ => rfl)) pa_nil)))) pss_nil)
      (pss_cons (ps_if (pt_cmpR op_eq (pv 2) (pe_glob (v := .int 3) rfl c3 ⟨_, rfl⟩) (nomark _)) (pss_one (ps_ret (pe_meth (pv 0) T.cl M3 G3 (hr.mono (by decide)) B3 .nil pass0 (pa_cons pe_int (pa_cons (pe_fld (pv 0) rfl) (pa_cons (pe_ix ix_list (pv 1) pe_int (fun _ _ => rfl)) (pa_cons (pe_ix ix_list (pv 1) pe_int (fun _ _ => rfl)) pa_nil))))))) pss_nil)
      (pss_cons (ps_if (pt_cmpR op_eq (pv 2) (pe_glob (v := .int 4) rfl c4 ⟨_, rfl⟩) (nomark _)) (pss_one (ps_ret (pe_meth (pv 0) T.cl M3 G3 (hr.mono (by decide)) B3 .nil pass0 (pa_cons (pe_fld (pv 0) rfl) (pa_cons (pe_fld (pv 0) rfl) (pa_cons (pe_ix ix_list (pv 1) pe_int (fun _ _ => rfl)) (pa_cons (pe_ix ix_list (pv 1) pe_int (fun _ _ => rfl)) pa_nil))))))) pss_nil)
      (pss_cons (ps_if (pt_cmpR op_eq (pv 2) (pe_glob (v := .int 6) rfl c6 ⟨_, rfl⟩) (nomark _)) (pss_one (ps_ret (pe_meth0 (pv 0) T.cl M4 G4 (hr.mono (by decide)) B4 .nil pass0))) pss_nil)
      (pss_cons (ps_if (pt_cmpR op_eq (pv 2) (pe_glob (v := .int 11) rfl c11 ⟨_, rfl⟩) (nomark _)) (pss_one (ps_ret (pe_meth0 (pv 0) T.cl M5 G5 (hr.mono (by decide)) B5 .nil pass0))) pss_nil)
      (pss_one (ps_ret (pe_meth0 (pv 0) T.cl M6 G6 (hr.mono (by decide)) B6 .nil pass0))))))))), ?_⟩
    obtain ⟨x, l, d, r, c, t, rfl, O, g, hl, hw, hc0, k⟩ := h
    have o := g.ok
    have nl := fitsF.nums r g
    have hc : c ∈ [0, 1, 2, 3, 4, 6, 11, 12] := lookup_key hw
    refine q_asg (v := vN c) (ev_told (i := 0) rfl hl rfl) fun H1 e1 => ?_
    have O1 := O.mono e1
    have S1 := O1.seen
    have l1 := e1 _ _ hl
    -- 1
    refine q_when (b := (c == 1)) (et_test (ev_op (ev_var rfl) ev_c (rv_eqN (b := 1)))) (fun hb H2 e2 => ?_) (fun hb H2 e2 => ?_)
    · obtain rfl : c = 1 := by simpa using hb
      obtain ⟨a, rfl⟩ := len1 hw
      exact s_retM (S1.mono e2) rfl (rF_no d r (by decide +kernel)) (ea_cons (ev_told (i := 1) rfl (e2 _ _ l1) rfl) ea_nil) fun H3 e3 => ⟨x, d, r, a, rfl, O1.mono (e2.trans e3), g.six, k.ex (e1.trans (e2.trans e3))⟩
    have n1 : c ≠ 1 := by simpa using hb
    have O1 := O1.mono e2
    have S1 := O1.seen
    have l1 := e2 _ _ l1
    have e1 := e1.trans e2
    clear e2
    -- 2
    refine q_when (b := (c == 2)) (et_test (ev_op (ev_var rfl) ev_c (rv_eqN (b := 2)))) (fun hb H3 e2 => ?_) (fun hb H3 e2 => ?_)
    · obtain rfl : c = 2 := by simpa using hb
      obtain ⟨a, rfl⟩ := len1 hw
      exact s_retM (S1.mono e2) rfl (rF_no d r (by decide +kernel)) (ea_cons (ev_told (i := 1) rfl (e2 _ _ l1) rfl) ea_nil) fun H3 e3 => ⟨x, d, r, a, rfl, O1.mono (e2.trans e3), k.ex (e1.trans (e2.trans e3))⟩
    have n2 : c ≠ 2 := by simpa using hb
    have O1 := O1.mono e2
    have S1 := O1.seen
    have l1 := e2 _ _ l1
    have e1 := e1.trans e2
    clear e2
    -- 3
    refine q_when (b := (c == 3)) (et_test (ev_op (ev_var rfl) ev_c (rv_eqN (b := 3)))) (fun hb H4 e2 => ?_) (fun hb H4 e2 => ?_)
    · obtain rfl : c = 3 := by simpa using hb
      obtain ⟨a, b, rfl⟩ := len2 hw
      exact s_retM (S1.mono e2) rfl (rF_no d r (by decide +kernel)) (ea_cons (ev_c (v := vN 0)) (ea_cons (ev_rows T (S1.mono e2) (ev_var rfl)) (ea_cons (ev_told (i := 1) rfl (e2 _ _ l1) rfl) (ea_cons (ev_told (i := 2) rfl (e2 _ _ l1) rfl) ea_nil)))) fun H3 e3 => ⟨x, d, r, 0, r.rows, a, b, rfl, O1.mono (e2.trans e3), by have := o.r5; omega, by omega, k.ex (e1.trans (e2.trans e3))⟩
    have n3 : c ≠ 3 := by simpa using hb
    have O1 := O1.mono e2
    have S1 := O1.seen
    have l1 := e2 _ _ l1
    have e1 := e1.trans e2
    clear e2
    -- 4
    refine q_when (b := (c == 4)) (et_test (ev_op (ev_var rfl) ev_c (rv_eqN (b := 4)))) (fun hb H5 e2 => ?_) (fun hb H5 e2 => ?_)
    · obtain rfl : c = 4 := by simpa using hb
      obtain ⟨a, b, rfl⟩ := len2 hw
      exact s_retM (S1.mono e2) rfl (rF_no d r (by decide +kernel)) (ea_cons (ev_rows T (S1.mono e2) (ev_var rfl)) (ea_cons (ev_cols T (S1.mono e2) (ev_var rfl)) (ea_cons (ev_told (i := 1) rfl (e2 _ _ l1) rfl) (ea_cons (ev_told (i := 2) rfl (e2 _ _ l1) rfl) ea_nil)))) fun H3 e3 => ⟨x, d, r, r.rows, r.cols, a, b, rfl, O1.mono (e2.trans e3), by have := o.r5; have := o.c5; omega, by omega, k.ex (e1.trans (e2.trans e3))⟩
    have n4 : c ≠ 4 := by simpa using hb
    have O1 := O1.mono e2
    have S1 := O1.seen
    have l1 := e2 _ _ l1
    have e1 := e1.trans e2
    clear e2
    -- 6
    refine q_when (b := (c == 6)) (et_test (ev_op (ev_var rfl) ev_c (rv_eqN (b := 6)))) (fun hb H6 e2 => ?_) (fun hb H6 e2 => ?_)
    · obtain rfl : c = 6 := by simpa using hb
      obtain rfl := len0 hw
      exact s_retM (S1.mono e2) rfl (rF_no d r (by decide +kernel)) ea_nil fun H3 e3 => ⟨x, d, r, rfl, O1.mono (e2.trans e3), g, k.ex (e1.trans (e2.trans e3))⟩
    have n6 : c ≠ 6 := by simpa using hb
    have O1 := O1.mono e2
    have S1 := O1.seen
    have e1 := e1.trans e2
    clear e2
    -- 11
    refine q_when (b := (c == 11)) (et_test (ev_op (ev_var rfl) ev_c (rv_eqN (b := 11)))) (fun hb H7 e2 => ?_) (fun hb H7 e2 => ?_)
    · obtain rfl : c = 11 := by simpa using hb
      obtain rfl := len0 hw
      exact s_retM (S1.mono e2) rfl (rF_no d r (by decide +kernel)) ea_nil fun H3 e3 => ⟨x, d, r, rfl, O1.mono (e2.trans e3), g, k.ex (e1.trans (e2.trans e3))⟩
    have n11 : c ≠ 11 := by simpa using hb
    have : c = 12 := by
      simp only [List.mem_cons, List.not_mem_nil, or_false] at hc
      omega
    subst this
    obtain rfl := len0 hw
    exact s_retM (S1.mono e2) rfl (rF_no d r (by decide +kernel)) ea_nil fun H3 e3 => ⟨x, d, r, rfl, O1.mono (e2.trans e3), g, k.ex (e1.trans (e2.trans e3))⟩
theorem ok_deed {kd : Kind} {ws : List (Nat × Nat)} {L : Nat} {dm : R → List Nat → R × List Int} (w0 : ws.lookup 0 = some 2) {f : Addr} {fd : FuncData} (F : Fun K "deed" "Riddle.deed" sDeed f fd) (T : RC K C) (gL : mg "len" = none) (c100 : KInt mg "NO_CALL" (-100)) (c0 : KInt mg "BEGINS" 0)
    (mB : Mt P w K mg base C 2 "begins" ["self", "rows", "columns"] (spBegins C)) (mO : Mt P w K mg base C 7 "own_deed" ["self", "told"] (spOwn C kd ws dm)) : FnOk P w K mg base CX0 8 f fd ["self", "told"] (spDeed C kd ws L dm) := by
  refine F.ok scDeed (fun vs H Q E h => ?_) (fun cdv A outer s H vs Q E hr h => ?_)
  · obtain ⟨x, l, d, r, t, rfl, _⟩ := h; rfl
  · obtain ⟨f1, fd1, M1, G1, B1⟩ := mB
    obtain ⟨f2, fd2, M2, G2, B2⟩ := mO
    obtain ⟨t100, c100⟩ := c100
    obtain ⟨t0, c0⟩ := c0
    refine ⟨_, pss_cons (ps_if (PW.pt (pw_or (pt_not (pt_truth (pv 1) (by intro _; rfl))) (pw_or1 (pt_cmpR op_ne (pe_dget1 (hu_of hr) (pe_fld (pv 0) rfl) (pe_ix ix_list (pv 1) pe_int (fun _ _ => rfl)) ⟨rfl, rfl, rfl, rfl⟩) (pe_op op_sub (pe_callB call_len_seq (by rfl) gL PySem.boot_len (pa_cons (pv 1) pa_nil)) pe_int) (nomark _)))))
        (pss_one (ps_ret (pe_lst (pa_cons (pe_glob (v := .int (-100)) rfl c100 ⟨_, rfl⟩) pa_nil)))) pss_nil)
      (pss_cons (ps_if (pt_cmpR op_eq (pe_ix ix_list (pv 1) pe_int (fun _ _ => rfl)) (pe_glob (v := .int 0) rfl c0 ⟨_, rfl⟩) (nomark _)) (pss_one (ps_ret (pe_meth (pv 0) T.cl M1 G1 (hr.mono (by decide)) B1 .nil pass0 (pa_cons (pe_ix ix_list (pv 1) pe_int (fun _ _ => rfl)) (pa_cons (pe_ix ix_list (pv 1) pe_int (fun _ _ => rfl)) pa_nil))))) pss_nil)
      (pss_one (ps_ret (pe_meth (pv 0) T.cl M2 G2 hr B2 .nil pass0 (pa_cons (pv 1) pa_nil))))), ?_⟩
    obtain ⟨x, l, d, r, t, rfl, O, g, hL, h5, hw, hl, hz, k⟩ := h
    have S := O.seen
    have tru : ∀ H1, Ex H H1 → EvT (tNot fun σ H Q => tVar 1 σ H fun x H' => ∃ k, TruV K x H' k ∧ Q k H') [some (.ref x), some (.ref l)] H1 t.isEmpty := fun H1 e1 =>
      et_is (et_not (et_truth_l (K := K) (k := true) (xs := vL t) (ev_var rfl) (sq_of (e1 _ _ hl)))) (by cases t <;> rfl)
    cases t with
    | nil =>
      refine q_when (b := true) (et_is (et_or (b := true) (tru H (Ex.refl H)) (fun z => by cases z)) rfl) (fun _ H1 e1 => ?_) (fun z => by cases z)
      exact s_retL (el_lst (ea_cons ev_c ea_nil) (by show 1 ≤ 100000; decide)) fun p H2 _ e2 h2 => k.same O (e1.trans e2) h2
    | cons c t =>
      have tst : EvT _ [some (.ref x), some (.ref l)] H (!decide (ws.lookup c = some t.length)) := et_is (et_or (b := !decide (ws.lookup c = some t.length)) (tru H (Ex.refl H)) (fun _ => et_test (ev_is (ev_op (x := oV (ws.lookup c)) (y := vN t.length)
        (ev_dget1 (td := tFld K (tVar 0) "wants") (ty := tOp (rIxL K) (tVar 1) (tC (.int ((0 : Nat) : Int)))) (ev_fld (ev_var rfl) S.ins T.cl T.n2 (rF_wants d r)) (ev_told (i := 0) rfl hl rfl) (.inl hw))
        (ev_is (ev_op (r := rI0 fun i j => .int (i - j)) (x := .int ((c :: t).length : Nat)) (y := .int 1) (ev_is (ev_len (K := K) (ta := tVar 1) (ev_var rfl) (sq_of hl)) (by rw [vL_len])) ev_c rv_I0) (by show V.int (((t.length + 1 : Nat) : Int) - 1) = V.int (t.length : Int); congr 1; omega)) (rv_ne (by cases ws.lookup c <;> rfl))) (by
          congr 2
          cases ws.lookup c with
          | none => rfl
          | some v =>
            show decide (V.int (v : Int) = V.int (t.length : Int)) = _
            rw [dec_int, beq_cast]
            by_cases z : v = t.length
            · subst z; simp
            · simp [z])))) rfl
      refine q_when tst (fun hb H1 e1 => ?_) (fun hb H1 e1 => ?_)
      · have hb : ¬ ws.lookup c = some t.length := by simpa using hb
        simp only [deedM, if_neg hb] at k
        exact s_retL (el_lst (ea_cons ev_c ea_nil) (by show 1 ≤ 100000; decide)) fun p H2 _ e2 h2 => k.same O (e1.trans e2) h2
      have hb : ws.lookup c = some t.length := by simpa using hb
      simp only [deedM, if_pos hb] at k
      have l1 := e1 _ _ hl
      have O1 := O.mono e1
      refine q_when (b := (c == 0)) (et_test (ev_op (ev_told (i := 0) rfl l1 rfl) ev_c (rv_eqN (b := 0)))) (fun hb2 H2 e2 => ?_) (fun hb2 H2 e2 => ?_)
      · obtain rfl : c = 0 := by simpa using hb2
        rw [w0] at hb
        obtain ⟨a, b, rfl⟩ := len2 hb
        rw [if_pos rfl] at k
        exact s_retM (O1.mono e2).seen rfl (rF_no d r (by decide +kernel)) (ea_cons (ev_told (i := 1) rfl (e2 _ _ l1) rfl) (ea_cons (ev_told (i := 2) rfl (e2 _ _ l1) rfl) ea_nil)) fun H3 e3 => ⟨x, d, r, L, a, b, rfl, O1.mono (e2.trans e3), hL, h5, k.ex (e1.trans (e2.trans e3))⟩
      · have hc : c ≠ 0 := by simpa using hb2
        rw [if_neg hc] at k
        exact s_retM (O1.mono e2).seen rfl (rF_no d r (by decide +kernel)) (ea_cons (ev_var rfl) ea_nil) fun H3 e3 => ⟨x, l, d, r, c, t, rfl, O1.mono (e2.trans e3), g, e3 _ _ (e2 _ _ l1), hb, hc, k.ex (e1.trans (e2.trans e3))⟩
end
end Rd
set_option linter.all false
set_option maxRecDepth 100000
set_option maxHeartbeats 2000000
namespace Rd
open PySem PySem.Spec PyProof.Rows L2 Evl
/-! ### the hall's small methods -/
/-- the hall's state with no numbers -/
def sH (r : R) : Sy85.St := ⟨r.rows, r.cols, r.bl.map fun x => (x, none), [], []⟩
def sortBl (r : R) : List Nat := r.bl.foldl (fun m n => Sy64.insert n m) []
def cntH (r : R) (n : Nat) (q : List Nat) : Nat := ((near r.rows r.cols n).filter fun c => q.contains c).length
structure HGood (r : R) : Prop where
  ok : r.Ok
  r4 : r.rows ≤ 4
  c4 : r.cols ≤ 4
  keys : ∀ p ∈ r.nums, p.1 ∈ r.bl
def kH : Kind := ⟨cntH, fun r => Sy85.settings (sH r), sortBl, HGood⟩
theorem sH_good {r : R} (g : HGood r) : H.Good (sH r) := ⟨g.ok.r1, g.r4, g.ok.c1, g.c4⟩
theorem sH_pillar (r : R) (x : Nat) : Sy85.isPillar (sH r) x = r.bl.contains x := by
  unfold Sy85.isPillar sH
  rw [List.any_map, List.contains_eq_any_beq]
  congr 1
  funext y
  show (y == x) = (x == y)
  exact Bool.beq_comm
theorem sH_free (r : R) : Sy85.free (sH r) = wanting r := by
  unfold Sy85.free wanting
  show (List.range (r.rows * r.cols)).filter _ = _
  congr 1
  funext x
  rw [sH_pillar]
theorem sortBl_rising (r : R) : Rising (sortBl r) := (foldl_insert _ [] .nil).1
theorem mem_sortBl (r : R) (n : Nat) : n ∈ sortBl r ↔ n ∈ r.bl := by
  unfold sortBl; rw [(foldl_insert _ [] .nil).2]; simp
theorem sortBl_perm {r : R} (o : r.Ok) : (sortBl r).Perm r.bl := (List.perm_ext_iff_of_nodup (rising_nodup (sortBl_rising r)) o.nd).mpr fun a => mem_sortBl r a
abbrev cHall : Stmt := top 34
abbrev sAllH : Stmt := inClass cHall 5
abbrev sCntH : Stmt := inClass cHall 6
abbrev sLitF : Stmt := inClass cHall 8
abbrev sHasF : Stmt := inClass cHall 9
theorem scAllH : FnScope ["self"] ["self"] (defScope sAllH) := ⟨rfl, rfl, rfl, by decide +kernel, rfl, by decide +kernel, by decide +kernel⟩
abbrev nCntH : List Str := ["self", "number", "setting", "cell"]
theorem scCntH : FnScope nCntH ["self", "number", "setting"] (defScope sCntH) := ⟨rfl, rfl, rfl, by decide +kernel, rfl, by decide +kernel, by decide +kernel⟩
theorem scHasF : FnScope ["self", "row", "column"] ["self", "row", "column"] (defScope sHasF) := ⟨rfl, rfl, rfl, by decide +kernel, rfl, by decide +kernel, by decide +kernel⟩
def hasFree (r : R) (a b : Int) : Bool := ((decide (0 ≤ a) && decide (a < (r.rows : Int))) && (decide (0 ≤ b) && decide (b < (r.cols : Int)))) && !r.bl.contains (a * r.cols + b).toNat
def spHasF (C : Addr) : Sp := fun vs H Q _ => ∃ (x : Addr) (d : Ad) (r : R) (a b : Int), vs = [.ref x, .int a, .int b] ∧ Seen C H x d r ∧ RetV (.bl (hasFree r a b)) H Q
theorem spv_hasF {C : Addr} {H : Hp} {x : Addr} {d : Ad} {r : R} {a b : Int} (S : Seen C H x d r) : SpV (spHasF C) [.ref x, .int a, .int b] H (.bl (hasFree r a b)) := fun H1 e Q k E => ⟨x, d, r, a, b, rfl, S.mono e, k⟩
section
variable {P : Program} {w : World} {K : PySem.W.Frag} {mg : Str → Option Value} {base : Heap} {C : Addr}
theorem ok_allH {f : Addr} {fd : FuncData} (F : Fun K "all_numbers" "Hall.all_numbers" sAllH f fd) (T : RC K C) (gS : mg "sorted" = none) : FnOk P w K mg base CX0 1 f fd ["self"] (spAll C kH) := by
  refine F.ok scAllH (fun vs H Q E h => ?_) (fun cdv A outer s H vs Q E hr h => ?_)
  · obtain ⟨x, d, r, rfl, _⟩ := h; rfl
  · refine ⟨_, pss_one (ps_ret (pe_callB cr_sortedI (by rfl) gS (by decide +kernel) (pa_cons (pe_fld (pv 0) rfl) pa_nil))), ?_⟩
    obtain ⟨x, d, r, rfl, S, g, k⟩ := h
    refine (ev_blk T S (ev_var rfl)) H (Ex.refl H) _ fun H1 e1 => ⟨d.ba, castL r.bl, rfl, sq_of (by rw [← show vL r.bl = (castL r.bl).map V.int from vL_ints r.bl]; exact e1 _ _ S.bl), fun ys p hperm hs hn => ?_⟩
    have : ys = castL (sortBl r) := sorted_ints (hperm.trans ((sortBl_perm S.ok).symm.map _)) hs (sortBl_rising r)
    subst this
    exact k p _ (fresh_back e1 hn) (e1.trans (Ex.new hn)) (by rw [upd_same, ← show vL (sortBl r) = (castL (sortBl r)).map V.int from vL_ints _]; rfl)
theorem ok_hasF {f : Addr} {fd : FuncData} (F : Fun K "has_free" "Hall.has_free" sHasF f fd) (T : RC K C) : FnOk P w K mg base CX0 1 f fd ["self", "row", "column"] (spHasF C) := by
  refine F.ok scHasF (fun vs H Q E h => ?_) (fun cdv A outer s H vs Q E hr h => ?_)
  · obtain ⟨x, d, r, a, b, rfl, _⟩ := h; rfl
  · refine ⟨_, pss_cons (ps_if (pt_not (PW.pt (pw_and (pt_chain op_le op_lt pe_int (pv 1) (pe_fld (pv 0) rfl)) (pw_and1 (pt_chain op_le op_lt pe_int (pv 2) (pe_fld (pv 0) rfl)))))) (pss_one (ps_ret pe_bl)) pss_nil)
      (pss_one (ps_ret (pe_cmpR op_notIn_seq (pe_op op_add (pe_op op_mul (pv 1) (pe_fld (pv 0) rfl)) (pv 2)) (pe_fld (pv 0) rfl) (by rfl)))), ?_⟩
    obtain ⟨x, d, r, a, b, rfl, S, k⟩ := h
    refine q_when (b := !((decide (0 ≤ a) && decide (a < (r.rows : Int))) && (decide (0 ≤ b) && decide (b < (r.cols : Int)))))
      (et_not (et_and (et_test (et_chain (X := .int 0) (Y := .int a) (W := vN r.rows) ev_c (ev_var rfl) rv_I0 fun _ => ⟨ev_rows T S (ev_var rfl), rv_I0⟩))
        fun _ => et_test (et_chain (X := .int 0) (Y := .int b) (W := vN r.cols) ev_c (ev_var rfl) rv_I0 fun _ => ⟨ev_cols T S (ev_var rfl), rv_I0⟩))) (fun hb H1 e1 => ?_) (fun hb H1 e1 => ?_)
    · have hf : hasFree r a b = false := by
        unfold hasFree
        rw [Bool.not_eq_true'] at hb
        rw [hb]; rfl
      rw [hf] at k
      exact s_ret ev_c fun H2 e2 => k H2 (e1.trans e2)
    · have hb : ((decide (0 ≤ a) && decide (a < (r.rows : Int))) && (decide (0 ≤ b) && decide (b < (r.cols : Int)))) = true := by simpa using hb
      have hf : hasFree r a b = !r.bl.contains (a * r.cols + b).toNat := by unfold hasFree; rw [hb]; rfl
      rw [hf] at k
      simp only [Bool.and_eq_true, decide_eq_true_eq] at hb
      have nn : 0 ≤ a * (r.cols : Int) + b := Int.add_nonneg (Int.mul_nonneg hb.1.1 (by omega)) hb.2.1
      have S1 := S.mono e1
      refine s_ret (ev_is (ev_op (x := vN (a * r.cols + b).toNat) (ev_is (ev_op (ev_op (ev_var rfl) (ev_cols T S1 (ev_var rfl)) (rv_I (.inl (by have := S.ok.r5; constructor <;> omega)))) (ev_var rfl) rv_I0) ?_) (ev_blk T S1 (ev_var rfl)) (rv_niL (sq_of S1.bl) rfl (flat_vL _))) (by rw [inV_vL])) fun H2 e2 => k H2 (e1.trans e2)
      show V.int (a * (r.cols : Int) + b) = V.int (((a * (r.cols : Int) + b).toNat : Nat) : Int)
      rw [Int.toNat_of_nonneg nn]
theorem ok_cntH {f : Addr} {fd : FuncData} (F : Fun K "counted" "Hall.counted" sCntH f fd) (T : RC K C) (gL : mg "len" = none) (mB : Mt P w K mg base C 1 "beside" ["self", "cell"] (spBeside C)) : FnOk P w K mg base CX0 2 f fd ["self", "number", "setting"] (spCounted C kH) := by
  refine F.ok scCntH (fun vs H Q E h => ?_) (fun cdv A outer s H vs Q E hr h => ?_)
  · obtain ⟨x, p, d, r, n, q, rfl, _⟩ := h; rfl
  · obtain ⟨f1, fd1, M1, G1, B1⟩ := mB
    refine ⟨_, pss_one (ps_ret (pe_callB call_len_seq (by rfl) gL PySem.boot_len (pa_cons
          (pe_lc (own := [("cell", 3)]) (g := gName 3) (tt := tTest (tOp (rIn K false) (tVar 3) (tVar 2))) (te := tVar 3) rfl scCntH.nd (pi_list (pe_meth (pv 0) T.cl M1 G1 hr B1 .nil pass0 (pa_cons (pv 1) pa_nil))) (blkOk_by (N := nCntH) (sc := defScope sCntH) (by decide +kernel))
            (fun _ _ _ _ _ => pg_name (i := 3) scCntH.nd rfl (Or.inl rfl)) (fun _ _ _ _ _ => pts_one (pt_cmpR op_in_seq (pv 3) (pv 2) (by rfl))) (fun _ _ _ _ _ => pv 3)) pa_nil))), ?_⟩
    obtain ⟨x, p, d, r, n, q, rfl, S, g, hn, hp, hq, k⟩ := h
    have key := el_lcNL (K := K) (xs := vL (near r.rows r.cols n)) (tl := tMeth C "beside" (spBeside C) [] E0 (tVar 0) (tCons (tVar 1) tNil)) (t := tTest (tOp (rIn K false) (tVar 3) (tVar 2))) (te := tVar 3) (σ := [some (.ref x), some (vN n), some (.ref p), none]) (H := H) (j := 3) (vs := [3])
      (fun i => q.contains ((near r.rows r.cols n).getD i 0)) (fun i => vN ((near r.rows r.cols n).getD i 0)) (el_meth (vs := [vN n]) (ev_var rfl) S.ins (rF_no d r (by decide +kernel)) (ea_cons (ev_var rfl) ea_nil) (spl_beside S hn)) (by rw [vL_len]; have := near_len r.rows r.cols n steps; exact Nat.le_trans this (by decide)) (fun _ => rfl)
      (fun i y H2 e2 hi => by
        obtain ⟨m, hm, rfl⟩ := vL_get_some hi
        rw [getD_of hm]
        exact et_test (ev_is (ev_op (ev_var rfl) (ev_var rfl) (rv_isL (sq_of (e2 _ _ hp)) rfl (flat_vL _))) (by rw [inV_vL])))
      (fun i y H2 e2 hi _ => by
        obtain ⟨m, hm, rfl⟩ := vL_get_some hi
        rw [getD_of hm]
        exact ev_var rfl)
    rw [vL_len, given_filter (near r.rows r.cols n) (fun c => q.contains c) vN 0] at key
    exact s_ret (ev_is (ev_lenN key) (by rw [List.length_map]; rfl)) fun H1 e1 => k H1 e1
end
end Rd
set_option linter.all false
set_option maxRecDepth 100000
set_option maxHeartbeats 2000000
namespace Rd
open PySem PySem.Spec PyProof.Rows L2 Evl
/-! ### what a lamp lights -/
def rayM (r : R) (s : Int × Int) : Nat → Int → Int → List Nat
  | 0, _, _ => []
  | f + 1, a, b => if hasFree r a b = true then (a * r.cols + b).toNat :: rayM r s f (a + s.1) (b + s.2) else []
def rayOf (r : R) (cell : Nat) (s : Int × Int) : List Nat := rayM r s 6 (((cell / r.cols : Nat) : Int) + s.1) (((cell % r.cols : Nat) : Int) + s.2)
def litM (r : R) (cell : Nat) : List Nat := steps.flatMap (rayOf r cell)
theorem rayM_len (r : R) (s : Int × Int) : ∀ (f : Nat) (a b : Int), (rayM r s f a b).length ≤ f
  | 0, _, _ => Nat.le_refl _
  | f + 1, a, b => by
    unfold rayM
    split
    · have := rayM_len r s f (a + s.1) (b + s.2)
      rw [List.length_cons]; omega
    · simp
theorem litM_len (r : R) (cell : Nat) : ∀ l : List (Int × Int), (l.flatMap (rayOf r cell)).length ≤ 6 * l.length
  | [] => by simp
  | s :: l => by
    have h1 := litM_len r cell l
    have h2 : (rayOf r cell s).length ≤ 6 := rayM_len r s 6 _ _
    rw [List.flatMap_cons, List.length_append, List.length_cons]
    omega
/-! against the specification's rays -/
def nextI (rows cols : Nat) (s : Int × Int) (y : Nat) : Option Nat :=
  if (0 ≤ ((y / cols : Nat) : Int) + s.1 ∧ ((y / cols : Nat) : Int) + s.1 < rows) ∧ (0 ≤ ((y % cols : Nat) : Int) + s.2 ∧ ((y % cols : Nat) : Int) + s.2 < cols) then some ((((y / cols : Nat) : Int) + s.1) * cols + (((y % cols : Nat) : Int) + s.2)).toNat else none
def wayOf : List Nat := [0, 3, 1, 2]
def stepOk (rows cols y : Nat) (s : Int × Int) (w : Nat) : Bool :=
  Sy85.next ⟨rows, cols, [], [], []⟩ y w == nextI rows cols s y && match nextI rows cols s y with
    | none => true
    | some z => decide (((z / cols : Nat) : Int) = ((y / cols : Nat) : Int) + s.1) && (decide (((z % cols : Nat) : Int) = ((y % cols : Nat) : Int) + s.2) && decide (z < rows * cols))
theorem next_table : ∀ r : Fin 5, ∀ c : Fin 5, ∀ y : Fin 16, y.val < r.val * c.val → ∀ i : Fin 4, stepOk r.val c.val y.val (steps.getD i.val (0, 0)) (wayOf.getD i.val 0) = true := by decide +kernel
theorem next_is {r : R} (g : HGood r) {y : Nat} (hy : y < r.rows * r.cols) {i : Nat} {s : Int × Int} {w : Nat} (hs : steps[i]? = some s) (hw : wayOf[i]? = some w) :
    Sy85.next (sH r) y w = nextI r.rows r.cols s y ∧ ∀ z, nextI r.rows r.cols s y = some z → ((z / r.cols : Nat) : Int) = ((y / r.cols : Nat) : Int) + s.1 ∧ ((z % r.cols : Nat) : Int) = ((y % r.cols : Nat) : Int) + s.2 ∧ z < r.rows * r.cols := by
  have hi : i < 4 := (List.getElem?_eq_some_iff.mp hs).1
  have hsz : r.rows * r.cols ≤ 16 := Nat.mul_le_mul g.r4 g.c4
  have := next_table ⟨r.rows, by have := g.r4; omega⟩ ⟨r.cols, by have := g.c4; omega⟩ ⟨y, by omega⟩ hy ⟨i, hi⟩
  simp only at this
  rw [getD_of hs, getD_of hw] at this
  unfold stepOk at this
  rw [Bool.and_eq_true] at this
  refine ⟨(beq_iff_eq.mp this.1 : _), fun z hz => ?_⟩
  have h2 := this.2
  rw [hz] at h2
  simpa only [Bool.and_eq_true, decide_eq_true_eq] using h2
theorem ray_is {r : R} (g : HGood r) {i : Nat} {s : Int × Int} {w : Nat} (hs : steps[i]? = some s) (hw : wayOf[i]? = some w) : ∀ (f y : Nat), y < r.rows * r.cols →
    rayM r s f (((y / r.cols : Nat) : Int) + s.1) (((y % r.cols : Nat) : Int) + s.2) = Sy85.ray (sH r) w f y
  | 0, _, _ => rfl
  | f + 1, y, hy => by
    obtain ⟨h1, h2⟩ := next_is g hy hs hw
    unfold rayM Sy85.ray
    rw [h1]
    cases e : nextI r.rows r.cols s y with
    | none =>
      have : hasFree r (((y / r.cols : Nat) : Int) + s.1) (((y % r.cols : Nat) : Int) + s.2) = false := by
        unfold nextI at e
        split at e
        · cases e
        · next c =>
          unfold hasFree
          rw [Bool.and_eq_false_iff]
          left
          rw [Bool.eq_false_iff]
          intro z
          simp only [Bool.and_eq_true, decide_eq_true_eq] at z
          exact c z
      rw [if_neg (by rw [this]; decide)]
    | some z =>
      obtain ⟨z1, z2, z3⟩ := h2 z e
      have ez : z = ((((y / r.cols : Nat) : Int) + s.1) * r.cols + (((y % r.cols : Nat) : Int) + s.2)).toNat := by
        unfold nextI at e
        split at e
        · exact (Option.some.inj e).symm
        · cases e
      have hin : (0 ≤ ((y / r.cols : Nat) : Int) + s.1 ∧ ((y / r.cols : Nat) : Int) + s.1 < r.rows) ∧ (0 ≤ ((y % r.cols : Nat) : Int) + s.2 ∧ ((y % r.cols : Nat) : Int) + s.2 < r.cols) := by
        unfold nextI at e
        split at e
        · next c => exact c
        · cases e
      have hf : hasFree r (((y / r.cols : Nat) : Int) + s.1) (((y % r.cols : Nat) : Int) + s.2) = !r.bl.contains z := by
        unfold hasFree
        rw [← ez]
        have : ((decide (0 ≤ ((y / r.cols : Nat) : Int) + s.1) && decide (((y / r.cols : Nat) : Int) + s.1 < (r.rows : Int))) && (decide (0 ≤ ((y % r.cols : Nat) : Int) + s.2) && decide (((y % r.cols : Nat) : Int) + s.2 < (r.cols : Int)))) = true := by
          simp only [Bool.and_eq_true, decide_eq_true_eq]; exact hin
        rw [this]; rfl
      show _ = if Sy85.isPillar (sH r) z = true then [] else z :: Sy85.ray (sH r) w f z
      rw [hf, sH_pillar]
      cases hb : r.bl.contains z with
      | true => rfl
      | false =>
        show (((((y / r.cols : Nat) : Int) + s.1) * r.cols + (((y % r.cols : Nat) : Int) + s.2)).toNat :: rayM r s f _ _) = z :: _
        rw [← ez, ← z1, ← z2, ray_is g hs hw f z z3]
theorem litM_is {r : R} (g : HGood r) {y : Nat} (hy : y < r.rows * r.cols) : litM r y = H.litFrom (sH r) y := by
  have h0 := ray_is g (i := 0) (s := (-1, 0)) (w := 0) rfl rfl 6 y hy
  have h1 := ray_is g (i := 1) (s := (0, -1)) (w := 3) rfl rfl 6 y hy
  have h2 := ray_is g (i := 2) (s := (0, 1)) (w := 1) rfl rfl 6 y hy
  have h3 := ray_is g (i := 3) (s := (1, 0)) (w := 2) rfl rfl 6 y hy
  unfold litM steps H.litFrom
  simp only [List.flatMap_cons, List.flatMap_nil, List.append_nil]
  unfold rayOf
  rw [h0, h1, h2, h3]
  simp only [List.append_assoc]
abbrev nLitF : List Str := ["self", "cell", "lit", "down", "across", "row", "column"]
theorem scLitF : FnScope nLitF ["self", "cell"] (defScope sLitF) := ⟨rfl, rfl, rfl, by decide +kernel, rfl, by decide +kernel, by decide +kernel⟩
def spLitF (C : Addr) : Sp := fun vs H Q _ => ∃ (x : Addr) (d : Ad) (r : R) (n : Nat), vs = [.ref x, vN n] ∧ Seen C H x d r ∧ n < r.rows * r.cols ∧ RetL (vL (litM r n)) H Q
theorem spl_litF {C : Addr} {H : Hp} {x : Addr} {d : Ad} {r : R} {n : Nat} (S : Seen C H x d r) (hn : n < r.rows * r.cols) : SpL (spLitF C) [.ref x, vN n] H (vL (litM r n)) := fun H1 e Q q E => ⟨x, d, r, n, rfl, S.mono e, hn, fun p H2 hp e2 h2 => q p H2 hp e2 h2⟩
section
variable {P : Program} {w : World} {K : PySem.W.Frag} {mg : Str → Option Value} {base : Heap} {C : Addr}
theorem ok_litF {f : Addr} {fd : FuncData} (F : Fun K "lit_from" "Hall.lit_from" sLitF f fd) (T : RC K C) (ST : Stp K mg) (mH : Mt P w K mg base C 1 "has_free" ["self", "row", "column"] (spHasF C)) : FnOk P w K mg base CX0 2 f fd ["self", "cell"] (spLitF C) := by
  refine F.ok scLitF (fun vs H Q E h => ?_) (fun cdv A outer s H vs Q E hr h => ?_)
  · obtain ⟨x, d, r, n, rfl, _⟩ := h; rfl
  · obtain ⟨a, t0, t1, t2, t3, g, ka, k0, k1, k2, k3⟩ := ST.at_
    obtain ⟨f1, fd1, M1, G1, B1⟩ := mH
    refine ⟨_, pss_cons (ps_set (i := 2) scLitF.nd rfl (Or.inl rfl) (pe_lst pa_nil))
      (pss_cons (ps_for PassesOwn.never rfl (pi_tup (pe_glob (v := .ref a) rfl g rfl)) (pg_tup rfl (pgs_cons (pg_name (i := 3) scLitF.nd rfl (Or.inl rfl)) (pgs_cons (pg_name (i := 4) scLitF.nd rfl (Or.inl rfl)) pgs_nil)))
        (pss_cons (ps_set (i := 5) scLitF.nd rfl (Or.inl rfl) (pe_op op_add (pe_op op_fdiv (pv 1) (pe_fld (pv 0) rfl)) (pv 3)))
        (pss_cons (ps_set (i := 6) scLitF.nd rfl (Or.inl rfl) (pe_op op_add (pe_op op_mod (pv 1) (pe_fld (pv 0) rfl)) (pv 4)))
        (pss_one (ps_while PassesOwn.never (pt_val (pe_meth (pv 0) T.cl M1 G1 hr B1 .nil pass0 (pa_cons (pv 5) (pa_cons (pv 6) pa_nil))))
          (pss_cons (ps_expr (pe_bm PySem.F.plainAttrs_list PySem.F.slot_list_append PySem.F.type_list_append mt_append (pv 2) (pa_cons (pe_op op_add (pe_op op_mul (pv 5) (pe_fld (pv 0) rfl)) (pv 6)) pa_nil)))
          (pss_cons (ps_aug (i := 5) scLitF.nd rfl (Or.inl rfl) (pv 3) ip_add) (pss_one (ps_aug (i := 6) scLitF.nd rfl (Or.inl rfl) (pv 4) ip_add)))))))))
      (pss_one (ps_ret (pv 2)))), ?_⟩
    obtain ⟨x, d, r, n, rfl, S, hn, k⟩ := h
    have o := S.ok
    have hc : 0 < r.cols := o.c1
    have hc5 : r.cols < 1000 := by have := o.c5; omega
    have n25 : n < 25 := Nat.lt_of_lt_of_le hn o.size
    have r0 : n / r.cols < r.rows := Nat.div_lt_of_lt_mul (by rw [Nat.mul_comm]; exact hn)
    have c0 : n % r.cols < r.cols := Nat.mod_lt _ hc
    refine q_asgL (el_lst ea_nil (by decide)) fun L H1 hL e1 h1 => ?_
    refine q_forT (a := a) (xs := [.ref t0, .ref t1, .ref t2, .ref t3]) ev_c (.inr ka)
      (fun i σ' H' => ∃ v3 v4 v5 v6 : Option V, σ' = [some (.ref x), some (vN n), some (.ref L), v3, v4, v5, v6] ∧ Ex H H' ∧ H' L = some (.lst (vL ((steps.take i).flatMap (rayOf r n)))))
      (fun H2 e2 => ⟨none, none, none, none, rfl, e1.trans e2, e2 _ _ h1⟩) (fun _ _ _ _ _ => .inr ka) ?_ ?_
    · rintro i y σ' H' hi ⟨v3, v4, v5, v6, rfl, e2, h2⟩
      obtain ⟨t, s, rfl, hs, kt⟩ := stp_get k0 k1 k2 k3 hi
      refine ⟨t, _, rfl, .inr kt, rfl, _, _, rfl, _, _, rfl, rfl, ?_⟩
      have S2 := S.mono e2
      refine q_asg (v := .int (((n / r.cols : Nat) : Int) + s.1)) (ev_is (ev_op (ev_op (ev_var rfl) (ev_cols T S2 (ev_var rfl)) (rv_div hc hc5)) (ev_var rfl) rv_I0) rfl) fun H3 e3 => ?_
      refine q_asg (v := .int (((n % r.cols : Nat) : Int) + s.2)) (ev_is (ev_op (ev_op (ev_var rfl) (ev_cols T (S2.mono e3) (ev_var rfl)) (rv_mod hc)) (ev_var rfl) rv_I0) rfl) fun H4 e4 => ?_
      have e34 := e3.trans e4
      have bl : ((steps.take i).flatMap (rayOf r n)).length ≤ 24 := by
        have := litM_len r n (steps.take i)
        have h2 : (steps.take i).length ≤ 4 := Nat.le_trans (List.length_take_le' _ _) (by decide)
        omega
      have more : (steps.take (i + 1)).flatMap (rayOf r n) = (steps.take i).flatMap (rayOf r n) ++ rayOf r n s := by
        rw [take_more hs, List.flatMap_append]; simp
      have unit : s.1 = -1 ∨ s.1 = 1 ∨ s.2 = -1 ∨ s.2 = 1 := by
        match i, hs with
        | 0, h => cases h; decide
        | 1, h => cases h; decide
        | 2, h => cases h; decide
        | 3, h => cases h; decide
      show tWhile _ _ _ [some (.ref x), some (vN n), some (.ref L), some (.int s.1), some (.int s.2), some (.int (((n / r.cols : Nat) : Int) + s.1)), some (.int (((n % r.cols : Nat) : Int) + s.2))] H4
      refine s_while (fun m σ' H' => ∃ (a b : Int) (k : Nat) (acc : List Nat), m + k = 6 ∧ σ' = [some (.ref x), some (vN n), some (.ref L), some (.int s.1), some (.int s.2), some (.int a), some (.int b)] ∧ Ex H H' ∧ H' L = some (.lst (vL acc)) ∧
        acc ++ rayM r s m a b = (steps.take i).flatMap (rayOf r n) ++ rayOf r n s ∧ acc.length ≤ 24 + k ∧
        ((s.1 = -1 ∧ a + 1 + k ≤ ((n / r.cols : Nat) : Int)) ∨ (s.1 = 1 ∧ ((n / r.cols : Nat) : Int) + 1 + k ≤ a) ∨ (s.2 = -1 ∧ b + 1 + k ≤ ((n % r.cols : Nat) : Int)) ∨ (s.2 = 1 ∧ ((n % r.cols : Nat) : Int) + 1 + k ≤ b))) 6
        ⟨_, _, 0, _, rfl, rfl, e2.trans e34, e34 _ _ h2, rfl, by omega, ?_⟩ ?_
      · rcases unit with u | u | u | u
        · exact .inl ⟨u, by omega⟩
        · exact .inr (.inl ⟨u, by omega⟩)
        · exact .inr (.inr (.inl ⟨u, by omega⟩))
        · exact .inr (.inr (.inr ⟨u, by omega⟩))
      · rintro m σ' H5 ⟨a, b, kk, acc, hmk, rfl, e5, h5, hacc, hlen, hbd⟩
        have S5 := S.mono e5
        refine ⟨hasFree r a b, et_B (ev_meth (vs := [.int a, .int b]) (ev_var rfl) S5.ins (rF_no d r (by decide +kernel)) (ea_cons (ev_var rfl) (ea_cons (ev_var rfl) ea_nil)) (spv_hasF S5)), fun hb H6 e6 => ?_, fun hb H6 e6 => ?_⟩
        · have hr2 := hb
          unfold hasFree at hr2
          simp only [Bool.and_eq_true, decide_eq_true_eq] at hr2
          obtain ⟨⟨⟨a0, a1⟩, b0, b1⟩, _⟩ := hr2
          have hr5 := o.r5
          have hc5' := o.c5
          have l0 : (0 : Int) ≤ ((n / r.cols : Nat) : Int) := Int.natCast_nonneg _
          have p0 : (0 : Int) ≤ ((n % r.cols : Nat) : Int) := Int.natCast_nonneg _
          have hk : kk ≤ 4 := by
            rcases hbd with ⟨_, z⟩ | ⟨_, z⟩ | ⟨_, z⟩ | ⟨_, z⟩ <;> omega
          obtain ⟨m', rfl⟩ : ∃ m', m = m' + 1 := ⟨m - 1, by omega⟩
          refine ⟨fun σ2 H2' => ∃ m2, m2 < m' + 1 ∧ ∃ (a b : Int) (k : Nat) (acc : List Nat), m2 + k = 6 ∧ σ2 = [some (.ref x), some (vN n), some (.ref L), some (.int s.1), some (.int s.2), some (.int a), some (.int b)] ∧ Ex H H2' ∧ H2' L = some (.lst (vL acc)) ∧
            acc ++ rayM r s m2 a b = (steps.take i).flatMap (rayOf r n) ++ rayOf r n s ∧ acc.length ≤ 24 + k ∧
            ((s.1 = -1 ∧ a + 1 + k ≤ ((n / r.cols : Nat) : Int)) ∨ (s.1 = 1 ∧ ((n / r.cols : Nat) : Int) + 1 + k ≤ a) ∨ (s.2 = -1 ∧ b + 1 + k ≤ ((n % r.cols : Nat) : Int)) ∨ (s.2 = 1 ∧ ((n % r.cols : Nat) : Int) + 1 + k ≤ b)), fun σ2 H2' h => h, ?_⟩
          have nn : 0 ≤ a * (r.cols : Int) + b := Int.add_nonneg (Int.mul_nonneg a0 (by omega)) b0
          refine q_app (l := L) (xs := vL acc) (v := vN (a * r.cols + b).toNat) (e6 _ _ h5) (ev_var rfl) (ev_is (ev_op (ev_op (ev_var rfl) (ev_cols T (S5.mono e6) (ev_var rfl)) (rv_I (.inl (by constructor <;> omega)))) (ev_var rfl) rv_I0) ?_) (by rw [vL_len]; omega) fun H7 e7 => ?_
          · show V.int (a * (r.cols : Int) + b) = V.int (((a * (r.cols : Int) + b).toNat : Nat) : Int)
            rw [Int.toNat_of_nonneg nn]
          · refine q_aug (f := fun i j => i + j) (a := a) (b := s.1) rfl (ev_var rfl) fun H8 e8 => ?_
            refine s_aug (f := fun i j => i + j) (a := b) (b := s.2) rfl (ev_var rfl) fun H9 e9 => ?_
            have eL : vL acc ++ [vN (a * r.cols + b).toNat] = vL (acc ++ [(a * r.cols + b).toNat]) := (vL_append acc [(a * r.cols + b).toNat]).symm
            have hm : rayM r s (m' + 1) a b = (a * r.cols + b).toNat :: rayM r s m' (a + s.1) (b + s.2) := by
              show (if hasFree r a b = true then _ else _) = _
              rw [if_pos hb]
            refine ⟨m', by omega, a + s.1, b + s.2, kk + 1, acc ++ [(a * r.cols + b).toNat], by omega, rfl, (Ex.mut ((e5.trans e6).trans e7) hL).trans (e8.trans e9), (e8.trans e9) _ _ (by rw [upd_same, eL]), ?_, by rw [List.length_append]; show acc.length + 1 ≤ _; omega, ?_⟩
            · rw [← hacc, hm, List.append_assoc]; rfl
            · have hst := steps_small hs
              rcases hbd with ⟨u, z⟩ | ⟨u, z⟩ | ⟨u, z⟩ | ⟨u, z⟩
              · exact .inl ⟨u, by omega⟩
              · exact .inr (.inl ⟨u, by omega⟩)
              · exact .inr (.inr (.inl ⟨u, by omega⟩))
              · exact .inr (.inr (.inr ⟨u, by omega⟩))
        · have hm : rayM r s m a b = [] := by
            cases m with
            | zero => rfl
            | succ m =>
              show (if hasFree r a b = true then _ else _) = _
              rw [if_neg (by rw [hb]; decide)]
          rw [hm, List.append_nil] at hacc
          exact ⟨_, _, _, _, rfl, e5.trans e6, by rw [more, ← hacc]; exact e6 _ _ h5⟩
    · rintro σ' H' ⟨v3, v4, v5, v6, rfl, e2, h2⟩
      exact s_ret (v := .ref L) (ev_var rfl) fun H3 e3 => k L H3 hL (e2.trans e3) (e3 _ _ h2)
end
end Rd
set_option linter.all false
set_option maxRecDepth 100000
set_option maxHeartbeats 2000000
namespace Rd
open PySem PySem.Spec PyProof.Rows L2 Evl
/-! ### with a lamp, without -/
def two (lt : List Nat) (c : Nat) (q : List Nat) : List (List Nat) := (if q.any (fun l => lt.contains l) then [] else [q ++ [c]]) ++ [q]
def spWow : Sp := fun vs H Q _ => ∃ (la p : Addr) (c : Nat) (lt : List Nat) (as : List Addr) (fs : List (List Nat)), vs = [vN c, .ref la, .ref p] ∧ H la = some (.lst (vL lt)) ∧ H p = some (.lst (as.map V.ref)) ∧ LLs H as fs ∧ (∀ q ∈ fs, q.length ≤ 25) ∧ fs.length ≤ 32768 ∧ RetP (IsLL (fs.flatMap (two lt c))) H Q
abbrev sWow : Stmt := top 35
abbrev nWow : List Str := ["cell", "lit", "found", "grown", "lamps", "lamp"]
theorem scWow : FnScope nWow ["cell", "lit", "found"] (defScope sWow) := ⟨rfl, rfl, rfl, by decide +kernel, rfl, by decide +kernel, by decide +kernel⟩
theorem two_len (lt : List Nat) (c : Nat) : ∀ fs : List (List Nat), (fs.flatMap (two lt c)).length ≤ 2 * fs.length
  | [] => by simp
  | q :: fs => by
    have ih := two_len lt c fs
    have : (two lt c q).length ≤ 2 := by unfold two; split <;> simp
    rw [List.flatMap_cons, List.length_append, List.length_cons]
    omega
/-- any of a comprehension `y in lt for y in q` -/
theorem ev_anyIn {σ : L2.St} {H : Hp} {K : PySem.W.Frag} {ti tl : TE} {j : Nat} {vs : List Nat} {b : Addr} {q : List Nat} (f : Nat → Bool) (hi : Ev tl σ H (.ref b)) (hb : H b = some (.lst (vL q))) (hq : q.length ≤ 99999) (hw : ∀ x, wipe ((wipe σ vs).set j (some x)) vs = wipe σ vs)
    (he : ∀ (n : Nat) H1, Ex H H1 → n ∈ q → Ev ti ((wipe σ vs).set j (some (vN n))) H1 (.bl (f n))) : Ev (tCB (rAny K) (tCons (tLc (iList K tl) (gName j) tYes ti vs) tNil)) σ H (.bl (q.any f)) := by
  have key := el_lcB (K := K) (a := b) (xs := vL q) (tl := tl) (t := tYes) (te := ti) (σ := σ) (H := H) (j := j) (vs := vs) (fun _ => true) (fun i => .bl (f (q.getD i 0))) hi (sq_of hb) (by rw [vL_len]; exact hq) hw
    (fun i x H2 e2 _ H3 e3 Q k => k H3 (Ex.refl H3))
    (fun i x H2 e2 hi _ => by
      obtain ⟨n, hn, rfl⟩ := vL_get_some hi
      rw [getD_of hn]
      exact he n H2 e2 (List.mem_of_getElem? hn))
  rw [vL_len, given_filter q (fun _ => true) (fun n => .bl (f n)) 0, keepAll] at key
  have ek : q.map (fun n => V.bl (f n)) = (q.map f).map V.bl := by rw [List.map_map]; rfl
  rw [ek] at key
  exact ev_cb1L key fun p2 H3 e3 h3 Q kk => ⟨p2, _, rfl, sq_of h3, by rw [any_map_id]; exact kk H3 (Ex.refl H3)⟩
section
variable {P : Program} {w : World} {K : PySem.W.Frag} {mg : Str → Option Value} {base : Heap}
theorem ok_wow {f : Addr} {fd : FuncData} (F : Fun K "with_or_without" "with_or_without" sWow f fd) (gA : mg "any" = none) : FnOk P w K mg base CX0 1 f fd ["cell", "lit", "found"] spWow := by
  refine F.ok scWow (fun vs H Q E h => ?_) (fun cdv A outer s H vs Q E hr h => ?_)
  · obtain ⟨la, p, c, lt, as, fs, rfl, _⟩ := h; rfl
  · refine ⟨_, pss_cons (ps_set (i := 3) scWow.nd rfl (Or.inl rfl) (pe_lst pa_nil))
      (pss_cons (ps_for PassesOwn.never rfl (pi_list (pv 2)) (pg_name (i := 4) scWow.nd rfl (Or.inl rfl))
        (pss_cons (ps_if (pt_not (pt_val (pe_callB (cr_any rfl) (by rfl) gA (by decide +kernel) (pa_cons
          (pe_lc (own := [("lamp", 5)]) (g := gName 5) (tt := tYes) (te := tOp (rIn K false) (tVar 5) (tVar 1)) rfl scWow.nd (pi_list (pv 4)) (blkOk_by (N := nWow) (sc := defScope sWow) (by decide +kernel))
            (fun _ _ _ _ _ => pg_name (i := 5) scWow.nd rfl (Or.inl rfl)) (fun _ _ _ _ _ => pts_nil) (fun _ _ _ _ _ => pe_cmpR op_in_seq (pv 5) (pv 1) (by rfl))) pa_nil))))
          (pss_one (ps_expr (pe_bm PySem.F.plainAttrs_list PySem.F.slot_list_append PySem.F.type_list_append mt_append (pv 3) (pa_cons (pe_op op_cat (pv 4) (pe_lst (pa_cons (pv 0) pa_nil))) pa_nil)))) pss_nil)
        (pss_one (ps_expr (pe_bm PySem.F.plainAttrs_list PySem.F.slot_list_append PySem.F.type_list_append mt_append (pv 3) (pa_cons (pv 4) pa_nil))))))
      (pss_one (ps_ret (pv 3)))), ?_⟩
    obtain ⟨la, p, c, lt, as, fs, rfl, hla, hp, hl, hc, hz, k⟩ := h
    have hlen := hl.length
    refine q_asgL (el_lst ea_nil (by decide)) fun L H1 hL e1 h1 => ?_
    refine q_forLn (a := p) (xs := as.map V.ref) (ev_var rfl) (sq_of (e1 _ _ hp)) (fun i σ' H' => ∃ (v4 v5 : Option V) (as' : List Addr), σ' = [some (vN c), some (.ref la), some (.ref p), some (.ref L), v4, v5] ∧ Ex H H' ∧ H' L = some (.lst (as'.map V.ref)) ∧ L ∉ as' ∧ LLs H' as' ((fs.take i).flatMap (two lt c)))
      (fun H2 e2 => ⟨none, none, [], rfl, e1.trans e2, e2 _ _ h1, by simp, .nil⟩) (fun i σ' H' _ ⟨_, _, _, _, e, _⟩ => sq_of (e _ _ hp)) ?_ ?_
    · rintro i y σ' H' hi ⟨v4, v5, as', rfl, e2, h2, hn, hll⟩
      rw [List.getElem?_map] at hi
      cases ea : as[i]? with
      | none => rw [ea] at hi; cases hi
      | some b =>
        rw [ea] at hi
        obtain ⟨q, hq, r⟩ := Paired.get hl ea
        obtain rfl : y = .ref b := (Option.some.inj hi).symm
        have hi' : i < fs.length := (List.getElem?_eq_some_iff.mp hq).1
        have hbL : b ≠ L := ne_of_none r hL
        have q25 := hc q (List.mem_of_getElem? hq)
        have more : (fs.take (i + 1)).flatMap (two lt c) = (fs.take i).flatMap (two lt c) ++ two lt c q := by rw [take_more hq, List.flatMap_append]; simp
        have la' : as'.length ≤ 65536 := by
          have h1 := hll.length
          have h2 := two_len lt c (fs.take i)
          have h3 := List.length_take_le' i fs
          omega
        show tSeq _ _ _ [some (vN c), some (.ref la), some (.ref p), some (.ref L), some (.ref b), v5] H'
        have fin : ∀ (H3 : Hp) (as3 : List Addr) (acc : List (List Nat)), Ex H H3 → H3 L = some (.lst (as3.map V.ref)) → L ∉ as3 → LLs H3 as3 acc → as3.length ≤ 65537 → acc ++ [q] = (fs.take (i + 1)).flatMap (two lt c) →
            tDrop (tBM K "list" rAppend (tVar 3) (tCons (tVar 4) tNil)) { nx := fun σ' H' => ∃ (v4 v5 : Option V) (as' : List Addr), σ' = [some (vN c), some (.ref la), some (.ref p), some (.ref L), v4, v5] ∧ Ex H H' ∧ H' L = some (.lst (as'.map V.ref)) ∧ L ∉ as' ∧ LLs H' as' ((fs.take (i + 1)).flatMap (two lt c)), rt := Q, bk := tRet (tVar 3) { nx := fun _ H' => Q .non H', rt := Q }, ct := fun σ' H' => ∃ (v4 v5 : Option V) (as' : List Addr), σ' = [some (vN c), some (.ref la), some (.ref p), some (.ref L), v4, v5] ∧ Ex H H' ∧ H' L = some (.lst (as'.map V.ref)) ∧ L ∉ as' ∧ LLs H' as' ((fs.take (i + 1)).flatMap (two lt c)) }
              [some (vN c), some (.ref la), some (.ref p), some (.ref L), some (.ref b), v5] H3 := by
          intro H3 as3 acc e3 h3 n3 l3 z3 eq
          refine s_app (l := L) (xs := as3.map V.ref) (v := .ref b) h3 (ev_var rfl) (ev_var rfl) (by rw [List.length_map]; omega) fun H4 e4 => ?_
          refine ⟨_, _, as3 ++ [b], rfl, Ex.mut (e3.trans e4) hL, by rw [upd_same, List.map_append]; rfl, ?_, ?_⟩
          · intro z
            rcases List.mem_append.mp z with z | z
            · exact n3 z
            · simp at z; exact hbL z.symm
          · rw [← eq]
            refine Paired.snoc ((l3.mono e4).upd n3) ?_
            rw [upd_ne hbL]
            exact (e3.trans e4) _ _ r
        refine q_when (b := !q.any (fun l => lt.contains l)) (et_not (et_B (ev_anyIn (fun l => lt.contains l) (ev_var rfl) (e2 _ _ r) (Nat.le_trans q25 (by decide)) (fun _ => rfl) fun n H3 e3 _ => ev_is (ev_op (ev_var rfl) (ev_var rfl) (rv_isL (sq_of (e3 _ _ (e2 _ _ hla))) rfl (flat_vL _))) (by rw [inV_vL])))) (fun hb H3 e3 => ?_) (fun hb H3 e3 => ?_)
        · have hb : ¬ (q.any (fun l => lt.contains l)) = true := by rw [Bool.not_eq_true'] at hb; rw [hb]; decide
          have ht : two lt c q = [q ++ [c]] ++ [q] := by unfold two; rw [if_neg hb]
          refine s_appL (l := L) (xs := as'.map V.ref) (ys := vL (q ++ [c])) (e3 _ _ h2) (ev_var rfl) ?_ (by rw [List.length_map]; omega) fun n H4 hnn e4 h4 => ?_
          · rw [vL_append]
            exact el_cat (l := b) (xs := vL q) (ys := [vN c]) (ev_var rfl) ((e2.trans e3) _ _ r) (el_lst (ea_cons (ev_var rfl) ea_nil) (by show 1 ≤ 100000; decide)) (by rw [vL_len]; show q.length + 1 ≤ 100000; omega)
          · have nL : n ≠ L := fun z => by rw [z] at hnn; rw [e3 _ _ h2] at hnn; cases hnn
            refine fin _ (as' ++ [n]) ((fs.take i).flatMap (two lt c) ++ [q ++ [c]]) (Ex.mut ((e2.trans e3).trans e4) hL) (by rw [upd_same, List.map_append]; rfl) ?_ ?_ (by rw [List.length_append]; show as'.length + 1 ≤ _; omega) (by rw [more, ht, List.append_assoc])
            · intro z
              rcases List.mem_append.mp z with z | z
              · exact hn z
              · simp at z; exact nL z.symm
            · refine Paired.snoc ((hll.mono (e3.trans e4)).upd hn) ?_
              rw [upd_ne nL]; exact h4
        · have hb : (q.any (fun l => lt.contains l)) = true := by simpa using hb
          have ht : two lt c q = [q] := by unfold two; rw [if_pos hb]; rfl
          exact fin H3 as' _ (e2.trans e3) (e3 _ _ h2) hn (hll.mono e3) (by omega) (by rw [more, ht])
    · rintro σ' H' ⟨v4, v5, as', rfl, e2, h2, hn, hll⟩
      rw [List.length_map, hlen, List.take_length] at hll
      exact s_ret (ev_var rfl) fun H3 e3 => k _ H3 (e2.trans e3) ⟨L, as', rfl, e3 _ _ h2, hll.mono e3⟩
end
end Rd
set_option linter.all false
set_option maxRecDepth 100000
set_option maxHeartbeats 2000000
namespace Rd
open PySem PySem.Spec PyProof.Rows L2 Evl
/-! ### the table of what is lit -/
def litK (cs : List Nat) (as : List Addr) : List (L2.Key × V) := (cs.zip as).map fun e => (Sum.inl (e.1 : Int), V.ref e.2)
def LitAt (H : Hp) (D : Addr) (cs : List Nat) (g : Nat → List Nat) : Prop := ∃ as : List Addr, H D = some (.dK (litK cs as)) ∧ LLs H as (cs.map g)
theorem LitAt.mono {H H' : Hp} {D : Addr} {cs : List Nat} {g : Nat → List Nat} (e : Ex H H') (h : LitAt H D cs g) : LitAt H' D cs g := by
  obtain ⟨as, h1, h2⟩ := h
  exact ⟨as, e _ _ h1, h2.mono e⟩
theorem litK_get {H : Hp} {g : Nat → List Nat} : ∀ {cs : List Nat} {as : List Addr}, LLs H as (cs.map g) → ∀ {c : Nat}, c ∈ cs → ∃ a, valV (litK cs as) (Sum.inl (c : Int)) = some (.ref a) ∧ H a = some (.lst (vL (g c)))
  | [], _, _, c, h => by cases h
  | m :: cs, _, .cons (a := a) r t, c, h => by
    show ∃ b, valV ((Sum.inl (m : Int), V.ref a) :: litK cs _) (Sum.inl (c : Int)) = some (.ref b) ∧ _
    have hk := key_eq m c
    by_cases e : m = c
    · subst e
      exact ⟨a, by rw [valV_pos rfl], r⟩
    · rcases List.mem_cons.mp h with h | h
      · exact absurd h.symm e
      · obtain ⟨b, h1, h2⟩ := litK_get (cs := cs) t h
        refine ⟨b, ?_, h2⟩
        rw [valV_neg, h1]
        intro q
        rw [show (m == c) = false by simpa using e] at hk
        exact absurd q (of_decide_eq_false hk)
theorem litK_put {cs : List Nat} {as : List Addr} (hl : as.length = cs.length) {c : Nat} (hc : c ∉ cs) (a : Addr) : putK (litK cs as) (Sum.inl (c : Int)) (.ref a) = litK (cs ++ [c]) (as ++ [a]) := by
  have e : (litK cs as).any (fun kv => decide (kv.1 = Sum.inl (c : Int))) = false := by
    rw [List.any_eq_false]
    intro kv hkv
    unfold litK at hkv
    obtain ⟨p, hp, rfl⟩ := List.mem_map.mp hkv
    show ¬ decide ((Sum.inl (p.1 : Int) : L2.Key) = Sum.inl (c : Int)) = true
    rw [key_eq]
    intro z
    have : p.1 = c := by simpa using z
    exact hc (this ▸ (List.of_mem_zip hp).1)
  unfold putK
  rw [if_neg (by rw [e]; decide)]
  unfold litK
  rw [List.zip_append hl.symm, List.map_append]
  rfl
def allLitM (free : List Nat) (g : Nat → List Nat) (q : List Nat) : Bool := free.all fun x => q.contains x || q.any fun l => (g x).contains l
def spAllLit : Sp := fun vs H Q _ => ∃ (fa D p : Addr) (free : List Nat) (g : Nat → List Nat) (q : List Nat), vs = [.ref fa, .ref D, .ref p] ∧ H fa = some (.lst (vL free)) ∧ LitAt H D free g ∧ H p = some (.lst (vL q)) ∧ q.length ≤ 25 ∧ RetV (.bl (allLitM free g q)) H Q
abbrev sAllLit : Stmt := top 36
abbrev nAllLit : List Str := ["free", "lit", "lamps", "cell", "lamp"]
theorem scAllLit : FnScope nAllLit ["free", "lit", "lamps"] (defScope sAllLit) := ⟨rfl, rfl, rfl, by decide +kernel, rfl, by decide +kernel, by decide +kernel⟩
theorem ev_litGet {σ : L2.St} {H : Hp} {td ty : TE} {D a : Addr} {c : Nat} {kvs : List (L2.Key × V)} (h : Ev td σ H (.ref D)) (hk : Ev ty σ H (vN c)) (hd : H D = some (.dK kvs)) (hv : valV kvs (Sum.inl (c : Int)) = some (.ref a)) : Ev (tDGet td ty) σ H (.ref a) := fun H1 e Q q =>
  h H1 e _ fun H2 e2 => hk H2 (e.trans e2) _ fun H3 e3 => ⟨D, .ref a, rfl, .inl ⟨kvs, Sum.inl (c : Int), .inl (((e.trans e2).trans e3) _ _ hd), rfl, hv.symm⟩, q H3 (e2.trans e3)⟩
section
variable {P : Program} {w : World} {K : PySem.W.Frag} {mg : Str → Option Value} {base : Heap}
theorem ok_allLit {f : Addr} {fd : FuncData} (F : Fun K "all_lit" "all_lit" sAllLit f fd) (gA : mg "any" = none) : FnOk P w K mg base CX0 1 f fd ["free", "lit", "lamps"] spAllLit := by
  refine F.ok scAllLit (fun vs H Q E h => ?_) (fun cdv A outer s H vs Q E hr h => ?_)
  · obtain ⟨fa, D, p, free, g, q, rfl, _⟩ := h; rfl
  · refine ⟨_, pss_cons (ps_for PassesOwn.never rfl (pi_list (pv 0)) (pg_name (i := 3) scAllLit.nd rfl (Or.inr rfl))
        (pss_one (ps_if (PW.pt (pw_and (pt_cmpR op_notIn_seq (pv 3) (pv 2) (by rfl)) (pw_and1 (pt_not (pt_val (pe_callB (cr_any rfl) (by rfl) gA (by decide +kernel) (pa_cons
          (pe_lc (own := [("lamp", 4)]) (g := gName 4) (tt := tYes) (te := tOp (rIn K false) (tVar 4) (tDGet (tVar 1) (tVar 3))) rfl scAllLit.nd (pi_list (pv 2)) (blkOk_by (N := nAllLit) (sc := defScope sAllLit) (by decide +kernel))
            (fun _ _ _ _ _ => pg_name (i := 4) scAllLit.nd rfl (Or.inl rfl)) (fun _ _ _ _ _ => pts_nil) (fun _ _ _ _ _ => pe_cmpR op_in_seq (pv 4) (pe_dget (hu_of hr) (pv 1) (pv 3) (fun _ _ => rfl)) (by rfl))) pa_nil)))))))
          (pss_one (ps_ret pe_bl)) pss_nil)))
      (pss_one (ps_ret pe_bl)), ?_⟩
    obtain ⟨fa, D, p, free, g, q, rfl, hfa, ⟨as, hD, hll⟩, hp, hq, k⟩ := h
    refine q_forLn (a := fa) (xs := vL free) (ev_var rfl) (sq_of hfa) (fun i σ' H' => ∃ v3 v4 : Option V, σ' = [some (.ref fa), some (.ref D), some (.ref p), v3, v4] ∧ Ex H H' ∧ allLitM (free.take i) g q = true)
      (fun H1 e1 => ⟨none, none, rfl, e1, rfl⟩) (fun i σ' H' _ ⟨_, _, _, e, _⟩ => sq_of (e _ _ hfa)) ?_ ?_
    · rintro i y σ' H' hi ⟨v3, v4, rfl, e1, hm⟩
      obtain ⟨c, hc, rfl⟩ := vL_get_some hi
      have hcm : c ∈ free := List.mem_of_getElem? hc
      have more : allLitM (free.take (i + 1)) g q = (q.contains c || q.any fun l => (g c).contains l) := by
        rw [take_more hc]
        unfold allLitM at hm ⊢
        rw [List.all_append, hm]; simp
      obtain ⟨b, hv, hb⟩ := litK_get hll hcm
      refine s_when (b := !q.contains c && !q.any (fun l => (g c).contains l)) (et_and (et_test (ev_is (ev_op (ev_var rfl) (ev_var rfl) (rv_niL (sq_of (e1 _ _ hp)) rfl (flat_vL _))) (by rw [inV_vL])))
        (fun _ => et_not (et_B (ev_anyIn (fun l => (g c).contains l) (ev_var rfl) (e1 _ _ hp) (Nat.le_trans hq (by decide)) (fun _ => rfl) fun n H3 e3 _ => ev_is (ev_op (y := .ref b) (ev_var rfl) (ev_litGet (ev_var rfl) (ev_var rfl) (e3 _ _ (e1 _ _ hD)) hv) (rv_isL (sq_of (e3 _ _ (e1 _ _ hb))) rfl (flat_vL _))) (by rw [inV_vL]))))) (fun hbb H2 e2 => ?_) (fun hbb H2 e2 => ?_)
      · refine s_ret ev_c fun H3 e3 => ?_
        have : allLitM free g q = false := by
          unfold allLitM
          rw [Bool.eq_false_iff]
          intro h
          rw [List.all_eq_true] at h
          have := h c hcm
          simp only [Bool.and_eq_true, Bool.not_eq_true'] at hbb
          rw [hbb.1, hbb.2] at this
          cases this
        rw [this] at k
        exact k H3 ((e1.trans e2).trans e3)
      · refine ⟨_, _, rfl, e1.trans e2, ?_⟩
        rw [more]
        cases h1 : q.contains c
        · rw [h1] at hbb
          cases h2 : q.any (fun l => (g c).contains l)
          · rw [h2] at hbb; cases hbb
          · rfl
        · rfl
    · rintro σ' H' ⟨v3, v4, rfl, e1, hm⟩
      rw [vL_len, List.take_length] at hm
      refine s_ret ev_c fun H3 e3 => ?_
      rw [hm] at k
      exact k H3 (e1.trans e3)
end
/-! ### the hall's settings -/
def foundH (r : R) (cs : List Nat) : List (List Nat) := cs.foldl (fun f c => f.flatMap (two (litM r c) c)) [[]]
theorem foundH_snoc (r : R) (cs : List Nat) (c : Nat) : foundH r (cs ++ [c]) = (foundH r cs).flatMap (two (litM r c) c) := by unfold foundH; rw [List.foldl_append]; rfl
theorem foldH_len (r : R) : ∀ (cs : List Nat) (f : List (List Nat)), (cs.foldl (fun f c => f.flatMap (two (litM r c) c)) f).length ≤ 2 ^ cs.length * f.length
  | [], f => by simp
  | c :: cs, f => by
    have h1 := foldH_len r cs (f.flatMap (two (litM r c) c))
    have h2 := two_len (litM r c) c f
    rw [List.foldl_cons, List.length_cons, Nat.pow_succ, Nat.mul_assoc]
    exact Nat.le_trans h1 (Nat.mul_le_mul_left _ h2)
theorem foundH_len (r : R) (cs : List Nat) : (foundH r cs).length ≤ 2 ^ cs.length := by
  have := foldH_len r cs [[]]
  simpa [foundH] using this
theorem foldH_short (r : R) : ∀ (cs : List Nat) (f : List (List Nat)) (n : Nat), (∀ q ∈ f, q.length ≤ n) → ∀ q ∈ cs.foldl (fun f c => f.flatMap (two (litM r c) c)) f, q.length ≤ n + cs.length
  | [], f, n, h => fun q hq => h q hq
  | c :: cs, f, n, h => by
    intro q hq
    have := foldH_short r cs (f.flatMap (two (litM r c) c)) (n + 1) (fun q hq => by
      obtain ⟨a, ha, hq⟩ := List.mem_flatMap.mp hq
      have hl := h a ha
      unfold two at hq
      split at hq
      · simp at hq; subst hq; omega
      · simp at hq
        rcases hq with rfl | rfl
        · simp; omega
        · omega) q hq
    rw [List.length_cons]; omega
theorem foundH_short (r : R) (cs : List Nat) : ∀ q ∈ foundH r cs, q.length ≤ cs.length := fun q hq => by
  have := foldH_short r cs [[]] 0 (by simp) q hq
  omega
theorem foldl_ext {A B : Type} {f g : A → B → A} : ∀ {l : List B} {a : A}, (∀ a b, b ∈ l → f a b = g a b) → l.foldl f a = l.foldl g a
  | [], _, _ => rfl
  | b :: l, a, h => by rw [List.foldl_cons, List.foldl_cons, h a b List.mem_cons_self, foldl_ext fun a b hb => h a b (List.mem_cons_of_mem _ hb)]
theorem wanting_lt {r : R} {c : Nat} (h : c ∈ wanting r) : c < r.rows * r.cols := List.mem_range.mp (List.mem_filter.mp h).1
theorem wanting_len {r : R} (g : HGood r) : (wanting r).length ≤ 16 := by
  unfold wanting
  refine Nat.le_trans (List.length_filter_le _ _) ?_
  rw [List.length_range]
  exact Nat.mul_le_mul g.r4 g.c4
theorem found_is {r : R} (g : HGood r) : foundH r (wanting r) = H.found (sH r) := by
  unfold foundH H.found
  rw [sH_free]
  refine foldl_ext fun f c hc => ?_
  unfold H.grow
  congr 1
  funext q
  unfold two H.twoWays
  rw [litM_is g (wanting_lt hc)]
theorem allLit_is {r : R} (g : HGood r) (q : List Nat) : allLitM (wanting r) (litM r) q = H.allLit (sH r) q := by
  unfold allLitM H.allLit
  rw [sH_free]
  rw [Bool.eq_iff_iff, List.all_eq_true, List.all_eq_true]
  constructor
  · intro h x hx
    have := h x hx
    rw [litM_is g (wanting_lt hx)] at this
    exact this
  · intro h x hx
    rw [litM_is g (wanting_lt hx)]
    exact h x hx
theorem settingsH_is {r : R} (g : HGood r) : (foundH r (wanting r)).filter (allLitM (wanting r) (litM r)) = Sy85.settings (sH r) := by
  rw [← H.settings_is (sH_good g), found_is g]
  apply List.filter_congr
  intro q _
  exact allLit_is g q
theorem fitsH : kH.Fits where
  ok := fun r g => g.ok
  few := fun r g => by
    show (Sy85.settings (sH r)).length ≤ 70000
    rw [← settingsH_is g]
    refine Nat.le_trans (List.length_filter_le _ _) (Nat.le_trans (foundH_len r _) ?_)
    exact Nat.le_trans (Nat.pow_le_pow_right (by decide) (wanting_len g)) (by decide)
  short := fun r g p hp => by
    have hp : p ∈ Sy85.settings (sH r) := hp
    rw [← settingsH_is g] at hp
    have := foundH_short r _ p (List.mem_filter.mp hp).1
    have := wanting_len g
    omega
  nums := fun r g => by
    have h := keys_few g.ok.keys (n := 16) fun x hx => by
      obtain ⟨p, hp, rfl⟩ := List.mem_map.mp hx
      have := g.ok.cells _ (g.keys p hp)
      exact Nat.lt_of_lt_of_le this (Nat.mul_le_mul g.r4 g.c4)
    rw [List.length_map] at h
    exact h
  low := fun r g n hn => by
    have hn : n ∈ sortBl r := hn
    rw [mem_sortBl] at hn
    exact Nat.lt_of_lt_of_le (g.ok.cells n hn) g.ok.size
  tell := fun r n v g hn => by
    have hn : n ∈ sortBl r := hn
    rw [mem_sortBl] at hn
    refine ⟨g.ok.tell (Nat.lt_of_lt_of_le (g.ok.cells n hn) g.ok.size) (some v), g.r4, g.c4, fun p hp => ?_⟩
    rcases (tellM_keys r.nums n (some v) g.ok.keys).2 p.1 (List.mem_map.mpr ⟨p, hp, rfl⟩) with h | h
    · obtain ⟨q, hq, e⟩ := List.mem_map.mp h
      rw [← e]; exact g.keys q hq
    · rw [h]; exact hn
  drop := fun r n g => by
    have hs : ∀ p ∈ tellM r.nums n none, p ∈ r.nums := fun p hp => (List.mem_filter.mp hp).1
    have o := g.ok
    exact ⟨⟨o.r1, o.r5, o.c1, o.c5, o.nd, o.cells, (tellM_keys r.nums n none o.keys).1, fun p hp => o.low p (hs p hp)⟩, g.r4, g.c4, fun p hp => g.keys p (hs p hp)⟩
  cntN := fun r ns n q => rfl
  allN := fun r ns => rfl
abbrev sSetH : Stmt := inClass cHall 7
abbrev nSetH : List Str := ["self", "free", "lit", "cell", "found", "lamps"]
theorem scSetH : FnScope nSetH ["self"] (defScope sSetH) := ⟨rfl, rfl, rfl, by decide +kernel, rfl, by decide +kernel, by decide +kernel⟩
section
variable {P : Program} {w : World} {K : PySem.W.Frag} {mg : Str → Option Value} {base : Heap} {C : Addr}
theorem ok_setH {f : Addr} {fd : FuncData} (F : Fun K "settings" "Hall.settings" sSetH f fd) (T : RC K C) (mW : Mt P w K mg base C 2 "wanting" ["self"] (spWanting C)) (mL : Mt P w K mg base C 2 "lit_from" ["self", "cell"] (spLitF C)) (gW : Gf P w K mg base 1 "with_or_without" ["cell", "lit", "found"] spWow) (gA : Gf P w K mg base 1 "all_lit" ["free", "lit", "lamps"] spAllLit) :
    FnOk P w K mg base CX0 3 f fd ["self"] (spSettings C kH) := by
  refine F.ok scSetH (fun vs H Q E h => ?_) (fun cdv A outer s H vs Q E hr h => ?_)
  · obtain ⟨x, d, r, rfl, _⟩ := h; rfl
  · obtain ⟨f1, fd1, M1, G1, B1⟩ := mW
    obtain ⟨f2, fd2, M2, G2, B2⟩ := mL
    obtain ⟨f3, fd3, g3, k3, G3, B3⟩ := gW
    obtain ⟨f4, fd4, g4, k4, G4, B4⟩ := gA
    refine ⟨_, pss_cons (ps_set (i := 1) scSetH.nd rfl (Or.inr rfl) (pe_meth0 (pv 0) T.cl M1 G1 hr B1 .nil pass0))
      (pss_cons (ps_set (i := 2) scSetH.nd rfl (Or.inr rfl) pe_dnewK)
      (pss_cons (ps_for PassesOwn.never rfl (pi_list (pv 1)) (pg_name (i := 3) scSetH.nd rfl (Or.inl rfl))
        (pss_one (ps_dput (hu_of hr) (pv 2) (pv 3) (pe_meth (pv 0) T.cl M2 G2 hr B2 .nil pass0 (pa_cons (pv 3) pa_nil)) rfl)))
      (pss_cons (ps_set (i := 4) scSetH.nd rfl (Or.inl rfl) (pe_lst (pa_cons (pe_lst pa_nil) pa_nil)))
      (pss_cons (ps_for PassesOwn.never rfl (pi_list (pv 1)) (pg_name (i := 3) scSetH.nd rfl (Or.inl rfl))
        (pss_one (ps_set (i := 4) scSetH.nd rfl (Or.inl rfl) (pe_call G3 (hr.mono (by decide)) (by rfl) g3 k3 B3 .nil pass0 (pa_cons (pv 3) (pa_cons (pe_dget (hu_of hr) (pv 2) (pv 3) (fun _ _ => rfl)) (pa_cons (pv 4) pa_nil)))))))
      (pss_one (ps_ret (pe_lc (own := [("lamps", 5)]) (g := gName 5) (tt := tB (tCall spAllLit [] E0 (tCons (tVar 1) (tCons (tVar 2) (tCons (tVar 5) tNil))))) (te := tVar 5) rfl scSetH.nd (pi_list (pv 4)) (blkOk_by (N := nSetH) (sc := defScope sSetH) (by decide +kernel))
        (fun _ _ _ _ _ => pg_name (i := 5) scSetH.nd rfl (Or.inl rfl)) (fun _ _ _ _ _ => pts_one (pt_val (pe_call G4 (hr.mono (by decide)) (by rfl) g4 k4 B4 .nil pass0 (pa_cons (pv 1) (pa_cons (pv 2) (pa_cons (pv 5) pa_nil)))))) (fun _ _ _ _ _ => pv 5)))))))), ?_⟩
    obtain ⟨x, d, r, rfl, S, g, k⟩ := h
    have wl := wanting_len g
    have wn : (wanting r).Nodup := List.nodup_range.filter _
    refine q_asgL (el_meth (vs := []) (ev_var rfl) S.ins (rF_no d r (by decide +kernel)) ea_nil (spl_wanting S)) fun fa H1 hfa e1 h1 => ?_
    intro D hD
    show tSeq _ _ _ [some (.ref x), some (.ref fa), some (.ref D), none, none, none] (upd H1 D (.dK []))
    have HD : H D = none := fresh_back e1 hD
    have e2 : Ex H1 (upd H1 D (.dK [])) := Ex.new hD
    -- the table
    refine q_forLn (a := fa) (xs := vL (wanting r)) (ev_var rfl) (sq_of (e2 _ _ h1)) (fun i σ' H' => ∃ v3 : Option V, σ' = [some (.ref x), some (.ref fa), some (.ref D), v3, none, none] ∧ Ex H1 H' ∧ LitAt H' D ((wanting r).take i) (litM r))
      (fun H2 e => ⟨none, rfl, e2.trans e, ⟨[], e _ _ upd_same, .nil⟩⟩) (fun i σ' H' _ ⟨_, _, e, _⟩ => sq_of (e _ _ h1)) ?_ ?_
    · rintro i y σ' H' hi ⟨v3, rfl, e, as, hDa, hll⟩
      obtain ⟨c, hc, rfl⟩ := vL_get_some hi
      have hcm : c ∈ wanting r := List.mem_of_getElem? hc
      have hil : i < (wanting r).length := (List.getElem?_eq_some_iff.mp hc).1
      show sDPut _ _ _ _ [some (.ref x), some (.ref fa), some (.ref D), some (vN c), none, none] H'
      have S' := S.mono (e1.trans e)
      refine (el_meth (vs := [vN c]) (ev_var rfl) S'.ins (rF_no d r (by decide +kernel)) (ea_cons (ev_var rfl) ea_nil) (spl_litF S' (wanting_lt hcm))) H' (Ex.refl H') _ fun a H3 ha e3 h3 => ⟨_, rfl, _, rfl, D, _, rfl, DPut.k (k := Sum.inl (c : Int)) (e3 _ _ hDa) ?_, ?_⟩
      · unfold litK
        rw [List.length_map, List.length_zip]
        have := List.length_take_le' i (wanting r)
        exact small1000 (by omega)
      · have aD : a ≠ D := fun z => by rw [z] at ha; rw [hDa] at ha; cases ha
        have hlen : as.length = ((wanting r).take i).length := by have := hll.length; rw [List.length_map] at this; exact this
        have hnc : c ∉ (wanting r).take i := by
          intro z
          obtain ⟨j, hj, e⟩ := List.getElem_of_mem z
          rw [List.length_take] at hj
          have hj2 : (wanting r)[j]? = some c := by
            rw [List.getElem_take] at e
            rw [List.getElem?_eq_getElem (by omega), e]
          have h1 := (List.getElem?_eq_some_iff.mp hj2)
          have h2 := (List.getElem?_eq_some_iff.mp hc)
          have := (List.getElem_inj wn).mp (h1.2.trans h2.2.symm)
          omega
        have nD : D ∉ as := fun z => by
          obtain ⟨j, hj, e⟩ := List.getElem_of_mem z
          obtain ⟨b, _, r⟩ := Paired.get hll (List.getElem?_eq_getElem hj)
          rw [e, hDa] at r; cases r
        refine ⟨_, rfl, Ex.mut (e.trans e3) hD, as ++ [a], ?_, ?_⟩
        · rw [upd_same]
          show some (HO.dK (putK (litK ((wanting r).take i) as) (Sum.inl (c : Int)) (.ref a))) = _
          rw [litK_put hlen hnc, take_more hc]
        · rw [take_more hc, List.map_append]
          refine Paired.snoc ((hll.mono e3).upd nD) ?_
          rw [upd_ne aD]
          exact h3
    rintro σ' H2 ⟨v3, rfl, e2', lit⟩
    rw [vL_len, List.take_length] at lit
    -- found = [[]]
    refine ⟨by show 0 ≤ sizeLine; decide, fun b0 hb0 => ⟨by show 1 ≤ sizeLine; decide, fun p0 hp0 => ?_⟩⟩
    have bp : b0 ≠ p0 := fun z => by rw [← z, upd_same] at hp0; cases hp0
    have e3 : Ex H2 (upd (upd H2 b0 (.lst [])) p0 (.lst [.ref b0])) := (Ex.new hb0).trans (Ex.new hp0)
    have f0 : IsLL (foundH r []) (.ref p0) (upd (upd H2 b0 (.lst [])) p0 (.lst [.ref b0])) := ⟨p0, [b0], rfl, upd_same, .cons (by rw [upd_ne bp]; exact upd_same) .nil⟩
    revert e3 f0
    generalize upd (upd H2 b0 (.lst [])) p0 (.lst [.ref b0]) = H3
    intro e3 f0
    have e13 := e2'.trans e3
    show tSeq _ _ _ [some (.ref x), some (.ref fa), some (.ref D), v3, some (.ref p0), none] H3
    refine q_forLn (a := fa) (xs := vL (wanting r)) (ev_var rfl) (sq_of (e13 _ _ h1)) (fun i σ' H' => ∃ (v3 : Option V) (v : V), σ' = [some (.ref x), some (.ref fa), some (.ref D), v3, some v, none] ∧ Ex H2 H' ∧ IsLL (foundH r ((wanting r).take i)) v H')
      (fun H4 e => ⟨v3, _, rfl, e3.trans e, f0.mono e⟩) (fun i σ' H' _ ⟨_, _, _, e, _⟩ => sq_of ((e2'.trans e) _ _ h1)) ?_ ?_
    · rintro i y σ' H' hi ⟨v3', v, rfl, e, hv⟩
      obtain ⟨c, hc, rfl⟩ := vL_get_some hi
      have hcm : c ∈ wanting r := List.mem_of_getElem? hc
      have hil : i < (wanting r).length := (List.getElem?_eq_some_iff.mp hc).1
      obtain ⟨p, as, rfl, hp, hl⟩ := hv
      obtain ⟨las, hDa, hll⟩ := lit.mono e
      obtain ⟨b, hv, hb⟩ := litK_get hll hcm
      refine ep_call (P := IsLL ((foundH r ((wanting r).take i)).flatMap (two (litM r c) c))) (vs := [vN c, .ref b, .ref p]) (ea_cons (ev_var rfl) (ea_cons (ev_litGet (ev_var rfl) (ev_var rfl) hDa hv) (ea_cons (ev_var rfl) ea_nil))) (fun H5 e5 Q kk E => ⟨b, p, c, litM r c, as, _, rfl, e5 _ _ hb, e5 _ _ hp, hl.mono e5, fun q hq => ?_, ?_, kk⟩) H' (Ex.refl H') _ fun v' H5 e5 hv' => ⟨_, v', rfl, e.trans e5, by rw [take_more hc, foundH_snoc]; exact hv'⟩
      · have h1 := foundH_short r _ q hq
        have h2 := List.length_take_le' i (wanting r)
        omega
      · have h1 := foundH_len r ((wanting r).take i)
        have h2 : ((wanting r).take i).length ≤ 15 := by rw [List.length_take]; omega
        exact Nat.le_trans h1 (Nat.pow_le_pow_right (by decide) h2)
    · rintro σ' H4 ⟨v3', v, rfl, e, hv⟩
      rw [vL_len, List.take_length] at hv
      have e14 := e1.trans (e2'.trans e)
      have src : EvP (tVar 4) [some (.ref x), some (.ref fa), some (.ref D), v3', some v, none] H4 (IsLL (foundH r (wanting r))) := fun H5 e5 Q k => ⟨v, rfl, k v H5 (Ex.refl H5) (hv.mono e5)⟩
      have hbig : (foundH r (wanting r)).length ≤ 99999 := Nat.le_trans (foundH_len r _) (Nat.le_trans (Nat.pow_le_pow_right (by decide) wl) (by decide))
      have fin := ep_lcLL (K := K) (tl := tVar 4) (t := tB (tCall spAllLit [] E0 (tCons (tVar 1) (tCons (tVar 2) (tCons (tVar 5) tNil))))) (σ := [some (.ref x), some (.ref fa), some (.ref D), v3', some v, none]) (H := H4) (j := 5) (vs := [5]) (allLitM (wanting r) (litM r)) src hbig (fun _ => rfl) (fun _ => rfl) fun a q H5 e5 ha hq =>
        et_B (ev_call (vs := [.ref fa, .ref D, .ref a]) (ea_cons (ev_var rfl) (ea_cons (ev_var rfl) (ea_cons (ev_var rfl) ea_nil))) fun H6 e6 Q kk E => ⟨fa, D, a, wanting r, litM r, q, rfl, (((e2'.trans e).trans e5).trans e6) _ _ h1, lit.mono ((e.trans e5).trans e6), e6 _ _ ha, Nat.le_trans (foundH_short r _ q hq) (by omega), kk⟩)
      rw [settingsH_is g] at fin
      exact s_retP fin fun w H5 e5 hw => k w H5 (e14.trans e5) hw
end
end Rd
set_option linter.all false
set_option maxRecDepth 100000
set_option maxHeartbeats 2000000
namespace Rd
open PySem PySem.Spec PyProof.Rows L2 Evl
/-! ### the hall's deeds -/
def blP (r : R) (n : Nat) : List Nat := if r.bl.contains n = true then r.bl else r.bl ++ [n]
def pillarM (r : R) (n v : Nat) : R × List Int := if r.rows * r.cols ≤ n then (r, [-2]) else if 4 < v ∧ v ≠ 9 then (r, [-1]) else ({ r with bl := blP r n, nums := tellM r.nums n (if v = 9 then none else some v) }, [((blP r n).length : Nat)])
def goneM (r : R) (n : Nat) : R × List Int := if r.rows * r.cols ≤ n then (r, [-2]) else if r.bl.contains n = false then (r, [-4]) else ({ r with bl := r.bl.filter (fun y => y != n), nums := tellM r.nums n none }, [((r.bl.length - 1 : Nat) : Int)])
def shownH (r : R) (xs : List Nat) : List Nat := xs.flatMap fun x => [x, (r.nums.lookup x).getD 9]
def stateH (r : R) : List Int := castL ([r.bl.length, 2, r.rows, r.cols, (shownH r (sortBl r)).length] ++ shownH r (sortBl r) ++ [0, 0])
def hallDeed (r : R) : List Nat → R × List Int
  | [1, a, b] => pillarM r a b
  | [2, a] => goneM r a
  | [4] => (r, manyA kH r)
  | [8] => (r, fewA kH r)
  | [11] => (r, stateH r)
  | _ => (r, [-100])
def wantsH : List (Nat × Nat) := [(0, 2), (1, 2), (2, 1), (4, 0), (8, 0), (11, 0)]
def spPillar (C : Addr) : Sp := fun vs H Q _ => ∃ (x : Addr) (d : Ad) (r : R) (n v : Nat), vs = [.ref x, vN n, vN v] ∧ Own C H x d r ∧ r.nums.length < 1000 ∧ r.bl.length ≤ 1000 ∧ Aft C H x d (pillarM r n v).1 (pillarM r n v).2 Q
def spGone (C : Addr) : Sp := fun vs H Q _ => ∃ (x : Addr) (d : Ad) (r : R) (n : Nat), vs = [.ref x, vN n] ∧ Own C H x d r ∧ r.nums.length < 1000 ∧ Aft C H x d (goneM r n).1 (goneM r n).2 Q
abbrev sPillar : Stmt := inClass cHall 2
abbrev sGone : Stmt := inClass cHall 3
abbrev sStateH : Stmt := inClass cHall 4
abbrev sOwnH : Stmt := inClass cHall 1
theorem scPillar : FnScope ["self", "cell", "lamps"] ["self", "cell", "lamps"] (defScope sPillar) := ⟨rfl, rfl, rfl, by decide +kernel, rfl, by decide +kernel, by decide +kernel⟩
theorem scGone : FnScope ["self", "cell", "answered"] ["self", "cell"] (defScope sGone) := ⟨rfl, rfl, rfl, by decide +kernel, rfl, by decide +kernel, by decide +kernel⟩
theorem scStateH : FnScope ["self", "shown", "cell"] ["self"] (defScope sStateH) := ⟨rfl, rfl, rfl, by decide +kernel, rfl, by decide +kernel, by decide +kernel⟩
theorem scOwnH : FnScope ["self", "told", "call"] ["self", "told"] (defScope sOwnH) := ⟨rfl, rfl, rfl, by decide +kernel, rfl, by decide +kernel, by decide +kernel⟩
section
variable {P : Program} {w : World} {K : PySem.W.Frag} {mg : Str → Option Value} {base : Heap} {C : Addr}
theorem ok_pillar {f : Addr} {fd : FuncData} (F : Fun K "pillar" "Hall.pillar" sPillar f fd) (T : RC K C) (gL : mg "len" = none) (c2 : KInt mg "NO_SUCH" (-2)) (c1 : KInt mg "BAD_VALUE" (-1)) (c4 : KInt mg "MOST_LAMPS" 4) (c9 : KInt mg "NO_NUMBER" 9) (mS : Mt P w K mg base C 1 "size" ["self"] (spSize C))
    (mT : Mt P w K mg base C 1 "tell" ["self", "number", "value"] (spTell C)) : FnOk P w K mg base CX0 2 f fd ["self", "cell", "lamps"] (spPillar C) := by
  refine F.ok scPillar (fun vs H Q E h => ?_) (fun cdv A outer s H vs Q E hr h => ?_)
  · obtain ⟨x, d, r, n, v, rfl, _⟩ := h; rfl
  · obtain ⟨fs, fds, MS, GS, BS⟩ := mS
    obtain ⟨f1, fd1, M1, G1, B1⟩ := mT
    obtain ⟨t2, c2⟩ := c2
    obtain ⟨t1, c1⟩ := c1
    obtain ⟨t4, c4⟩ := c4
    obtain ⟨t9, c9⟩ := c9
    refine ⟨_, pss_cons (ps_if (pt_cmpR op_ge (pv 1) (pe_meth0 (pv 0) T.cl MS GS hr BS .nil pass0) (nomark _)) (pss_one (ps_ret (pe_lst (pa_cons (pe_glob (v := .int (-2)) rfl c2 ⟨_, rfl⟩) pa_nil)))) pss_nil)
      (pss_cons (ps_if (PW.pt (pw_and (pt_cmpR op_gt (pv 2) (pe_glob (v := .int 4) rfl c4 ⟨_, rfl⟩) (nomark _)) (pw_and1 (pt_cmpR op_ne (pv 2) (pe_glob (v := .int 9) rfl c9 ⟨_, rfl⟩) (nomark _))))) (pss_one (ps_ret (pe_lst (pa_cons (pe_glob (v := .int (-1)) rfl c1 ⟨_, rfl⟩) pa_nil)))) pss_nil)
      (pss_cons (ps_if (pt_cmpR op_notIn_seq (pv 1) (pe_fld (pv 0) rfl) (by rfl)) (pss_one (ps_expr (pe_bm PySem.F.plainAttrs_list PySem.F.slot_list_append PySem.F.type_list_append mt_append (pe_fld (pv 0) rfl) (pa_cons (pv 1) pa_nil)))) pss_nil)
      (pss_cons (ps_expr (pe_meth (pv 0) T.cl M1 G1 hr B1 .nil pass0 (pa_cons (pv 1) (pa_cons (pe_ifExp (pt_cmpR op_eq (pv 2) (pe_glob (v := .int 9) rfl c9 ⟨_, rfl⟩) (nomark _)) pe_non (pv 2)) pa_nil))))
      (pss_one (ps_ret (pe_lst (pa_cons (pe_callB call_len_seq (by rfl) gL PySem.boot_len (pa_cons (pe_fld (pv 0) rfl) pa_nil)) pa_nil))))))), ?_⟩
    obtain ⟨x, d, r, n, v, rfl, O, hl, hbl, k⟩ := h
    have S := O.seen
    refine q_when (b := decide (((r.rows * r.cols : Nat) : Int) ≤ (n : Int))) (et_test (ev_op (ev_var rfl) (ev_meth (ev_var rfl) S.ins (rF_no d r (by decide +kernel)) ea_nil (spv_size S)) rv_I0)) (fun hb H1 e1 => ?_) (fun hb H1 e1 => ?_)
    · have hb : r.rows * r.cols ≤ n := Int.ofNat_le.mp (of_decide_eq_true hb)
      rw [pillarM, if_pos hb] at k
      exact s_retL (el_lst (ea_cons ev_c ea_nil) (by show 1 ≤ 100000; decide)) fun p H2 _ e2 h2 => k.same O (e1.trans e2) h2
    have hb : ¬ r.rows * r.cols ≤ n := fun z => of_decide_eq_false hb (Int.ofNat_le.mpr z)
    have e9 : ∀ H2, Ev (tOp rEq (tVar 2) (tC (.int 9))) [some (.ref x), some (vN n), some (vN v)] H2 (.bl (v == 9)) := fun H2 => ev_op (y := vN 9) (ev_var rfl) ev_c rv_eqN
    refine q_when (b := decide (4 < v) && v != 9) (et_and (a := decide (4 < v)) (et_test (ev_is (ev_op (x := vN v) (y := .int 4) (ev_var rfl) ev_c rv_I0) ?_)) (fun _ => et_test (ev_op (y := vN 9) (ev_var rfl) ev_c rv_neN))) (fun hb2 H2 e2 => ?_) (fun hb2 H2 e2 => ?_)
    · show V.bl (decide ((4 : Int) < (v : Int))) = _
      congr 1
      exact decide_eq_decide.mpr (by omega)
    · have hb2 : 4 < v ∧ v ≠ 9 := by simpa using hb2
      rw [pillarM, if_neg hb, if_pos hb2] at k
      exact s_retL (el_lst (ea_cons ev_c ea_nil) (by show 1 ≤ 100000; decide)) fun p H3 _ e3 h3 => k.same O ((e1.trans e2).trans e3) h3
    have hb2 : ¬ (4 < v ∧ v ≠ 9) := by
      rintro ⟨z1, z2⟩
      have : (decide (4 < v) && v != 9) = true := by simp [z1, z2]
      rw [this] at hb2; cases hb2
    rw [pillarM, if_neg hb, if_neg hb2] at k
    have e12 := e1.trans e2
    have O2 := O.mono e12
    have S2 := O2.seen
    have n25 : n < 25 := Nat.lt_of_lt_of_le (Nat.lt_of_not_le hb) S.ok.size
    have ok' : ({ r with bl := blP r n } : R).Ok := by
      unfold blP
      split
      · exact S.ok
      · next hc =>
        have hnm : n ∉ r.bl := fun z => hc (List.contains_iff_mem.mpr z)
        refine ⟨S.ok.r1, S.ok.r5, S.ok.c1, S.ok.c5, ?_, fun y hy => ?_, S.ok.keys, S.ok.low⟩
        · rw [List.nodup_append]
          refine ⟨S.ok.nd, by simp, ?_⟩
          intro a ha b hb'
          simp at hb'; subst hb'
          intro e; subst e; exact hnm ha
        · rcases List.mem_append.mp hy with hy | hy
          · exact S.ok.cells y hy
          · simp at hy; subst hy
            exact Nat.lt_of_not_le hb
    have hne : x ≠ d.ba := ne_of S2.ins S2.bl (by intro z; cases z)
    have hnn : d.na ≠ d.ba := ne_of O2.nu S2.bl (by intro z; cases z)
    -- from the list as it is to be
    have fin : ∀ H3, Kept H H3 [d.ba] → Own C H3 x d { r with bl := blP r n } → tSeq (tDrop (tMeth C "tell" (spTell C) [] E0 (tVar 0) (tCons (tVar 1) (tCons (tIf (tTest (tOp rEq (tVar 2) (tC (.int 9)))) (tC .non) (tVar 2)) tNil))))
        (tRet (tLst (tCons (tCB (rLenS K) (tCons (tFld K (tVar 0) "blocked") tNil)) tNil))) { nx := fun _ H' => Q .non H', rt := Q } [some (.ref x), some (vN n), some (vN v)] H3 := by
      intro H3 k3 O3
      refine q_tell (n := n) (o := if v = 9 then none else some v) O3 n25 hl rfl (ea_cons (ev_var rfl) (ea_cons (ev_if (et_test (e9 _)) (fun h9 => ev_is ev_c ?_) (fun h9 => ev_is (ev_var rfl) ?_)) ea_nil)) fun H4 k4 O4 => ?_
      · rw [if_pos (by simpa using h9)]; rfl
      · rw [if_neg (by simpa using h9)]; rfl
      · refine s_retL (el_lst (ea_cons (ev_len (ev_blk T O4.seen (ev_var rfl)) (sq_of O4.seen.bl)) ea_nil) (by show 1 ≤ 100000; decide)) fun p H5 _ e5 h5 => k H5 d p (((k3.sub (by simp)).trans (k4.sub (by simp))).ex e5) (O4.mono e5) (.refl H d) ?_
        rw [h5, vL_len]; rfl
    refine q_when (b := !r.bl.contains n) (et_test (ev_is (ev_op (ev_var rfl) (ev_blk T S2 (ev_var rfl)) (rv_niL (sq_of S2.bl) rfl (flat_vL _))) (by rw [inV_vL]))) (fun hb3 H3 e3 => ?_) (fun hb3 H3 e3 => ?_)
    · have hb3 : r.bl.contains n = false := by simpa using hb3
      have eb : blP r n = r.bl ++ [n] := by unfold blP; rw [if_neg (by rw [hb3]; decide)]
      have S3 := S2.mono e3
      refine s_app (D := { nx := tSeq _ _ _, rt := Q }) (l := d.ba) (xs := vL r.bl) (v := vN n) S3.bl (ev_blk T S3 (ev_var rfl)) (ev_var rfl) (by rw [vL_len]; omega) fun H4 e4 => ?_
      have O4 := O2.mono (e3.trans e4)
      have eL : vL r.bl ++ [vN n] = vL (blP r n) := by rw [eb]; exact (vL_append r.bl [n]).symm
      rw [eL]
      exact fin _ (Kept.set (.of_ex ((e12.trans e3).trans e4)) (by simp)) ⟨⟨ok', by rw [upd_ne hne]; exact O4.seen.ins, upd_same, .inl (by rw [upd_ne hnn]; exact O4.nu)⟩, by rw [upd_ne hnn]; exact O4.nu⟩
    · have hb3 : r.bl.contains n = true := by simpa using hb3
      have eb : blP r n = r.bl := by unfold blP; rw [if_pos hb3]
      refine fin H3 (.of_ex (e12.trans e3)) ?_
      rw [eb]
      exact O2.mono e3
theorem ok_gone {f : Addr} {fd : FuncData} (F : Fun K "gone" "Hall.gone" sGone f fd) (T : RC K C) (mU : Mt P w K mg base C 2 "unblock" ["self", "cell"] (spUnblock C)) (mT : Mt P w K mg base C 1 "tell" ["self", "number", "value"] (spTell C)) : FnOk P w K mg base CX0 3 f fd ["self", "cell"] (spGone C) := by
  refine F.ok scGone (fun vs H Q E h => ?_) (fun cdv A outer s H vs Q E hr h => ?_)
  · obtain ⟨x, d, r, n, rfl, _⟩ := h; rfl
  · obtain ⟨f2, fd2, M2, G2, B2⟩ := mU
    obtain ⟨f1, fd1, M1, G1, B1⟩ := mT
    refine ⟨_, pss_cons (ps_set (i := 2) scGone.nd rfl (Or.inl rfl) (pe_meth (pv 0) T.cl M2 G2 hr B2 .nil pass0 (pa_cons (pv 1) pa_nil)))
      (pss_cons (ps_if (pt_cmpR op_ge (pe_ix ix_list (pv 2) pe_int (fun _ _ => rfl)) pe_int (nomark _)) (pss_one (ps_expr (pe_meth (pv 0) T.cl M1 G1 (hr.mono (by decide)) B1 .nil pass0 (pa_cons (pv 1) (pa_cons pe_non pa_nil))))) pss_nil)
      (pss_one (ps_ret (pv 2)))), ?_⟩
    obtain ⟨x, d, r, n, rfl, O, hl, k⟩ := h
    have S := O.seen
    refine ⟨_, rfl, x, d.dx, rF d r, rfl, S.ins, rF_no d r (by decide +kernel), _, rfl, x, d, r, n, rfl, O, fun H1 d1 p k1 O1 m1 h1 => ?_⟩
    show tSeq _ _ _ [some (.ref x), some (vN n), some (.ref p)] H1
    -- what the answer's first number is
    have test : ∀ (i : Int), (unblockM r n).2 = [i] → EvT (tTest (tOp (rI0 fun i j => .bl (decide (j ≤ i))) (tOp (rIxL K) (tVar 2) (tC (.int 0))) (tC (.int 0)))) [some (.ref x), some (vN n), some (.ref p)] H1 (decide (0 ≤ i)) := fun i hi => by
      rw [hi] at h1
      exact et_test (ev_op (x := .int i) (y := .int 0) (ev_op (y := .int ((0 : Nat) : Int)) (ev_var rfl) ev_c (rv_ixL (sq_of h1) (atI_nat rfl))) ev_c rv_I0)
    by_cases c1 : r.rows * r.cols ≤ n
    · have e : unblockM r n = (r, [-2]) := by unfold unblockM; rw [if_pos c1]
      rw [goneM, if_pos c1] at k
      refine q_when (test (-2) (by rw [e])) (fun z => by cases z) (fun _ H2 e2 => ?_)
      rw [e] at O1 h1
      exact s_ret (ev_var rfl) fun H3 e3 => k H3 d1 p (k1.ex (e2.trans e3)) (O1.mono (e2.trans e3)) m1 ((e2.trans e3) _ _ h1)
    by_cases c2 : r.bl.contains n = false
    · have e : unblockM r n = (r, [-4]) := by unfold unblockM; rw [if_neg c1, if_pos c2]
      rw [goneM, if_neg c1, if_pos c2] at k
      refine q_when (test (-4) (by rw [e])) (fun z => by cases z) (fun _ H2 e2 => ?_)
      rw [e] at O1 h1
      exact s_ret (ev_var rfl) fun H3 e3 => k H3 d1 p (k1.ex (e2.trans e3)) (O1.mono (e2.trans e3)) m1 ((e2.trans e3) _ _ h1)
    · have e : unblockM r n = ({ r with bl := r.bl.filter fun y => y != n }, [((r.bl.length - 1 : Nat) : Int)]) := by unfold unblockM; rw [if_neg c1, if_neg c2]
      rw [goneM, if_neg c1, if_neg c2] at k
      refine q_when (test _ (by rw [e])) (fun _ H2 e2 => ?_) (fun z => absurd (of_decide_eq_false z) (by omega))
      rw [e] at O1 h1
      have pna : p ≠ d1.na := ne_of h1 O1.nu (by intro z; cases z)
      refine s_tell (D := { nx := tRet (tVar 2) _, rt := Q }) (n := n) (o := none) (O1.mono e2) (Nat.lt_of_lt_of_le (Nat.lt_of_not_le c1) S.ok.size) hl rfl (ea_cons (ev_var rfl) (ea_cons ev_c ea_nil)) fun H3 k3 O3 => ?_
      refine s_ret (ev_var rfl) fun H4 e4 => k H4 d1 p ?_ (O3.mono e4) m1 (e4 _ _ (k3 _ _ (e2 _ _ h1) (by simpa using pna)))
      intro b ob hb hnb
      refine e4 _ _ (k3 _ _ (e2 _ _ (k1 b ob hb hnb)) ?_)
      intro z
      have z : b = d1.na := by simpa using z
      rcases m1.na with q | q
      · exact hnb (by rw [z, q]; simp)
      · rw [z, q] at hb; cases hb
end
end Rd
set_option linter.all false
set_option maxRecDepth 100000
set_option maxHeartbeats 2000000
namespace Rd
open PySem PySem.Spec PyProof.Rows L2 Evl
theorem shownH_len (r : R) : ∀ xs : List Nat, (shownH r xs).length = 2 * xs.length
  | [] => rfl
  | x :: xs => by
    have ih := shownH_len r xs
    show (shownH r xs).length + 1 + 1 = _
    rw [ih, List.length_cons]; omega
theorem shownH_snoc (r : R) (xs : List Nat) (x : Nat) : shownH r (xs ++ [x]) = shownH r xs ++ [x, (r.nums.lookup x).getD 9] := by unfold shownH; rw [List.flatMap_append]; simp
section
variable {P : Program} {w : World} {K : PySem.W.Frag} {mg : Str → Option Value} {base : Heap} {C : Addr}
theorem ok_stateH {f : Addr} {fd : FuncData} (F : Fun K "state" "Hall.state" sStateH f fd) (T : RC K C) (gL : mg "len" = none) (c9 : KInt mg "NO_NUMBER" 9) (mA : Mt P w K mg base C 1 "all_numbers" ["self"] (spAll C kH)) :
    FnOk P w K mg base CX0 2 f fd ["self"] (spPure C kH stateH) := by
  refine F.ok scStateH (fun vs H Q E h => ?_) (fun cdv A outer s H vs Q E hr h => ?_)
  · obtain ⟨x, d, r, rfl, _⟩ := h; rfl
  · obtain ⟨f1, fd1, M1, G1, B1⟩ := mA
    obtain ⟨t9, c9⟩ := c9
    refine ⟨_, pss_cons (ps_set (i := 1) scStateH.nd rfl (Or.inl rfl) (pe_lst pa_nil))
      (pss_cons (ps_for PassesOwn.never rfl (pi_list (pe_meth0 (pv 0) T.cl M1 G1 hr B1 .nil pass0)) (pg_name (i := 2) scStateH.nd rfl (Or.inl rfl))
        (pss_one (ps_set (i := 1) scStateH.nd rfl (Or.inl rfl) (pe_op op_cat (pv 1) (pe_lst (pa_cons (pv 2) (pa_cons (pe_dget2 (hu_of hr) (pe_fld (pv 0) rfl) (pv 2) (pe_glob (v := .int 9) rfl c9 ⟨_, rfl⟩) ⟨rfl, rfl, rfl, rfl⟩) pa_nil)))))))
      (pss_one (ps_ret (pe_op op_cat (pe_op op_cat (pe_lst (pa_cons (pe_callB call_len_seq (by rfl) gL PySem.boot_len (pa_cons (pe_fld (pv 0) rfl) pa_nil)) (pa_cons pe_int (pa_cons (pe_fld (pv 0) rfl) (pa_cons (pe_fld (pv 0) rfl) (pa_cons (pe_callB call_len_seq (by rfl) gL PySem.boot_len (pa_cons (pv 1) pa_nil)) pa_nil)))))) (pv 1)) (pe_lst (pa_cons pe_int (pa_cons pe_int pa_nil))))))), ?_⟩
    obtain ⟨x, d, r, rfl, O, g, k⟩ := h
    have S := O.seen
    have o := S.ok
    have sl : (sortBl r).length ≤ 16 := by
      rw [(sortBl_perm o).length_eq]
      exact keys_few o.nd fun y hy => Nat.lt_of_lt_of_le (o.cells y hy) (Nat.mul_le_mul g.r4 g.c4)
    refine q_asgL (xs := vL (shownH r [])) (el_lst ea_nil (Nat.zero_le _)) fun p1 H1 hp1 e1 h1 => ?_
    refine q_forNLn (xs := vL (sortBl r)) (el_meth (vs := []) (ev_var rfl) (S.mono e1).ins (rF_no d r (by decide +kernel)) ea_nil (spl_all (kd := kH) (S.mono e1) g))
      (fun l i σ' H' => ∃ (q : Addr) (v2 : Option V), σ' = [some (.ref x), some (.ref q), v2] ∧ Ex H H' ∧ H' q = some (.lst (vL (shownH r ((sortBl r).take i)))) ∧ H' l = some (.lst (vL (sortBl r))))
      (fun l H2 hl e2 h2 => ⟨p1, none, rfl, e1.trans e2, e2 _ _ h1, h2⟩) (fun l i σ' H' _ ⟨_, _, _, _, _, h⟩ => sq_of h) ?_ ?_
    · rintro l i y σ' H' hi ⟨q, v2, rfl, e2, hq, hl⟩
      obtain ⟨n, hn, rfl⟩ := vL_get_some hi
      have S2 := S.mono e2
      have hlen : (shownH r ((sortBl r).take i)).length ≤ 32 := by
        rw [shownH_len]
        have := List.length_take_le' i (sortBl r)
        omega
      refine s_asgL (xs := vL (shownH r ((sortBl r).take (i + 1)))) (by
        rw [take_more hn, shownH_snoc, vL_append]
        exact el_cat (l := q) (xs := vL (shownH r ((sortBl r).take i))) (ev_var rfl) hq (el_lst (ea_cons (ev_var rfl) (ea_cons (ev_dget2 (z := 9) (ev_num T S2 (ev_var rfl)) (ev_var rfl) ev_c S2.nu) ea_nil)) (by show 2 ≤ 100000; decide)) (by rw [vL_len]; show _ + 2 ≤ 100000; omega)) fun q2 H3 hq2 e3 h3 => ?_
      exact ⟨q2, _, rfl, e2.trans e3, h3, e3 _ _ hl⟩
    · rintro l σ' H' ⟨q, v2, rfl, e2, hq, hl⟩
      rw [vL_len, List.take_length] at hq
      have S2 := S.mono e2
      have hlen : (shownH r (sortBl r)).length ≤ 32 := by rw [shownH_len]; omega
      have a1 : EvL (tOp rCat (tLst (tCons (tCB (rLenS K) (tCons (tFld K (tVar 0) "blocked") tNil)) (tCons (tC (.int 2)) (tCons (tFld K (tVar 0) "rows") (tCons (tFld K (tVar 0) "columns") (tCons (tCB (rLenS K) (tCons (tVar 1) tNil)) tNil)))))) (tVar 1)) [some (.ref x), some (.ref q), v2] H' (vL ([r.bl.length, 2, r.rows, r.cols, (shownH r (sortBl r)).length] ++ shownH r (sortBl r))) := by
        rw [vL_append]
        exact el_catR (l := q) (tb := tVar 1) (ta := tLst (tCons (tCB (rLenS K) (tCons (tFld K (tVar 0) "blocked") tNil)) (tCons (tC (.int 2)) (tCons (tFld K (tVar 0) "rows") (tCons (tFld K (tVar 0) "columns") (tCons (tCB (rLenS K) (tCons (tVar 1) tNil)) tNil))))))
          (el_lst (ea_cons (ev_is (ev_len (ev_blk T S2 (ev_var rfl)) (sq_of S2.bl)) (by rw [vL_len])) (ea_cons ev_c (ea_cons (ev_rows T S2 (ev_var rfl)) (ea_cons (ev_cols T S2 (ev_var rfl)) (ea_cons (ev_is (ev_len (ev_var rfl) (sq_of hq)) (by rw [vL_len])) ea_nil))))) (by show 5 ≤ 100000; decide)) (ev_var rfl) hq (by rw [vL_len, vL_len]; show 5 + _ ≤ 100000; omega)
      have a0 : EvL (tLst (tCons (tC (.int 0)) (tCons (tC (.int 0)) tNil))) [some (.ref x), some (.ref q), v2] H' [V.int 0, V.int 0] := el_lst (ea_cons ev_c (ea_cons ev_c ea_nil)) (by show 2 ≤ 100000; decide)
      refine s_retL (el_catL a1 a0 (by rw [vL_len, List.length_append]; show 5 + _ + 2 ≤ 100000; omega)) fun p H3 hp e3 h3 => k.same O (e2.trans e3) ?_
      rw [h3]
      congr 1
      unfold stateH
      show _ = HO.lst ((castL _).map V.int)
      congr 1
      have e : ([V.int 0, V.int 0] : List V) = vL [0, 0] := rfl
      rw [e, ← vL_append, vL_ints]
      rfl
theorem ok_ownH {f : Addr} {fd : FuncData} (F : Fun K "own_deed" "Hall.own_deed" sOwnH f fd) (T : RC K C) (c1 : KInt mg "PILLAR" 1) (c2 : KInt mg "GONE" 2) (c4 : KInt mg "MANY_hall" 4) (c8 : KInt mg "FEWEST_hall" 8)
    (mP : Mt P w K mg base C 2 "pillar" ["self", "cell", "lamps"] (spPillar C)) (mG : Mt P w K mg base C 3 "gone" ["self", "cell"] (spGone C)) (mM : Mt P w K mg base C 5 "many" ["self"] (spPure C kH (manyA kH)))
    (mF : Mt P w K mg base C 6 "fewest" ["self"] (spPure C kH (fewA kH))) (mS : Mt P w K mg base C 2 "state" ["self"] (spPure C kH stateH)) : FnOk P w K mg base CX0 7 f fd ["self", "told"] (spOwn C kH wantsH hallDeed) := by
  refine F.ok scOwnH (fun vs H Q E h => ?_) (fun cdv A outer s H vs Q E hr h => ?_)
  · obtain ⟨x, l, d, r, c, t, rfl, _⟩ := h; rfl
  · obtain ⟨f1, fd1, M1, G1, B1⟩ := mP
    obtain ⟨f2, fd2, M2, G2, B2⟩ := mG
    obtain ⟨f4, fd4, M4, G4, B4⟩ := mM
    obtain ⟨f5, fd5, M5, G5, B5⟩ := mF
    obtain ⟨f6, fd6, M6, G6, B6⟩ := mS
    obtain ⟨t1, c1⟩ := c1
    obtain ⟨t2, c2⟩ := c2
    obtain ⟨t4, c4⟩ := c4
    obtain ⟨t8, c8⟩ := c8
    refine ⟨_, pss_cons (ps_set (i := 2) scOwnH.nd rfl (Or.inl rfl) (pe_ix ix_list (pv 1) pe_int (fun _ _ => rfl)))
      (pss_cons (ps_if (pt_cmpR op_eq (pv 2) (pe_glob (v := .int 1) rfl c1 ⟨_, rfl⟩) (nomark _)) (pss_one (ps_ret (pe_meth (pv 0) T.cl M1 G1 (hr.mono (by decide)) B1 .nil pass0 (pa_cons (pe_ix ix_list (pv 1) pe_int (fun _ _ => rfl)) (pa_cons (pe_ix ix_list (pv 1) pe_int (fun _ _ => rfl)) pa_nil))))) pss_nil)
      (pss_cons (ps_if (pt_cmpR op_eq (pv 2) (pe_glob (v := .int 2) rfl c2 ⟨_, rfl⟩) (nomark _)) (pss_one (ps_ret (pe_meth (pv 0) T.cl M2 G2 (hr.mono (by decide)) B2 .nil pass0 (pa_cons (pe_ix ix_list (pv 1) pe_int (fun _ _ => rfl)) pa_nil)))) pss_nil)
      (pss_cons (ps_if (pt_cmpR op_eq (pv 2) (pe_glob (v := .int 4) rfl c4 ⟨_, rfl⟩) (nomark _)) (pss_one (ps_ret (pe_meth0 (pv 0) T.cl M4 G4 (hr.mono (by decide)) B4 .nil pass0))) pss_nil)
      (pss_cons (ps_if (pt_cmpR op_eq (pv 2) (pe_glob (v := .int 8) rfl c8 ⟨_, rfl⟩) (nomark _)) (pss_one (ps_ret (pe_meth0 (pv 0) T.cl M5 G5 (hr.mono (by decide)) B5 .nil pass0))) pss_nil)
      (pss_one (ps_ret (pe_meth0 (pv 0) T.cl M6 G6 (hr.mono (by decide)) B6 .nil pass0))))))), ?_⟩
    obtain ⟨x, l, d, r, c, t, rfl, O, g, hl, hw, hc0, k⟩ := h
    have o := g.ok
    have nl := fitsH.nums r g
    have bl16 : r.bl.length ≤ 16 := keys_few o.nd fun y hy => Nat.lt_of_lt_of_le (o.cells y hy) (Nat.mul_le_mul g.r4 g.c4)
    have hc : c ∈ [0, 1, 2, 4, 8, 11] := lookup_key hw
    refine q_asg (v := vN c) (ev_told (i := 0) rfl hl rfl) fun H1 e1 => ?_
    have O1 := O.mono e1
    have S1 := O1.seen
    have l1 := e1 _ _ hl
    refine q_when (b := (c == 1)) (et_test (ev_op (ev_var rfl) ev_c (rv_eqN (b := 1)))) (fun hb H2 e2 => ?_) (fun hb H2 e2 => ?_)
    · obtain rfl : c = 1 := by simpa using hb
      obtain ⟨a, b, rfl⟩ := len2 hw
      exact s_retM (S1.mono e2) rfl (rF_no d r (by decide +kernel)) (ea_cons (ev_told (i := 1) rfl (e2 _ _ l1) rfl) (ea_cons (ev_told (i := 2) rfl (e2 _ _ l1) rfl) ea_nil)) fun H3 e3 => ⟨x, d, r, a, b, rfl, O1.mono (e2.trans e3), by omega, by omega, k.ex (e1.trans (e2.trans e3))⟩
    have n1 : c ≠ 1 := by simpa using hb
    have O1 := O1.mono e2
    have S1 := O1.seen
    have l1 := e2 _ _ l1
    have e1 := e1.trans e2
    clear e2
    refine q_when (b := (c == 2)) (et_test (ev_op (ev_var rfl) ev_c (rv_eqN (b := 2)))) (fun hb H3 e2 => ?_) (fun hb H3 e2 => ?_)
    · obtain rfl : c = 2 := by simpa using hb
      obtain ⟨a, rfl⟩ := len1 hw
      exact s_retM (S1.mono e2) rfl (rF_no d r (by decide +kernel)) (ea_cons (ev_told (i := 1) rfl (e2 _ _ l1) rfl) ea_nil) fun H3 e3 => ⟨x, d, r, a, rfl, O1.mono (e2.trans e3), by omega, k.ex (e1.trans (e2.trans e3))⟩
    have n2 : c ≠ 2 := by simpa using hb
    have O1 := O1.mono e2
    have S1 := O1.seen
    have e1 := e1.trans e2
    clear e2
    refine q_when (b := (c == 4)) (et_test (ev_op (ev_var rfl) ev_c (rv_eqN (b := 4)))) (fun hb H6 e2 => ?_) (fun hb H6 e2 => ?_)
    · obtain rfl : c = 4 := by simpa using hb
      obtain rfl := len0 hw
      exact s_retM (S1.mono e2) rfl (rF_no d r (by decide +kernel)) ea_nil fun H3 e3 => ⟨x, d, r, rfl, O1.mono (e2.trans e3), g, k.ex (e1.trans (e2.trans e3))⟩
    have n4 : c ≠ 4 := by simpa using hb
    have O1 := O1.mono e2
    have S1 := O1.seen
    have e1 := e1.trans e2
    clear e2
    refine q_when (b := (c == 8)) (et_test (ev_op (ev_var rfl) ev_c (rv_eqN (b := 8)))) (fun hb H7 e2 => ?_) (fun hb H7 e2 => ?_)
    · obtain rfl : c = 8 := by simpa using hb
      obtain rfl := len0 hw
      exact s_retM (S1.mono e2) rfl (rF_no d r (by decide +kernel)) ea_nil fun H3 e3 => ⟨x, d, r, rfl, O1.mono (e2.trans e3), g, k.ex (e1.trans (e2.trans e3))⟩
    have n8 : c ≠ 8 := by simpa using hb
    have : c = 11 := by
      simp only [List.mem_cons, List.not_mem_nil, or_false] at hc
      omega
    subst this
    obtain rfl := len0 hw
    exact s_retM (S1.mono e2) rfl (rF_no d r (by decide +kernel)) ea_nil fun H3 e3 => ⟨x, d, r, rfl, O1.mono (e2.trans e3), g, k.ex (e1.trans (e2.trans e3))⟩
end
end Rd
set_option linter.all false
set_option maxRecDepth 100000
set_option maxHeartbeats 2000000
namespace Rd
/-! ### the table of numbers -/
theorem mem_tell {ns : List (Nat × Nat)} (h : (ns.map (·.1)).Nodup) (n : Nat) (o : Option Nat) (m v : Nat) : (m, v) ∈ tellM ns n o ↔ if m = n then o = some v else (m, v) ∈ ns := by
  cases o with
  | none =>
    simp only [tellM, List.mem_filter, bne_iff_ne, ne_eq]
    split
    · next e => simp [e]
    · next e => simp [e]
  | some w =>
    simp only [tellM]
    split
    · next c =>
      rw [List.mem_map]
      constructor
      · rintro ⟨q, hq, e⟩
        by_cases e2 : q.1 = n
        · rw [if_pos e2] at e
          cases e
          rw [if_pos e2]
        · rw [if_neg e2] at e
          subst e
          rw [if_neg e2]
          exact hq
      · intro g
        split at g
        · next e =>
          subst e
          cases g
          rw [List.any_eq_true] at c
          obtain ⟨q, hq, e⟩ := c
          have e : q.1 = m := by simpa using e
          refine ⟨q, hq, ?_⟩
          rw [if_pos e, e]
        · next e => exact ⟨(m, v), g, if_neg e⟩
    · next c =>
      rw [List.mem_append, List.mem_singleton]
      have hn : ∀ v, (n, v) ∉ ns := fun v hv => c (List.any_eq_true.mpr ⟨_, hv, by simp⟩)
      split
      · next e =>
        subst e
        constructor
        · rintro (g | g)
          · exact absurd g (hn v)
          · cases g; rfl
        · intro g; cases g; exact .inr rfl
      · next e =>
        constructor
        · rintro (g | g)
          · exact g
          · cases g; exact absurd rfl e
        · exact .inl
theorem Nums.ext {val val' : Nat → Option Nat} {ns : List (Nat × Nat)} (N : Nums val ns) (h : ∀ n, val' n = val n) : Nums val' ns := ⟨N.nodup, fun n v => by rw [h, N.mem]⟩
theorem Nums.tell {val : Nat → Option Nat} {ns : List (Nat × Nat)} (N : Nums val ns) (n : Nat) (o : Option Nat) : Nums (fun m => if m = n then o else val m) (tellM ns n o) := by
  refine ⟨(tellM_keys ns n o N.nodup).1, fun m v => ?_⟩
  rw [mem_tell N.nodup]
  split
  · exact Iff.rfl
  · exact N.mem m v
theorem Nums.thin (c : List Nat) : ∀ (ks : List Nat) {val : Nat → Option Nat} {ns : List (Nat × Nat)}, Nums val ns → Nums (fun m => if m ∈ ks ∧ c.contains m = false then none else val m) (thinN c ks ns)
  | [], val, ns, N => N.ext fun n => by rw [if_neg (by simp)]
  | k :: ks, val, ns, N => by
    show Nums _ (thinN c ks (if c.contains k = true then ns else tellM ns k none))
    by_cases hk : c.contains k = true
    · rw [if_pos hk]
      refine (Nums.thin c ks N).ext fun n => ?_
      by_cases e : n = k
      · subst e
        rw [if_neg (by rw [hk]; simp), if_neg (by rw [hk]; simp)]
      · by_cases h : n ∈ ks ∧ c.contains n = false
        · rw [if_pos h, if_pos ⟨List.mem_cons_of_mem _ h.1, h.2⟩]
        · rw [if_neg h, if_neg]
          rintro ⟨h1, h2⟩
          exact h ⟨(List.mem_cons.mp h1).resolve_left e, h2⟩
    · rw [if_neg hk]
      refine (Nums.thin c ks (N.tell k none)).ext fun n => ?_
      have hk : c.contains k = false := by simpa using hk
      by_cases e : n = k
      · subst e
        rw [if_pos ⟨List.mem_cons_self, hk⟩, if_pos rfl, ite_self]
      · rw [if_neg e]
        by_cases h : n ∈ ks ∧ c.contains n = false
        · rw [if_pos h, if_pos ⟨List.mem_cons_of_mem _ h.1, h.2⟩]
        · rw [if_neg h, if_neg]
          rintro ⟨h1, h2⟩
          exact h ⟨(List.mem_cons.mp h1).resolve_left e, h2⟩
theorem Nums.thinAll {val : Nat → Option Nat} {ns : List (Nat × Nat)} (N : Nums val ns) (c : List Nat) : Nums (fun m => if c.contains m = true then val m else none) (thinN c (ns.map (·.1)) ns) := by
  refine (N.thin c _).ext fun n => ?_
  by_cases h : c.contains n = true
  · rw [if_pos h, if_neg (by rw [h]; simp)]
  · rw [if_neg h]
    have h : c.contains n = false := by simpa using h
    by_cases k : n ∈ ns.map (·.1)
    · rw [if_pos ⟨k, h⟩]
    · rw [if_neg (fun z => k z.1)]
      cases e : val n with
      | none => rfl
      | some v => exact absurd ((N.keys n).mpr (by rw [e]; rfl)) k
theorem Nums.fill (kd : Kind) (r : R) (p : List Nat) : ∀ (ks : List Nat) {val : Nat → Option Nat} {ns : List (Nat × Nat)}, Nums val ns → Nums (fun m => if m ∈ ks then some (kd.cnt r m p) else val m) (fillN kd r p ks ns)
  | [], val, ns, N => N.ext fun n => by rw [if_neg (by simp)]
  | k :: ks, val, ns, N => by
    show Nums _ (fillN kd r p ks (tellM ns k (some (kd.cnt r k p))))
    refine (Nums.fill kd r p ks (N.tell k _)).ext fun n => ?_
    by_cases h : n ∈ ks
    · rw [if_pos h, if_pos (List.mem_cons_of_mem _ h)]
    · rw [if_neg h]
      by_cases e : n = k
      · subst e
        rw [if_pos List.mem_cons_self, if_pos rfl]
      · rw [if_neg e, if_neg]
        intro z
        exact h ((List.mem_cons.mp z).resolve_left e)
/-- a lookup is what is told -/
theorem Nums.look {val : Nat → Option Nat} : ∀ {ns : List (Nat × Nat)}, Nums val ns → ∀ n, ns.lookup n = val n := fun {ns} N n => by
  have go : ∀ {l : List (Nat × Nat)}, (l.map (·.1)).Nodup → ∀ v, l.lookup n = some v ↔ (n, v) ∈ l := by
    intro l
    induction l with
    | nil => intro _ v; simp
    | cons q l ih =>
      intro h v
      rw [List.map_cons, List.nodup_cons] at h
      rw [List.lookup_cons]
      by_cases e : n = q.1
      · subst e
        simp only [beq_self_eq_true, List.mem_cons]
        constructor
        · intro h2; cases h2; exact .inl rfl
        · rintro (h2 | h2)
          · rw [← h2]
          · exact absurd (List.mem_map.mpr ⟨_, h2, rfl⟩) h.1
      · have e2 : (n == q.1) = false := by simpa using e
        rw [e2]
        simp only [List.mem_cons]
        rw [ih h.2]
        constructor
        · exact .inr
        · rintro (h2 | h2)
          · rw [← h2] at e; exact absurd rfl e
          · exact h2
  have := go N.nodup
  cases e : val n with
  | some v => exact (this v).mpr ((N.mem n v).mpr e)
  | none =>
    cases e2 : ns.lookup n with
    | none => rfl
    | some v => rw [(N.mem n v).mp ((this v).mp e2)] at e; cases e
theorem search_ends {told : List Nat} (hr : Rising told) {good : List Nat → Bool} (h : good told = true) : ∃ n c, n ≤ told.length ∧ (∀ m < n, (level told m).find? good = none) ∧ (level told n).find? good = some c := by
  have hl := level_ends told hr good h
  have key : ∀ n, (∀ m < n, (level told m).find? good = none) ∨ ∃ m < n, (∀ j < m, (level told j).find? good = none) ∧ ∃ c, (level told m).find? good = some c := by
    intro n
    induction n with
    | zero => exact .inl fun m hm => absurd hm (Nat.not_lt_zero _)
    | succ n ih =>
      rcases ih with ih | ⟨m, hm, h1, h2⟩
      · cases e : (level told n).find? good with
        | none =>
          refine .inl fun m hm => ?_
          by_cases q : m = n
          · subst q; exact e
          · exact ih m (by omega)
        | some c => exact .inr ⟨n, by omega, ih, c, e⟩
      · exact .inr ⟨m, by omega, h1, h2⟩
  rcases key (told.length + 1) with k | ⟨m, hm, h1, c, hc⟩
  · exact absurd (k _ (Nat.lt_succ_self _)) hl
  · exact ⟨m, c, by omega, h1, hc⟩
/-! ### the field, told and true -/
theorem tellM_low {ns : List (Nat × Nat)} (n : Nat) (o : Option Nat) (h : (ns.map (·.1)).Nodup) : ∀ p ∈ tellM ns n o, p.1 ∈ ns.map (·.1) ∨ p.1 = n := fun p hp => (tellM_keys ns n o h).2 p.1 (List.mem_map.mpr ⟨p, hp, rfl⟩)
structure LF (r : R) (s : Sy64.St) : Prop where
  rows : r.rows = s.rows
  cols : r.cols = s.cols
  trees : r.bl = s.trees
  ok : F.Ok s
  nums : Nums (F.val s) r.nums
theorem LF.low {r : R} {s : Sy64.St} (L : LF r s) : ∀ p ∈ r.nums, p.1 < r.rows + r.cols := fun p hp => by
  have h := (L.nums.keys p.1).mp (List.mem_map.mpr ⟨p, hp, rfl⟩)
  refine Nat.lt_of_not_le fun c => ?_
  rw [F.val_out L.ok (by rw [← L.rows, ← L.cols]; exact c)] at h
  cases h
theorem LF.good {r : R} {s : Sy64.St} (L : LF r s) : FGood r := by
  have o := L.ok
  refine ⟨⟨by rw [L.rows]; exact o.r1, by rw [L.rows]; exact o.r5, by rw [L.cols]; exact o.c1, by rw [L.cols]; exact o.c5, by rw [L.trees]; exact o.trees, ?_, L.nums.nodup, fun p hp => ?_⟩, by rw [L.trees]; exact o.six, L.low⟩
  · rw [L.trees, L.rows, L.cols]; exact o.cells
  · have := L.low p hp
    have := o.r5
    have := o.c5
    have := L.rows
    have := L.cols
    omega
theorem beginnings_any (R C : Nat) (T : List Nat) (a b : List (Option Nat)) (c d : List Nat) : ∀ l, Sy64.beginnings ⟨R, C, T, a, b, c, d⟩ l = Sy64.beginnings ⟨R, C, T, [], [], [], []⟩ l
  | [] => rfl
  | t :: l => by
    show (Sy64.beginnings ⟨R, C, T, a, b, c, d⟩ l).flatMap _ = (Sy64.beginnings ⟨R, C, T, [], [], [], []⟩ l).flatMap _
    rw [beginnings_any R C T a b c d l]
    rfl
theorem LF.sets {r : R} {s : Sy64.St} (L : LF r s) : kF.sets r = Sy64.settings s := by
  obtain ⟨R, C, T, a, b, c, d⟩ := s
  have h1 := L.rows
  have h2 := L.cols
  have h3 := L.trees
  show Sy64.settings ⟨r.rows, r.cols, r.bl, [], [], [], []⟩ = _
  rw [h1, h2, h3]
  unfold Sy64.settings
  rw [beginnings_any R C T a b c d]
theorem LF.cnt {r : R} {s : Sy64.St} (L : LF r s) : cntF r = F.cnt s := by
  funext n p
  unfold cntF F.cnt Sy64.rowCount Sy64.colCount Sy64.rowOf Sy64.colOf
  rw [L.rows, L.cols]
theorem LF.mis {r : R} {s : Sy64.St} (L : LF r s) : misM kF r = misfits (F.cnt s) r.nums := by
  funext q
  unfold misM
  rw [show kF.cnt r = F.cnt s from L.cnt]
theorem LF.ways {r : R} {s : Sy64.St} (L : LF r s) : waysM kF r = Sy64.ways s := by
  unfold waysM
  rw [F.ways_is L.ok L.nums, L.sets, L.mis]
theorem LF.told {r : R} {s : Sy64.St} (L : LF r s) : toldM r = Sy64.told s :=
  rising_unique _ _ (toldM_rising r) (F.told_spec s).1 fun q => by rw [mem_toldM, (F.told_spec s).2, L.nums.keys]
theorem LF.few {r : R} {s : Sy64.St} (L : LF r s) : fewM kF r = Sy64.fewest s := by
  unfold fewM clashM
  rw [L.sets, L.mis, L.told]
  split
  · next h =>
    obtain ⟨n, c, hn, h1, hc⟩ := search_ends (F.told_spec s).1 (good := fun k => meetsAll k (((Sy64.settings s).map (misfits (F.cnt s) r.nums)).erase [])) (F.all_told L.nums h)
    rw [search_is hn h1 hc]
    exact (F.fewest_some L.ok L.nums h n c h1 hc).symm
  · next h => exact (F.fewest_none L.ok L.nums h).symm
/-! ### the field's calls keep it so -/
theorem LF.tell {r : R} {s s' : Sy64.St} (L : LF r s) (n : Nat) (o : Option Nat) (h1 : s'.rows = s.rows) (h2 : s'.cols = s.cols) (h3 : s'.trees = s.trees) (ok : F.Ok s') (hv : ∀ m, F.val s' m = if m = n then o else F.val s m) : LF { r with nums := tellM r.nums n o } s' :=
  ⟨by rw [h1]; exact L.rows, by rw [h2]; exact L.cols, by rw [h3]; exact L.trees, ok, (L.nums.tell n o).ext hv⟩
theorem LF.keep {r : R} {s : Sy64.St} (L : LF r s) (c : List Nat) : LF { r with nums := thinN c (r.nums.map (·.1)) r.nums } (Sy64.keep s c) :=
  ⟨L.rows, L.cols, L.trees, F.keep_ok L.ok c, (L.nums.thinAll c).ext fun m => F.keep_val L.ok c m⟩
def filledF (s : Sy64.St) (p : List Nat) : Sy64.St := { s with inRow := (List.range s.rows).map fun r => some (Sy64.rowCount s p r), inCol := (List.range s.cols).map fun c => some (Sy64.colCount s p c) }
theorem filledF_ok {s : Sy64.St} (o : F.Ok s) (p : List Nat) : F.Ok (filledF s p) :=
  ⟨o.r1, o.r5, o.c1, o.c5, by simp [filledF], by simp [filledF], o.trees, o.cells, o.six, o.tents, o.bare⟩
theorem filledF_val {s : Sy64.St} (o : F.Ok s) (p : List Nat) (m : Nat) : F.val (filledF s p) m = if m < s.rows + s.cols then some (F.cnt s m p) else none := by
  have o' := filledF_ok o p
  by_cases c : m < s.rows
  · rw [F.val_row o' (show m < (filledF s p).rows from c), if_pos (by omega)]
    simp [filledF, F.cnt, c]
  · by_cases c2 : m < s.rows + s.cols
    · rw [if_pos c2]
      have e : m = (filledF s p).rows + (m - s.rows) := by show m = s.rows + _; omega
      rw [e, F.val_col o']
      have e2 : s.rows + (m - s.rows) - s.rows = m - s.rows := by omega
      have e3 : m - s.rows < s.cols := by omega
      show List.getD ((List.range s.cols).map fun c => some (Sy64.colCount s p c)) (m - s.rows) none = some (F.cnt s (s.rows + (m - s.rows)) p)
      simp [F.cnt, show ¬ (s.rows + (m - s.rows) < s.rows) by omega, e2, e3]
    · rw [if_neg c2, F.val_out o' (show (filledF s p).rows + (filledF s p).cols ≤ m by show s.rows + s.cols ≤ m; omega)]
theorem LF.fill {r : R} {s : Sy64.St} (L : LF r s) (p : List Nat) : LF (fillR kF r p) (filledF s p) := by
  refine ⟨L.rows, L.cols, L.trees, filledF_ok L.ok p, (Nums.fill kF r p (kF.all r) L.nums).ext fun m => ?_⟩
  rw [filledF_val L.ok]
  show _ = if m ∈ List.range (r.rows + r.cols) then some (cntF r m p) else _
  have e : m ∈ List.range (r.rows + r.cols) ↔ m < s.rows + s.cols := by rw [List.mem_range, L.rows, L.cols]
  by_cases h : m < s.rows + s.cols
  · rw [if_pos h, if_pos (e.mpr h), L.cnt]
  · rw [if_neg h, if_neg (fun z => h (e.mp z))]
    exact (F.val_out L.ok (by omega)).symm
end Rd
set_option linter.all false
set_option maxRecDepth 100000
set_option maxHeartbeats 2000000
namespace Rd
/-! ### the field's calls are the document's -/
def outF (a : Sy64.Ans) : List Int := a.v :: a.l.flatMap fun w : List Int => (w.length : Int) :: w
/-- a riddle is as another one -/
structure Same (r r' : R) : Prop where
  rows : r.rows = r'.rows
  cols : r.cols = r'.cols
  bl : r.bl = r'.bl
  nums : ∀ n, r.nums.lookup n = r'.nums.lookup n
theorem val_begin (a b n : Nat) : F.val ⟨a, b, [], List.replicate a none, List.replicate b none, [], []⟩ n = none := by
  show (List.replicate a none ++ List.replicate b none).getD n none = none
  rw [List.replicate_append_replicate, List.getD_eq_getElem?_getD, List.getElem?_replicate]
  split <;> rfl
theorem LF.begin (a b : Nat) (h : 1 ≤ a ∧ a ≤ 5 ∧ 1 ≤ b ∧ b ≤ 5) : LF ⟨a, b, [], []⟩ ⟨a, b, [], List.replicate a none, List.replicate b none, [], []⟩ :=
  ⟨rfl, rfl, rfl, ⟨h.1, h.2.1, h.2.2.1, h.2.2.2, List.length_replicate, List.length_replicate, .nil, (fun x hx => nomatch hx), Nat.zero_le _, rfl, rfl⟩, ⟨.nil, fun n v => by rw [val_begin]; simp⟩⟩
theorem lf_begin {r : R} {s : Sy64.St} (L : LF r s) (a b : Nat) : LF (beginsM 5 r a b).1 (Sy64.step s (.begins a b)).1 ∧ (beginsM 5 r a b).2 = outF (Sy64.step s (.begins a b)).2 := by
  unfold beginsM Sy64.step
  by_cases h : 1 ≤ a ∧ a ≤ 5 ∧ 1 ≤ b ∧ b ≤ 5
  · rw [if_pos h]
    simp only []
    rw [if_neg (by omega)]
    exact ⟨LF.begin a b h, rfl⟩
  · rw [if_neg h]
    simp only []
    rw [if_pos (by omega)]
    exact ⟨L, rfl⟩
theorem lf_tree {r : R} {s : Sy64.St} (L : LF r s) (a : Nat) : LF (treeM r a).1 (Sy64.step s (.tree a)).1 ∧ (treeM r a).2 = outF (Sy64.step s (.tree a)).2 := by
  unfold treeM Sy64.step
  have o := L.ok
  simp only []
  rw [L.rows, L.cols, L.trees, o.tents, o.bare]
  simp only [List.contains_nil, Bool.false_eq_true, or_false]
  by_cases h1 : s.rows * s.cols ≤ a
  · rw [if_pos h1, if_pos h1]; exact ⟨L, rfl⟩
  rw [if_neg h1, if_neg h1]
  by_cases h2 : s.trees.contains a = true
  · rw [if_pos h2, if_pos h2]; exact ⟨L, rfl⟩
  rw [if_neg h2, if_neg h2]
  have h6 := o.six
  by_cases h3 : s.trees.length = 6
  · rw [if_pos h3, if_pos (by omega)]; exact ⟨L, rfl⟩
  rw [if_neg h3, if_neg (by omega)]
  have h2 : a ∉ s.trees := fun z => h2 (List.contains_iff_mem.mpr z)
  refine ⟨⟨rfl, rfl, rfl, ⟨o.r1, o.r5, o.c1, o.c5, o.lr, o.lc, ?_, ?_, ?_, rfl, rfl⟩, L.nums.ext fun n => rfl⟩, rfl⟩
  · show (s.trees ++ [a]).Nodup
    rw [List.nodup_append]
    refine ⟨o.trees, by simp, fun x hx y hy => ?_⟩
    simp at hy; subst hy
    intro e; subst e; exact h2 hx
  · intro x hx
    rcases List.mem_append.mp hx with hx | hx
    · exact o.cells x hx
    · simp at hx; subst hx; show x < s.rows * s.cols; omega
  · show (s.trees ++ [a]).length ≤ 6
    rw [List.length_append]; simp; omega
theorem lf_fell {r : R} {s : Sy64.St} (L : LF r s) (a : Nat) : LF (unblockM r a).1 (Sy64.step s (.fell a)).1 ∧ (unblockM r a).2 = outF (Sy64.step s (.fell a)).2 := by
  unfold unblockM Sy64.step
  have o := L.ok
  simp only []
  rw [L.rows, L.cols, L.trees]
  by_cases h1 : s.rows * s.cols ≤ a
  · rw [if_pos h1, if_pos h1]; exact ⟨L, rfl⟩
  rw [if_neg h1, if_neg h1]
  by_cases h2 : s.trees.contains a = false
  · rw [if_pos h2, if_pos h2]; exact ⟨L, rfl⟩
  rw [if_neg h2, if_neg h2]
  refine ⟨⟨rfl, rfl, rfl, ⟨o.r1, o.r5, o.c1, o.c5, o.lr, o.lc, o.trees.filter _, ?_, ?_, o.tents, o.bare⟩, L.nums.ext fun n => rfl⟩, rfl⟩
  · exact fun x hx => o.cells x (List.mem_filter.mp hx).1
  · exact Nat.le_trans (List.length_filter_le _ _) o.six
theorem getD_set {A : Type} (l : List A) (i j : Nat) (x d : A) (h : i < l.length) : (l.set i x).getD j d = if j = i then x else l.getD j d := by
  rw [List.getD_eq_getElem?_getD, List.getElem?_set]
  by_cases e : i = j
  · subst e; simp [h]
  · rw [if_neg e, if_neg (fun z => e z.symm), List.getD_eq_getElem?_getD]
theorem lf_row {r : R} {s : Sy64.St} (L : LF r s) (a b : Nat) : LF (lineM r 0 r.rows a b).1 (Sy64.step s (.row a b)).1 ∧ (lineM r 0 r.rows a b).2 = outF (Sy64.step s (.row a b)).2 := by
  unfold lineM Sy64.step
  have o := L.ok
  simp only []
  have hr := L.rows
  by_cases h1 : s.rows ≤ a
  · rw [if_pos (by omega), if_pos h1]; exact ⟨L, rfl⟩
  rw [if_neg (by omega), if_neg h1]
  by_cases h2 : 6 < b ∧ b ≠ 99
  · rw [if_pos h2, if_pos (show 6 < b ∧ b ≠ Sy64.NONE from h2)]; exact ⟨L, rfl⟩
  rw [if_neg h2, if_neg (show ¬ (6 < b ∧ b ≠ Sy64.NONE) from h2)]
  have ha : a < s.inRow.length := by rw [o.lr]; omega
  refine ⟨?_, rfl⟩
  rw [Nat.zero_add]
  refine L.tell a _ rfl rfl rfl ⟨o.r1, o.r5, o.c1, o.c5, by rw [List.length_set]; exact o.lr, o.lc, o.trees, o.cells, o.six, o.tents, o.bare⟩ fun m => ?_
  show ((s.inRow.set a _) ++ s.inCol).getD m none = _
  rw [← List.set_append_left _ _ ha, getD_set _ _ _ _ _ (by rw [List.length_append]; omega)]
  rfl
theorem lf_col {r : R} {s : Sy64.St} (L : LF r s) (a b : Nat) : LF (lineM r r.rows r.cols a b).1 (Sy64.step s (.col a b)).1 ∧ (lineM r r.rows r.cols a b).2 = outF (Sy64.step s (.col a b)).2 := by
  unfold lineM Sy64.step
  have o := L.ok
  simp only []
  have hr := L.cols
  by_cases h1 : s.cols ≤ a
  · rw [if_pos (by omega), if_pos h1]; exact ⟨L, rfl⟩
  rw [if_neg (by omega), if_neg h1]
  by_cases h2 : 6 < b ∧ b ≠ 99
  · rw [if_pos h2, if_pos (show 6 < b ∧ b ≠ Sy64.NONE from h2)]; exact ⟨L, rfl⟩
  rw [if_neg h2, if_neg (show ¬ (6 < b ∧ b ≠ Sy64.NONE) from h2)]
  refine ⟨?_, rfl⟩
  refine L.tell (r.rows + a) _ rfl rfl rfl ⟨o.r1, o.r5, o.c1, o.c5, o.lr, by rw [List.length_set]; exact o.lc, o.trees, o.cells, o.six, o.tents, o.bare⟩ fun m => ?_
  show (s.inRow ++ s.inCol.set a _).getD m none = _
  have e : s.inRow ++ s.inCol.set a (Sy64.optional b) = (s.inRow ++ s.inCol).set (r.rows + a) (Sy64.optional b) := by
    rw [List.set_append_right _ _ (by rw [o.lr, L.rows]; omega), o.lr, L.rows]
    congr 2
    omega
  rw [e, getD_set _ _ _ _ _ (by rw [List.length_append, o.lr, o.lc, L.rows]; omega)]
  rfl
theorem lf_many {r : R} {s : Sy64.St} (L : LF r s) : manyA kF r = outF (Sy64.step s .many).2 := by
  have o := L.ok
  have e : Sy64.open_ s = Sy64.ways s := by
    unfold Sy64.open_
    refine List.filter_eq_self.mpr fun p _ => ?_
    unfold Sy64.marked
    rw [o.tents, o.bare]; rfl
  unfold manyA Sy64.step
  rw [L.ways, L.sets, e]
  rfl
theorem lf_few {r : R} {s : Sy64.St} (L : LF r s) : fewA kF r = outF (Sy64.step s .fewest).2 := by
  unfold fewA Sy64.step
  simp only []
  rw [L.few]
  cases Sy64.fewest s with
  | none => rfl
  | some c =>
    show _ = ((c.length : Nat) : Int) :: (((Sy64.ints c).length : Nat) : Int) :: (Sy64.ints c ++ [])
    rw [List.append_nil]
    unfold Sy64.ints castL
    rw [List.length_map]
end Rd
set_option linter.all false
set_option maxRecDepth 100000
set_option maxHeartbeats 2000000
namespace Rd
theorem shown_is (o : Option Nat) : Sy64.shown o = ((o.getD 99 : Nat) : Int) := by cases o <;> rfl
theorem shownF_is {r : R} {s : Sy64.St} (L : LF r s) : shownF r = (s.inRow ++ s.inCol).map fun o => o.getD 99 := by
  have o := L.ok
  unfold shownF
  apply List.ext_getElem?
  intro i
  rw [List.getElem?_map, List.getElem?_map]
  have hl : (s.inRow ++ s.inCol).length = r.rows + r.cols := by rw [List.length_append, o.lr, o.lc, L.rows, L.cols]
  by_cases h : i < r.rows + r.cols
  · rw [List.getElem?_eq_getElem (by rw [List.length_range]; exact h), List.getElem_range, List.getElem?_eq_getElem (by rw [hl]; exact h)]
    show some ((r.nums.lookup i).getD 99) = _
    rw [L.nums.look]
    unfold F.val
    rw [List.getD_eq_getElem?_getD, List.getElem?_eq_getElem (by rw [hl]; exact h)]
    rfl
  · rw [List.getElem?_eq_none (by rw [List.length_range]; omega), List.getElem?_eq_none (by rw [hl]; omega)]
    rfl
theorem lf_state {r : R} {s : Sy64.St} (L : LF r s) : stateF r = outF (Sy64.step s .state).2 := by
  have o := L.ok
  have e : castL (shownF r) = s.inRow.map Sy64.shown ++ s.inCol.map Sy64.shown := by
    rw [shownF_is L, ← List.map_append]
    unfold castL
    rw [List.map_map]
    apply List.map_congr_left
    intro x _
    exact (shown_is x).symm
  have e1 : castL ((shownF r).take r.rows) = s.inRow.map Sy64.shown := by
    have : castL ((shownF r).take r.rows) = (castL (shownF r)).take r.rows := by unfold castL; rw [List.map_take]
    rw [this, e, List.take_left' (by rw [List.length_map, o.lr, L.rows])]
  have e2 : castL ((shownF r).drop r.rows) = s.inCol.map Sy64.shown := by
    have : castL ((shownF r).drop r.rows) = (castL (shownF r)).drop r.rows := by unfold castL; rw [List.map_drop]
    rw [this, e, List.drop_left' (by rw [List.length_map, o.lr, L.rows])]
  have ca : ∀ a b, castL (a ++ b) = castL a ++ castL b := fun a b => List.map_append
  unfold stateF Sy64.step outF
  simp only [ca, List.flatMap_cons, List.flatMap_nil, List.length_map, o.tents, o.bare, o.lr, o.lc, L.trees, e2]
  rw [show castL (List.take r.rows (shownF r)) = _ from e1]
  simp only [castL, Sy64.ints, List.map_cons, List.map_nil, List.length_nil, List.append_nil, List.append_assoc, List.cons_append, List.nil_append, L.rows, L.cols]
  rw [List.length_map]
theorem deedM_none (ws : List (Nat × Nat)) (L : Nat) (dm : R → List Nat → R × List Int) (r : R) (c : Nat) (t : List Nat) (h : ws.lookup c ≠ some t.length) : deedM ws L dm r (c :: t) = (r, [-100]) := by
  show (if ws.lookup c = some t.length then _ else _) = _
  rw [if_neg h]
/-- a call of the field -/
theorem LF.deed {r : R} {s : Sy64.St} (L : LF r s) (t : List Nat) {c : Sy64.Call} (h : Sy86.fieldCall t = some c) : LF (deedM wantsF 5 fieldDeed r t).1 (Sy64.step s c).1 ∧ (deedM wantsF 5 fieldDeed r t).2 = outF (Sy64.step s c).2 := by
  unfold Sy86.fieldCall at h
  split at h
  · cases h; exact lf_begin L _ _
  · cases h; exact lf_tree L _
  · cases h; exact lf_fell L _
  · cases h; exact lf_row L _ _
  · cases h; exact lf_col L _ _
  · cases h; exact ⟨L, lf_many L⟩
  · cases h; exact ⟨L, lf_few L⟩
  · cases h; exact ⟨L, lf_state L⟩
  · cases h
theorem fieldDeed_none (r : R) (t : List Nat) (h : Sy86.fieldCall t = none) : deedM wantsF 5 fieldDeed r t = (r, [-100]) := by
  unfold Sy86.fieldCall at h
  split at h <;> try cases h
  next h0 h1 h2 h3 h4 h6 h11 h12 =>
    cases t with
    | nil => rfl
    | cons c u =>
      apply deedM_none
      intro h
      have hk := lookup_key h
      have hc : c = 0 ∨ c = 1 ∨ c = 2 ∨ c = 3 ∨ c = 4 ∨ c = 6 ∨ c = 11 ∨ c = 12 := by simpa [wantsF] using hk
      rcases hc with rfl | rfl | rfl | rfl | rfl | rfl | rfl | rfl
      · obtain ⟨a, b, rfl⟩ := len2 h; exact h0 a b rfl
      · obtain ⟨a, rfl⟩ := len1 h; exact h1 a rfl
      · obtain ⟨a, rfl⟩ := len1 h; exact h2 a rfl
      · obtain ⟨a, b, rfl⟩ := len2 h; exact h3 a b rfl
      · obtain ⟨a, b, rfl⟩ := len2 h; exact h4 a b rfl
      · have := len0 h; subst this; exact h6 rfl
      · have := len0 h; subst this; exact h11 rfl
      · have := len0 h; subst this; exact h12 rfl
/-- the riddle is the same just when the document's is -/
theorem LF.same {r r' : R} {s s' : Sy64.St} (L : LF r s) (L' : LF r' s') : Same r' r ↔ s' = s := by
  have o := L.ok
  have o' := L'.ok
  constructor
  · intro S
    have h1 : s'.rows = s.rows := by rw [← L.rows, ← L'.rows, S.rows]
    have h2 : s'.cols = s.cols := by rw [← L.cols, ← L'.cols, S.cols]
    have h3 : s'.trees = s.trees := by rw [← L.trees, ← L'.trees, S.bl]
    have hv : ∀ n, F.val s' n = F.val s n := fun n => by rw [← L.nums.look, ← L'.nums.look, S.nums]
    have e1 : s'.inRow = s.inRow := by
      apply List.ext_getElem (by rw [o.lr, o'.lr, h1])
      intro i q q'
      have hi : i < s.rows := by rw [← o.lr]; exact q'
      have := hv i
      rw [F.val_row o hi, F.val_row o' (by rw [h1]; exact hi)] at this
      simpa [List.getD_eq_getElem?_getD, q, q'] using this
    have e2 : s'.inCol = s.inCol := by
      apply List.ext_getElem (by rw [o.lc, o'.lc, h2])
      intro i q q'
      have := hv (s.rows + i)
      rw [F.val_col o, ← h1, F.val_col o'] at this
      simpa [List.getD_eq_getElem?_getD, q, q'] using this
    obtain ⟨a1, a2, a3, a4, a5, a6, a7⟩ := s
    obtain ⟨b1, b2, b3, b4, b5, b6, b7⟩ := s'
    have t1 := o.tents; have t2 := o'.tents; have u1 := o.bare; have u2 := o'.bare
    simp only at h1 h2 h3 e1 e2 t1 t2 u1 u2
    subst h1 h2 h3 e1 e2 t1 t2 u1 u2
    rfl
  · rintro rfl
    exact ⟨by rw [L.rows, L'.rows], by rw [L.cols, L'.cols], by rw [L.trees, L'.trees], fun n => by rw [L.nums.look, L'.nums.look]⟩
end Rd
set_option linter.all false
set_option maxRecDepth 100000
set_option maxHeartbeats 2000000
namespace Rd
/-! ### the hall, told and true -/
structure LH (r : R) (s : Sy85.St) : Prop where
  rows : r.rows = s.rows
  cols : r.cols = s.cols
  bl : ∀ x, x ∈ r.bl ↔ x ∈ s.pillars.map (·.1)
  nd : r.bl.Nodup
  ok : H.Ok s
  nums : Nums (H.val s) r.nums
theorem LH.keys {r : R} {s : Sy85.St} (L : LH r s) : ∀ p ∈ r.nums, p.1 ∈ r.bl := fun p hp => by
  have h := (L.nums.keys p.1).mp (List.mem_map.mpr ⟨p, hp, rfl⟩)
  obtain ⟨v, hv⟩ := Option.isSome_iff_exists.mp h
  have := (H.val_some (rising_nodup L.ok.rising) p.1 v).mp hv
  exact (L.bl p.1).mpr (List.mem_map.mpr ⟨_, this, rfl⟩)
theorem LH.cell {r : R} {s : Sy85.St} (L : LH r s) : ∀ x ∈ r.bl, x < r.rows * r.cols := fun x hx => by
  rw [L.rows, L.cols]
  exact L.ok.cells x ((L.bl x).mp hx)
theorem LH.good {r : R} {s : Sy85.St} (L : LH r s) : HGood r := by
  have g := L.ok.good
  have h1 : 1 ≤ r.rows := by rw [L.rows]; exact g.r1
  have h2 : r.rows ≤ 4 := by rw [L.rows]; exact g.r4
  have h3 : 1 ≤ r.cols := by rw [L.cols]; exact g.c1
  have h4 : r.cols ≤ 4 := by rw [L.cols]; exact g.c4
  have hm : r.rows * r.cols ≤ 16 := Nat.mul_le_mul h2 h4
  refine ⟨⟨h1, by omega, h3, by omega, L.nd, L.cell, L.nums.nodup, fun p hp => ?_⟩, h2, h4, L.keys⟩
  have := L.cell _ (L.keys p hp)
  omega
theorem LH.pillar {r : R} {s : Sy85.St} (L : LH r s) (x : Nat) : Sy85.isPillar s x = r.bl.contains x := by
  rw [Bool.eq_iff_iff, List.contains_iff_mem, L.bl]
  unfold Sy85.isPillar
  rw [List.any_eq_true, List.mem_map]
  constructor
  · rintro ⟨p, hp, e⟩; exact ⟨p, hp, by simpa using e⟩
  · rintro ⟨p, hp, e⟩; exact ⟨p, hp, by simpa using e⟩
/-- what a hall's settings come from -/
structure Alike (s t : Sy85.St) : Prop where
  rows : s.rows = t.rows
  cols : s.cols = t.cols
  pillar : ∀ x, Sy85.isPillar s x = Sy85.isPillar t x
theorem Alike.size {s t : Sy85.St} (A : Alike s t) : Sy85.size s = Sy85.size t := by unfold Sy85.size; rw [A.rows, A.cols]
theorem Alike.next {s t : Sy85.St} (A : Alike s t) : Sy85.next s = Sy85.next t := by
  funext x w
  unfold Sy85.next
  rw [A.size, A.cols]
theorem Alike.free {s t : Sy85.St} (A : Alike s t) : Sy85.free s = Sy85.free t := by
  unfold Sy85.free
  rw [A.size]
  congr 1
  funext x
  rw [A.pillar]
theorem Alike.ray {s t : Sy85.St} (A : Alike s t) (w : Nat) : ∀ f x, Sy85.ray s w f x = Sy85.ray t w f x
  | 0, _ => rfl
  | f + 1, x => by
    unfold Sy85.ray
    rw [A.next]
    cases Sy85.next t x w with
    | none => rfl
    | some y =>
      simp only []
      rw [A.pillar, A.ray w f y]
theorem Alike.lights {s t : Sy85.St} (A : Alike s t) : Sy85.lights s = Sy85.lights t := by
  funext x
  unfold Sy85.lights
  congr 2
  funext w
  exact A.ray w 6 x
theorem Alike.sets {s t : Sy85.St} (A : Alike s t) (g : H.Good s) : Sy85.settings s = Sy85.settings t := by
  have g' : H.Good t := ⟨by rw [← A.rows]; exact g.r1, by rw [← A.rows]; exact g.r4, by rw [← A.cols]; exact g.c1, by rw [← A.cols]; exact g.c4⟩
  obtain ⟨h1, h2⟩ := H.settings_spec g
  obtain ⟨k1, k2⟩ := H.settings_spec g'
  refine inOrder_unique _ _ h1 k1 fun q => ?_
  rw [h2, k2]
  constructor
  · intro W
    exact ⟨W.rising, by rw [← A.free]; exact W.free, by rw [← A.lights]; exact W.apart, by rw [← A.free, ← A.lights]; exact W.lit⟩
  · intro W
    exact ⟨W.rising, by rw [A.free]; exact W.free, by rw [A.lights]; exact W.apart, by rw [A.free, A.lights]; exact W.lit⟩
theorem LH.alike {r : R} {s : Sy85.St} (L : LH r s) : Alike (sH r) s := ⟨L.rows, L.cols, fun x => by rw [sH_pillar, L.pillar]⟩
theorem LH.sets {r : R} {s : Sy85.St} (L : LH r s) : kH.sets r = Sy85.settings s := L.alike.sets (sH_good L.good)
theorem LH.wanting {r : R} {s : Sy85.St} (L : LH r s) : wanting r = Sy85.free s := by rw [← sH_free, L.alike.free]
theorem near_tabH : ∀ r : Fin 5, ∀ c : Fin 5, ∀ y : Fin 16, y.val < r.val * c.val → (near r.val c.val y.val).isPerm (Sy85.beside ⟨r.val, c.val, [], [], []⟩ y.val) = true := by decide +kernel
theorem LH.cnt {r : R} {s : Sy85.St} (L : LH r s) {n : Nat} (hn : n ∈ r.bl) (q : List Nat) : cntH r n q = H.cnt s n q := by
  have g := L.good
  have hc := L.cell n hn
  have hm : r.rows * r.cols ≤ 16 := Nat.mul_le_mul g.r4 g.c4
  have h := near_tabH ⟨r.rows, by have := g.r4; omega⟩ ⟨r.cols, by have := g.c4; omega⟩ ⟨n, by omega⟩ hc
  simp only [List.isPerm_iff] at h
  unfold cntH H.cnt
  rw [(h.filter _).length_eq]
  have e : Sy85.beside ⟨r.rows, r.cols, [], [], []⟩ n = Sy85.beside s n := by
    unfold Sy85.beside
    rw [show Sy85.next ⟨r.rows, r.cols, [], [], []⟩ n = Sy85.next s n by
      funext w
      unfold Sy85.next Sy85.size
      simp only []
      rw [L.rows, L.cols]]
  rw [e]
theorem LH.mis {r : R} {s : Sy85.St} (L : LH r s) : misM kH r = misfits (H.cnt s) r.nums := by
  funext q
  unfold misM misfits
  congr 1
  apply List.filter_congr
  intro p hp
  rw [show kH.cnt r p.1 q = H.cnt s p.1 q from L.cnt (L.keys p hp) q]
theorem LH.ways {r : R} {s : Sy85.St} (L : LH r s) : waysM kH r = Sy85.ways s := by
  unfold waysM
  rw [H.ways_is L.ok L.nums, L.sets, L.mis]
theorem LH.told {r : R} {s : Sy85.St} (L : LH r s) : toldM r = Sy85.told s :=
  rising_unique _ _ (toldM_rising r) (H.told_spec L.ok).1 fun q => by rw [mem_toldM, (H.told_spec L.ok).2, L.nums.keys]
theorem LH.few {r : R} {s : Sy85.St} (L : LH r s) : fewM kH r = Sy85.fewest s := by
  unfold fewM clashM
  rw [L.sets, L.mis, L.told]
  split
  · next h =>
    obtain ⟨n, c, hn, h1, hc⟩ := search_ends (H.told_spec L.ok).1 (good := fun k => meetsAll k (((Sy85.settings s).map (misfits (H.cnt s) r.nums)).erase [])) (H.all_told L.ok L.nums h)
    rw [search_is hn h1 hc]
    exact (H.fewest_some L.ok L.nums h n c h1 hc).symm
  · next h => exact (H.fewest_none L.ok L.nums h).symm
theorem LH.keep {r : R} {s : Sy85.St} (L : LH r s) (c : List Nat) : LH { r with nums := thinN c (r.nums.map (·.1)) r.nums } (Sy85.keep s c) :=
  ⟨L.rows, L.cols, fun x => by rw [H.keep_keys]; exact L.bl x, L.nd, H.keep_ok L.ok c, (L.nums.thinAll c).ext fun m => by
    cases e : H.val (Sy85.keep s c) m with
    | some v =>
      obtain ⟨h1, h2⟩ := (H.keep_val L.ok c m v).mp e
      rw [if_pos h1, h2]
    | none =>
      split
      · next h =>
        cases e2 : H.val s m with
        | none => rfl
        | some v => rw [(H.keep_val L.ok c m v).mpr ⟨h, e2⟩] at e; cases e
      · rfl⟩
def filledH (s : Sy85.St) (p : List Nat) : Sy85.St := { s with pillars := s.pillars.map fun q => (q.1, some ((Sy85.beside s q.1).filter fun x => p.contains x).length) }
theorem filledH_keys (s : Sy85.St) (p : List Nat) : (filledH s p).pillars.map (·.1) = s.pillars.map (·.1) := by
  unfold filledH
  rw [List.map_map]
  rfl
theorem filledH_ok {s : Sy85.St} (o : H.Ok s) (p : List Nat) : H.Ok (filledH s p) :=
  ⟨⟨o.good.r1, o.good.r4, o.good.c1, o.good.c4⟩, by rw [filledH_keys]; exact o.rising, by rw [filledH_keys]; exact o.cells, o.lamps, o.bare⟩
theorem LH.fill {r : R} {s : Sy85.St} (L : LH r s) (p : List Nat) : LH (fillR kH r p) (filledH s p) := by
  have nd := rising_nodup L.ok.rising
  refine ⟨L.rows, L.cols, fun x => by rw [filledH_keys]; exact L.bl x, L.nd, filledH_ok L.ok p, (Nums.fill kH r p (kH.all r) L.nums).ext fun m => ?_⟩
  by_cases h : m ∈ kH.all r
  · rw [if_pos h]
    have hb : m ∈ r.bl := (mem_sortBl r m).mp h
    obtain ⟨q, hq, e⟩ := List.mem_map.mp ((L.bl m).mp hb)
    rw [show kH.cnt r m p = H.cnt s m p from L.cnt hb p]
    refine (H.val_some (by rw [filledH_keys]; exact nd) m _).mpr ?_
    unfold filledH
    refine List.mem_map.mpr ⟨q, hq, ?_⟩
    have e : q.1 = m := e
    rw [e]
    rfl
  · rw [if_neg h]
    have hb : m ∉ r.bl := fun z => h ((mem_sortBl r m).mpr z)
    have h1 : H.val s m = none := by
      cases e : H.val s m with
      | none => rfl
      | some v => exact absurd ((L.bl m).mpr (List.mem_map.mpr ⟨_, (H.val_some nd m v).mp e, rfl⟩)) hb
    rw [h1]
    cases e : H.val (filledH s p) m with
    | none => rfl
    | some v =>
      have := (H.val_some (by rw [filledH_keys]; exact nd) m v).mp e
      have : m ∈ (filledH s p).pillars.map (·.1) := List.mem_map.mpr ⟨_, this, rfl⟩
      rw [filledH_keys] at this
      exact absurd ((L.bl m).mpr this) hb
end Rd
set_option linter.all false
set_option maxRecDepth 100000
set_option maxHeartbeats 2000000
namespace Rd
/-! ### the hall's calls are the document's -/
def outH (a : Sy85.Ans) : List Int := a.v :: a.l.flatMap fun w : List Int => (w.length : Int) :: w
theorem mem_putP (p : Nat × Option Nat) : ∀ {l : List (Nat × Option Nat)}, Rising (l.map (·.1)) → ∀ x o, (x, o) ∈ Sy85.putPillar p l ↔ if x = p.1 then o = p.2 else (x, o) ∈ l
  | [], _, x, o => by
    show (x, o) ∈ [p] ↔ _
    rw [List.mem_singleton]
    split
    · next e => subst e; constructor
                · intro h; rw [← h]
                · intro h; rw [h]
    · next e => constructor
                · intro h; rw [← h] at e; exact absurd rfl e
                · intro h; cases h
  | q :: l, hr, x, o => by
    have hc := List.pairwise_cons.mp (show Rising (q.1 :: l.map (·.1)) from hr)
    have hq : ∀ y o, (y, o) ∈ l → q.1 < y := fun y o h => hc.1 y (List.mem_map.mpr ⟨_, h, rfl⟩)
    unfold Sy85.putPillar
    split
    · next h =>
      rw [List.mem_cons]
      split
      · next e =>
        subst e
        constructor
        · rintro (g | g)
          · rw [← g]
          · rcases List.mem_cons.mp g with g | g
            · rw [← g] at h; exact absurd h (Nat.lt_irrefl _)
            · have := hq _ _ g; omega
        · intro g; rw [g]; exact .inl rfl
      · next e =>
        constructor
        · rintro (g | g)
          · rw [← g] at e; exact absurd rfl e
          · exact g
        · exact .inr
    · next h =>
      split
      · next h2 =>
        rw [List.mem_cons]
        split
        · next e =>
          subst e
          constructor
          · rintro (g | g)
            · rw [← g]
            · have := hq _ _ g; omega
          · intro g; rw [g]; exact .inl rfl
        · next e =>
          rw [List.mem_cons]
          constructor
          · rintro (g | g)
            · rw [← g] at e; exact absurd rfl e
            · exact .inr g
          · rintro (g | g)
            · rw [← g] at h2; exact absurd h2.symm e
            · exact .inr g
      · next h2 =>
        rw [List.mem_cons, mem_putP p hc.2]
        split
        · next e =>
          subst e
          constructor
          · rintro (g | g)
            · rw [← g] at h2; exact absurd rfl h2
            · exact g
          · exact .inr
        · next e => rw [List.mem_cons]
theorem putP_rising (p : Nat × Option Nat) : ∀ {l : List (Nat × Option Nat)}, Rising (l.map (·.1)) → Rising ((Sy85.putPillar p l).map (·.1))
  | [], _ => List.pairwise_singleton ..
  | q :: l, hr => by
    have hc := List.pairwise_cons.mp (show Rising (q.1 :: l.map (·.1)) from hr)
    unfold Sy85.putPillar
    split
    · next h =>
      refine List.pairwise_cons.mpr ⟨fun y hy => ?_, hr⟩
      rcases List.mem_cons.mp (show y ∈ q.1 :: l.map (·.1) from hy) with e | e
      · rw [e]; exact h
      · exact Nat.lt_trans h (hc.1 y e)
    · next h =>
      split
      · next h2 =>
        refine List.pairwise_cons.mpr ⟨fun y hy => ?_, hc.2⟩
        show p.1 < y
        rw [h2]; exact hc.1 y hy
      · next h2 =>
        refine List.pairwise_cons.mpr ⟨fun y hy => ?_, putP_rising p hc.2⟩
        obtain ⟨⟨a, o⟩, ha, rfl⟩ := List.mem_map.mp hy
        have := (mem_putP p hc.2 a o).mp ha
        split at this
        · next e => show q.1 < a; omega
        · exact hc.1 a (List.mem_map.mpr ⟨_, this, rfl⟩)
theorem mem_putP_keys (p : Nat × Option Nat) {l : List (Nat × Option Nat)} (hr : Rising (l.map (·.1))) (x : Nat) : x ∈ (Sy85.putPillar p l).map (·.1) ↔ x = p.1 ∨ x ∈ l.map (·.1) := by
  constructor
  · intro h
    obtain ⟨⟨a, o⟩, ha, rfl⟩ := List.mem_map.mp h
    have := (mem_putP p hr a o).mp ha
    split at this
    · next e => exact .inl e
    · exact .inr (List.mem_map.mpr ⟨_, this, rfl⟩)
  · intro h
    by_cases e : x = p.1
    · exact List.mem_map.mpr ⟨(x, p.2), (mem_putP p hr x p.2).mpr (by rw [if_pos e]), rfl⟩
    · obtain ⟨⟨a, o⟩, ha, rfl⟩ := List.mem_map.mp (h.resolve_left e)
      exact List.mem_map.mpr ⟨(a, o), (mem_putP p hr a o).mpr (by rw [if_neg e]; exact ha), rfl⟩
theorem LH.len {r : R} {s : Sy85.St} (L : LH r s) : r.bl.length = s.pillars.length := by
  have : r.bl.Perm (s.pillars.map (·.1)) := (List.perm_ext_iff_of_nodup L.nd (rising_nodup L.ok.rising)).mpr L.bl
  rw [this.length_eq, List.length_map]
theorem val_of_mem {s : Sy85.St} (h : (s.pillars.map (·.1)).Nodup) {x : Nat} {o : Option Nat} (hm : (x, o) ∈ s.pillars) : H.val s x = o := by
  unfold H.val
  rw [(H.lookup_mem h x o).mpr hm]
  rfl
theorem val_no {s : Sy85.St} {x : Nat} (h : x ∉ s.pillars.map (·.1)) : H.val s x = none := by
  unfold H.val
  cases e : s.pillars.lookup x with
  | none => rfl
  | some o =>
    have : ∀ {l : List (Nat × Option Nat)}, l.lookup x = some o → x ∈ l.map (·.1) := by
      intro l
      induction l with
      | nil => intro h; cases h
      | cons q l ih =>
        intro h
        rw [List.lookup_cons] at h
        cases e : x == q.1 with
        | true => have := beq_iff_eq.mp e; rw [this]; exact List.mem_cons_self
        | false => rw [e] at h; exact List.mem_cons_of_mem _ (ih h)
    exact absurd (this e) h
theorem LH.begin (a b : Nat) (h : 1 ≤ a ∧ a ≤ 4 ∧ 1 ≤ b ∧ b ≤ 4) : LH ⟨a, b, [], []⟩ ⟨a, b, [], [], []⟩ :=
  ⟨rfl, rfl, fun x => Iff.rfl, .nil, ⟨⟨h.1, h.2.1, h.2.2.1, h.2.2.2⟩, .nil, (fun x hx => nomatch hx), rfl, rfl⟩, ⟨.nil, fun n v => by simp [H.val]⟩⟩
theorem lh_begin {r : R} {s : Sy85.St} (L : LH r s) (a b : Nat) : LH (beginsM 4 r a b).1 (Sy85.step s (.begins a b)).1 ∧ (beginsM 4 r a b).2 = outH (Sy85.step s (.begins a b)).2 := by
  unfold beginsM Sy85.step
  by_cases h : 1 ≤ a ∧ a ≤ 4 ∧ 1 ≤ b ∧ b ≤ 4
  · rw [if_pos h]
    simp only []
    rw [if_neg (by omega)]
    exact ⟨LH.begin a b h, rfl⟩
  · rw [if_neg h]
    simp only []
    rw [if_pos (by omega)]
    exact ⟨L, rfl⟩
theorem mem_blP (r : R) (n x : Nat) : x ∈ blP r n ↔ x = n ∨ x ∈ r.bl := by
  unfold blP
  split
  · next h =>
    constructor
    · exact .inr
    · rintro (e | e)
      · rw [e]; exact List.contains_iff_mem.mp h
      · exact e
  · rw [List.mem_append, List.mem_singleton]
    exact Or.comm
theorem lh_pillar {r : R} {s : Sy85.St} (L : LH r s) (a b : Nat) : LH (pillarM r a b).1 (Sy85.step s (.pillar a b)).1 ∧ (pillarM r a b).2 = outH (Sy85.step s (.pillar a b)).2 := by
  have o := L.ok
  have hs : r.rows * r.cols = Sy85.size s := by unfold Sy85.size; rw [L.rows, L.cols]
  unfold pillarM Sy85.step
  simp only []
  rw [hs]
  by_cases h1 : Sy85.size s ≤ a
  · rw [if_pos h1, if_pos h1]; exact ⟨L, rfl⟩
  rw [if_neg h1, if_neg h1]
  by_cases h2 : 4 < b ∧ b ≠ 9
  · rw [if_pos h2, if_pos (show 4 < b ∧ b ≠ Sy85.NONE from h2)]; exact ⟨L, rfl⟩
  rw [if_neg h2, if_neg (show ¬ (4 < b ∧ b ≠ Sy85.NONE) from h2), if_neg (show ¬ (s.lamps.contains a = true ∨ s.bare.contains a = true) by rw [o.lamps, o.bare]; simp)]
  generalize hv : (if b = 9 then none else some b : Option Nat) = v
  have hv' : (if b = Sy85.NONE then none else some b : Option Nat) = v := hv
  rw [hv']
  have nd := rising_nodup o.rising
  have L' : LH { r with bl := blP r a, nums := tellM r.nums a v } { s with pillars := Sy85.putPillar (a, v) s.pillars } := by
    have pr := putP_rising (a, v) o.rising
    have pn := rising_nodup pr
    refine ⟨L.rows, L.cols, fun x => ?_, ?_, ⟨⟨o.good.r1, o.good.r4, o.good.c1, o.good.c4⟩, pr, fun x hx => ?_, o.lamps, o.bare⟩, (L.nums.tell a v).ext fun m => ?_⟩
    · show x ∈ blP r a ↔ _
      rw [mem_blP, mem_putP_keys (a, v) o.rising, L.bl]
    · show (blP r a).Nodup
      unfold blP
      split
      · exact L.nd
      · next h =>
        rw [List.nodup_append]
        refine ⟨L.nd, by simp, fun x hx y hy => ?_⟩
        simp at hy; subst hy
        intro e; subst e
        exact h (List.contains_iff_mem.mpr hx)
    · rcases (mem_putP_keys (a, v) o.rising x).mp hx with e | e
      · show x < s.rows * s.cols
        have h1 : ¬ (s.rows * s.cols ≤ a) := h1
        have e : x = a := e
        omega
      · exact o.cells x e
    · by_cases e : m = a
      · subst e
        rw [if_pos rfl]
        exact val_of_mem pn ((mem_putP (m, v) o.rising m v).mpr (by rw [if_pos rfl]))
      · rw [if_neg e]
        by_cases k : m ∈ s.pillars.map (·.1)
        · obtain ⟨⟨c, q⟩, hq, rfl⟩ := List.mem_map.mp k
          rw [val_of_mem nd hq]
          exact val_of_mem pn ((mem_putP (a, v) o.rising c q).mpr (by rw [if_neg e]; exact hq))
        · rw [val_no k]
          refine val_no fun z => ?_
          rcases (mem_putP_keys (a, v) o.rising m).mp z with z | z
          · exact e z
          · exact k z
  refine ⟨L', ?_⟩
  show [(((blP r a).length : Nat) : Int)] = [((Sy85.putPillar (a, v) s.pillars).length : Int)]
  rw [show (blP r a).length = _ from L'.len]
theorem lh_gone {r : R} {s : Sy85.St} (L : LH r s) (a : Nat) : LH (goneM r a).1 (Sy85.step s (.gone a)).1 ∧ (goneM r a).2 = outH (Sy85.step s (.gone a)).2 := by
  have o := L.ok
  have hs : r.rows * r.cols = Sy85.size s := by unfold Sy85.size; rw [L.rows, L.cols]
  unfold goneM Sy85.step
  simp only []
  rw [hs, L.pillar]
  by_cases h1 : Sy85.size s ≤ a
  · rw [if_pos h1, if_pos h1]; exact ⟨L, rfl⟩
  rw [if_neg h1, if_neg h1]
  by_cases h2 : r.bl.contains a = false
  · rw [if_pos h2, if_pos h2]; exact ⟨L, rfl⟩
  rw [if_neg h2, if_neg h2]
  have nd := rising_nodup o.rising
  have hsub : ((s.pillars.filter fun q => q.1 != a).map (·.1)).Sublist (s.pillars.map (·.1)) := List.filter_sublist.map _
  have hk : ∀ x, x ∈ (s.pillars.filter fun q => q.1 != a).map (·.1) ↔ x ∈ s.pillars.map (·.1) ∧ x ≠ a := by
    intro x
    simp only [List.mem_map, List.mem_filter, bne_iff_ne]
    constructor
    · rintro ⟨q, ⟨hq, hn⟩, rfl⟩; exact ⟨⟨q, hq, rfl⟩, hn⟩
    · rintro ⟨⟨q, hq, rfl⟩, hn⟩; exact ⟨q, ⟨hq, hn⟩, rfl⟩
  have L' : LH { r with bl := r.bl.filter (fun y => y != a), nums := tellM r.nums a none } { s with pillars := s.pillars.filter fun q => q.1 != a } := by
    have pr : Rising ((s.pillars.filter fun q => q.1 != a).map (·.1)) := List.Pairwise.sublist hsub o.rising
    have pn := rising_nodup pr
    refine ⟨L.rows, L.cols, fun x => ?_, L.nd.filter _, ⟨⟨o.good.r1, o.good.r4, o.good.c1, o.good.c4⟩, pr, fun x hx => o.cells x (hsub.subset hx), o.lamps, o.bare⟩, (L.nums.tell a none).ext fun m => ?_⟩
    · show x ∈ r.bl.filter (fun y => y != a) ↔ _
      rw [hk, List.mem_filter, L.bl, bne_iff_ne]
    · by_cases e : m = a
      · subst e
        rw [if_pos rfl]
        exact val_no fun z => ((hk m).mp z).2 rfl
      · rw [if_neg e]
        by_cases k : m ∈ s.pillars.map (·.1)
        · obtain ⟨⟨c, q⟩, hq, rfl⟩ := List.mem_map.mp k
          rw [val_of_mem nd hq]
          exact val_of_mem pn (List.mem_filter.mpr ⟨hq, by simpa using e⟩)
        · rw [val_no k]
          exact val_no fun z => k ((hk m).mp z).1
  refine ⟨L', ?_⟩
  show [((r.bl.length - 1 : Nat) : Int)] = [((s.pillars.filter fun q => q.1 != a).length : Int)]
  rw [← show (r.bl.filter (fun y => y != a)).length = _ from L'.len]
  have h2 : a ∈ r.bl := List.contains_iff_mem.mp (by simpa using h2)
  have : (r.bl.filter fun y => y != a).length = r.bl.length - 1 := by
    rw [← L.nd.erase_eq_filter a, List.length_erase_of_mem h2]
  rw [this]
theorem lh_many {r : R} {s : Sy85.St} (L : LH r s) : manyA kH r = outH (Sy85.step s .many).2 := by
  have o := L.ok
  have e : ((Sy85.settings s).filter (Sy85.counted s)).filter (Sy85.marked s) = Sy85.ways s := by
    refine List.filter_eq_self.mpr fun p _ => ?_
    unfold Sy85.marked
    rw [o.lamps, o.bare]; rfl
  unfold manyA Sy85.step
  simp only []
  rw [L.ways, L.sets, e]
  rfl
theorem lh_few {r : R} {s : Sy85.St} (L : LH r s) : fewA kH r = outH (Sy85.step s .fewest).2 := by
  unfold fewA Sy85.step
  simp only []
  rw [L.few]
  cases Sy85.fewest s with
  | none => rfl
  | some c =>
    show _ = ((c.length : Nat) : Int) :: (((Sy85.ints c).length : Nat) : Int) :: (Sy85.ints c ++ [])
    rw [List.append_nil]
    unfold Sy85.ints castL
    rw [List.length_map]
theorem LH.sort {r : R} {s : Sy85.St} (L : LH r s) : sortBl r = s.pillars.map (·.1) :=
  rising_unique _ _ (sortBl_rising r) L.ok.rising fun q => by rw [mem_sortBl, L.bl]
theorem LH.shown {r : R} {s : Sy85.St} (L : LH r s) : shownH r (sortBl r) = s.pillars.flatMap fun p => [p.1, p.2.getD 9] := by
  have nd := rising_nodup L.ok.rising
  rw [L.sort]
  unfold shownH
  rw [List.flatMap_map]
  have : ∀ l : List (Nat × Option Nat), (∀ p ∈ l, p ∈ s.pillars) → (l.flatMap fun p => [p.1, (r.nums.lookup p.1).getD 9]) = l.flatMap fun p => [p.1, p.2.getD 9] := by
    intro l
    induction l with
    | nil => intro _; rfl
    | cons q l ih =>
      intro h
      rw [List.flatMap_cons, List.flatMap_cons, ih fun p hp => h p (List.mem_cons_of_mem _ hp), L.nums.look, val_of_mem nd (x := q.1) (o := q.2) (h q List.mem_cons_self)]
  exact this _ fun p hp => hp
theorem lh_state {r : R} {s : Sy85.St} (L : LH r s) : stateH r = outH (Sy85.step s .state).2 := by
  have o := L.ok
  unfold stateH Sy85.step outH
  rw [L.shown]
  show _ = ((s.pillars.length : Nat) : Int) :: ([Sy85.ints [s.rows, s.cols], Sy85.ints (s.pillars.flatMap fun p => [p.1, p.2.getD 9]), Sy85.ints s.lamps, Sy85.ints s.bare].flatMap fun w : List Int => (w.length : Int) :: w)
  rw [o.lamps, o.bare, ← L.len, ← L.rows, ← L.cols]
  generalize s.pillars.flatMap (fun p => [p.1, p.2.getD 9]) = xs
  simp only [castL, Sy85.ints, List.flatMap_cons, List.flatMap_nil, List.map_append, List.map_cons, List.map_nil, List.length_map, List.length_cons, List.length_nil, List.append_nil, List.append_assoc, List.cons_append, List.nil_append]
theorem LH.deed {r : R} {s : Sy85.St} (L : LH r s) (t : List Nat) {c : Sy85.Call} (h : Sy86.hallCall t = some c) : LH (deedM wantsH 4 hallDeed r t).1 (Sy85.step s c).1 ∧ (deedM wantsH 4 hallDeed r t).2 = outH (Sy85.step s c).2 := by
  unfold Sy86.hallCall at h
  split at h
  · cases h; exact lh_begin L _ _
  · cases h; exact lh_pillar L _ _
  · cases h; exact lh_gone L _
  · cases h; exact ⟨L, lh_many L⟩
  · cases h; exact ⟨L, lh_few L⟩
  · cases h; exact ⟨L, lh_state L⟩
  · cases h
theorem hallDeed_none (r : R) (t : List Nat) (h : Sy86.hallCall t = none) : deedM wantsH 4 hallDeed r t = (r, [-100]) := by
  unfold Sy86.hallCall at h
  split at h <;> try cases h
  next h0 h1 h2 h4 h8 h11 =>
    cases t with
    | nil => rfl
    | cons c u =>
      apply deedM_none
      intro h
      have hk := lookup_key h
      have hc : c = 0 ∨ c = 1 ∨ c = 2 ∨ c = 4 ∨ c = 8 ∨ c = 11 := by simpa [wantsH] using hk
      rcases hc with rfl | rfl | rfl | rfl | rfl | rfl
      · obtain ⟨a, b, rfl⟩ := len2 h; exact h0 a b rfl
      · obtain ⟨a, b, rfl⟩ := len2 h; exact h1 a b rfl
      · obtain ⟨a, rfl⟩ := len1 h; exact h2 a rfl
      · have := len0 h; subst this; exact h4 rfl
      · have := len0 h; subst this; exact h8 rfl
      · have := len0 h; subst this; exact h11 rfl
/-- the riddle is the same just when the document's is -/
theorem LH.same {r r' : R} {s s' : Sy85.St} (L : LH r s) (L' : LH r' s') (hb : (∀ x, x ∈ r'.bl ↔ x ∈ r.bl) → r'.bl = r.bl) : Same r' r ↔ s' = s := by
  have o := L.ok
  have o' := L'.ok
  constructor
  · intro S
    have h1 : s'.rows = s.rows := by rw [← L.rows, ← L'.rows, S.rows]
    have h2 : s'.cols = s.cols := by rw [← L.cols, ← L'.cols, S.cols]
    have hk : s'.pillars.map (·.1) = s.pillars.map (·.1) := rising_unique _ _ o'.rising o.rising fun q => by rw [← L.bl, ← L'.bl, S.bl]
    have hv : ∀ n, H.val s' n = H.val s n := fun n => by rw [← L.nums.look, ← L'.nums.look, S.nums]
    have nd := rising_nodup o.rising
    have nd' := rising_nodup o'.rising
    have hl : s'.pillars.length = s.pillars.length := by have := congrArg List.length hk; simpa using this
    have e1 : s'.pillars = s.pillars := by
      apply List.ext_getElem hl
      intro i q q'
      have hx : (s'.pillars[i]).1 = (s.pillars[i]).1 := by
        have h3 : (s'.pillars.map (·.1))[i]? = (s.pillars.map (·.1))[i]? := by rw [hk]
        simpa [q, q'] using h3
      have y := val_of_mem nd (x := (s.pillars[i]).1) (o := (s.pillars[i]).2) (List.getElem_mem q')
      have y' := val_of_mem nd' (x := (s'.pillars[i]).1) (o := (s'.pillars[i]).2) (List.getElem_mem q)
      rw [hx, hv, y] at y'
      exact Prod.ext hx y'.symm
    obtain ⟨a1, a2, a3, a4, a5⟩ := s
    obtain ⟨b1, b2, b3, b4, b5⟩ := s'
    have t1 := o.lamps; have t2 := o'.lamps; have u1 := o.bare; have u2 := o'.bare
    simp only at h1 h2 e1 t1 t2 u1 u2
    subst h1 h2 e1 t1 t2 u1 u2
    rfl
  · rintro rfl
    exact ⟨by rw [L.rows, L'.rows], by rw [L.cols, L'.cols], hb fun x => by rw [L.bl, L'.bl], fun n => by rw [L.nums.look, L'.nums.look]⟩
theorem begins_bl (r : R) (L a b : Nat) : (∀ x, x ∈ (beginsM L r a b).1.bl ↔ x ∈ r.bl) → (beginsM L r a b).1.bl = r.bl := by
  unfold beginsM
  split
  · intro h
    exact (List.eq_nil_iff_forall_not_mem.mpr fun x hx => by have := (h x).mpr hx; cases this).symm
  · intro _; rfl
theorem pillar_bl (r : R) (a b : Nat) : (∀ x, x ∈ (pillarM r a b).1.bl ↔ x ∈ r.bl) → (pillarM r a b).1.bl = r.bl := by
  unfold pillarM
  split
  · intro _; rfl
  split
  · intro _; rfl
  · intro h
    have := (h a).mp ((mem_blP r a a).mpr (.inl rfl))
    show blP r a = r.bl
    unfold blP
    rw [if_pos (List.contains_iff_mem.mpr this)]
theorem gone_bl (r : R) (a : Nat) : (∀ x, x ∈ (goneM r a).1.bl ↔ x ∈ r.bl) → (goneM r a).1.bl = r.bl := by
  unfold goneM
  split
  · intro _; rfl
  split
  · intro _; rfl
  · intro h
    show r.bl.filter _ = r.bl
    refine List.filter_eq_self.mpr fun x hx => ?_
    exact (List.mem_filter.mp ((h x).mpr hx)).2
theorem hallDeed_bl (r : R) (t : List Nat) : (∀ x, x ∈ (deedM wantsH 4 hallDeed r t).1.bl ↔ x ∈ r.bl) → (deedM wantsH 4 hallDeed r t).1.bl = r.bl := by
  cases e : Sy86.hallCall t with
  | none => rw [hallDeed_none r t e]; intro _; rfl
  | some c =>
    unfold Sy86.hallCall at e
    split at e
    · exact begins_bl r 4 _ _
    · exact pillar_bl r _ _
    · exact gone_bl r _
    · intro _; rfl
    · intro _; rfl
    · intro _; rfl
    · cases e
end Rd
set_option linter.all false
set_option maxRecDepth 100000
set_option maxHeartbeats 2000000
namespace Rd
/-! ### the desk's calls of a riddle are the document's -/
theorem sized_sub : ∀ (n : Nat) (l c : List Nat), c ∈ sized n l → c.Sublist l
  | 0, l, c, h => by simp [sized] at h; subst h; exact List.nil_sublist _
  | n + 1, [], c, h => by simp [sized] at h
  | n + 1, a :: l, c, h => by
    simp only [sized, List.mem_append, List.mem_map] at h
    rcases h with ⟨d, hd, rfl⟩ | h
    · exact (sized_sub n l d hd).cons₂ a
    · exact (sized_sub (n + 1) l c h).cons a
theorem few_sub {kd : Kind} {r : R} {c : List Nat} (h : fewM kd r = some c) : c.Sublist (toldM r) ∧ (waysM kd r).length = 1 := by
  unfold fewM at h
  split at h
  · next h1 =>
    refine ⟨?_, by rw [← h1]; unfold clashM waysM; rw [count_filter]⟩
    unfold search at h
    rw [List.findSome?_eq_some_iff] at h
    obtain ⟨l1, n, l2, e, hf, _⟩ := h
    have hm := List.mem_of_find?_eq_some hf
    rw [level_sized _ (toldM_rising r)] at hm
    exact sized_sub _ _ _ hm
  · cases h
def goodD (kd : Kind) (r : R) : List Int := match fewM kd r with
  | none => [0, 2, ((waysM kd r).length : Nat), 0]
  | some c => [if c.length = (toldM r).length then 1 else 0, 2, ((waysM kd r).length : Nat), (((toldM r).length - c.length : Nat) : Int)]
theorem goodA_is {kd : Kind} {r : R} (o : r.Ok) : goodA kd r = goodD kd r := by
  unfold goodA goodD
  cases e : fewM kd r with
  | none => rfl
  | some c =>
    obtain ⟨h1, h2⟩ := few_sub e
    have h3 := h1.length_le
    have h4 := toldM_len o
    simp only []
    rw [h2, h4]
    rw [h4] at h3
    have h5 : (r.nums.length : Int) - (c.length : Int) = ((r.nums.length - c.length : Nat) : Int) := by omega
    rw [h5]
    by_cases h6 : c.length = r.nums.length
    · rw [if_pos h6, if_pos (by omega)]; rfl
    · rw [if_neg h6, if_neg (by omega)]; rfl
theorem thin_same {val : Nat → Option Nat} {kd : Kind} {r : R} (N : Nums val r.nums) {c : List Nat} (h : fewM kd r = some c) : Same { r with nums := thinN c (r.nums.map (·.1)) r.nums } r ↔ c.length = (toldM r).length := by
  obtain ⟨h1, _⟩ := few_sub h
  have N' := N.thinAll c
  have key : Same { r with nums := thinN c (r.nums.map (·.1)) r.nums } r ↔ ∀ n, (if c.contains n = true then val n else none) = val n := by
    constructor
    · intro S n
      have := S.nums n
      rw [N.look] at this
      exact (N'.look n).symm.trans this
    · intro k
      refine ⟨rfl, rfl, rfl, fun n => ?_⟩
      rw [N.look, ← k n]
      exact N'.look n
  rw [key]
  constructor
  · intro k
    have : c = toldM r := rising_unique _ _ (List.Pairwise.sublist h1 (toldM_rising r)) (toldM_rising r) fun q => by
      refine ⟨fun z => h1.subset z, fun z => ?_⟩
      rw [mem_toldM, N.keys] at z
      have := k q
      split at this
      · next g => exact List.contains_iff_mem.mp g
      · rw [← this] at z; cases z
    rw [this]
  · intro k n
    have e := h1.eq_of_length k
    split
    · rfl
    · next g =>
      cases e2 : val n with
      | none => rfl
      | some v =>
        have : n ∈ toldM r := by rw [mem_toldM, N.keys, e2]; rfl
        rw [← e] at this
        exact absurd (List.contains_iff_mem.mpr this) g
theorem thinM_some {kd : Kind} {r : R} {c : List Nat} (h : fewM kd r = some c) : thinM kd r = ({ r with nums := thinN c (r.nums.map (·.1)) r.nums }, ((c.length : Nat) : Int) :: ((c.length : Nat) : Int) :: castL c) := by
  unfold thinM; rw [h]
theorem thinM_none {kd : Kind} {r : R} (h : fewM kd r = none) : thinM kd r = (r, [-6]) := by
  unfold thinM; rw [h]
theorem Same.refl (r : R) : Same r r := ⟨rfl, rfl, rfl, fun _ => rfl⟩
/-- a desk behind a call that may change riddle k -/
structure After (S S' : Sy86.St) (k : Nat) (rf rh rf' rh' : R) : Prop where
  f : LF rf' S'.field
  h : LH rh' S'.hall
  so : S'.solvers = S.solvers
  keep : Same rf' rf → Same rh' rh → S'.sheets = S.sheets
  drop : ¬ (Same rf' rf ∧ Same rh' rh) → S'.sheets = Sy86.forgotten S k
  other : if k = 0 then rh' = rh else rf' = rf
theorem After.refl {S : Sy86.St} {rf rh : R} (Lf : LF rf S.field) (Lh : LH rh S.hall) (k : Nat) : After S S k rf rh rf rh :=
  ⟨Lf, Lh, rfl, fun _ _ => rfl, fun z => absurd ⟨.refl _, .refl _⟩ z, by split <;> rfl⟩
section
variable {S : Sy86.St} {rf rh : R} (Lf : LF rf S.field) (Lh : LH rh S.hall)
include Lf Lh
theorem d_field (t : List Nat) : After S (Sy86.step S (.field t)).1 0 rf rh (deedM wantsF 5 fieldDeed rf t).1 rh ∧ (deedM wantsF 5 fieldDeed rf t).2 = Sy86Neutral.out (Sy86.step S (.field t)).2 := by
  unfold Sy86.step
  simp only []
  cases e : Sy86.fieldCall t with
  | none =>
    rw [fieldDeed_none rf t e]
    exact ⟨After.refl Lf Lh 0, rfl⟩
  | some c =>
    obtain ⟨L', h2⟩ := Lf.deed t e
    have sm := Lf.same L'
    refine ⟨⟨L', Lh, rfl, fun s1 _ => ?_, fun s1 => ?_, by rw [if_pos rfl]⟩, ?_⟩
    · simp only []; rw [if_pos (sm.mp s1)]
    · simp only []; rw [if_neg fun z => s1 ⟨sm.mpr z, .refl _⟩]
    · rw [h2]; rfl
theorem d_hall (t : List Nat) : After S (Sy86.step S (.hall t)).1 1 rf rh rf (deedM wantsH 4 hallDeed rh t).1 ∧ (deedM wantsH 4 hallDeed rh t).2 = Sy86Neutral.out (Sy86.step S (.hall t)).2 := by
  unfold Sy86.step
  simp only []
  cases e : Sy86.hallCall t with
  | none =>
    rw [hallDeed_none rh t e]
    exact ⟨After.refl Lf Lh 1, rfl⟩
  | some c =>
    obtain ⟨L', h2⟩ := Lh.deed t e
    have sm := Lh.same L' (hallDeed_bl rh t)
    refine ⟨⟨Lf, L', rfl, fun _ s1 => ?_, fun s1 => ?_, by rw [if_neg (by decide)]⟩, ?_⟩
    · simp only []; rw [if_pos (sm.mp s1)]
    · simp only []; rw [if_neg fun z => s1 ⟨.refl _, sm.mpr z⟩]
    · rw [h2]; rfl
theorem d_good0 : goodA kF rf = Sy86Neutral.out (Sy86.step S (.good 0)).2 := by
  rw [goodA_is Lf.good.ok]
  unfold goodD
  show _ = Sy86Neutral.out (if 1 < 0 then Sy86.ok (-2) else match Sy64.fewest S.field with
    | none => ⟨0, [Sy86.ints [(Sy64.ways S.field).length, 0]]⟩
    | some l => ⟨if l.length = (Sy64.told S.field).length then 1 else 0, [Sy86.ints [(Sy64.ways S.field).length, (Sy64.told S.field).length - l.length]]⟩)
  rw [if_neg (by decide), Lf.few, Lf.ways, Lf.told]
  cases Sy64.fewest S.field with
  | none => rfl
  | some l => rfl
theorem d_good1 : goodA kH rh = Sy86Neutral.out (Sy86.step S (.good 1)).2 := by
  rw [goodA_is Lh.good.ok]
  unfold goodD
  show _ = Sy86Neutral.out (if 1 < 1 then Sy86.ok (-2) else match Sy85.fewest S.hall with
    | none => ⟨0, [Sy86.ints [(Sy85.ways S.hall).length, 0]]⟩
    | some l => ⟨if l.length = (Sy85.told S.hall).length then 1 else 0, [Sy86.ints [(Sy85.ways S.hall).length, (Sy85.told S.hall).length - l.length]]⟩)
  rw [if_neg (by decide), Lh.few, Lh.ways, Lh.told]
  cases Sy85.fewest S.hall with
  | none => rfl
  | some l => rfl
theorem out_list (v : Int) (l : List Nat) : Sy86Neutral.out ⟨v, [Sy86.ints l]⟩ = v :: ((l.length : Nat) : Int) :: castL l := by
  show v :: (((Sy86.ints l).length : Nat) : Int) :: (Sy86.ints l ++ []) = _
  rw [List.append_nil]
  unfold Sy86.ints castL
  rw [List.length_map]
theorem d_thin0 : After S (Sy86.step S (.thin 0)).1 0 rf rh (thinM kF rf).1 rh ∧ (thinM kF rf).2 = Sy86Neutral.out (Sy86.step S (.thin 0)).2 := by
  have e : Sy86.step S (.thin 0) = match Sy64.fewest S.field with
    | none => (S, Sy86.ok (-6))
    | some l => ({ S with field := Sy64.keep S.field l, sheets := if l.length = (Sy64.told S.field).length then S.sheets else Sy86.forgotten S 0 }, ⟨(l.length : Nat), [Sy86.ints l]⟩) := rfl
  rw [e]
  cases h : fewM kF rf with
  | none =>
    rw [thinM_none h, ← Lf.few, h]
    exact ⟨After.refl Lf Lh 0, rfl⟩
  | some c =>
    have sm := thin_same Lf.nums h
    rw [thinM_some h, ← Lf.few, h, ← Lf.told]
    refine ⟨⟨Lf.keep c, Lh, rfl, fun s1 _ => ?_, fun s1 => ?_, by rw [if_pos rfl]⟩, (out_list Lf Lh _ _).symm⟩
    · simp only []; rw [if_pos (sm.mp s1)]
    · simp only []; rw [if_neg fun z => s1 ⟨sm.mpr z, .refl _⟩]
theorem d_thin1 : After S (Sy86.step S (.thin 1)).1 1 rf rh rf (thinM kH rh).1 ∧ (thinM kH rh).2 = Sy86Neutral.out (Sy86.step S (.thin 1)).2 := by
  have e : Sy86.step S (.thin 1) = match Sy85.fewest S.hall with
    | none => (S, Sy86.ok (-6))
    | some l => ({ S with hall := Sy85.keep S.hall l, sheets := if l.length = (Sy85.told S.hall).length then S.sheets else Sy86.forgotten S 1 }, ⟨(l.length : Nat), [Sy86.ints l]⟩) := rfl
  rw [e]
  cases h : fewM kH rh with
  | none =>
    rw [thinM_none h, ← Lh.few, h]
    exact ⟨After.refl Lf Lh 1, rfl⟩
  | some c =>
    have sm := thin_same Lh.nums h
    rw [thinM_some h, ← Lh.few, h, ← Lh.told]
    refine ⟨⟨Lf, Lh.keep c, rfl, fun _ s1 => ?_, fun s1 => ?_, by rw [if_neg (by decide)]⟩, (out_list Lf Lh _ _).symm⟩
    · simp only []; rw [if_pos (sm.mp s1)]
    · simp only []; rw [if_neg fun z => s1 ⟨.refl _, sm.mpr z⟩]
theorem d_fill0 (j : Nat) : After S (Sy86.step S (.fill 0 j)).1 0 rf rh (fillM kF rf j).1 rh ∧ (fillM kF rf j).2 = Sy86Neutral.out (Sy86.step S (.fill 0 j)).2 := by
  have e : Sy86.step S (.fill 0 j) = match (Sy64.settings S.field)[j]? with
    | none => (S, Sy86.ok (-6))
    | some p => ({ S with field := filledF S.field p, sheets := if filledF S.field p = S.field ∧ S.hall = S.hall then S.sheets else Sy86.forgotten S 0 }, ⟨((Sy64.ways (filledF S.field p)).length : Nat), [Sy86.ints p]⟩) := rfl
  rw [e]
  unfold fillM
  rw [Lf.sets]
  cases h : (Sy64.settings S.field)[j]? with
  | none => exact ⟨After.refl Lf Lh 0, rfl⟩
  | some p =>
    have L' := Lf.fill p
    have sm := Lf.same L'
    refine ⟨⟨L', Lh, rfl, fun s1 _ => ?_, fun s1 => ?_, by rw [if_pos rfl]⟩, ?_⟩
    · simp only []; rw [if_pos ⟨sm.mp s1, trivial⟩]
    · simp only []; rw [if_neg fun z => s1 ⟨sm.mpr z.1, .refl _⟩]
    · simp only []; rw [out_list Lf Lh, L'.ways]
theorem d_fill1 (j : Nat) : After S (Sy86.step S (.fill 1 j)).1 1 rf rh rf (fillM kH rh j).1 ∧ (fillM kH rh j).2 = Sy86Neutral.out (Sy86.step S (.fill 1 j)).2 := by
  have e : Sy86.step S (.fill 1 j) = match (Sy85.settings S.hall)[j]? with
    | none => (S, Sy86.ok (-6))
    | some p => ({ S with hall := filledH S.hall p, sheets := if S.field = S.field ∧ filledH S.hall p = S.hall then S.sheets else Sy86.forgotten S 1 }, ⟨((Sy85.ways (filledH S.hall p)).length : Nat), [Sy86.ints p]⟩) := rfl
  rw [e]
  unfold fillM
  rw [Lh.sets]
  cases h : (Sy85.settings S.hall)[j]? with
  | none => exact ⟨After.refl Lf Lh 1, rfl⟩
  | some p =>
    have L' := Lh.fill p
    have sm := Lh.same L' fun _ => rfl
    refine ⟨⟨Lf, L', rfl, fun _ s1 => ?_, fun s1 => ?_, by rw [if_neg (by decide)]⟩, ?_⟩
    · simp only []; rw [if_pos ⟨trivial, sm.mp s1⟩]
    · simp only []; rw [if_neg fun z => s1 ⟨.refl _, sm.mpr z.2⟩]
    · simp only []; rw [out_list Lf Lh, L'.ways]
end
end Rd
set_option linter.all false
set_option maxRecDepth 100000
set_option maxHeartbeats 2000000
namespace Rd
/-! ### one list of calls -/
/-- a call as it is told -/
abbrev CC := Nat × List Nat
def wantC : List (Nat × Nat) := [(0, 1), (3, 1), (4, 1), (5, 2), (6, 4), (7, 3), (8, 2), (9, 2), (10, 2), (11, 0), (12, 0)]
def enc (c : CC) : List Nat := if c.1 = 1 ∨ c.1 = 2 then c.1 :: c.2.length :: c.2 else c.1 :: c.2
structure OkC (c : CC) : Prop where
  kind : c.1 = 1 ∨ c.1 = 2 ∨ wantC.lookup c.1 = some c.2.length
  len : c.2.length ≤ 60
  low : ∀ x ∈ c.2, x ≤ 4294967295
theorem castL_app (a b : List Nat) : castL (a ++ b) = castL a ++ castL b := List.map_append
theorem castL_len (a : List Nat) : (castL a).length = a.length := List.length_map ..
theorem nats_of : ∀ {xs : List Int}, xs.all (PyInside.within 0 4294967295) = true → ∃ ns : List Nat, xs = castL ns ∧ ∀ n ∈ ns, n ≤ 4294967295
  | [], _ => ⟨[], rfl, fun _ h => nomatch h⟩
  | x :: xs, h => by
    rw [List.all_cons, Bool.and_eq_true] at h
    obtain ⟨ns, rfl, hn⟩ := nats_of h.2
    have h1 := h.1
    unfold PyInside.within at h1
    rw [Bool.and_eq_true, decide_eq_true_eq, decide_eq_true_eq] at h1
    refine ⟨x.toNat :: ns, ?_, fun n hm => ?_⟩
    · show x :: castL ns = ((x.toNat : Nat) : Int) :: castL ns
      rw [Int.toNat_of_nonneg h1.1]
    · rcases List.mem_cons.mp hm with e | e
      · omega
      · exact hn n e
theorem each_of : ∀ {n : Nat} {xs : List Int}, xs.length ≤ n → PyInside.each (List.replicate n (0, 4294967295)) xs = true → xs.all (PyInside.within 0 4294967295) = true
  | _, [], _, _ => rfl
  | 0, x :: xs, h, _ => absurd h (by simp)
  | n + 1, x :: xs, h, k => by
    rw [List.replicate_succ] at k
    have k : (PyInside.within 0 4294967295 x && PyInside.each (List.replicate n (0, 4294967295)) xs) = true := k
    rw [Bool.and_eq_true] at k
    rw [List.all_cons, k.1, each_of (by simp at h; exact h) k.2]
    rfl
theorem call_num {p : Int} {n : Nat} {r : List Int} {c : List (List Int)} {t : List Int} (hs : PySy86.shape p = some (n, 0)) (h : PyFlat.call PySy86.shape (p :: r) = some (c, t)) : n ≤ r.length ∧ c = [p :: r.take n] ∧ t = r.drop n := by
  simp only [PyFlat.call, hs, PyFlat.rows] at h
  split at h
  · cases h
  · next g => cases h; exact ⟨by omega, rfl, rfl⟩
theorem call_row {p : Int} {r : List Int} {c : List (List Int)} {t : List Int} (hs : PySy86.shape p = some (0, 1)) (h : PyFlat.call PySy86.shape (p :: r) = some (c, t)) : ∃ (n : Int) (r' : List Int), r = n :: r' ∧ 0 ≤ n ∧ n.toNat ≤ r'.length ∧ c = [[p], r'.take n.toNat] ∧ t = r'.drop n.toNat := by
  simp only [PyFlat.call, hs, PyFlat.rows, List.drop_zero, Nat.not_lt_zero, if_false] at h
  cases r with
  | nil => simp [PyFlat.row] at h
  | cons n r' =>
    simp only [PyFlat.row] at h
    by_cases g : 0 ≤ n ∧ n.toNat ≤ r'.length
    · rw [if_pos g] at h
      simp only [Option.some.injEq, Prod.mk.injEq] at h
      exact ⟨n, r', rfl, g.1, g.2, h.1.symm, h.2.symm⟩
    · rw [if_neg g] at h
      cases h
theorem whole_num (k : Nat) (ns : List Nat) (h : wantC.lookup k = some ns.length) (c : List (List Int)) (hc : c = [((k : Nat) : Int) :: castL ns]) : (PySy86.whole c).headD [] = ((k : Nat) : Int) :: castL ns := by
  subst hc
  have hk := lookup_key h
  have hq : k = 0 ∨ k = 3 ∨ k = 4 ∨ k = 5 ∨ k = 6 ∨ k = 7 ∨ k = 8 ∨ k = 9 ∨ k = 10 ∨ k = 11 ∨ k = 12 := by simpa [wantC] using hk
  rcases hq with rfl | rfl | rfl | rfl | rfl | rfl | rfl | rfl | rfl | rfl | rfl
  · obtain ⟨a, rfl⟩ := len1 h; rfl
  · obtain ⟨a, rfl⟩ := len1 h; rfl
  · obtain ⟨a, rfl⟩ := len1 h; rfl
  · obtain ⟨a, b, rfl⟩ := len2 h; rfl
  · match ns, h with
    | [a, b, c, d], _ => rfl
  · match ns, h with
    | [a, b, c], _ => rfl
  · obtain ⟨a, b, rfl⟩ := len2 h; rfl
  · obtain ⟨a, b, rfl⟩ := len2 h; rfl
  · obtain ⟨a, b, rfl⟩ := len2 h; rfl
  · rw [len0 h]; rfl
  · rw [len0 h]; rfl
theorem shape_is {p : Int} {x : Nat × Nat} (h : PySy86.shape p = some x) : (p = 1 ∨ p = 2) ∧ x = (0, 1) ∨ ∃ k n : Nat, p = (k : Int) ∧ wantC.lookup k = some n ∧ x = (n, 0) ∧ PySy86.bound p = (List.replicate n (0, 4294967295), []) := by
  by_cases e0 : p = 0
  · subst e0; have h : some (1, 0) = some x := h; cases h; exact .inr ⟨0, 1, rfl, rfl, rfl, rfl⟩
  by_cases e1 : p = 1
  · subst e1; have h : some (0, 1) = some x := h; cases h; exact .inl ⟨by decide, rfl⟩
  by_cases e2 : p = 2
  · subst e2; have h : some (0, 1) = some x := h; cases h; exact .inl ⟨by decide, rfl⟩
  by_cases e3 : p = 3
  · subst e3; have h : some (1, 0) = some x := h; cases h; exact .inr ⟨3, 1, rfl, rfl, rfl, rfl⟩
  by_cases e4 : p = 4
  · subst e4; have h : some (1, 0) = some x := h; cases h; exact .inr ⟨4, 1, rfl, rfl, rfl, rfl⟩
  by_cases e5 : p = 5
  · subst e5; have h : some (2, 0) = some x := h; cases h; exact .inr ⟨5, 2, rfl, rfl, rfl, rfl⟩
  by_cases e6 : p = 6
  · subst e6; have h : some (4, 0) = some x := h; cases h; exact .inr ⟨6, 4, rfl, rfl, rfl, rfl⟩
  by_cases e7 : p = 7
  · subst e7; have h : some (3, 0) = some x := h; cases h; exact .inr ⟨7, 3, rfl, rfl, rfl, rfl⟩
  by_cases e8 : p = 8
  · subst e8; have h : some (2, 0) = some x := h; cases h; exact .inr ⟨8, 2, rfl, rfl, rfl, rfl⟩
  by_cases e9 : p = 9
  · subst e9; have h : some (2, 0) = some x := h; cases h; exact .inr ⟨9, 2, rfl, rfl, rfl, rfl⟩
  by_cases e10 : p = 10
  · subst e10; have h : some (2, 0) = some x := h; cases h; exact .inr ⟨10, 2, rfl, rfl, rfl, rfl⟩
  by_cases e11 : p = 11
  · subst e11; have h : some (0, 0) = some x := h; cases h; exact .inr ⟨11, 0, rfl, rfl, rfl, rfl⟩
  by_cases e12 : p = 12
  · subst e12; have h : some (0, 0) = some x := h; cases h; exact .inr ⟨12, 0, rfl, rfl, rfl, rfl⟩
  unfold PySy86.shape at h
  rw [if_neg e0, if_neg e1, if_neg e2, if_neg e3, if_neg e4, if_neg e5, if_neg e6, if_neg e7, if_neg e8, if_neg e9, if_neg e10, if_neg e11, if_neg e12] at h
  cases h
theorem want_le {k n : Nat} (h : wantC.lookup k = some n) : n ≤ 60 := by
  have hk := lookup_key h
  have hq : k = 0 ∨ k = 3 ∨ k = 4 ∨ k = 5 ∨ k = 6 ∨ k = 7 ∨ k = 8 ∨ k = 9 ∨ k = 10 ∨ k = 11 ∨ k = 12 := by simpa [wantC] using hk
  rcases hq with rfl | rfl | rfl | rfl | rfl | rfl | rfl | rfl | rfl | rfl | rfl <;> cases h <;> decide
theorem one_call {p : Int} {r t : List Int} {c : List (List Int)} (h : PyFlat.call PySy86.shape (p :: r) = some (c, t)) (hb : PyInside.call PySy86.bound c = true) :
    ∃ cs : CC, p :: r = castL (enc cs) ++ t ∧ (PySy86.whole c).headD [] = castL (enc cs) ∧ OkC cs := by
  cases hs : PySy86.shape p with
  | none => simp only [PyFlat.call, hs] at h; cases h
  | some x =>
    rcases shape_is hs with ⟨hp, rfl⟩ | ⟨k, n, rfl, hk, rfl, hbd⟩
    · obtain ⟨n, r', rfl, h0, h1, rfl, rfl⟩ := call_row hs h
      have hw : (r'.take n.toNat).length ≤ 60 ∧ (r'.take n.toNat).all (PyInside.within 0 4294967295) = true := by
        rcases hp with rfl | rfl
        all_goals
          unfold PyInside.call at hb
          rw [Bool.and_eq_true] at hb
          have h2 : (((decide (0 ≤ (r'.take n.toNat).length) && decide ((r'.take n.toNat).length ≤ 60)) && (r'.take n.toNat).all (PyInside.within 0 4294967295)) && true) = true := hb.2
          rw [Bool.and_true, Bool.and_eq_true, Bool.and_eq_true, decide_eq_true_eq, decide_eq_true_eq] at h2
          exact ⟨h2.1.2, h2.2⟩
      obtain ⟨ns, hns, hlow⟩ := nats_of hw.2
      have hlen : ns.length = n.toNat := by
        have := congrArg List.length hns
        rw [castL_len, List.length_take] at this
        omega
      have key : ∀ q : Nat, q = 1 ∨ q = 2 → ((q : Nat) : Int) :: n :: r' = castL (enc (q, ns)) ++ r'.drop n.toNat := by
        intro q hq
        unfold enc
        rw [if_pos hq]
        show ((q : Nat) : Int) :: n :: r' = ((q : Nat) : Int) :: ((ns.length : Nat) : Int) :: (castL ns ++ r'.drop n.toNat)
        rw [← hns, List.take_append_drop, hlen, Int.toNat_of_nonneg h0]
      rcases hp with rfl | rfl
      · refine ⟨(1, ns), key 1 (.inl rfl), ?_, .inl rfl, by rw [hns, castL_len] at hw; exact hw.1, hlow⟩
        rw [hns]
        show (1 : Int) :: (((castL ns).length : Nat) : Int) :: castL ns = castL (enc (1, ns))
        rw [castL_len]; rfl
      · refine ⟨(2, ns), key 2 (.inr rfl), ?_, .inr (.inl rfl), by rw [hns, castL_len] at hw; exact hw.1, hlow⟩
        rw [hns]
        show (2 : Int) :: (((castL ns).length : Nat) : Int) :: castL ns = castL (enc (2, ns))
        rw [castL_len]; rfl
    · obtain ⟨h1, rfl, rfl⟩ := call_num hs h
      have hw : (r.take n).all (PyInside.within 0 4294967295) = true := by
        unfold PyInside.call at hb
        rw [Bool.and_eq_true] at hb
        have h2 : PyInside.each (PySy86.bound (k : Int)).1 (r.take n) = true := hb.1
        rw [hbd] at h2
        exact each_of (by rw [List.length_take]; omega) h2
      obtain ⟨ns, hns, hlow⟩ := nats_of hw
      have hlen : ns.length = n := by
        have := congrArg List.length hns
        rw [castL_len, List.length_take] at this
        omega
      subst hlen
      have hk12 : ¬ (k = 1 ∨ k = 2) := by
        rintro (rfl | rfl) <;> cases hk
      have he : enc (k, ns) = k :: ns := by unfold enc; rw [if_neg hk12]
      refine ⟨(k, ns), ?_, ?_, .inr (.inr hk), ?_, hlow⟩
      · rw [he]
        show (k : Int) :: r = (k : Int) :: (castL ns ++ r.drop ns.length)
        rw [← hns, List.take_append_drop]
      · rw [he, hns]
        exact whole_num k ns hk _ rfl
      · exact want_le hk
theorem flat_is : ∀ (f : Nat) (l : List Int) (raw : List (List (List Int))), PyFlat.calls PySy86.shape f l = some raw → PyInside.calls PySy86.bound raw = true →
    ∃ cs : List CC, l = castL (cs.flatMap enc) ∧ (raw.map PySy86.whole).map (fun c => c.headD []) = cs.map (fun c => castL (enc c)) ∧ ∀ c ∈ cs, OkC c
  | _, [], raw, h, _ => by
    unfold PyFlat.calls at h
    cases h
    exact ⟨[], rfl, rfl, fun _ h => nomatch h⟩
  | 0, p :: r, raw, h, _ => by
    unfold PyFlat.calls at h
    cases h
  | f + 1, p :: r, raw, h, hb => by
    unfold PyFlat.calls at h
    cases e : PyFlat.call PySy86.shape (p :: r) with
    | none => simp only [e] at h; cases h
    | some ct =>
      obtain ⟨c, t⟩ := ct
      simp only [e] at h
      cases e2 : PyFlat.calls PySy86.shape f t with
      | none => simp only [e2] at h; cases h
      | some raw' =>
        simp only [e2] at h
        cases h
        have hb : (PyInside.call PySy86.bound c && PyInside.calls PySy86.bound raw') = true := hb
        rw [Bool.and_eq_true] at hb
        obtain ⟨c1, h1, h2, h3⟩ := one_call e hb.1
        obtain ⟨cs, k1, k2, k3⟩ := flat_is f t raw' e2 hb.2
        refine ⟨c1 :: cs, ?_, ?_, fun z hz => ?_⟩
        · rw [h1, k1, List.flatMap_cons, castL_app]
        · rw [List.map_cons, List.map_cons, List.map_cons, k2, h2]
        · rcases List.mem_cons.mp hz with e | e
          · rw [e]; exact h3
          · exact k3 z e
end Rd
set_option linter.all false
set_option maxRecDepth 100000
set_option maxHeartbeats 2000000
namespace Rd
/-! ### what is told of a call is a call -/
def callC : CC → Sy86.Call
  | (0, l) => .begins (l.getD 0 0)
  | (1, l) => .field l
  | (2, l) => .hall l
  | (3, l) => .good (l.getD 0 0)
  | (4, l) => .thin (l.getD 0 0)
  | (5, l) => .fill (l.getD 0 0) (l.getD 1 0)
  | (6, l) => .mark (l.getD 0 0) (l.getD 1 0) (l.getD 2 0) (l.getD 3 0)
  | (7, l) => .rub (l.getD 0 0) (l.getD 1 0) (l.getD 2 0)
  | (8, l) => .next (l.getD 0 0) (l.getD 1 0)
  | (9, l) => .sheet (l.getD 0 0) (l.getD 1 0)
  | (10, l) => .done (l.getD 0 0) (l.getD 1 0)
  | (11, _) => .standing
  | _ => .state
theorem natIn_is {a : Nat} (h : a ≤ 4294967295) (t : List Int) : Sy86Neutral.natIn ((a : Int) :: t) = some (a, t) := by
  unfold Sy86Neutral.natIn
  simp only []
  rw [if_pos ⟨by omega, by omega⟩, Int.toNat_natCast]
theorem many_is : ∀ (ns : List Nat) (t : List Int), (∀ n ∈ ns, n ≤ 4294967295) → Sy86Neutral.many_ Sy86Neutral.natIn ns.length (castL ns ++ t) = some (ns, t)
  | [], t, _ => rfl
  | n :: ns, t, h => by
    have e : castL (n :: ns) ++ t = (n : Int) :: (castL ns ++ t) := rfl
    rw [e, List.length_cons, Sy86Neutral.many_, natIn_is (h n List.mem_cons_self), Option.bind_some]
    simp only []
    rw [many_is ns t fun x hx => h x (List.mem_cons_of_mem _ hx), Option.map_some]
theorem some_is (ns : List Nat) (h : ∀ n ∈ ns, n ≤ 4294967295) : Sy86Neutral.all_ (Sy86Neutral.some_ ns.length (castL ns)) = some ns := by
  unfold Sy86Neutral.some_
  have := many_is ns [] h
  rw [List.append_nil] at this
  rw [this]
  rfl
theorem row_is (ns : List Nat) (h : ∀ n ∈ ns, n ≤ 4294967295) (hl : ns.length ≤ 60) : Sy86Neutral.all_ (Sy86Neutral.rowIn (((ns.length : Nat) : Int) :: castL ns)) = some ns := by
  unfold Sy86Neutral.rowIn Sy86Neutral.listIn
  simp only []
  rw [if_pos ⟨by omega, by omega⟩, Int.toNat_natCast]
  have := many_is ns [] h
  rw [List.append_nil] at this
  rw [this]
  rfl
theorem callOf_is {c : CC} (o : OkC c) : Sy86Neutral.callOf (castL (enc c)) = some (callC c) := by
  obtain ⟨k, ns⟩ := c
  obtain ⟨hk, hl, hn⟩ := o
  have hs := some_is ns hn
  rcases hk with hk | hk | hk
  · have hk : k = 1 := hk
    subst hk
    show (Sy86Neutral.all_ (Sy86Neutral.rowIn (((ns.length : Nat) : Int) :: castL ns))).map (fun y => Sy86.Call.field y) = _
    rw [row_is ns hn hl]; rfl
  · have hk : k = 2 := hk
    subst hk
    show (Sy86Neutral.all_ (Sy86Neutral.rowIn (((ns.length : Nat) : Int) :: castL ns))).map (fun y => Sy86.Call.hall y) = _
    rw [row_is ns hn hl]; rfl
  · have hk : wantC.lookup k = some ns.length := hk
    have hm := lookup_key hk
    have hq : k = 0 ∨ k = 3 ∨ k = 4 ∨ k = 5 ∨ k = 6 ∨ k = 7 ∨ k = 8 ∨ k = 9 ∨ k = 10 ∨ k = 11 ∨ k = 12 := by simpa [wantC] using hm
    rcases hq with rfl | rfl | rfl | rfl | rfl | rfl | rfl | rfl | rfl | rfl | rfl
    all_goals
      have e : _ = ns.length := Option.some.inj hk
      rw [← e] at hs
    · show (Sy86Neutral.all_ (Sy86Neutral.some_ 1 (castL ns))).map (fun x => Sy86.Call.begins (Sy86Neutral.g x 0)) = _
      rw [hs]; rfl
    · show (Sy86Neutral.all_ (Sy86Neutral.some_ 1 (castL ns))).map (fun x => Sy86.Call.good (Sy86Neutral.g x 0)) = _
      rw [hs]; rfl
    · show (Sy86Neutral.all_ (Sy86Neutral.some_ 1 (castL ns))).map (fun x => Sy86.Call.thin (Sy86Neutral.g x 0)) = _
      rw [hs]; rfl
    · show (Sy86Neutral.all_ (Sy86Neutral.some_ 2 (castL ns))).map (fun x => Sy86.Call.fill (Sy86Neutral.g x 0) (Sy86Neutral.g x 1)) = _
      rw [hs]; rfl
    · show (Sy86Neutral.all_ (Sy86Neutral.some_ 4 (castL ns))).map (fun x => Sy86.Call.mark (Sy86Neutral.g x 0) (Sy86Neutral.g x 1) (Sy86Neutral.g x 2) (Sy86Neutral.g x 3)) = _
      rw [hs]; rfl
    · show (Sy86Neutral.all_ (Sy86Neutral.some_ 3 (castL ns))).map (fun x => Sy86.Call.rub (Sy86Neutral.g x 0) (Sy86Neutral.g x 1) (Sy86Neutral.g x 2)) = _
      rw [hs]; rfl
    · show (Sy86Neutral.all_ (Sy86Neutral.some_ 2 (castL ns))).map (fun x => Sy86.Call.next (Sy86Neutral.g x 0) (Sy86Neutral.g x 1)) = _
      rw [hs]; rfl
    · show (Sy86Neutral.all_ (Sy86Neutral.some_ 2 (castL ns))).map (fun x => Sy86.Call.sheet (Sy86Neutral.g x 0) (Sy86Neutral.g x 1)) = _
      rw [hs]; rfl
    · show (Sy86Neutral.all_ (Sy86Neutral.some_ 2 (castL ns))).map (fun x => Sy86.Call.done (Sy86Neutral.g x 0) (Sy86Neutral.g x 1)) = _
      rw [hs]; rfl
    · show (Sy86Neutral.all_ (Sy86Neutral.some_ 0 (castL ns))).map (fun _ => Sy86.Call.standing) = _
      rw [hs]; rfl
    · show (Sy86Neutral.all_ (Sy86Neutral.some_ 0 (castL ns))).map (fun _ => Sy86.Call.state) = _
      rw [hs]; rfl
/-- what is answered, call by call -/
def playC : Sy86.St → List CC → List (List Int)
  | _, [] => []
  | S, c :: cs => Sy86Neutral.out (Sy86.step S (callC c)).2 :: playC (Sy86.step S (callC c)).1 cs
theorem step_is {c : CC} (o : OkC c) (S : Sy86.St) : Sy86Neutral.step S (castL (enc c)) = ((Sy86.step S (callC c)).1, Sy86Neutral.out (Sy86.step S (callC c)).2) := by
  unfold Sy86Neutral.step
  rw [callOf_is o]
theorem played_is : ∀ (cs : List CC) (raw : List (List (List Int))) (S : Sy86.St), (∀ c ∈ cs, OkC c) → raw.map (fun c => c.headD []) = cs.map (fun c => castL (enc c)) →
    PyFlat.played (fun s c => Sy86Neutral.step s (c.headD [])) S raw = playC S cs
  | [], [], S, _, _ => rfl
  | [], a :: raw, S, _, h => by simp at h
  | c :: cs, [], S, _, h => by simp at h
  | c :: cs, a :: raw, S, o, h => by
    rw [List.map_cons, List.map_cons] at h
    obtain ⟨h1, h2⟩ := List.cons.inj h
    have e := step_is (o c List.mem_cons_self) S
    show (Sy86Neutral.step S (a.headD [])).2 :: PyFlat.played _ (Sy86Neutral.step S (a.headD [])).1 raw = _
    rw [h1, e, played_is cs raw _ (fun x hx => o x (List.mem_cons_of_mem _ hx)) h2]
    rfl
theorem many_len : ∀ (cs : List CC) (S : Sy86.St), (∀ c ∈ cs, OkC c) → Sy86Neutral.many S (cs.map fun c => castL (enc c)) = (playC S cs).flatten.length
  | [], S, _ => rfl
  | c :: cs, S, o => by
    have e := step_is (o c List.mem_cons_self) S
    show (Sy86Neutral.step S (castL (enc c))).2.length + Sy86Neutral.many (Sy86Neutral.step S (castL (enc c))).1 (cs.map fun c => castL (enc c)) = (Sy86Neutral.out (Sy86.step S (callC c)).2 ++ (playC (Sy86.step S (callC c)).1 cs).flatten).length
    rw [e, many_len cs _ fun x hx => o x (List.mem_cons_of_mem _ hx), List.length_append]
/-- what is asked -/
structure Asked (l : List Int) (cs : List CC) : Prop where
  is : l = castL (cs.flatMap enc)
  ok : ∀ c ∈ cs, OkC c
  some : cs ≠ []
  few : cs.length ≤ 60
  short : (playC Sy86.init cs).flatten.length ≤ 1000000
  due : PySy86.answers l = PyFlat.told (playC Sy86.init cs)
theorem asked_is {l : List Int} (h : PySy86.answers_asked l = true) : ∃ cs, Asked l cs := by
  unfold PySy86.answers_asked at h
  cases e : PyFlat.calls PySy86.shape l.length l with
  | none => rw [e] at h; cases h
  | some raw =>
    rw [e] at h
    simp only [Bool.and_eq_true] at h
    obtain ⟨⟨⟨⟨h1, h2⟩, h3⟩, h4⟩, h5⟩ := h
    obtain ⟨cs, k1, k2, k3⟩ := flat_is _ _ _ e h3
    have hlen : raw.length = cs.length := by have := congrArg List.length k2; simpa using this
    refine ⟨cs, k1, k3, ?_, ?_, ?_, ?_⟩
    · rintro rfl
      have : raw = [] := List.eq_nil_of_length_eq_zero hlen
      rw [this] at h1; cases h1
    · unfold PyFlat.atMost at h2
      rw [← hlen]; exact of_decide_eq_true h2
    · unfold Sy86Neutral.asked at h4
      simp only [Bool.and_eq_true, decide_eq_true_eq] at h4
      have := h4.2.2.2
      rw [k2] at this
      rw [← many_len cs Sy86.init k3]
      exact this
    · unfold PySy86.answers PySy86.calls
      rw [e]
      simp only []
      congr 1
      exact played_is cs _ _ k3 k2
end Rd
set_option linter.all false
set_option maxRecDepth 100000
set_option maxHeartbeats 2000000
namespace Rd
open PySem PySem.Spec PyProof.Rows L2 Evl
/-! ### a dict of the module's own top, from number to number -/
def NatEs : List DictEntry → List (Nat × Nat) → Prop
  | [], [] => True
  | e :: es, p :: ps => (∃ t, e.key = .int (p.1 : Int) t) ∧ (∃ t, e.val = .int (p.2 : Int) t) ∧ e.hash = hashInt (p.1 : Int) ∧ NatEs es ps
  | _, _ => False
structure KNat (K : PySem.W.Frag) (d : Addr) (kv : List (Nat × Nat)) : Prop where
  at_ : ∃ (es : Array DictEntry) (n : Nat), K.lookup d = some ⟨.type "dict", none, .dict es n, #[]⟩ ∧ NatEs es.toList kv
  low : (d == sysModules) = false
  nodup : (kv.map (·.1)).Nodup
  few : kv.length ≤ 1000
theorem nat_pairs {P : Program} {w : World} : ∀ {es : List DictEntry} {kv : List (Nat × Nat)}, NatEs es kv → ∃ vs : List (L2.Key × Value), Pairs (mixKind P w) es vs ∧ KV (kvN kv) vs ∧ (∀ e ∈ es, ∃ k, (mixKind P w).is k e.key = true ∧ e.hash = (mixKind P w).hash k) ∧ vs.map (·.1) = kv.map fun p => Sum.inl (p.1 : Int)
  | [], [], _ => ⟨[], .nil, .nil, (fun _ h => nomatch h), rfl⟩
  | e :: es, p :: ps, ⟨⟨t, h1⟩, ⟨u, h2⟩, h3, h4⟩ => by
    obtain ⟨vs, k1, k2, k3, k4⟩ := nat_pairs (P := P) (w := w) h4
    have hk : (mixKind P w).is (Sum.inl (p.1 : Int)) e.key = true := by rw [h1]; exact keyIs_int _ t
    refine ⟨(Sum.inl (p.1 : Int), e.val) :: vs, .cons hk rfl k1, .cons ⟨rfl, ⟨u, h2⟩⟩ k2, fun x hx => ?_, by rw [List.map_cons, k4]; rfl⟩
    rcases List.mem_cons.mp hx with r | r
    · rw [r]; exact ⟨_, hk, h3⟩
    · exact k3 x r
  | [], _ :: _, h => h.elim
  | _ :: _, [], h => h.elim
theorem KNat.dict {P : Program} {w : World} {K : PySem.W.Frag} {d : Addr} {kv : List (Nat × Nat)} (D : KNat K d kv) {h : Heap} (X : K.In h) : ∃ vs, KV (kvN kv) vs ∧ h.DictOf (mixKind P w) d vs := by
  obtain ⟨es, n, h1, h2⟩ := D.at_
  obtain ⟨vs, k1, k2, k3, k4⟩ := nat_pairs (P := P) (w := w) h2
  refine ⟨vs, k2, _, es, n, X _ _ h1, ⟨rfl, rfl, rfl⟩, rfl, fun e he => k3 e (Array.mem_toList_iff.mpr he), k1, ?_⟩
  rw [k4]
  have : (kv.map fun p => (Sum.inl (p.1 : Int) : L2.Key)) = (kv.map (·.1)).map fun n : Nat => Sum.inl (n : Int) := by rw [List.map_map]; rfl
  rw [this]
  have h2 : (kv.map (·.1)).Pairwise fun a b : Nat => (Sum.inl (a : Int) : L2.Key) ≠ Sum.inl (b : Int) := D.nodup.imp fun {a b} h e => h (by have := Sum.inl.inj e; omega)
  exact (List.pairwise_map (R := fun a b : L2.Key => a ≠ b)).mpr h2
section
variable {X : Cx} {d : Addr} {kv : List (Nat × Nat)}
/-- dict(d) -/
theorem call_dictW : CallR X (.type "dict") (fun xs H Q => ∃ (d : Addr) (kv : List (Nat × Nat)), xs = [.ref d] ∧ KNat X.K d kv ∧ ∀ p, H p = none → Q (.ref p) (upd H p (.dK (kvN kv)))) := by
  intro pins s σ H xs us Q I r q
  obtain ⟨d, kv, ex, D, q⟩ := q
  subst ex
  obtain ⟨u, eu, rx⟩ := vals1 r
  subst eu
  cases rx
  obtain ⟨vs, rel, dd⟩ := D.dict (P := X.prog) (w := X.w) I.kIn
  have z : (kvN kv).length ≤ sizeLine := by
    rw [kvN_len]
    exact Nat.le_trans D.few (by decide)
  refine kt_call_dict D.low dd (by rw [← rel.length]; exact z) fun h' d' hs => ?_
  have hm : (s.heap.objs.size == sysModules) = false := beq_eq_false_iff_ne.mpr (Nat.ne_of_gt I.big)
  exact ⟨.ref s.heap.objs.size, upd H s.heap.objs.size (.dK (kvN kv)), I.laid (t' := s.toks) (fun b u e => (hs.2 b (Nat.ne_of_lt (Heap.lt_size e))).trans (Heap.get?_push_of_some _ e)) (Nat.le_refl _)
    (show ObjOk X.prog X.w _ _ _ (.dK (kvN kv)) from ⟨z, hm, vs, rel, d'⟩), rfl, q _ (I.hok.fresh (Nat.le_refl _))⟩
/-- d[key] -/
def tWGet (d : Addr) (kv : List (Nat × Nat)) (td ty : TE) : TE := fun σ H Q => td σ H fun x H1 => ty σ H1 fun y H2 => x = .ref d ∧ ∃ k v : Nat, y = vN k ∧ kv.lookup k = some v ∧ Q (vN v) H2
theorem valV_nat : ∀ (kv : List (Nat × Nat)) (k : Nat), valV (kvN kv) (Sum.inl (k : Int)) = (kv.lookup k).map vN := fun kv k => kvN_get kv k
theorem pe_wget {o i : Expr} {pos : Pos} {td ty : TE} (D : KNat X.K d kv) (ho : PE X o td) (hi : PE X i ty) (hs : NoSl i) : PE X (.Subscript o i pos) (tWGet d kv td ty) := by
  refine ⟨fun pins s σ H Q I h => ?_⟩
  refine subD_of PySem.F.slot_dict_getitem.lookup hs (thn (ho.run pins s σ H _ I h) fun u s1 ⟨x, H1, I1, rx, q1⟩ => thn (hi.run pins s1 σ H1 _ I1 q1) fun iv s2 ⟨y, H2, I2, ry, ex, k, v, ey, l, q2⟩ => ?_)
  subst ex
  obtain rfl : u = Value.ref d := rx
  subst ey
  obtain ⟨vs, rel, dd⟩ := D.dict (P := X.prog) (w := X.w) I2.kIn
  obtain ⟨w', hw, rw'⟩ := RelO.some_of (v := vN v) (o := valueAt vs (Sum.inl (k : Int))) (by rw [show some (vN v) = valV (kvN kv) (Sum.inl (k : Int)) by rw [valV_nat, l]; rfl]; exact rel.val _)
  refine ⟨?_, wpAny_getItem_of (kV_is (k := Sum.inl (k : Int)) ry) dd.mapOf hw ⟨vN v, H2, I2.tok _, rw', q2⟩⟩
  obtain ⟨ob, _, _, h1, h2, _⟩ := dd
  exact ⟨ob, h1, h2.1⟩
/-! ### the __init__ of the class above, called by its class -/
/-- C.m(..), m a def of the class at C, which is named -/
def tBase (C : Addr) (sp : Sp) (E : XK) (ta : TE) (t : TA) : TE := fun σ H Q => ta σ H fun x H1 => x = .ref C ∧ t σ H1 fun vs H2 => sp vs H2 Q E
theorem pe_base {CX : CXT} {k : Nat} {C f : Addr} {fd : FuncData} {ps : List Str} {mc : Value} {sp : Sp} {E : XK} {o e : Expr} {es : List Expr} {m : Str} {pos apos : Pos} {ta : TE} {t : TA} {pl : Sem Bool}
    (he : PE X o ta) (r : ClX.CRead X.K C mc) (c : ClX.CVal X.K C mc m (.ref f) (.ref f)) (kp : PySem.W.keepIn X.K (.ref f) = true) (F : FnOk X.prog X.w X.K X.mg X.base CX k f fd ps sp) (hr : Room k X.A) (hb : Binds X.K fd ps []) (hx : Passes CX X E) (ha : PA X (e :: es) t)
    (hst : starEach (e :: es) X.env = (false, eval e X.env) :: starEach es X.env := by rfl) (hpl : (backTo pos (starEach es X.env)).any (·.1) = false := by rfl)
    (ht : eval (.Call (.Attribute o m apos) (e :: es) [] pos) X.env = (do
      let ov ← eval o X.env
      standAt apos.atName
      let (f, first) ← holding [ov] (getMethod ov m pl)
      callWith pos f first (backTo pos (starEach (e :: es) X.env)) (backToKw pos (keywordEach [] X.env))) := by rfl) :
    PE X (.Call (.Attribute o m apos) (e :: es) [] pos) (tBase C sp E ta t) := by
  refine ⟨fun pins s σ H Q I h => ?_⟩
  refine PySem.W.methodCall_KW (pl := pl) (thn (he.run pins s σ H _ I h) fun u s1 ⟨x, H1, I1, rx, ex, q⟩ => ?_) ht
  subst ex
  obtain rfl : u = Value.ref C := rx
  refine PySem.W.method_cls I1.kIn r.ga (ClX.getcval_ok I1 r c fun s2 I2 => ?_)
  refine PySem.W.callWith_K (first := []) (h₀ := X.base) I2.ok.mod.kin kp (thn (ha.run pos pins s2 σ H1 _ I2 q) fun us s3 ⟨vs, H2, I3, r3, q2⟩ => ⟨I3.kIn, ?_⟩) hst hpl
  have := run_fn (us := us) (vs := vs) F hr hb .nil hx I3 r3 (by rw [List.append_nil]; exact q2)
  exact this
end
end Rd
set_option linter.all false
set_option maxRecDepth 100000
set_option maxHeartbeats 2000000
namespace Rd
open PySem PySem.Spec PyProof.Rows L2 Evl
/-! ### a riddle is made -/
/-- a new riddle -/
def r0 : R := ⟨1, 1, [], []⟩
abbrev sInitR : Stmt := inClass (top 9) 0
theorem scInitR : FnScope ["self", "longest", "wants"] ["self", "longest", "wants"] (defScope sInitR) := ⟨rfl, rfl, rfl, by decide +kernel, rfl, by decide +kernel, by decide +kernel⟩
def spInitR (C : Addr) : Sp := fun vs H Q _ => ∃ (x dx wd : Addr) (L : Int), vs = [.ref x, .int L, .ref wd] ∧ H x = some (.ins C dx []) ∧
  ∀ (H' : Hp) (ba na : Addr), Kept H H' [x] → Own C H' x ⟨L, dx, wd, ba, na⟩ r0 → H ba = none → H na = none → Q .non H'
abbrev sInitF : Stmt := inClass cField 0
abbrev sInitH : Stmt := inClass cHall 0
theorem scInitF : FnScope ["self"] ["self"] (defScope sInitF) := ⟨rfl, rfl, rfl, by decide +kernel, rfl, by decide +kernel, by decide +kernel⟩
theorem scInitH : FnScope ["self"] ["self"] (defScope sInitH) := ⟨rfl, rfl, rfl, by decide +kernel, rfl, by decide +kernel, by decide +kernel⟩
/-- the riddle of a kind is made -/
def spInit (C : Addr) (L : Nat) (ws : List (Nat × Nat)) : Sp := fun vs H Q _ => ∃ (x dx : Addr), vs = [.ref x] ∧ H x = some (.ins C dx []) ∧
  ∀ (H' : Hp) (d : Ad), Kept H H' [x] → Own C H' x d r0 → d.L = (L : Int) → d.dx = dx → H' d.wd = some (.dK (kvN ws)) → H d.wd = none → H d.ba = none → H d.na = none → d.wd ≠ d.na → Q .non H'
def fs1 (L : Int) : List (Str × V) := [("longest", .int L)]
def fs2 (L : Int) (wd : Addr) : List (Str × V) := [("longest", .int L), ("wants", .ref wd)]
def fs3 (L : Int) (wd : Addr) : List (Str × V) := [("longest", .int L), ("wants", .ref wd), ("rows", .int 1)]
def fs4 (L : Int) (wd : Addr) : List (Str × V) := [("longest", .int L), ("wants", .ref wd), ("rows", .int 1), ("columns", .int 1)]
def fs5 (L : Int) (wd ba : Addr) : List (Str × V) := [("longest", .int L), ("wants", .ref wd), ("rows", .int 1), ("columns", .int 1), ("blocked", .ref ba)]
section
variable {P : Program} {w : World} {K : PySem.W.Frag} {mg : Str → Option Value} {base : Heap} {C : Addr}
theorem ok_initR {f : Addr} {fd : FuncData} (F : Fun K "__init__" "Riddle.__init__" sInitR f fd) (T : RC K C) : FnOk P w K mg base CX0 1 f fd ["self", "longest", "wants"] (spInitR C) := by
  refine F.ok scInitR (fun vs H Q E h => ?_) (fun cdv A outer s H vs Q E hr h => ?_)
  · obtain ⟨x, dx, wd, L, rfl, _⟩ := h; rfl
  · refine ⟨_, pss_cons (ps_fld (pv 0) (pv 1) rfl) (pss_cons (ps_fld (pv 0) (pv 2) rfl) (pss_cons (ps_fld (pv 0) pe_int rfl) (pss_cons (ps_fld (pv 0) pe_int rfl) (pss_cons (ps_fld (pv 0) (pe_lst pa_nil) rfl) (pss_cons (ps_fld (pv 0) pe_dnewK rfl) pss_nil))))), ?_⟩
    obtain ⟨x, dx, wd, L, rfl, hx, k⟩ := h
    refine q_fld (v := .int L) (ev_var rfl) (ev_var rfl) hx T.cl T.n1 (by show 0 < 1000; decide) fun H1 e1 => ?_
    rw [show putF "longest" (.int L) [] = fs1 L from rfl]
    refine q_fld (v := .ref wd) (ev_var rfl) (ev_var rfl) upd_same T.cl T.n2 (by show 1 < 1000; decide) fun H2 e2 => ?_
    rw [show putF "wants" (.ref wd) (fs1 L) = fs2 L wd from put_past (by decide +kernel)]
    refine q_fld (v := .int 1) ev_c (ev_var rfl) upd_same T.cl T.n3 (by show 2 < 1000; decide) fun H3 e3 => ?_
    rw [show putF "rows" (.int 1) (fs2 L wd) = fs3 L wd from (put_past (by decide +kernel)).trans (congrArg _ (put_past (by decide +kernel)))]
    refine q_fld (v := .int 1) ev_c (ev_var rfl) upd_same T.cl T.n4 (by show 3 < 1000; decide) fun H4 e4 => ?_
    rw [show putF "columns" (.int 1) (fs3 L wd) = fs4 L wd from (put_past (by decide +kernel)).trans (congrArg _ ((put_past (by decide +kernel)).trans (congrArg _ (put_past (by decide +kernel)))))]
    refine q_fldL (el_lst ea_nil (by simp)) (ev_var rfl) upd_same T.cl T.n5 (by show 4 < 1000; decide) fun ba H5 hba e5 h5 => ?_
    rw [show putF "blocked" (.ref ba) (fs4 L wd) = fs5 L wd ba from (put_past (by decide +kernel)).trans (congrArg _ ((put_past (by decide +kernel)).trans (congrArg _ ((put_past (by decide +kernel)).trans (congrArg _ (put_past (by decide +kernel)))))))]
    refine q_fldD (ev_var rfl) upd_same T.cl T.n6 (by show 5 < 1000; decide) fun na H6 hna e6 h6 => ?_
    rw [show putF "numbers" (.ref na) (fs5 L wd ba) = rF ⟨L, dx, wd, ba, na⟩ r0 from (put_past (by decide +kernel)).trans (congrArg _ ((put_past (by decide +kernel)).trans (congrArg _ ((put_past (by decide +kernel)).trans (congrArg _ ((put_past (by decide +kernel)).trans (congrArg _ (put_past (by decide +kernel)))))))))]
    have g1 := (Grows.of_ex e1).set (a := x) (o := .ins C dx (fs1 L))
    have g2 := (g1.ex e2).set (a := x) (o := .ins C dx (fs2 L wd))
    have g3 := (g2.ex e3).set (a := x) (o := .ins C dx (fs3 L wd))
    have g4 := (g3.ex e4).set (a := x) (o := .ins C dx (fs4 L wd))
    have g5 := (g4.ex e5).set (a := x) (o := .ins C dx (fs5 L wd ba))
    have fb : H ba = none := g4 ba hba
    have fn : H na = none := g5 na hna
    have bx : ba ≠ x := ne_fresh hba
    have nx : na ≠ x := ne_fresh hna
    have hb6 : H6 ba = some (.lst []) := e6 _ _ (by rw [upd_ne bx]; exact h5)
    have k1 := (Kept.of_ex (xs := [x]) e1).set (a := x) (o := .ins C dx (fs1 L)) (by simp)
    have k2 := (k1.ex e2).set (a := x) (o := .ins C dx (fs2 L wd)) (by simp)
    have k3 := (k2.ex e3).set (a := x) (o := .ins C dx (fs3 L wd)) (by simp)
    have k4 := (k3.ex e4).set (a := x) (o := .ins C dx (fs4 L wd)) (by simp)
    have k5 := (k4.ex e5).set (a := x) (o := .ins C dx (fs5 L wd ba)) (by simp)
    have k6 := (k5.ex e6).set (a := x) (o := .ins C dx (rF ⟨L, dx, wd, ba, na⟩ r0)) (by simp)
    refine k _ ba na k6 ?_ fb fn
    exact ⟨⟨ok_new (by decide) (by decide) (by decide) (by decide), upd_same, by rw [upd_ne bx]; exact hb6, .inl (by rw [upd_ne nx]; exact h6)⟩, by rw [upd_ne nx]; exact h6⟩
end
/-- the class above, as the text names it -/
structure Abv (P : Program) (w : World) (K : PySem.W.Frag) (mg : Str → Option Value) (base : Heap) (C CR : Addr) (mc : Value) (f : Addr) (fd : FuncData) : Prop where
  nm : mg "Riddle" = some (.ref CR)
  rd : ClX.CRead K CR mc
  at_ : ClX.CVal K CR mc "__init__" (.ref f) (.ref f)
  kp : PySem.W.keepIn K (.ref f) = true
  ok : FnOk P w K mg base CX0 1 f fd ["self", "longest", "wants"] (spInitR C)
  bd : Binds K fd ["self", "longest", "wants"] []
section
variable {P : Program} {w : World} {K : PySem.W.Frag} {mg : Str → Option Value} {base : Heap} {C : Addr}
/-- what the call of the class above does -/
theorem s_base {σ : L2.St} {H : Hp} {CR W x dx : Addr} {L : Nat} {ws : List (Nat × Nat)} {D : Ends} {E : XK} (D0 : KNat K W ws) (s0 : σ[0]? = some (some (.ref x))) (hx : H x = some (.ins C dx []))
    (k : ∀ (H' : Hp) (d : Ad), Kept H H' [x] → Own C H' x d r0 → d.L = (L : Int) → d.dx = dx → H' d.wd = some (.dK (kvN ws)) → H d.wd = none → H d.ba = none → H d.na = none → d.wd ≠ d.na → D.nx σ H') :
    tDrop (tBase CR (spInitR C) E (tC (.ref CR)) (tCons (tVar 0) (tCons (tC (.int (L : Int))) (tCons (tCB (fun xs H Q => ∃ (d : Addr) (kv : List (Nat × Nat)), xs = [.ref d] ∧ KNat K d kv ∧ ∀ p, H p = none → Q (.ref p) (upd H p (.dK (kvN kv)))) (tCons (tC (.ref W)) tNil)) tNil)))) D σ H := by
  refine ⟨rfl, _, s0, W, ws, rfl, D0, fun p hp => ?_⟩
  have px : x ≠ p := fun e => by subst e; rw [hx] at hp; cases hp
  refine ⟨x, dx, p, (L : Int), rfl, by rw [upd_ne px]; exact hx, fun H' ba na k1 O hb hn => ?_⟩
  have e1 : Ex H (upd H p (.dK (kvN ws))) := Ex.new hp
  have hn' : na ≠ p := ne_fresh hn
  exact k H' ⟨(L : Int), dx, p, ba, na⟩ (fun b o hb hnb => k1 b o (e1 b o hb) hnb) O rfl rfl (k1 p _ upd_same (by simp; exact fun e => px e.symm)) hp (fresh_back e1 hb) (fresh_back e1 hn) fun e => hn' e.symm
theorem ok_initF {f CR W fR : Addr} {fd fdR : FuncData} {mc : Value} (F : Fun K "__init__" "Field.__init__" sInitF f fd) (T : RC K C) (B : Abv P w K mg base C CR mc fR fdR) (gD : mg "dict" = none) (cL : KInt mg "LONGEST_field" 5) (cW : mg "WANTED_field" = some (.ref W)) (D : KNat K W wantsF) :
    FnOk P w K mg base CX0 2 f fd ["self"] (spInit C 5 wantsF) := by
  refine F.ok scInitF (fun vs H Q E h => ?_) (fun cdv A outer s H vs Q E hr h => ?_)
  · obtain ⟨x, dx, rfl, _⟩ := h; rfl
  · obtain ⟨tL, cL⟩ := cL
    refine ⟨_, pss_one (ps_expr (pe_base (pe_glob (v := .ref CR) rfl B.nm rfl) B.rd B.at_ B.kp B.ok hr B.bd pass0
      (pa_cons (pv 0) (pa_cons (pe_glob (v := .int 5) rfl cL ⟨_, rfl⟩) (pa_cons (pe_callTy call_dictW (by rfl) gD (by decide +kernel) (pa_cons (pe_glob (v := .ref W) rfl cW rfl) pa_nil)) pa_nil))))), ?_⟩
    obtain ⟨x, dx, rfl, hx, k⟩ := h
    exact s_base (L := 5) D rfl hx k
theorem ok_initH {f CR W fR : Addr} {fd fdR : FuncData} {mc : Value} (F : Fun K "__init__" "Hall.__init__" sInitH f fd) (T : RC K C) (B : Abv P w K mg base C CR mc fR fdR) (gD : mg "dict" = none) (cL : KInt mg "LONGEST_hall" 4) (cW : mg "WANTED_hall" = some (.ref W)) (D : KNat K W wantsH) :
    FnOk P w K mg base CX0 2 f fd ["self"] (spInit C 4 wantsH) := by
  refine F.ok scInitH (fun vs H Q E h => ?_) (fun cdv A outer s H vs Q E hr h => ?_)
  · obtain ⟨x, dx, rfl, _⟩ := h; rfl
  · obtain ⟨tL, cL⟩ := cL
    refine ⟨_, pss_one (ps_expr (pe_base (pe_glob (v := .ref CR) rfl B.nm rfl) B.rd B.at_ B.kp B.ok hr B.bd pass0
      (pa_cons (pv 0) (pa_cons (pe_glob (v := .int 4) rfl cL ⟨_, rfl⟩) (pa_cons (pe_callTy call_dictW (by rfl) gD (by decide +kernel) (pa_cons (pe_glob (v := .ref W) rfl cW rfl) pa_nil)) pa_nil))))), ?_⟩
    obtain ⟨x, dx, rfl, hx, k⟩ := h
    exact s_base (L := 4) D rfl hx k
end
end Rd
set_option linter.all false
set_option maxRecDepth 100000
set_option maxHeartbeats 2000000
namespace Rd
open PySem PySem.Spec PyProof.Rows L2 Evl
open PySem.W (EqTree)
/-! ### a riddle's makeup, and whether two are the same -/
structure IsMk (H : Hp) (t : Addr) (r : R) : Prop where
  ex : ∃ la da : Addr, H t = some (.tup [vN r.rows, vN r.cols, .ref la, .ref da]) ∧ H la = some (.lst (vL r.bl)) ∧ H da = some (.dK (kvN r.nums))
theorem IsMk.mono {H H' : Hp} {t : Addr} {r : R} (e : Ex H H') (m : IsMk H t r) : IsMk H' t r := by
  obtain ⟨la, da, h1, h2, h3⟩ := m.ex
  exact ⟨la, da, e _ _ h1, e _ _ h2, e _ _ h3⟩
def sameN (n1 n2 : List (Nat × Nat)) : Bool := n1.length == n2.length && n1.all fun p => (n2.lookup p.1).isSome && decide (n1.lookup p.1 = n2.lookup p.1)
def sameB (r r' : R) : Bool := decide (r.rows = r'.rows) && (decide (r.cols = r'.cols) && (decide (r.bl = r'.bl) && sameN r.nums r'.nums))
theorem look_mem : ∀ {l : List (Nat × Nat)}, (l.map (·.1)).Nodup → ∀ n v, l.lookup n = some v ↔ (n, v) ∈ l
  | [], _, n, v => by simp
  | q :: l, h, n, v => by
    rw [List.map_cons, List.nodup_cons] at h
    rw [List.lookup_cons]
    by_cases e : n = q.1
    · subst e
      simp only [beq_self_eq_true, List.mem_cons]
      constructor
      · intro h2; cases h2; exact .inl rfl
      · rintro (h2 | h2)
        · rw [← h2]
        · exact absurd (List.mem_map.mpr ⟨_, h2, rfl⟩) h.1
    · have e2 : (n == q.1) = false := by simpa using e
      rw [e2]
      simp only [List.mem_cons]
      rw [look_mem h.2]
      constructor
      · exact .inr
      · rintro (h2 | h2)
        · rw [← h2] at e; exact absurd rfl e
        · exact h2
theorem full_back : ∀ {a b : List Nat}, a.Nodup → (∀ x ∈ a, x ∈ b) → b.length ≤ a.length → ∀ x ∈ b, x ∈ a
  | [], b, _, _, hl, x, hx => by
    have : b = [] := List.eq_nil_of_length_eq_zero (by simpa using hl)
    rw [this] at hx; cases hx
  | h :: t, b, nd, hs, hl, x, hx => by
    rw [List.nodup_cons] at nd
    by_cases e : x = h
    · rw [e]; exact List.mem_cons_self
    · have hb : h ∈ b := hs h List.mem_cons_self
      refine List.mem_cons_of_mem _ (full_back (b := b.erase h) nd.2 (fun y hy => ?_) ?_ x ((List.mem_erase_of_ne e).mpr hx))
      · exact (List.mem_erase_of_ne (fun z => nd.1 (by rw [← z]; exact hy))).mpr (hs y (List.mem_cons_of_mem _ hy))
      · rw [List.length_erase_of_mem hb]
        rw [List.length_cons] at hl
        omega
theorem sameN_iff {n1 n2 : List (Nat × Nat)} (h1 : (n1.map (·.1)).Nodup) (h2 : (n2.map (·.1)).Nodup) : sameN n1 n2 = true ↔ ∀ n, n1.lookup n = n2.lookup n := by
  unfold sameN
  rw [Bool.and_eq_true, beq_iff_eq, List.all_eq_true]
  constructor
  · rintro ⟨hl, ha⟩ n
    have sub : ∀ x ∈ n1.map (·.1), x ∈ n2.map (·.1) := fun x hx => by
      obtain ⟨p, hp, rfl⟩ := List.mem_map.mp hx
      have := ha p hp
      rw [Bool.and_eq_true] at this
      obtain ⟨v, hv⟩ := Option.isSome_iff_exists.mp this.1
      exact List.mem_map.mpr ⟨_, (look_mem h2 _ _).mp hv, rfl⟩
    have sp : (n1.map (·.1)).Perm (n2.map (·.1)) := by
      exact (List.perm_ext_iff_of_nodup h1 h2).mpr fun x => ⟨sub x, full_back h1 sub (by rw [List.length_map, List.length_map]; omega) x⟩
    by_cases c : n ∈ n1.map (·.1)
    · obtain ⟨p, hp, rfl⟩ := List.mem_map.mp c
      have := ha p hp
      rw [Bool.and_eq_true, decide_eq_true_eq] at this
      exact this.2
    · have c2 : n ∉ n2.map (·.1) := fun z => c (sp.mem_iff.mpr z)
      have none_of : ∀ {l : List (Nat × Nat)}, (l.map (·.1)).Nodup → n ∉ l.map (·.1) → l.lookup n = none := fun {l} hn hc => by
        cases e : l.lookup n with
        | none => rfl
        | some v => exact absurd (List.mem_map.mpr ⟨_, (look_mem hn _ _).mp e, rfl⟩) hc
      rw [none_of h1 c, none_of h2 c2]
  · intro h
    have mm : ∀ x, x ∈ n1.map (·.1) ↔ x ∈ n2.map (·.1) := fun x => by
      have key : ∀ {l : List (Nat × Nat)}, (l.map (·.1)).Nodup → (x ∈ l.map (·.1) ↔ (l.lookup x).isSome = true) := fun {l} hn => by
        rw [List.mem_map, Option.isSome_iff_exists]
        constructor
        · rintro ⟨⟨a, v⟩, hp, rfl⟩; exact ⟨v, (look_mem hn _ _).mpr hp⟩
        · rintro ⟨v, hv⟩; exact ⟨_, (look_mem hn _ _).mp hv, rfl⟩
      rw [key h1, key h2, h]
    have sp : (n1.map (·.1)).Perm (n2.map (·.1)) := (List.perm_ext_iff_of_nodup h1 h2).mpr mm
    refine ⟨by have := sp.length_eq; simpa using this, fun p hp => ?_⟩
    rw [← h p.1, (look_mem h1 p.1 p.2).mpr hp]
    simp
theorem sameB_iff {r r' : R} (h1 : (r.nums.map (·.1)).Nodup) (h2 : (r'.nums.map (·.1)).Nodup) : sameB r r' = true ↔ Same r r' := by
  unfold sameB
  rw [Bool.and_eq_true, Bool.and_eq_true, Bool.and_eq_true, decide_eq_true_eq, decide_eq_true_eq, decide_eq_true_eq, sameN_iff h1 h2]
  exact ⟨fun ⟨a, b, c, d⟩ => ⟨a, b, c, d⟩, fun ⟨a, b, c, d⟩ => ⟨a, b, c, d⟩⟩
/-! ### == of two makeups -/
theorem tree_int {P : Program} {w : World} {s : Shared} {n : Nat} {a c : Int} {t u : Tok} : EqTree P w s n (.int a t) (.int c u) (decide (a = c)) := .leaf fun A _ => by
  obtain ⟨e, h1, h2⟩ := HT.eqAt_int A s a t c u
  have : decide (a = c) = e := by
    cases e with
    | true => exact decide_eq_true (h2.mp rfl)
    | false => exact decide_eq_false fun z => by have := h2.mpr z; cases this
  rw [this]
  exact h1
theorem vals_at : ∀ {xs : List Nat} {us : List Value}, Vals (vL xs) us → us.length = xs.length ∧ ∀ j (h : j < us.length), ∃ t, us[j] = .int ((xs.getD j 0 : Nat) : Int) t
  | [], _, .nil => ⟨rfl, fun j h => absurd h (Nat.not_lt_zero j)⟩
  | x :: xs, _, .cons r rs => by
    obtain ⟨h1, h2⟩ := vals_at rs
    obtain ⟨t, ht⟩ := r
    refine ⟨by rw [List.length_cons, List.length_cons, h1], fun j h => ?_⟩
    cases j with
    | zero => exact ⟨t, ht⟩
    | succ j => exact h2 j (Nat.lt_of_succ_lt_succ h)
theorem all_getD {xs ys : List Nat} (h : xs.length = ys.length) : ((List.range xs.length).all fun j => decide (xs.getD j 0 = ys.getD j 0)) = decide (xs = ys) := by
  rw [Bool.eq_iff_iff, decide_eq_true_eq, List.all_eq_true]
  constructor
  · intro k
    apply List.ext_getElem h
    intro i q q'
    have := k i (List.mem_range.mpr q)
    rw [decide_eq_true_eq, List.getD_eq_getElem?_getD, List.getD_eq_getElem?_getD, List.getElem?_eq_getElem q, List.getElem?_eq_getElem q'] at this
    exact this
  · rintro rfl j _
    exact decide_eq_true rfl
section
variable {X : Cx} {pins : List (Addr × Obj)} {σ : L2.St} {H : Hp} {s : Shared}
theorem tree_list (I : Inv X pins σ H s) {a b : Addr} {xs ys : List Nat} (ha : H a = some (.lst (vL xs))) (hb : H b = some (.lst (vL ys))) : EqTree X.prog X.w s 1 (.ref a) (.ref b) (decide (xs = ys)) := by
  by_cases e : a = b
  · subst e
    rw [ha] at hb
    have hb : HO.lst (vL xs) = HO.lst (vL ys) := Option.some.inj hb
    have : vL xs = vL ys := by injection hb
    have : xs = ys := by
      have h2 := congrArg (List.map fun v : V => match v with | .int i => i.toNat | _ => 0) this
      have e : ∀ l : List Nat, (vL l).map (fun v : V => match v with | .int i => i.toNat | _ => 0) = l := fun l => by
        unfold vL
        rw [List.map_map]
        conv => rhs; rw [← List.map_id l]
        apply List.map_congr_left
        intro x _
        rfl
      rw [e, e] at h2
      exact h2
    rw [decide_eq_true this]
    exact .same
  · obtain ⟨us, r1, p1, _⟩ := I.list (sq_of ha)
    obtain ⟨ws, r2, p2, _⟩ := I.list (sq_of hb)
    obtain ⟨l1, g1⟩ := vals_at r1
    obtain ⟨l2, g2⟩ := vals_at r2
    by_cases c : xs.length = ys.length
    · rw [← all_getD c]
      have := EqTree.lists (prog := X.prog) (w := X.w) (n := 0) (e := fun j => decide (xs.getD j 0 = ys.getD j 0)) e p1.isList p2.isList (by simp only [List.size_toArray]; omega) fun j h1 h2 => by
        have q1 : j < us.length := by simpa using h1
        have q2 : j < ws.length := by simpa using h2
        obtain ⟨t, ht⟩ := g1 j q1
        obtain ⟨u, hu⟩ := g2 j q2
        rw [List.getElem_toArray, List.getElem_toArray, ht, hu]
        have : decide (xs.getD j 0 = ys.getD j 0) = decide (((xs.getD j 0 : Nat) : Int) = ((ys.getD j 0 : Nat) : Int)) := by
          apply decide_eq_decide.mpr; omega
        rw [this]
        exact tree_int
      rw [List.size_toArray, l1] at this
      exact this
    · rw [decide_eq_false fun z => c (by rw [z])]
      exact .listsLen e p1.isList p2.isList (by simp only [List.size_toArray, l1, l2, bne_iff_ne]; exact c)
def lookK (ns : List (Nat × Nat)) : L2.Key → Option Nat
  | .inl i => ns.lookup i.toNat
  | .inr _ => none
theorem valV_look (ns : List (Nat × Nat)) (k : Nat) : valV (kvN ns) (Sum.inl (k : Int)) = (lookK ns (Sum.inl (k : Int))).map vN := by
  rw [valV_nat]
  show _ = (ns.lookup ((k : Int)).toNat).map vN
  rw [Int.toNat_natCast]
theorem tree_dict (I : Inv X pins σ H s) {a b : Addr} {n1 n2 : List (Nat × Nat)} (ha : H a = some (.dK (kvN n1))) (hb : H b = some (.dK (kvN n2))) (h1 : (n1.map (·.1)).Nodup) (hs : a = b → sameN n1 n2 = true) : EqTree X.prog X.w s 1 (.ref a) (.ref b) (sameN n1 n2) := by
  by_cases e : a = b
  · rw [hs e]; subst e
    exact .same
  · obtain ⟨_, ya, va, ra, da⟩ := dk_of I.hok ha
    obtain ⟨_, yb, vb, rb, db⟩ := dk_of I.hok hb
    have key : ∀ k v, (k, v) ∈ va → ∃ (m x : Nat) (t : Tok), k = Sum.inl (m : Int) ∧ v = .int (x : Int) t ∧ n1.lookup m = some x := by
      intro k v hm
      obtain ⟨i, hi, hv⟩ := List.getElem_of_mem hm
      have hl : (kvN n1).length = va.length := ra.length
      have hi' : i < n1.length := by rw [kvN_len] at hl; omega
      obtain ⟨q, hq, hr⟩ := Paired.get ra (show (kvN n1)[i]? = some (Sum.inl ((n1[i]).1 : Int), vN (n1[i]).2) by unfold kvN; rw [List.getElem?_map, List.getElem?_eq_getElem hi']; rfl)
      rw [List.getElem?_eq_getElem hi, hv] at hq
      obtain rfl := Option.some.inj hq
      obtain ⟨t, ht⟩ := hr.2
      exact ⟨(n1[i]).1, (n1[i]).2, t, hr.1.symm, ht, (look_mem h1 _ _).mpr (List.getElem_mem hi')⟩
    have tr := EqTree.dicts (prog := X.prog) (w := X.w) (n := 0) (e := fun k => decide (lookK n1 k = lookK n2 k)) e ya yb da db fun k v y hm hy => by
      obtain ⟨m, x, t, rfl, rfl, hx⟩ := key k v hm
      have rv := rb.val (Sum.inl (m : Int))
      rw [hy, valV_look] at rv
      cases e2 : lookK n2 (Sum.inl (m : Int)) with
      | none => rw [e2] at rv; cases rv
      | some z =>
        rw [e2] at rv
        obtain ⟨w', hw, hr⟩ := rv.some_of
        obtain rfl := Option.some.inj hw
        obtain ⟨u, rfl⟩ := hr
        have : decide (lookK n1 (Sum.inl (m : Int)) = some z) = decide ((x : Int) = (z : Int)) := by
          apply decide_eq_decide.mpr
          show n1.lookup ((m : Int)).toNat = some z ↔ _
          rw [Int.toNat_natCast, hx]
          constructor
          · intro h; have := Option.some.inj h; omega
          · intro h; congr 1; omega
        rw [this]
        exact tree_int
    have hk : (kvN n1).map (·.1) = va.map (·.1) := ra.keys
    have e1 : va.all (fun p => (valueAt vb p.1).isSome && decide (lookK n1 p.1 = lookK n2 p.1)) = n1.all fun p => (n2.lookup p.1).isSome && decide (n1.lookup p.1 = n2.lookup p.1) := by
      have f1 : va.all (fun p => (valueAt vb p.1).isSome && decide (lookK n1 p.1 = lookK n2 p.1)) = (va.map (·.1)).all fun k => (valueAt vb k).isSome && decide (lookK n1 k = lookK n2 k) := by rw [List.all_map]; rfl
      have f2 : (kvN n1).map (·.1) = n1.map fun p => (Sum.inl (p.1 : Int) : L2.Key) := by unfold kvN; rw [List.map_map]; rfl
      rw [f1, ← hk, f2, List.all_map]
      congr 1
      funext p
      show ((valueAt vb (Sum.inl (p.1 : Int))).isSome && decide (lookK n1 (Sum.inl (p.1 : Int)) = lookK n2 (Sum.inl (p.1 : Int)))) = _
      rw [← (rb.val (Sum.inl (p.1 : Int))).isSome_eq, valV_nat, Option.isSome_map]
      show (_ && decide (n1.lookup ((p.1 : Int)).toNat = n2.lookup ((p.1 : Int)).toNat)) = _
      rw [Int.toNat_natCast]
    have e2 : (va.length == vb.length) = (n1.length == n2.length) := by rw [← ra.length, ← rb.length, kvN_len, kvN_len]
    rw [e1, e2] at tr
    exact tr
def eMk (r r' : R) : Nat → Bool
  | 0 => decide (r.rows = r'.rows)
  | 1 => decide (r.cols = r'.cols)
  | 2 => decide (r.bl = r'.bl)
  | _ => sameN r.nums r'.nums
theorem sameN_of {n1 n2 : List (Nat × Nat)} (h1 : (n1.map (·.1)).Nodup) (h2 : (n2.map (·.1)).Nodup) (e : kvN n1 = kvN n2) : sameN n1 n2 = true := (sameN_iff h1 h2).mpr fun n => by
  have := valV_nat n1 n
  rw [e, valV_nat] at this
  cases e1 : n1.lookup n with
  | none => rw [e1] at this; cases e2 : n2.lookup n with
    | none => rfl
    | some v => rw [e2] at this; cases this
  | some v =>
    rw [e1] at this
    cases e2 : n2.lookup n with
    | none => rw [e2] at this; cases this
    | some z =>
      rw [e2] at this
      have : vN z = vN v := Option.some.inj this
      have : (z : Int) = (v : Int) := by injection this
      congr 1; omega
theorem op_eqMk (hu : X.A.units + 2 < cLine) : OpR X (compareOp .Eq) (fun x y H Q => ∃ (t t' : Addr) (r r' : R), x = .ref t ∧ y = .ref t' ∧ IsMk H t r ∧ IsMk H t' r' ∧ (r.nums.map (·.1)).Nodup ∧ (r'.nums.map (·.1)).Nodup ∧ Q (.bl (sameB r r')) H) := by
  intro pins s σ H x y v u Q I rx ry h
  obtain ⟨t, t', r, r', rfl, rfl, m, m', n1, n2, q⟩ := h
  obtain rfl : v = Value.ref t := rx
  obtain rfl : u = Value.ref t' := ry
  obtain ⟨la, da, h1, h2, h3⟩ := m.ex
  obtain ⟨la', da', k1, k2, k3⟩ := m'.ex
  obtain ⟨its, r1, p1, _⟩ := I.tuple (.inl (Rd.of h1))
  obtain ⟨its', r2, p2, _⟩ := I.tuple (.inl (Rd.of k1))
  have sh : ∀ {rows cols : Nat} {l d : Addr} {us : List Value}, Vals [vN rows, vN cols, .ref l, .ref d] us → ∃ t1 t2, us = [.int rows t1, .int cols t2, .ref l, .ref d] := by
    intro rows cols l d us h
    cases h with
    | cons a h => cases h with
      | cons b h => cases h with
        | cons c h => cases h with
          | cons d h =>
            cases h
            obtain ⟨t1, rfl⟩ := a
            obtain ⟨t2, rfl⟩ := b
            cases c; cases d
            exact ⟨t1, t2, rfl⟩
  obtain ⟨t1, t2, rfl⟩ := sh r1
  obtain ⟨u1, u2, rfl⟩ := sh r2
  have dd : ∀ {a b : Nat}, decide (a = b) = decide ((a : Int) = (b : Int)) := fun {a b} => by apply decide_eq_decide.mpr; omega
  refine PySem.W.eq_tuplesT (n := 1) (e := eMk r r') p1 p2 (fun j j1 j2 => ?_) hu ?_
  · match j, j1, j2 with
    | 0, _, _ => show EqTree _ _ _ _ (.int (r.rows : Int) t1) (.int (r'.rows : Int) u1) (decide (r.rows = r'.rows)); rw [dd]; exact tree_int
    | 1, _, _ => show EqTree _ _ _ _ (.int (r.cols : Int) t2) (.int (r'.cols : Int) u2) (decide (r.cols = r'.cols)); rw [dd]; exact tree_int
    | 2, _, _ => exact tree_list I h2 k2
    | 3, _, _ =>
      refine tree_dict I h3 k3 n1 fun e => ?_
      subst e
      rw [h3] at k3
      have k3 : HO.dK (kvN r.nums) = HO.dK (kvN r'.nums) := Option.some.inj k3
      exact sameN_of n1 n2 (by injection k3)
    | j + 4, j1, _ => exact absurd j1 (by simp)
  · have : ((List.range (min ([.int (r.rows : Int) t1, .int (r.cols : Int) t2, .ref la, .ref da] : List Value).toArray.size ([.int (r'.rows : Int) u1, .int (r'.cols : Int) u2, .ref la', .ref da'] : List Value).toArray.size)).all (eMk r r') &&
        ([.int (r.rows : Int) t1, .int (r.cols : Int) t2, .ref la, .ref da] : List Value).toArray.size == ([.int (r'.rows : Int) u1, .int (r'.cols : Int) u2, .ref la', .ref da'] : List Value).toArray.size) = sameB r r' := by
      show ((eMk r r' 0 && (eMk r r' 1 && (eMk r r' 2 && (eMk r r' 3 && true)))) && true) = _
      rw [Bool.and_true, Bool.and_true]
      rfl
    rw [this]
    exact ⟨.bl (sameB r r'), H, I, rfl, q⟩
end
end Rd
set_option linter.all false
set_option maxRecDepth 100000
set_option maxHeartbeats 2000000
namespace Rd
open PySem PySem.Spec PyProof.Rows L2 Evl
/-! ### makeup -/
/-- a makeup that is new since H0 -/
structure MkN (H0 H : Hp) (t : Addr) (r : R) : Prop where
  ex : ∃ la da : Addr, (H0 t = none ∧ H0 la = none ∧ H0 da = none) ∧ H t = some (.tup [vN r.rows, vN r.cols, .ref la, .ref da]) ∧ H la = some (.lst (vL r.bl)) ∧ H da = some (.dK (kvN r.nums))
theorem MkN.is {H0 H : Hp} {t : Addr} {r : R} (m : MkN H0 H t r) : IsMk H t r := by
  obtain ⟨la, da, _, h⟩ := m.ex
  exact ⟨la, da, h⟩
/-- it stays as it is while what was there before changes -/
theorem MkN.kept {H0 H H' : Hp} {t : Addr} {r : R} {xs : List Addr} (m : MkN H0 H t r) (k : Kept H H' xs) (hx : ∀ a ∈ xs, H0 a ≠ none) : MkN H0 H' t r := by
  obtain ⟨la, da, ⟨f1, f2, f3⟩, h1, h2, h3⟩ := m.ex
  exact ⟨la, da, ⟨f1, f2, f3⟩, k _ _ h1 fun z => hx _ z f1, k _ _ h2 fun z => hx _ z f2, k _ _ h3 fun z => hx _ z f3⟩
theorem MkN.ex' {H0 H H' : Hp} {t : Addr} {r : R} (m : MkN H0 H t r) (e : Ex H H') : MkN H0 H' t r := m.kept (xs := []) (Kept.of_ex e) fun _ h => nomatch h
def spMakeup (C : Addr) : Sp := fun vs H Q _ => ∃ (x : Addr) (d : Ad) (r : R), vs = [.ref x] ∧ Seen C H x d r ∧ ∀ (H' : Hp) (t : Addr), Ex H H' → MkN H H' t r → Q (.ref t) H'
abbrev sMakeup : Stmt := inClass (top 9) 1
theorem scMakeup : FnScope ["self"] ["self"] (defScope sMakeup) := ⟨rfl, rfl, rfl, by decide +kernel, rfl, by decide +kernel, by decide +kernel⟩
section
variable {P : Program} {w : World} {K : PySem.W.Frag} {mg : Str → Option Value} {base : Heap} {C : Addr}
theorem ok_makeup {f : Addr} {fd : FuncData} (F : Fun K "makeup" "Riddle.makeup" sMakeup f fd) (T : RC K C) (gLi : mg "list" = none) (gD : mg "dict" = none) : FnOk P w K mg base CX0 1 f fd ["self"] (spMakeup C) := by
  refine F.ok scMakeup (fun vs H Q E h => ?_) (fun cdv A outer s H vs Q E hr h => ?_)
  · obtain ⟨x, d, r, rfl, _⟩ := h; rfl
  · refine ⟨_, pss_one (ps_ret (pe_tup (pa_cons (pe_fld (pv 0) rfl) (pa_cons (pe_fld (pv 0) rfl) (pa_cons (pe_callTy call_list_of (by rfl) gLi (by decide +kernel) (pa_cons (pe_fld (pv 0) rfl) pa_nil)) (pa_cons (pe_callTy call_dictD (by rfl) gD (by decide +kernel) (pa_cons (pe_fld (pv 0) rfl) pa_nil)) pa_nil)))))), ?_⟩
    obtain ⟨x, d, r, rfl, S, k⟩ := h
    have v0 : ∀ H1, Ev (tVar 0) [some (V.ref x)] H1 (.ref x) := fun H1 => ev_var rfl
    dsimp only [tRet, tTup, tCons, tNil, tCB]
    refine ev_rows T S (v0 _) H (Ex.refl H) _ fun H1 e1 => ?_
    refine ev_cols T (S.mono e1) (v0 _) H1 (Ex.refl H1) _ fun H2 e2 => ?_
    have S2 := S.mono (e1.trans e2)
    refine ev_blk T S2 (v0 _) H2 (Ex.refl H2) _ fun H3 e3 => ⟨d.ba, vL r.bl, rfl, .inl (sq_of (S2.mono e3).bl), fun la hla => ?_⟩
    have S4 := (S2.mono e3).mono (Ex.new (o := .lst (vL r.bl)) hla)
    refine ev_num T S4 (v0 _) _ (Ex.refl _) _ fun H5 e5 => ⟨d.na, kvN r.nums, rfl, (S4.mono e5).nu, fun da hda => ?_⟩
    refine ⟨by show 4 ≤ sizeLine; decide, fun t ht => ?_⟩
    have x1 : Ex H H3 := (e1.trans e2).trans e3
    have x2 : Ex H H5 := (x1.trans (Ex.new hla)).trans e5
    have x3 : Ex H (upd H5 da (.dK (kvN r.nums))) := x2.trans (Ex.new hda)
    have hl5 : H5 la = some (.lst (vL r.bl)) := e5 _ _ upd_same
    have ld : la ≠ da := fun z => by rw [z, hda] at hl5; cases hl5
    have td : t ≠ da := ne_fresh ht
    have tl : t ≠ la := fun z => by rw [z, upd_ne ld, hl5] at ht; cases ht
    refine k _ t (x3.trans (Ex.new ht)) ⟨la, da, ⟨fresh_back x3 ht, fresh_back x1 hla, fresh_back x2 hda⟩, upd_same, ?_, ?_⟩
    · rw [upd_ne (fun z => tl z.symm), upd_ne ld]; exact hl5
    · rw [upd_ne (fun z => td z.symm), upd_same]
end
end Rd
set_option linter.all false
set_option maxRecDepth 100000
set_option maxHeartbeats 2000000
namespace Rd
open PySem PySem.Spec PyProof.Rows L2 Evl
/-! ### one of two readings: an object of one class or of another -/
def tOr (t1 t2 : TE) : TE := fun σ H Q => t1 σ H Q ∨ t2 σ H Q
theorem pe_or {X : Cx} {e : Expr} {t1 t2 : TE} (h1 : PE X e t1) (h2 : PE X e t2) : PE X e (tOr t1 t2) :=
  ⟨fun pins s σ H Q I h => h.elim (fun h => h1.run pins s σ H Q I h) (fun h => h2.run pins s σ H Q I h)⟩
/-! ### having -/
def havM (cell sign : Nat) (q : List Nat) : Bool := q.contains cell == (sign == 1)
def spHaving : Sp := fun vs H Q _ => ∃ (p : Addr) (as : List Addr) (c s : Nat) (xss : List (List Nat)), vs = [.ref p, vN c, vN s] ∧ H p = some (.lst (as.map V.ref)) ∧ LLs H as xss ∧ xss.length ≤ 99999 ∧ RetP (IsLL (xss.filter (havM c s))) H Q
abbrev sHaving : Stmt := top 47
abbrev nHaving : List Str := ["ways", "cell", "sign", "way"]
theorem scHaving : FnScope nHaving ["ways", "cell", "sign"] (defScope sHaving) := ⟨rfl, rfl, rfl, by decide +kernel, rfl, by decide +kernel, by decide +kernel⟩
section
variable {P : Program} {w : World} {K : PySem.W.Frag} {mg : Str → Option Value} {base : Heap}
theorem rv_eqB {H : Hp} {a b : Bool} : RV rEq (.bl a) (.bl b) H (.bl (a == b)) := fun H1 e Q q => ⟨rfl, by rw [dec_bl]; exact q H1 (Ex.refl H1)⟩
theorem ok_having {f : Addr} {fd : FuncData} (F : Fun K "having" "having" sHaving f fd) (c1 : KInt mg "THERE_IS" 1) : FnOk P w K mg base CX0 1 f fd ["ways", "cell", "sign"] spHaving := by
  refine F.ok scHaving (fun vs H Q E h => ?_) (fun cdv A outer s H vs Q E hr h => ?_)
  · obtain ⟨p, as, c, s, xss, rfl, _⟩ := h; rfl
  · obtain ⟨t1, c1⟩ := c1
    refine ⟨_, pss_one (ps_ret (pe_lc (own := [("way", 3)]) (g := gName 3) (tt := tTest (tOp rEq (tOp (rIn K false) (tVar 1) (tVar 3)) (tOp rEq (tVar 2) (tC (.int 1))))) (te := tVar 3) rfl scHaving.nd (pi_list (pv 0)) (blkOk_by (N := nHaving) (sc := defScope sHaving) (by decide +kernel))
      (fun _ _ _ _ _ => pg_name (i := 3) scHaving.nd rfl (Or.inl rfl))
      (fun _ _ _ _ _ => pts_one (pt_cmpR op_eq (pe_cmpR op_in_seq (pv 1) (pv 3) (by rfl)) (pe_cmpR op_eq (pv 2) (pe_glob (v := .int 1) rfl c1 ⟨_, rfl⟩) (by rfl)) (by rfl))) (fun _ _ _ _ _ => pv 3))), ?_⟩
    obtain ⟨p, as, c, s, xss, rfl, hp, hl, hz, k⟩ := h
    refine s_retP (ep_lcLL (havM c s) (fun H1 e Q q => ⟨_, rfl, q _ H1 (Ex.refl H1) ⟨p, as, rfl, e _ _ hp, hl.mono e⟩⟩) hz (fun _ => rfl) (fun _ => rfl) fun a q H1 e1 ha hq => ?_) k
    refine et_test (ev_is (ev_op (ev_op (ev_var rfl) (ev_var rfl) (rv_inL (sq_of ha) rfl (flat_vL _))) (ev_is (ev_op (ev_var rfl) ev_c (rv_eqN (a := s) (b := 1))) rfl) rv_eqB) ?_)
    rw [inV_vL]
    rfl
end
end Rd
set_option linter.all false
set_option maxRecDepth 100000
set_option maxHeartbeats 2000000
namespace Rd
/-! ### a sheet, told and true -/
structure T where
  who : Nat
  which : Nat
  marks : List (Nat × Nat)
  slips : Nat
  may : Nat
  sure : Nat
structure LT (t : T) (s : Sy86.Sheet) : Prop where
  who : t.who = s.who
  which : t.which = s.which
  nd : (t.marks.map (·.1)).Nodup
  mem : ∀ p, p ∈ t.marks ↔ p ∈ s.marks
  rising : Rising (s.marks.map (·.1))
  slips : t.slips = s.slips
  may : t.may = s.may
  sure : t.sure = s.sure
/-- the ways that are left, mark by mark -/
def leftM (ws : List (List Nat)) (ms : List (Nat × Nat)) : List (List Nat) := ms.foldl (fun w p => w.filter (havM p.1 p.2)) ws
theorem leftM_is : ∀ (ms : List (Nat × Nat)) (ws : List (List Nat)), leftM ws ms = ws.filter fun q => ms.all fun p => havM p.1 p.2 q
  | [], ws => by show ws = ws.filter fun _ => true; exact (keepAll ws).symm
  | p :: ms, ws => by
    show leftM (ws.filter (havM p.1 p.2)) ms = _
    rw [leftM_is ms, List.filter_filter]
    congr 1
    funext q
    rw [List.all_cons, Bool.and_comm]
theorem fits_is (ms : List (Nat × Nat)) (q : List Nat) : Sy86.fits ms q = ms.all fun p => havM p.1 p.2 q := rfl
theorem all_mem {A : Type} {a b : List A} (h : ∀ p, p ∈ a ↔ p ∈ b) (f : A → Bool) : a.all f = b.all f := by
  rw [Bool.eq_iff_iff, List.all_eq_true, List.all_eq_true]
  exact ⟨fun g x hx => g x ((h x).mpr hx), fun g x hx => g x ((h x).mp hx)⟩
theorem LT.left {t : T} {s : Sy86.Sheet} (L : LT t s) (ws : List (List Nat)) : leftM ws t.marks = ws.filter (Sy86.fits s.marks) := by
  rw [leftM_is]
  congr 1
  funext q
  rw [fits_is]
  exact all_mem L.mem _
theorem LT.len {t : T} {s : Sy86.Sheet} (L : LT t s) : t.marks.length = s.marks.length := by
  have key : ∀ {l : List (Nat × Nat)}, (l.map (·.1)).Nodup → l.Nodup := fun {l} h => (List.pairwise_map.mp h).imp fun {a b} h e => h (by rw [e])
  exact ((List.perm_ext_iff_of_nodup (key L.nd) (key (rising_nodup L.rising))).mpr L.mem).length_eq
theorem LT.isMarked {t : T} {s : Sy86.Sheet} (L : LT t s) (x : Nat) : Sy86.isMarked s.marks x = (t.marks.any fun p => p.1 == x) := by
  unfold Sy86.isMarked
  rw [Bool.eq_iff_iff, List.any_eq_true, List.any_eq_true]
  exact ⟨fun ⟨p, hp, e⟩ => ⟨p, (L.mem p).mpr hp, e⟩, fun ⟨p, hp, e⟩ => ⟨p, (L.mem p).mp hp, e⟩⟩
theorem insP_mem (z : Nat × Nat) : ∀ {l : List (Nat × Nat)}, z.1 ∉ l.map (·.1) → ∀ p, p ∈ Sy86.insert z l ↔ p = z ∨ p ∈ l
  | [], _, p => by simp [Sy86.insert]
  | y :: l, h, p => by
    rw [List.map_cons, List.mem_cons, not_or] at h
    unfold Sy86.insert
    split
    · rw [List.mem_cons]
    · split
      · next e => exact absurd e h.1
      · rw [List.mem_cons, insP_mem z h.2, List.mem_cons]
        constructor
        · rintro (a | a | a) <;> simp [a]
        · rintro (a | a | a) <;> simp [a]
theorem insP_rising (z : Nat × Nat) : ∀ {l : List (Nat × Nat)}, z.1 ∉ l.map (·.1) → Rising (l.map (·.1)) → Rising ((Sy86.insert z l).map (·.1))
  | [], _, _ => List.pairwise_singleton ..
  | y :: l, h, hr => by
    have hc := List.pairwise_cons.mp (show Rising (y.1 :: l.map (·.1)) from hr)
    rw [List.map_cons, List.mem_cons, not_or] at h
    unfold Sy86.insert
    split
    · next e =>
      refine List.pairwise_cons.mpr ⟨fun a ha => ?_, hr⟩
      rcases List.mem_cons.mp (show a ∈ y.1 :: l.map (·.1) from ha) with g | g
      · rw [g]; exact e
      · exact Nat.lt_trans e (hc.1 a g)
    · next e =>
      split
      · next e2 => exact absurd e2 h.1
      · refine List.pairwise_cons.mpr ⟨fun a ha => ?_, insP_rising z h.2 hc.2⟩
        obtain ⟨p, hp, rfl⟩ := List.mem_map.mp ha
        rcases (insP_mem z h.2 p).mp hp with g | g
        · rw [g]
          have := h.1
          show y.1 < z.1
          omega
        · exact hc.1 _ (List.mem_map.mpr ⟨p, g, rfl⟩)
/-- a mark is told: the sheet behind, the answer -/
def markM (ws : List (List Nat)) (t : T) (c v : Nat) : T × List Int :=
  if ((leftM ws t.marks).filter (havM c v)).isEmpty = true then ({ t with slips := t.slips + 1 }, [0, 1, ((leftM ws t.marks).length : Nat)])
  else if ((leftM ws t.marks).filter (havM c v)).length = (leftM ws t.marks).length then ({ t with marks := t.marks ++ [(c, v)], sure := t.sure + 1 }, [2, 1, (((leftM ws t.marks).filter (havM c v)).length : Nat)])
  else ({ t with marks := t.marks ++ [(c, v)], may := t.may + 1 }, [1, 1, (((leftM ws t.marks).filter (havM c v)).length : Nat)])
/-- the document's sheet behind a mark -/
def markS (ws : List (List Nat)) (t : Sy86.Sheet) (x v : Nat) : Sy86.Sheet × List Int :=
  let q := Sy86.kind (ws.filter (Sy86.fits t.marks)) x v
  let u : Sy86.Sheet := if q = 0 then { t with slips := t.slips + 1 } else { t with marks := Sy86.insert (x, v) t.marks, sure := t.sure + (if q = 2 then 1 else 0), may := t.may + (if q = 1 then 1 else 0) }
  (u, [((q : Nat) : Int), 1, ((ws.filter (Sy86.fits u.marks)).length : Nat)])
theorem LT.more {t : T} {s : Sy86.Sheet} (L : LT t s) {c v : Nat} (h : Sy86.isMarked s.marks c = false) : (∀ p, p ∈ t.marks ++ [(c, v)] ↔ p ∈ Sy86.insert (c, v) s.marks) ∧ ((t.marks ++ [(c, v)]).map (·.1)).Nodup ∧ Rising ((Sy86.insert (c, v) s.marks).map (·.1)) := by
  have hn : c ∉ s.marks.map (·.1) := fun z => by
    obtain ⟨p, hp, e⟩ := List.mem_map.mp z
    unfold Sy86.isMarked at h
    rw [List.any_eq_false] at h
    exact h p hp (by simpa using e)
  have hn' : c ∉ t.marks.map (·.1) := fun z => by
    obtain ⟨p, hp, e⟩ := List.mem_map.mp z
    exact hn (List.mem_map.mpr ⟨p, (L.mem p).mp hp, e⟩)
  refine ⟨fun p => ?_, ?_, insP_rising (c, v) hn L.rising⟩
  · rw [List.mem_append, List.mem_singleton, insP_mem (c, v) hn, L.mem]
    exact Or.comm
  · rw [List.map_append, List.nodup_append]
    refine ⟨L.nd, by simp, fun a ha b hb => ?_⟩
    simp at hb; subst hb
    intro e; subst e; exact hn' ha
theorem mark_is (ws : List (List Nat)) {t : T} {s : Sy86.Sheet} (L : LT t s) {c v : Nat} (h : Sy86.isMarked s.marks c = false) : LT (markM ws t c v).1 (markS ws s c v).1 ∧ (markM ws t c v).2 = (markS ws s c v).2 := by
  obtain ⟨m1, m2, m3⟩ := L.more (v := v) h
  have hl := L.left ws
  have hy : (leftM ws t.marks).filter (havM c v) = (ws.filter (Sy86.fits s.marks)).filter fun w => w.contains c == (v == 1) := by rw [hl]; rfl
  have hb : ∀ u, LT u { s with marks := Sy86.insert (c, v) s.marks } → (ws.filter (Sy86.fits (Sy86.insert (c, v) s.marks))).length = ((leftM ws t.marks).filter (havM c v)).length := by
    intro u _
    rw [leftM_is, List.filter_filter]
    congr 2
    funext q
    rw [fits_is, ← all_mem m1, List.all_append, Bool.and_comm]
    simp
  have hb := hb { t with marks := t.marks ++ [(c, v)] } ⟨L.who, L.which, m2, m1, m3, L.slips, L.may, L.sure⟩
  unfold markM markS Sy86.kind
  simp only []
  rw [← hy, ← hl]
  by_cases e1 : ((leftM ws t.marks).filter (havM c v)).isEmpty = true
  · rw [if_pos e1, if_pos e1]
    simp only [if_true]
    refine ⟨⟨L.who, L.which, L.nd, L.mem, L.rising, congrArg (· + 1) L.slips, L.may, L.sure⟩, ?_⟩
    rw [← hl]
    rfl
  · rw [if_neg e1, if_neg e1]
    by_cases e2 : ((leftM ws t.marks).filter (havM c v)).length = (leftM ws t.marks).length
    · rw [if_pos e2, if_pos e2]
      refine ⟨⟨L.who, L.which, m2, m1, m3, L.slips, L.may, congrArg (· + 1) L.sure⟩, ?_⟩
      show [2, 1, _] = [((2 : Nat) : Int), 1, (((ws.filter (Sy86.fits (Sy86.insert (c, v) s.marks))).length : Nat) : Int)]
      rw [hb]
      rfl
    · rw [if_neg e2, if_neg e2]
      refine ⟨⟨L.who, L.which, m2, m1, m3, L.slips, congrArg (· + 1) L.may, L.sure⟩, ?_⟩
      show [1, 1, _] = [((1 : Nat) : Int), 1, (((ws.filter (Sy86.fits (Sy86.insert (c, v) s.marks))).length : Nat) : Int)]
      rw [hb]
      rfl
end Rd
set_option linter.all false
set_option maxRecDepth 100000
set_option maxHeartbeats 2000000
namespace Rd
open PySem PySem.Spec PyProof.Rows L2 Evl
/-! ### the sheets -/
def keyT (p k : Nat) (t : T) : Bool := t.who == p && t.which == k
def keyS (p k : Nat) (t : Sy86.Sheet) : Bool := t.who == p && t.which == k
structure LS (ts : List T) (ss : List Sy86.Sheet) : Prop where
  pair : Paired LT ts ss
  one : ss.Pairwise fun a b => ¬ (a.who = b.who ∧ a.which = b.which)
  two : ∀ t ∈ ss, t.which < 2
theorem key_eqT {t : T} {s : Sy86.Sheet} (L : LT t s) (p k : Nat) : keyT p k t = keyS p k s := by
  unfold keyT keyS; rw [L.who, L.which]
theorem paired_find {p k : Nat} : ∀ {ts : List T} {ss : List Sy86.Sheet}, Paired LT ts ss → match ts.find? (keyT p k) with
    | none => ss.find? (keyS p k) = none
    | some t => ∃ s, ss.find? (keyS p k) = some s ∧ LT t s
  | _, _, .nil => rfl
  | t :: ts, s :: ss, .cons r rs => by
    have e := key_eqT r p k
    rw [List.find?_cons, List.find?_cons]
    cases h : keyT p k t with
    | true => rw [← e, h]; exact ⟨s, rfl, r⟩
    | false => rw [← e, h]; exact paired_find rs
theorem paired_map {p k : Nat} {t' : T} {s' : Sy86.Sheet} (L' : LT t' s') : ∀ {ts : List T} {ss : List Sy86.Sheet}, Paired LT ts ss → Paired LT (ts.map fun u => if keyT p k u = true then t' else u) (ss.map fun u => if keyS p k u = true then s' else u)
  | _, _, .nil => .nil
  | t :: ts, s :: ss, .cons r rs => by
    rw [List.map_cons, List.map_cons]
    refine .cons ?_ (paired_map L' rs)
    rw [key_eqT r p k]
    split
    · exact L'
    · exact r
theorem put_is (S : Sy86.St) (t : Sy86.Sheet) : Sy86.put S t = if S.sheets.any (keyS t.who t.which) = true then S.sheets.map (fun u => if keyS t.who t.which u = true then t else u) else S.sheets ++ [t] := by
  unfold Sy86.put
  have e : (fun u : Sy86.Sheet => if u.who = t.who ∧ u.which = t.which then t else u) = fun u => if keyS t.who t.which u = true then t else u := by
    funext u
    have : (keyS t.who t.which u = true) = (u.who = t.who ∧ u.which = t.which) := by
      unfold keyS
      rw [Bool.and_eq_true, beq_iff_eq, beq_iff_eq]
    by_cases h : u.who = t.who ∧ u.which = t.which
    · rw [if_pos h, if_pos (this ▸ h)]
    · rw [if_neg h, if_neg (this ▸ h)]
  rw [e]
  rfl
/-- the sheets behind one that is put -/
theorem LS.put {S : Sy86.St} {ts : List T} (L : LS ts S.sheets) {t' : T} {s' : Sy86.Sheet} (L' : LT t' s') (h2 : s'.which < 2) :
    LS (if ts.any (keyT s'.who s'.which) = true then ts.map (fun u => if keyT s'.who s'.which u = true then t' else u) else ts ++ [t']) (Sy86.put S s') := by
  rw [put_is]
  have ha : ts.any (keyT s'.who s'.which) = S.sheets.any (keyS s'.who s'.which) := by
    have : ∀ {ts : List T} {ss : List Sy86.Sheet}, Paired LT ts ss → ts.any (keyT s'.who s'.which) = ss.any (keyS s'.who s'.which) := by
      intro ts ss h
      induction h with
      | nil => rfl
      | cons r _ ih => rw [List.any_cons, List.any_cons, ih, key_eqT r]
    exact this L.pair
  rw [ha]
  split
  · refine ⟨paired_map L' L.pair, ?_, fun t ht => ?_⟩
    · rw [List.pairwise_map]
      refine L.one.imp fun {a b} h => ?_
      have k : ∀ u : Sy86.Sheet, ((if keyS s'.who s'.which u = true then s' else u).who = u.who) ∧ ((if keyS s'.who s'.which u = true then s' else u).which = u.which) := by
        intro u
        split
        · next e =>
          unfold keyS at e
          rw [Bool.and_eq_true, beq_iff_eq, beq_iff_eq] at e
          exact ⟨e.1.symm, e.2.symm⟩
        · exact ⟨rfl, rfl⟩
      rw [(k a).1, (k a).2, (k b).1, (k b).2]
      exact h
    · obtain ⟨u, hu, rfl⟩ := List.mem_map.mp ht
      split
      · exact h2
      · exact L.two u hu
  · next hn =>
    refine ⟨Paired.snoc L.pair L', ?_, fun t ht => ?_⟩
    · rw [List.pairwise_append]
      refine ⟨L.one, List.pairwise_singleton .., fun a hm b hb => ?_⟩
      rw [List.mem_singleton] at hb
      subst hb
      rintro ⟨e1, e2⟩
      apply hn
      rw [List.any_eq_true]
      refine ⟨a, hm, ?_⟩
      unfold keyS
      rw [e1, e2]
      simp
    · rcases List.mem_append.mp ht with h | h
      · exact L.two t h
      · rw [List.mem_singleton] at h; rw [h]; exact h2
def tNew (p k : Nat) : T := ⟨p, k, [], 0, 0, 0⟩
theorem lt_new (p k : Nat) : LT (tNew p k) ⟨p, k, [], 0, 0, 0⟩ := ⟨rfl, rfl, .nil, fun _ => Iff.rfl, .nil, rfl, rfl, rfl⟩
/-- the solver's sheet, begun or not -/
def sheetT (ts : List T) (p k : Nat) : T := (ts.find? (keyT p k)).getD (tNew p k)
theorem LS.sheet {S : Sy86.St} {ts : List T} (L : LS ts S.sheets) (p k : Nat) : LT (sheetT ts p k) (Sy86.sheetOf S p k) ∧ (Sy86.sheetOf S p k).who = p ∧ (Sy86.sheetOf S p k).which = k := by
  unfold sheetT Sy86.sheetOf
  have h := paired_find (p := p) (k := k) L.pair
  show LT _ ((S.sheets.find? (keyS p k)).getD _) ∧ ((S.sheets.find? (keyS p k)).getD _).who = p ∧ ((S.sheets.find? (keyS p k)).getD _).which = k
  cases e : ts.find? (keyT p k) with
  | none =>
    rw [e] at h
    have h : S.sheets.find? (keyS p k) = none := h
    rw [h]
    exact ⟨lt_new p k, rfl, rfl⟩
  | some t =>
    rw [e] at h
    obtain ⟨s, hs, hl⟩ := h
    rw [hs]
    have := List.find?_some hs
    unfold keyS at this
    rw [Bool.and_eq_true, beq_iff_eq, beq_iff_eq] at this
    exact ⟨hl, this.1, this.2⟩
/-- the sheets behind a sheet that is put -/
def putT (ts : List T) (p k : Nat) (t : T) : List T := if ts.any (keyT p k) = true then ts.map (fun u => if keyT p k u = true then t else u) else ts ++ [t]
theorem step_mark (S : Sy86.St) (p k x v : Nat) (h1 : Sy86.wrong S p k = false) (h2 : (Sy86.cells S k).contains x = true) (h3 : 1 ≤ v ∧ v ≤ 2) (h4 : Sy86.isMarked (Sy86.sheetOf S p k).marks x = false) :
    (Sy86.step S (.mark p k x v)).1 = { S with sheets := Sy86.put S (markS (Sy86.ways S k) (Sy86.sheetOf S p k) x v).1 } ∧ Sy86Neutral.out (Sy86.step S (.mark p k x v)).2 = (markS (Sy86.ways S k) (Sy86.sheetOf S p k) x v).2 := by
  unfold Sy86.step
  simp only []
  rw [if_neg (by rw [h1]; decide), if_neg (by rw [h2]; simp; omega), if_neg (by rw [h4]; decide)]
  exact ⟨rfl, rfl⟩
/-- a mark at the desk -/
theorem d_mark {S : Sy86.St} {ts : List T} (L : LS ts S.sheets) (p k x v : Nat) (h1 : Sy86.wrong S p k = false) (h2 : (Sy86.cells S k).contains x = true) (h3 : 1 ≤ v ∧ v ≤ 2) (h4 : Sy86.isMarked (Sy86.sheetOf S p k).marks x = false) :
    LS (putT ts p k (markM (Sy86.ways S k) (sheetT ts p k) x v).1) (Sy86.step S (.mark p k x v)).1.sheets ∧ (Sy86.step S (.mark p k x v)).1.field = S.field ∧ (Sy86.step S (.mark p k x v)).1.hall = S.hall ∧ (Sy86.step S (.mark p k x v)).1.solvers = S.solvers ∧
    (markM (Sy86.ways S k) (sheetT ts p k) x v).2 = Sy86Neutral.out (Sy86.step S (.mark p k x v)).2 := by
  obtain ⟨e1, e2⟩ := step_mark S p k x v h1 h2 h3 h4
  obtain ⟨L1, hw, hk⟩ := L.sheet p k
  obtain ⟨L2, h5⟩ := mark_is (Sy86.ways S k) L1 (c := x) (v := v) h4
  have hk2 : k < 2 := by
    unfold Sy86.wrong at h1
    rw [Bool.or_eq_false_iff, decide_eq_false_iff_not, decide_eq_false_iff_not] at h1
    omega
  have w1 : (markS (Sy86.ways S k) (Sy86.sheetOf S p k) x v).1.who = p ∧ (markS (Sy86.ways S k) (Sy86.sheetOf S p k) x v).1.which = k := by
    unfold markS
    simp only []
    split
    · exact ⟨hw, hk⟩
    · exact ⟨hw, hk⟩
  have := L.put L2 (by rw [w1.2]; exact hk2)
  rw [w1.1, w1.2] at this
  rw [e1, e2]
  exact ⟨this, rfl, rfl, rfl, h5⟩
end Rd
set_option linter.all false
set_option maxRecDepth 100000
set_option maxHeartbeats 2000000
namespace Rd
open PySem PySem.Spec PyProof.Rows L2 Evl
/-! ### sheets that stay, marks that go -/
theorem paired_filter {f : T → Bool} {g : Sy86.Sheet → Bool} (h : ∀ t s, LT t s → f t = g s) : ∀ {ts : List T} {ss : List Sy86.Sheet}, Paired LT ts ss → Paired LT (ts.filter f) (ss.filter g)
  | _, _, .nil => .nil
  | t :: ts, s :: ss, .cons r rs => by
    rw [List.filter_cons, List.filter_cons, h t s r]
    split
    · exact .cons r (paired_filter h rs)
    · exact paired_filter h rs
theorem LS.filter {ts : List T} {ss : List Sy86.Sheet} (L : LS ts ss) {f : T → Bool} {g : Sy86.Sheet → Bool} (h : ∀ t s, LT t s → f t = g s) : LS (ts.filter f) (ss.filter g) :=
  ⟨paired_filter h L.pair, List.Pairwise.sublist List.filter_sublist L.one, fun t ht => L.two t (List.mem_filter.mp ht).1⟩
/-- the sheets of riddles that are as they were -/
def stayT (a b : Bool) (ts : List T) : List T := ts.filter fun t => if t.which = 0 then a else b
theorem LS.stay {S S' : Sy86.St} {k : Nat} {rf rh rf' rh' : R} {ts : List T} (L : LS ts S.sheets) (A : After S S' k rf rh rf' rh') (hk : k < 2) (hf : (rf.nums.map (·.1)).Nodup) (hh : (rh.nums.map (·.1)).Nodup) :
    LS (stayT (sameB rf' rf) (sameB rh' rh) ts) S'.sheets := by
  have hf' := A.f.nums.nodup
  have hh' := A.h.nums.nodup
  have if_ : sameB rf' rf = true ↔ Same rf' rf := sameB_iff hf' hf
  have ih_ : sameB rh' rh = true ↔ Same rh' rh := sameB_iff hh' hh
  by_cases c : Same rf' rf ∧ Same rh' rh
  · rw [A.keep c.1 c.2, if_.mpr c.1, ih_.mpr c.2]
    have : stayT true true ts = ts := List.filter_eq_self.mpr fun t _ => by split <;> rfl
    rw [this]
    exact L
  · rw [A.drop c]
    unfold stayT Sy86.forgotten
    have ho := A.other
    have L2 := L.filter (f := fun t => if t.which = 0 then sameB rf' rf else sameB rh' rh) (g := fun t => if t.which = 0 then sameB rf' rf else sameB rh' rh) fun t s r => by rw [r.which]
    have e : S.sheets.filter (fun t => if t.which = 0 then sameB rf' rf else sameB rh' rh) = S.sheets.filter fun t => t.which != k := by
      apply List.filter_congr
      intro t ht
      have h2 := L.two t ht
      have hk' : k = 0 ∨ k = 1 := by omega
      rcases hk' with rfl | rfl
      · rw [if_pos rfl] at ho
        have s2 : sameB rh' rh = true := ih_.mpr (by rw [ho]; exact .refl _)
        have s1 : sameB rf' rf = false := by
          cases e : sameB rf' rf with
          | false => rfl
          | true => exact absurd ⟨if_.mp e, ih_.mp s2⟩ c
        rw [s1, s2]
        by_cases w : t.which = 0
        · rw [if_pos w, w]; rfl
        · rw [if_neg w]; exact (bne_iff_ne.mpr w).symm
      · rw [if_neg (by decide)] at ho
        have s1 : sameB rf' rf = true := if_.mpr (by rw [ho]; exact .refl _)
        have s2 : sameB rh' rh = false := by
          cases e : sameB rh' rh with
          | false => rfl
          | true => exact absurd ⟨if_.mp s1, ih_.mp e⟩ c
        rw [s1, s2]
        by_cases w : t.which = 0
        · rw [if_pos w, w]; rfl
        · rw [if_neg w]
          have : t.which = 1 := by omega
          rw [this]; rfl
    rw [e] at L2
    exact L2
/-- a mark goes -/
theorem LT.rub {t : T} {s : Sy86.Sheet} (L : LT t s) (x : Nat) : LT { t with marks := t.marks.filter fun z => z.1 != x } { s with marks := s.marks.filter fun z => z.1 != x } := by
  refine ⟨L.who, L.which, ?_, fun p => ?_, ?_, L.slips, L.may, L.sure⟩
  · exact List.Pairwise.sublist (List.filter_sublist.map _) L.nd
  · rw [List.mem_filter, List.mem_filter, L.mem]
  · exact List.Pairwise.sublist (List.filter_sublist.map _) L.rising
/-- the marked cells, rising -/
theorem LT.cells {t : T} {s : Sy86.Sheet} (L : LT t s) : (t.marks.map (·.1)).foldl (fun m n => Sy64.insert n m) [] = s.marks.map (·.1) := by
  obtain ⟨h1, h2⟩ := foldl_insert (t.marks.map (·.1)) [] .nil
  refine rising_unique _ _ h1 L.rising fun q => ?_
  rw [h2]
  constructor
  · rintro (h | h)
    · cases h
    · obtain ⟨p, hp, e⟩ := List.mem_map.mp h
      exact List.mem_map.mpr ⟨p, (L.mem p).mp hp, e⟩
  · intro h
    obtain ⟨p, hp, e⟩ := List.mem_map.mp h
    exact .inr (List.mem_map.mpr ⟨p, (L.mem p).mpr hp, e⟩)
theorem LT.look {t : T} {s : Sy86.Sheet} (L : LT t s) {c v : Nat} (h : (c, v) ∈ s.marks) : t.marks.lookup c = some v := (look_mem L.nd c v).mpr ((L.mem _).mpr h)
/-- a sheet's marks as they are shown -/
theorem LT.shown {t : T} {s : Sy86.Sheet} (L : LT t s) : ((t.marks.map (·.1)).foldl (fun m n => Sy64.insert n m) []).flatMap (fun c => [c, (t.marks.lookup c).getD 0]) = s.marks.flatMap fun z => [z.1, z.2] := by
  rw [L.cells, List.flatMap_map]
  have : ∀ l : List (Nat × Nat), (∀ p ∈ l, p ∈ s.marks) → (l.flatMap fun p => [p.1, (t.marks.lookup p.1).getD 0]) = l.flatMap fun p => [p.1, p.2] := by
    intro l
    induction l with
    | nil => intro _; rfl
    | cons q l ih =>
      intro h
      rw [List.flatMap_cons, List.flatMap_cons, ih fun p hp => h p (List.mem_cons_of_mem _ hp), L.look (c := q.1) (v := q.2) (h q List.mem_cons_self)]
      rfl
  exact this _ fun p hp => hp
/-- a solver's points -/
def pointsT (t : T) : Int := ((2 * t.sure + t.may : Nat) : Int) - 3 * (t.slips : Int)
theorem points_is {S : Sy86.St} {ts : List T} (L : LS ts S.sheets) (p : Nat) : ((ts.filter fun t => t.who == p).map pointsT).sum = Sy86.points S p := by
  have : ∀ {ts : List T} {ss : List Sy86.Sheet}, Paired LT ts ss → ((ts.filter fun t => t.who == p).map pointsT).sum = ((ss.filter fun t => t.who == p).map fun t => ((2 * t.sure + t.may : Nat) : Int) - 3 * (t.slips : Int)).sum := by
    intro ts ss h
    induction h with
    | nil => rfl
    | @cons a b ts ss r _ ih =>
      rw [List.filter_cons, List.filter_cons, r.who]
      split
      · rw [List.map_cons, List.map_cons, List.sum_cons, List.sum_cons, ih]
        congr 1
        unfold pointsT
        rw [r.sure, r.may, r.slips]
      · exact ih
  exact this L.pair
/-- every cell that wants a mark -/
theorem wants_is {S : Sy86.St} {rf rh : R} (Lf : LF rf S.field) (Lh : LH rh S.hall) (k : Nat) : Sy86.cells S k = if k = 0 then wanting rf else wanting rh := by
  unfold Sy86.cells
  split
  · unfold wanting Sy64.cells
    rw [Lf.rows, Lf.cols, Lf.trees]
  · exact Lh.wanting.symm
theorem ways_are {S : Sy86.St} {rf rh : R} (Lf : LF rf S.field) (Lh : LH rh S.hall) (k : Nat) : Sy86.ways S k = if k = 0 then waysM kF rf else waysM kH rh := by
  unfold Sy86.ways
  rw [Lf.ways, Lh.ways]
/-- a new desk -/
theorem lf_new : LF r0 Sy64.init := LF.begin 1 1 (by decide)
theorem lh_new : LH r0 Sy85.init := LH.begin 1 1 (by decide)
end Rd
set_option linter.all false
set_option maxRecDepth 100000
set_option maxHeartbeats 2000000
namespace Rd
open PySem PySem.Spec PyProof.Rows L2 Evl
/-! ### the calls are split -/
def IsC (H : Hp) (a : Addr) (c : CC) : Prop := ∃ l : Addr, H a = some (.tup [vN c.1, .ref l]) ∧ H l = some (.lst (vL c.2))
def IsCs (H : Hp) (as : List Addr) (cs : List CC) : Prop := Paired (IsC H) as cs
/-- .. that was not there in H0 -/
def IsCf (H0 H : Hp) (a : Addr) (c : CC) : Prop := ∃ l : Addr, (H0 a = none ∧ H0 l = none) ∧ H a = some (.tup [vN c.1, .ref l]) ∧ H l = some (.lst (vL c.2))
/-- .. whose list is not the one at L -/
def IsCn (H0 : Hp) (L : Addr) (H : Hp) (a : Addr) (c : CC) : Prop := ∃ l : Addr, l ≠ L ∧ (H0 a = none ∧ H0 l = none) ∧ H a = some (.tup [vN c.1, .ref l]) ∧ H l = some (.lst (vL c.2))
theorem IsCn.is {H0 : Hp} {L : Addr} {H : Hp} : ∀ {as : List Addr} {cs : List CC}, Paired (IsCn H0 L H) as cs → Paired (IsCf H0 H) as cs := fun h => Paired.mapP h fun a c ⟨l, _, h0, h1, h2⟩ => ⟨l, h0, h1, h2⟩
theorem IsCn.ex {H0 : Hp} {L : Addr} {H H' : Hp} (e : Ex H H') {as : List Addr} {cs : List CC} (h : Paired (IsCn H0 L H) as cs) : Paired (IsCn H0 L H') as cs := Paired.mapP h fun a c ⟨l, hl, h0, h1, h2⟩ => ⟨l, hl, h0, e _ _ h1, e _ _ h2⟩
theorem IsCn.upd {H0 : Hp} {L : Addr} {H : Hp} {xs ys : List V} (hL : H L = some (.lst xs)) {as : List Addr} {cs : List CC} (h : Paired (IsCn H0 L H) as cs) : Paired (IsCn H0 L (upd H L (.lst ys))) as cs := Paired.mapP h fun a c ⟨l, hl, h0, h1, h2⟩ => ⟨l, hl, h0, by rw [upd_ne (fun z => by rw [z, hL] at h1; cases h1)]; exact h1, by rw [upd_ne hl]; exact h2⟩
section
variable {σ : L2.St} {H : Hp} {te ta tb : TE} {K : PySem.W.Frag} {D : Ends} {tz : TS}
theorem ev_inTup {x : V} {ts : TA} {ys : List V} (h : Ev ta σ H x) (hs : EvA ts σ H ys) (hl : ys.length ≤ sizeLine) (fx : flatV x = true) (fy : ys.all flatV = true) : Ev (tOp (rIn K false) ta (tTup ts)) σ H (.bl (inV x ys)) := fun H1 e Q q =>
  h H1 e _ fun H2 e2 => hs H2 (e.trans e2) _ fun H3 e3 => ⟨hl, fun p hp => by
    have := rv_inT (K := K) (neg := false) (H := upd H3 p (.tup ys)) (p := p) (x := x) (xs := ys) (.inl (Rd.of upd_same)) fx fy
    exact this _ (Ex.refl _) _ fun H4 e4 => q H4 (((e2.trans e3).trans (Ex.new hp)).trans e4)⟩
/-- a new pair of a value and a new list -/
theorem ep_pair {v : V} {xs : List V} (h1 : Ev ta σ H v) (h2 : EvL tb σ H xs) : EvP (tTup (tCons ta (tCons tb tNil))) σ H (fun w H2 => ∃ a l : Addr, w = .ref a ∧ H a = none ∧ H l = none ∧ H2 a = some (.tup [v, .ref l]) ∧ H2 l = some (.lst xs)) := fun H1 e Q q =>
  h1 H1 e _ fun H2 e2 => h2 H2 (e.trans e2) _ fun l H3 hl e3 hl3 => ⟨by show 2 ≤ sizeLine; decide, fun a ha => by
    have la : l ≠ a := fun z => by rw [← z, hl3] at ha; cases ha
    exact q (.ref a) _ ((e2.trans e3).trans (Ex.new ha)) ⟨a, l, rfl, fresh_back ((e.trans e2).trans e3) ha, fresh_back (e.trans e2) hl, upd_same, by rw [upd_ne la]; exact hl3⟩⟩
theorem q_appP {P : V → Hp → Prop} {l : Addr} {xs : List V} (hl : H l = some (.lst xs)) (ha : Ev ta σ H (.ref l)) (h : EvP te σ H P) (hz : xs.length < 100000) (k : ∀ v H1, Ex H H1 → P v H1 → tz D σ (upd H1 l (.lst (xs ++ [v])))) :
    tSeq (tDrop (tBM K "list" rAppend ta (tCons te tNil))) tz D σ H := ha H (Ex.refl H) _ fun H1 e1 =>
  ⟨Or.inl ⟨rfl, xs, sq_of (e1 l _ hl)⟩, h H1 e1 _ fun v H2 e2 hv => ⟨l, xs, v, rfl, rfl, e2 l _ (e1 l _ hl), sz_lt hz, k v H2 (e1.trans e2) hv⟩⟩
end
def spSplit (K : PySem.W.Frag) : Sp := fun vs H Q _ => ∃ (p : Addr) (cs : List CC), vs = [.ref p] ∧ SqL K H p (vL (cs.flatMap enc)) ∧ (∀ c ∈ cs, OkC c) ∧ cs.length ≤ 60 ∧ ∀ (H' : Hp) (q : Addr) (as : List Addr), Ex H H' → H q = none → H' q = some (.lst (as.map V.ref)) → Paired (IsCf H H') as cs → Q (.ref q) H'
abbrev sSplit : Stmt := top 67
abbrev nSplit : List Str := ["calls", "split", "at", "call", "many"]
theorem scSplit : FnScope nSplit ["calls"] (defScope sSplit) := ⟨rfl, rfl, rfl, by decide +kernel, rfl, by decide +kernel, by decide +kernel⟩
theorem enc_len (c : CC) : (enc c).length ≤ c.2.length + 2 ∧ 1 ≤ (enc c).length := by
  unfold enc; split <;> simp
theorem flat_len : ∀ {cs : List CC}, (∀ c ∈ cs, OkC c) → (cs.flatMap enc).length ≤ 62 * cs.length
  | [], _ => by simp
  | c :: cs, h => by
    have h1 := (enc_len c).1
    have h2 := (h c List.mem_cons_self).len
    have h3 := flat_len fun x hx => h x (List.mem_cons_of_mem _ hx)
    rw [List.flatMap_cons, List.length_append, List.length_cons]
    omega
/-- where a call stands -/
theorem flat_at {cs : List CC} {i : Nat} {c : CC} (h : cs[i]? = some c) : ∃ post, cs.flatMap enc = (cs.take i).flatMap enc ++ (enc c ++ post) ∧ (cs.take (i + 1)).flatMap enc = (cs.take i).flatMap enc ++ enc c := by
  obtain ⟨hi, e⟩ := List.getElem?_eq_some_iff.mp h
  refine ⟨(cs.drop (i + 1)).flatMap enc, ?_, ?_⟩
  · conv => lhs; rw [← List.take_append_drop i cs]
    rw [List.flatMap_append, List.drop_eq_getElem_cons hi, e, List.flatMap_cons]
  · rw [take_more h, List.flatMap_append, List.flatMap_cons, List.flatMap_nil, List.append_nil]
theorem cut_mid (pre xs post : List Nat) (a b : Nat) (ha : a = pre.length) (hb : b = pre.length + xs.length) : cutV (vL (pre ++ (xs ++ post))) (some (a : Int)) (some (b : Int)) = vL xs := by
  subst ha hb
  unfold cutV
  rw [HT.sIx_nat, HT.sIx_nat, vL_len, List.length_append, List.length_append, Nat.min_eq_left (by omega), Nat.min_eq_left (by omega)]
  have e1 : (vL (pre ++ (xs ++ post))).drop pre.length = vL (xs ++ post) := by
    unfold vL
    rw [← List.map_drop, List.drop_left]
  rw [e1, Nat.add_sub_cancel_left]
  unfold vL
  rw [← List.map_take, List.take_left]
section
variable {P : Program} {w : World} {K : PySem.W.Frag} {mg : Str → Option Value} {base : Heap}
theorem ok_split {f W : Addr} {fd : FuncData} {ws : List (Nat × Nat)} (F : Fun K "split_calls" "split_calls" sSplit f fd) (gL : mg "len" = none) (c1 : KInt mg "FIELD_CALL" 1) (c2 : KInt mg "HALL_CALL" 2) (cW : mg "WANTED_desk" = some (.ref W)) (D : KNat K W ws) (hw : ∀ c n, wantC.lookup c = some n → ws.lookup c = some n) :
    FnOk P w K mg base CX0 1 f fd ["calls"] (spSplit K) := by
  refine F.ok scSplit (fun vs H Q E h => ?_) (fun cdv A outer s H vs Q E hr h => ?_)
  · obtain ⟨p, cs, rfl, _⟩ := h; rfl
  · obtain ⟨t1, c1⟩ := c1
    obtain ⟨t2, c2⟩ := c2
    refine ⟨_, pss_cons (ps_set (i := 1) scSplit.nd rfl (Or.inl rfl) (pe_lst pa_nil)) (pss_cons (ps_set (i := 2) scSplit.nd rfl (Or.inl rfl) pe_int)
      (pss_cons (ps_while PassesOwn.never (pt_cmpR op_lt (pv 2) (pe_callB call_len_seq (by rfl) gL PySem.boot_len (pa_cons (pv 0) pa_nil)) (by rfl))
        (pss_cons (ps_set (i := 3) scSplit.nd rfl (Or.inl rfl) (pe_ix ix_list (pv 0) (pv 2) (fun _ _ => rfl)))
        (pss_cons (ps_aug (i := 2) scSplit.nd rfl (Or.inl rfl) pe_int ip_add)
        (pss_cut (ps_if (pt_cmpR op_in_seq (pv 3) (pe_tup (pa_cons (pe_glob (v := .int 1) rfl c1 ⟨_, rfl⟩) (pa_cons (pe_glob (v := .int 2) rfl c2 ⟨_, rfl⟩) pa_nil))) (by rfl))
            (pss_cons (ps_set (i := 4) scSplit.nd rfl (Or.inl rfl) (pe_ix ix_list (pv 0) (pv 2) (fun _ _ => rfl))) (pss_one (ps_aug (i := 2) scSplit.nd rfl (Or.inl rfl) pe_int ip_add)))
            (pss_one (ps_set (i := 4) scSplit.nd rfl (Or.inl rfl) (pe_wget D (pe_glob (v := .ref W) rfl cW rfl) (pv 3) (by intro _ _; rfl)))))
        (pss_cons (ps_expr (pe_bm PySem.F.plainAttrs_list PySem.F.slot_list_append PySem.F.type_list_append mt_append (pv 1) (pa_cons (pe_tup (pa_cons (pv 3) (pa_cons (pe_slice sl_list (pv 0) (po_some (pv 2)) (po_some (pe_op op_add (pv 2) (pv 4)))) pa_nil))) pa_nil)))
        (pss_one (ps_aug (i := 2) scSplit.nd rfl (Or.inl rfl) (pv 4) ip_add)))))))
      (pss_one (ps_ret (pv 1))))), ?_⟩
    obtain ⟨p, cs, rfl, hp, ok, h60, k⟩ := h
    have hlen := flat_len ok
    refine q_asgL (el_lst ea_nil (by decide)) fun L H1 hL e1 h1 => ?_
    refine q_asg (v := .int 0) ev_c fun H2 e2 => ?_
    refine q_while (fun m σ' H' => ∃ (i : Nat) (as : List Addr) (v3 v4 : Option V), m + i = cs.length ∧ σ' = [some (.ref p), some (.ref L), some (vN ((cs.take i).flatMap enc).length), v3, v4] ∧ Ex H H' ∧ H' L = some (.lst (as.map V.ref)) ∧ Paired (IsCn H L H') as (cs.take i)) cs.length
      ⟨0, [], none, none, rfl, rfl, e1.trans e2, e2 _ _ h1, .nil⟩ ?_
    rintro m σ' H3 ⟨i, as, v3, v4, hm, rfl, e3, h3, hcs⟩
    have hp3 := ex_l e3 hp
    refine ⟨_, et_test (ev_is (ev_op (ev_var rfl) (ev_len (ev_var rfl) hp3) rv_I0) rfl), fun hb H4 e4 => ?_, fun hb H4 e4 => ?_⟩
    · have hb := of_decide_eq_true hb
      rw [vL_len] at hb
      have hi : i < cs.length := by
        refine Nat.lt_of_not_le fun z => ?_
        rw [List.take_of_length_le z] at hb
        omega
      obtain ⟨c, hc⟩ : ∃ c, cs[i]? = some c := ⟨_, List.getElem?_eq_getElem hi⟩
      have hok := ok c (List.mem_of_getElem? hc)
      obtain ⟨post, hfull, hmore⟩ := flat_at hc
      generalize hpre : (cs.take i).flatMap enc = pre at *
      obtain ⟨m', rfl⟩ : ∃ m', m = m' + 1 := ⟨m - 1, by omega⟩
      refine ⟨fun σ2 H2' => ∃ m2, m2 < m' + 1 ∧ ∃ (i : Nat) (as : List Addr) (v3 v4 : Option V), m2 + i = cs.length ∧ σ2 = [some (.ref p), some (.ref L), some (vN ((cs.take i).flatMap enc).length), v3, v4] ∧ Ex H H2' ∧ H2' L = some (.lst (as.map V.ref)) ∧ Paired (IsCn H L H2') as (cs.take i), fun σ2 H2' h => h, ?_⟩
      have hlen2 : pre.length + (enc c).length + post.length ≤ 3720 := by
        have := congrArg List.length hfull
        rw [List.length_append, List.length_append] at this
        omega
      refine q_asg (v := vN c.1) (ev_op (ev_var rfl) (ev_var rfl) (rv_ixL (ex_l e4 hp3) (atI_nat (j := pre.length) (by rw [vL_get, hfull, List.getElem?_append_right (Nat.le_refl _), Nat.sub_self]; unfold enc; split <;> rfl)))) fun H5 e5 => ?_
      refine q_aug (f := fun i j => i + j) (a := (pre.length : Int)) (b := 1) rfl ev_c fun H6 e6 => ?_
      have e46 : Ex H3 H6 := (e4.trans e5).trans e6
      have hp6 := ex_l e46 hp3
      refine q_cut (M := fun σ' H' => ∃ (st : Nat) (pre2 : List Nat), σ' = [some (.ref p), some (.ref L), some (vN st), some (vN c.1), some (vN c.2.length)] ∧ Ex H6 H' ∧ cs.flatMap enc = pre2 ++ (c.2 ++ post) ∧ pre2.length = st ∧ st + c.2.length = (pre ++ enc c).length) ?_ ?_
      · refine s_if (b := [1, 2].contains c.1) (et_test (ev_is (ev_inTup (x := vN c.1) (ys := vL [1, 2]) (ev_var rfl) (ea_cons ev_c (ea_cons ev_c ea_nil)) (by decide) rfl (flat_vL _)) (by rw [inV_vL]))) (fun hb2 H7 e7 => ?_) (fun hb2 H7 e7 => ?_)
        · have h12 : c.1 = 1 ∨ c.1 = 2 := by simpa using hb2
          have he : enc c = c.1 :: c.2.length :: c.2 := by unfold enc; rw [if_pos h12]
          refine q_asg (v := vN c.2.length) (ev_op (ev_var rfl) (ev_var rfl) (rv_ixL (ex_l e7 hp6) (atI_nat (j := pre.length + 1) (by rw [vL_get, hfull, List.getElem?_append_right (by omega), he]; simp)))) fun H8 e8 => ?_
          refine s_aug (f := fun i j => i + j) (a := (pre.length : Int) + 1) (b := 1) rfl ev_c fun H9 e9 => ?_
          refine ⟨pre.length + 2, pre ++ [c.1, c.2.length], ?_, (e7.trans e8).trans e9, ?_, by simp, by rw [he]; simp; omega⟩
          · show _ = [some (V.ref p), some (V.ref L), some (V.int ((pre.length + 2 : Nat) : Int)), some (vN c.1), some (vN c.2.length)]
            rw [show ((pre.length + 2 : Nat) : Int) = (pre.length : Int) + 1 + 1 by omega]
            rfl
          · rw [hfull, he]; simp
        · have h12 : ¬ (c.1 = 1 ∨ c.1 = 2) := by simpa using hb2
          have he : enc c = c.1 :: c.2 := by unfold enc; rw [if_neg h12]
          have hw2 : ws.lookup c.1 = some c.2.length := by
            rcases hok.kind with z | z | z
            · exact absurd (.inl z) h12
            · exact absurd (.inr z) h12
            · exact hw _ _ z
          refine s_asg (v := vN c.2.length) (fun H8 e8 Q q => ⟨_, rfl, rfl, c.1, c.2.length, rfl, hw2, q H8 (Ex.refl H8)⟩) fun H9 e9 => ?_
          refine ⟨pre.length + 1, pre ++ [c.1], ?_, e7.trans e9, ?_, by simp, by rw [he]; simp; omega⟩
          · rfl
          · rw [hfull, he]; simp
      · rintro σ' H7 ⟨st, pre2, rfl, e7, hf2, hst, hend⟩
        have e37 := e46.trans e7
        have hp7 := ex_l e37 hp3
        have hL7 := e37 _ _ h3
        have hal : as.length ≤ 60 := by
          have := Paired.length hcs
          rw [List.length_take] at this
          omega
        refine q_appP (l := L) (xs := as.map V.ref) hL7 (ev_var rfl) (ep_pair (v := vN c.1) (xs := vL c.2) (ev_var rfl) (by
          have e := cut_mid pre2 c.2 post st (st + c.2.length) hst.symm (by omega)
          rw [← hf2] at e
          rw [← e]
          exact el_slL (ev_var rfl) (eo_some (ev_var rfl)) (eo_some (ev_is (ev_op (ev_var rfl) (ev_var rfl) rv_I0) rfl)) hp7)) (by rw [List.length_map]; omega) fun v H8 e8 ⟨a, l, ev, ha0, hl0, ha, hl⟩ => ?_
        subst ev
        refine s_aug (f := fun i j => i + j) (a := (st : Int)) (b := (c.2.length : Int)) rfl (ev_var rfl) fun H9 e9 => ?_
        have hL8 := e8 _ _ hL7
        have aL : a ≠ L := fun z => by rw [z, hL8] at ha; cases ha
        have lL : l ≠ L := fun z => by rw [z, hL7] at hl0; cases hl0
        have hcs8 : Paired (IsCn H L H8) as (cs.take i) := IsCn.ex (e37.trans e8) hcs
        have hcsU := IsCn.upd (ys := as.map V.ref ++ [V.ref a]) hL8 hcs8
        refine ⟨m', by omega, i + 1, as ++ [a], some (vN c.1), some (vN c.2.length), by omega, ?_, (Ex.mut ((e3.trans e37).trans e8) hL).trans e9, e9 _ _ (by rw [upd_same, List.map_append]; rfl), ?_⟩
        · rw [hmore, ← hend]
          show [some (V.ref p), some (V.ref L), some (V.int ((st : Int) + (c.2.length : Int))), some (vN c.1), some (vN c.2.length)] = [some (V.ref p), some (V.ref L), some (V.int ((st + c.2.length : Nat) : Int)), some (vN c.1), some (vN c.2.length)]
          rfl
        · rw [take_more hc]
          refine Paired.snoc (IsCn.ex e9 hcsU) ⟨l, lL, ⟨fresh_back (e3.trans e37) ha0, fresh_back (e3.trans e37) hl0⟩, e9 _ _ (by rw [upd_ne aL]; exact ha), e9 _ _ (by rw [upd_ne lL]; exact hl)⟩
    · have hb := of_decide_eq_false hb
      rw [vL_len] at hb
      have hi : i = cs.length := by
        refine Nat.le_antisymm (by omega) (Nat.le_of_not_lt fun z => ?_)
        obtain ⟨post, hfull, _⟩ := flat_at (List.getElem?_eq_getElem z)
        have := congrArg List.length hfull
        rw [List.length_append, List.length_append] at this
        have := (enc_len cs[i]).2
        omega
      subst hi
      rw [List.take_length] at hcs
      exact s_ret (v := .ref L) (ev_var rfl) fun H5 e5 => k H5 L as ((e3.trans e4).trans e5) hL (e5 _ _ (e4 _ _ h3)) (IsCn.is (IsCn.ex (e4.trans e5) hcs))
end
end Rd
set_option linter.all false
set_option maxRecDepth 100000
set_option maxHeartbeats 2000000
namespace Rd
open PySem PySem.Spec PyProof.Rows L2 Evl
/-! ### xs[i] += e -/
def rGetN : V → V → Hp → VK → Prop := fun x y H Q => ∃ (p : Addr) (xs : List V) (j : Nat) (v : V), x = .ref p ∧ y = .int (j : Int) ∧ H p = some (.lst xs) ∧ xs[j]? = some v ∧ Q v H
theorem pg_list {X : Cx} : PGet X rGetN := by
  intro pins s σ H o i ov iv Q I r1 r2 h
  obtain ⟨p, xs, j, v, rfl, rfl, hp, hv, q⟩ := h
  cases r1
  obtain ⟨t, rfl⟩ := r2
  obtain ⟨its, r, pl, hz⟩ := I.list (sq_of hp)
  obtain ⟨w, ew, rw'⟩ := r.get hv
  have hl := r.length
  have hn := line63
  have hj : j < xs.length := (List.getElem?_eq_some_iff.mp hv).1
  exact wpAny_getItem_list pl.isList (by omega) (by omega) (by rw [Int.toNat_natCast]; simpa using ew) ⟨v, H, I.tok _, rw', q⟩
/-- told[j] += 1 -/
theorem s_augN {σ : L2.St} {H : Hp} {ta tb te : TE} {D : Ends} {l : Addr} {xs : List V} {j : Nat} {a b : Int} (hl : H l = some (.lst xs)) (ha : Ev ta σ H (.ref l)) (hb : Ev tb σ H (.int (j : Int))) (hj : xs[j]? = some (.int a)) (he : Ev te σ H (.int b))
    (k : ∀ H1, Ex H H1 → D.nx σ (upd H1 l (.lst (xs.set j (.int (a + b)))))) : tAugS ta tb te rGetN (ipI fun i j => i + j) rSetL D σ H := ha H (Ex.refl H) _ fun H1 e1 => hb H1 e1 _ fun H2 e2 =>
  ⟨l, xs, j, .int a, rfl, rfl, e2 _ _ (e1 _ _ hl), hj, he H2 (e1.trans e2) _ fun H3 e3 => ⟨a, b, rfl, rfl, l, xs, (j : Int), j, rfl, rfl, e3 _ _ (e2 _ _ (e1 _ _ hl)), ixN_nat (List.getElem?_eq_some_iff.mp hj).1, k H3 ((e1.trans e2).trans e3)⟩⟩
end Rd
set_option linter.all false
set_option maxRecDepth 100000
set_option maxHeartbeats 2000000
namespace Rd
open PySem PySem.Spec PyProof.Rows L2 Evl
/-! ### for k in d -/
/-- the ends of a loop's body while d is locked -/
def lockD (d : Addr) (u : HO) (od : Obj) (D : Ends) : Ends := ⟨fun σ' H' => H' d = some (.frz od u) ∧ D.nx σ' (upd H' d u), fun v H' => H' d = some (.frz od u) ∧ D.rt v (upd H' d u), fun σ' H' => H' d = some (.frz od u) ∧ D.bk σ' (upd H' d u), fun σ' H' => H' d = some (.frz od u) ∧ D.ct σ' (upd H' d u)⟩
section
variable {σ : L2.St} {H : Hp} {td : TE} {tu tz : TS} {D : Ends}
theorem s_forD {d : Addr} {kvs : List (L2.Key × V)} {j : Nat} (hd : H d = some (.dK kvs)) (hm : Mut (some (.dK kvs))) (Pv : Nat → L2.St → Hp → Prop)
    (h : ∀ od : Obj, Ev td σ (upd H d (.frz od (.dK kvs))) (.ref d) ∧ (∀ H1, Ex (upd H d (.frz od (.dK kvs))) H1 → Pv 0 σ (upd H1 d (.dK kvs))) ∧
      (∀ i k v σ' H', kvs[i]? = some (k, v) → H' d = some (.frz od (.dK kvs)) → Pv i σ' (upd H' d (.dK kvs)) → tu { lockD d (.dK kvs) od D with nx := fun σ2 H2 => H2 d = some (.frz od (.dK kvs)) ∧ Pv (i + 1) σ2 (upd H2 d (.dK kvs)), ct := fun σ2 H2 => H2 d = some (.frz od (.dK kvs)) ∧ Pv (i + 1) σ2 (upd H2 d (.dK kvs)), bk := (lockD d (.dK kvs) od D).nx } (σ'.set j (some (kV k))) H'))
    (hz : ∀ σ' H', Pv kvs.length σ' H' → D.nx σ' H') : tLock (tFor (iKeys td) (gName j) tu) D σ H := by
  refine ⟨d, _, hd, hm, fun od => ?_⟩
  obtain ⟨h1, h2, h3⟩ := h od
  refine h1 _ (Ex.refl _) _ fun H1 e1 => ⟨d, od, rfl, .inl ⟨kvs, e1 _ _ upd_same, ?_⟩⟩
  refine ⟨fun i m σ' H' => m = kvs.length - i ∧ i ≤ kvs.length ∧ H' d = some (.frz od (.dK kvs)) ∧ Pv i σ' (upd H' d (.dK kvs)), ⟨kvs.length, by simp, Nat.zero_le _, e1 _ _ upd_same, h2 _ e1⟩, ?_⟩
  rintro i m σ' H' ⟨rfl, hi, hf, p⟩
  by_cases hlt : i < kvs.length
  · refine .inr ⟨⟨hf, hlt⟩, fun σ2 H2 => H2 d = some (.frz od (.dK kvs)) ∧ Pv (i + 1) σ2 (upd H2 d (.dK kvs)), fun σ2 H2 p2 => ⟨kvs.length - (i + 1), by omega, rfl, hlt, p2⟩, fun x H2 y => ?_⟩
    obtain ⟨rfl, k, v, hk, rfl⟩ := y
    exact h3 i k v σ' _ hk hf p
  · have : i = kvs.length := by omega
    subst this
    exact .inl ⟨⟨hf, Nat.le_refl _⟩, hf, hz _ _ p⟩
theorem q_forD {d : Addr} {kvs : List (L2.Key × V)} {j : Nat} (hd : H d = some (.dK kvs)) (hm : Mut (some (.dK kvs))) (Pv : Nat → L2.St → Hp → Prop)
    (h : ∀ od : Obj, Ev td σ (upd H d (.frz od (.dK kvs))) (.ref d) ∧ (∀ H1, Ex (upd H d (.frz od (.dK kvs))) H1 → Pv 0 σ (upd H1 d (.dK kvs))) ∧
      (∀ i k v σ' H', kvs[i]? = some (k, v) → H' d = some (.frz od (.dK kvs)) → Pv i σ' (upd H' d (.dK kvs)) → tu { lockD d (.dK kvs) od { D with nx := tz D } with nx := fun σ2 H2 => H2 d = some (.frz od (.dK kvs)) ∧ Pv (i + 1) σ2 (upd H2 d (.dK kvs)), ct := fun σ2 H2 => H2 d = some (.frz od (.dK kvs)) ∧ Pv (i + 1) σ2 (upd H2 d (.dK kvs)), bk := (lockD d (.dK kvs) od { D with nx := tz D }).nx } (σ'.set j (some (kV k))) H'))
    (hz : ∀ σ' H', Pv kvs.length σ' H' → tz D σ' H') : tSeq (tLock (tFor (iKeys td) (gName j) tu)) tz D σ H := s_forD (D := { D with nx := tz D }) hd hm Pv h hz
end
end Rd
set_option linter.all false
set_option maxRecDepth 100000
set_option maxHeartbeats 2000000
namespace Rd
open PySem PySem.Spec PyProof.Rows L2 Evl
/-! ### a sheet in the heap -/
structure TA' where
  dx : Addr
  ma : Addr
  ta : Addr
def tF (t : T) (d : TA') : List (Str × V) := [("solver", vN t.who), ("riddle", vN t.which), ("marks", .ref d.ma), ("told", .ref d.ta)]
theorem tF_solver (t : T) (d : TA') : (tF t d).lookup ("solver" : Str) = some (vN t.who) := lk_here
theorem tF_riddle (t : T) (d : TA') : (tF t d).lookup ("riddle" : Str) = some (vN t.which) := (lk_past (by decide +kernel)).trans lk_here
theorem tF_marks (t : T) (d : TA') : (tF t d).lookup ("marks" : Str) = some (.ref d.ma) := (lk_past (by decide +kernel)).trans ((lk_past (by decide +kernel)).trans lk_here)
theorem tF_told (t : T) (d : TA') : (tF t d).lookup ("told" : Str) = some (.ref d.ta) := (lk_past (by decide +kernel)).trans ((lk_past (by decide +kernel)).trans ((lk_past (by decide +kernel)).trans lk_here))
theorem tF_no (t : T) (d : TA') {m : Str} (h : (["solver", "riddle", "marks", "told"] : List Str).all (fun f => !(m == f)) = true) : (tF t d).lookup m = none := by
  simp only [List.all_cons, List.all_nil, Bool.and_true, Bool.and_eq_true, Bool.not_eq_true'] at h
  obtain ⟨h1, h2, h3, h4⟩ := h
  exact (lk_past h1).trans ((lk_past h2).trans ((lk_past h3).trans ((lk_past h4).trans rfl)))
structure TC (K : PySem.W.Frag) (C : Addr) : Prop where
  cl : Cls K C
  n1 : NoAttr K C "solver"
  n2 : NoAttr K C "riddle"
  n3 : NoAttr K C "marks"
  n4 : NoAttr K C "told"
structure OwnT (C : Addr) (H : Hp) (x : Addr) (d : TA') (t : T) : Prop where
  ins : H x = some (.ins C d.dx (tF t d))
  ma : H d.ma = some (.dK (kvN t.marks))
  ta : H d.ta = some (.lst (vL [t.slips, t.may, t.sure]))
  nd : (t.marks.map (·.1)).Nodup
  few : t.marks.length ≤ 60
theorem OwnT.mono {C : Addr} {H H' : Hp} {x : Addr} {d : TA'} {t : T} (e : Ex H H') (O : OwnT C H x d t) : OwnT C H' x d t := ⟨e _ _ O.ins, e _ _ O.ma, e _ _ O.ta, O.nd, O.few⟩
/-! ### while a dict is locked -/
theorem lst_unlock {H : Hp} {d a : Addr} {kvs : List (L2.Key × V)} {xs : List V} (h : upd H d (.dK kvs) a = some (.lst xs)) : H a = some (.lst xs) ∧ a ≠ d := by
  by_cases e : a = d
  · rw [e, upd_same] at h; cases h
  · rw [upd_ne e] at h; exact ⟨h, e⟩
theorem ins_unlock {H : Hp} {d a : Addr} {kvs : List (L2.Key × V)} {C dx : Addr} {fs : List (Str × V)} (h : upd H d (.dK kvs) a = some (.ins C dx fs)) : H a = some (.ins C dx fs) ∧ a ≠ d := by
  by_cases e : a = d
  · rw [e, upd_same] at h; cases h
  · rw [upd_ne e] at h; exact ⟨h, e⟩
theorem lls_unlock {H : Hp} {d : Addr} {kvs : List (L2.Key × V)} {as : List Addr} {xss : List (List Nat)} (h : LLs (upd H d (.dK kvs)) as xss) : LLs H as xss := Paired.mapP h fun a q r => (lst_unlock r).1
theorem lls_relock {H : Hp} {d : Addr} {od : Obj} {u : HO} {kvs : List (L2.Key × V)} (hf : H d = some (.frz od u)) {as : List Addr} {xss : List (List Nat)} (h : LLs H as xss) : LLs (upd H d (.dK kvs)) as xss := Paired.mapP h fun a q r => by
  rw [upd_ne (fun z => by rw [z, hf] at r; cases r)]; exact r
theorem ex_unlock {H0 H H2 : Hp} {d : Addr} {kvs : List (L2.Key × V)} (h0 : H0 d = some (.dK kvs)) (h : Ex H0 (upd H d (.dK kvs))) (e : Ex H H2) : Ex H0 (upd H2 d (.dK kvs)) := fun b o hb => by
  by_cases c : b = d
  · subst c; rw [upd_same]; rw [h0] at hb; exact hb
  · rw [upd_ne c]
    have := h b o hb
    rw [upd_ne c] at this
    exact e b o this
theorem leftM_more {ws : List (List Nat)} {ms : List (Nat × Nat)} {i : Nat} {p : Nat × Nat} (h : ms[i]? = some p) : leftM ws (ms.take (i + 1)) = (leftM ws (ms.take i)).filter (havM p.1 p.2) := by
  rw [take_more h]
  unfold leftM
  rw [List.foldl_append]
  rfl
theorem leftM_len (ms : List (Nat × Nat)) (ws : List (List Nat)) : (leftM ws ms).length ≤ ws.length := by
  rw [leftM_is]
  exact List.length_filter_le _ _
abbrev cSheet : Stmt := top 46
abbrev sLeft : Stmt := inClass cSheet 2
theorem scLeft : FnScope ["self", "ways", "cell"] ["self", "ways"] (defScope sLeft) := ⟨rfl, rfl, rfl, by decide +kernel, rfl, by decide +kernel, by decide +kernel⟩
def spLeft (C : Addr) : Sp := fun vs H Q _ => ∃ (x p : Addr) (d : TA') (t : T) (as : List Addr) (xss : List (List Nat)), vs = [.ref x, .ref p] ∧ OwnT C H x d t ∧ H p = some (.lst (as.map V.ref)) ∧ LLs H as xss ∧ xss.length ≤ 99999 ∧ RetP (IsLL (leftM xss t.marks)) H Q
section
variable {P : Program} {w : World} {K : PySem.W.Frag} {mg : Str → Option Value} {base : Heap} {C : Addr}
theorem ok_left {f : Addr} {fd : FuncData} (F : Fun K "left" "Sheet.left" sLeft f fd) (Tc : TC K C) (gH : Gf P w K mg base 1 "having" ["ways", "cell", "sign"] spHaving) : FnOk P w K mg base CX0 2 f fd ["self", "ways"] (spLeft C) := by
  refine F.ok scLeft (fun vs H Q E h => ?_) (fun cdv A outer s H vs Q E hr h => ?_)
  · obtain ⟨x, p, d, t, as, xss, rfl, _⟩ := h; rfl
  · obtain ⟨f1, fd1, g1, k1, G1, B1⟩ := gH
    refine ⟨_, pss_cons (ps_lock (ps_for PassesOwn.never rfl (pi_keys (pe_fld (pv 0) rfl)) (pg_name (i := 2) scLeft.nd rfl (Or.inl rfl))
        (pss_one (ps_set (i := 1) scLeft.nd rfl (Or.inl rfl) (pe_call G1 hr (by rfl) g1 k1 B1 .nil pass0 (pa_cons (pv 1) (pa_cons (pv 2) (pa_cons (pe_dget (hu_of hr) (pe_fld (pv 0) rfl) (pv 2) (by intro _ _; rfl)) pa_nil)))))))) (pss_one (ps_ret (pv 1))), ?_⟩
    obtain ⟨x, p, d, t, as, xss, rfl, O, hp, hl, hz, k⟩ := h
    refine q_forD (d := d.ma) (kvs := kvN t.marks) O.ma trivial (fun i σ' H' => ∃ (p' : Addr) (as' : List Addr) (v2 : Option V), σ' = [some (.ref x), some (.ref p'), v2] ∧ Ex H H' ∧ H' p' = some (.lst (as'.map V.ref)) ∧ LLs H' as' (leftM xss (t.marks.take i))) (fun od => ⟨?_, ?_, ?_⟩) ?_
    · refine ev_fld (v := .ref d.ma) (ev_var rfl) (?_ : upd H d.ma _ x = some (.ins C d.dx (tF t d))) Tc.cl Tc.n3 (tF_marks t d)
      rw [upd_ne (ne_of O.ins O.ma (by intro z; cases z))]
      exact O.ins
    · intro H1 e1
      have eH : Ex H (upd H1 d.ma (.dK (kvN t.marks))) := fun b o hb => by
        by_cases c : b = d.ma
        · subst c; rw [upd_same]; rw [O.ma] at hb; exact hb
        · rw [upd_ne c]; exact e1 b o (by rw [upd_ne c]; exact hb)
      exact ⟨p, as, none, rfl, eH, eH _ _ hp, hl.mono eH⟩
    · rintro i ky v σ' H' hi hf ⟨p', as', v2, rfl, e', hp', hl'⟩
      have hi' : i < t.marks.length := by
        have := (List.getElem?_eq_some_iff.mp hi).1
        rwa [kvN_len] at this
      obtain ⟨c, hc⟩ : ∃ c, t.marks[i]? = some c := ⟨_, List.getElem?_eq_getElem hi'⟩
      have hkv : (ky, v) = (Sum.inl (c.1 : Int), vN c.2) := by
        have h2 : (kvN t.marks)[i]? = some (Sum.inl (c.1 : Int), vN c.2) := by unfold kvN; rw [List.getElem?_map, hc]; rfl
        rw [hi] at h2
        exact Option.some.inj h2
      obtain ⟨rfl, rfl⟩ := Prod.mk.inj hkv
      have hx := (ins_unlock (e' _ _ O.ins)).1
      have hlook : t.marks.lookup c.1 = some c.2 := (look_mem O.nd _ _).mpr (List.mem_of_getElem? hc)
      have hp1 := (lst_unlock hp').1
      have hl1 := lls_unlock hl'
      have hlen := leftM_len (t.marks.take i) xss
      refine ep_call (P := IsLL ((leftM xss (t.marks.take i)).filter (havM c.1 c.2))) (vs := [.ref p', vN c.1, vN c.2]) (ea_cons (ev_var rfl) (ea_cons (ev_var rfl) (ea_cons (ev_dget (nums := t.marks) (ev_fld (v := .ref d.ma) (ev_var rfl) hx Tc.cl Tc.n3 (tF_marks t d)) (ev_var rfl) (.inr ⟨od, hf⟩) hlook) ea_nil)))
        (fun H5 e5 Q kk E => ⟨p', as', c.1, c.2, _, rfl, e5 _ _ hp1, hl1.mono e5, by omega, kk⟩) H' (Ex.refl H') _ fun v' H5 e5 ⟨q, bs, ev, hq, hbs⟩ => ?_
      subst ev
      have hf5 := e5 _ _ hf
      refine ⟨hf5, q, bs, some (vN c.1), rfl, ex_unlock O.ma e' e5, ?_, ?_⟩
      · rw [upd_ne (fun z => by rw [z, hf5] at hq; cases hq)]; exact hq
      · rw [leftM_more hc]
        exact lls_relock hf5 hbs
    · rintro σ' H' ⟨p', as', v2, rfl, e', hp', hl'⟩
      rw [kvN_len, List.take_length] at hl'
      exact s_ret (v := .ref p') (ev_var rfl) fun H3 e3 => k _ H3 (e'.trans e3) ⟨p', as', rfl, e3 _ _ hp', hl'.mono e3⟩
end
end Rd
set_option linter.all false
set_option maxRecDepth 100000
set_option maxHeartbeats 2000000
namespace Rd
open PySem PySem.Spec PyProof.Rows L2 Evl
/-! ### a sheet's calls, told and true -/
def hasM (t : T) (c : Nat) : Bool := t.marks.any fun p => p.1 == c
def begunT (t : T) : Nat := t.slips + t.may + t.sure
def unmM (ws : List Nat) (t : T) : List Nat := ws.filter fun c => !hasM t c
def rubT (t : T) (c : Nat) : T := { t with marks := t.marks.filter fun z => z.1 != c }
def sureM (l : List (List Nat)) (x : Nat) : Option (Nat × Nat) := if Sy86.kind l x 1 = 2 then some (x, 1) else if Sy86.kind l x 2 = 2 then some (x, 2) else none
def nextA (ways : List (List Nat)) (ws : List Nat) (t : T) : List Int := if (unmM ws t).isEmpty = true then [-4] else match (unmM ws t).findSome? (sureM (leftM ways t.marks)) with
  | none => [-6]
  | some z => [(z.1 : Int), 1, (z.2 : Int)]
def doneA (ways : List (List Nat)) (ws : List Nat) (t : T) : List Int := [if (!(leftM ways t.marks).isEmpty && (unmM ws t).isEmpty) = true then 1 else 0]
def cellsT (t : T) : List Nat := (t.marks.map (·.1)).foldl (fun m n => Sy64.insert n m) []
def flatT (t : T) (cs : List Nat) : List Nat := cs.flatMap fun c => [c, (t.marks.lookup c).getD 0]
def shownA (t : T) : List Int := castL ([t.marks.length, (flatT t (cellsT t)).length] ++ flatT t (cellsT t) ++ [3] ++ [t.sure, t.may, t.slips])
theorem LT.has {t : T} {s : Sy86.Sheet} (L : LT t s) (x : Nat) : Sy86.isMarked s.marks x = hasM t x := L.isMarked x
theorem LT.unm {t : T} {s : Sy86.Sheet} (L : LT t s) (ws : List Nat) : ws.filter (fun x => !Sy86.isMarked s.marks x) = unmM ws t := by
  unfold unmM
  congr 1
  funext x
  rw [L.has]
theorem all_unm {t : T} {s : Sy86.Sheet} (L : LT t s) (ws : List Nat) : ws.all (Sy86.isMarked s.marks) = (unmM ws t).isEmpty := by
  rw [← L.unm, Bool.eq_iff_iff, List.all_eq_true, List.isEmpty_iff, List.filter_eq_nil_iff]
  constructor
  · intro h x hx; rw [h x hx]; decide
  · intro h x hx
    have := h x hx
    simpa using this
theorem kind_nil {l : List (List Nat)} (h : l.isEmpty = true) (x k : Nat) : Sy86.kind l x k = 0 := by
  rw [List.isEmpty_iff] at h
  subst h
  rfl
theorem kind_le (l : List (List Nat)) (x k : Nat) : Sy86.kind l x k ≤ 2 := by
  unfold Sy86.kind
  simp only []
  split
  · decide
  · split <;> decide
theorem nextT_is {S : Sy86.St} {t : T} {s : Sy86.Sheet} (L : LT t s) (k : Nat) : nextA (Sy86.ways S k) (Sy86.cells S k) t = Sy86Neutral.out (if (Sy86.cells S k).all (Sy86.isMarked s.marks) = true then Sy86.ok (-4) else match (if (Sy86.left S k s.marks).isEmpty = true then none else Sy86.nextSure S k s.marks) with
    | none => Sy86.ok (-6)
    | some z => ⟨(z.1 : Nat), [[(z.2 : Int)]]⟩) := by
  unfold nextA
  rw [all_unm L]
  by_cases h : (unmM (Sy86.cells S k) t).isEmpty = true
  · rw [if_pos h, if_pos h]; rfl
  · rw [if_neg h, if_neg h]
    have e : leftM (Sy86.ways S k) t.marks = Sy86.left S k s.marks := L.left _
    have e2 : Sy86.nextSure S k s.marks = (unmM (Sy86.cells S k) t).findSome? (sureM (leftM (Sy86.ways S k) t.marks)) := by
      unfold Sy86.nextSure
      simp only []
      rw [L.unm, e]
      rfl
    by_cases h2 : (Sy86.left S k s.marks).isEmpty = true
    · rw [if_pos h2]
      have : (unmM (Sy86.cells S k) t).findSome? (sureM (leftM (Sy86.ways S k) t.marks)) = none := by
        rw [List.findSome?_eq_none_iff]
        intro x _
        unfold sureM
        rw [e, kind_nil h2, kind_nil h2]
        rfl
      rw [this]
      rfl
    · rw [if_neg h2, e2]
      cases (unmM (Sy86.cells S k) t).findSome? (sureM (leftM (Sy86.ways S k) t.marks)) with
      | none => rfl
      | some z => rfl
theorem doneT_is {S : Sy86.St} {t : T} {s : Sy86.Sheet} (L : LT t s) (k : Nat) : doneA (Sy86.ways S k) (Sy86.cells S k) t = Sy86Neutral.out (Sy86.ok (if Sy86.isDone S k s.marks = true then 1 else 0)) := by
  unfold doneA Sy86.isDone
  rw [all_unm L, show leftM (Sy86.ways S k) t.marks = Sy86.left S k s.marks from L.left _, Bool.and_comm]
  rfl
theorem shownT_is {t : T} {s : Sy86.Sheet} (L : LT t s) : shownA t = Sy86Neutral.out ⟨(s.marks.length : Nat), [Sy86.ints (s.marks.flatMap fun (z : Nat × Nat) => [z.1, z.2]), Sy86.ints [s.sure, s.may, s.slips]]⟩ := by
  have e : flatT t (cellsT t) = s.marks.flatMap fun (z : Nat × Nat) => [z.1, z.2] := L.shown
  unfold shownA
  rw [e, L.len, L.sure, L.may, L.slips]
  show _ = ((s.marks.length : Nat) : Int) :: ((((Sy86.ints (s.marks.flatMap fun (z : Nat × Nat) => [z.1, z.2])).length : Nat) : Int) :: Sy86.ints (s.marks.flatMap fun (z : Nat × Nat) => [z.1, z.2]) ++ ((3 : Int) :: Sy86.ints [s.sure, s.may, s.slips] ++ []))
  have hl : (Sy86.ints (s.marks.flatMap fun (z : Nat × Nat) => [z.1, z.2])).length = (s.marks.flatMap fun (z : Nat × Nat) => [z.1, z.2]).length := List.length_map ..
  rw [hl, castL_app, castL_app, castL_app, List.append_assoc, List.append_assoc]
  rfl
/-! ### how many a sheet has been told -/
theorem markM_begun (ws : List (List Nat)) (t : T) (c v : Nat) : begunT (markM ws t c v).1 = begunT t + 1 := by
  unfold markM begunT
  split
  · show t.slips + 1 + t.may + t.sure = _; omega
  · split
    · show t.slips + t.may + (t.sure + 1) = _; omega
    · show t.slips + (t.may + 1) + t.sure = _; omega
theorem markM_who (ws : List (List Nat)) (t : T) (c v : Nat) : (markM ws t c v).1.who = t.who ∧ (markM ws t c v).1.which = t.which := by
  unfold markM
  split
  · exact ⟨rfl, rfl⟩
  · split <;> exact ⟨rfl, rfl⟩
theorem markM_len (ws : List (List Nat)) (t : T) (c v : Nat) : (markM ws t c v).1.marks.length ≤ t.marks.length + 1 := by
  unfold markM
  split
  · exact Nat.le_succ _
  · split <;> (show (t.marks ++ [(c, v)]).length ≤ _; simp)
/-- the mark by its kind -/
theorem markM_kind (ws : List (List Nat)) (t : T) (c v : Nat) : markM ws t c v = (if Sy86.kind (leftM ws t.marks) c v = 0 then { t with slips := t.slips + 1 } else if Sy86.kind (leftM ws t.marks) c v = 2 then { t with marks := t.marks ++ [(c, v)], sure := t.sure + 1 } else { t with marks := t.marks ++ [(c, v)], may := t.may + 1 },
    [((Sy86.kind (leftM ws t.marks) c v : Nat) : Int), 1, (((leftM ws (if Sy86.kind (leftM ws t.marks) c v = 0 then t.marks else t.marks ++ [(c, v)])).length : Nat) : Int)]) := by
  have hb : leftM ws (t.marks ++ [(c, v)]) = (leftM ws t.marks).filter (havM c v) := by
    unfold leftM; rw [List.foldl_append]; rfl
  have hk : Sy86.kind (leftM ws t.marks) c v = if ((leftM ws t.marks).filter (havM c v)).isEmpty = true then 0 else if ((leftM ws t.marks).filter (havM c v)).length = (leftM ws t.marks).length then 2 else 1 := rfl
  unfold markM
  by_cases e1 : ((leftM ws t.marks).filter (havM c v)).isEmpty = true
  · rw [if_pos e1] at hk
    rw [if_pos e1, hk]
    rfl
  · rw [if_neg e1] at hk
    rw [if_neg e1]
    by_cases e2 : ((leftM ws t.marks).filter (havM c v)).length = (leftM ws t.marks).length
    · rw [if_pos e2] at hk
      rw [if_pos e2, hk, if_neg (by decide), if_pos rfl, if_neg (by decide), hb]
      rfl
    · rw [if_neg e2] at hk
      rw [if_neg e2, hk, if_neg (by decide), if_neg (by decide), if_neg (by decide), hb]
      rfl
end Rd
set_option linter.all false
set_option maxRecDepth 100000
set_option maxHeartbeats 2000000
namespace Rd
open PySem PySem.Spec PyProof.Rows L2 Evl
/-! ### what a mark would be -/
abbrev sKind : Stmt := top 48
abbrev nKind : List Str := ["left", "cell", "sign", "so"]
theorem scKind : FnScope nKind ["left", "cell", "sign"] (defScope sKind) := ⟨rfl, rfl, rfl, by decide +kernel, rfl, by decide +kernel, by decide +kernel⟩
def spKind : Sp := fun vs H Q _ => ∃ (p : Addr) (as : List Addr) (c s : Nat) (xss : List (List Nat)), vs = [.ref p, vN c, vN s] ∧ H p = some (.lst (as.map V.ref)) ∧ LLs H as xss ∧ xss.length ≤ 99999 ∧ RetV (vN (Sy86.kind xss c s)) H Q
theorem kind_hav (xss : List (List Nat)) (c s : Nat) : Sy86.kind xss c s = if (xss.filter (havM c s)).isEmpty = true then 0 else if (xss.filter (havM c s)).length = xss.length then 2 else 1 := rfl
section
variable {P : Program} {w : World} {K : PySem.W.Frag} {mg : Str → Option Value} {base : Heap}
theorem spv_kind {H : Hp} {p : Addr} {as : List Addr} {xss : List (List Nat)} (hp : H p = some (.lst (as.map V.ref))) (hl : LLs H as xss) (hz : xss.length ≤ 99999) (c s : Nat) : SpV spKind [.ref p, vN c, vN s] H (vN (Sy86.kind xss c s)) := fun H1 e Q q E => ⟨p, as, c, s, xss, rfl, e _ _ hp, hl.mono e, hz, q⟩
theorem ok_kind {f : Addr} {fd : FuncData} (F : Fun K "kind_of" "kind_of" sKind f fd) (gL : mg "len" = none) (c0 : KInt mg "CANT_BE" 0) (c1 : KInt mg "MAY_BE" 1) (c2 : KInt mg "SURE" 2) (gH : Gf P w K mg base 1 "having" ["ways", "cell", "sign"] spHaving) :
    FnOk P w K mg base CX0 2 f fd ["left", "cell", "sign"] spKind := by
  refine F.ok scKind (fun vs H Q E h => ?_) (fun cdv A outer s H vs Q E hr h => ?_)
  · obtain ⟨p, as, c, s, xss, rfl, _⟩ := h; rfl
  · obtain ⟨f2, fd2, g2, k2, G2, B2⟩ := gH
    obtain ⟨t0, c0⟩ := c0
    obtain ⟨t1, c1⟩ := c1
    obtain ⟨t2, c2⟩ := c2
    refine ⟨_, pss_cons (ps_set (i := 3) scKind.nd rfl (Or.inl rfl) (pe_call G2 hr (by rfl) g2 k2 B2 .nil pass0 (pa_cons (pv 0) (pa_cons (pv 1) (pa_cons (pv 2) pa_nil)))))
      (pss_cons (ps_if (pt_not (pt_truth (pv 3) (by intro _; rfl))) (pss_one (ps_ret (pe_glob (v := .int 0) rfl c0 ⟨_, rfl⟩))) pss_nil)
      (pss_one (ps_ret (pe_ifExp (pt_cmpR op_eq (pe_callB call_len_seq (by rfl) gL PySem.boot_len (pa_cons (pv 3) pa_nil)) (pe_callB call_len_seq (by rfl) gL PySem.boot_len (pa_cons (pv 0) pa_nil)) (by rfl)) (pe_glob (v := .int 2) rfl c2 ⟨_, rfl⟩) (pe_glob (v := .int 1) rfl c1 ⟨_, rfl⟩))))), ?_⟩
    obtain ⟨p, as, c, s, xss, rfl, hp, hl, hz, k⟩ := h
    rw [kind_hav] at k
    refine q_asgP (ep_call (P := IsLL (xss.filter (havM c s))) (vs := [.ref p, vN c, vN s]) (ea_cons (ev_var rfl) (ea_cons (ev_var rfl) (ea_cons (ev_var rfl) ea_nil))) (fun H5 e5 Q kk E => ⟨p, as, c, s, xss, rfl, e5 _ _ hp, hl.mono e5, hz, kk⟩)) fun v1 H1 e1 ⟨ph, hs, ev1, hph, hhs⟩ => ?_
    subst ev1
    have lb : as.length = xss.length := Paired.length hl
    have lh : hs.length = (xss.filter (havM c s)).length := Paired.length hhs
    refine q_when (b := (xss.filter (havM c s)).isEmpty) (et_is (et_not (et_truth_l (k := true) (ev_var rfl) (sq_of hph))) ?_) (fun hb H3 e3 => ?_) (fun hb H3 e3 => ?_)
    · rw [Bool.not_not, Bool.eq_iff_iff, List.isEmpty_iff_length_eq_zero, List.isEmpty_iff_length_eq_zero, List.length_map, lh]
    · rw [if_pos hb] at k
      exact s_ret (v := vN 0) ev_c fun H4 e4 => k H4 ((e1.trans e3).trans e4)
    · rw [if_neg (by rw [hb]; decide)] at k
      have hph3 := e3 _ _ hph
      have hpb3 := (e1.trans e3) _ _ hp
      have eq1 : Ev (tOp rEq (tCB (rLenS K) (tCons (tVar 3) tNil)) (tCB (rLenS K) (tCons (tVar 0) tNil))) [some (.ref p), some (vN c), some (vN s), some (.ref ph)] H3 (.bl ((xss.filter (havM c s)).length == xss.length)) := by
        refine ev_is (ev_op (ev_len (ev_var rfl) (sq_of hph3)) (ev_len (ev_var rfl) (sq_of hpb3)) (rv_eqN (a := (hs.map V.ref).length) (b := (as.map V.ref).length))) ?_
        rw [List.length_map, List.length_map, lh, lb]
      by_cases e2' : (xss.filter (havM c s)).length = xss.length
      · rw [if_pos e2'] at k
        exact s_ret (v := vN 2) (ev_if (b := true) (et_test (ev_is eq1 (by rw [beq_iff_eq.mpr e2']))) (fun _ => ev_c) (fun z => nomatch z)) fun H4 e4 => k H4 ((e1.trans e3).trans e4)
      · rw [if_neg e2'] at k
        exact s_ret (v := vN 1) (ev_if (b := false) (et_test (ev_is eq1 (by rw [beq_eq_false_iff_ne.mpr e2']))) (fun z => nomatch z) (fun _ => ev_c)) fun H4 e4 => k H4 ((e1.trans e3).trans e4)
end
/-! ### small methods of a sheet -/
theorem vL_cast (l : List Nat) : (castL l).map V.int = vL l := by
  unfold castL vL; rw [List.map_map]; rfl
theorem look_any : ∀ (l : List (Nat × Nat)) (c : Nat), (l.lookup c).isSome = l.any fun p => p.1 == c
  | [], _ => rfl
  | p :: l, c => by
    rw [List.lookup_cons, List.any_cons]
    by_cases e : c = p.1
    · subst e; simp
    · rw [show (c == p.1) = false by simpa using e, show (p.1 == c) = false by simpa using fun z => e z.symm]
      exact look_any l c
section
variable {σ : L2.St} {H : Hp} {ty td : TE}
theorem ev_din {a : Addr} {n : Nat} {ns : List (Nat × Nat)} (hy : Ev ty σ H (vN n)) (hd : Ev td σ H (.ref a)) (ha : Rd H a (.dK (kvN ns))) : Ev (tDIn ty td) σ H (.bl (ns.any fun p => p.1 == n)) := fun H1 e Q q =>
  hy H1 e _ fun H2 e2 => hd H2 (e.trans e2) _ fun H3 e3 => ⟨a, _, rfl, .inl ⟨kvN ns, Sum.inl (n : Int), ex_rd ((e.trans e2).trans e3) ha, rfl, rfl⟩, by
    rw [kvN_get, Option.isSome_map, look_any]
    exact q H3 (e2.trans e3)⟩
theorem ev_dni {a : Addr} {n : Nat} {ns : List (Nat × Nat)} (hy : Ev ty σ H (vN n)) (hd : Ev td σ H (.ref a)) (ha : Rd H a (.dK (kvN ns))) : Ev (tDNotIn ty td) σ H (.bl (!(ns.any fun p => p.1 == n))) := fun H1 e Q q =>
  hy H1 e _ fun H2 e2 => hd H2 (e.trans e2) _ fun H3 e3 => ⟨a, _, rfl, .inl ⟨kvN ns, Sum.inl (n : Int), ex_rd ((e.trans e2).trans e3) ha, rfl, rfl⟩, by
    rw [kvN_get, Option.isSome_map, look_any]
    exact q H3 (e2.trans e3)⟩
end
theorem ev_lenD {σ : L2.St} {H : Hp} {td : TE} {a : Addr} {ns : List (Nat × Nat)} (h : Ev td σ H (.ref a)) (ha : H a = some (.dK (kvN ns))) : Ev (tCB (fun vs H Q => ∃ d kvs, vs = [.ref d] ∧ H d = some (.dK kvs) ∧ Q (.int (kvs.length : Int)) H) (tCons td tNil)) σ H (.int (ns.length : Nat)) := fun H1 e Q q =>
  h H1 e _ fun H2 e2 => ⟨a, _, rfl, (e.trans e2) _ _ ha, by rw [kvN_len]; exact q H2 e2⟩
/-- d.pop(k) -/
theorem q_popN {σ : L2.St} {H : Hp} {td ty : TE} {tz : TS} {D : Ends} {a : Addr} {n : Nat} {ns : List (Nat × Nat)} (ha : H a = some (.dK (kvN ns))) (hd : Ev td σ H (.ref a)) (hy : Ev ty σ H (vN n)) (hs : (ns.lookup n).isSome = true)
    (k : ∀ H1, Ex H H1 → tz D σ (upd H1 a (.dK (kvN (tellM ns n none))))) : tSeq (tDrop (tDPop1 td ty)) tz D σ H := hd H (Ex.refl H) _ fun H1 e1 =>
  ⟨a, rfl, .inl ⟨_, .inl (e1 _ _ ha)⟩, hy H1 e1 _ fun H2 e2 => ⟨kvN ns, Sum.inl (n : Int), vN ((ns.lookup n).get hs), (e1.trans e2) _ _ ha, rfl, by rw [kvN_get]; exact (congrArg (Option.map vN) (Option.some_get hs)).symm, by
    rw [kvN_drop]
    exact k H2 (e1.trans e2)⟩⟩
abbrev sHasB : Stmt := inClass cSheet 1
theorem scHasB : FnScope ["self"] ["self"] (defScope sHasB) := ⟨rfl, rfl, rfl, by decide +kernel, rfl, by decide +kernel, by decide +kernel⟩
def spHasB (C : Addr) : Sp := fun vs H Q _ => ∃ (x : Addr) (d : TA') (t : T), vs = [.ref x] ∧ OwnT C H x d t ∧ RetV (.bl (decide (0 < begunT t))) H Q
abbrev sUnm : Stmt := inClass cSheet 3
abbrev nUnm : List Str := ["self", "wanting", "cell"]
theorem scUnm : FnScope nUnm ["self", "wanting"] (defScope sUnm) := ⟨rfl, rfl, rfl, by decide +kernel, rfl, by decide +kernel, by decide +kernel⟩
def spUnm (C : Addr) : Sp := fun vs H Q _ => ∃ (x p : Addr) (d : TA') (t : T) (ws : List Nat), vs = [.ref x, .ref p] ∧ OwnT C H x d t ∧ H p = some (.lst (vL ws)) ∧ ws.length ≤ 25 ∧ RetL (vL (unmM ws t)) H Q
abbrev sKinds : Stmt := inClass cSheet 9
theorem scKinds : FnScope ["self"] ["self"] (defScope sKinds) := ⟨rfl, rfl, rfl, by decide +kernel, rfl, by decide +kernel, by decide +kernel⟩
def spKinds (C : Addr) : Sp := fun vs H Q _ => ∃ (x : Addr) (d : TA') (t : T), vs = [.ref x] ∧ OwnT C H x d t ∧ RetL (vL [t.sure, t.may, t.slips]) H Q
abbrev sPts : Stmt := inClass cSheet 10
theorem scPts : FnScope ["self", "gained"] ["self"] (defScope sPts) := ⟨rfl, rfl, rfl, by decide +kernel, rfl, by decide +kernel, by decide +kernel⟩
def spPts (C : Addr) : Sp := fun vs H Q _ => ∃ (x : Addr) (d : TA') (t : T), vs = [.ref x] ∧ OwnT C H x d t ∧ RetV (.int (pointsT t)) H Q
abbrev sRub : Stmt := inClass cSheet 5
theorem scRub : FnScope ["self", "cell"] ["self", "cell"] (defScope sRub) := ⟨rfl, rfl, rfl, by decide +kernel, rfl, by decide +kernel, by decide +kernel⟩
def rubA (t : T) (c : Nat) : T × List Int := if hasM t c = true then (rubT t c, [((rubT t c).marks.length : Nat)]) else (t, [-4])
def spRub (C : Addr) : Sp := fun vs H Q _ => ∃ (x : Addr) (d : TA') (t : T) (c : Nat), vs = [.ref x, vN c] ∧ OwnT C H x d t ∧ ∀ (H' : Hp) (q : Addr), Kept H H' [d.ma] → OwnT C H' x d (rubA t c).1 → H' q = some (.lst ((rubA t c).2.map V.int)) → Q (.ref q) H'
section
variable {P : Program} {w : World} {K : PySem.W.Frag} {mg : Str → Option Value} {base : Heap} {C : Addr}
theorem ev_marks {σ : L2.St} {H : Hp} {x : Addr} {d : TA'} {t : T} {ta : TE} (Tc : TC K C) (O : OwnT C H x d t) (h : Ev ta σ H (.ref x)) : Ev (tFld K ta "marks") σ H (.ref d.ma) := ev_fld h O.ins Tc.cl Tc.n3 (tF_marks t d)
theorem ev_toldT {σ : L2.St} {H : Hp} {x : Addr} {d : TA'} {t : T} {ta : TE} (Tc : TC K C) (O : OwnT C H x d t) (h : Ev ta σ H (.ref x)) : Ev (tFld K ta "told") σ H (.ref d.ta) := ev_fld h O.ins Tc.cl Tc.n4 (tF_told t d)
theorem ok_hasB {f : Addr} {fd : FuncData} (F : Fun K "has_begun" "Sheet.has_begun" sHasB f fd) (Tc : TC K C) (gS : mg "sum" = none) : FnOk P w K mg base CX0 1 f fd ["self"] (spHasB C) := by
  refine F.ok scHasB (fun vs H Q E h => ?_) (fun cdv A outer s H vs Q E hr h => ?_)
  · obtain ⟨x, d, t, rfl, _⟩ := h; rfl
  · refine ⟨_, pss_one (ps_ret (pe_cmpR op_gt (pe_callB (cr_sum rfl) (by rfl) gS (by decide +kernel) (pa_cons (pe_fld (pv 0) rfl) pa_nil)) pe_int (by rfl))), ?_⟩
    obtain ⟨x, d, t, rfl, O, k⟩ := h
    refine s_ret (ev_is (ev_op (x := .int ((castL [t.slips, t.may, t.sure]).sum)) (y := .int 0) (fun H1 e Q q => (ev_toldT Tc O (ev_var rfl)) H1 e _ fun H2 e2 => ⟨d.ta, castL [t.slips, t.may, t.sure], rfl, sq_of (by rw [vL_cast]; exact (e.trans e2) _ _ O.ta), q H2 e2⟩) ev_c rv_I0) ?_) fun H1 e => k H1 e
    show V.bl (decide ((0 : Int) < (t.slips : Int) + ((t.may : Int) + ((t.sure : Int) + 0)))) = _
    congr 1
    apply decide_eq_decide.mpr
    unfold begunT
    omega
theorem ok_unm {f : Addr} {fd : FuncData} (F : Fun K "unmarked" "Sheet.unmarked" sUnm f fd) (Tc : TC K C) : FnOk P w K mg base CX0 1 f fd ["self", "wanting"] (spUnm C) := by
  refine F.ok scUnm (fun vs H Q E h => ?_) (fun cdv A outer s H vs Q E hr h => ?_)
  · obtain ⟨x, p, d, t, ws, rfl, _⟩ := h; rfl
  · refine ⟨_, pss_one (ps_ret (pe_lc (own := [("cell", 2)]) (g := gName 2) (tt := tTest (tDNotIn (tVar 2) (tFld K (tVar 0) "marks"))) (te := tVar 2) rfl scUnm.nd (pi_list (pv 1)) (blkOk_by (N := nUnm) (sc := defScope sUnm) (by decide +kernel))
      (fun _ _ _ _ _ => pg_name (i := 2) scUnm.nd rfl (Or.inl rfl)) (fun _ _ _ _ _ => pts_one (pt_cmp (pc_dnotin (hu_of hr) (pv 2) (pe_fld (pv 0) rfl)))) (fun _ _ _ _ _ => pv 2))), ?_⟩
    obtain ⟨x, p, d, t, ws, rfl, O, hp, hz, k⟩ := h
    have key := el_lcL (K := K) (te := tVar 2) (t := tTest (tDNotIn (tVar 2) (tFld K (tVar 0) "marks"))) (tl := tVar 1) (σ := [some (.ref x), some (.ref p), none]) (H := H) (a := p) (xs := vL ws) (j := 2) (vs := [2]) (fun i => (fun c => !hasM t c) (ws.getD i 0)) (fun i => vN (ws.getD i 0)) (ev_var rfl) (sq_of hp) (by rw [vL_len]; omega) (fun _ => rfl)
      (fun i y H2 e2 hi => ?_) (fun i y H2 e2 hi _ => ?_)
    · rw [vL_len, given_filter ws (fun c => !hasM t c) vN 0] at key
      exact s_retL key fun q H1 hq e1 h1 => k q H1 hq e1 h1
    · obtain ⟨n, hn, rfl⟩ := vL_get_some hi
      rw [getD_of hn]
      exact et_test (ev_dni (ev_var rfl) (ev_marks Tc (O.mono e2) (ev_var rfl)) (.inl (e2 _ _ O.ma)))
    · obtain ⟨n, hn, rfl⟩ := vL_get_some hi
      rw [getD_of hn]
      exact ev_var rfl
theorem ev_toldN {σ : L2.St} {H : Hp} {x : Addr} {d : TA'} {t : T} {ta tb : TE} {i n : Nat} (Tc : TC K C) (O : OwnT C H x d t) (h : Ev ta σ H (.ref x)) (hi : Ev tb σ H (vN i)) (hn : [t.slips, t.may, t.sure][i]? = some n) : Ev (tOp (rIxL K) (tFld K ta "told") tb) σ H (vN n) :=
  ev_op (ev_toldT Tc O h) hi (rv_ixL (sq_of O.ta) (atI_nat (j := i) (by rw [vL_get, hn]; rfl)))
theorem ok_kinds {f : Addr} {fd : FuncData} (F : Fun K "kinds" "Sheet.kinds" sKinds f fd) (Tc : TC K C) (c0 : KInt mg "CANT_BE" 0) (c1 : KInt mg "MAY_BE" 1) (c2 : KInt mg "SURE" 2) : FnOk P w K mg base CX0 1 f fd ["self"] (spKinds C) := by
  refine F.ok scKinds (fun vs H Q E h => ?_) (fun cdv A outer s H vs Q E hr h => ?_)
  · obtain ⟨x, d, t, rfl, _⟩ := h; rfl
  · obtain ⟨t0, c0⟩ := c0
    obtain ⟨t1, c1⟩ := c1
    obtain ⟨t2, c2⟩ := c2
    refine ⟨_, pss_one (ps_ret (pe_lst (pa_cons (pe_ix ix_list (pe_fld (pv 0) rfl) (pe_glob (v := .int 2) rfl c2 ⟨_, rfl⟩) (fun _ _ => rfl)) (pa_cons (pe_ix ix_list (pe_fld (pv 0) rfl) (pe_glob (v := .int 1) rfl c1 ⟨_, rfl⟩) (fun _ _ => rfl)) (pa_cons (pe_ix ix_list (pe_fld (pv 0) rfl) (pe_glob (v := .int 0) rfl c0 ⟨_, rfl⟩) (fun _ _ => rfl)) pa_nil))))), ?_⟩
    obtain ⟨x, d, t, rfl, O, k⟩ := h
    exact s_retL (el_lst (ea_cons (ev_toldN (i := 2) Tc O (ev_var rfl) ev_c rfl) (ea_cons (ev_toldN (i := 1) Tc O (ev_var rfl) ev_c rfl) (ea_cons (ev_toldN (i := 0) Tc O (ev_var rfl) ev_c rfl) ea_nil))) (by show 3 ≤ 100000; decide)) fun p H1 hp e1 h1 => k p H1 hp e1 h1
theorem ok_pts {f : Addr} {fd : FuncData} (F : Fun K "points" "Sheet.points" sPts f fd) (Tc : TC K C) (c0 : KInt mg "CANT_BE" 0) (c1 : KInt mg "MAY_BE" 1) (c2 : KInt mg "SURE" 2) (g2 : KInt mg "SURE_GAINS" 2) (g1 : KInt mg "MAY_BE_GAINS" 1) (g3 : KInt mg "CANT_BE_LOSES" 3) : FnOk P w K mg base CX0 1 f fd ["self"] (spPts C) := by
  refine F.ok scPts (fun vs H Q E h => ?_) (fun cdv A outer s H vs Q E hr h => ?_)
  · obtain ⟨x, d, t, rfl, _⟩ := h; rfl
  · obtain ⟨t0, c0⟩ := c0
    obtain ⟨t1, c1⟩ := c1
    obtain ⟨t2, c2⟩ := c2
    obtain ⟨u1, g1⟩ := g1
    obtain ⟨u2, g2⟩ := g2
    obtain ⟨u3, g3⟩ := g3
    refine ⟨_, pss_cons (ps_set (i := 1) scPts.nd rfl (Or.inl rfl) (pe_op op_add (pe_op op_mul (pe_glob (v := .int 2) rfl g2 ⟨_, rfl⟩) (pe_ix ix_list (pe_fld (pv 0) rfl) (pe_glob (v := .int 2) rfl c2 ⟨_, rfl⟩) (fun _ _ => rfl)))
        (pe_op op_mul (pe_glob (v := .int 1) rfl g1 ⟨_, rfl⟩) (pe_ix ix_list (pe_fld (pv 0) rfl) (pe_glob (v := .int 1) rfl c1 ⟨_, rfl⟩) (fun _ _ => rfl)))))
      (pss_one (ps_ret (pe_op op_sub (pv 1) (pe_op op_mul (pe_glob (v := .int 3) rfl g3 ⟨_, rfl⟩) (pe_ix ix_list (pe_fld (pv 0) rfl) (pe_glob (v := .int 0) rfl c0 ⟨_, rfl⟩) (fun _ _ => rfl)))))), ?_⟩
    obtain ⟨x, d, t, rfl, O, k⟩ := h
    refine q_asg (ev_op (ev_op ev_c (ev_toldN (i := 2) Tc O (ev_var rfl) ev_c rfl) (rv_I (.inl (by constructor <;> decide)))) (ev_op ev_c (ev_toldN (i := 1) Tc O (ev_var rfl) ev_c rfl) (rv_I (.inl (by constructor <;> decide)))) rv_I0) fun H1 e1 => ?_
    refine s_ret (ev_is (ev_op (ev_var rfl) (ev_op ev_c (ev_toldN (i := 0) Tc (O.mono e1) (ev_var rfl) ev_c rfl) (rv_I (.inl (by constructor <;> decide)))) rv_I0) ?_) fun H2 e2 => k H2 (e1.trans e2)
    show V.int (2 * (t.sure : Int) + 1 * (t.may : Int) - 3 * (t.slips : Int)) = V.int (((2 * t.sure + t.may : Nat) : Int) - 3 * (t.slips : Int))
    congr 2
    omega
theorem rub_own {H : Hp} {x : Addr} {d : TA'} {t : T} (O : OwnT C H x d t) (c : Nat) : OwnT C (upd H d.ma (.dK (kvN (rubT t c).marks))) x d (rubT t c) := by
  have x_ma : x ≠ d.ma := ne_of O.ins O.ma (by intro z; cases z)
  have ta_ma : d.ta ≠ d.ma := ne_of O.ta O.ma (by intro z; cases z)
  refine ⟨by rw [upd_ne x_ma]; exact O.ins, upd_same, by rw [upd_ne ta_ma]; exact O.ta, ?_, Nat.le_trans (List.length_filter_le _ _) O.few⟩
  exact List.Pairwise.sublist (List.filter_sublist.map _) O.nd
theorem ok_rub {f : Addr} {fd : FuncData} (F : Fun K "rub" "Sheet.rub" sRub f fd) (Tc : TC K C) (gL : mg "len" = none) (c4 : KInt mg "NOT_AS_IT_IS" (-4)) : FnOk P w K mg base CX0 1 f fd ["self", "cell"] (spRub C) := by
  refine F.ok scRub (fun vs H Q E h => ?_) (fun cdv A outer s H vs Q E hr h => ?_)
  · obtain ⟨x, d, t, c, rfl, _⟩ := h; rfl
  · obtain ⟨t4, c4⟩ := c4
    refine ⟨_, pss_cons (ps_if (pt_cmp (pc_dnotin (hu_of hr) (pv 1) (pe_fld (pv 0) rfl))) (pss_one (ps_ret (pe_lst (pa_cons (pe_glob (v := .int (-4)) rfl c4 ⟨_, rfl⟩) pa_nil)))) pss_nil)
      (pss_cons (ps_expr (pe_dpop1 (pe_fld (pv 0) rfl) (pv 1) ⟨rfl, rfl, rfl, rfl⟩))
      (pss_one (ps_ret (pe_lst (pa_cons (pe_callB call_lenD (by rfl) gL PySem.boot_len (pa_cons (pe_fld (pv 0) rfl) pa_nil)) pa_nil))))), ?_⟩
    obtain ⟨x, d, t, c, rfl, O, k⟩ := h
    refine q_when (b := !hasM t c) (et_test (ev_dni (ev_var rfl) (ev_marks Tc O (ev_var rfl)) (.inl O.ma))) (fun hb H1 e1 => ?_) (fun hb H1 e1 => ?_)
    · have hb : ¬ hasM t c = true := by simpa using hb
      rw [rubA, if_neg hb] at k
      exact s_retL (el_lst (ea_cons ev_c ea_nil) (by show 1 ≤ 100000; decide)) fun q H2 _ e2 h2 => k H2 q (.of_ex (e1.trans e2)) (O.mono (e1.trans e2)) h2
    · have hb : hasM t c = true := by simpa using hb
      rw [rubA, if_pos hb] at k
      have O1 := O.mono e1
      have hs : (t.marks.lookup c).isSome = true := by rw [look_any]; exact hb
      refine q_popN (a := d.ma) (n := c) (ns := t.marks) O1.ma (ev_marks Tc O1 (ev_var rfl)) (ev_var rfl) hs fun H2 e2 => ?_
      have O2 := O1.mono e2
      have O3 := rub_own O2 c
      refine s_retL (xs := [.int ((rubT t c).marks.length : Nat)]) (el_lst (ea_cons (ev_lenD (ev_marks Tc O3 (ev_var rfl)) O3.ma) ea_nil) (by show 1 ≤ 100000; decide)) fun q H4 _ e4 h4 => ?_
      refine k H4 q (((Kept.of_ex (e1.trans e2)).set (a := d.ma) (by simp)).ex e4) (O3.mono e4) ?_
      rw [h4]
      rfl
end
end Rd
set_option linter.all false
set_option maxRecDepth 100000
set_option maxHeartbeats 2000000
namespace Rd
open PySem PySem.Spec PyProof.Rows L2 Evl
/-! ### a mark on a sheet -/
theorem q_augN {σ : L2.St} {H : Hp} {ta tb te : TE} {tz : TS} {D : Ends} {l : Addr} {xs : List V} {j : Nat} {a b : Int} (hl : H l = some (.lst xs)) (ha : Ev ta σ H (.ref l)) (hb : Ev tb σ H (.int (j : Int))) (hj : xs[j]? = some (.int a)) (he : Ev te σ H (.int b))
    (k : ∀ H1, Ex H H1 → tz D σ (upd H1 l (.lst (xs.set j (.int (a + b)))))) : tSeq (tAugS ta tb te rGetN (ipI fun i j => i + j) rSetL) tz D σ H := s_augN (D := { D with nx := tz D }) hl ha hb hj he k
theorem s_dputN {σ : L2.St} {H : Hp} {td ty tv : TE} {D : Ends} {a : Addr} {n v : Nat} {ns : List (Nat × Nat)} (ha : H a = some (.dK (kvN ns))) (hl : ns.length < 1000) (hv : Ev tv σ H (vN v)) (hd : Ev td σ H (.ref a)) (hy : Ev ty σ H (vN n))
    (k : ∀ H1, Ex H H1 → D.nx σ (upd H1 a (.dK (kvN (tellM ns n (some v)))))) : sDPut td ty tv D σ H := hv H (Ex.refl H) _ fun H1 e1 => hd H1 e1 _ fun H2 e2 => hy H2 (e1.trans e2) _ fun H3 e3 =>
  ⟨a, _, rfl, DPut.k (k := Sum.inl (n : Int)) (((e1.trans e2).trans e3) _ _ ha) (by rw [kvN_len]; exact small1000 (Nat.le_of_lt hl)), by
    rw [kvN_put]
    exact k H3 ((e1.trans e2).trans e3)⟩
theorem refs_ints {bs : List Addr} {a : Nat} {l : List Nat} (h : HO.lst (bs.map V.ref) = .lst (vL (a :: l))) : False := by
  have : bs.map V.ref = vL (a :: l) := by injection h
  cases bs with
  | nil => cases this
  | cons b bs => cases this
theorem tell_new {ns : List (Nat × Nat)} {c v : Nat} (h : (ns.any fun p => p.1 == c) = false) : tellM ns c (some v) = ns ++ [(c, v)] := by
  unfold tellM
  rw [h]
  rfl
theorem lls_dict {H : Hp} {as : List Addr} {xss : List (List Nat)} {m : Addr} {kvs : List (L2.Key × V)} (h : LLs H as xss) (hm : H m = some (.dK kvs)) : m ∉ as := fun z => by
  obtain ⟨i, hi, e⟩ := List.getElem_of_mem z
  obtain ⟨q, _, r⟩ := Paired.get h (show as[i]? = some m by rw [List.getElem?_eq_getElem hi, e])
  rw [hm] at r; cases r
def bumpT (t : T) (kd : Nat) : T := if kd = 0 then { t with slips := t.slips + 1 } else if kd = 2 then { t with sure := t.sure + 1 } else { t with may := t.may + 1 }
theorem bumpT_same (t : T) (kd : Nat) : (bumpT t kd).who = t.who ∧ (bumpT t kd).which = t.which ∧ (bumpT t kd).marks = t.marks := by
  unfold bumpT
  split
  · exact ⟨rfl, rfl, rfl⟩
  · split <;> exact ⟨rfl, rfl, rfl⟩
theorem bump_at (t : T) {kd : Nat} (h : kd ≤ 2) : ∃ a : Nat, (vL [t.slips, t.may, t.sure])[kd]? = some (.int (a : Int)) ∧ (vL [t.slips, t.may, t.sure]).set kd (.int ((a : Int) + 1)) = vL [(bumpT t kd).slips, (bumpT t kd).may, (bumpT t kd).sure] := by
  have : kd = 0 ∨ kd = 1 ∨ kd = 2 := by omega
  rcases this with rfl | rfl | rfl
  · exact ⟨t.slips, rfl, rfl⟩
  · exact ⟨t.may, rfl, rfl⟩
  · exact ⟨t.sure, rfl, rfl⟩
def putM (t : T) (kd c v : Nat) : T := if kd = 0 then bumpT t kd else { bumpT t kd with marks := t.marks ++ [(c, v)] }
theorem markM_put (ws : List (List Nat)) (t : T) (c v : Nat) : markM ws t c v = (putM t (Sy86.kind (leftM ws t.marks) c v) c v, [((Sy86.kind (leftM ws t.marks) c v : Nat) : Int), 1, (((leftM ws (putM t (Sy86.kind (leftM ws t.marks) c v) c v).marks).length : Nat) : Int)]) := by
  rw [markM_kind]
  generalize Sy86.kind (leftM ws t.marks) c v = kd
  unfold putM bumpT
  by_cases h0 : kd = 0
  · rw [if_pos h0, if_pos h0, if_pos h0]
    simp only [h0, if_true]
  · by_cases h2 : kd = 2
    · subst h2; rfl
    · rw [if_neg h0, if_neg h2, if_neg h0, if_neg h0, if_neg h0, if_neg h2]
def markA (ws : List (List Nat)) (t : T) (c v : Nat) : T × List Int := if hasM t c = true then (t, [-4]) else markM ws t c v
theorem own_bump {C : Addr} {H : Hp} {x : Addr} {d : TA'} {t : T} (O : OwnT C H x d t) (kd : Nat) : OwnT C (upd H d.ta (.lst (vL [(bumpT t kd).slips, (bumpT t kd).may, (bumpT t kd).sure]))) x d (bumpT t kd) := by
  have x_ta : x ≠ d.ta := ne_of O.ins O.ta (by intro z; cases z)
  have ma_ta : d.ma ≠ d.ta := ne_of O.ma O.ta (by intro z; cases z)
  obtain ⟨h1, h2, h3⟩ := bumpT_same t kd
  have hF : tF (bumpT t kd) d = tF t d := by unfold tF; rw [h1, h2]
  refine ⟨?_, ?_, upd_same, by rw [h3]; exact O.nd, by rw [h3]; exact O.few⟩
  · rw [upd_ne x_ta, hF]; exact O.ins
  · rw [upd_ne ma_ta, h3]; exact O.ma
theorem own_more {C : Addr} {H : Hp} {x : Addr} {d : TA'} {t : T} (O : OwnT C H x d t) {c v : Nat} (hn : hasM t c = false) (hl : t.marks.length ≤ 59) : OwnT C (upd H d.ma (.dK (kvN (t.marks ++ [(c, v)])))) x d { t with marks := t.marks ++ [(c, v)] } := by
  have x_ma : x ≠ d.ma := ne_of O.ins O.ma (by intro z; cases z)
  have ta_ma : d.ta ≠ d.ma := ne_of O.ta O.ma (by intro z; cases z)
  refine ⟨by rw [upd_ne x_ma]; exact O.ins, upd_same, by rw [upd_ne ta_ma]; exact O.ta, ?_, ?_⟩
  · show ((t.marks ++ [(c, v)]).map (·.1)).Nodup
    rw [List.map_append, List.nodup_append]
    refine ⟨O.nd, by simp, fun a1 h1 b1 h2 => ?_⟩
    simp at h2; subst h2
    intro z; subst z
    obtain ⟨q1, hq1, hq2⟩ := List.mem_map.mp h1
    unfold hasM at hn
    rw [List.any_eq_false] at hn
    exact hn q1 hq1 (by simpa using hq2)
  · show (t.marks ++ [(c, v)]).length ≤ 60
    rw [List.length_append]; simp; omega
abbrev sMarkS : Stmt := inClass cSheet 4
abbrev nMarkS : List Str := ["self", "ways", "cell", "sign", "kind"]
theorem scMarkS : FnScope nMarkS ["self", "ways", "cell", "sign"] (defScope sMarkS) := ⟨rfl, rfl, rfl, by decide +kernel, rfl, by decide +kernel, by decide +kernel⟩
def spMarkS (C : Addr) : Sp := fun vs H Q _ => ∃ (x p : Addr) (d : TA') (t : T) (as : List Addr) (xss : List (List Nat)) (c s : Nat), vs = [.ref x, .ref p, vN c, vN s] ∧ OwnT C H x d t ∧ H p = some (.lst (as.map V.ref)) ∧ LLs H as xss ∧ d.ta ∉ as ∧ xss.length ≤ 99999 ∧ t.marks.length ≤ 59 ∧
  ∀ (H' : Hp) (q : Addr), Kept H H' [d.ma, d.ta] → OwnT C H' x d (markA xss t c s).1 → H' q = some (.lst ((markA xss t c s).2.map V.int)) → Q (.ref q) H'
section
variable {P : Program} {w : World} {K : PySem.W.Frag} {mg : Str → Option Value} {base : Heap} {C : Addr}
theorem ep_left {H : Hp} {σ : L2.St} {x p : Addr} {d : TA'} {t : T} {as : List Addr} {xss : List (List Nat)} {ta tb : TE} {E : XK} (O : OwnT C H x d t) (hp : H p = some (.lst (as.map V.ref))) (hl : LLs H as xss) (hz : xss.length ≤ 99999) (h1 : Ev ta σ H (.ref x)) (h2 : Ev tb σ H (.ref p)) :
    EvP (tMeth C "left" (spLeft C) [] E ta (tCons tb tNil)) σ H (IsLL (leftM xss t.marks)) :=
  ep_meth (m := "left") (P := IsLL (leftM xss t.marks)) (vs := [.ref p]) h1 O.ins (tF_no t d (by decide +kernel)) (ea_cons h2 ea_nil) (fun H1 e Q q E => ⟨x, p, d, t, as, xss, rfl, O.mono e, e _ _ hp, hl.mono e, hz, q⟩)
/-- kind_of(a new list of lists, c, s) -/
theorem ev_kindP {H : Hp} {σ : L2.St} {xss : List (List Nat)} {c s : Nat} {ta tb tc : TE} {E : XK} (h : EvP ta σ H (IsLL xss)) (hz : xss.length ≤ 99999) (hb : Ev tb σ H (vN c)) (hc : Ev tc σ H (vN s)) : Ev (tCall spKind [] E (tCons ta (tCons tb (tCons tc tNil)))) σ H (vN (Sy86.kind xss c s)) := fun H1 e Q q =>
  h H1 e _ fun v H2 e2 ⟨p, as, ev, hp, hl⟩ => hb H2 (e.trans e2) _ fun H3 e3 => hc H3 ((e.trans e2).trans e3) _ fun H4 e4 => by
    subst ev
    exact ⟨p, as, c, s, xss, rfl, (e3.trans e4) _ _ hp, hl.mono (e3.trans e4), hz, fun H5 e5 => q H5 (((e2.trans e3).trans e4).trans e5)⟩
theorem ok_markS {f : Addr} {fd : FuncData} (F : Fun K "mark" "Sheet.mark" sMarkS f fd) (Tc : TC K C) (gL : mg "len" = none) (c0 : KInt mg "CANT_BE" 0) (c4 : KInt mg "NOT_AS_IT_IS" (-4)) (mL : Mt P w K mg base C 2 "left" ["self", "ways"] (spLeft C)) (gK : Gf P w K mg base 2 "kind_of" ["left", "cell", "sign"] spKind) :
    FnOk P w K mg base CX0 3 f fd ["self", "ways", "cell", "sign"] (spMarkS C) := by
  refine F.ok scMarkS (fun vs H Q E h => ?_) (fun cdv A outer s H vs Q E hr h => ?_)
  · obtain ⟨x, p, d, t, as, xss, c, s, rfl, _⟩ := h; rfl
  · obtain ⟨f1, fd1, M1, G1, B1⟩ := mL
    obtain ⟨f2, fd2, g2, k2, G2, B2⟩ := gK
    obtain ⟨t0, c0⟩ := c0
    obtain ⟨t4, c4⟩ := c4
    refine ⟨_, pss_cons (ps_if (pt_cmp (pc_din (hu_of hr) (pv 2) (pe_fld (pv 0) rfl))) (pss_one (ps_ret (pe_lst (pa_cons (pe_glob (v := .int (-4)) rfl c4 ⟨_, rfl⟩) pa_nil)))) pss_nil)
      (pss_cons (ps_set (i := 4) scMarkS.nd rfl (Or.inl rfl) (pe_call G2 hr (by rfl) g2 k2 B2 .nil pass0 (pa_cons (pe_meth (pv 0) Tc.cl M1 G1 hr B1 .nil pass0 (pa_cons (pv 1) pa_nil)) (pa_cons (pv 2) (pa_cons (pv 3) pa_nil)))))
      (pss_cons (ps_augS (pe_fld (pv 0) rfl) (pv 4) pg_list pe_int ip_add set_list)
      (pss_cut (ps_if (pt_cmpR op_ne (pv 4) (pe_glob (v := .int 0) rfl c0 ⟨_, rfl⟩) (nomark _)) (pss_one (ps_dput (hu_of hr) (pe_fld (pv 0) rfl) (pv 2) (pv 3) rfl)) pss_nil)
      (pss_one (ps_ret (pe_lst (pa_cons (pv 4) (pa_cons pe_int (pa_cons (pe_callB call_len_seq (by rfl) gL PySem.boot_len (pa_cons (pe_meth (pv 0) Tc.cl M1 G1 hr B1 .nil pass0 (pa_cons (pv 1) pa_nil)) pa_nil)) pa_nil))))))))), ?_⟩
    obtain ⟨x, p, d, t, as, xss, c, s, rfl, O, hp, hl, hta, hz, hfew, k⟩ := h
    refine q_when (b := hasM t c) (et_test (ev_din (ev_var rfl) (ev_marks Tc O (ev_var rfl)) (.inl O.ma))) (fun hb H1 e1 => ?_) (fun hb H1 e1 => ?_)
    · rw [markA, if_pos hb] at k
      exact s_retL (el_lst (ea_cons ev_c ea_nil) (by show 1 ≤ 100000; decide)) fun q H2 _ e2 h2 => k H2 q (.of_ex (e1.trans e2)) (O.mono (e1.trans e2)) h2
    rw [markA, if_neg (by rw [hb]; decide), markM_put] at k
    have O1 := O.mono e1
    have hlen := leftM_len t.marks xss
    have hkd := kind_le (leftM xss t.marks) c s
    refine q_asg (v := vN (Sy86.kind (leftM xss t.marks) c s)) (ev_kindP (ep_left O1 (e1 _ _ hp) (hl.mono e1) hz (ev_var rfl) (ev_var rfl)) (by omega) (ev_var rfl) (ev_var rfl)) fun H2 e2 => ?_
    generalize Sy86.kind (leftM xss t.marks) c s = kd at k hkd
    have e12 := e1.trans e2
    have O2 := O.mono e12
    obtain ⟨a, ha, hset⟩ := bump_at t hkd
    refine q_augN (j := kd) (a := (a : Int)) (b := 1) O2.ta (ev_toldT Tc O2 (ev_var rfl)) (ev_var rfl) ha ev_c fun H3 e3 => ?_
    have e13 := e12.trans e3
    have O3 := O.mono e13
    rw [hset]
    have O4 := own_bump O3 kd
    have p_ta : p ≠ d.ta := fun z => by
      rw [z, O.ta] at hp
      exact refs_ints (Option.some.inj hp).symm
    have hp4 : upd H3 d.ta (.lst (vL [(bumpT t kd).slips, (bumpT t kd).may, (bumpT t kd).sure])) p = some (.lst (as.map V.ref)) := by rw [upd_ne p_ta]; exact e13 _ _ hp
    have hl4 := (hl.mono e13).upd (o := .lst (vL [(bumpT t kd).slips, (bumpT t kd).may, (bumpT t kd).sure])) hta
    have k4 : Kept H (upd H3 d.ta (.lst (vL [(bumpT t kd).slips, (bumpT t kd).may, (bumpT t kd).sure]))) [d.ma, d.ta] := (Kept.of_ex e13).set (by simp)
    revert O4 hp4 hl4 k4
    generalize upd H3 d.ta (.lst (vL [(bumpT t kd).slips, (bumpT t kd).may, (bumpT t kd).sure])) = H4
    intro O4 hp4 hl4 k4
    have hn1 : hasM (bumpT t kd) c = false := by unfold hasM; rw [(bumpT_same t kd).2.2]; exact hb
    refine q_cut (M := fun σ' H' => σ' = [some (.ref x), some (.ref p), some (vN c), some (vN s), some (vN kd)] ∧ Kept H H' [d.ma, d.ta] ∧ OwnT C H' x d (putM t kd c s) ∧ H' p = some (.lst (as.map V.ref)) ∧ LLs H' as xss) ?_ ?_
    · refine s_when (b := !(kd == 0)) (et_test (ev_is (ev_op (x := vN kd) (y := vN 0) (ev_var rfl) ev_c (rv_ne rfl)) (by rw [dec_int, beq_cast]))) (fun hk H5 e5 => ?_) (fun hk H5 e5 => ?_)
      · have hk : kd ≠ 0 := by simpa using hk
        have O5 := O4.mono e5
        refine s_dputN (a := d.ma) (n := c) (v := s) (ns := (bumpT t kd).marks) O5.ma (by rw [(bumpT_same t kd).2.2]; omega) (ev_var rfl) (ev_marks Tc O5 (ev_var rfl)) (ev_var rfl) fun H6 e6 => ?_
        rw [tell_new hn1]
        have O6 := own_more (v := s) (O5.mono e6) hn1 (by rw [(bumpT_same t kd).2.2]; exact hfew)
        have p_ma : p ≠ d.ma := ne_of hp4 O4.ma (by intro z; cases z)
        have e46 := e5.trans e6
        refine ⟨rfl, (k4.ex e46).set (by simp), ?_, by rw [upd_ne p_ma]; exact e46 _ _ hp4, (hl4.mono e46).upd (lls_dict hl4 O4.ma)⟩
        unfold putM
        rw [if_neg hk]
        rw [(bumpT_same t kd).2.2] at O6 ⊢
        exact O6
      · have hk : kd = 0 := by simpa using hk
        refine ⟨rfl, k4.ex e5, ?_, e5 _ _ hp4, hl4.mono e5⟩
        unfold putM
        rw [if_pos hk]
        exact O4.mono e5
    · rintro σ' H5 ⟨rfl, k5, O5, hp5, hl5⟩
      refine s_retL (el_lst (ea_cons (ev_var rfl) (ea_cons ev_c (ea_cons (ev_lenP (ep_left O5 hp5 hl5 hz (ev_var rfl) (ev_var rfl))) ea_nil))) (by show 3 ≤ 100000; decide)) fun q H6 hq e6 h6 => ?_
      exact k H6 q (k5.ex e6) (O5.mono e6) h6
end
end Rd
set_option linter.all false
set_option maxRecDepth 100000
set_option maxHeartbeats 2000000
namespace Rd
open PySem PySem.Spec PyProof.Rows L2 Evl
/-! ### what's sure next; done; shown -/
section
variable {σ : L2.St} {H : Hp} {K : PySem.W.Frag} {D : Ends} {tu tz : TS} {g : TG}
/-- over a new tuple -/
theorem s_forNU {xs : List V} {tl : TE} (h : EvU tl σ H xs) (Pv : Addr → Nat → L2.St → Hp → Prop) (h0 : ∀ p H1, H p = none → Ex H H1 → H1 p = some (.tup xs) → Pv p 0 σ H1) (hl : ∀ p i σ' H', i ≤ xs.length → Pv p i σ' H' → SqT K H' p xs)
    (hs : ∀ p i x σ' H', xs[i]? = some x → Pv p i σ' H' → g x σ' H' fun σ2 H2 => tu { D with nx := Pv p (i + 1), ct := Pv p (i + 1), bk := D.nx } σ2 H2) (hd : ∀ p σ' H', Pv p xs.length σ' H' → D.nx σ' H') : tFor (iTup K tl) g tu D σ H :=
  h H (Ex.refl H) _ fun p H1 hp e h1 => ⟨p, rfl, ⟨xs, st_of h1⟩, for_tup (Pv p) (h0 p H1 hp e h1) (hl p) (hs p) (hd p)⟩
theorem et_truthP {xss : List (List Nat)} {ta : TE} (h : EvP ta σ H (IsLL xss)) : EvT (fun σ H Q => ta σ H fun x H' => ∃ k, TruV K x H' k ∧ Q k H') σ H (!xss.isEmpty) := fun H1 e Q q =>
  h H1 e _ fun v H2 e2 ⟨p, as, ev, hp, hl⟩ => by
    subst ev
    refine ⟨_, .inl ⟨as.map V.ref, sq_of hp, rfl⟩, ?_⟩
    have : (!(as.map V.ref).isEmpty) = !xss.isEmpty := by
      have := Paired.length hl
      cases as with
      | nil => cases xss with
        | nil => rfl
        | cons _ _ => cases this
      | cons _ _ => cases xss with
        | nil => cases this
        | cons _ _ => rfl
    rw [this]
    exact q H2 e2
end
abbrev sNext : Stmt := inClass cSheet 6
abbrev nNext : List Str := ["self", "ways", "wanting", "unmarked", "left", "cell", "sign"]
theorem scNext : FnScope nNext ["self", "ways", "wanting"] (defScope sNext) := ⟨rfl, rfl, rfl, by decide +kernel, rfl, by decide +kernel, by decide +kernel⟩
def spWW (C : Addr) (ans : List (List Nat) → List Nat → T → List Int) : Sp := fun vs H Q _ => ∃ (x p q : Addr) (d : TA') (t : T) (as : List Addr) (xss : List (List Nat)) (ws : List Nat), vs = [.ref x, .ref p, .ref q] ∧ OwnT C H x d t ∧ H p = some (.lst (as.map V.ref)) ∧ LLs H as xss ∧ xss.length ≤ 99999 ∧ H q = some (.lst (vL ws)) ∧ ws.length ≤ 25 ∧
  RetL ((ans xss ws t).map V.int) H Q
abbrev sDone : Stmt := inClass cSheet 7
theorem scDone : FnScope ["self", "ways", "wanting"] ["self", "ways", "wanting"] (defScope sDone) := ⟨rfl, rfl, rfl, by decide +kernel, rfl, by decide +kernel, by decide +kernel⟩
abbrev sShown : Stmt := inClass cSheet 8
abbrev nShown : List Str := ["self", "marks", "cell", "kinds"]
theorem scShown : FnScope nShown ["self"] (defScope sShown) := ⟨rfl, rfl, rfl, by decide +kernel, rfl, by decide +kernel, by decide +kernel⟩
def spShown (C : Addr) : Sp := fun vs H Q _ => ∃ (x : Addr) (d : TA') (t : T), vs = [.ref x] ∧ OwnT C H x d t ∧ RetL ((shownA t).map V.int) H Q
theorem findS_none {α β : Type} {f : α → Option β} : ∀ {l : List α} {i : Nat} {a : α}, l[i]? = some a → (l.take i).findSome? f = none → f a = none → (l.take (i + 1)).findSome? f = none := fun {l i a} h h1 h2 => by
  rw [take_more h, List.findSome?_append, h1]
  simp [h2]
theorem findS_some {α β : Type} {f : α → Option β} {l : List α} {i : Nat} {a : α} {b : β} (h : l[i]? = some a) (h1 : (l.take i).findSome? f = none) (h2 : f a = some b) : l.findSome? f = some b := by
  obtain ⟨hi, e⟩ := List.getElem?_eq_some_iff.mp h
  conv => lhs; rw [← List.take_append_drop i l]
  rw [List.findSome?_append, h1, List.drop_eq_getElem_cons hi, e, List.findSome?_cons, h2]
  rfl
section
variable {P : Program} {w : World} {K : PySem.W.Frag} {mg : Str → Option Value} {base : Heap} {C : Addr}
theorem el_unm {H : Hp} {σ : L2.St} {x q : Addr} {d : TA'} {t : T} {ws : List Nat} {ta tb : TE} {E : XK} (O : OwnT C H x d t) (hq : H q = some (.lst (vL ws))) (hz : ws.length ≤ 25) (h1 : Ev ta σ H (.ref x)) (h2 : Ev tb σ H (.ref q)) :
    EvL (tMeth C "unmarked" (spUnm C) [] E ta (tCons tb tNil)) σ H (vL (unmM ws t)) :=
  el_meth (m := "unmarked") (vs := [.ref q]) h1 O.ins (tF_no t d (by decide +kernel)) (ea_cons h2 ea_nil) (fun H1 e Q k E => ⟨x, q, d, t, ws, rfl, O.mono e, e _ _ hq, hz, fun p H2 hp e2 h2 => k p H2 hp e2 h2⟩)
theorem ok_next {f : Addr} {fd : FuncData} (F : Fun K "next_sure" "Sheet.next_sure" sNext f fd) (Tc : TC K C) (c4 : KInt mg "NOT_AS_IT_IS" (-4)) (c6 : KInt mg "NOT_ENOUGH" (-6)) (c2 : KInt mg "SURE" 2) (s1 : KInt mg "THERE_IS" 1) (s2 : KInt mg "THERE_IS_NONE" 2)
    (mU : Mt P w K mg base C 1 "unmarked" ["self", "wanting"] (spUnm C)) (mL : Mt P w K mg base C 2 "left" ["self", "ways"] (spLeft C)) (gK : Gf P w K mg base 2 "kind_of" ["left", "cell", "sign"] spKind) :
    FnOk P w K mg base CX0 3 f fd ["self", "ways", "wanting"] (spWW C nextA) := by
  refine F.ok scNext (fun vs H Q E h => ?_) (fun cdv A outer s H vs Q E hr h => ?_)
  · obtain ⟨x, p, q, d, t, as, xss, ws, rfl, _⟩ := h; rfl
  · obtain ⟨f1, fd1, M1, G1, B1⟩ := mU
    obtain ⟨f2, fd2, M2, G2, B2⟩ := mL
    obtain ⟨f3, fd3, g3, k3, G3, B3⟩ := gK
    obtain ⟨t4, c4⟩ := c4
    obtain ⟨t6, c6⟩ := c6
    obtain ⟨t2, c2⟩ := c2
    obtain ⟨u1, s1⟩ := s1
    obtain ⟨u2, s2⟩ := s2
    refine ⟨_, pss_cons (ps_set (i := 3) scNext.nd rfl (Or.inl rfl) (pe_meth (pv 0) Tc.cl M1 G1 (hr.mono (by decide)) B1 .nil pass0 (pa_cons (pv 2) pa_nil)))
      (pss_cons (ps_if (pt_not (pt_truth (pv 3) (by intro _; rfl))) (pss_one (ps_ret (pe_lst (pa_cons (pe_glob (v := .int (-4)) rfl c4 ⟨_, rfl⟩) pa_nil)))) pss_nil)
      (pss_cons (ps_set (i := 4) scNext.nd rfl (Or.inl rfl) (pe_meth (pv 0) Tc.cl M2 G2 hr B2 .nil pass0 (pa_cons (pv 1) pa_nil)))
      (pss_cons (ps_for PassesOwn.never rfl (pi_list (pv 3)) (pg_name (i := 5) scNext.nd rfl (Or.inl rfl))
        (pss_one (ps_for PassesOwn.never rfl (pi_tup (pe_tup (pa_cons (pe_glob (v := .int 1) rfl s1 ⟨_, rfl⟩) (pa_cons (pe_glob (v := .int 2) rfl s2 ⟨_, rfl⟩) pa_nil)))) (pg_name (i := 6) scNext.nd rfl (Or.inl rfl))
          (pss_one (ps_if (pt_cmpR op_eq (pe_call G3 hr (by rfl) g3 k3 B3 .nil pass0 (pa_cons (pv 4) (pa_cons (pv 5) (pa_cons (pv 6) pa_nil)))) (pe_glob (v := .int 2) rfl c2 ⟨_, rfl⟩) (nomark _))
            (pss_one (ps_ret (pe_lst (pa_cons (pv 5) (pa_cons pe_int (pa_cons (pv 6) pa_nil)))))) pss_nil)))))
      (pss_one (ps_ret (pe_lst (pa_cons (pe_glob (v := .int (-6)) rfl c6 ⟨_, rfl⟩) pa_nil))))))), ?_⟩
    obtain ⟨x, p, q, d, t, as, xss, ws, rfl, O, hp, hl, hz, hq, hw, k⟩ := h
    unfold nextA at k
    refine q_asgL (el_unm O hq hw (ev_var rfl) (ev_var rfl)) fun U H1 hU e1 h1 => ?_
    have hlen := leftM_len t.marks xss
    generalize unmM ws t = us at *
    refine q_when (b := us.isEmpty) (et_is (et_not (et_truth_l (k := true) (xs := vL us) (ev_var rfl) (sq_of h1))) (by cases us <;> rfl)) (fun hb H2 e2 => ?_) (fun hb H2 e2 => ?_)
    · rw [if_pos hb] at k
      exact s_retL (el_lst (ea_cons ev_c ea_nil) (by show 1 ≤ 100000; decide)) fun z H3 hz e3 h3 => k.go (e1.trans e2) hz e3 h3
    rw [if_neg (by rw [hb]; decide)] at k
    have e12 := e1.trans e2
    refine q_asgP (ep_left (O.mono e12) (e12 _ _ hp) (hl.mono e12) hz (ev_var rfl) (ev_var rfl)) fun v H3 e3 ⟨lp, las, ev, hlp, hll⟩ => ?_
    subst ev
    generalize leftM xss t.marks = L at *
    have e13 := e12.trans e3
    have hU3 : H3 U = some (.lst (vL us)) := (e2.trans e3) _ _ h1
    refine q_forLn (a := U) (xs := vL us) (ev_var rfl) (sq_of hU3) (fun i σ' H' => ∃ v5 v6 : Option V, σ' = [some (.ref x), some (.ref p), some (.ref q), some (.ref U), some (.ref lp), v5, v6] ∧ Ex H3 H' ∧ (us.take i).findSome? (sureM L) = none)
      (fun H4 e4 => ⟨none, none, rfl, e4, rfl⟩) (fun i σ' H' _ ⟨_, _, _, e4, _⟩ => sq_of (e4 _ _ hU3)) ?_ ?_
    · rintro i y σ' H4 hi ⟨v5, v6, rfl, e4, hnone⟩
      obtain ⟨c, hc, rfl⟩ := vL_get_some hi
      refine s_forNU (xs := vL [1, 2]) (eu_tup (ea_cons ev_c (ea_cons ev_c ea_nil)) (by show 2 ≤ 100000; decide)) (fun tp j σ' H' => ∃ v6 : Option V, σ' = [some (.ref x), some (.ref p), some (.ref q), some (.ref U), some (.ref lp), some (vN c), v6] ∧ Ex H4 H' ∧ H' tp = some (.tup (vL [1, 2])) ∧ (1 ≤ j → Sy86.kind L c 1 ≠ 2) ∧ (2 ≤ j → Sy86.kind L c 2 ≠ 2))
        (fun tp H5 htp e5 h5 => ⟨v6, rfl, e5, h5, fun z => by omega, fun z => by omega⟩) (fun tp j σ' H' _ ⟨_, _, _, h, _⟩ => st_of h) ?_ ?_
      · rintro tp j y σ' H5 hj ⟨v6, rfl, e5, h5, n1, n2⟩
        obtain ⟨s, hs, rfl⟩ := vL_get_some hj
        have e35 := e4.trans e5
        refine s_when (b := Sy86.kind L c s == 2) (et_test (ev_op (ev_call (vs := [.ref lp, vN c, vN s]) (ea_cons (ev_var rfl) (ea_cons (ev_var rfl) (ea_cons (ev_var rfl) ea_nil))) (spv_kind (e35 _ _ hlp) (hll.mono e35) (by omega) c s)) ev_c (rv_eqN (b := 2)))) (fun hk H6 e6 => ?_) (fun hk H6 e6 => ?_)
        · have hk : Sy86.kind L c s = 2 := by simpa using hk
          have hf : sureM L c = some (c, s) := by
            unfold sureM
            match j, hs with
            | 0, hs => cases hs; rw [if_pos hk]
            | 1, hs => cases hs; rw [if_neg (n1 (by decide)), if_pos hk]
          rw [findS_some hc hnone hf] at k
          exact s_retL (el_lst (ea_cons (ev_var rfl) (ea_cons ev_c (ea_cons (ev_var rfl) ea_nil))) (by show 3 ≤ 100000; decide)) fun z H7 hz e7 h7 => k.go ((e13.trans e35).trans e6) hz e7 h7
        · have hk : Sy86.kind L c s ≠ 2 := by simpa using hk
          refine ⟨_, rfl, e5.trans e6, e6 _ _ h5, fun z => ?_, fun z => ?_⟩
          · match j, hs with
            | 0, hs => cases hs; exact hk
            | j + 1, _ => exact n1 (by omega)
          · match j, hs with
            | 0, _ => omega
            | 1, hs => cases hs; exact hk
            | j + 2, hs => simp at hs
      · rintro tp σ' H5 ⟨v6, rfl, e5, h5, n1, n2⟩
        refine ⟨_, _, rfl, e4.trans e5, findS_none hc hnone ?_⟩
        unfold sureM
        rw [if_neg (n1 (by decide)), if_neg (n2 (by decide))]
    · rintro σ' H4 ⟨v5, v6, rfl, e4, hnone⟩
      rw [vL_len, List.take_length] at hnone
      rw [hnone] at k
      exact s_retL (el_lst (ea_cons ev_c ea_nil) (by show 1 ≤ 100000; decide)) fun z H5 hz e5 h5 => k.go (e13.trans e4) hz e5 h5
theorem ok_done {f : Addr} {fd : FuncData} (F : Fun K "done" "Sheet.done" sDone f fd) (Tc : TC K C)
    (mU : Mt P w K mg base C 1 "unmarked" ["self", "wanting"] (spUnm C)) (mL : Mt P w K mg base C 2 "left" ["self", "ways"] (spLeft C)) :
    FnOk P w K mg base CX0 3 f fd ["self", "ways", "wanting"] (spWW C doneA) := by
  refine F.ok scDone (fun vs H Q E h => ?_) (fun cdv A outer s H vs Q E hr h => ?_)
  · obtain ⟨x, p, q, d, t, as, xss, ws, rfl, _⟩ := h; rfl
  · obtain ⟨f1, fd1, M1, G1, B1⟩ := mU
    obtain ⟨f2, fd2, M2, G2, B2⟩ := mL
    refine ⟨_, pss_one (ps_ret (pe_lst (pa_cons (pe_ifExp (PW.pt (pw_and (pt_truth (pe_meth (pv 0) Tc.cl M2 G2 hr B2 .nil pass0 (pa_cons (pv 1) pa_nil)) (by intro _; rfl)) (pw_and1 (pt_not (pt_truth (pe_meth (pv 0) Tc.cl M1 G1 (hr.mono (by decide)) B1 .nil pass0 (pa_cons (pv 2) pa_nil)) (by intro _; rfl)))))) pe_int pe_int) pa_nil))), ?_⟩
    obtain ⟨x, p, q, d, t, as, xss, ws, rfl, O, hp, hl, hz, hq, hw, k⟩ := h
    refine s_retL (el_lst (ea_cons (ev_if (v := .int (if (!(leftM xss t.marks).isEmpty && (unmM ws t).isEmpty) = true then 1 else 0)) (et_and (et_truthP (ep_left O hp hl hz (ev_var rfl) (ev_var rfl))) (fun _ => et_is (b := (unmM ws t).isEmpty) (et_not (et_truthL (el_unm O hq hw (ev_var rfl) (ev_var rfl)))) (by cases unmM ws t <;> rfl))) (fun hb => ?_) (fun hb => ?_)) ea_nil) (by show 1 ≤ 100000; decide)) fun z H5 hz e5 h5 => k z H5 hz e5 h5
    · rw [if_pos hb]; exact ev_c
    · rw [if_neg (by rw [hb]; decide)]; exact ev_c
end
end Rd
set_option linter.all false
set_option maxRecDepth 100000
set_option maxHeartbeats 2000000
namespace Rd
open PySem PySem.Spec PyProof.Rows L2 Evl
/-! ### a sheet as it is shown -/
theorem flatT_snoc (t : T) (cs : List Nat) (c : Nat) : flatT t (cs ++ [c]) = flatT t cs ++ [c, (t.marks.lookup c).getD 0] := by
  unfold flatT; rw [List.flatMap_append]; simp
theorem flatT_len (t : T) : ∀ cs : List Nat, (flatT t cs).length = 2 * cs.length
  | [] => rfl
  | c :: cs => by
    have ih := flatT_len t cs
    show (flatT t cs).length + 1 + 1 = _
    rw [ih, List.length_cons]; omega
theorem cellsT_rising (t : T) : Rising (cellsT t) := (foldl_insert _ [] .nil).1
theorem mem_cellsT (t : T) (n : Nat) : n ∈ cellsT t ↔ n ∈ t.marks.map (·.1) := by
  unfold cellsT; rw [(foldl_insert _ [] .nil).2]; simp
theorem cellsT_perm {t : T} (nd : (t.marks.map (·.1)).Nodup) : (cellsT t).Perm (t.marks.map (·.1)) :=
  (List.perm_ext_iff_of_nodup (rising_nodup (cellsT_rising t)) nd).mpr fun a => mem_cellsT t a
theorem cellsT_len {t : T} (nd : (t.marks.map (·.1)).Nodup) : (cellsT t).length = t.marks.length := by rw [(cellsT_perm nd).length_eq, List.length_map]
/-- sorted(d), new -/
theorem el_sortedK {σ : L2.St} {H : Hp} {td : TE} {a : Addr} {t : T} (h : Ev td σ H (.ref a)) (ha : Rd H a (.dK (kvN t.marks))) (nd : (t.marks.map (·.1)).Nodup) (hz : t.marks.length < 64) :
    EvL (tCB (fun xs H Q => ∃ (a : Addr) (kvs : List (L2.Key × V)) (ks : List Int), xs = [.ref a] ∧ Rd H a (.dK kvs) ∧ kvs.map (·.1) = ks.map Sum.inl ∧ ks.length < 64 ∧ ∀ (ys : List Int) (p : Addr), ys.Perm ks → ys.Pairwise (· ≤ ·) → H p = none → Q (.ref p) (upd H p (.lst (ys.map V.int)))) (tCons td tNil)) σ H (vL (cellsT t)) := fun H1 e Q q =>
  h H1 e _ fun H2 e2 => ⟨a, kvN t.marks, castL (t.marks.map (·.1)), rfl, ex_rd (e.trans e2) ha, by unfold kvN castL; rw [List.map_map, List.map_map, List.map_map]; rfl, by unfold castL; rw [List.length_map, List.length_map]; exact hz, fun ys p hperm hsort hp => by
    have hys : ys = castL (cellsT t) := sorted_ints (hperm.trans ((cellsT_perm nd).symm.map _)) hsort (cellsT_rising t)
    subst hys
    exact q p _ (fresh_back e2 hp) (e2.trans (Ex.new hp)) (by rw [upd_same, vL_cast])⟩
section
variable {P : Program} {w : World} {K : PySem.W.Frag} {mg : Str → Option Value} {base : Heap} {C : Addr}
theorem el_kinds {H : Hp} {σ : L2.St} {x : Addr} {d : TA'} {t : T} {ta : TE} {E : XK} (O : OwnT C H x d t) (h1 : Ev ta σ H (.ref x)) : EvL (tMeth C "kinds" (spKinds C) [] E ta tNil) σ H (vL [t.sure, t.may, t.slips]) :=
  el_meth (m := "kinds") (vs := []) h1 O.ins (tF_no t d (by decide +kernel)) ea_nil (fun H1 e Q k E => ⟨x, d, t, rfl, O.mono e, fun p H2 hp e2 h2 => k p H2 hp e2 h2⟩)
theorem ok_shown {f : Addr} {fd : FuncData} (F : Fun K "shown" "Sheet.shown" sShown f fd) (Tc : TC K C) (gL : mg "len" = none) (gS : mg "sorted" = none) (mK : Mt P w K mg base C 1 "kinds" ["self"] (spKinds C)) :
    FnOk P w K mg base CX0 2 f fd ["self"] (spShown C) := by
  refine F.ok scShown (fun vs H Q E h => ?_) (fun cdv A outer s H vs Q E hr h => ?_)
  · obtain ⟨x, d, t, rfl, _⟩ := h; rfl
  · obtain ⟨f1, fd1, M1, G1, B1⟩ := mK
    refine ⟨_, pss_cons (ps_set (i := 1) scShown.nd rfl (Or.inl rfl) (pe_lst pa_nil))
      (pss_cons (ps_for PassesOwn.never rfl (pi_list (pe_callB (call_sortedDI rfl) (by rfl) gS (by decide +kernel) (pa_cons (pe_fld (pv 0) rfl) pa_nil))) (pg_name (i := 2) scShown.nd rfl (Or.inl rfl))
        (pss_one (ps_set (i := 1) scShown.nd rfl (Or.inl rfl) (pe_op op_cat (pv 1) (pe_lst (pa_cons (pv 2) (pa_cons (pe_dget (hu_of hr) (pe_fld (pv 0) rfl) (pv 2) (by intro _ _; rfl)) pa_nil)))))))
      (pss_cons (ps_set (i := 3) scShown.nd rfl (Or.inl rfl) (pe_meth0 (pv 0) Tc.cl M1 G1 hr B1 .nil pass0))
      (pss_one (ps_ret (pe_op op_cat (pe_op op_cat (pe_op op_cat (pe_lst (pa_cons (pe_callB call_lenD (by rfl) gL PySem.boot_len (pa_cons (pe_fld (pv 0) rfl) pa_nil)) (pa_cons (pe_callB call_len_seq (by rfl) gL PySem.boot_len (pa_cons (pv 1) pa_nil)) pa_nil))) (pv 1)) (pe_lst (pa_cons (pe_callB call_len_seq (by rfl) gL PySem.boot_len (pa_cons (pv 3) pa_nil)) pa_nil))) (pv 3)))))), ?_⟩
    obtain ⟨x, d, t, rfl, O, k⟩ := h
    have few := O.few
    have cl := cellsT_len O.nd
    refine q_asgL (xs := vL (flatT t [])) (el_lst ea_nil (Nat.zero_le _)) fun p1 H1 hp1 e1 h1 => ?_
    have O1 := O.mono e1
    refine q_forNLn (xs := vL (cellsT t)) (el_sortedK (t := t) (ev_marks Tc O1 (ev_var rfl)) (.inl O1.ma) O.nd (by omega))
      (fun l i σ' H' => ∃ (q : Addr) (v2 : Option V), σ' = [some (.ref x), some (.ref q), v2, none] ∧ Ex H H' ∧ H' q = some (.lst (vL (flatT t ((cellsT t).take i)))) ∧ H' l = some (.lst (vL (cellsT t))))
      (fun l H2 hl e2 h2 => ⟨p1, none, rfl, e1.trans e2, e2 _ _ h1, h2⟩) (fun l i σ' H' _ ⟨_, _, _, _, _, h⟩ => sq_of h) ?_ ?_
    · rintro l i y σ' H' hi ⟨q, v2, rfl, e2, hq, hl⟩
      obtain ⟨n, hn, rfl⟩ := vL_get_some hi
      have O2 := O.mono e2
      have hlen : (flatT t ((cellsT t).take i)).length ≤ 120 := by
        rw [flatT_len]
        have := List.length_take_le' i (cellsT t)
        omega
      have hlook : t.marks.lookup n = some ((t.marks.lookup n).getD 0) := by
        have hm : n ∈ t.marks.map (·.1) := (mem_cellsT t n).mp (List.mem_of_getElem? hn)
        obtain ⟨p, hp, rfl⟩ := List.mem_map.mp hm
        rw [(look_mem O.nd p.1 p.2).mpr hp]
        rfl
      refine s_asgL (xs := vL (flatT t ((cellsT t).take (i + 1)))) (by
        rw [take_more hn, flatT_snoc, vL_append]
        exact el_cat (l := q) (xs := vL (flatT t ((cellsT t).take i))) (ev_var rfl) hq (el_lst (ea_cons (ev_var rfl) (ea_cons (ev_dget (nums := t.marks) (ev_marks Tc O2 (ev_var rfl)) (ev_var rfl) (.inl O2.ma) hlook) ea_nil)) (by show 2 ≤ 100000; decide)) (by rw [vL_len]; show _ + 2 ≤ 100000; omega)) fun q2 H3 hq2 e3 h3 => ?_
      exact ⟨q2, _, rfl, e2.trans e3, h3, e3 _ _ hl⟩
    · rintro l σ' H' ⟨q, v2, rfl, e2, hq, hl⟩
      rw [vL_len, List.take_length] at hq
      have O2 := O.mono e2
      have hlen : (flatT t (cellsT t)).length ≤ 120 := by rw [flatT_len]; omega
      refine q_asgL (el_kinds O2 (ev_var rfl)) fun kp H3 hkp e3 h3 => ?_
      have e23 := e2.trans e3
      have O3 := O.mono e23
      have hq3 := e3 _ _ hq
      have a0 : EvL (tLst (tCons (tCB (fun vs H Q => ∃ d kvs, vs = [.ref d] ∧ H d = some (.dK kvs) ∧ Q (.int (kvs.length : Int)) H) (tCons (tFld K (tVar 0) "marks") tNil)) (tCons (tCB (rLenS K) (tCons (tVar 1) tNil)) tNil))) [some (.ref x), some (.ref q), v2, some (.ref kp)] H3 (vL [t.marks.length, (flatT t (cellsT t)).length]) :=
        el_lst (ea_cons (ev_lenD (ev_marks Tc O3 (ev_var rfl)) O3.ma) (ea_cons (ev_is (ev_len (ev_var rfl) (sq_of hq3)) (by rw [vL_len])) ea_nil)) (by show 2 ≤ 100000; decide)
      have a1 := el_catR (l := q) (ys := vL (flatT t (cellsT t))) a0 (ev_var (i := 1) rfl) hq3 (by rw [vL_len, vL_len]; show 2 + _ ≤ 100000; omega)
      have a2 : EvL (tLst (tCons (tCB (rLenS K) (tCons (tVar 3) tNil)) tNil)) [some (.ref x), some (.ref q), v2, some (.ref kp)] H3 (vL [3]) := el_lst (ea_cons (ev_is (ev_len (ev_var rfl) (sq_of h3)) (by rw [vL_len]; rfl)) ea_nil) (by show 1 ≤ 100000; decide)
      have a3 := el_catL a1 a2 (by rw [List.length_append, vL_len, vL_len, vL_len]; show 2 + _ + 1 ≤ 100000; omega)
      have a4 := el_catR (l := kp) (ys := vL [t.sure, t.may, t.slips]) a3 (ev_var (i := 3) rfl) h3 (by rw [List.length_append, List.length_append, vL_len, vL_len, vL_len, vL_len]; show 2 + _ + 1 + 3 ≤ 100000; omega)
      refine s_retL a4 fun z H4 hz e4 h4 => k.go e23 hz e4 ?_
      rw [h4]
      unfold shownA
      rw [vL_cast, vL_append, vL_append, vL_append]
end
end Rd
set_option linter.all false
set_option maxRecDepth 100000
set_option maxHeartbeats 2000000
namespace Rd
open PySem PySem.Spec PyProof.Rows L2 Evl
/-! ### a sheet is made -/
abbrev sInitT : Stmt := inClass cSheet 0
theorem scInitT : FnScope ["self", "solver", "riddle"] ["self", "solver", "riddle"] (defScope sInitT) := ⟨rfl, rfl, rfl, by decide +kernel, rfl, by decide +kernel, by decide +kernel⟩
def spInitT (C : Addr) : Sp := fun vs H Q _ => ∃ (x dx : Addr) (p k : Nat), vs = [.ref x, vN p, vN k] ∧ H x = some (.ins C dx []) ∧
  ∀ (H' : Hp) (ma ta : Addr), Kept H H' [x] → OwnT C H' x ⟨dx, ma, ta⟩ (tNew p k) → H ma = none → H ta = none → Q .non H'
def gs1 (p : Nat) : List (Str × V) := [("solver", vN p)]
def gs2 (p k : Nat) : List (Str × V) := [("solver", vN p), ("riddle", vN k)]
def gs3 (p k : Nat) (ma : Addr) : List (Str × V) := [("solver", vN p), ("riddle", vN k), ("marks", .ref ma)]
section
variable {P : Program} {w : World} {K : PySem.W.Frag} {mg : Str → Option Value} {base : Heap} {C : Addr}
theorem ok_initT {f : Addr} {fd : FuncData} (F : Fun K "__init__" "Sheet.__init__" sInitT f fd) (Tc : TC K C) : FnOk P w K mg base CX0 1 f fd ["self", "solver", "riddle"] (spInitT C) := by
  refine F.ok scInitT (fun vs H Q E h => ?_) (fun cdv A outer s H vs Q E hr h => ?_)
  · obtain ⟨x, dx, p, k, rfl, _⟩ := h; rfl
  · refine ⟨_, pss_cons (ps_fld (pv 0) (pv 1) rfl) (pss_cons (ps_fld (pv 0) (pv 2) rfl) (pss_cons (ps_fld (pv 0) pe_dnewK rfl) (pss_cons (ps_fld (pv 0) (pe_lst (pa_cons pe_int (pa_cons pe_int (pa_cons pe_int pa_nil)))) rfl) pss_nil))), ?_⟩
    obtain ⟨x, dx, p, kk, rfl, hx, k⟩ := h
    refine q_fld (v := vN p) (ev_var rfl) (ev_var rfl) hx Tc.cl Tc.n1 (by show 0 < 1000; decide) fun H1 e1 => ?_
    rw [show putF "solver" (vN p) [] = gs1 p from rfl]
    refine q_fld (v := vN kk) (ev_var rfl) (ev_var rfl) upd_same Tc.cl Tc.n2 (by show 1 < 1000; decide) fun H2 e2 => ?_
    rw [show putF "riddle" (vN kk) (gs1 p) = gs2 p kk from put_past (by decide +kernel)]
    refine q_fldD (ev_var rfl) upd_same Tc.cl Tc.n3 (by show 2 < 1000; decide) fun ma H3 hma e3 h3 => ?_
    rw [show putF "marks" (.ref ma) (gs2 p kk) = gs3 p kk ma from (put_past (by decide +kernel)).trans (congrArg _ (put_past (by decide +kernel)))]
    refine q_fldL (el_lst (ea_cons ev_c (ea_cons ev_c (ea_cons ev_c ea_nil))) (by show 3 ≤ 100000; decide)) (ev_var rfl) upd_same Tc.cl Tc.n4 (by show 3 < 1000; decide) fun ta H4 hta e4 h4 => ?_
    rw [show putF "told" (.ref ta) (gs3 p kk ma) = tF (tNew p kk) ⟨dx, ma, ta⟩ from (put_past (by decide +kernel)).trans (congrArg _ ((put_past (by decide +kernel)).trans (congrArg _ (put_past (by decide +kernel)))))]
    have g1 := (Grows.of_ex e1).set (a := x) (o := .ins C dx (gs1 p))
    have g2 := (g1.ex e2).set (a := x) (o := .ins C dx (gs2 p kk))
    have g3 := (g2.ex e3).set (a := x) (o := .ins C dx (gs3 p kk ma))
    have fm : H ma = none := g2 ma hma
    have ft : H ta = none := g3 ta hta
    have mx : ma ≠ x := ne_fresh hma
    have tx : ta ≠ x := ne_fresh hta
    have k1 := (Kept.of_ex (xs := [x]) e1).set (a := x) (o := .ins C dx (gs1 p)) (by simp)
    have k2 := (k1.ex e2).set (a := x) (o := .ins C dx (gs2 p kk)) (by simp)
    have k3 := (k2.ex e3).set (a := x) (o := .ins C dx (gs3 p kk ma)) (by simp)
    have k4 := (k3.ex e4).set (a := x) (o := .ins C dx (tF (tNew p kk) ⟨dx, ma, ta⟩)) (by simp)
    refine k _ ma ta k4 ⟨upd_same, ?_, ?_, .nil, Nat.zero_le _⟩ fm ft
    · rw [upd_ne mx]
      exact e4 _ _ (by rw [upd_ne mx]; exact h3)
    · rw [upd_ne tx]
      exact h4
end
end Rd
set_option linter.all false
set_option maxRecDepth 100000
set_option maxHeartbeats 2000000
namespace Rd
open PySem PySem.Spec PyProof.Rows L2 Evl
/-! ### a riddle of the desk -/
structure OwnR (C : Addr) (kd : Kind) (ws : List (Nat × Nat)) (L : Nat) (H : Hp) (x : Addr) (d : Ad) (r : R) : Prop where
  own : Own C H x d r
  good : kd.good r
  L : d.L = (L : Int)
  wd : H d.wd = some (.dK (kvN ws))
  wn : d.wd ≠ d.na
def footR (x : Addr) (d : Ad) : List Addr := [x, d.ba, d.na, d.wd]
theorem OwnR.mono {C : Addr} {kd : Kind} {ws : List (Nat × Nat)} {L : Nat} {H H' : Hp} {x : Addr} {d : Ad} {r : R} (e : Ex H H') (O : OwnR C kd ws L H x d r) : OwnR C kd ws L H' x d r := ⟨O.own.mono e, O.good, O.L, e _ _ O.wd, O.wn⟩
theorem OwnR.kept {C : Addr} {kd : Kind} {ws : List (Nat × Nat)} {L : Nat} {H H' : Hp} {x : Addr} {d : Ad} {r : R} {xs : List Addr} (k : Kept H H' xs) (hx : ∀ z ∈ footR x d, z ∉ xs) (O : OwnR C kd ws L H x d r) : OwnR C kd ws L H' x d r := by
  have h1 := k _ _ O.own.seen.ins (hx _ (by simp [footR]))
  have h2 := k _ _ O.own.seen.bl (hx _ (by simp [footR]))
  have h3 := k _ _ O.own.nu (hx _ (by simp [footR]))
  have h4 := k _ _ O.wd (hx _ (by simp [footR]))
  exact ⟨⟨⟨O.own.seen.ok, h1, h2, .inl h3⟩, h3⟩, O.good, O.L, h4, O.wn⟩
theorem OwnR.there {C : Addr} {kd : Kind} {ws : List (Nat × Nat)} {L : Nat} {H : Hp} {x : Addr} {d : Ad} {r : R} (O : OwnR C kd ws L H x d r) : ∀ z ∈ footR x d, H z ≠ none := by
  intro z hz
  simp only [footR, List.mem_cons, List.not_mem_nil, or_false] at hz
  rcases hz with rfl | rfl | rfl | rfl
  · rw [O.own.seen.ins]; intro h; cases h
  · rw [O.own.seen.bl]; intro h; cases h
  · rw [O.own.nu]; intro h; cases h
  · rw [O.wd]; intro h; cases h
/-- behind a deed -/
theorem OwnR.aft {C : Addr} {kd : Kind} {ws : List (Nat × Nat)} {L : Nat} {H H' : Hp} {x : Addr} {d d' : Ad} {r r' : R} (O : OwnR C kd ws L H x d r) (k : Kept H H' [x, d.ba, d.na]) (o : Own C H' x d' r') (m : Moved H d d') (g : kd.good r') : OwnR C kd ws L H' x d' r' := by
  have w1 : d.wd ≠ x := ne_of O.wd O.own.seen.ins (by intro z; cases z)
  have w2 : d.wd ≠ d.ba := ne_of O.wd O.own.seen.bl (by intro z; cases z)
  refine ⟨o, g, by rw [m.L]; exact O.L, by rw [m.wd]; exact k _ _ O.wd (by simp; exact ⟨w1, w2, O.wn⟩), ?_⟩
  rw [m.wd]
  rcases m.na with h | h
  · rw [h]; exact O.wn
  · intro z; rw [← z, O.wd] at h; cases h
theorem Moved.foot {H : Hp} {x : Addr} {d d' : Ad} (m : Moved H d d') : ∀ z ∈ footR x d', z ∈ footR x d ∨ H z = none := by
  intro z hz
  simp only [footR, List.mem_cons, List.not_mem_nil, or_false] at hz ⊢
  rcases hz with rfl | rfl | rfl | rfl
  · exact .inl (.inl rfl)
  · rcases m.ba with h | h
    · exact .inl (.inr (.inl h))
    · exact .inr h
  · rcases m.na with h | h
    · exact .inl (.inr (.inr (.inl h)))
    · exact .inr h
  · exact .inl (.inr (.inr (.inr m.wd)))
theorem foot3 {x : Addr} {d : Ad} : ∀ z ∈ [x, d.ba, d.na], z ∈ footR x d := by
  intro z hz; simp only [footR, List.mem_cons, List.not_mem_nil, or_false] at hz ⊢
  rcases hz with h | h | h <;> simp [h]
/-! ### a sheet of the desk -/
def footT (p : Addr × TA') : List Addr := [p.1, p.2.ma, p.2.ta]
theorem OwnT.kept {C : Addr} {H H' : Hp} {p : Addr × TA'} {t : T} {xs : List Addr} (k : Kept H H' xs) (hx : ∀ z ∈ footT p, z ∉ xs) (O : OwnT C H p.1 p.2 t) : OwnT C H' p.1 p.2 t :=
  ⟨k _ _ O.ins (hx _ (by simp [footT])), k _ _ O.ma (hx _ (by simp [footT])), k _ _ O.ta (hx _ (by simp [footT])), O.nd, O.few⟩
theorem OwnT.there {C : Addr} {H : Hp} {p : Addr × TA'} {t : T} (O : OwnT C H p.1 p.2 t) : ∀ z ∈ footT p, H z ≠ none := by
  intro z hz
  simp only [footT, List.mem_cons, List.not_mem_nil, or_false] at hz
  rcases hz with rfl | rfl | rfl
  · rw [O.ins]; intro h; cases h
  · rw [O.ma]; intro h; cases h
  · rw [O.ta]; intro h; cases h
/-! ### the desk, told and in the heap -/
structure Dk where
  sol : Nat
  rf : R
  rh : R
  ts : List T
structure DA where
  dx : Addr
  ra : Addr
  sa : Addr
  fa : Addr
  ha : Addr
  df : Ad
  dh : Ad
  ps : List (Addr × TA')
/-- the classes -/
structure Cs where
  F : Addr
  H : Addr
  S : Addr
  D : Addr
structure Cs.Apart (c : Cs) : Prop where
  fh : c.F ≠ c.H
  fs : c.F ≠ c.S
  fd : c.F ≠ c.D
  hs : c.H ≠ c.S
  hd : c.H ≠ c.D
  sd : c.S ≠ c.D
def dF (n : Nat) (ra sa : Addr) : List (Str × V) := [("solvers", vN n), ("riddles", .ref ra), ("sheets", .ref sa)]
theorem dF_sol (n : Nat) (ra sa : Addr) : (dF n ra sa).lookup ("solvers" : Str) = some (vN n) := lk_here
theorem dF_rid (n : Nat) (ra sa : Addr) : (dF n ra sa).lookup ("riddles" : Str) = some (.ref ra) := (lk_past (by decide +kernel)).trans lk_here
theorem dF_she (n : Nat) (ra sa : Addr) : (dF n ra sa).lookup ("sheets" : Str) = some (.ref sa) := (lk_past (by decide +kernel)).trans ((lk_past (by decide +kernel)).trans lk_here)
theorem dF_no (n : Nat) (ra sa : Addr) {m : Str} (h : (["solvers", "riddles", "sheets"] : List Str).all (fun f => !(m == f)) = true) : (dF n ra sa).lookup m = none := by
  simp only [List.all_cons, List.all_nil, Bool.and_true, Bool.and_eq_true, Bool.not_eq_true'] at h
  obtain ⟨h1, h2, h3⟩ := h
  exact (lk_past h1).trans ((lk_past h2).trans ((lk_past h3).trans rfl))
theorem dF_put_sol (n m : Nat) (ra sa : Addr) : putF "solvers" (vN m) (dF n ra sa) = dF m ra sa := put_here
theorem dF_put_rid (n : Nat) (ra ra' sa : Addr) : putF "riddles" (.ref ra') (dF n ra sa) = dF n ra' sa := (put_past (by decide +kernel)).trans (congrArg _ put_here)
theorem dF_put_she (n : Nat) (ra sa sa' : Addr) : putF "sheets" (.ref sa') (dF n ra sa) = dF n ra sa' := (put_past (by decide +kernel)).trans (congrArg _ ((put_past (by decide +kernel)).trans (congrArg _ put_here)))
structure DC (K : PySem.W.Frag) (C : Addr) : Prop where
  cl : Cls K C
  n1 : NoAttr K C "solvers"
  n2 : NoAttr K C "riddles"
  n3 : NoAttr K C "sheets"
def footD (x : Addr) (A : DA) : List Addr := x :: A.ra :: A.sa :: (footR A.fa A.df ++ (footR A.ha A.dh ++ A.ps.flatMap footT))
/-- each place has one owner -/
structure Sep (x : Addr) (A : DA) : Prop where
  ow : ∃ ow : Addr → Addr, ow x = x ∧ ow A.ra = A.ra ∧ ow A.sa = A.sa ∧ (∀ z ∈ footR A.fa A.df, ow z = A.fa) ∧ (∀ z ∈ footR A.ha A.dh, ow z = A.ha) ∧ ∀ p ∈ A.ps, ∀ z ∈ footT p, ow z = p.1
  one : (A.ps.map (·.1)).Nodup
  rs : A.ra ≠ A.sa
structure OwnD (c : Cs) (H : Hp) (x : Addr) (A : DA) (D : Dk) : Prop where
  ins : H x = some (.ins c.D A.dx (dF D.sol A.ra A.sa))
  ra : H A.ra = some (.lst [.ref A.fa, .ref A.ha])
  sa : H A.sa = some (.lst (A.ps.map fun p => V.ref p.1))
  f : OwnR c.F kF wantsF 5 H A.fa A.df D.rf
  h : OwnR c.H kH wantsH 4 H A.ha A.dh D.rh
  s : Paired (fun (p : Addr × TA') (t : T) => OwnT c.S H p.1 p.2 t) A.ps D.ts
  sep : Sep x A
section
variable {c : Cs} {H H' : Hp} {x : Addr} {A : DA} {D : Dk}
theorem OwnD.mono (e : Ex H H') (O : OwnD c H x A D) : OwnD c H' x A D :=
  ⟨e _ _ O.ins, e _ _ O.ra, e _ _ O.sa, O.f.mono e, O.h.mono e, Paired.imp (fun _ _ o => o.mono e) O.s, O.sep⟩
theorem Paired.mem_left {α β : Type} {R : α → β → Prop} {l : List α} {m : List β} (h : Paired R l m) {a : α} (ha : a ∈ l) : ∃ b, b ∈ m ∧ R a b := by
  obtain ⟨i, hi, e⟩ := List.getElem_of_mem ha
  obtain ⟨b, hb, r⟩ := Paired.get h (show l[i]? = some a by rw [List.getElem?_eq_getElem hi, e])
  exact ⟨b, List.mem_of_getElem? hb, r⟩
theorem OwnD.sheet (O : OwnD c H x A D) {p : Addr × TA'} (hp : p ∈ A.ps) : ∃ t ∈ D.ts, OwnT c.S H p.1 p.2 t := by
  obtain ⟨t, ht, r⟩ := Paired.mem_left O.s hp
  exact ⟨t, ht, r⟩
theorem OwnD.there (O : OwnD c H x A D) : ∀ z ∈ footD x A, H z ≠ none := by
  intro z hz
  simp only [footD, List.mem_cons, List.mem_append, List.mem_flatMap] at hz
  rcases hz with rfl | rfl | rfl | hz | hz | ⟨p, hp, hz⟩
  · rw [O.ins]; intro h; cases h
  · rw [O.ra]; intro h; cases h
  · rw [O.sa]; intro h; cases h
  · exact O.f.there z hz
  · exact O.h.there z hz
  · obtain ⟨t, _, o⟩ := O.sheet hp
    exact o.there z hz
/-! the owners -/
theorem OwnD.x_f (ap : c.Apart) (O : OwnD c H x A D) : x ≠ A.fa := ne_of O.ins O.f.own.seen.ins (by intro z; injection z with z1; exact ap.fd z1.symm)
theorem OwnD.x_h (ap : c.Apart) (O : OwnD c H x A D) : x ≠ A.ha := ne_of O.ins O.h.own.seen.ins (by intro z; injection z with z1; exact ap.hd z1.symm)
theorem OwnD.f_h (ap : c.Apart) (O : OwnD c H x A D) : A.fa ≠ A.ha := ne_of O.f.own.seen.ins O.h.own.seen.ins (by intro z; injection z with z1; exact ap.fh z1)
theorem OwnD.x_p (ap : c.Apart) (O : OwnD c H x A D) {p : Addr × TA'} (hp : p ∈ A.ps) : x ≠ p.1 := by
  obtain ⟨t, _, o⟩ := O.sheet hp
  exact ne_of O.ins o.ins (by intro z; injection z with z1; exact ap.sd z1.symm)
theorem OwnD.f_p (ap : c.Apart) (O : OwnD c H x A D) {p : Addr × TA'} (hp : p ∈ A.ps) : A.fa ≠ p.1 := by
  obtain ⟨t, _, o⟩ := O.sheet hp
  exact ne_of O.f.own.seen.ins o.ins (by intro z; injection z with z1; exact ap.fs z1)
theorem OwnD.h_p (ap : c.Apart) (O : OwnD c H x A D) {p : Addr × TA'} (hp : p ∈ A.ps) : A.ha ≠ p.1 := by
  obtain ⟨t, _, o⟩ := O.sheet hp
  exact ne_of O.h.own.seen.ins o.ins (by intro z; injection z with z1; exact ap.hs z1)
theorem OwnD.l_ins {a b C dx : Addr} {xs : List V} {fs : List (Str × V)} (h1 : H a = some (.lst xs)) (h2 : H b = some (.ins C dx fs)) : a ≠ b := ne_of h1 h2 (by intro z; cases z)
/-- the field's places are none of the others' -/
theorem OwnD.off_f (ap : c.Apart) (O : OwnD c H x A D) : x ∉ footR A.fa A.df ∧ A.ra ∉ footR A.fa A.df ∧ A.sa ∉ footR A.fa A.df ∧ (∀ z ∈ footR A.ha A.dh, z ∉ footR A.fa A.df) ∧ ∀ p ∈ A.ps, ∀ z ∈ footT p, z ∉ footR A.fa A.df := by
  obtain ⟨ow, h1, h2, h3, h4, h5, h6⟩ := O.sep.ow
  refine ⟨fun z => O.x_f ap (h1.symm.trans (h4 _ z)), fun z => OwnD.l_ins O.ra O.f.own.seen.ins (h2.symm.trans (h4 _ z)), fun z => OwnD.l_ins O.sa O.f.own.seen.ins (h3.symm.trans (h4 _ z)), fun y hy z => O.f_h ap ((h4 _ z).symm.trans (h5 _ hy)), fun p hp y hy z => O.f_p ap hp ((h4 _ z).symm.trans (h6 p hp _ hy))⟩
theorem OwnD.off_h (ap : c.Apart) (O : OwnD c H x A D) : x ∉ footR A.ha A.dh ∧ A.ra ∉ footR A.ha A.dh ∧ A.sa ∉ footR A.ha A.dh ∧ (∀ z ∈ footR A.fa A.df, z ∉ footR A.ha A.dh) ∧ ∀ p ∈ A.ps, ∀ z ∈ footT p, z ∉ footR A.ha A.dh := by
  obtain ⟨ow, h1, h2, h3, h4, h5, h6⟩ := O.sep.ow
  refine ⟨fun z => O.x_h ap (h1.symm.trans (h5 _ z)), fun z => OwnD.l_ins O.ra O.h.own.seen.ins (h2.symm.trans (h5 _ z)), fun z => OwnD.l_ins O.sa O.h.own.seen.ins (h3.symm.trans (h5 _ z)), fun y hy z => O.f_h ap ((h4 _ hy).symm.trans (h5 _ z)), fun p hp y hy z => O.h_p ap hp ((h5 _ z).symm.trans (h6 p hp _ hy))⟩
/-- a sheet's places are none of the others' -/
theorem OwnD.off_p (ap : c.Apart) (O : OwnD c H x A D) {p : Addr × TA'} (hp : p ∈ A.ps) : x ∉ footT p ∧ A.ra ∉ footT p ∧ A.sa ∉ footT p ∧ (∀ z ∈ footR A.fa A.df, z ∉ footT p) ∧ (∀ z ∈ footR A.ha A.dh, z ∉ footT p) ∧ ∀ q ∈ A.ps, q.1 ≠ p.1 → ∀ z ∈ footT q, z ∉ footT p := by
  obtain ⟨ow, h1, h2, h3, h4, h5, h6⟩ := O.sep.ow
  obtain ⟨t, _, o⟩ := O.sheet hp
  refine ⟨fun z => O.x_p ap hp (h1.symm.trans (h6 p hp _ z)), fun z => OwnD.l_ins O.ra o.ins (h2.symm.trans (h6 p hp _ z)), fun z => OwnD.l_ins O.sa o.ins (h3.symm.trans (h6 p hp _ z)), fun y hy z => O.f_p ap hp ((h4 _ hy).symm.trans (h6 p hp _ z)), fun y hy z => O.h_p ap hp ((h5 _ hy).symm.trans (h6 p hp _ z)), fun q hq ne y hy z => ne ((h6 q hq _ hy).symm.trans (h6 p hp _ z))⟩
/-- the three places of the desk itself, and the others -/
theorem OwnD.off_x (ap : c.Apart) (O : OwnD c H x A D) : A.ra ≠ x ∧ A.sa ≠ x ∧ A.ra ≠ A.sa := ⟨OwnD.l_ins O.ra O.ins, OwnD.l_ins O.sa O.ins, O.sep.rs⟩
end
/-- what follows a call at the desk -/
def AftD (c : Cs) (H : Hp) (x : Addr) (A : DA) (D' : Dk) (ans : List Int) (Q : VK) : Prop :=
  ∀ (H' : Hp) (A' : DA) (q : Addr), Kept H H' (footD x A) → OwnD c H' x A' D' → (∀ z ∈ footD x A', z ∈ footD x A ∨ H z = none) → H' q = some (.lst (ans.map V.int)) → Q (.ref q) H'
theorem AftD.ex {c : Cs} {H H1 : Hp} {x : Addr} {A : DA} {D' : Dk} {ans : List Int} {Q : VK} (k : AftD c H x A D' ans Q) (e : Ex H H1) : AftD c H1 x A D' ans Q := fun H' A' q k1 o m h =>
  k H' A' q (fun b ob hb hn => k1 b ob (e b ob hb) hn) o (fun z hz => (m z hz).imp_right (fresh_back e)) h
theorem AftD.same {c : Cs} {H H' : Hp} {x : Addr} {A : DA} {D : Dk} {ans : List Int} {Q : VK} (k : AftD c H x A D ans Q) (O : OwnD c H x A D) (e : Ex H H') {q : Addr} (h : H' q = some (.lst (ans.map V.int))) : Q (.ref q) H' :=
  k H' A q (.of_ex e) (O.mono e) (fun z hz => .inl hz) h
/-- the field has changed -/
theorem AftD.field {c : Cs} (ap : c.Apart) {H : Hp} {x : Addr} {A : DA} {D : Dk} {r' : R} {ans : List Int} {Q : VK} (k : AftD c H x A { D with rf := r' } ans Q) (O : OwnD c H x A D) (g : kF.good r') : Aft c.F H A.fa A.df r' ans Q := fun H' d' q k1 o m h => by
  obtain ⟨a1, a2, a3, a4, a5⟩ := O.off_f ap
  have nf : ∀ {z}, z ∉ footR A.fa A.df → z ∉ [A.fa, A.df.ba, A.df.na] := fun h z => h (foot3 _ z)
  refine k H' { A with df := d' } q (k1.sub fun z hz => ?_) ⟨k1 _ _ O.ins (nf a1), k1 _ _ O.ra (nf a2), k1 _ _ O.sa (nf a3), O.f.aft k1 o m g, O.h.kept k1 fun z hz => nf (a4 z hz), ?_, ?_⟩ (fun z hz => ?_) h
  · simp only [footD, List.mem_cons, List.mem_append]; exact .inr (.inr (.inr (.inl (foot3 _ hz))))
  · have key : ∀ {ps : List (Addr × TA')} {ts : List T}, (∀ p ∈ ps, p ∈ A.ps) → Paired (fun (p : Addr × TA') (t : T) => OwnT c.S H p.1 p.2 t) ps ts → Paired (fun (p : Addr × TA') (t : T) => OwnT c.S H' p.1 p.2 t) ps ts := by
      intro ps ts hs hp
      induction hp with
      | nil => exact .nil
      | cons r _ ih => exact .cons (r.kept k1 fun z hz => nf (a5 _ (hs _ List.mem_cons_self) z hz)) (ih fun p hp => hs p (List.mem_cons_of_mem _ hp))
    exact key (fun _ h => h) O.s
  · obtain ⟨ow, h1, h2, h3, h4, h5, h6⟩ := O.sep.ow
    refine ⟨⟨fun z => if H z = none then A.fa else ow z, ?_, ?_, ?_, fun z hz => ?_, fun z hz => ?_, fun p hp z hz => ?_⟩, O.sep.one, O.sep.rs⟩
    · simp only []; rw [if_neg (by rw [O.ins]; intro z; cases z)]; exact h1
    · simp only []; rw [if_neg (by rw [O.ra]; intro z; cases z)]; exact h2
    · simp only []; rw [if_neg (by rw [O.sa]; intro z; cases z)]; exact h3
    · simp only []
      by_cases e : H z = none
      · rw [if_pos e]
      · rw [if_neg e]
        rcases m.foot z hz with g | g
        · exact h4 z g
        · exact absurd g e
    · simp only []; rw [if_neg (O.h.there z hz)]; exact h5 z hz
    · obtain ⟨t, _, o⟩ := O.sheet hp
      simp only []; rw [if_neg (o.there z hz)]; exact h6 p hp z hz
  · simp only [footD, List.mem_cons, List.mem_append] at hz ⊢
    rcases hz with hz | hz | hz | hz | hz | hz
    · exact .inl (.inl hz)
    · exact .inl (.inr (.inl hz))
    · exact .inl (.inr (.inr (.inl hz)))
    · rcases m.foot z hz with g | g
      · exact .inl (.inr (.inr (.inr (.inl g))))
      · exact .inr g
    · exact .inl (.inr (.inr (.inr (.inr (.inl hz)))))
    · exact .inl (.inr (.inr (.inr (.inr (.inr hz)))))
/-- the hall has changed -/
theorem AftD.hall {c : Cs} (ap : c.Apart) {H : Hp} {x : Addr} {A : DA} {D : Dk} {r' : R} {ans : List Int} {Q : VK} (k : AftD c H x A { D with rh := r' } ans Q) (O : OwnD c H x A D) (g : kH.good r') : Aft c.H H A.ha A.dh r' ans Q := fun H' d' q k1 o m h => by
  obtain ⟨a1, a2, a3, a4, a5⟩ := O.off_h ap
  have nf : ∀ {z}, z ∉ footR A.ha A.dh → z ∉ [A.ha, A.dh.ba, A.dh.na] := fun h z => h (foot3 _ z)
  refine k H' { A with dh := d' } q (k1.sub fun z hz => ?_) ⟨k1 _ _ O.ins (nf a1), k1 _ _ O.ra (nf a2), k1 _ _ O.sa (nf a3), O.f.kept k1 fun z hz => nf (a4 z hz), O.h.aft k1 o m g, ?_, ?_⟩ (fun z hz => ?_) h
  · simp only [footD, List.mem_cons, List.mem_append]; exact .inr (.inr (.inr (.inr (.inl (foot3 _ hz)))))
  · have key : ∀ {ps : List (Addr × TA')} {ts : List T}, (∀ p ∈ ps, p ∈ A.ps) → Paired (fun (p : Addr × TA') (t : T) => OwnT c.S H p.1 p.2 t) ps ts → Paired (fun (p : Addr × TA') (t : T) => OwnT c.S H' p.1 p.2 t) ps ts := by
      intro ps ts hs hp
      induction hp with
      | nil => exact .nil
      | cons r _ ih => exact .cons (r.kept k1 fun z hz => nf (a5 _ (hs _ List.mem_cons_self) z hz)) (ih fun p hp => hs p (List.mem_cons_of_mem _ hp))
    exact key (fun _ h => h) O.s
  · obtain ⟨ow, h1, h2, h3, h4, h5, h6⟩ := O.sep.ow
    refine ⟨⟨fun z => if H z = none then A.ha else ow z, ?_, ?_, ?_, fun z hz => ?_, fun z hz => ?_, fun p hp z hz => ?_⟩, O.sep.one, O.sep.rs⟩
    · simp only []; rw [if_neg (by rw [O.ins]; intro z; cases z)]; exact h1
    · simp only []; rw [if_neg (by rw [O.ra]; intro z; cases z)]; exact h2
    · simp only []; rw [if_neg (by rw [O.sa]; intro z; cases z)]; exact h3
    · simp only []; rw [if_neg (O.f.there z hz)]; exact h4 z hz
    · simp only []
      by_cases e : H z = none
      · rw [if_pos e]
      · rw [if_neg e]
        rcases m.foot z hz with g | g
        · exact h5 z g
        · exact absurd g e
    · obtain ⟨t, _, o⟩ := O.sheet hp
      simp only []; rw [if_neg (o.there z hz)]; exact h6 p hp z hz
  · simp only [footD, List.mem_cons, List.mem_append] at hz ⊢
    rcases hz with hz | hz | hz | hz | hz | hz
    · exact .inl (.inl hz)
    · exact .inl (.inr (.inl hz))
    · exact .inl (.inr (.inr (.inl hz)))
    · exact .inl (.inr (.inr (.inr (.inl hz))))
    · rcases m.foot z hz with g | g
      · exact .inl (.inr (.inr (.inr (.inr (.inl g)))))
      · exact .inr g
    · exact .inl (.inr (.inr (.inr (.inr (.inr hz)))))
end Rd
set_option linter.all false
set_option maxRecDepth 100000
set_option maxHeartbeats 2000000
namespace Rd
open PySem PySem.Spec PyProof.Rows L2 Evl
/-! ### the desk begins -/
abbrev cDesk : Stmt := top 66
abbrev sInitD : Stmt := inClass cDesk 0
theorem scInitD : FnScope ["self"] ["self"] (defScope sInitD) := ⟨rfl, rfl, rfl, by decide +kernel, rfl, by decide +kernel, by decide +kernel⟩
abbrev sBegD : Stmt := inClass cDesk 1
theorem scBegD : FnScope ["self", "solvers"] ["self", "solvers"] (defScope sBegD) := ⟨rfl, rfl, rfl, by decide +kernel, rfl, by decide +kernel, by decide +kernel⟩
def NewD (c : Cs) (H : Hp) (x : Addr) (n : Nat) (W : Hp → Prop) : Prop := ∀ (H' : Hp) (A : DA), Kept H H' [x] → OwnD c H' x A ⟨n, r0, r0, []⟩ → (∀ z ∈ footD x A, z = x ∨ H z = none) → W H'
def spBegD (c : Cs) : Sp := fun vs H Q _ => ∃ (x dx : Addr) (fs : List (Str × V)) (n : Nat), vs = [.ref x, vN n] ∧ H x = some (.ins c.D dx fs) ∧ (fs = [] ∨ ∃ m ra sa, fs = dF m ra sa) ∧
  ((1 ≤ n ∧ n ≤ 4) → NewD c H x n fun H' => ∀ q, H' q = some (.lst [.int 0]) → Q (.ref q) H') ∧
  (¬ (1 ≤ n ∧ n ≤ 4) → ∀ (H' : Hp) (q : Addr), Ex H H' → H' q = some (.lst [.int (-1)]) → Q (.ref q) H')
def spInitD (c : Cs) : Sp := fun vs H Q _ => ∃ (x dx : Addr), vs = [.ref x] ∧ H x = some (.ins c.D dx []) ∧ NewD c H x 1 fun H' => Q .non H'
/-- a new riddle -/
def EvNR (C : Addr) (kd : Kind) (ws : List (Nat × Nat)) (L : Nat) (te : TE) (σ : L2.St) (H : Hp) : Prop := ∀ H1, Ex H H1 → ∀ Q : VK, (∀ (x : Addr) (d : Ad) (H2 : Hp), Ex H1 H2 → (∀ z ∈ footR x d, H1 z = none) → OwnR C kd ws L H2 x d r0 → Q (.ref x) H2) → te σ H1 Q
theorem ev_newR {C : Addr} {kd : Kind} {ws : List (Nat × Nat)} {L : Nat} {σ : L2.St} {H : Hp} {E : XK} (g : kd.good r0) : EvNR C kd ws L (tMake C (spInit C L ws) [] E tNil) σ H := fun H1 e Q q x dx hx hdx hne => by
  have e1 : Ex H1 (upd (upd H1 dx (.own x)) x (.ins C dx [])) := (Ex.new hdx).trans (Ex.new (by rw [upd_ne (fun z => hne z.symm)]; exact hx))
  refine ⟨x, dx, rfl, upd_same, fun H' d k1 O hL hdx2 hwd f1 f2 f3 hwn => ⟨rfl, q x d H' (fun b o hb => k1 b o (e1 b o hb) ?_) (fun z hz => ?_) ⟨O, g, hL, hwd, hwn⟩⟩⟩
  · rw [List.mem_singleton]
    intro z; rw [z, hx] at hb; cases hb
  · simp only [footR, List.mem_cons, List.not_mem_nil, or_false] at hz
    rcases hz with rfl | rfl | rfl | rfl
    · exact hx
    · exact fresh_back e1 f2
    · exact fresh_back e1 f3
    · exact fresh_back e1 f1
/-- the two riddles, new in a new list -/
def TwoNew (c : Cs) (H : Hp) (v : V) (H2 : Hp) : Prop := ∃ (ra fa ha : Addr) (df dh : Ad), v = .ref ra ∧ H2 ra = some (.lst [.ref fa, .ref ha]) ∧ OwnR c.F kF wantsF 5 H2 fa df r0 ∧ OwnR c.H kH wantsH 4 H2 ha dh r0 ∧ H ra = none ∧ (∀ z ∈ footR fa df, H z = none) ∧ (∀ z ∈ footR ha dh, H z = none) ∧ (∀ z ∈ footR ha dh, z ∉ footR fa df) ∧ ra ∉ footR fa df ∧ ra ∉ footR ha dh
theorem ep_two {c : Cs} {σ : L2.St} {H : Hp} {tf th : TE} (hf : EvNR c.F kF wantsF 5 tf σ H) (hh : EvNR c.H kH wantsH 4 th σ H) : EvP (tLst (tCons tf (tCons th tNil))) σ H (TwoNew c H) := fun H1 e Q q =>
  hf H1 e _ fun fa df H2 e2 f1 O1 => hh H2 (e.trans e2) _ fun ha dh H3 e3 f2 O2 => ⟨by show 2 ≤ sizeLine; decide, fun ra hra => by
    have e4 : Ex H3 (upd H3 ra (.lst [.ref fa, .ref ha])) := Ex.new hra
    refine q (.ref ra) _ ((e2.trans e3).trans e4) ⟨ra, fa, ha, df, dh, rfl, upd_same, O1.mono (e3.trans e4), O2.mono e4, fresh_back ((e.trans e2).trans e3) hra, fun z hz => fresh_back e (f1 z hz), fun z hz => fresh_back (e.trans e2) (f2 z hz), fun z hz y => ?_, fun y => ?_, fun y => ?_⟩
    · exact O1.there z y (f2 z hz)
    · exact (O1.mono e3).there ra y hra
    · exact O2.there ra y hra⟩
def ds1 (n : Nat) : List (Str × V) := [("solvers", vN n)]
def ds2 (n : Nat) (ra : Addr) : List (Str × V) := [("solvers", vN n), ("riddles", .ref ra)]
theorem put3 {fs : List (Str × V)} (h : fs = [] ∨ ∃ m ra sa, fs = dF m ra sa) (n : Nat) (ra sa : Addr) : putF "sheets" (.ref sa) (putF "riddles" (.ref ra) (putF "solvers" (vN n) fs)) = dF n ra sa ∧ fs.length < 1000 ∧ (putF "solvers" (vN n) fs).length < 1000 ∧ (putF "riddles" (.ref ra) (putF "solvers" (vN n) fs)).length < 1000 := by
  rcases h with rfl | ⟨m, ra0, sa0, rfl⟩
  · have e1 : putF "solvers" (vN n) [] = ds1 n := rfl
    have e2 : putF "riddles" (.ref ra) (ds1 n) = ds2 n ra := (put_past (by decide +kernel)).trans rfl
    have e3 : putF "sheets" (.ref sa) (ds2 n ra) = dF n ra sa := (put_past (by decide +kernel)).trans (congrArg _ ((put_past (by decide +kernel)).trans rfl))
    rw [e1, e2, e3]
    exact ⟨rfl, by decide, by show 1 < 1000; decide, by show 2 < 1000; decide⟩
  · rw [dF_put_sol, dF_put_rid, dF_put_she]
    exact ⟨rfl, by show 3 < 1000; decide, by show 3 < 1000; decide, by show 3 < 1000; decide⟩
theorem q_fldP {σ : L2.St} {H : Hp} {D : Ends} {tz : TS} {ta tv : TE} {K : PySem.W.Frag} {a C dx : Addr} {fs : List (Str × V)} {f : Str} {P : V → Hp → Prop} (hv : EvP tv σ H P) (ha : Ev ta σ H (.ref a)) (ho : H a = some (.ins C dx fs)) (cl : Cls K C) (n : NoAttr K C f) (hl : fs.length < 1000)
    (hm : ∀ v H1 H2, Ex H1 H2 → P v H1 → P v H2) (k : ∀ v H1, Ex H H1 → P v H1 → tz D σ (upd H1 a (.ins C dx (putF f v fs)))) : tSeq (sFld K ta tv f) tz D σ H :=
  hv H (Ex.refl H) _ fun v H1 e1 h1 => ha H1 e1 _ fun H2 e2 => ⟨a, C, dx, fs, rfl, e2 _ _ (e1 _ _ ho), cl, n, hl, k v H2 (e1.trans e2) (hm v H1 H2 e2 h1)⟩
theorem TwoNew.mono {c : Cs} {H : Hp} {v : V} {H1 H2 : Hp} (e : Ex H1 H2) (h : TwoNew c H v H1) : TwoNew c H v H2 := by
  obtain ⟨ra, fa, ha, df, dh, h1, h2, h3, h4, h5⟩ := h
  exact ⟨ra, fa, ha, df, dh, h1, e _ _ h2, h3.mono e, h4.mono e, h5⟩
section
variable {P : Program} {w : World} {K : PySem.W.Frag} {mg : Str → Option Value} {base : Heap} {c : Cs}
theorem ok_begD {f fF fH : Addr} {fd fdF fdH : FuncData} (F : Fun K "begins" "Desk.begins" sBegD f fd) (Dc : DC K c.D) (ap : c.Apart) (c1 : KInt mg "BAD_VALUE" (-1)) (c4 : KInt mg "MOST_SOLVERS" 4)
    (gF : mg "Field" = some (.ref c.F)) (MF : Mk K c.F fF) (GF : FnOk P w K mg base CX0 2 fF fdF ["self"] (spInit c.F 5 wantsF)) (BF : Binds K fdF ["self"] [])
    (gH : mg "Hall" = some (.ref c.H)) (MH : Mk K c.H fH) (GH : FnOk P w K mg base CX0 2 fH fdH ["self"] (spInit c.H 4 wantsH)) (BH : Binds K fdH ["self"] []) : FnOk P w K mg base CX0 4 f fd ["self", "solvers"] (spBegD c) := by
  refine F.ok scBegD (fun vs H Q E h => ?_) (fun cdv A outer s H vs Q E hr h => ?_)
  · obtain ⟨x, dx, fs, n, rfl, _⟩ := h; rfl
  · obtain ⟨t1, c1⟩ := c1
    obtain ⟨t4, c4⟩ := c4
    refine ⟨_, pss_cons (ps_if (pt_not (pt_chain op_le op_le pe_int (pv 1) (pe_glob (v := .int 4) rfl c4 ⟨_, rfl⟩))) (pss_one (ps_ret (pe_lst (pa_cons (pe_glob (v := .int (-1)) rfl c1 ⟨_, rfl⟩) pa_nil)))) pss_nil)
      (pss_cons (ps_fld (pv 0) (pv 1) rfl)
      (pss_cons (ps_fld (pv 0) (pe_lst (pa_cons (pe_make0 MF GF hr (by rfl) gF BF .nil pass0) (pa_cons (pe_make0 MH GH hr (by rfl) gH BH .nil pass0) pa_nil))) rfl)
      (pss_cons (ps_fld (pv 0) (pe_lst pa_nil) rfl)
      (pss_one (ps_ret (pe_lst (pa_cons pe_int pa_nil))))))), ?_⟩
    obtain ⟨x, dx, fs, n, rfl, hx, hfs, ky, kn⟩ := h
    refine q_when (b := !(decide ((1 : Int) ≤ (n : Int)) && decide ((n : Int) ≤ 4))) (et_not (et_test (et_chain (X := .int 1) (Y := vN n) (W := .int 4) ev_c (ev_var rfl) rv_I0 fun _ => ⟨ev_c, rv_I0⟩))) (fun hb H1 e1 => ?_) (fun hb H1 e1 => ?_)
    · have hn : ¬ (1 ≤ n ∧ n ≤ 4) := fun z => by
        have : (decide ((1 : Int) ≤ (n : Int)) && decide ((n : Int) ≤ 4)) = true := by
          rw [Bool.and_eq_true, decide_eq_true_eq, decide_eq_true_eq]; omega
        rw [this] at hb; cases hb
      exact s_retL (el_lst (ea_cons ev_c ea_nil) (by show 1 ≤ 100000; decide)) fun q H2 _ e2 h2 => kn hn H2 q (e1.trans e2) h2
    have hn : 1 ≤ n ∧ n ≤ 4 := by
      have hb : (decide ((1 : Int) ≤ (n : Int)) && decide ((n : Int) ≤ 4)) = true := by
        cases e : (decide ((1 : Int) ≤ (n : Int)) && decide ((n : Int) ≤ 4)) with
        | true => rfl
        | false => rw [e] at hb; cases hb
      rw [Bool.and_eq_true, decide_eq_true_eq, decide_eq_true_eq] at hb
      omega
    have lens := fun ra sa => put3 hfs n ra sa
    refine q_fld (v := vN n) (ev_var rfl) (ev_var rfl) (e1 _ _ hx) Dc.cl Dc.n1 (lens 0 0).2.1 fun H2 e2 => ?_
    refine q_fldP (P := TwoNew c (upd H2 x (.ins c.D dx (putF "solvers" (vN n) fs)))) (ep_two (ev_newR (LF.good lf_new)) (ev_newR (LH.good lh_new))) (ev_var rfl) upd_same Dc.cl Dc.n2 (lens 0 0).2.2.1 (fun v H1 H2 e h => h.mono e) fun v H3 e3 h3 => ?_
    obtain ⟨ra, fa, ha, df, dh, rfl, hra, OF, OH, f1, f2, f3, s1, s2, s3⟩ := h3
    refine q_fldL (xs := []) (el_lst ea_nil (Nat.zero_le _)) (ev_var rfl) upd_same Dc.cl Dc.n3 (lens ra 0).2.2.2 fun sa H4 hsa e4 h4 => ?_
    rw [(lens ra sa).1]
    refine s_retL (el_lst (ea_cons ev_c ea_nil) (by show 1 ≤ 100000; decide)) fun q H5 hq e5 h5 => ?_
    -- from the heap at the beginning
    have E2 : Ex H H2 := e1.trans e2
    have gr2 : Grows H (upd H2 x (.ins c.D dx (putF "solvers" (vN n) fs))) := (Grows.of_ex E2).set
    have k2 : Kept H (upd H2 x (.ins c.D dx (putF "solvers" (vN n) fs))) [x] := (Kept.of_ex E2).set (by simp)
    have k3 := (k2.ex e3).set (a := x) (o := .ins c.D dx (putF "riddles" (.ref ra) (putF "solvers" (vN n) fs))) (by simp)
    have k4 := (k3.ex e4).set (a := x) (o := .ins c.D dx (dF n ra sa)) (by simp)
    have k5 := k4.ex e5
    have gr3 := (gr2.ex e3).set (a := x) (o := .ins c.D dx (putF "riddles" (.ref ra) (putF "solvers" (vN n) fs)))
    have nx : ∀ {z}, upd H2 x (.ins c.D dx (putF "solvers" (vN n) fs)) z = none → z ≠ x := fun h => ne_fresh h
    have kx : ∀ {H' H'' : Hp} {o : HO}, Ex (upd H' x o) H'' → Kept H' H'' [x] := fun {H' H'' o} e b u hb hn => e b u (by rw [upd_ne (by simpa using hn)]; exact hb)
    have k34 : Kept H3 (upd H4 x (.ins c.D dx (dF n ra sa))) [x] := (kx e4).set (by simp)
    have k35 : Kept H3 H5 [x] := k34.ex e5
    have sx : sa ≠ x := ne_fresh hsa
    have hsa3 : H3 sa = none := by rw [upd_ne sx] at hsa; exact hsa
    have xF : x ∉ footR fa df := fun z => nx (f2 x z) rfl
    have xH : x ∉ footR ha dh := fun z => nx (f3 x z) rfl
    have xr : ra ≠ x := nx f1
    have OF5 := OF.kept (xs := [x]) k35 fun z hz => by rw [List.mem_singleton]; intro e; subst e; exact xF hz
    have OH5 := OH.kept (xs := [x]) k35 fun z hz => by rw [List.mem_singleton]; intro e; subst e; exact xH hz
    have sF : sa ∉ footR fa df := fun z => OF.there sa z hsa3
    have sH : sa ∉ footR ha dh := fun z => OH.there sa z hsa3
    have rs : ra ≠ sa := fun z => by rw [z, hsa3] at hra; cases hra
    refine ky hn H5 ⟨dx, ra, sa, fa, ha, df, dh, []⟩ k5 ⟨e5 _ _ upd_same, k35 _ _ hra (by simpa using xr), e5 _ _ (by rw [upd_ne sx]; exact h4), OF5, OH5, .nil, ⟨fun z => if z ∈ footR fa df then fa else if z ∈ footR ha dh then ha else z, ?_, ?_, ?_, ?_, ?_, fun p hp => by cases hp⟩, .nil, rs⟩ (fun z hz => ?_) q h5
    · simp only []; rw [if_neg xF, if_neg xH]
    · simp only []; rw [if_neg s2, if_neg s3]
    · simp only []; rw [if_neg sF, if_neg sH]
    · intro z hz; simp only []; rw [if_pos hz]
    · intro z hz; simp only []; rw [if_neg (s1 z hz), if_pos hz]
    · simp only [footD, List.mem_cons, List.mem_append, List.flatMap_nil, List.not_mem_nil, or_false] at hz
      rcases hz with hz | hz | hz | hz | hz
      · exact .inl hz
      · exact .inr (by rw [hz]; exact gr2 _ f1)
      · exact .inr (by rw [hz]; exact gr3 _ hsa)
      · exact .inr (gr2 _ (f2 z hz))
      · exact .inr (gr2 _ (f3 z hz))
theorem ok_initD {f : Addr} {fd : FuncData} (F : Fun K "__init__" "Desk.__init__" sInitD f fd) (Dc : DC K c.D) (mB : Mt P w K mg base c.D 4 "begins" ["self", "solvers"] (spBegD c)) : FnOk P w K mg base CX0 5 f fd ["self"] (spInitD c) := by
  refine F.ok scInitD (fun vs H Q E h => ?_) (fun cdv A outer s H vs Q E hr h => ?_)
  · obtain ⟨x, dx, rfl, _⟩ := h; rfl
  · obtain ⟨f1, fd1, M1, G1, B1⟩ := mB
    refine ⟨_, pss_one (ps_expr (pe_meth (pv 0) Dc.cl M1 G1 hr B1 .nil pass0 (pa_cons pe_int pa_nil))), ?_⟩
    obtain ⟨x, dx, rfl, hx, k⟩ := h
    refine ⟨_, rfl, x, dx, [], rfl, hx, rfl, ?_⟩
    refine ⟨x, dx, [], 1, rfl, hx, .inl rfl, fun _ H' A k1 O fr q _ => k H' A k1 O fr, fun z => absurd ⟨Nat.le_refl 1, by decide⟩ z⟩
end
end Rd
set_option linter.all false
set_option maxRecDepth 100000
set_option maxHeartbeats 2000000
namespace Rd
open PySem PySem.Spec PyProof.Rows L2 Evl
/-! ### what the riddles were, and which sheets stay -/
def tMkp (c : Cs) (i : Nat) : TE := tOr (tMeth c.F "makeup" (spMakeup c.F) [] E0 (tVar i) tNil) (tMeth c.H "makeup" (spMakeup c.H) [] E0 (tVar i) tNil)
theorem MkN.base {H0 H1 H : Hp} {t : Addr} {r : R} (e : Ex H0 H1) (m : MkN H1 H t r) : MkN H0 H t r := by
  obtain ⟨la, da, ⟨f1, f2, f3⟩, h⟩ := m.ex
  exact ⟨la, da, ⟨fresh_back e f1, fresh_back e f2, fresh_back e f3⟩, h⟩
theorem run_mk {C : Addr} {σ : L2.St} {H : Hp} {i : Nat} {x : Addr} {d : Ad} {r : R} {E : XK} (s : σ[i]? = some (some (.ref x))) (S : Seen C H x d r) {Q : VK} (k : ∀ (t : Addr) (H2 : Hp), Ex H H2 → MkN H H2 t r → Q (.ref t) H2) : tMeth C "makeup" (spMakeup C) [] E (tVar i) tNil σ H Q :=
  ⟨_, s, x, d.dx, rF d r, rfl, S.ins, rF_no d r (by decide +kernel), x, d, r, rfl, S, fun H' t e m => k t H' e m⟩
/-- the riddle at x is r -/
def IsR (c : Cs) (H : Hp) (x : Addr) (r : R) : Prop := (∃ d, Seen c.F H x d r) ∨ ∃ d, Seen c.H H x d r
theorem IsR.mono {c : Cs} {H H' : Hp} {x : Addr} {r : R} (e : Ex H H') (h : IsR c H x r) : IsR c H' x r := h.imp (fun ⟨d, s⟩ => ⟨d, s.mono e⟩) fun ⟨d, s⟩ => ⟨d, s.mono e⟩
theorem run_mkp {c : Cs} {σ : L2.St} {H : Hp} {i : Nat} {x : Addr} {r : R} (s : σ[i]? = some (some (.ref x))) (h : IsR c H x r) {Q : VK} (k : ∀ (t : Addr) (H2 : Hp), Ex H H2 → MkN H H2 t r → Q (.ref t) H2) : tMkp c i σ H Q := by
  rcases h with ⟨d, S⟩ | ⟨d, S⟩
  · exact .inl (run_mk s S k)
  · exact .inr (run_mk s S k)
theorem OwnD.isF {c : Cs} {H : Hp} {x : Addr} {A : DA} {D : Dk} (O : OwnD c H x A D) : IsR c H A.fa D.rf := .inl ⟨_, O.f.own.seen⟩
theorem OwnD.isH {c : Cs} {H : Hp} {x : Addr} {A : DA} {D : Dk} (O : OwnD c H x A D) : IsR c H A.ha D.rh := .inr ⟨_, O.h.own.seen⟩
theorem ev_rid {c : Cs} {K : PySem.W.Frag} {σ : L2.St} {H : Hp} {ta : TE} {x : Addr} {A : DA} {D : Dk} (Dc : DC K c.D) (O : OwnD c H x A D) (h : Ev ta σ H (.ref x)) : Ev (tFld K ta "riddles") σ H (.ref A.ra) := ev_fld h O.ins Dc.cl Dc.n2 (dF_rid _ _ _)
theorem ev_she {c : Cs} {K : PySem.W.Frag} {σ : L2.St} {H : Hp} {ta : TE} {x : Addr} {A : DA} {D : Dk} (Dc : DC K c.D) (O : OwnD c H x A D) (h : Ev ta σ H (.ref x)) : Ev (tFld K ta "sheets") σ H (.ref A.sa) := ev_fld h O.ins Dc.cl Dc.n3 (dF_she _ _ _)
theorem ev_sol {c : Cs} {K : PySem.W.Frag} {σ : L2.St} {H : Hp} {ta : TE} {x : Addr} {A : DA} {D : Dk} (Dc : DC K c.D) (O : OwnD c H x A D) (h : Ev ta σ H (.ref x)) : Ev (tFld K ta "solvers") σ H (vN D.sol) := ev_fld h O.ins Dc.cl Dc.n1 (dF_sol _ _ _)
/-- the makeups, new in a new list -/
def Befs (H0 : Hp) (r1 r2 : R) (v : V) (H' : Hp) : Prop := ∃ b t1 t2 : Addr, v = .ref b ∧ H0 b = none ∧ H' b = some (.lst [.ref t1, .ref t2]) ∧ MkN H0 H' t1 r1 ∧ MkN H0 H' t2 r2
theorem ep_before {c : Cs} {K : PySem.W.Frag} {σ : L2.St} {H : Hp} {tl : TE} {a x1 x2 : Addr} {r1 r2 : R} {j : Nat} (hl : Ev tl σ H (.ref a)) (ha : H a = some (.lst [.ref x1, .ref x2])) (h1 : IsR c H x1 r1) (h2 : IsR c H x2 r2)
    (hw : ∀ x, wipe ((wipe σ [j]).set j (some x)) [j] = wipe σ [j]) (hj : ∀ v : V, ((wipe σ [j]).set j (some v))[j]? = some (some v)) : EvP (tLc (iList K tl) (gName j) tYes (tMkp c j) [j]) σ H (Befs H r1 r2) := fun H1 e Q q => hl H1 e _ fun H2 e2 => by
  refine ⟨a, rfl, ⟨_, sq_of ((e.trans e2) _ _ ha)⟩, fun Dl hD => ?_⟩
  have eD : Ex H2 (upd H2 Dl (.lst [])) := Ex.new hD
  refine lc_list (K := K) (a := a) (xs := [.ref x1, .ref x2]) (fun i H' => Ex H2 H' ∧ ∃ tl : List Addr, H' Dl = some (.lst (tl.map V.ref)) ∧ Paired (fun t r => MkN (upd H2 Dl (.lst [])) H' t r) tl ([r1, r2].take i)) ⟨eD, [], upd_same, .nil⟩
    (fun i H' _ ⟨e3, _⟩ => sq_of (e3 _ _ ((e.trans e2) _ _ ha))) ?_ ?_
  · rintro i v H' hi ⟨e3, tl, h3, p3⟩
    have hr : ∃ y r, v = .ref y ∧ [r1, r2][i]? = some r ∧ IsR c H y r := by
      match i, hi with
      | 0, hi => cases hi; exact ⟨x1, r1, rfl, rfl, h1⟩
      | 1, hi => cases hi; exact ⟨x2, r2, rfl, rfl, h2⟩
    obtain ⟨y, r, rfl, hr, hy⟩ := hr
    refine ⟨hw _, ?_⟩
    simp only [tYes, if_true]
    refine run_mkp (hj _) (hy.mono ((e.trans e2).trans e3)) fun t H4 e4 m4 => ?_
    have lt : tl.length ≤ 2 := by
      rw [Paired.length p3]
      exact Nat.le_trans (List.length_take_le' _ _) (Nat.le_refl 2)
    have D0 : (upd H2 Dl (.lst [])) Dl ≠ none := by rw [upd_same]; intro z; cases z
    have e03 : Ex (upd H2 Dl (.lst [])) H' ∨ True := .inr trivial
    have fr : ∀ {z}, H' z = none → (upd H2 Dl (.lst [])) z = none := fun {z} hz => by
      by_cases c : z = Dl
      · rw [c, h3] at hz; cases hz
      · rw [upd_ne c]; exact fresh_back e3 hz
    have mb : MkN (upd H2 Dl (.lst [])) H4 t r := by
      obtain ⟨la, da, ⟨g1, g2, g3⟩, h⟩ := m4.ex
      exact ⟨la, da, ⟨fr g1, fr g2, fr g3⟩, h⟩
    have kD : ∀ {o : HO}, Kept H4 (upd H4 Dl o) [Dl] := fun {o} => (Kept.of_ex (Ex.refl H4)).set (by simp)
    refine ⟨tl.map V.ref, e4 _ _ h3, ?_, Ex.mut (e3.trans e4) hD, tl ++ [t], by rw [upd_same, List.map_append]; rfl, ?_⟩
    · rw [List.length_map]; exact sz_lt (by omega)
    · rw [take_more hr]
      refine Paired.snoc (Paired.imp (fun t r m => (m.ex' e4).kept kD fun a ha => by rw [List.mem_singleton] at ha; rw [ha]; exact D0) p3) (mb.kept kD fun a ha => by rw [List.mem_singleton] at ha; rw [ha]; exact D0)
  · rintro H' ⟨e3, tl, h3, p3⟩
    have p3 : Paired (fun t r => MkN (upd H2 Dl (.lst [])) H' t r) tl [r1, r2] := p3
    cases p3 with
    | cons m1 p3 =>
      cases p3 with
      | cons m2 p3 =>
        cases p3
        exact q (.ref Dl) H' (e2.trans e3) ⟨Dl, _, _, rfl, fresh_back (e.trans e2) hD, h3, m1.base ((e.trans e2).trans eD), m2.base ((e.trans e2).trans eD)⟩
end Rd
set_option linter.all false
set_option maxRecDepth 100000
set_option maxHeartbeats 2000000
namespace Rd
open PySem PySem.Spec PyProof.Rows L2 Evl
/-! ### sheets of other riddles are forgotten -/
theorem hu2_of {A : Around} {k : Nat} (hr : Room k A) : A.units + 2 < cLine := Nat.lt_of_le_of_lt (Nat.add_le_add_left (by decide : 2 ≤ 64) _) hr.units
def rEqMk : R2 := fun x y H Q => ∃ (t t' : Addr) (r r' : R), x = .ref t ∧ y = .ref t' ∧ IsMk H t r ∧ IsMk H t' r' ∧ (r.nums.map (·.1)).Nodup ∧ (r'.nums.map (·.1)).Nodup ∧ Q (.bl (sameB r r')) H
abbrev sForget : Stmt := inClass cDesk 6
abbrev nForget : List Str := ["self", "before", "same", "riddle", "makeup", "sheet"]
theorem scForget : FnScope nForget ["self", "before"] (defScope sForget) := ⟨rfl, rfl, rfl, by decide +kernel, rfl, by decide +kernel, by decide +kernel⟩
def forgetD (D : Dk) (r1 r2 : R) : Dk := { D with ts := stayT (sameB D.rf r1) (sameB D.rh r2) D.ts }
/-- the desk has a new list of some of its sheets -/
def spForget (c : Cs) : Sp := fun vs H Q _ => ∃ (x b t1 t2 : Addr) (A : DA) (D : Dk) (r1 r2 : R), vs = [.ref x, .ref b] ∧ OwnD c H x A D ∧ H b = some (.lst [.ref t1, .ref t2]) ∧ IsMk H t1 r1 ∧ IsMk H t2 r2 ∧
  ((D.rf.nums.map (·.1)).Nodup ∧ (r1.nums.map (·.1)).Nodup) ∧ ((D.rh.nums.map (·.1)).Nodup ∧ (r2.nums.map (·.1)).Nodup) ∧ (∀ t ∈ D.ts, t.which < 2) ∧ D.ts.length ≤ 60 ∧
  ∀ (H' : Hp) (A' : DA), Kept H H' [x] → OwnD c H' x A' (forgetD D r1 r2) → (∀ z ∈ footD x A', z ∈ footD x A ∨ H z = none) → Q .non H'
theorem el_same {c : Cs} {K : PySem.W.Frag} {σ : L2.St} {H : Hp} {ta tb : TE} {a b x1 x2 t1 t2 : Addr} {r1 r2 s1 s2 : R} (ha : Ev ta σ H (.ref a)) (hb : Ev tb σ H (.ref b)) (h1 : H a = some (.lst [.ref x1, .ref x2])) (h2 : H b = some (.lst [.ref t1, .ref t2]))
    (i1 : IsR c H x1 r1) (i2 : IsR c H x2 r2) (m1 : IsMk H t1 s1) (m2 : IsMk H t2 s2) (n1 : (r1.nums.map (·.1)).Nodup ∧ (s1.nums.map (·.1)).Nodup) (n2 : (r2.nums.map (·.1)).Nodup ∧ (s2.nums.map (·.1)).Nodup) {v0 v1 v2 v5 : Option V} (hσ : σ = [v0, v1, v2, none, none, v5]) :
    EvL (tLc (iZip K (tCons ta (tCons tb tNil))) (gTup K 2 (gCons (gName 3) (gCons (gName 4) gNil))) tYes (tOp rEqMk (tMkp c 3) (tVar 4)) [3, 4]) σ H [.bl (sameB r1 s1), .bl (sameB r2 s2)] := fun H1 e Q q => ha H1 e _ fun H2 e2 => hb H2 (e.trans e2) _ fun H3 e3 => by
  subst hσ
  have e03 : Ex H H3 := (e.trans e2).trans e3
  refine ⟨a, b, [.ref x1, .ref x2], [.ref t1, .ref t2], rfl, sq_of (e03 _ _ h1), sq_of (e03 _ _ h2), fun Dl hD => ?_⟩
  have g : ∀ i : Nat, i < 2 → ∃ (y t : Addr) (r s : R), ([.ref x1, .ref x2] : List V)[i]? = some (.ref y) ∧ ([.ref t1, .ref t2] : List V)[i]? = some (.ref t) ∧ IsR c H y r ∧ IsMk H t s ∧ (r.nums.map (·.1)).Nodup ∧ (s.nums.map (·.1)).Nodup ∧ ([.bl (sameB r1 s1), .bl (sameB r2 s2)] : List V)[i]? = some (.bl (sameB r s)) := by
    intro i hi
    match i, hi with
    | 0, _ => exact ⟨x1, t1, r1, s1, rfl, rfl, i1, m1, n1.1, n1.2, rfl⟩
    | 1, _ => exact ⟨x2, t2, r2, s2, rfl, rfl, i2, m2, n2.1, n2.2, rfl⟩
  refine lc_it (walk_zip (K := K) (a := a) (b := b) (xs := [.ref x1, .ref x2]) (ys := [.ref t1, .ref t2]) (n := 2) rfl) (fun i H' => Ex H3 H' ∧ H' Dl = some (.lst (([.bl (sameB r1 s1), .bl (sameB r2 s2)] : List V).take i))) ⟨Ex.new hD, upd_same⟩
    (fun i H' _ p => ⟨sq_of ((e03.trans p.1) _ _ h1), sq_of ((e03.trans p.1) _ _ h2)⟩) ?_ ?_
  · rintro i v H4 H5 hi ⟨e4, h4⟩ ⟨T, vx, vy, rfl, hT, rfl, hx, hy⟩
    obtain ⟨y, t, r, s, gx, gy, ir, ms, na, nb, gv⟩ := g i hi
    obtain rfl : vx = .ref y := Option.some.inj (hx.symm.trans gx)
    obtain rfl : vy = .ref t := Option.some.inj (hy.symm.trans gy)
    have e5 : Ex H4 (upd H4 T (.tup [.ref y, .ref t])) := Ex.new hT
    have e05 := (e03.trans e4).trans e5
    refine ⟨T, _, rfl, st_of upd_same, rfl, _, _, rfl, _, _, rfl, rfl, rfl, ?_⟩
    simp only [tYes, if_true]
    refine run_mkp (r := r) rfl (ir.mono e05) fun t' H6 e6 m6 => ⟨_, rfl, t', t, r, s, rfl, rfl, m6.is, ms.mono (e05.trans e6), na, nb, ?_⟩
    refine ⟨_, e6 _ _ (e5 _ _ h4), ?_, Ex.mut ((e4.trans e5).trans e6) hD, ?_⟩
    · exact sz_lt (Nat.lt_of_le_of_lt (List.length_take_le' _ _) (by show 2 < 100000; decide))
    · rw [upd_same, take_more gv]
  · rintro H' ⟨e4, h4⟩
    exact q Dl H' (fresh_back (e2.trans e3) hD) ((e2.trans e3).trans e4) h4
theorem paired_zip {α β : Type} {R : α → β → Prop} : ∀ {l : List α} {m : List β}, Paired R l m → (l.zip m).map (·.1) = l ∧ (l.zip m).map (·.2) = m ∧ ∀ q ∈ l.zip m, R q.1 q.2
  | _, _, .nil => ⟨rfl, rfl, fun _ h => nomatch h⟩
  | _, _, .cons r rs => by
    obtain ⟨h1, h2, h3⟩ := paired_zip rs
    refine ⟨by rw [List.zip_cons_cons, List.map_cons, h1], by rw [List.zip_cons_cons, List.map_cons, h2], fun q hq => ?_⟩
    rw [List.zip_cons_cons] at hq
    rcases List.mem_cons.mp hq with h | h
    · rw [h]; exact r
    · exact h3 q h
theorem zip_paired {α β γ : Type} {R : α → β → Prop} {f : γ → α} {g : γ → β} : ∀ {l : List γ}, (∀ q ∈ l, R (f q) (g q)) → Paired R (l.map f) (l.map g)
  | [], _ => .nil
  | q :: l, h => .cons (h q List.mem_cons_self) (zip_paired fun x hx => h x (List.mem_cons_of_mem _ hx))
section
variable {P : Program} {w : World} {K : PySem.W.Frag} {mg : Str → Option Value} {base : Heap} {c : Cs}
theorem ok_forget {f : Addr} {fd : FuncData} (F : Fun K "forget_sheets" "Desk.forget_sheets" sForget f fd) (Dc : DC K c.D) (Tc : TC K c.S) (ap : c.Apart) (gZ : mg "zip" = none) (cf : Cls K c.F) (ch : Cls K c.H)
    (mF : Mt P w K mg base c.F 1 "makeup" ["self"] (spMakeup c.F)) (mH : Mt P w K mg base c.H 1 "makeup" ["self"] (spMakeup c.H)) : FnOk P w K mg base CX0 2 f fd ["self", "before"] (spForget c) := by
  refine F.ok scForget (fun vs H Q E h => ?_) (fun cdv A0 outer s H vs Q E hr h => ?_)
  · obtain ⟨x, b, t1, t2, A, D, r1, r2, rfl, _⟩ := h; rfl
  · obtain ⟨f1, fd1, M1, G1, B1⟩ := mF
    obtain ⟨f2, fd2, M2, G2, B2⟩ := mH
    refine ⟨_, pss_cons (ps_set (i := 2) scForget.nd rfl (Or.inr rfl) (pe_lc (own := [("riddle", 3), ("makeup", 4)]) (g := gTup K 2 (gCons (gName 3) (gCons (gName 4) gNil))) (tt := tYes) (te := tOp rEqMk (tMkp c 3) (tVar 4)) rfl scForget.nd
        (pi_zip (by rfl) gZ (pa_cons (pe_fld (pv 0) rfl) (pa_cons (pv 1) pa_nil))) (blkOk_by (N := nForget) (sc := defScope sForget) (by decide +kernel))
        (fun _ _ _ _ _ => pg_tup rfl (pgs_cons (pg_name (i := 3) scForget.nd rfl (Or.inl rfl)) (pgs_cons (pg_name (i := 4) scForget.nd rfl (Or.inl rfl)) pgs_nil))) (fun _ _ _ _ _ => pts_nil)
        (fun _ _ _ _ _ => pe_cmpR (op_eqMk (hu2_of hr)) (pe_or (pe_meth0 (pv 3) cf M1 G1 hr B1 .nil pass0) (pe_meth0 (pv 3) ch M2 G2 hr B2 .nil pass0)) (pv 4) (nomark _))))
      (pss_cons (ps_fld (pv 0) (pe_lc (own := [("sheet", 5)]) (g := gName 5) (tt := tTest (tOp (rIxL K) (tVar 2) (tFld K (tVar 5) "riddle"))) (te := tVar 5) rfl scForget.nd (pi_list (pe_fld (pv 0) rfl)) (blkOk_by (N := nForget) (sc := defScope sForget) (by decide +kernel))
        (fun _ _ _ _ _ => pg_name (i := 5) scForget.nd rfl (Or.inl rfl)) (fun _ _ _ _ _ => pts_one (pt_val (pe_ix ix_list (pv 2) (pe_fld (pv 5) rfl) (fun _ _ => rfl)))) (fun _ _ _ _ _ => pv 5)) rfl) pss_nil), ?_⟩
    obtain ⟨x, b, t1, t2, A, D, r1, r2, rfl, O, hb, m1, m2, n1, n2, hw, h60, k⟩ := h
    refine q_asgL (el_same (ev_rid Dc O (ev_var rfl)) (ev_var rfl) O.ra hb O.isF O.isH m1 m2 n1 n2 (v0 := some (.ref x)) (v1 := some (.ref b)) (v2 := none) (v5 := none) rfl) fun sm H1 hsm e1 h1 => ?_
    have O1 := O.mono e1
    obtain ⟨z1, z2, z3⟩ := paired_zip O1.s
    generalize hz : A.ps.zip D.ts = zs at z1 z2 z3
    let keep : (Addr × TA') × T → Bool := fun q => if q.2.which = 0 then sameB D.rf r1 else sameB D.rh r2
    have hsa : H1 A.sa = some (.lst (zs.map fun q => V.ref q.1.1)) := by
      rw [O1.sa, ← z1, List.map_map]; rfl
    have hlen : zs.length ≤ 60 := by
      have := congrArg List.length z2
      rw [List.length_map] at this
      omega
    have key := el_lcL (K := K) (te := tVar 5) (t := tTest (tOp (rIxL K) (tVar 2) (tFld K (tVar 5) "riddle"))) (tl := tFld K (tVar 0) "sheets") (σ := [some (.ref x), some (.ref b), some (.ref sm), none, none, none]) (H := H1) (a := A.sa) (xs := zs.map fun q => V.ref q.1.1) (j := 5) (vs := [5])
      (fun i => keep (zs.getD i ((0, ⟨0, 0, 0⟩), tNew 0 0))) (fun i => V.ref (zs.getD i ((0, ⟨0, 0, 0⟩), tNew 0 0)).1.1) (ev_she Dc O1 (ev_var rfl)) (sq_of hsa) (by rw [List.length_map]; omega) (fun _ => rfl)
      (fun i y H2 e2 hi => ?_) (fun i y H2 e2 hi _ => ?_)
    · rw [List.length_map, given_filter zs keep (fun q => V.ref q.1.1) ((0, ⟨0, 0, 0⟩), tNew 0 0)] at key
      refine q_fldL key (ev_var rfl) O1.ins Dc.cl Dc.n3 (by show 3 < 1000; decide) fun sa H2 hsa2 e2 h2 => ?_
      rw [dF_put_she]
      have e12 := e1.trans e2
      have O2 := O.mono e12
      have hsa0 : H sa = none := fresh_back e1 hsa2
      have x_sa : x ≠ sa := fun z => by rw [← z, O.ins] at hsa0; cases hsa0
      have xs : ∀ {y : Addr}, y ≠ x → y ∉ [x] := fun h z => h (List.mem_singleton.mp z)
      have kx : Kept H2 (upd H2 x (.ins c.D A.dx (dF D.sol A.ra sa))) [x] := (Kept.of_ex (Ex.refl H2)).set (by simp)
      obtain ⟨ow, w1, w2, w3, w4, w5, w6⟩ := O.sep.ow
      have xF := (O.off_f ap).1
      have xH := (O.off_h ap).1
      have ne_sa : ∀ {y : Addr}, H y ≠ none → y ≠ sa := fun h z => h (by rw [z]; exact hsa0)
      have sub : ∀ p ∈ (zs.filter keep).map (·.1), p ∈ A.ps := fun p hp => by
        obtain ⟨q, hq, rfl⟩ := List.mem_map.mp hp
        rw [← z1]
        exact List.mem_map.mpr ⟨q, (List.mem_filter.mp hq).1, rfl⟩
      have hts : stayT (sameB D.rf r1) (sameB D.rh r2) D.ts = (zs.filter keep).map (·.2) := by
        unfold stayT
        rw [← z2, List.filter_map]
        rfl
      refine k (upd H2 x (.ins c.D A.dx (dF D.sol A.ra sa))) { A with sa := sa, ps := (zs.filter keep).map (·.1) } ((Kept.of_ex e12).set (by simp)) ⟨upd_same, ?_, ?_, ?_, ?_, ?_, ⟨⟨fun z => if z = sa then sa else ow z, ?_, ?_, ?_, ?_, ?_, ?_⟩, ?_, ?_⟩⟩ (fun z hz => ?_)
      · exact kx _ _ O2.ra (xs (O.off_x ap).1)
      · rw [upd_ne (fun z => x_sa z.symm), h2, List.map_map]; rfl
      · exact O2.f.kept kx fun z hz => xs fun e => xF (e ▸ hz)
      · exact O2.h.kept kx fun z hz => xs fun e => xH (e ▸ hz)
      · show Paired _ _ (stayT (sameB D.rf r1) (sameB D.rh r2) D.ts)
        rw [hts]
        refine zip_paired fun q hq => ?_
        have hq' := (List.mem_filter.mp hq).1
        have hp : q.1 ∈ A.ps := sub _ (List.mem_map.mpr ⟨q, hq, rfl⟩)
        exact ((z3 q hq').mono e2).kept kx fun z hz => xs fun e => (O.off_p ap hp).1 (e ▸ hz)
      · simp only []; rw [if_neg x_sa]; exact w1
      · simp only []; rw [if_neg (ne_sa (by rw [O.ra]; intro z; cases z))]; exact w2
      · simp only []; rw [if_pos trivial]
      · intro z hz; simp only []; rw [if_neg (ne_sa (O.f.there z hz))]; exact w4 z hz
      · intro z hz; simp only []; rw [if_neg (ne_sa (O.h.there z hz))]; exact w5 z hz
      · intro p hp z hz
        obtain ⟨t, _, o⟩ := O.sheet (sub p hp)
        simp only []; rw [if_neg (ne_sa (o.there z hz))]; exact w6 p (sub p hp) z hz
      · have : ((zs.filter keep).map (·.1)).Sublist (zs.map (·.1)) := List.filter_sublist.map _
        rw [z1] at this
        exact List.Pairwise.sublist (this.map _) O.sep.one
      · exact ne_sa (by rw [O.ra]; intro z; cases z)
      · simp only [footD, List.mem_cons, List.mem_append, List.mem_flatMap] at hz ⊢
        rcases hz with hz | hz | hz | hz | hz | ⟨p, hp, hz⟩
        · exact .inl (.inl hz)
        · exact .inl (.inr (.inl hz))
        · exact .inr (by rw [hz]; exact hsa0)
        · exact .inl (.inr (.inr (.inr (.inl hz))))
        · exact .inl (.inr (.inr (.inr (.inr (.inl hz)))))
        · exact .inl (.inr (.inr (.inr (.inr (.inr ⟨p, sub p hp, hz⟩)))))
    · rw [List.getElem?_map] at hi
      cases eq : zs[i]? with
      | none => rw [eq] at hi; cases hi
      | some q =>
        rw [eq] at hi
        obtain rfl : y = .ref q.1.1 := (Option.some.inj hi).symm
        rw [getD_of eq]
        have hm := List.mem_of_getElem? eq
        have O2 := (z3 q hm).mono e2
        have hwq : q.2.which < 2 := hw _ (by rw [← z2]; exact List.mem_map.mpr ⟨q, hm, rfl⟩)
        refine et_test (ev_op (ev_var rfl) (ev_fld (v := vN q.2.which) (ev_var rfl) O2.ins Tc.cl Tc.n2 (tF_riddle _ _)) (rv_ixL (sq_of (e2 _ _ h1)) (atI_nat (j := q.2.which) ?_)))
        have : q.2.which = 0 ∨ q.2.which = 1 := by omega
        rcases this with h0 | h0
        · rw [h0]; show some _ = some _; simp only [keep, h0, if_true]
        · rw [h0]; show some _ = some _; simp only [keep, h0]; rfl
    · rw [List.getElem?_map] at hi
      cases eq : zs[i]? with
      | none => rw [eq] at hi; cases hi
      | some q =>
        rw [eq] at hi
        obtain rfl : y = .ref q.1.1 := (Option.some.inj hi).symm
        rw [getD_of eq]
        exact ev_var rfl
end
end Rd
set_option linter.all false
set_option maxRecDepth 100000
set_option maxHeartbeats 2000000
namespace Rd
open PySem PySem.Spec PyProof.Rows L2 Evl
/-! ### the riddle that a call names -/
def Dk.want (D : Dk) (k : Nat) : List Nat := if k = 0 then wanting D.rf else wanting D.rh
def Dk.ways (D : Dk) (k : Nat) : List (List Nat) := if k = 0 then waysM kF D.rf else waysM kH D.rh
def IsW (c : Cs) (H : Hp) (y : Addr) (k : Nat) (D : Dk) : Prop := (k = 0 ∧ ∃ d, OwnR c.F kF wantsF 5 H y d D.rf) ∨ (k = 1 ∧ ∃ d, OwnR c.H kH wantsH 4 H y d D.rh)
theorem IsW.mono {c : Cs} {H H' : Hp} {y k : Nat} {D : Dk} (e : Ex H H') (h : IsW c H y k D) : IsW c H' y k D := h.imp (fun ⟨z, d, o⟩ => ⟨z, d, o.mono e⟩) fun ⟨z, d, o⟩ => ⟨z, d, o.mono e⟩
def ridA (A : DA) (k : Nat) : Addr := if k = 0 then A.fa else A.ha
theorem OwnD.isW {c : Cs} {H : Hp} {x : Addr} {A : DA} {D : Dk} (O : OwnD c H x A D) {k : Nat} (hk : k < 2) : IsW c H (ridA A k) k D := by
  have : k = 0 ∨ k = 1 := by omega
  rcases this with rfl | rfl
  · exact .inl ⟨rfl, _, O.f⟩
  · exact .inr ⟨rfl, _, O.h⟩
theorem OwnD.ridAt {c : Cs} {H : Hp} {x : Addr} {A : DA} {D : Dk} (O : OwnD c H x A D) {k : Nat} (hk : k < 2) : ([.ref A.fa, .ref A.ha] : List V)[k]? = some (.ref (ridA A k)) := by
  have : k = 0 ∨ k = 1 := by omega
  rcases this with rfl | rfl <;> rfl
def tW (c : Cs) (m : Str) (sp : Addr → Sp) (s2 : Addr → Sp) (i : Nat) : TE := tOr (tMeth c.F m (sp c.F) [] E0 (tVar i) tNil) (tMeth c.H m (s2 c.H) [] E0 (tVar i) tNil)
theorem want25 {r : R} (o : r.Ok) : (wanting r).length ≤ 25 := by
  unfold wanting
  refine Nat.le_trans (List.length_filter_le _ _) ?_
  rw [List.length_range]
  exact o.size
theorem IsW.len {c : Cs} {H : Hp} {y k : Nat} {D : Dk} (h : IsW c H y k D) : (D.want k).length ≤ 25 ∧ (D.ways k).length ≤ 99999 := by
  rcases h with ⟨rfl, d, O⟩ | ⟨rfl, d, O⟩
  · exact ⟨want25 O.own.seen.ok, Nat.le_trans (List.length_filter_le _ _) (Nat.le_trans (fitsF.few _ O.good) (by decide))⟩
  · exact ⟨want25 O.own.seen.ok, Nat.le_trans (List.length_filter_le _ _) (Nat.le_trans (fitsH.few _ O.good) (by decide))⟩
section
variable {c : Cs} {σ : L2.St} {H : Hp} {i k : Nat} {y : Addr} {D : Dk}
theorem el_want (s : σ[i]? = some (some (.ref y))) (h : IsW c H y k D) : EvL (tW c "wanting" spWanting spWanting i) σ H (vL (D.want k)) := by
  rcases h with ⟨rfl, d, O⟩ | ⟨rfl, d, O⟩
  · have := el_meth (m := "wanting") (E := E0) (vs := []) (ev_var s) O.own.seen.ins (rF_no d D.rf (by decide +kernel)) ea_nil (spl_wanting O.own.seen)
    exact fun H1 e Q q => .inl (this H1 e Q q)
  · have := el_meth (m := "wanting") (E := E0) (vs := []) (ev_var s) O.own.seen.ins (rF_no d D.rh (by decide +kernel)) ea_nil (spl_wanting O.own.seen)
    exact fun H1 e Q q => .inr (this H1 e Q q)
theorem ep_ways (s : σ[i]? = some (some (.ref y))) (h : IsW c H y k D) : EvP (tW c "ways" (fun C => spWays C kF) (fun C => spWays C kH) i) σ H (IsLL (D.ways k)) := by
  rcases h with ⟨rfl, d, O⟩ | ⟨rfl, d, O⟩
  · have := ep_meth (m := "ways") (E := E0) (vs := []) (ev_var s) O.own.seen.ins (rF_no d D.rf (by decide +kernel)) ea_nil (spp_ways O.own O.good)
    exact fun H1 e Q q => .inl (this H1 e Q q)
  · have := ep_meth (m := "ways") (E := E0) (vs := []) (ev_var s) O.own.seen.ins (rF_no d D.rh (by decide +kernel)) ea_nil (spp_ways O.own O.good)
    exact fun H1 e Q q => .inr (this H1 e Q q)
/-- while the list at d is locked: none of the ways is it -/
theorem ep_lockLL {te : TE} {d : Addr} {u : List V} {xss : List (List Nat)} (hd : H d = some (.lst u)) (h : ∀ H1, Ex H H1 → ∀ od, EvP te σ (upd H1 d (.frz od (.lst u))) (IsLL xss)) :
    EvP (tLockE te) σ H (fun v H2 => ∃ (p : Addr) (as : List Addr), v = .ref p ∧ H2 p = some (.lst (as.map V.ref)) ∧ LLs H2 as xss ∧ d ∉ as) := fun H1 e Q q =>
  ⟨d, .lst u, e d _ hd, trivial, fun od => h H1 e od _ (Ex.refl _) _ fun v H2 e2 ⟨p, as, ev, hp, hl⟩ => by
    have hf : H2 d = some (.frz od (.lst u)) := e2 d _ upd_same
    have pd : p ≠ d := fun z => by rw [z, hf] at hp; cases hp
    have nd : d ∉ as := fun z => by
      obtain ⟨j, hj, ej⟩ := List.getElem_of_mem z
      obtain ⟨w, _, r⟩ := Paired.get hl (show as[j]? = some d by rw [List.getElem?_eq_getElem hj, ej])
      rw [hf] at r; cases r
    refine ⟨hf, q v _ (fun b o hb => ?_) ⟨p, as, ev, by rw [upd_ne pd]; exact hp, hl.upd nd, nd⟩⟩
    by_cases cb : b = d
    · subst cb; rw [upd_same]; rw [e b _ hd] at hb; exact hb
    · rw [upd_ne cb]; exact e2 b o (by rw [upd_ne cb]; exact hb)⟩
end
/-! ### a solver's sheet -/
abbrev sSheetOf : Stmt := inClass cDesk 7
abbrev nSheetOf : List Str := ["self", "solver", "riddle", "sheet"]
theorem scSheetOf : FnScope nSheetOf ["self", "solver", "riddle"] (defScope sSheetOf) := ⟨rfl, rfl, rfl, by decide +kernel, rfl, by decide +kernel, by decide +kernel⟩
def spSheetOf (c : Cs) : Sp := fun vs H Q _ => ∃ (x : Addr) (A : DA) (D : Dk) (p k : Nat), vs = [.ref x, vN p, vN k] ∧ OwnD c H x A D ∧
  (∀ (i : Nat) (q : Addr × TA') (t : T) (H' : Hp), Ex H H' → A.ps[i]? = some q → D.ts[i]? = some t → (D.ts.take i).find? (keyT p k) = none → keyT p k t = true → Q (.ref q.1) H') ∧
  (D.ts.find? (keyT p k) = none → ∀ (q : Addr × TA') (H' : Hp), Ex H H' → (∀ z ∈ footT q, H z = none) → OwnT c.S H' q.1 q.2 (tNew p k) → Q (.ref q.1) H')
section
variable {P : Program} {w : World} {K : PySem.W.Frag} {mg : Str → Option Value} {base : Heap} {c : Cs}
theorem ok_sheetOf {f fS : Addr} {fd fdS : FuncData} (F : Fun K "sheet_of" "Desk.sheet_of" sSheetOf f fd) (Dc : DC K c.D) (Tc : TC K c.S) (gS : mg "Sheet" = some (.ref c.S)) (MS : Mk K c.S fS)
    (GS : FnOk P w K mg base CX0 1 fS fdS ["self", "solver", "riddle"] (spInitT c.S)) (BS : Binds K fdS ["self", "solver", "riddle"] []) : FnOk P w K mg base CX0 3 f fd ["self", "solver", "riddle"] (spSheetOf c) := by
  refine F.ok scSheetOf (fun vs H Q E h => ?_) (fun cdv A0 outer s H vs Q E hr h => ?_)
  · obtain ⟨x, A, D, p, k, rfl, _⟩ := h; rfl
  · refine ⟨_, pss_cons (ps_for PassesOwn.never rfl (pi_list (pe_fld (pv 0) rfl)) (pg_name (i := 3) scSheetOf.nd rfl (Or.inl rfl))
        (pss_one (ps_if (PW.pt (pw_and (pt_cmpR op_eq (pe_fld (pv 3) rfl) (pv 1) (nomark _)) (pw_and1 (pt_cmpR op_eq (pe_fld (pv 3) rfl) (pv 2) (nomark _))))) (pss_one (ps_ret (pv 3))) pss_nil)))
      (pss_one (ps_ret (pe_make MS GS hr (by rfl) gS BS .nil pass0 (pa_cons (pv 1) (pa_cons (pv 2) pa_nil))))), ?_⟩
    obtain ⟨x, A, D, p, k, rfl, O, ky, kn⟩ := h
    have hlen := Paired.length O.s
    refine q_forLn (a := A.sa) (xs := A.ps.map fun q => V.ref q.1) (ev_she Dc O (ev_var rfl)) (sq_of O.sa) (fun i σ' H' => ∃ v3 : Option V, σ' = [some (.ref x), some (vN p), some (vN k), v3] ∧ Ex H H' ∧ (D.ts.take i).find? (keyT p k) = none)
      (fun H1 e1 => ⟨none, rfl, e1, rfl⟩) (fun i σ' H' _ ⟨_, _, e, _⟩ => sq_of (e _ _ O.sa)) ?_ ?_
    · rintro i v σ' H1 hi ⟨v3, rfl, e1, hn⟩
      rw [List.getElem?_map] at hi
      cases eq : A.ps[i]? with
      | none => rw [eq] at hi; cases hi
      | some q =>
        rw [eq] at hi
        obtain rfl : v = .ref q.1 := (Option.some.inj hi).symm
        obtain ⟨t, ht, r⟩ := Paired.get O.s eq
        have r1 := r.mono e1
        refine s_when (b := keyT p k t) (et_and (et_test (ev_op (ev_fld (v := vN t.who) (ev_var rfl) r1.ins Tc.cl Tc.n1 (tF_solver _ _)) (ev_var rfl) rv_eqN)) (fun _ => et_test (ev_op (ev_fld (v := vN t.which) (ev_var rfl) r1.ins Tc.cl Tc.n2 (tF_riddle _ _)) (ev_var rfl) rv_eqN))) (fun hb H2 e2 => ?_) (fun hb H2 e2 => ?_)
        · exact s_ret (v := .ref q.1) (ev_var rfl) fun H3 e3 => ky i q t H3 ((e1.trans e2).trans e3) eq ht hn hb
        · refine ⟨_, rfl, e1.trans e2, ?_⟩
          rw [take_more ht, List.find?_append, hn, List.find?_cons, hb]
          rfl
    · rintro σ' H1 ⟨v3, rfl, e1, hn⟩
      rw [List.length_map, hlen, List.take_length] at hn
      refine ⟨_, rfl, _, rfl, fun y dx hy hdx hne => ?_⟩
      have e2 : Ex H1 (upd (upd H1 dx (.own y)) y (.ins c.S dx [])) := (Ex.new hdx).trans (Ex.new (by rw [upd_ne (fun z => hne z.symm)]; exact hy))
      refine ⟨y, dx, p, k, rfl, upd_same, fun H' ma ta k1 OT f1 f2 => ⟨rfl, kn hn (y, ⟨dx, ma, ta⟩) H' (fun b o hb => k1 b o (e2 b o (e1 b o hb)) ?_) (fun z hz => ?_) OT⟩⟩
      · rw [List.mem_singleton]
        intro z; rw [z] at hb; rw [e1 _ _ hb] at hy; cases hy
      · simp only [footT, List.mem_cons, List.not_mem_nil, or_false] at hz
        rcases hz with rfl | rfl | rfl
        · exact fresh_back e1 hy
        · exact fresh_back (e1.trans e2) f1
        · exact fresh_back (e1.trans e2) f2
end
end Rd
set_option linter.all false
set_option maxRecDepth 100000
set_option maxHeartbeats 2000000
namespace Rd
open PySem PySem.Spec PyProof.Rows L2 Evl
/-! ### one sheet changes; a sheet is added -/
section
variable {c : Cs} {H H' : Hp} {x : Addr} {A : DA} {D : Dk}
theorem footT_sub {q : Addr × TA'} (hq : q ∈ A.ps) : ∀ z ∈ footT q, z ∈ footD x A := fun z hz => by
  simp only [footD, List.mem_cons, List.mem_append, List.mem_flatMap]
  exact .inr (.inr (.inr (.inr (.inr ⟨q, hq, hz⟩))))
theorem mata {q : Addr × TA'} : ∀ z ∈ [q.2.ma, q.2.ta], z ∈ footT q := fun z hz => List.mem_cons_of_mem _ hz
theorem OwnD.isWlock (ap : c.Apart) (O : OwnD c H x A D) {q : Addr × TA'} (hq : q ∈ A.ps) {k : Nat} (hk : k < 2) {H1 : Hp} (e : Ex H H1) {o : HO} : IsW c (upd H1 q.2.ta o) (ridA A k) k D := by
  have O1 := O.mono e
  obtain ⟨_, _, _, a4, a5, _⟩ := O.off_p ap hq
  have kk : Kept H1 (upd H1 q.2.ta o) [q.2.ta] := (Kept.of_ex (Ex.refl H1)).set (by simp)
  have ta : q.2.ta ∈ footT q := by simp [footT]
  have : k = 0 ∨ k = 1 := by omega
  rcases this with rfl | rfl
  · exact .inl ⟨rfl, A.df, O1.f.kept kk fun z hz g => a4 z hz (by rw [List.mem_singleton.mp g]; exact ta)⟩
  · exact .inr ⟨rfl, A.dh, O1.h.kept kk fun z hz g => a5 z hz (by rw [List.mem_singleton.mp g]; exact ta)⟩
theorem Paired.set {α β : Type} {R S : α → β → Prop} : ∀ {l : List α} {m : List β} {i : Nat} {a : α} {b : β}, Paired R l m → l[i]? = some a → S a b → (∀ j a' b', j ≠ i → l[j]? = some a' → R a' b' → S a' b') → Paired S l (m.set i b)
  | _, _, i, a, b, .nil, h, _, _ => by simp at h
  | _, _, 0, a, b, .cons r t, h, s, f => by
    obtain rfl := Option.some.inj h
    refine .cons s ?_
    have key : ∀ {l : List α} {m : List β}, Paired R l m → (∀ (j : Nat) a' b', l[j]? = some a' → R a' b' → S a' b') → Paired S l m := by
      intro l m h
      induction h with
      | nil => intro _; exact .nil
      | cons r _ ih => intro f; exact .cons (f 0 _ _ rfl r) (ih fun j a' b' h r => f (j + 1) a' b' h r)
    exact key t fun (j : Nat) a' b' h r => f (j + 1) a' b' (by omega) h r
  | _, _, i + 1, a, b, .cons r t, h, s, f => .cons (f 0 _ _ (by omega) rfl r) (Paired.set t h s fun j a' b' hj h r => f (j + 1) a' b' (by omega) h r)
theorem nodup_at {l : List Addr} (h : l.Nodup) {i j : Nat} {a b : Addr} (hi : l[i]? = some a) (hj : l[j]? = some b) (ne : j ≠ i) : b ≠ a := fun e => by
  subst e
  obtain ⟨h1, e1⟩ := List.getElem?_eq_some_iff.mp hi
  obtain ⟨h2, e2⟩ := List.getElem?_eq_some_iff.mp hj
  exact ne ((List.getElem_inj h).mp (e2.trans e1.symm))
/-- sheet i is now t' -/
theorem OwnD.set (ap : c.Apart) (O : OwnD c H x A D) {i : Nat} {q : Addr × TA'} {t' : T} (hq : A.ps[i]? = some q) (k : Kept H H' [q.2.ma, q.2.ta]) (o : OwnT c.S H' q.1 q.2 t') : OwnD c H' x A { D with ts := D.ts.set i t' } := by
  have hm := List.mem_of_getElem? hq
  obtain ⟨a1, a2, a3, a4, a5, a6⟩ := O.off_p ap hm
  have nf : ∀ {z}, z ∉ footT q → z ∉ [q.2.ma, q.2.ta] := fun h z => h (mata _ z)
  refine ⟨k _ _ O.ins (nf a1), k _ _ O.ra (nf a2), k _ _ O.sa (nf a3), O.f.kept k fun z hz => nf (a4 z hz), O.h.kept k fun z hz => nf (a5 z hz), ?_, O.sep⟩
  refine Paired.set O.s hq o fun j p t hj hp r => r.kept k fun z hz => nf (a6 p (List.mem_of_getElem? hp) ?_ z hz)
  have h1 : (A.ps.map (·.1))[i]? = some q.1 := by rw [List.getElem?_map, hq]; rfl
  have h2 : (A.ps.map (·.1))[j]? = some p.1 := by rw [List.getElem?_map, hp]; rfl
  exact nodup_at O.sep.one h1 h2 hj
/-- a sheet is put behind the others -/
theorem OwnD.add (ap : c.Apart) (O : OwnD c H x A D) {q : Addr × TA'} {t : T} (o : OwnT c.S H q.1 q.2 t) (hf : ∀ z ∈ footT q, z ∉ footD x A) : OwnD c (upd H A.sa (.lst ((A.ps.map fun p => V.ref p.1) ++ [.ref q.1]))) x { A with ps := A.ps ++ [q] } { D with ts := D.ts ++ [t] } := by
  obtain ⟨b1, b2, b3⟩ := O.off_x ap
  have kk : Kept H (upd H A.sa (.lst ((A.ps.map fun p => V.ref p.1) ++ [.ref q.1]))) [A.sa] := (Kept.of_ex (Ex.refl H)).set (by simp)
  have ns : ∀ {y : Addr}, y ≠ A.sa → y ∉ [A.sa] := fun h z => h (List.mem_singleton.mp z)
  have sF := (O.off_f ap).2.2.1
  have sH := (O.off_h ap).2.2.1
  have sa_in : A.sa ∈ footD x A := by simp [footD]
  have s_q : ∀ z ∈ footT q, z ≠ A.sa := fun z hz e => hf z hz (e ▸ sa_in)
  obtain ⟨ow, w1, w2, w3, w4, w5, w6⟩ := O.sep.ow
  have there : ∀ {z}, z ∈ footD x A → z ∉ footT q := fun h g => hf _ g h
  refine ⟨kk _ _ O.ins (ns fun z => b2 z.symm), kk _ _ O.ra (ns b3), ?_, O.f.kept kk fun z hz => ns fun e => sF (e ▸ hz), O.h.kept kk fun z hz => ns fun e => sH (e ▸ hz), ?_, ⟨⟨fun z => if z ∈ footT q then q.1 else ow z, ?_, ?_, ?_, ?_, ?_, ?_⟩, ?_, O.sep.rs⟩⟩
  · rw [upd_same, List.map_append]; rfl
  · refine Paired.snoc ?_ (o.kept kk fun z hz => ns (s_q z hz))
    have key : ∀ {ps : List (Addr × TA')} {ts : List T}, (∀ p ∈ ps, p ∈ A.ps) → Paired (fun (p : Addr × TA') (t : T) => OwnT c.S H p.1 p.2 t) ps ts → Paired (fun (p : Addr × TA') (t : T) => OwnT c.S (upd H A.sa (.lst ((A.ps.map fun p => V.ref p.1) ++ [.ref q.1]))) p.1 p.2 t) ps ts := by
      intro ps ts hs hp
      induction hp with
      | nil => exact .nil
      | cons r _ ih => exact .cons (r.kept kk fun z hz => ns fun e => (O.off_p ap (hs _ List.mem_cons_self)).2.2.1 (e ▸ hz)) (ih fun p hp => hs p (List.mem_cons_of_mem _ hp))
    exact key (fun _ h => h) O.s
  · simp only []; rw [if_neg (there (by simp [footD]))]; exact w1
  · simp only []; rw [if_neg (there (by simp [footD]))]; exact w2
  · simp only []; rw [if_neg (there sa_in)]; exact w3
  · intro z hz; simp only []; rw [if_neg (there (by simp only [footD, List.mem_cons, List.mem_append]; exact .inr (.inr (.inr (.inl hz)))))]; exact w4 z hz
  · intro z hz; simp only []; rw [if_neg (there (by simp only [footD, List.mem_cons, List.mem_append]; exact .inr (.inr (.inr (.inr (.inl hz))))))]; exact w5 z hz
  · intro p hp z hz
    simp only []
    rcases List.mem_append.mp hp with h | h
    · rw [if_neg (there (footT_sub h z hz))]; exact w6 p h z hz
    · rw [List.mem_singleton] at h
      subst h
      rw [if_pos hz]
  · show ((A.ps ++ [q]).map (·.1)).Nodup
    rw [List.map_append, List.nodup_append]
    refine ⟨O.sep.one, by simp, fun a ha b hb e => ?_⟩
    simp at hb
    subst hb
    obtain ⟨p, hp, rfl⟩ := List.mem_map.mp ha
    exact hf q.1 (by simp [footT]) (footT_sub hp _ (by rw [← e]; simp [footT]))
theorem foot_add {q : Addr × TA'} : ∀ z ∈ footD x { A with ps := A.ps ++ [q] }, z ∈ footD x A ∨ z ∈ footT q := fun z hz => by
  simp only [footD, List.mem_cons, List.mem_append, List.flatMap_append, List.flatMap_cons, List.flatMap_nil, List.append_nil] at hz ⊢
  rcases hz with hz | hz | hz | hz | hz | hz | hz
  · exact .inl (.inl hz)
  · exact .inl (.inr (.inl hz))
  · exact .inl (.inr (.inr (.inl hz)))
  · exact .inl (.inr (.inr (.inr (.inl hz))))
  · exact .inl (.inr (.inr (.inr (.inr (.inl hz)))))
  · exact .inl (.inr (.inr (.inr (.inr (.inr hz)))))
  · exact .inr hz
end
/-! ### a mark at the desk -/
abbrev sMarkD : Stmt := inClass cDesk 8
abbrev nMarkD : List Str := ["self", "riddle", "sheet", "cell", "sign"]
theorem scMarkD : FnScope nMarkD ["self", "riddle", "sheet", "cell", "sign"] (defScope sMarkD) := ⟨rfl, rfl, rfl, by decide +kernel, rfl, by decide +kernel, by decide +kernel⟩
def putI (ts : List T) (i : Option Nat) (t : T) : List T := match i with
  | some i => ts.set i t
  | none => ts ++ [t]
def markTo (D : Dk) (k cell sign : Nat) (i : Option Nat) (t : T) : Dk × List Int :=
  if (!(D.want k).contains cell || ![1, 2].contains sign) = true then (D, [-1]) else ({ D with ts := putI D.ts i (markA (D.ways k) t cell sign).1 }, (markA (D.ways k) t cell sign).2)
def SheetAt (c : Cs) (H : Hp) (x : Addr) (A : DA) (D : Dk) (q : Addr × TA') (t : T) : Option Nat → Prop
  | some i => A.ps[i]? = some q ∧ D.ts[i]? = some t ∧ 0 < begunT t
  | none => OwnT c.S H q.1 q.2 t ∧ begunT t = 0 ∧ ∀ z ∈ footT q, z ∉ footD x A
theorem SheetAt.own {c : Cs} {H : Hp} {x : Addr} {A : DA} {D : Dk} {q : Addr × TA'} {t : T} {i : Option Nat} (O : OwnD c H x A D) (h : SheetAt c H x A D q t i) : OwnT c.S H q.1 q.2 t := by
  cases i with
  | none => exact h.1
  | some i =>
    obtain ⟨b, hb, r⟩ := Paired.get O.s h.1
    rw [h.2.1] at hb
    obtain rfl := Option.some.inj hb
    exact r
def spMarkD (c : Cs) : Sp := fun vs H Q _ => ∃ (x : Addr) (A : DA) (D : Dk) (k cell sign : Nat) (q : Addr × TA') (t : T) (i : Option Nat), vs = [.ref x, .ref (ridA A k), .ref q.1, vN cell, vN sign] ∧ OwnD c H x A D ∧ k < 2 ∧ SheetAt c H x A D q t i ∧ D.ts.length ≤ 59 ∧ t.marks.length ≤ 59 ∧
  ∀ (H' : Hp) (A' : DA) (z : Addr), Kept H H' (footD x A ++ footT q) → OwnD c H' x A' (markTo D k cell sign i t).1 → (∀ z ∈ footD x A', z ∈ footD x A ∨ z ∈ footT q) → H' z = some (.lst ((markTo D k cell sign i t).2.map V.int)) → Q (.ref z) H'
section
variable {P : Program} {w : World} {K : PySem.W.Frag} {mg : Str → Option Value} {base : Heap} {c : Cs}
theorem ok_markD {f : Addr} {fd : FuncData} (F : Fun K "mark" "Desk.mark" sMarkD f fd) (Dc : DC K c.D) (Tc : TC K c.S) (ap : c.Apart) (cf : Cls K c.F) (ch : Cls K c.H) (c1 : KInt mg "BAD_VALUE" (-1)) (s1 : KInt mg "THERE_IS" 1) (s2 : KInt mg "THERE_IS_NONE" 2)
    (wF : Mt P w K mg base c.F 2 "wanting" ["self"] (spWanting c.F)) (wH : Mt P w K mg base c.H 2 "wanting" ["self"] (spWanting c.H)) (yF : Mt P w K mg base c.F 5 "ways" ["self"] (spWays c.F kF)) (yH : Mt P w K mg base c.H 5 "ways" ["self"] (spWays c.H kH))
    (mB : Mt P w K mg base c.S 1 "has_begun" ["self"] (spHasB c.S)) (mM : Mt P w K mg base c.S 3 "mark" ["self", "ways", "cell", "sign"] (spMarkS c.S)) : FnOk P w K mg base CX0 6 f fd ["self", "riddle", "sheet", "cell", "sign"] (spMarkD c) := by
  refine F.ok scMarkD (fun vs H Q E h => ?_) (fun cdv A0 outer s H vs Q E hr h => ?_)
  · obtain ⟨x, A, D, k, cell, sign, q, t, i, rfl, _⟩ := h; rfl
  · obtain ⟨f1, fd1, M1, G1, B1⟩ := wF
    obtain ⟨f2, fd2, M2, G2, B2⟩ := wH
    obtain ⟨f3, fd3, M3, G3, B3⟩ := yF
    obtain ⟨f4, fd4, M4, G4, B4⟩ := yH
    obtain ⟨f5, fd5, M5, G5, B5⟩ := mB
    obtain ⟨f6, fd6, M6, G6, B6⟩ := mM
    obtain ⟨t1, c1⟩ := c1
    obtain ⟨u1, s1⟩ := s1
    obtain ⟨u2, s2⟩ := s2
    refine ⟨_, pss_cons (ps_if (PW.pt (pw_or (pt_cmpR op_notIn_seq (pv 3) (pe_or (pe_meth0 (pv 1) cf M1 G1 (hr.mono (by decide)) B1 .nil pass0) (pe_meth0 (pv 1) ch M2 G2 (hr.mono (by decide)) B2 .nil pass0)) (by rfl))
          (pw_or1 (pt_cmpR op_notIn_seq (pv 4) (pe_tup (pa_cons (pe_glob (v := .int 1) rfl s1 ⟨_, rfl⟩) (pa_cons (pe_glob (v := .int 2) rfl s2 ⟨_, rfl⟩) pa_nil))) (by rfl)))))
        (pss_one (ps_ret (pe_lst (pa_cons (pe_glob (v := .int (-1)) rfl c1 ⟨_, rfl⟩) pa_nil)))) pss_nil)
      (pss_cut (ps_if (pt_not (pt_val (pe_meth0 (pv 2) Tc.cl M5 G5 (hr.mono (by decide)) B5 .nil pass0))) (pss_one (ps_expr (pe_bm PySem.F.plainAttrs_list PySem.F.slot_list_append PySem.F.type_list_append mt_append (pe_fld (pv 0) rfl) (pa_cons (pv 2) pa_nil)))) pss_nil)
      (pss_one (ps_ret (pe_meth (pv 2) Tc.cl M6 G6 (hr.mono (by decide)) B6 .nil pass0 (pa_cons (pe_lock (pe_or (pe_meth0 (pv 1) cf M3 G3 hr B3 .nil pass0) (pe_meth0 (pv 1) ch M4 G4 hr B4 .nil pass0))) (pa_cons (pv 3) (pa_cons (pv 4) pa_nil))))))), ?_⟩
    obtain ⟨x, A, D, k, cell, sign, q, t, i, rfl, O, hk, hs, h59, hm59, kk⟩ := h
    have W := O.isW hk
    obtain ⟨wl, yl⟩ := W.len
    unfold markTo at kk
    refine q_when (b := (!(D.want k).contains cell || ![1, 2].contains sign)) (et_or (et_test (ev_is (ev_opL (x := vN cell) (ev_var rfl) (el_want rfl W) fun p H1 hp _ => rv_niL (sq_of hp) rfl (flat_vL _)) (by rw [inV_vL]))) (fun _ => et_test (ev_is (ev_niU (x := vN sign) (xs := vL [1, 2]) (ev_var rfl) (eu_tup (ea_cons ev_c (ea_cons ev_c ea_nil)) (by show 2 ≤ 100000; decide)) rfl (flat_vL _)) (by rw [inV_vL])))) (fun hb H1 e1 => ?_) (fun hb H1 e1 => ?_)
    · rw [if_pos hb] at kk
      exact s_retL (el_lst (ea_cons ev_c ea_nil) (by show 1 ≤ 100000; decide)) fun z H2 _ e2 h2 => kk H2 A z (.of_ex (e1.trans e2)) (O.mono (e1.trans e2)) (fun z hz => .inl hz) h2
    rw [if_neg (by rw [hb]; decide)] at kk
    have O1 := O.mono e1
    have OT := hs.own O
    refine q_cut (M := fun σ' H' => σ' = [some (.ref x), some (.ref (ridA A k)), some (.ref q.1), some (vN cell), some (vN sign)] ∧ ∃ (A1 : DA) (D1 : Dk) (j : Nat), OwnD c H' x A1 D1 ∧ ridA A1 k = ridA A k ∧ A1.ps[j]? = some q ∧ D1.ts[j]? = some t ∧ D1.rf = D.rf ∧ D1.rh = D.rh ∧
      { D1 with ts := D1.ts.set j (markA (D.ways k) t cell sign).1 } = { D with ts := putI D.ts i (markA (D.ways k) t cell sign).1 } ∧ Kept H H' (footD x A ++ footT q) ∧ ∀ z ∈ footD x A1, z ∈ footD x A ∨ z ∈ footT q) ?_ ?_
    · refine s_when (b := !decide (0 < begunT t)) (et_not (et_test (ev_meth (m := "has_begun") (vs := []) (ev_var rfl) (OT.mono e1).ins (tF_no _ _ (by decide +kernel)) ea_nil (fun H2 e2 Q q2 E => ⟨q.1, q.2, t, rfl, OT.mono (e1.trans e2), q2⟩)))) (fun hb2 H2 e2 => ?_) (fun hb2 H2 e2 => ?_)
      · have hb2 : ¬ 0 < begunT t := by simpa using hb2
        cases i with
        | some i => exact absurd hs.2.2 hb2
        | none =>
          have O2 := O1.mono e2
          refine s_app (l := A.sa) (xs := A.ps.map fun p => V.ref p.1) (v := .ref q.1) O2.sa (ev_she Dc O2 (ev_var rfl)) (ev_var rfl) (by rw [List.length_map, Paired.length O.s]; omega) fun H3 e3 => ?_
          have e13 := (e1.trans e2).trans e3
          refine ⟨rfl, { A with ps := A.ps ++ [q] }, { D with ts := D.ts ++ [t] }, D.ts.length, (O.mono e13).add ap (OT.mono e13) hs.2.2, rfl, ?_, by simp, rfl, rfl, ?_, ?_, foot_add⟩
          · show (A.ps ++ [q])[D.ts.length]? = some q
            rw [← Paired.length O.s]; simp
          · show ({ D with ts := (D.ts ++ [t]).set D.ts.length (markA (D.ways k) t cell sign).1 } : Dk) = _
            rw [List.set_append_right _ _ (Nat.le_refl _), Nat.sub_self]
            rfl
          · exact (Kept.of_ex e13).set (List.mem_append_left _ (by simp [footD]))
      · have hb2 : 0 < begunT t := by simpa using hb2
        cases i with
        | none => exact absurd hs.2.1 (by omega)
        | some i => exact ⟨rfl, A, D, i, O1.mono e2, rfl, hs.1, hs.2.1, rfl, rfl, rfl, .of_ex (e1.trans e2), fun z hz => .inl hz⟩
    · rintro σ' H2 ⟨rfl, A1, D1, j, O2, hrid, hp, ht, hrf, hrh, hD, k2, hf⟩
      have hm := List.mem_of_getElem? hp
      have OT2 : OwnT c.S H2 q.1 q.2 t := by
        obtain ⟨b, hb, r⟩ := Paired.get O2.s hp
        rw [ht] at hb
        obtain rfl := Option.some.inj hb
        exact r
      have hways : D1.ways k = D.ways k := by unfold Dk.ways; rw [hrf, hrh]
      refine ⟨_, rfl, q.1, q.2.dx, tF t q.2, rfl, OT2.ins, tF_no t q.2 (by decide +kernel), ?_⟩
      refine ep_lockLL (xss := D.ways k) OT2.ta (fun H3 e3 od => ?_) H2 (Ex.refl H2) _ fun v H3 e3 ⟨p, as, ev, hpp, hll, hnn⟩ => ⟨_, rfl, _, rfl, ?_⟩
      · rw [← hways, ← hrid]
        exact ep_ways (D := D1) rfl (O2.isWlock ap hm hk e3)
      · subst ev
        refine ⟨q.1, p, q.2, t, as, D.ways k, cell, sign, rfl, OT2.mono e3, hpp, hll, hnn, yl, hm59, fun H4 z k4 O4 h4 => ?_⟩
        have O5 := (O2.mono e3).set ap hp k4 O4
        rw [hD] at O5
        refine kk H4 A1 z ((k2.ex e3).trans (k4.sub fun y hy => List.mem_append_right _ (mata y hy))) O5 hf h4
end
end Rd
set_option linter.all false
set_option maxRecDepth 100000
set_option maxHeartbeats 2000000
namespace Rd
open PySem PySem.Spec PyProof.Rows L2 Evl
/-! ### a call of a sheet -/
structure BndD (D : Dk) (n : Nat) : Prop where
  len : D.ts.length ≤ n
  marks : ∀ t ∈ D.ts, t.marks.length ≤ n
  begun : ∀ t ∈ D.ts, 0 < begunT t
  two : ∀ t ∈ D.ts, t.which < 2
  who : ∀ t ∈ D.ts, t.who < D.sol
  s1 : 1 ≤ D.sol
  s4 : D.sol ≤ 4
def rubTo (D : Dk) (cell : Nat) (i : Option Nat) (t : T) : Dk × List Int := match i with
  | some i => ({ D with ts := D.ts.set i (rubA t cell).1 }, (rubA t cell).2)
  | none => (D, (rubA t cell).2)
def arg (cc : CC) (i : Nat) : Nat := cc.2.getD i 0
def ofSheet2 (D : Dk) (cn : Nat) (tl : List Nat) (i : Option Nat) (t : T) : Dk × List Int :=
  if cn = 6 then markTo D (tl.getD 1 0) (tl.getD 2 0) (tl.getD 3 0) i t
  else if cn = 7 then rubTo D (tl.getD 2 0) i t
  else if cn = 8 then (D, nextA (D.ways (tl.getD 1 0)) (D.want (tl.getD 1 0)) t)
  else if cn = 9 then (D, shownA t)
  else (D, doneA (D.ways (tl.getD 1 0)) (D.want (tl.getD 1 0)) t)
def ofSheet (D : Dk) (cc : CC) : Dk × List Int :=
  if (decide (D.sol ≤ arg cc 0) || decide (2 ≤ arg cc 1)) = true then (D, [-2])
  else ofSheet2 D cc.1 cc.2 (D.ts.findIdx? (keyT (arg cc 0) (arg cc 1))) (sheetT D.ts (arg cc 0) (arg cc 1))
abbrev sOfSheet : Stmt := inClass cDesk 5
abbrev nOfSheet : List Str := ["self", "call", "told", "riddle", "sheet"]
theorem scOfSheet : FnScope nOfSheet ["self", "call", "told"] (defScope sOfSheet) := ⟨rfl, rfl, rfl, by decide +kernel, rfl, by decide +kernel, by decide +kernel⟩
def spOfSheet (c : Cs) : Sp := fun vs H Q _ => ∃ (x l : Addr) (A : DA) (D : Dk) (cc : CC), vs = [.ref x, vN cc.1, .ref l] ∧ OwnD c H x A D ∧ H l = some (.lst (vL cc.2)) ∧ 6 ≤ cc.1 ∧ cc.1 ≤ 10 ∧ wantC.lookup cc.1 = some cc.2.length ∧ BndD D 59 ∧ AftD c H x A (ofSheet D cc).1 (ofSheet D cc).2 Q
theorem find_at {ts : List T} {p k i : Nat} {t : T} (h1 : ts[i]? = some t) (h2 : (ts.take i).find? (keyT p k) = none) (h3 : keyT p k t = true) : ts.findIdx? (keyT p k) = some i ∧ sheetT ts p k = t := by
  obtain ⟨hi, e⟩ := List.getElem?_eq_some_iff.mp h1
  constructor
  · rw [List.findIdx?_eq_some_iff_getElem]
    refine ⟨hi, by rw [e]; exact h3, fun j hj => ?_⟩
    rw [List.find?_eq_none] at h2
    have := h2 ts[j] (by
      have : (ts.take i)[j]? = some ts[j] := by rw [List.getElem?_take, if_pos hj, List.getElem?_eq_getElem]
      exact List.mem_of_getElem? this)
    exact this
  · have hf : ts.find? (keyT p k) = some t := by
      conv => lhs; rw [← List.take_append_drop i ts]
      rw [List.find?_append, h2, List.drop_eq_getElem_cons hi, e, List.find?_cons, h3]
      rfl
    unfold sheetT
    rw [hf]
    rfl
theorem find_no {ts : List T} {p k : Nat} (h : ts.find? (keyT p k) = none) : ts.findIdx? (keyT p k) = none ∧ sheetT ts p k = tNew p k := by
  constructor
  · rw [List.findIdx?_eq_none_iff]
    intro x hx
    rw [List.find?_eq_none] at h
    have := h x hx
    simpa using this
  · unfold sheetT; rw [h]; rfl
section
variable {c : Cs} {H H' : Hp} {x : Addr} {A : DA} {D : Dk}
theorem OwnD.kept (O : OwnD c H x A D) {xs : List Addr} (k : Kept H H' xs) (hx : ∀ z ∈ footD x A, z ∉ xs) : OwnD c H' x A D := by
  have i1 : ∀ {z}, z ∈ footR A.fa A.df → z ∈ footD x A := fun h => by simp only [footD, List.mem_cons, List.mem_append]; exact .inr (.inr (.inr (.inl h)))
  have i2 : ∀ {z}, z ∈ footR A.ha A.dh → z ∈ footD x A := fun h => by simp only [footD, List.mem_cons, List.mem_append]; exact .inr (.inr (.inr (.inr (.inl h))))
  refine ⟨k _ _ O.ins (hx _ (by simp [footD])), k _ _ O.ra (hx _ (by simp [footD])), k _ _ O.sa (hx _ (by simp [footD])), O.f.kept k fun z hz => hx z (i1 hz), O.h.kept k fun z hz => hx z (i2 hz), ?_, O.sep⟩
  have key : ∀ {ps : List (Addr × TA')} {ts : List T}, (∀ p ∈ ps, p ∈ A.ps) → Paired (fun (p : Addr × TA') (t : T) => OwnT c.S H p.1 p.2 t) ps ts → Paired (fun (p : Addr × TA') (t : T) => OwnT c.S H' p.1 p.2 t) ps ts := by
    intro ps ts hs hp
    induction hp with
    | nil => exact .nil
    | cons r _ ih => exact .cons (r.kept k fun z hz => hx z (footT_sub (hs _ List.mem_cons_self) z hz)) (ih fun p hp => hs p (List.mem_cons_of_mem _ hp))
  exact key (fun _ h => h) O.s
/-- the sheet that a call names, in the heap -/
structure Named (c : Cs) (H : Hp) (x : Addr) (A : DA) (D : Dk) (p k : Nat) (H' : Hp) (q : Addr × TA') : Prop where
  at_ : SheetAt c H' x A D q (sheetT D.ts p k) (D.ts.findIdx? (keyT p k))
  foot : ∀ z ∈ footT q, z ∈ footD x A ∨ H z = none
theorem Named.kept {p k : Nat} {H0 : Hp} {q : Addr × TA'} (n : Named c H x A D p k H0 q) {H1 : Hp} (e : Ex H H1) (kk : Kept H1 H' (footD x A ++ footT q)) : Kept H H' (footD x A) := fun b o hb hn => kk b o (e b o hb) fun z => by
  rcases List.mem_append.mp z with h | h
  · exact hn h
  · rcases n.foot b h with g | g
    · exact hn g
    · rw [g] at hb; cases hb
theorem Named.mono {p k : Nat} {H1 H2 : Hp} {q : Addr × TA'} (e : Ex H1 H2) (n : Named c H x A D p k H1 q) : Named c H x A D p k H2 q := by
  refine ⟨?_, n.foot⟩
  have := n.at_
  cases h : D.ts.findIdx? (keyT p k) with
  | some i => rw [h] at this; exact this
  | none => rw [h] at this; exact ⟨this.1.mono e, this.2⟩
end
section
variable {P : Program} {w : World} {K : PySem.W.Frag} {mg : Str → Option Value} {base : Heap} {c : Cs}
theorem ep_sheetOf {σ : L2.St} {H : Hp} {x : Addr} {A : DA} {D : Dk} {p k : Nat} {ta tb tc : TE} {E : XK} (O : OwnD c H x A D) (B : BndD D 59) (h1 : Ev ta σ H (.ref x)) (h2 : Ev tb σ H (vN p)) (h3 : Ev tc σ H (vN k)) :
    EvP (tMeth c.D "sheet_of" (spSheetOf c) [] E ta (tCons tb (tCons tc tNil))) σ H (fun v H' => ∃ q, v = .ref q.1 ∧ Named c H x A D p k H' q) :=
  ep_meth (m := "sheet_of") (vs := [vN p, vN k]) h1 O.ins (dF_no _ _ _ (by decide +kernel)) (ea_cons h2 (ea_cons h3 ea_nil)) (fun H1 e Q q E => ⟨x, A, D, p, k, rfl, O.mono e, fun i s t H2 e2 hs ht hf hk => q _ H2 e2 ⟨s, rfl, by
    obtain ⟨g1, g2⟩ := find_at ht hf hk
    rw [g1, g2]
    exact ⟨hs, ht, B.begun _ (List.mem_of_getElem? ht)⟩, fun z hz => .inl (footT_sub (List.mem_of_getElem? hs) z hz)⟩, fun hf s H2 e2 hn o => q _ H2 e2 ⟨s, rfl, by
    obtain ⟨g1, g2⟩ := find_no hf
    rw [g1, g2]
    exact ⟨o, rfl, fun z hz g => (O.mono e).there z g (hn z hz)⟩, fun z hz => .inr (fresh_back e (hn z hz))⟩⟩)
theorem s_retG {σ : L2.St} {H : Hp} {C dx x : Addr} {fs : List (Str × V)} {ta : TE} {ts : TA} {Dn : Ends} {E : XK} {m : Str} {sp : Sp} {vs : List V} (h : Ev ta σ H (.ref x)) (ho : H x = some (.ins C dx fs)) (hm : fs.lookup m = none) (ha : EvA ts σ H vs)
    (k : ∀ H1, Ex H H1 → sp (.ref x :: (vs ++ [])) H1 Dn.rt E) : tRet (tMeth C m sp [] E ta ts) Dn σ H := h H (Ex.refl H) _ fun H1 e1 => ⟨x, dx, fs, rfl, e1 _ _ ho, hm, ha H1 e1 _ fun H2 e2 => k H2 (e1.trans e2)⟩
theorem s_retWW {σ : L2.St} {H : Hp} {q : Addr × TA'} {t : T} {y : Addr} {k : Nat} {D : Dk} {Dn : Ends} {E : XK} {m : Str} {ans : List (List Nat) → List Nat → T → List Int} (OT : OwnT c.S H q.1 q.2 t) (W : IsW c H y k D) (hm : (["solver", "riddle", "marks", "told"] : List Str).all (fun f => !(m == f)) = true) (s4 : σ[4]? = some (some (.ref q.1))) (s3 : σ[3]? = some (some (.ref y)))
    (kk : ∀ (H1 : Hp) (z : Addr), Ex H H1 → H1 z = some (.lst ((ans (D.ways k) (D.want k) t).map V.int)) → Dn.rt (.ref z) H1) :
    tRet (tMeth c.S m (spWW c.S ans) [] E (tVar 4) (tCons (tW c "ways" (fun C => spWays C kF) (fun C => spWays C kH) 3) (tCons (tW c "wanting" spWanting spWanting 3) tNil))) Dn σ H :=
  ⟨_, s4, q.1, q.2.dx, _, rfl, OT.ins, tF_no _ _ hm, ep_ways s3 W H (Ex.refl H) _ fun v H1 e1 ⟨p, as, ev, hp, hl⟩ => el_want s3 (W.mono e1) H1 (Ex.refl H1) _ fun wq H2 _ e2 h2 => by
    subst ev
    have ln := W.len
    exact ⟨q.1, p, wq, q.2, t, as, D.ways k, D.want k, rfl, OT.mono (e1.trans e2), e2 _ _ hp, hl.mono e2, ln.2, h2, ln.1, fun z H3 _ e3 h3 => kk H3 z ((e1.trans e2).trans e3) h3⟩⟩
theorem ok_ofSheet {f : Addr} {fd : FuncData} (F : Fun K "of_sheet" "Desk.of_sheet" sOfSheet f fd) (Dc : DC K c.D) (Tc : TC K c.S) (ap : c.Apart) (cf : Cls K c.F) (ch : Cls K c.H) (gL : mg "len" = none) (c2 : KInt mg "NO_SUCH" (-2)) (c6 : KInt mg "MARK_CALL" 6) (c7 : KInt mg "RUB_CALL" 7) (c8 : KInt mg "NEXT_CALL" 8) (c9 : KInt mg "SHEET_CALL" 9)
    (wF : Mt P w K mg base c.F 2 "wanting" ["self"] (spWanting c.F)) (wH : Mt P w K mg base c.H 2 "wanting" ["self"] (spWanting c.H)) (yF : Mt P w K mg base c.F 5 "ways" ["self"] (spWays c.F kF)) (yH : Mt P w K mg base c.H 5 "ways" ["self"] (spWays c.H kH))
    (mS : Mt P w K mg base c.D 3 "sheet_of" ["self", "solver", "riddle"] (spSheetOf c)) (mM : Mt P w K mg base c.D 6 "mark" ["self", "riddle", "sheet", "cell", "sign"] (spMarkD c)) (mR : Mt P w K mg base c.S 1 "rub" ["self", "cell"] (spRub c.S))
    (mN : Mt P w K mg base c.S 3 "next_sure" ["self", "ways", "wanting"] (spWW c.S nextA)) (mH : Mt P w K mg base c.S 2 "shown" ["self"] (spShown c.S)) (mD : Mt P w K mg base c.S 3 "done" ["self", "ways", "wanting"] (spWW c.S doneA)) :
    FnOk P w K mg base CX0 7 f fd ["self", "call", "told"] (spOfSheet c) := by
  refine F.ok scOfSheet (fun vs H Q E h => ?_) (fun cdv A0 outer s H vs Q E hr h => ?_)
  · obtain ⟨x, l, A, D, cc, rfl, _⟩ := h; rfl
  · obtain ⟨f1, fd1, M1, G1, B1⟩ := wF
    obtain ⟨f2, fd2, M2, G2, B2⟩ := wH
    obtain ⟨f3, fd3, M3, G3, B3⟩ := yF
    obtain ⟨f4, fd4, M4, G4, B4⟩ := yH
    obtain ⟨f5, fd5, M5, G5, B5⟩ := mS
    obtain ⟨f6, fd6, M6, G6, B6⟩ := mM
    obtain ⟨f7, fd7, M7, G7, B7⟩ := mR
    obtain ⟨f8, fd8, M8, G8, B8⟩ := mN
    obtain ⟨f9, fd9, M9, G9, B9⟩ := mH
    obtain ⟨f10, fd10, M10, G10, B10⟩ := mD
    obtain ⟨t2, c2⟩ := c2
    obtain ⟨t6, c6⟩ := c6
    obtain ⟨t7, c7⟩ := c7
    obtain ⟨t8, c8⟩ := c8
    obtain ⟨t9, c9⟩ := c9
    refine ⟨_, pss_cons (ps_if (PW.pt (pw_or (pt_cmpR op_ge (pe_ix ix_list (pv 2) pe_int (fun _ _ => rfl)) (pe_fld (pv 0) rfl) (nomark _)) (pw_or1 (pt_cmpR op_ge (pe_ix ix_list (pv 2) pe_int (fun _ _ => rfl)) (pe_callB call_len_seq (by rfl) gL PySem.boot_len (pa_cons (pe_fld (pv 0) rfl) pa_nil)) (nomark _)))))
        (pss_one (ps_ret (pe_lst (pa_cons (pe_glob (v := .int (-2)) rfl c2 ⟨_, rfl⟩) pa_nil)))) pss_nil)
      (pss_cons (ps_set (i := 3) scOfSheet.nd rfl (Or.inl rfl) (pe_ix ix_list (pe_fld (pv 0) rfl) (pe_ix ix_list (pv 2) pe_int (fun _ _ => rfl)) (fun _ _ => rfl)))
      (pss_cons (ps_set (i := 4) scOfSheet.nd rfl (Or.inl rfl) (pe_meth (pv 0) Dc.cl M5 G5 (hr.mono (by decide)) B5 .nil pass0 (pa_cons (pe_ix ix_list (pv 2) pe_int (fun _ _ => rfl)) (pa_cons (pe_ix ix_list (pv 2) pe_int (fun _ _ => rfl)) pa_nil))))
      (pss_cons (ps_if (pt_cmpR op_eq (pv 1) (pe_glob (v := .int 6) rfl c6 ⟨_, rfl⟩) (nomark _)) (pss_one (ps_ret (pe_meth (pv 0) Dc.cl M6 G6 hr B6 .nil pass0 (pa_cons (pv 3) (pa_cons (pv 4) (pa_cons (pe_ix ix_list (pv 2) pe_int (fun _ _ => rfl)) (pa_cons (pe_ix ix_list (pv 2) pe_int (fun _ _ => rfl)) pa_nil))))))) pss_nil)
      (pss_cons (ps_if (pt_cmpR op_eq (pv 1) (pe_glob (v := .int 7) rfl c7 ⟨_, rfl⟩) (nomark _)) (pss_one (ps_ret (pe_meth (pv 4) Tc.cl M7 G7 (hr.mono (by decide)) B7 .nil pass0 (pa_cons (pe_ix ix_list (pv 2) pe_int (fun _ _ => rfl)) pa_nil)))) pss_nil)
      (pss_cons (ps_if (pt_cmpR op_eq (pv 1) (pe_glob (v := .int 8) rfl c8 ⟨_, rfl⟩) (nomark _)) (pss_one (ps_ret (pe_meth (pv 4) Tc.cl M8 G8 (hr.mono (by decide)) B8 .nil pass0 (pa_cons (pe_or (pe_meth0 (pv 3) cf M3 G3 (hr.mono (by decide)) B3 .nil pass0) (pe_meth0 (pv 3) ch M4 G4 (hr.mono (by decide)) B4 .nil pass0)) (pa_cons (pe_or (pe_meth0 (pv 3) cf M1 G1 (hr.mono (by decide)) B1 .nil pass0) (pe_meth0 (pv 3) ch M2 G2 (hr.mono (by decide)) B2 .nil pass0)) pa_nil))))) pss_nil)
      (pss_cons (ps_if (pt_cmpR op_eq (pv 1) (pe_glob (v := .int 9) rfl c9 ⟨_, rfl⟩) (nomark _)) (pss_one (ps_ret (pe_meth0 (pv 4) Tc.cl M9 G9 (hr.mono (by decide)) B9 .nil pass0))) pss_nil)
      (pss_one (ps_ret (pe_meth (pv 4) Tc.cl M10 G10 (hr.mono (by decide)) B10 .nil pass0 (pa_cons (pe_or (pe_meth0 (pv 3) cf M3 G3 (hr.mono (by decide)) B3 .nil pass0) (pe_meth0 (pv 3) ch M4 G4 (hr.mono (by decide)) B4 .nil pass0)) (pa_cons (pe_or (pe_meth0 (pv 3) cf M1 G1 (hr.mono (by decide)) B1 .nil pass0) (pe_meth0 (pv 3) ch M2 G2 (hr.mono (by decide)) B2 .nil pass0)) pa_nil))))))))))), ?_⟩
    obtain ⟨x, l, A, D, ⟨cn, tl⟩, rfl, O, hl, h6, h10, hw, B, k⟩ := h
    have hl2 : 2 ≤ tl.length := by
      have hw' : wantC.lookup cn = some tl.length := hw
      have : cn = 6 ∨ cn = 7 ∨ cn = 8 ∨ cn = 9 ∨ cn = 10 := by have h6 : 6 ≤ cn := h6; have h10 : cn ≤ 10 := h10; omega
      rcases this with rfl | rfl | rfl | rfl | rfl <;> (have e := Option.some.inj hw'; omega)
    have at_ : ∀ i, i < tl.length → tl[i]? = some (tl.getD i 0) := fun i hi => by
      rw [List.getD_eq_getElem?_getD, List.getElem?_eq_getElem hi]; rfl
    have told : ∀ {v3 v4 : Option V} (H' : Hp), Ex H H' → ∀ i, i < tl.length → Ev (tOp (rIxL K) (tVar 2) (tC (.int (i : Int)))) [some (.ref x), some (vN cn), some (.ref l), v3, v4] H' (vN (tl.getD i 0)) := fun H' e i hi => ev_told (j := 2) rfl (e _ _ hl) (at_ i hi)
    have hE : ofSheet D (cn, tl) = if (decide (D.sol ≤ tl.getD 0 0) || decide (2 ≤ tl.getD 1 0)) = true then (D, [-2]) else ofSheet2 D cn tl (D.ts.findIdx? (keyT (tl.getD 0 0) (tl.getD 1 0))) (sheetT D.ts (tl.getD 0 0) (tl.getD 1 0)) := rfl
    rw [hE] at k
    clear hE
    refine q_when (b := (decide (D.sol ≤ tl.getD 0 0) || decide (2 ≤ tl.getD 1 0))) (et_or (et_test (ev_is (ev_op (x := vN (tl.getD 0 0)) (y := vN D.sol) (told H (Ex.refl H) 0 (by omega)) (ev_sol Dc O (ev_var rfl)) rv_I0) ?_)) (fun _ => et_test (ev_is (ev_op (x := vN (tl.getD 1 0)) (told H (Ex.refl H) 1 (by omega)) (ev_len (ev_rid Dc O (ev_var rfl)) (sq_of O.ra)) rv_I0) ?_))) (fun hb H1 e1 => ?_) (fun hb H1 e1 => ?_)
    · show V.bl (decide ((D.sol : Int) ≤ ((tl.getD 0 0 : Nat) : Int))) = _
      congr 1; apply decide_eq_decide.mpr; omega
    · show V.bl (decide ((2 : Int) ≤ ((tl.getD 1 0 : Nat) : Int))) = _
      congr 1; apply decide_eq_decide.mpr; omega
    · rw [if_pos hb] at k
      exact s_retL (el_lst (ea_cons ev_c ea_nil) (by show 1 ≤ 100000; decide)) fun q H2 _ e2 h2 => k.same O (e1.trans e2) h2
    rw [if_neg (by rw [hb]; decide)] at k
    have hk : tl.getD 1 0 < 2 := by
      rw [Bool.or_eq_false_iff, decide_eq_false_iff_not, decide_eq_false_iff_not] at hb
      omega
    have O1 := O.mono e1
    refine q_asg (v := .ref (ridA A (tl.getD 1 0))) (ev_op (x := .ref A.ra) (y := vN (tl.getD 1 0)) (ev_rid Dc O1 (ev_var rfl)) (told H1 e1 1 (by omega)) (rv_ixL (sq_of O1.ra) (atI_nat (O1.ridAt hk)))) fun H2 e2 => ?_
    have e02 := e1.trans e2
    have O2 := O.mono e02
    refine q_asgP (ep_sheetOf (p := tl.getD 0 0) (k := tl.getD 1 0) O2 B (ev_var rfl) (told H2 e02 0 (by omega)) (told H2 e02 1 (by omega))) fun v H3 e3 ⟨q, ev, N⟩ => ?_
    subst ev
    have e03 := e02.trans e3
    -- what follows a change at the sheet
    have back : ∀ z ∈ footT q, z ∈ footD x A ∨ H z = none := fun z hz => (N.foot z hz).imp_right (fresh_back e02)
    have kb : ∀ {H1' H' : Hp}, Ex H H1' → Kept H1' H' (footD x A ++ footT q) → Kept H H' (footD x A) := fun e kk b o hb hn => kk b o (e b o hb) fun z => by
      rcases List.mem_append.mp z with g | g
      · exact hn g
      · rcases back b g with g | g
        · exact hn g
        · rw [g] at hb; cases hb
    have mk59 : (sheetT D.ts (tl.getD 0 0) (tl.getD 1 0)).marks.length ≤ 59 := by
      unfold sheetT
      cases hf : D.ts.find? (keyT (tl.getD 0 0) (tl.getD 1 0)) with
      | none => exact Nat.zero_le _
      | some t => exact B.marks _ (List.mem_of_find?_eq_some hf)
    have N3 := N.at_
    clear N
    generalize sheetT D.ts (tl.getD 0 0) (tl.getD 1 0) = t at N3 mk59 k
    generalize D.ts.findIdx? (keyT (tl.getD 0 0) (tl.getD 1 0)) = i at N3 k
    have OT := N3.own (O2.mono e3)
    have W3 := (O2.mono e3).isW hk
    have Ns : ∀ {H4}, Ex H3 H4 → SheetAt c H4 x A D q t i := fun {H4} e => by
      cases i with
      | some i => exact N3
      | none => exact ⟨N3.1.mono e, N3.2⟩
    unfold ofSheet2 at k
    -- mark
    refine q_when (b := (cn == 6)) (et_test (ev_op (ev_var rfl) ev_c (rv_eqN (b := 6)))) (fun hc H4 e4 => ?_) (fun hc H4 e4 => ?_)
    · obtain rfl : cn = 6 := by simpa using hc
      have hl4 : tl.length = 4 := (Option.some.inj (show some 4 = some tl.length from hw)).symm
      rw [if_pos rfl] at k
      have e04 := e03.trans e4
      refine s_retG (ev_var rfl) (O.mono e04).ins (dF_no _ _ _ (by decide +kernel)) (ea_cons (ev_var rfl) (ea_cons (ev_var rfl) (ea_cons (told H4 e04 2 (by omega)) (ea_cons (told H4 e04 3 (by omega)) ea_nil)))) fun H5 e5 => ?_
      exact ⟨x, A, D, tl.getD 1 0, tl.getD 2 0, tl.getD 3 0, q, t, i, rfl, O.mono (e04.trans e5), hk, Ns (e4.trans e5), B.len, mk59, fun H' A' z kk O' ff hz => k H' A' z (kb (e04.trans e5) kk) O' (fun y hy => (ff y hy).elim .inl (back y)) hz⟩
    have n6 : cn ≠ 6 := by simpa using hc
    rw [if_neg n6] at k
    -- rub
    refine q_when (b := (cn == 7)) (et_test (ev_op (ev_var rfl) ev_c (rv_eqN (b := 7)))) (fun hc H5 e5 => ?_) (fun hc H5 e5 => ?_)
    · obtain rfl : cn = 7 := by simpa using hc
      have hl3 : tl.length = 3 := (Option.some.inj (show some 3 = some tl.length from hw)).symm
      rw [if_pos rfl] at k
      have e35 := e4.trans e5
      have e05 := e03.trans e35
      refine s_retG (ev_var rfl) (OT.mono e35).ins (tF_no _ _ (by decide +kernel)) (ea_cons (told H5 e05 2 (by omega)) ea_nil) fun H6 e6 => ?_
      have e06 := e05.trans e6
      refine ⟨q.1, q.2, t, tl.getD 2 0, rfl, OT.mono (e35.trans e6), fun H' z kr Or hz => ?_⟩
      have kr' : Kept H6 H' (footD x A ++ footT q) := kr.sub fun y hy => List.mem_append_right _ (mata y (by rw [List.mem_singleton.mp hy]; simp))
      unfold rubTo at k
      cases i with
      | some i =>
        exact k H' A z (kb e06 kr') ((O.mono e06).set ap N3.1 (kr.sub fun y hy => by rw [List.mem_singleton.mp hy]; simp) Or) (fun y hy => .inl hy) hz
      | none =>
        exact k H' A z (kb e06 kr') ((O.mono e06).kept kr fun y hy g => N3.2.2 y (by rw [List.mem_singleton.mp g]; simp [footT]) hy) (fun y hy => .inl hy) hz
    have n7 : cn ≠ 7 := by simpa using hc
    rw [if_neg n7] at k
    -- next
    refine q_when (b := (cn == 8)) (et_test (ev_op (ev_var rfl) ev_c (rv_eqN (b := 8)))) (fun hc H6 e6 => ?_) (fun hc H6 e6 => ?_)
    · obtain rfl : cn = 8 := by simpa using hc
      rw [if_pos rfl] at k
      have e36 := (e4.trans e5).trans e6
      exact s_retWW (OT.mono e36) (W3.mono e36) (by decide +kernel) rfl rfl fun H7 z e7 h7 => k.same O (e03.trans (e36.trans e7)) h7
    have n8 : cn ≠ 8 := by simpa using hc
    rw [if_neg n8] at k
    -- sheet
    refine q_when (b := (cn == 9)) (et_test (ev_op (ev_var rfl) ev_c (rv_eqN (b := 9)))) (fun hc H7 e7 => ?_) (fun hc H7 e7 => ?_)
    · obtain rfl : cn = 9 := by simpa using hc
      rw [if_pos rfl] at k
      have e37 := ((e4.trans e5).trans e6).trans e7
      refine s_retG (vs := []) (ev_var rfl) (OT.mono e37).ins (tF_no _ _ (by decide +kernel)) ea_nil fun H8 e8 => ?_
      exact ⟨q.1, q.2, t, rfl, OT.mono (e37.trans e8), fun z H9 hz e9 h9 => k.same O (e03.trans ((e37.trans e8).trans e9)) h9⟩
    have n9 : cn ≠ 9 := by simpa using hc
    rw [if_neg n9] at k
    have e37 := ((e4.trans e5).trans e6).trans e7
    exact s_retWW (OT.mono e37) (W3.mono e37) (by decide +kernel) rfl rfl fun H8 z e8 h8 => k.same O (e03.trans (e37.trans e8)) h8
end
end Rd
set_option linter.all false
set_option maxRecDepth 100000
set_option maxHeartbeats 2000000
namespace Rd
open PySem PySem.Spec PyProof.Rows L2 Evl
/-! ### a call of a riddle -/
def goodO (D : Dk) (k : Nat) : List Int := if k = 0 then goodA kF D.rf else goodA kH D.rh
def thinO (D : Dk) (k : Nat) : Dk × List Int := if k = 0 then ({ D with rf := (thinM kF D.rf).1 }, (thinM kF D.rf).2) else ({ D with rh := (thinM kH D.rh).1 }, (thinM kH D.rh).2)
def fillO (D : Dk) (k j : Nat) : Dk × List Int := if k = 0 then ({ D with rf := (fillM kF D.rf j).1 }, (fillM kF D.rf j).2) else ({ D with rh := (fillM kH D.rh j).1 }, (fillM kH D.rh j).2)
def ofRid (D : Dk) (cn : Nat) (tl : List Nat) : Dk × List Int :=
  if decide (2 ≤ tl.getD 0 0) = true then (D, [-2])
  else if cn = 3 then (D, goodO D (tl.getD 0 0))
  else if cn = 4 then thinO D (tl.getD 0 0)
  else fillO D (tl.getD 0 0) (tl.getD 1 0)
abbrev sOfRid : Stmt := inClass cDesk 4
abbrev nOfRid : List Str := ["self", "call", "told", "riddle"]
theorem scOfRid : FnScope nOfRid ["self", "call", "told"] (defScope sOfRid) := ⟨rfl, rfl, rfl, by decide +kernel, rfl, by decide +kernel, by decide +kernel⟩
def spOfRid (c : Cs) : Sp := fun vs H Q _ => ∃ (x l : Addr) (A : DA) (D : Dk) (cn : Nat) (tl : List Nat), vs = [.ref x, vN cn, .ref l] ∧ OwnD c H x A D ∧ H l = some (.lst (vL tl)) ∧ 3 ≤ cn ∧ cn ≤ 5 ∧ wantC.lookup cn = some tl.length ∧ (kF.good (ofRid D cn tl).1.rf ∧ kH.good (ofRid D cn tl).1.rh) ∧ AftD c H x A (ofRid D cn tl).1 (ofRid D cn tl).2 Q
section
variable {P : Program} {w : World} {K : PySem.W.Frag} {mg : Str → Option Value} {base : Heap} {c : Cs}
theorem ok_ofRid {f : Addr} {fd : FuncData} (F : Fun K "of_riddle" "Desk.of_riddle" sOfRid f fd) (Dc : DC K c.D) (ap : c.Apart) (cf : Cls K c.F) (ch : Cls K c.H) (gL : mg "len" = none) (c2 : KInt mg "NO_SUCH" (-2)) (c3 : KInt mg "GOOD_CALL" 3) (c4 : KInt mg "THIN_CALL" 4)
    (gF : Mt P w K mg base c.F 6 "good" ["self"] (spPure c.F kF (goodA kF))) (gH : Mt P w K mg base c.H 6 "good" ["self"] (spPure c.H kH (goodA kH))) (tF : Mt P w K mg base c.F 6 "thin" ["self"] (spThin c.F kF)) (tH : Mt P w K mg base c.H 6 "thin" ["self"] (spThin c.H kH))
    (lF : Mt P w K mg base c.F 6 "fill" ["self", "ahead"] (spFill c.F kF)) (lH : Mt P w K mg base c.H 6 "fill" ["self", "ahead"] (spFill c.H kH)) : FnOk P w K mg base CX0 7 f fd ["self", "call", "told"] (spOfRid c) := by
  refine F.ok scOfRid (fun vs H Q E h => ?_) (fun cdv A0 outer s H vs Q E hr h => ?_)
  · obtain ⟨x, l, A, D, cn, tl, rfl, _⟩ := h; rfl
  · obtain ⟨f1, fd1, M1, G1, B1⟩ := gF
    obtain ⟨f2, fd2, M2, G2, B2⟩ := gH
    obtain ⟨f3, fd3, M3, G3, B3⟩ := tF
    obtain ⟨f4, fd4, M4, G4, B4⟩ := tH
    obtain ⟨f5, fd5, M5, G5, B5⟩ := lF
    obtain ⟨f6, fd6, M6, G6, B6⟩ := lH
    obtain ⟨t2, c2⟩ := c2
    obtain ⟨t3, c3⟩ := c3
    obtain ⟨t4, c4⟩ := c4
    refine ⟨_, pss_cons (ps_if (pt_cmpR op_ge (pe_ix ix_list (pv 2) pe_int (fun _ _ => rfl)) (pe_callB call_len_seq (by rfl) gL PySem.boot_len (pa_cons (pe_fld (pv 0) rfl) pa_nil)) (nomark _)) (pss_one (ps_ret (pe_lst (pa_cons (pe_glob (v := .int (-2)) rfl c2 ⟨_, rfl⟩) pa_nil)))) pss_nil)
      (pss_cons (ps_set (i := 3) scOfRid.nd rfl (Or.inl rfl) (pe_ix ix_list (pe_fld (pv 0) rfl) (pe_ix ix_list (pv 2) pe_int (fun _ _ => rfl)) (fun _ _ => rfl)))
      (pss_cons (ps_if (pt_cmpR op_eq (pv 1) (pe_glob (v := .int 3) rfl c3 ⟨_, rfl⟩) (nomark _)) (pss_one (ps_ret (pe_or (pe_meth0 (pv 3) cf M1 G1 hr B1 .nil pass0) (pe_meth0 (pv 3) ch M2 G2 hr B2 .nil pass0)))) pss_nil)
      (pss_cons (ps_if (pt_cmpR op_eq (pv 1) (pe_glob (v := .int 4) rfl c4 ⟨_, rfl⟩) (nomark _)) (pss_one (ps_ret (pe_or (pe_meth0 (pv 3) cf M3 G3 hr B3 .nil pass0) (pe_meth0 (pv 3) ch M4 G4 hr B4 .nil pass0)))) pss_nil)
      (pss_one (ps_ret (pe_or (pe_meth (pv 3) cf M5 G5 hr B5 .nil pass0 (pa_cons (pe_ix ix_list (pv 2) pe_int (fun _ _ => rfl)) pa_nil)) (pe_meth (pv 3) ch M6 G6 hr B6 .nil pass0 (pa_cons (pe_ix ix_list (pv 2) pe_int (fun _ _ => rfl)) pa_nil)))))))), ?_⟩
    obtain ⟨x, l, A, D, cn, tl, rfl, O, hl, h3, h5, hw, ⟨gf, gh⟩, k⟩ := h
    have hl2 : 1 ≤ tl.length := by
      have : cn = 3 ∨ cn = 4 ∨ cn = 5 := by omega
      rcases this with rfl | rfl | rfl <;> (have e := Option.some.inj hw; omega)
    have at_ : ∀ i, i < tl.length → tl[i]? = some (tl.getD i 0) := fun i hi => by
      rw [List.getD_eq_getElem?_getD, List.getElem?_eq_getElem hi]; rfl
    have told : ∀ {v3 : Option V} (H' : Hp), Ex H H' → ∀ i, i < tl.length → Ev (tOp (rIxL K) (tVar 2) (tC (.int (i : Int)))) [some (.ref x), some (vN cn), some (.ref l), v3] H' (vN (tl.getD i 0)) := fun H' e i hi => ev_told (j := 2) rfl (e _ _ hl) (at_ i hi)
    unfold ofRid at k gf gh
    refine q_when (b := decide (2 ≤ tl.getD 0 0)) (et_test (ev_is (ev_op (x := vN (tl.getD 0 0)) (told H (Ex.refl H) 0 (by omega)) (ev_len (ev_rid Dc O (ev_var rfl)) (sq_of O.ra)) rv_I0) ?_)) (fun hb H1 e1 => ?_) (fun hb H1 e1 => ?_)
    · show V.bl (decide ((2 : Int) ≤ ((tl.getD 0 0 : Nat) : Int))) = _
      congr 1; apply decide_eq_decide.mpr; omega
    · rw [if_pos hb] at k
      exact s_retL (el_lst (ea_cons ev_c ea_nil) (by show 1 ≤ 100000; decide)) fun q H2 _ e2 h2 => k.same O (e1.trans e2) h2
    have hbn : ¬ decide (2 ≤ tl.getD 0 0) = true := by rw [hb]; decide
    rw [if_neg hbn] at k gf gh
    have hk : tl.getD 0 0 < 2 := by
      rw [decide_eq_false_iff_not] at hb; omega
    have O1 := O.mono e1
    refine q_asg (v := .ref (ridA A (tl.getD 0 0))) (ev_op (x := .ref A.ra) (y := vN (tl.getD 0 0)) (ev_rid Dc O1 (ev_var rfl)) (told H1 e1 0 (by omega)) (rv_ixL (sq_of O1.ra) (atI_nat (O1.ridAt hk)))) fun H2 e2 => ?_
    have e02 := e1.trans e2
    have k01 : tl.getD 0 0 = 0 ∨ tl.getD 0 0 = 1 := by omega
    -- good
    refine q_when (b := (cn == 3)) (et_test (ev_op (ev_var rfl) ev_c (rv_eqN (b := 3)))) (fun hc H3 e3 => ?_) (fun hc H3 e3 => ?_)
    · obtain rfl : cn = 3 := by simpa using hc
      rw [if_pos rfl] at k
      have e03 := e02.trans e3
      have O3 := O.mono e03
      rcases k01 with h0 | h0
      · rw [h0] at k ⊢
        exact .inl ⟨_, rfl, A.fa, A.df.dx, _, rfl, O3.f.own.seen.ins, rF_no _ _ (by decide +kernel), A.fa, A.df, D.rf, rfl, O3.f.own, O3.f.good, AftD.field ap (r' := D.rf) (k.ex e03) O3 O3.f.good⟩
      · rw [h0] at k ⊢
        exact .inr ⟨_, rfl, A.ha, A.dh.dx, _, rfl, O3.h.own.seen.ins, rF_no _ _ (by decide +kernel), A.ha, A.dh, D.rh, rfl, O3.h.own, O3.h.good, AftD.hall ap (r' := D.rh) (k.ex e03) O3 O3.h.good⟩
    have n3 : cn ≠ 3 := by simpa using hc
    rw [if_neg n3] at k gf gh
    -- thin
    refine q_when (b := (cn == 4)) (et_test (ev_op (ev_var rfl) ev_c (rv_eqN (b := 4)))) (fun hc H4 e4 => ?_) (fun hc H4 e4 => ?_)
    · obtain rfl : cn = 4 := by simpa using hc
      rw [if_pos rfl] at k gf gh
      have e04 := (e02.trans e3).trans e4
      have O4 := O.mono e04
      rcases k01 with h0 | h0
      · rw [h0] at k gf ⊢
        exact .inl ⟨_, rfl, A.fa, A.df.dx, _, rfl, O4.f.own.seen.ins, rF_no _ _ (by decide +kernel), A.fa, A.df, D.rf, rfl, O4.f.own, O4.f.good, AftD.field ap (k.ex e04) O4 gf⟩
      · rw [h0] at k gh ⊢
        exact .inr ⟨_, rfl, A.ha, A.dh.dx, _, rfl, O4.h.own.seen.ins, rF_no _ _ (by decide +kernel), A.ha, A.dh, D.rh, rfl, O4.h.own, O4.h.good, AftD.hall ap (k.ex e04) O4 gh⟩
    have n4 : cn ≠ 4 := by simpa using hc
    rw [if_neg n4] at k gf gh
    obtain rfl : cn = 5 := by omega
    have hl2 : tl.length = 2 := (Option.some.inj (show some 2 = some tl.length from hw)).symm
    have e04 := (e02.trans e3).trans e4
    have O4 := O.mono e04
    rcases k01 with h0 | h0
    · rw [h0] at k gf
      have t1 := @told (some (.ref (ridA A (tl.getD 0 0)))) H4 e04 1 (by omega)
      rw [h0] at t1 ⊢
      refine .inl ⟨_, rfl, A.fa, A.df.dx, _, rfl, O4.f.own.seen.ins, rF_no _ _ (by decide +kernel), t1 H4 (Ex.refl H4) _ fun H5 e5 => ?_⟩
      have O5 := O4.mono e5
      exact ⟨A.fa, A.df, D.rf, tl.getD 1 0, rfl, O5.f.own, O5.f.good, AftD.field ap (k.ex (e04.trans e5)) O5 gf⟩
    · rw [h0] at k gh
      have t1 := @told (some (.ref (ridA A (tl.getD 0 0)))) H4 e04 1 (by omega)
      rw [h0] at t1 ⊢
      refine .inr ⟨_, rfl, A.ha, A.dh.dx, _, rfl, O4.h.own.seen.ins, rF_no _ _ (by decide +kernel), t1 H4 (Ex.refl H4) _ fun H5 e5 => ?_⟩
      have O5 := O4.mono e5
      exact ⟨A.ha, A.dh, D.rh, tl.getD 1 0, rfl, O5.h.own, O5.h.good, AftD.hall ap (k.ex (e04.trans e5)) O5 gh⟩
end
/-! ### state -/
def rowT (t : T) : List Nat := [t.who, t.which, t.marks.length] ++ [t.sure, t.may, t.slips]
def stateA (D : Dk) : List Int := castL ([D.sol, (D.ts.flatMap rowT).length] ++ D.ts.flatMap rowT)
abbrev sStateD : Stmt := inClass cDesk 10
abbrev nStateD : List Str := ["self", "shown", "sheet"]
theorem scStateD : FnScope nStateD ["self"] (defScope sStateD) := ⟨rfl, rfl, rfl, by decide +kernel, rfl, by decide +kernel, by decide +kernel⟩
def spStateD (c : Cs) : Sp := fun vs H Q _ => ∃ (x : Addr) (A : DA) (D : Dk), vs = [.ref x] ∧ OwnD c H x A D ∧ D.ts.length ≤ 60 ∧ RetL ((stateA D).map V.int) H Q
theorem rows_len : ∀ ts : List T, (ts.flatMap rowT).length = 6 * ts.length
  | [] => rfl
  | t :: ts => by
    rw [List.flatMap_cons, List.length_append, rows_len ts, List.length_cons]
    show 6 + _ = _
    omega
section
variable {P : Program} {w : World} {K : PySem.W.Frag} {mg : Str → Option Value} {base : Heap} {c : Cs}
theorem ok_stateD {f : Addr} {fd : FuncData} (F : Fun K "state" "Desk.state" sStateD f fd) (Dc : DC K c.D) (Tc : TC K c.S) (gL : mg "len" = none) (mK : Mt P w K mg base c.S 1 "kinds" ["self"] (spKinds c.S)) : FnOk P w K mg base CX0 2 f fd ["self"] (spStateD c) := by
  refine F.ok scStateD (fun vs H Q E h => ?_) (fun cdv A0 outer s H vs Q E hr h => ?_)
  · obtain ⟨x, A, D, rfl, _⟩ := h; rfl
  · obtain ⟨f1, fd1, M1, G1, B1⟩ := mK
    refine ⟨_, pss_cons (ps_set (i := 1) scStateD.nd rfl (Or.inl rfl) (pe_lst pa_nil))
      (pss_cons (ps_for PassesOwn.never rfl (pi_list (pe_fld (pv 0) rfl)) (pg_name (i := 2) scStateD.nd rfl (Or.inl rfl))
        (pss_one (ps_set (i := 1) scStateD.nd rfl (Or.inl rfl) (pe_op op_cat (pe_op op_cat (pv 1) (pe_lst (pa_cons (pe_fld (pv 2) rfl) (pa_cons (pe_fld (pv 2) rfl) (pa_cons (pe_callB call_lenD (by rfl) gL PySem.boot_len (pa_cons (pe_fld (pv 2) rfl) pa_nil)) pa_nil))))) (pe_meth0 (pv 2) Tc.cl M1 G1 hr B1 .nil pass0)))))
      (pss_one (ps_ret (pe_op op_cat (pe_lst (pa_cons (pe_fld (pv 0) rfl) (pa_cons (pe_callB call_len_seq (by rfl) gL PySem.boot_len (pa_cons (pv 1) pa_nil)) pa_nil))) (pv 1))))), ?_⟩
    obtain ⟨x, A, D, rfl, O, h60, k⟩ := h
    have hlen := Paired.length O.s
    refine q_asgL (xs := vL (([] : List T).flatMap rowT)) (el_lst ea_nil (Nat.zero_le _)) fun p1 H1 hp1 e1 h1 => ?_
    have O1 := O.mono e1
    refine q_forLn (a := A.sa) (xs := A.ps.map fun q => V.ref q.1) (ev_she Dc O1 (ev_var rfl)) (sq_of O1.sa) (fun i σ' H' => ∃ (q : Addr) (v2 : Option V), σ' = [some (.ref x), some (.ref q), v2] ∧ Ex H H' ∧ H' q = some (.lst (vL ((D.ts.take i).flatMap rowT))))
      (fun H2 e2 => ⟨p1, none, rfl, e1.trans e2, e2 _ _ h1⟩) (fun i σ' H' _ ⟨_, _, _, e, _⟩ => sq_of (e _ _ O.sa)) ?_ ?_
    · rintro i v σ' H' hi ⟨q, v2, rfl, e2, hq⟩
      rw [List.getElem?_map] at hi
      cases eq : A.ps[i]? with
      | none => rw [eq] at hi; cases hi
      | some s =>
        rw [eq] at hi
        obtain rfl : v = .ref s.1 := (Option.some.inj hi).symm
        obtain ⟨t, ht, r⟩ := Paired.get O.s eq
        have r2 := r.mono e2
        have hz : ((D.ts.take i).flatMap rowT).length ≤ 360 := by
          rw [rows_len]
          have := List.length_take_le' i D.ts
          omega
        refine s_asgL (xs := vL ((D.ts.take (i + 1)).flatMap rowT)) (by
          rw [take_more ht, List.flatMap_append, show [t].flatMap rowT = [t.who, t.which, t.marks.length] ++ [t.sure, t.may, t.slips] from rfl, ← List.append_assoc, vL_append, vL_append]
          refine el_catL (el_cat (l := q) (xs := vL ((D.ts.take i).flatMap rowT)) (ev_var rfl) hq (el_lst (vs := vL [t.who, t.which, t.marks.length]) (ea_cons (ev_fld (v := vN t.who) (ev_var rfl) r2.ins Tc.cl Tc.n1 (tF_solver _ _)) (ea_cons (ev_fld (v := vN t.which) (ev_var rfl) r2.ins Tc.cl Tc.n2 (tF_riddle _ _)) (ea_cons (ev_lenD (ev_marks Tc r2 (ev_var rfl)) r2.ma) ea_nil))) (by show 3 ≤ 100000; decide)) (by rw [vL_len]; show _ + 3 ≤ 100000; omega)) (el_kinds r2 (ev_var rfl)) (by rw [List.length_append, vL_len, vL_len]; show _ + 3 + 3 ≤ 100000; omega)) fun q2 H3 hq2 e3 h3 => ?_
        exact ⟨q2, _, rfl, e2.trans e3, h3⟩
    · rintro σ' H' ⟨q, v2, rfl, e2, hq⟩
      rw [List.length_map, hlen, List.take_length] at hq
      have O2 := O.mono e2
      have hz : (D.ts.flatMap rowT).length ≤ 360 := by rw [rows_len]; omega
      have a0 : EvL (tLst (tCons (tFld K (tVar 0) "solvers") (tCons (tCB (rLenS K) (tCons (tVar 1) tNil)) tNil))) [some (.ref x), some (.ref q), v2] H' (vL [D.sol, (D.ts.flatMap rowT).length]) :=
        el_lst (ea_cons (ev_sol Dc O2 (ev_var rfl)) (ea_cons (ev_is (ev_len (ev_var rfl) (sq_of hq)) (by rw [vL_len])) ea_nil)) (by show 2 ≤ 100000; decide)
      refine s_retL (el_catR (l := q) (ys := vL (D.ts.flatMap rowT)) a0 (ev_var rfl) hq (by rw [vL_len, vL_len]; show 2 + _ ≤ 100000; omega)) fun z H3 hz3 e3 h3 => k.go e2 hz3 e3 ?_
      rw [h3]
      unfold stateA
      rw [vL_cast, vL_append]
end
end Rd
set_option linter.all false
set_option maxRecDepth 100000
set_option maxHeartbeats 2000000
namespace Rd
open PySem PySem.Spec PyProof.Rows L2 Evl
/-! ### who stands where -/
def rankI (f : Nat → Int) (p : Nat) : List Nat → List Nat
  | [] => [p]
  | q :: l => if f q < f p then p :: q :: l else q :: rankI f p l
def rank (f : Nat → Int) (n : Nat) : List Nat := (List.range n).foldl (fun m p => rankI f p m) []
def Ahead (f : Nat → Int) (p q : Nat) : Prop := f q < f p ∨ (f p = f q ∧ p < q)
theorem rankI_perm (f : Nat → Int) (p : Nat) : ∀ l : List Nat, (rankI f p l).Perm (p :: l)
  | [] => List.Perm.refl _
  | q :: l => by
    unfold rankI
    split
    · exact List.Perm.refl _
    · exact ((rankI_perm f p l).cons q).trans (List.Perm.swap p q l)
theorem rankI_ord (f : Nat → Int) (p : Nat) : ∀ l : List Nat, l.Pairwise (Ahead f) → (∀ q ∈ l, q < p) → (rankI f p l).Pairwise (Ahead f)
  | [], _, _ => List.pairwise_singleton ..
  | q :: l, h, hp => by
    have hc := List.pairwise_cons.mp h
    unfold rankI
    split
    · next e =>
      refine List.pairwise_cons.mpr ⟨fun r hr => ?_, h⟩
      rcases List.mem_cons.mp hr with z | z
      · rw [z]; exact .inl e
      · refine .inl ?_
        rcases hc.1 r z with g | g
        · omega
        · omega
    · next e =>
      refine List.pairwise_cons.mpr ⟨fun r hr => ?_, rankI_ord f p l hc.2 fun r hr => hp r (List.mem_cons_of_mem _ hr)⟩
      rcases List.mem_cons.mp ((rankI_perm f p l).mem_iff.mp hr) with z | z
      · rw [z]
        have := hp q List.mem_cons_self
        by_cases g : f p < f q
        · exact .inl g
        · exact .inr ⟨by omega, this⟩
      · exact hc.1 r z
theorem rank_all (f : Nat → Int) : ∀ n, (rank f n).Perm (List.range n) ∧ (rank f n).Pairwise (Ahead f)
  | 0 => ⟨List.Perm.refl _, .nil⟩
  | n + 1 => by
    obtain ⟨h1, h2⟩ := rank_all f n
    have e : rank f (n + 1) = rankI f n (rank f n) := by
      unfold rank; rw [List.range_succ, List.foldl_append]; rfl
    rw [e]
    refine ⟨(rankI_perm f n _).trans ?_, rankI_ord f n _ h2 fun q hq => List.mem_range.mp (h1.mem_iff.mp hq)⟩
    rw [List.range_succ]
    exact (h1.cons n).trans (List.perm_append_singleton n _).symm
def keyP (f : Nat → Int) (p : Nat) : Int × Int := (-(f p), (p : Int))
theorem lexB_no {p q : Int × Int} (h : ¬ (p.1 < q.1 ∨ (p.1 = q.1 ∧ p.2 < q.2))) : SrtO.lexB p q = false := by
  cases e : SrtO.lexB p q with
  | false => rfl
  | true => exact absurd (SrtO.lexB_iff.mp e) h
theorem lexB_not {p q : Int × Int} (h : SrtO.lexB p q = false) : ¬ (p.1 < q.1 ∨ (p.1 = q.1 ∧ p.2 < q.2)) := fun z => by
  rw [SrtO.lexB_iff.mpr z] at h; cases h
theorem ahead_key {f : Nat → Int} {p q : Nat} (h : Ahead f p q) : SrtO.lexB (keyP f q) (keyP f p) = false := by
  apply lexB_no
  unfold keyP
  simp only []
  rcases h with h | ⟨h1, h2⟩ <;> omega
theorem lex_eq {a b : Int × Int} (h1 : SrtO.lexB b a = false) (h2 : SrtO.lexB a b = false) : a = b := by
  have g1 := lexB_not h1
  have g2 := lexB_not h2
  exact Prod.ext (by omega) (by omega)
theorem rank_sorted {f : Nat → Int} {n : Nat} {ks : List (Int × Int)} (hp : ks.Perm ((List.range n).map (keyP f))) (hs : ks.Pairwise fun x y => SrtO.lexB y x = false) : ks = (rank f n).map (keyP f) := by
  obtain ⟨h1, h2⟩ := rank_all f n
  refine List.Perm.eq_of_pairwise (le := fun x y => SrtO.lexB y x = false) (fun a b _ _ g1 g2 => lex_eq g1 g2) hs ?_ (hp.trans (h1.symm.map _))
  rw [List.pairwise_map]
  exact h2.imp fun h => ahead_key h
/-! ### the points, sheet by sheet -/
def ptsT (ts : List T) (p : Nat) : Int := ((ts.filter fun t => t.who == p).map pointsT).sum
def sumsT (ts : List T) (n : Nat) : List Int := (List.range n).map (ptsT ts)
theorem sumsT_len (ts : List T) (n : Nat) : (sumsT ts n).length = n := by unfold sumsT; rw [List.length_map, List.length_range]
theorem sumsT_at (ts : List T) {n p : Nat} (h : p < n) : (sumsT ts n)[p]? = some (ptsT ts p) := by
  unfold sumsT; rw [List.getElem?_map, List.getElem?_range h]; rfl
theorem ptsT_snoc (ts : List T) (t : T) (p : Nat) : ptsT (ts ++ [t]) p = ptsT ts p + if t.who = p then pointsT t else 0 := by
  unfold ptsT
  rw [List.filter_append, List.map_append, List.sum_append, List.filter_cons]
  by_cases e : t.who = p
  · rw [if_pos e, if_pos (by simpa using e)]; simp
  · rw [if_neg e, if_neg (by simpa using e)]; simp
theorem sumsT_snoc (ts : List T) (t : T) {n : Nat} (h : t.who < n) : sumsT (ts ++ [t]) n = (sumsT ts n).set t.who (ptsT ts t.who + pointsT t) := by
  apply List.ext_getElem?
  intro j
  by_cases hj : j < n
  · rw [sumsT_at _ hj, ptsT_snoc, List.getElem?_set]
    by_cases e : t.who = j
    · subst e; rw [if_pos rfl, if_pos rfl, if_pos (by rw [sumsT_len]; exact hj)]
    · rw [if_neg e, if_neg e, sumsT_at _ hj, Int.add_zero]
  · rw [List.getElem?_eq_none (by rw [sumsT_len]; omega), List.getElem?_eq_none (by rw [List.length_set, sumsT_len]; omega)]
theorem sumsT_nil (n : Nat) : sumsT [] n = List.replicate n 0 := by
  apply List.ext_getElem?
  intro j
  by_cases hj : j < n
  · rw [sumsT_at _ hj, List.getElem?_replicate, if_pos hj]; rfl
  · rw [List.getElem?_eq_none (by rw [sumsT_len]; omega), List.getElem?_eq_none (by rw [List.length_replicate]; omega)]
def flatR (f : Nat → Int) (ps : List Nat) : List Int := ps.flatMap fun (p : Nat) => [(p : Int), f p]
theorem flatR_len (f : Nat → Int) : ∀ ps : List Nat, (flatR f ps).length = 2 * ps.length
  | [] => rfl
  | p :: ps => by
    have ih := flatR_len f ps
    show (flatR f ps).length + 1 + 1 = _
    rw [ih, List.length_cons]; omega
theorem flatR_snoc (f : Nat → Int) (ps : List Nat) (p : Nat) : flatR f (ps ++ [p]) = flatR f ps ++ [(p : Int), f p] := by
  unfold flatR; rw [List.flatMap_append]; simp
def standA (D : Dk) : List Int := ((D.sol : Nat) : Int) :: (((flatR (ptsT D.ts) (rank (ptsT D.ts) D.sol)).length : Nat) : Int) :: flatR (ptsT D.ts) (rank (ptsT D.ts) D.sol)
end Rd
set_option linter.all false
set_option maxRecDepth 100000
set_option maxHeartbeats 2000000
namespace Rd
open PySem PySem.Spec PyProof.Rows L2 Evl
/-! ### standing -/
abbrev sStand : Stmt := inClass cDesk 9
abbrev nStand : List Str := ["self", "points", "sheet", "ranked", "solver", "lost"]
theorem scStand : FnScope nStand ["self"] (defScope sStand) := ⟨rfl, rfl, rfl, by decide +kernel, rfl, by decide +kernel, by decide +kernel⟩
def spStand (c : Cs) : Sp := fun vs H Q _ => ∃ (x : Addr) (A : DA) (D : Dk), vs = [.ref x] ∧ OwnD c H x A D ∧ BndD D 60 ∧ RetL ((standA D).map V.int) H Q
abbrev vI (l : List Int) : List V := l.map V.int
/-- a new list of new pairs -/
def Prs (ks : List (Int × Int)) (v : V) (H : Hp) : Prop := ∃ (q : Addr) (as : List Addr), v = .ref q ∧ H q = some (.lst (as.map V.ref)) ∧ Paired (fun (a : Addr) (k : Int × Int) => H a = some (.tup [.int k.1, .int k.2])) as ks
theorem Prs.mono {ks : List (Int × Int)} {v : V} {H H' : Hp} (e : Ex H H') (h : Prs ks v H) : Prs ks v H' := by
  obtain ⟨q, as, h1, h2, h3⟩ := h
  exact ⟨q, as, h1, e _ _ h2, Paired.imp (fun _ _ r => e _ _ r) h3⟩
section
variable {σ : L2.St} {H : Hp} {te tl : TE} {K : PySem.W.Frag} {D : Ends} {tz tu : TS} {g : TG}
theorem ep_pairs {ta : TA} {j n : Nat} {vs : List Nat} (k : Nat → Int × Int) (h : EvA ta σ H [.int (n : Int)]) (hn : n ≤ 60) (hw : ∀ x, wipe ((wipe σ vs).set j (some x)) vs = wipe σ vs)
    (he : ∀ (i : Nat) H1, Ex H H1 → i < n → EvU te ((wipe σ vs).set j (some (.int (i : Int)))) H1 [.int (k i).1, .int (k i).2]) : EvP (tLc (iRng1 ta) (gName j) tYes te vs) σ H (Prs ((List.range n).map k)) := fun H0 e Q q => h H0 e _ fun H1 e1 => ⟨(n : Int), rfl, by omega, by omega, fun Dl hD =>
  lc_range (lo := 0) (n := n) (fun i H' => Ex H1 H' ∧ ∃ as : List Addr, Dl ∉ as ∧ H' Dl = some (.lst (as.map V.ref)) ∧ Paired (fun (a : Addr) (k : Int × Int) => H' a = some (.tup [.int k.1, .int k.2])) as ((List.range i).map k)) ⟨Ex.new hD, [], by simp, upd_same, .nil⟩
    (fun i H' hi ⟨e2, as, nD, hl, hp⟩ => by
      have e0 : (0 : Int) + (i : Int) = (i : Int) := Int.zero_add _
      show wipe ((wipe σ vs).set j (some (.int ((0 : Int) + (i : Int))))) vs = wipe σ vs ∧ tYes ((wipe σ vs).set j (some (.int ((0 : Int) + (i : Int))))) H' fun b H3 => if b = true then te ((wipe σ vs).set j (some (.int ((0 : Int) + (i : Int))))) H3 fun y H4 => ∃ acc, H4 Dl = some (.lst acc) ∧ acc.length < sizeLine ∧ (Ex H1 (upd H4 Dl (.lst (acc ++ [y]))) ∧ ∃ as : List Addr, Dl ∉ as ∧ upd H4 Dl (.lst (acc ++ [y])) Dl = some (.lst (as.map V.ref)) ∧ Paired (fun (a : Addr) (k : Int × Int) => upd H4 Dl (.lst (acc ++ [y])) a = some (.tup [.int k.1, .int k.2])) as ((List.range (i + 1)).map k)) else (Ex H1 H3 ∧ ∃ as : List Addr, Dl ∉ as ∧ H3 Dl = some (.lst (as.map V.ref)) ∧ Paired (fun (a : Addr) (k : Int × Int) => H3 a = some (.tup [.int k.1, .int k.2])) as ((List.range (i + 1)).map k))
      rw [e0]
      refine ⟨hw _, ?_⟩
      simp only [tYes, if_true]
      refine he i H' ((e.trans e1).trans e2) hi H' (Ex.refl H') _ fun t H4 ht e4 h4 => ?_
      have tD : t ≠ Dl := fun z => by rw [z, hl] at ht; cases ht
      have la : as.length = i := by have := Paired.length hp; rw [List.length_map, List.length_range] at this; exact this
      refine ⟨_, e4 _ _ hl, by rw [List.length_map, la]; exact sz_lt (by omega), Ex.mut (e2.trans e4) hD, as ++ [t], ?_, by rw [upd_same, List.map_append]; rfl, ?_⟩
      · intro z
        rcases List.mem_append.mp z with z | z
        · exact nD z
        · rw [List.mem_singleton] at z; exact tD z.symm
      · rw [List.range_succ, List.map_append]
        refine Paired.snoc ?_ (by rw [upd_ne tD]; exact h4)
        have key : ∀ {as : List Addr} {ks : List (Int × Int)}, Dl ∉ as → Paired (fun (a : Addr) (k : Int × Int) => H' a = some (.tup [.int k.1, .int k.2])) as ks → Paired (fun (a : Addr) (k : Int × Int) => upd H4 Dl (.lst (as.map V.ref ++ [V.ref t])) a = some (.tup [.int k.1, .int k.2])) as ks := by
          intro as ks hn hp
          generalize HO.lst (as.map V.ref ++ [V.ref t]) = o
          induction hp with
          | nil => exact .nil
          | cons r _ ih => exact .cons (by rw [upd_ne (fun z => hn (by rw [← z]; exact List.mem_cons_self))]; exact e4 _ _ r) (ih fun z => hn (List.mem_cons_of_mem _ z))
        exact key nD hp)
    (fun H' ⟨e2, as, nD, hl, hp⟩ => q (.ref Dl) H' (e1.trans e2) ⟨Dl, as, rfl, hl, hp⟩)⟩
/-- sorted, of a new list of pairs: they come by their order -/
theorem ep_sortedP {f : Nat → Int} {n : Nat} (h : EvP te σ H (Prs ((List.range n).map (keyP f)))) : EvP (tCB (rSortedPO K) (tCons te tNil)) σ H (Prs ((rank f n).map (keyP f))) := fun H1 e Q q =>
  h H1 e _ fun v H2 e2 ⟨a, as, ev, ha, hp⟩ => by
    subst ev
    let kx : V → Int × Int := fun v => match v with
      | .ref t => (match H2 t with
        | some (.tup [.int i, .int j]) => (i, j)
        | _ => (0, 0))
      | _ => (0, 0)
    have kxe : ∀ {t : Addr} {k : Int × Int}, H2 t = some (.tup [.int k.1, .int k.2]) → kx (.ref t) = k := fun {t k} h => by
      show (match H2 t with
        | some (.tup [.int i, .int j]) => (i, j)
        | _ => (0, 0)) = k
      rw [h]
    have hk : (as.map V.ref).map kx = (List.range n).map (keyP f) := by
      rw [List.map_map]
      have key : ∀ {as : List Addr} {ks : List (Int × Int)}, Paired (fun (a : Addr) (k : Int × Int) => H2 a = some (.tup [.int k.1, .int k.2])) as ks → as.map (kx ∘ V.ref) = ks := by
        intro as ks hp
        induction hp with
        | nil => rfl
        | cons r _ ih => rw [List.map_cons, ih]; congr 1; exact kxe r
      exact key hp
    refine ⟨a, as.map V.ref, kx, rfl, sq_of ha, fun x hx => ?_, fun ys p hs hst hp2 => ?_⟩
    · obtain ⟨t, ht, rfl⟩ := List.mem_map.mp hx
      obtain ⟨k, _, r⟩ := Paired.mem_left hp ht
      exact ⟨t, rfl, by rw [kxe r]; exact r⟩
    · have e3 : Ex H2 (upd H2 p (.lst ys)) := Ex.new hp2
      have perm : ys.Perm (as.map V.ref) := hst.perm
      have hys : ys.map kx = (rank f n).map (keyP f) := by
        refine rank_sorted (by rw [← hk]; exact perm.map kx) ?_
        rw [List.pairwise_map]
        exact hs
      have hall : ∀ y ∈ ys, ∃ t : Addr, y = .ref t ∧ H2 t = some (.tup [.int (kx y).1, .int (kx y).2]) := fun y hy => by
        obtain ⟨t, ht, e⟩ := List.mem_map.mp (perm.mem_iff.mp hy)
        obtain ⟨k, _, r⟩ := Paired.mem_left hp ht
        exact ⟨t, e.symm, by rw [← e, kxe r]; exact r⟩
      have out : ∃ bs : List Addr, ys = bs.map V.ref ∧ Paired (fun (a : Addr) (k : Int × Int) => H2 a = some (.tup [.int k.1, .int k.2])) bs (ys.map kx) := by
        clear hys hs hst perm e3 hp2
        induction ys with
        | nil => exact ⟨[], rfl, .nil⟩
        | cons y ys ih =>
          obtain ⟨t, e, r⟩ := hall y List.mem_cons_self
          obtain ⟨bs, e2, r2⟩ := ih fun y hy => hall y (List.mem_cons_of_mem _ hy)
          exact ⟨t :: bs, by rw [e, e2]; rfl, .cons r r2⟩
      obtain ⟨bs, eb, rb⟩ := out
      rw [hys] at rb
      refine q (.ref p) _ (e2.trans e3) ⟨p, bs, rfl, by rw [upd_same, eb], Paired.imp (fun _ _ r => e3 _ _ r) rb⟩
theorem q_forPL {P : V → Hp → Prop} (h : EvP tl σ H P) (k : ∀ v H1, Ex H H1 → P v H1 → tSeq (tFor (iList K (tC v)) g tu) tz D σ H1) : tSeq (tFor (iList K tl) g tu) tz D σ H := h H (Ex.refl H) _ fun v H1 e1 hv => k v H1 e1 hv
end
section
variable {P : Program} {w : World} {K : PySem.W.Frag} {mg : Str → Option Value} {base : Heap} {c : Cs}
theorem ok_stand {f : Addr} {fd : FuncData} (F : Fun K "standing" "Desk.standing" sStand f fd) (Dc : DC K c.D) (Tc : TC K c.S) (gL : mg "len" = none) (gS : mg "sorted" = none) (gR : mg "range" = none) (mP : Mt P w K mg base c.S 1 "points" ["self"] (spPts c.S)) : FnOk P w K mg base CX0 2 f fd ["self"] (spStand c) := by
  refine F.ok scStand (fun vs H Q E h => ?_) (fun cdv A0 outer s H vs Q E hr h => ?_)
  · obtain ⟨x, A, D, rfl, _⟩ := h; rfl
  · obtain ⟨f1, fd1, M1, G1, B1⟩ := mP
    refine ⟨_, pss_cons (ps_set (i := 1) scStand.nd rfl (Or.inr rfl) (pe_op op_rep (pe_lst (pa_cons pe_int pa_nil)) (pe_fld (pv 0) rfl)))
      (pss_cons (ps_for PassesOwn.never rfl (pi_list (pe_fld (pv 0) rfl)) (pg_name (i := 2) scStand.nd rfl (Or.inl rfl))
        (pss_one (ps_augS (pv 1) (pe_fld (pv 2) rfl) pg_list (pe_meth0 (pv 2) Tc.cl M1 G1 hr B1 .nil pass0) ip_add set_list)))
      (pss_cons (ps_set (i := 3) scStand.nd rfl (Or.inl rfl) (pe_lst pa_nil))
      (pss_cons (ps_for PassesOwn.never rfl (pi_list (pe_callB cr_sortedPO (by rfl) gS (by decide +kernel) (pa_cons (pe_lc (own := [("solver", 4)]) (g := gName 4) (tt := tYes) (te := tTup (tCons (tUn (rU fun i => .int (-i)) (tOp (rIxL K) (tVar 1) (tVar 4))) (tCons (tVar 4) tNil))) rfl scStand.nd (pi_range1 (by rfl) gR (pa_cons (pe_fld (pv 0) rfl) pa_nil)) (blkOk_by (N := nStand) (sc := defScope sStand) (by decide +kernel))
            (fun _ _ _ _ _ => pg_name (i := 4) scStand.nd rfl (Or.inl rfl)) (fun _ _ _ _ _ => pts_nil) (fun _ _ _ _ _ => pe_tup (pa_cons (pe_un un_neg (pe_ix ix_list (pv 1) (pv 4) (fun _ _ => rfl))) (pa_cons (pv 4) pa_nil)))) pa_nil)))
          (pg_tup rfl (pgs_cons (pg_name (i := 5) scStand.nd rfl (Or.inl rfl)) (pgs_cons (pg_name (i := 4) scStand.nd rfl (Or.inl rfl)) pgs_nil)))
        (pss_one (ps_set (i := 3) scStand.nd rfl (Or.inl rfl) (pe_op op_cat (pv 3) (pe_lst (pa_cons (pv 4) (pa_cons (pe_un un_neg (pv 5)) pa_nil)))))))
      (pss_one (ps_ret (pe_op op_cat (pe_lst (pa_cons (pe_fld (pv 0) rfl) (pa_cons (pe_callB call_len_seq (by rfl) gL PySem.boot_len (pa_cons (pv 3) pa_nil)) pa_nil))) (pv 3))))))), ?_⟩
    obtain ⟨x, A, D, rfl, O, B, k⟩ := h
    have hlen := Paired.length O.s
    have n4 := B.s4
    refine q_asgL (xs := vI (sumsT [] D.sol)) (fun H0 e0 Q q => el_lst (vs := [.int 0]) (ea_cons ev_c ea_nil) (by show 1 ≤ 100000; decide) H0 (Ex.refl H0) _ fun l H1 hl e1 h1 => (ev_sol Dc (O.mono (e0.trans e1)) (ev_var rfl)) H1 (Ex.refl H1) _ fun H2 e2 => ⟨l, _, [.int 0], rfl, rfl, e2 _ _ h1, by omega, by omega, by
      rw [Int.toNat_natCast]; show 1 * D.sol ≤ sizeLine; exact Nat.le_trans (by omega) (sz_of (n := 4) (by decide)), fun p hp => q p _ (fresh_back (e1.trans e2) hp) ((e1.trans e2).trans (Ex.new hp)) ?_⟩) fun p1 H1 hp1 e1 h1 => ?_
    · rw [upd_same, Int.toNat_natCast, sumsT_nil]
      unfold vI
      rw [List.map_replicate]
      congr 2
      have : ∀ m : Nat, (List.replicate m [V.int 0]).flatten = List.replicate m (V.int 0) := by
        intro m
        induction m with
        | zero => rfl
        | succ m ih => rw [List.replicate_succ, List.flatten_cons, ih, List.replicate_succ]; rfl
      exact this _
    refine q_forLn (a := A.sa) (xs := A.ps.map fun q => V.ref q.1) (ev_she Dc (O.mono e1) (ev_var rfl)) (sq_of (e1 _ _ O.sa)) (fun i σ' H' => ∃ v2 : Option V, σ' = [some (.ref x), some (.ref p1), v2, none, none, none] ∧ Ex H H' ∧ H' p1 = some (.lst (vI (sumsT (D.ts.take i) D.sol))))
      (fun H2 e2 => ⟨none, rfl, e1.trans e2, e2 _ _ h1⟩) (fun i σ' H' _ ⟨_, _, e, _⟩ => sq_of (e _ _ O.sa)) ?_ ?_
    · rintro i v σ' H' hi ⟨v2, rfl, e2, hq⟩
      rw [List.getElem?_map] at hi
      cases eq : A.ps[i]? with
      | none => rw [eq] at hi; cases hi
      | some q =>
        rw [eq] at hi
        obtain rfl : v = .ref q.1 := (Option.some.inj hi).symm
        obtain ⟨t, ht, r⟩ := Paired.get O.s eq
        have r2 := r.mono e2
        have hw := B.who t (List.mem_of_getElem? ht)
        refine s_augN (j := t.who) (a := ptsT (D.ts.take i) t.who) (b := pointsT t) hq (ev_var rfl) (ev_fld (v := vN t.who) (ev_var rfl) r2.ins Tc.cl Tc.n1 (tF_solver _ _)) (by rw [List.getElem?_map, sumsT_at _ hw]; rfl)
          (ev_meth (m := "points") (vs := []) (ev_var rfl) r2.ins (tF_no _ _ (by decide +kernel)) ea_nil (fun H3 e3 Q qq E => ⟨q.1, q.2, t, rfl, r2.mono e3, qq⟩)) fun H3 e3 => ?_
        refine ⟨_, rfl, Ex.mut (e2.trans e3) hp1, ?_⟩
        rw [upd_same, take_more ht, sumsT_snoc _ _ hw]
        unfold vI
        rw [List.map_set]
    · rintro σ' H2 ⟨v2, rfl, e2, hq⟩
      rw [List.length_map, hlen, List.take_length] at hq
      generalize hf : ptsT D.ts = fp
      have hq : H2 p1 = some (.lst (vI ((List.range D.sol).map fp))) := by rw [← hf]; exact hq
      refine q_asgL (xs := vI (flatR fp [])) (el_lst ea_nil (Nat.zero_le _)) fun p3 H3 hp3 e3 h3 => ?_
      have hq3 := e3 _ _ hq
      have e13 := e2.trans e3
      have rk := rank_all fp D.sol
      have rl : (rank fp D.sol).length ≤ 4 := by rw [rk.1.length_eq, List.length_range]; exact n4
      refine q_forPL (ep_sortedP (f := fp) (ep_pairs (n := D.sol) (keyP fp) (ea_cons (ev_sol Dc (O.mono e13) (ev_var rfl)) ea_nil) (by omega) (fun _ => rfl) fun i H4 e4 hi => eu_tup (ea_cons (ev_un (x := .int (fp i)) (ev_op (x := .ref p1) (y := .int (i : Int)) (ev_var rfl) (ev_var rfl) (rv_ixL (xs := vI ((List.range D.sol).map fp)) (sq_of (e4 _ _ hq3)) (atI_nat (by
        rw [List.getElem?_map, List.getElem?_map, List.getElem?_range hi]; rfl)))) ru_neg) (ea_cons (ev_var rfl) ea_nil)) (by show 2 ≤ 100000; decide))) fun v H4 e4 ⟨a, as, ev, ha, hp⟩ => ?_
      subst ev
      have h34 := e4 _ _ h3
      have e14 := e13.trans e4
      refine q_forL (a := a) (xs := as.map V.ref) ev_c (sq_of ha) (fun i σ' H' => ∃ (r3 : Addr) (v4 v5 : Option V), σ' = [some (.ref x), some (.ref p1), v2, some (.ref r3), v4, v5] ∧ Ex H4 H' ∧ H' r3 = some (.lst (vI (flatR fp ((rank fp D.sol).take i)))))
        (fun H5 e5 => ⟨p3, none, none, rfl, e5, e5 _ _ h34⟩) (fun i σ' H' _ ⟨_, _, _, _, e, _⟩ => sq_of (e _ _ ha)) ?_ ?_
      · rintro i v σ' H5 hi ⟨r3, v4, v5, rfl, e5, hr3⟩
        rw [List.getElem?_map] at hi
        cases eq : as[i]? with
        | none => rw [eq] at hi; cases hi
        | some b =>
          rw [eq] at hi
          obtain rfl : v = .ref b := (Option.some.inj hi).symm
          obtain ⟨kk, hk, r⟩ := Paired.get hp eq
          rw [List.getElem?_map] at hk
          cases ep : (rank fp D.sol)[i]? with
          | none => rw [ep] at hk; cases hk
          | some p =>
            rw [ep] at hk
            obtain rfl : kk = keyP fp p := (Option.some.inj hk).symm
            refine ⟨b, _, rfl, st_of (e5 _ _ r), rfl, _, _, rfl, _, _, rfl, rfl, ?_⟩
            have hz : (flatR fp ((rank fp D.sol).take i)).length ≤ 8 := by
              rw [flatR_len]
              have := List.length_take_le' i (rank fp D.sol)
              omega
            refine s_asgL (xs := vI (flatR fp ((rank fp D.sol).take (i + 1)))) (by
              rw [take_more ep, flatR_snoc]
              unfold vI
              rw [List.map_append]
              exact el_cat (l := r3) (xs := vI (flatR fp ((rank fp D.sol).take i))) (ev_var rfl) hr3 (el_lst (ea_cons (ev_var rfl) (ea_cons (ev_is (ev_un (ev_var rfl) ru_neg) (by show V.int (- -(fp p)) = _; rw [Int.neg_neg])) ea_nil)) (by show 2 ≤ 100000; decide)) (by unfold vI; rw [List.length_map]; show _ + 2 ≤ 100000; omega)) fun q2 H6 hq2 e6 h6 => ?_
            exact ⟨q2, _, _, rfl, e5.trans e6, h6⟩
      · rintro σ' H5 ⟨r3, v4, v5, rfl, e5, hr3⟩
        have la : as.length = (rank fp D.sol).length := by have := Paired.length hp; rw [List.length_map] at this; exact this
        rw [List.length_map, la, List.take_length] at hr3
        have O5 := O.mono (e14.trans e5)
        have hz : (flatR fp (rank fp D.sol)).length ≤ 8 := by rw [flatR_len]; omega
        have a0 : EvL (tLst (tCons (tFld K (tVar 0) "solvers") (tCons (tCB (rLenS K) (tCons (tVar 3) tNil)) tNil))) [some (.ref x), some (.ref p1), v2, some (.ref r3), v4, v5] H5 (vI [((D.sol : Nat) : Int), (((flatR fp (rank fp D.sol)).length : Nat) : Int)]) :=
          el_lst (ea_cons (ev_sol Dc O5 (ev_var rfl)) (ea_cons (ev_is (ev_len (ev_var rfl) (sq_of hr3)) (by unfold vI; rw [List.length_map])) ea_nil)) (by show 2 ≤ 100000; decide)
        refine s_retL (el_catR (l := r3) (ys := vI (flatR fp (rank fp D.sol))) a0 (ev_var rfl) hr3 (by unfold vI; rw [List.length_map, List.length_map]; show 2 + _ ≤ 100000; omega)) fun z H6 hz6 e6 h6 => k.go (e14.trans e5) hz6 e6 ?_
        rw [h6]
        unfold standA
        rw [hf]
        rfl
end
end Rd
set_option linter.all false
set_option maxRecDepth 100000
set_option maxHeartbeats 2000000
namespace Rd
open PySem PySem.Spec PyProof.Rows L2 Evl
/-! ### a call at the desk -/
def actD (D : Dk) (cn : Nat) (tl : List Nat) : Dk × List Int :=
  if cn = 0 then (if 1 ≤ tl.getD 0 0 ∧ tl.getD 0 0 ≤ 4 then (⟨tl.getD 0 0, r0, r0, []⟩, [0]) else (D, [-1]))
  else if cn = 1 then ({ D with rf := (deedM wantsF 5 fieldDeed D.rf tl).1 }, (deedM wantsF 5 fieldDeed D.rf tl).2)
  else if cn = 2 then ({ D with rh := (deedM wantsH 4 hallDeed D.rh tl).1 }, (deedM wantsH 4 hallDeed D.rh tl).2)
  else if cn = 11 then (D, standA D)
  else if cn = 12 then (D, stateA D)
  else if [3, 4, 5].contains cn = true then ofRid D cn tl
  else ofSheet D (cn, tl)
abbrev sAct : Stmt := inClass cDesk 3
abbrev nAct : List Str := ["self", "call", "told"]
theorem scAct : FnScope nAct ["self", "call", "told"] (defScope sAct) := ⟨rfl, rfl, rfl, by decide +kernel, rfl, by decide +kernel, by decide +kernel⟩
def spAct (c : Cs) : Sp := fun vs H Q _ => ∃ (x l : Addr) (A : DA) (D : Dk) (cn : Nat) (tl : List Nat), vs = [.ref x, vN cn, .ref l] ∧ OwnD c H x A D ∧ H l = some (.lst (vL tl)) ∧ OkC (cn, tl) ∧ BndD D 59 ∧ (kF.good (actD D cn tl).1.rf ∧ kH.good (actD D cn tl).1.rh) ∧ AftD c H x A (actD D cn tl).1 (actD D cn tl).2 Q
theorem okC_cases {cn : Nat} {tl : List Nat} (h : OkC (cn, tl)) : (cn = 1 ∨ cn = 2) ∨ (wantC.lookup cn = some tl.length ∧ cn ≤ 12) := by
  rcases h.kind with z | z | z
  · exact .inl (.inl z)
  · exact .inl (.inr z)
  · refine .inr ⟨z, ?_⟩
    have hq : cn = 0 ∨ cn = 3 ∨ cn = 4 ∨ cn = 5 ∨ cn = 6 ∨ cn = 7 ∨ cn = 8 ∨ cn = 9 ∨ cn = 10 ∨ cn = 11 ∨ cn = 12 := by simpa [wantC] using lookup_key z
    omega
section
variable {P : Program} {w : World} {K : PySem.W.Frag} {mg : Str → Option Value} {base : Heap} {c : Cs}
theorem ok_act {f : Addr} {fd : FuncData} (F : Fun K "act" "Desk.act" sAct f fd) (Dc : DC K c.D) (ap : c.Apart) (cf : Cls K c.F) (ch : Cls K c.H) (c0 : KInt mg "BEGINS_CALL" 0) (c1 : KInt mg "FIELD_CALL" 1) (c2 : KInt mg "HALL_CALL" 2) (fi : KInt mg "FIELD" 0) (hi : KInt mg "HALL" 1)
    (c11 : KInt mg "STANDING_CALL" 11) (c12 : KInt mg "STATE_CALL" 12) (c3 : KInt mg "GOOD_CALL" 3) (c4 : KInt mg "THIN_CALL" 4) (c5 : KInt mg "FILL_CALL" 5)
    (mB : Mt P w K mg base c.D 4 "begins" ["self", "solvers"] (spBegD c)) (dF : Mt P w K mg base c.F 8 "deed" ["self", "told"] (spDeed c.F kF wantsF 5 fieldDeed)) (dH : Mt P w K mg base c.H 8 "deed" ["self", "told"] (spDeed c.H kH wantsH 4 hallDeed))
    (mS : Mt P w K mg base c.D 2 "standing" ["self"] (spStand c)) (mT : Mt P w K mg base c.D 2 "state" ["self"] (spStateD c)) (mR : Mt P w K mg base c.D 7 "of_riddle" ["self", "call", "told"] (spOfRid c)) (mO : Mt P w K mg base c.D 7 "of_sheet" ["self", "call", "told"] (spOfSheet c)) :
    FnOk P w K mg base CX0 9 f fd ["self", "call", "told"] (spAct c) := by
  refine F.ok scAct (fun vs H Q E h => ?_) (fun cdv A0 outer s H vs Q E hr h => ?_)
  · obtain ⟨x, l, A, D, cn, tl, rfl, _⟩ := h; rfl
  · obtain ⟨f1, fd1, M1, G1, B1⟩ := mB
    obtain ⟨f2, fd2, M2, G2, B2⟩ := dF
    obtain ⟨f3, fd3, M3, G3, B3⟩ := dH
    obtain ⟨f4, fd4, M4, G4, B4⟩ := mS
    obtain ⟨f5, fd5, M5, G5, B5⟩ := mT
    obtain ⟨f6, fd6, M6, G6, B6⟩ := mR
    obtain ⟨f7, fd7, M7, G7, B7⟩ := mO
    obtain ⟨t0, c0⟩ := c0
    obtain ⟨t1, c1⟩ := c1
    obtain ⟨t2, c2⟩ := c2
    obtain ⟨ti, fi⟩ := fi
    obtain ⟨tj, hi⟩ := hi
    obtain ⟨t11, c11⟩ := c11
    obtain ⟨t12, c12⟩ := c12
    obtain ⟨t3, c3⟩ := c3
    obtain ⟨t4, c4⟩ := c4
    obtain ⟨t5, c5⟩ := c5
    refine ⟨_, pss_cons (ps_if (pt_cmpR op_eq (pv 1) (pe_glob (v := .int 0) rfl c0 ⟨_, rfl⟩) (nomark _)) (pss_one (ps_ret (pe_meth (pv 0) Dc.cl M1 G1 (hr.mono (by decide)) B1 .nil pass0 (pa_cons (pe_ix ix_list (pv 2) pe_int (fun _ _ => rfl)) pa_nil)))) pss_nil)
      (pss_cons (ps_if (pt_cmpR op_eq (pv 1) (pe_glob (v := .int 1) rfl c1 ⟨_, rfl⟩) (nomark _)) (pss_one (ps_ret (pe_meth (pe_ix ix_list (pe_fld (pv 0) rfl) (pe_glob (v := .int 0) rfl fi ⟨_, rfl⟩) (fun _ _ => rfl)) cf M2 G2 hr B2 .nil pass0 (pa_cons (pv 2) pa_nil)))) pss_nil)
      (pss_cons (ps_if (pt_cmpR op_eq (pv 1) (pe_glob (v := .int 2) rfl c2 ⟨_, rfl⟩) (nomark _)) (pss_one (ps_ret (pe_meth (pe_ix ix_list (pe_fld (pv 0) rfl) (pe_glob (v := .int 1) rfl hi ⟨_, rfl⟩) (fun _ _ => rfl)) ch M3 G3 hr B3 .nil pass0 (pa_cons (pv 2) pa_nil)))) pss_nil)
      (pss_cons (ps_if (pt_cmpR op_eq (pv 1) (pe_glob (v := .int 11) rfl c11 ⟨_, rfl⟩) (nomark _)) (pss_one (ps_ret (pe_meth0 (pv 0) Dc.cl M4 G4 (hr.mono (by decide)) B4 .nil pass0))) pss_nil)
      (pss_cons (ps_if (pt_cmpR op_eq (pv 1) (pe_glob (v := .int 12) rfl c12 ⟨_, rfl⟩) (nomark _)) (pss_one (ps_ret (pe_meth0 (pv 0) Dc.cl M5 G5 (hr.mono (by decide)) B5 .nil pass0))) pss_nil)
      (pss_cons (ps_if (pt_cmpR op_in_seq (pv 1) (pe_tup (pa_cons (pe_glob (v := .int 3) rfl c3 ⟨_, rfl⟩) (pa_cons (pe_glob (v := .int 4) rfl c4 ⟨_, rfl⟩) (pa_cons (pe_glob (v := .int 5) rfl c5 ⟨_, rfl⟩) pa_nil)))) (by rfl)) (pss_one (ps_ret (pe_meth (pv 0) Dc.cl M6 G6 (hr.mono (by decide)) B6 .nil pass0 (pa_cons (pv 1) (pa_cons (pv 2) pa_nil))))) pss_nil)
      (pss_one (ps_ret (pe_meth (pv 0) Dc.cl M7 G7 (hr.mono (by decide)) B7 .nil pass0 (pa_cons (pv 1) (pa_cons (pv 2) pa_nil)))))))))), ?_⟩
    obtain ⟨x, l, A, D, cn, tl, rfl, O, hl, ok, B, ⟨gf, gh⟩, k⟩ := h
    have cases := okC_cases ok
    unfold actD at k gf gh
    -- begins
    refine q_when (b := (cn == 0)) (et_test (ev_op (ev_var rfl) ev_c (rv_eqN (b := 0)))) (fun hc H1 e1 => ?_) (fun hc H1 e1 => ?_)
    · obtain rfl : cn = 0 := by simpa using hc
      rw [if_pos rfl] at k
      have hl1 : tl.length = 1 := by
        rcases cases with z | z
        · omega
        · exact (Option.some.inj (show some 1 = some tl.length from z.1)).symm
      have O1 := O.mono e1
      refine s_retG (ev_var rfl) O1.ins (dF_no _ _ _ (by decide +kernel)) (ea_cons (ev_told (j := 2) (i := 0) (n := tl.getD 0 0) rfl (e1 _ _ hl) (by rw [List.getD_eq_getElem?_getD, List.getElem?_eq_getElem (by omega)]; rfl)) ea_nil) fun H2 e2 => ?_
      have e12 := e1.trans e2
      refine ⟨x, A.dx, _, tl.getD 0 0, rfl, (O.mono e12).ins, .inr ⟨_, _, _, rfl⟩, fun hn H' A' k1 O' fr q hq => ?_, fun hn H' q e3 hq => ?_⟩
      · rw [if_pos hn] at k
        exact k.ex e12 H' A' q (k1.sub fun z hz => by rw [List.mem_singleton.mp hz]; simp [footD]) O' (fun z hz => (fr z hz).imp_left fun e => by rw [e]; simp [footD]) hq
      · rw [if_neg hn] at k
        exact k.same O (e12.trans e3) hq
    have n0 : cn ≠ 0 := by simpa using hc
    rw [if_neg n0] at k gf gh
    have O1 := O.mono e1
    have le : tl.length ≤ 1000 := Nat.le_trans ok.len (by decide)
    -- field
    refine q_when (b := (cn == 1)) (et_test (ev_op (ev_var rfl) ev_c (rv_eqN (b := 1)))) (fun hc H2 e2 => ?_) (fun hc H2 e2 => ?_)
    · obtain rfl : cn = 1 := by simpa using hc
      rw [if_pos rfl] at k gf gh
      have e02 := e1.trans e2
      have O2 := O.mono e02
      refine s_retG (x := A.fa) (ev_op (x := .ref A.ra) (y := vN 0) (ev_rid Dc O2 (ev_var rfl)) ev_c (rv_ixL (sq_of O2.ra) (atI_nat (j := 0) rfl))) O2.f.own.seen.ins (rF_no _ _ (by decide +kernel)) (ea_cons (ev_var rfl) ea_nil) fun H3 e3 => ?_
      have e03 := e02.trans e3
      have O3 := O.mono e03
      exact ⟨A.fa, l, A.df, D.rf, tl, rfl, O3.f.own, O3.f.good, O3.f.L, Nat.le_refl 5, O3.f.wd, e03 _ _ hl, le, AftD.field ap (k.ex e03) O3 gf⟩
    have n1 : cn ≠ 1 := by simpa using hc
    rw [if_neg n1] at k gf gh
    -- hall
    refine q_when (b := (cn == 2)) (et_test (ev_op (ev_var rfl) ev_c (rv_eqN (b := 2)))) (fun hc H3 e3 => ?_) (fun hc H3 e3 => ?_)
    · obtain rfl : cn = 2 := by simpa using hc
      rw [if_pos rfl] at k gf gh
      have e03 := (e1.trans e2).trans e3
      have O3 := O.mono e03
      refine s_retG (x := A.ha) (ev_op (x := .ref A.ra) (y := vN 1) (ev_rid Dc O3 (ev_var rfl)) ev_c (rv_ixL (sq_of O3.ra) (atI_nat (j := 1) rfl))) O3.h.own.seen.ins (rF_no _ _ (by decide +kernel)) (ea_cons (ev_var rfl) ea_nil) fun H4 e4 => ?_
      have e04 := e03.trans e4
      have O4 := O.mono e04
      exact ⟨A.ha, l, A.dh, D.rh, tl, rfl, O4.h.own, O4.h.good, O4.h.L, by decide, O4.h.wd, e04 _ _ hl, le, AftD.hall ap (k.ex e04) O4 gh⟩
    have n2 : cn ≠ 2 := by simpa using hc
    rw [if_neg n2] at k gf gh
    have wl : wantC.lookup cn = some tl.length ∧ cn ≤ 12 := by
      rcases cases with z | z
      · omega
      · exact z
    have e03 := (e1.trans e2).trans e3
    -- standing
    refine q_when (b := (cn == 11)) (et_test (ev_op (ev_var rfl) ev_c (rv_eqN (b := 11)))) (fun hc H4 e4 => ?_) (fun hc H4 e4 => ?_)
    · obtain rfl : cn = 11 := by simpa using hc
      rw [if_pos rfl] at k
      have e04 := e03.trans e4
      refine s_retG (vs := []) (ev_var rfl) (O.mono e04).ins (dF_no _ _ _ (by decide +kernel)) ea_nil fun H5 e5 => ?_
      have e05 := e04.trans e5
      exact ⟨x, A, D, rfl, O.mono e05, ⟨Nat.le_succ_of_le B.len, fun t ht => Nat.le_succ_of_le (B.marks t ht), B.begun, B.two, B.who, B.s1, B.s4⟩, fun z H6 hz e6 h6 => k.same O (e05.trans e6) h6⟩
    have n11 : cn ≠ 11 := by simpa using hc
    rw [if_neg n11] at k gf gh
    -- state
    refine q_when (b := (cn == 12)) (et_test (ev_op (ev_var rfl) ev_c (rv_eqN (b := 12)))) (fun hc H5 e5 => ?_) (fun hc H5 e5 => ?_)
    · obtain rfl : cn = 12 := by simpa using hc
      rw [if_pos rfl] at k
      have e05 := (e03.trans e4).trans e5
      refine s_retG (vs := []) (ev_var rfl) (O.mono e05).ins (dF_no _ _ _ (by decide +kernel)) ea_nil fun H6 e6 => ?_
      have e06 := e05.trans e6
      exact ⟨x, A, D, rfl, O.mono e06, Nat.le_succ_of_le B.len, fun z H7 hz e7 h7 => k.same O (e06.trans e7) h7⟩
    have n12 : cn ≠ 12 := by simpa using hc
    rw [if_neg n12] at k gf gh
    have e05 := (e03.trans e4).trans e5
    have hq : 3 ≤ cn ∧ cn ≤ 10 := by omega
    -- of a riddle
    refine q_when (b := [3, 4, 5].contains cn) (et_test (ev_is (ev_inTup (x := vN cn) (ys := vL [3, 4, 5]) (ev_var rfl) (ea_cons ev_c (ea_cons ev_c (ea_cons ev_c ea_nil))) (by decide) rfl (flat_vL _)) (by rw [inV_vL]))) (fun hc H6 e6 => ?_) (fun hc H6 e6 => ?_)
    · rw [if_pos hc] at k gf gh
      have e06 := e05.trans e6
      have h35 : cn = 3 ∨ cn = 4 ∨ cn = 5 := by simpa using hc
      refine s_retG (ev_var rfl) (O.mono e06).ins (dF_no _ _ _ (by decide +kernel)) (ea_cons (ev_var rfl) (ea_cons (ev_var rfl) ea_nil)) fun H7 e7 => ?_
      have e07 := e06.trans e7
      exact ⟨x, l, A, D, cn, tl, rfl, O.mono e07, e07 _ _ hl, by omega, by omega, wl.1, ⟨gf, gh⟩, k.ex e07⟩
    rw [if_neg (by rw [hc]; decide)] at k gf gh
    have h35 : ¬ (cn = 3 ∨ cn = 4 ∨ cn = 5) := by simpa using hc
    have e06 := e05.trans e6
    refine s_retG (ev_var rfl) (O.mono e06).ins (dF_no _ _ _ (by decide +kernel)) (ea_cons (ev_var rfl) (ea_cons (ev_var rfl) ea_nil)) fun H7 e7 => ?_
    have e07 := e06.trans e7
    exact ⟨x, l, A, D, (cn, tl), rfl, O.mono e07, e07 _ _ hl, by show 6 ≤ cn; omega, by show cn ≤ 10; omega, wl.1, B, k.ex e07⟩
end
end Rd
set_option linter.all false
set_option maxRecDepth 100000
set_option maxHeartbeats 2000000
namespace Rd
open PySem PySem.Spec PyProof.Rows L2 Evl
/-! ### a call, and the sheets behind it -/
abbrev sAnswer : Stmt := inClass cDesk 2
abbrev nAnswer : List Str := ["self", "call", "told", "before", "answered", "riddle"]
theorem scAnswer : FnScope nAnswer ["self", "call", "told"] (defScope sAnswer) := ⟨rfl, rfl, rfl, by decide +kernel, rfl, by decide +kernel, by decide +kernel⟩
def ansD (D : Dk) (cn : Nat) (tl : List Nat) : Dk := forgetD (actD D cn tl).1 D.rf D.rh
def spAnswer (c : Cs) : Sp := fun vs H Q _ => ∃ (x l : Addr) (A : DA) (D : Dk) (cn : Nat) (tl : List Nat), vs = [.ref x, vN cn, .ref l] ∧ OwnD c H x A D ∧ H l = some (.lst (vL tl)) ∧ OkC (cn, tl) ∧ BndD D 59 ∧ (kF.good (actD D cn tl).1.rf ∧ kH.good (actD D cn tl).1.rh) ∧ BndD (actD D cn tl).1 60 ∧ AftD c H x A (ansD D cn tl) (actD D cn tl).2 Q
section
variable {P : Program} {w : World} {K : PySem.W.Frag} {mg : Str → Option Value} {base : Heap} {c : Cs}
theorem ok_answer {f : Addr} {fd : FuncData} (F : Fun K "answer" "Desk.answer" sAnswer f fd) (Dc : DC K c.D) (cf : Cls K c.F) (ch : Cls K c.H)
    (mF : Mt P w K mg base c.F 1 "makeup" ["self"] (spMakeup c.F)) (mH : Mt P w K mg base c.H 1 "makeup" ["self"] (spMakeup c.H)) (mA : Mt P w K mg base c.D 9 "act" ["self", "call", "told"] (spAct c)) (mG : Mt P w K mg base c.D 2 "forget_sheets" ["self", "before"] (spForget c)) :
    FnOk P w K mg base CX0 10 f fd ["self", "call", "told"] (spAnswer c) := by
  refine F.ok scAnswer (fun vs H Q E h => ?_) (fun cdv A0 outer s H vs Q E hr h => ?_)
  · obtain ⟨x, l, A, D, cn, tl, rfl, _⟩ := h; rfl
  · obtain ⟨f1, fd1, M1, G1, B1⟩ := mF
    obtain ⟨f2, fd2, M2, G2, B2⟩ := mH
    obtain ⟨f3, fd3, M3, G3, B3⟩ := mA
    obtain ⟨f4, fd4, M4, G4, B4⟩ := mG
    refine ⟨_, pss_cons (ps_setLc (i := 3) (own := [("riddle", 5)]) (g := gName 5) (tt := tYes) (te := tMkp c 5) rfl scAnswer.nd rfl rfl (sw_true rfl rfl rfl (by decide +kernel)) (pi_list (pe_fld (pv 0) rfl)) (blkOk_by (N := nAnswer) (sc := defScope sAnswer) (by decide +kernel))
        (fun _ _ _ _ _ => pg_name (i := 5) scAnswer.nd rfl (Or.inl rfl)) (fun _ _ _ _ _ => pts_nil) (fun _ _ _ _ _ => pe_or (pe_meth0 (pv 5) cf M1 G1 (hr.mono (by decide)) B1 .nil pass0) (pe_meth0 (pv 5) ch M2 G2 (hr.mono (by decide)) B2 .nil pass0)))
      (pss_cons (ps_set (i := 4) scAnswer.nd rfl (Or.inl rfl) (pe_meth (pv 0) Dc.cl M3 G3 hr B3 .nil pass0 (pa_cons (pv 1) (pa_cons (pv 2) pa_nil))))
      (pss_cons (ps_expr (pe_meth (pv 0) Dc.cl M4 G4 (hr.mono (by decide)) B4 .nil pass0 (pa_cons (pv 3) pa_nil)))
      (pss_one (ps_ret (pv 4))))), ?_⟩
    obtain ⟨x, l, A, D, cn, tl, rfl, O, hl, ok, B, g, B', k⟩ := h
    refine q_asgP (ep_before (j := 5) (ev_rid Dc O (ev_var rfl)) O.ra O.isF O.isH (fun _ => rfl) (fun _ => rfl)) fun v H1 e1 ⟨b, t1, t2, ev, hb0, hb, m1, m2⟩ => ?_
    subst ev
    have O1 := O.mono e1
    -- the call
    refine ⟨_, rfl, x, A.dx, _, rfl, O1.ins, dF_no _ _ _ (by decide +kernel), _, rfl, _, rfl, ?_⟩
    refine ⟨x, l, A, D, cn, tl, rfl, O1, e1 _ _ hl, ok, B, g, fun H2 A2 p k2 O2 fr2 hp => ?_⟩
    have nb : b ∉ footD x A := fun z => O.there b z hb0
    have th : ∀ a ∈ footD x A, H a ≠ none := fun a h => O.there a h
    have hb2 := k2 _ _ hb nb
    have m1' := m1.kept k2 th
    have m2' := m2.kept k2 th
    -- what is forgotten
    refine ⟨_, rfl, x, A2.dx, _, rfl, O2.ins, dF_no _ _ _ (by decide +kernel), _, rfl, ?_⟩
    refine ⟨x, b, t1, t2, A2, (actD D cn tl).1, D.rf, D.rh, rfl, O2, hb2, m1'.is, m2'.is, ⟨O2.f.own.seen.ok.keys, O.f.own.seen.ok.keys⟩, ⟨O2.h.own.seen.ok.keys, O.h.own.seen.ok.keys⟩, B'.two, B'.len, fun H3 A3 k3 O3 fr3 => ?_⟩
    have hp3 : H3 p = some (.lst ((actD D cn tl).2.map V.int)) := k3 _ _ hp (by rw [List.mem_singleton]; exact OwnD.l_ins hp O2.ins)
    refine ⟨_, rfl, k H3 A3 p (fun y o hy hn => ?_) O3 (fun z hz => ?_) hp3⟩
    · refine k3 _ _ (k2 _ _ (e1 _ _ hy) hn) ?_
      rw [List.mem_singleton]
      intro e; rw [e] at hn; exact hn (by simp [footD])
    · by_cases c1 : z ∈ footD x A
      · exact .inl c1
      · refine .inr ?_
        have key : H2 z = none → H z = none := fun h => by
          cases e : H z with
          | none => rfl
          | some o => rw [k2 _ _ (e1 _ _ e) c1] at h; cases h
        rcases fr3 z hz with h | h
        · rcases fr2 z h with h2 | h2
          · exact absurd h2 c1
          · exact fresh_back e1 h2
        · exact key h
end
end Rd
set_option linter.all false
set_option maxRecDepth 100000
set_option maxHeartbeats 2000000
namespace Rd
open PySem PySem.Spec PyProof.Rows L2 Evl
/-! ### a call is the document's -/
structure LD (D : Dk) (S : Sy86.St) : Prop where
  f : LF D.rf S.field
  h : LH D.rh S.hall
  s : LS D.ts S.sheets
  so : D.sol = S.solvers
theorem LD.want {D : Dk} {S : Sy86.St} (L : LD D S) (k : Nat) : Sy86.cells S k = D.want k := wants_is L.f L.h k
theorem LD.ways {D : Dk} {S : Sy86.St} (L : LD D S) (k : Nat) : Sy86.ways S k = D.ways k := ways_are L.f L.h k
theorem LD.wrong {D : Dk} {S : Sy86.St} (L : LD D S) (p k : Nat) : Sy86.wrong S p k = (decide (D.sol ≤ p) || decide (2 ≤ k)) := by
  unfold Sy86.wrong
  rw [L.so]
  rfl
theorem BndD.mono {D : Dk} {n m : Nat} (B : BndD D n) (h : n ≤ m) : BndD D m := ⟨Nat.le_trans B.len h, fun t ht => Nat.le_trans (B.marks t ht) h, B.begun, B.two, B.who, B.s1, B.s4⟩
theorem BndD.ts {D D' : Dk} {n : Nat} (B : BndD D n) (e : D'.ts = D.ts) (es : D'.sol = D.sol) : BndD D' n := by
  refine ⟨?_, ?_, ?_, ?_, ?_, ?_, ?_⟩
  · rw [e]; exact B.len
  · rw [e]; exact B.marks
  · rw [e]; exact B.begun
  · rw [e]; exact B.two
  · rw [e, es]; exact B.who
  · rw [es]; exact B.s1
  · rw [es]; exact B.s4
theorem BndD.forget {D : Dk} {n : Nat} (B : BndD D n) (r1 r2 : R) : BndD (forgetD D r1 r2) n := by
  have sub : ∀ t ∈ (forgetD D r1 r2).ts, t ∈ D.ts := fun t ht => (List.mem_filter.mp (show t ∈ stayT _ _ D.ts from ht)).1
  exact ⟨Nat.le_trans (List.length_filter_le _ _) B.len, fun t ht => B.marks t (sub t ht), fun t ht => B.begun t (sub t ht), fun t ht => B.two t (sub t ht), fun t ht => B.who t (sub t ht), B.s1, B.s4⟩
/-- what a call gives, by what is told and what is true -/
structure Gives (D : Dk) (S : Sy86.St) (n : Nat) (X : Dk × List Int) (Y : Sy86.St × Sy86.Ans) : Prop where
  ld : LD (forgetD X.1 D.rf D.rh) Y.1
  ans : X.2 = Sy86Neutral.out Y.2
  bnd : BndD X.1 (n + 1)
  gf : kF.good X.1.rf
  gh : kH.good X.1.rh
section
variable {D : Dk} {S : Sy86.St} {n : Nat}
theorem gives_after (L : LD D S) (B : BndD D n) {D1 : Dk} {ans : List Int} {Y : Sy86.St × Sy86.Ans} {k : Nat} (hk : k < 2) (hs : D1.sol = D.sol) (ht : D1.ts = D.ts) (A : After S Y.1 k D.rf D.rh D1.rf D1.rh) (ha : ans = Sy86Neutral.out Y.2) : Gives D S n (D1, ans) Y := by
  refine ⟨⟨A.f, A.h, ?_, ?_⟩, ha, (B.ts ht hs).mono (Nat.le_succ n), A.f.good, A.h.good⟩
  · show LS (stayT (sameB D1.rf D.rf) (sameB D1.rh D.rh) D1.ts) Y.1.sheets
    rw [ht]
    exact L.s.stay A hk L.f.nums.nodup L.h.nums.nodup
  · show D1.sol = _
    rw [hs, L.so, A.so]
/-- the riddles are as they were -/
theorem same_true (L : LD D S) : sameB D.rf D.rf = true ∧ sameB D.rh D.rh = true := ⟨(sameB_iff L.f.nums.nodup L.f.nums.nodup).mpr (.refl _), (sameB_iff L.h.nums.nodup L.h.nums.nodup).mpr (.refl _)⟩
theorem gives_sheets (L : LD D S) {ts : List T} {ans : List Int} {Y : Sy86.St × Sy86.Ans} (hL : LS ts Y.1.sheets) (hf : Y.1.field = S.field) (hh : Y.1.hall = S.hall) (hs : Y.1.solvers = S.solvers) (hB : BndD { D with ts := ts } (n + 1)) (ha : ans = Sy86Neutral.out Y.2) : Gives D S n ({ D with ts := ts }, ans) Y := by
  obtain ⟨s1, s2⟩ := same_true L
  refine ⟨⟨by rw [hf]; exact L.f, by rw [hh]; exact L.h, ?_, by rw [hs]; exact L.so⟩, ha, hB, L.f.good, L.h.good⟩
  show LS (stayT (sameB D.rf D.rf) (sameB D.rh D.rh) ts) Y.1.sheets
  rw [s1, s2]
  have : stayT true true ts = ts := List.filter_eq_self.mpr fun t _ => by split <;> rfl
  rw [this]
  exact hL
theorem gives_pure (L : LD D S) (B : BndD D n) {ans : List Int} {Y : Sy86.St × Sy86.Ans} (hS : Y.1 = S) (ha : ans = Sy86Neutral.out Y.2) : Gives D S n (D, ans) Y := by
  have := gives_sheets (ts := D.ts) (n := n) L (Y := Y) (by rw [hS]; exact L.s) (by rw [hS]) (by rw [hS]) (by rw [hS]) (B.mono (Nat.le_succ n)) ha
  exact this
/-! begins -/
theorem g_begins (L : LD D S) (B : BndD D n) (m : Nat) : Gives D S n (if 1 ≤ m ∧ m ≤ 4 then (⟨m, r0, r0, []⟩, [0]) else (D, [-1])) (Sy86.step S (.begins m)) := by
  have e : Sy86.step S (.begins m) = if m < 1 ∨ 4 < m then (S, Sy86.ok (-1)) else ({ Sy86.init with solvers := m }, Sy86.ok 0) := rfl
  rw [e]
  by_cases h : 1 ≤ m ∧ m ≤ 4
  · rw [if_pos h, if_neg (by omega)]
    exact ⟨⟨lf_new, lh_new, ⟨.nil, .nil, fun t ht => nomatch ht⟩, rfl⟩, rfl, ⟨Nat.zero_le _, fun t ht => (by cases ht), fun t ht => (by cases ht), fun t ht => (by cases ht), fun t ht => (by cases ht), h.1, h.2⟩, lf_new.good, lh_new.good⟩
  · rw [if_neg h, if_pos (by omega)]
    exact gives_pure L B rfl rfl
/-! of a riddle -/
theorem g_good (L : LD D S) (B : BndD D n) (k : Nat) (hk : k < 2) : Gives D S n (D, goodO D k) (Sy86.step S (.good k)) := by
  have : k = 0 ∨ k = 1 := by omega
  rcases this with rfl | rfl
  · exact gives_pure L B rfl (d_good0 L.f L.h)
  · exact gives_pure L B rfl (d_good1 L.f L.h)
theorem g_thin (L : LD D S) (B : BndD D n) (k : Nat) (hk : k < 2) : Gives D S n (thinO D k) (Sy86.step S (.thin k)) := by
  have : k = 0 ∨ k = 1 := by omega
  rcases this with rfl | rfl
  · obtain ⟨h1, h2⟩ := d_thin0 L.f L.h
    exact gives_after L B (k := 0) hk rfl rfl h1 h2
  · obtain ⟨h1, h2⟩ := d_thin1 L.f L.h
    exact gives_after L B (k := 1) hk rfl rfl h1 h2
theorem g_fill (L : LD D S) (B : BndD D n) (k j : Nat) (hk : k < 2) : Gives D S n (fillO D k j) (Sy86.step S (.fill k j)) := by
  have : k = 0 ∨ k = 1 := by omega
  rcases this with rfl | rfl
  · obtain ⟨h1, h2⟩ := d_fill0 L.f L.h j
    exact gives_after L B (k := 0) hk rfl rfl h1 h2
  · obtain ⟨h1, h2⟩ := d_fill1 L.f L.h j
    exact gives_after L B (k := 1) hk rfl rfl h1 h2
theorem no_good {k : Nat} (h : 2 ≤ k) : Sy86.step S (.good k) = (S, Sy86.ok (-2)) := by
  have e : Sy86.step S (.good k) = (S, if 1 < k then Sy86.ok (-2) else
      let n := (Sy86.ways S k).length
      match Sy86.fewest S k with
      | none => ⟨0, [Sy86.ints [n, 0]]⟩
      | some l => ⟨if l.length = (Sy86.told S k).length then 1 else 0, [Sy86.ints [n, (Sy86.told S k).length - l.length]]⟩) := rfl
  rw [e, if_pos (show 1 < k from h)]
theorem no_thin {k : Nat} (h : 2 ≤ k) : Sy86.step S (.thin k) = (S, Sy86.ok (-2)) := by
  unfold Sy86.step
  simp only []
  rw [if_pos (show 1 < k from h)]
theorem no_fill {k j : Nat} (h : 2 ≤ k) : Sy86.step S (.fill k j) = (S, Sy86.ok (-2)) := by
  unfold Sy86.step
  simp only []
  rw [if_pos (show 1 < k from h)]
/-! the sheets -/
theorem ls_uniq {ts : List T} {ss : List Sy86.Sheet} (L : LS ts ss) : ts.Pairwise fun a b => ¬ (a.who = b.who ∧ a.which = b.which) := by
  have key : ∀ {ts : List T} {ss : List Sy86.Sheet}, Paired LT ts ss → (ss.Pairwise fun a b => ¬ (a.who = b.who ∧ a.which = b.which)) → ts.Pairwise fun a b => ¬ (a.who = b.who ∧ a.which = b.which) := by
    intro ts ss h
    induction h with
    | nil => intro _; exact .nil
    | @cons a b ts ss r rs ih =>
      intro hp
      have hc := List.pairwise_cons.mp hp
      refine List.pairwise_cons.mpr ⟨fun t ht => ?_, ih hc.2⟩
      obtain ⟨s, hs, r2⟩ := Paired.mem_left rs ht
      rw [r.who, r.which, r2.who, r2.which]
      exact hc.1 s hs
  exact key L.pair L.one
theorem putT_putI {p k : Nat} {t : T} : ∀ {ts : List T}, (ts.Pairwise fun a b => ¬ (a.who = b.who ∧ a.which = b.which)) → putT ts p k t = putI ts (ts.findIdx? (keyT p k)) t
  | [], _ => rfl
  | a :: ts, h => by
    have hc := List.pairwise_cons.mp h
    have ih := putT_putI (p := p) (k := k) (t := t) hc.2
    rw [List.findIdx?_cons]
    by_cases e : keyT p k a = true
    · rw [if_pos e]
      show (if (a :: ts).any (keyT p k) = true then (a :: ts).map (fun u => if keyT p k u = true then t else u) else (a :: ts) ++ [t]) = t :: ts
      rw [List.any_cons, e, Bool.true_or, if_pos rfl, List.map_cons, if_pos e]
      congr 1
      conv => rhs; rw [← List.map_id ts]
      apply List.map_congr_left
      intro u hu
      rw [if_neg]
      · rfl
      · intro e2
        unfold keyT at e e2
        rw [Bool.and_eq_true, beq_iff_eq, beq_iff_eq] at e e2
        exact hc.1 u hu ⟨by rw [e.1, e2.1], by rw [e.2, e2.2]⟩
    · rw [if_neg e]
      unfold putT at ih ⊢
      rw [List.any_cons, Bool.eq_false_iff.mpr e, Bool.false_or]
      by_cases e3 : ts.any (keyT p k) = true
      · rw [if_pos e3, List.map_cons, if_neg e]
        rw [if_pos e3] at ih
        rw [ih]
        cases hf : ts.findIdx? (keyT p k) with
        | none =>
          rw [List.findIdx?_eq_none_iff] at hf
          obtain ⟨u, hu, eu⟩ := List.any_eq_true.mp e3
          rw [hf u hu] at eu; cases eu
        | some i => rfl
      · rw [if_neg e3]
        rw [if_neg e3] at ih
        have hf : ts.findIdx? (keyT p k) = none := by
          rw [List.findIdx?_eq_none_iff]
          intro u hu
          cases eu : keyT p k u with
          | false => rfl
          | true => exact absurd (List.any_eq_true.mpr ⟨u, hu, eu⟩) e3
        rw [hf]
        rfl
/-- where the sheet stands, if it stands -/
theorem sheet_cases (ts : List T) (p k : Nat) : (∃ i t, ts.findIdx? (keyT p k) = some i ∧ ts[i]? = some t ∧ sheetT ts p k = t ∧ t ∈ ts) ∨ (ts.findIdx? (keyT p k) = none ∧ sheetT ts p k = tNew p k) := by
  cases h : ts.findIdx? (keyT p k) with
  | none =>
    refine .inr ⟨rfl, ?_⟩
    rw [List.findIdx?_eq_none_iff] at h
    exact (find_no (List.find?_eq_none.mpr fun x hx => by rw [h x hx]; decide)).2
  | some i =>
    rw [List.findIdx?_eq_some_iff_getElem] at h
    obtain ⟨hi, hk, hb⟩ := h
    have hn : (ts.take i).find? (keyT p k) = none := List.find?_eq_none.mpr fun x hx => by
      obtain ⟨j, hj, e⟩ := List.getElem_of_mem hx
      rw [List.getElem_take] at e
      have hj2 : j < i := by rw [List.length_take] at hj; omega
      rw [← e]
      exact hb j hj2
    have ht : ts[i]? = some ts[i] := List.getElem?_eq_getElem hi
    exact .inl ⟨i, ts[i], rfl, ht, (find_at ht hn hk).2, List.getElem_mem hi⟩
theorem BndD.put (B : BndD D n) {i : Option Nat} {t : T} (hm : t.marks.length ≤ n + 1) (hb : 0 < begunT t) (h2 : t.which < 2) (hw : t.who < D.sol) : BndD { D with ts := putI D.ts i t } (n + 1) := by
  have mem : ∀ u ∈ putI D.ts i t, u ∈ D.ts ∨ u = t := fun u hu => by
    cases i with
    | none =>
      rcases List.mem_append.mp hu with h | h
      · exact .inl h
      · exact .inr (List.mem_singleton.mp h)
    | some i => exact List.mem_or_eq_of_mem_set hu
  have ml := B.len
  refine ⟨?_, fun u hu => ?_, fun u hu => ?_, fun u hu => ?_, fun u hu => ?_, B.s1, B.s4⟩
  · cases i with
    | none => show (D.ts ++ [t]).length ≤ _; rw [List.length_append]; exact Nat.succ_le_succ ml
    | some i => show (D.ts.set i t).length ≤ _; rw [List.length_set]; omega
  · rcases mem u hu with h | h
    · exact Nat.le_succ_of_le (B.marks u h)
    · rw [h]; exact hm
  · rcases mem u hu with h | h
    · exact B.begun u h
    · rw [h]; exact hb
  · rcases mem u hu with h | h
    · exact B.two u h
    · rw [h]; exact h2
  · rcases mem u hu with h | h
    · exact B.who u h
    · rw [h]; exact hw
theorem set_same {ts : List T} {i : Nat} {t : T} (h : ts[i]? = some t) : ts.set i t = ts := by
  obtain ⟨hi, e⟩ := List.getElem?_eq_some_iff.mp h
  rw [← e]
  exact List.set_getElem_self hi
end
end Rd
set_option linter.all false
set_option maxRecDepth 100000
set_option maxHeartbeats 2000000
namespace Rd
open PySem PySem.Spec PyProof.Rows L2 Evl
/-! ### the calls of a sheet are the document's -/
section
variable {D : Dk} {S : Sy86.St} {n : Nat}
theorem sheet_facts (L : LD D S) (B : BndD D n) (p k : Nat) : LT (sheetT D.ts p k) (Sy86.sheetOf S p k) ∧ (Sy86.sheetOf S p k).who = p ∧ (Sy86.sheetOf S p k).which = k ∧ (sheetT D.ts p k).who = p ∧ (sheetT D.ts p k).which = k ∧ (sheetT D.ts p k).marks.length ≤ n := by
  obtain ⟨h1, h2, h3⟩ := L.s.sheet p k
  refine ⟨h1, h2, h3, by rw [h1.who, h2], by rw [h1.which, h3], ?_⟩
  rcases sheet_cases D.ts p k with ⟨i, t, _, _, e, hm⟩ | ⟨_, e⟩
  · rw [e]; exact B.marks t hm
  · rw [e]; exact Nat.zero_le _
theorem g_wrong (L : LD D S) (B : BndD D n) {Y : Sy86.St × Sy86.Ans} (h : Y = (S, Sy86.ok (-2))) : Gives D S n (D, [-2]) Y := by
  rw [h]; exact gives_pure L B rfl rfl
theorem g_mark (L : LD D S) (B : BndD D n) (p k x v : Nat) (hw : Sy86.wrong S p k = false) : Gives D S n (markTo D k x v (D.ts.findIdx? (keyT p k)) (sheetT D.ts p k)) (Sy86.step S (.mark p k x v)) := by
  obtain ⟨l1, l2, l3, l4, l5, l6⟩ := sheet_facts L B p k
  have hw' := hw
  rw [L.wrong, Bool.or_eq_false_iff, decide_eq_false_iff_not, decide_eq_false_iff_not] at hw'
  by_cases hb : (!(D.want k).contains x || ![1, 2].contains v) = true
  · have e : Sy86.step S (.mark p k x v) = (S, Sy86.ok (-1)) := by
      unfold Sy86.step
      simp only []
      rw [if_neg (by rw [hw]; decide), if_pos]
      rw [L.want]
      rw [Bool.or_eq_true] at hb
      rcases hb with hb | hb
      · exact .inl (by simpa using hb)
      · refine .inr ?_
        have hb : ¬ (v = 1 ∨ v = 2) := by simpa using hb
        omega
    rw [e]
    unfold markTo
    rw [if_pos hb]
    exact gives_pure L B rfl rfl
  · have h2 : (Sy86.cells S k).contains x = true := by
      rw [L.want]
      cases hc : (D.want k).contains x with
      | true => rfl
      | false => rw [hc] at hb; exact absurd rfl hb
    have h3 : 1 ≤ v ∧ v ≤ 2 := by
      have : [1, 2].contains v = true := by
        cases hc : [1, 2].contains v with
        | true => rfl
        | false => rw [hc] at hb; simp at hb
      have : v = 1 ∨ v = 2 := by simpa using this
      omega
    unfold markTo
    rw [if_neg hb]
    unfold markA
    by_cases hm : hasM (sheetT D.ts p k) x = true
    · have e : Sy86.step S (.mark p k x v) = (S, Sy86.ok (-4)) := by
        unfold Sy86.step
        simp only []
        rw [if_neg (by rw [hw]; decide), if_neg (by rw [h2]; simp; omega), if_pos (by rw [l1.has]; exact hm)]
      rw [e, if_pos hm]
      rcases sheet_cases D.ts p k with ⟨i, t, ei, et, es, _⟩ | ⟨_, es⟩
      · rw [ei, es]
        have : ({ D with ts := putI D.ts (some i) t } : Dk) = D := by
          show ({ D with ts := D.ts.set i t } : Dk) = D
          rw [set_same et]
        show Gives D S n ({ D with ts := putI D.ts (some i) t }, [-4]) _
        rw [this]
        exact gives_pure L B rfl rfl
      · rw [es] at hm
        cases hm
    · have hm' : Sy86.isMarked (Sy86.sheetOf S p k).marks x = false := by
        rw [l1.has]; exact Bool.eq_false_iff.mpr hm
      obtain ⟨m1, m2, m3, m4, m5⟩ := d_mark L.s p k x v hw h2 h3 hm'
      rw [if_neg hm, ← putT_putI (ls_uniq L.s), ← L.ways]
      have w := markM_who (Sy86.ways S k) (sheetT D.ts p k) x v
      refine gives_sheets L m1 m2 m3 m4 ?_ m5
      rw [putT_putI (ls_uniq L.s)]
      refine B.put (Nat.le_trans (markM_len _ _ _ _) (Nat.succ_le_succ l6)) ?_ ?_ ?_
      · rw [markM_begun]; exact Nat.succ_pos _
      · rw [w.2, l5]; omega
      · rw [w.1, l4]; omega
theorem g_rub (L : LD D S) (B : BndD D n) (p k x : Nat) (hw : Sy86.wrong S p k = false) : Gives D S n (rubTo D x (D.ts.findIdx? (keyT p k)) (sheetT D.ts p k)) (Sy86.step S (.rub p k x)) := by
  obtain ⟨l1, l2, l3, l4, l5, l6⟩ := sheet_facts L B p k
  have hw' := hw
  rw [L.wrong, Bool.or_eq_false_iff, decide_eq_false_iff_not, decide_eq_false_iff_not] at hw'
  by_cases hm : hasM (sheetT D.ts p k) x = true
  · have e : Sy86.step S (.rub p k x) = ({ S with sheets := Sy86.put S { Sy86.sheetOf S p k with marks := (Sy86.sheetOf S p k).marks.filter fun (z : Nat × Nat) => z.1 != x } }, Sy86.ok (((Sy86.sheetOf S p k).marks.filter fun (z : Nat × Nat) => z.1 != x).length : Nat)) := by
      unfold Sy86.step
      simp only []
      rw [if_neg (by rw [hw]; decide), if_neg (by rw [l1.has, hm]; decide)]
    rw [e]
    have lr := l1.rub x
    have := L.s.put (S := S) (t' := rubT (sheetT D.ts p k) x) lr (by show (Sy86.sheetOf S p k).which < 2; rw [l3]; omega)
    have this : LS (putT D.ts (Sy86.sheetOf S p k).who (Sy86.sheetOf S p k).which (rubT (sheetT D.ts p k) x)) _ := this
    have hput : putT D.ts (Sy86.sheetOf S p k).who (Sy86.sheetOf S p k).which (rubT (sheetT D.ts p k) x) = putI D.ts (D.ts.findIdx? (keyT p k)) (rubT (sheetT D.ts p k) x) := by rw [l2, l3, putT_putI (ls_uniq L.s)]
    rw [hput] at this
    have hlen : (rubT (sheetT D.ts p k) x).marks.length = ((Sy86.sheetOf S p k).marks.filter fun (z : Nat × Nat) => z.1 != x).length := lr.len
    rcases sheet_cases D.ts p k with ⟨i, t, ei, et, es, hmem⟩ | ⟨_, es⟩
    · have hb : rubTo D x (D.ts.findIdx? (keyT p k)) (sheetT D.ts p k) = ({ D with ts := putI D.ts (D.ts.findIdx? (keyT p k)) (rubT (sheetT D.ts p k) x) }, [(((rubT (sheetT D.ts p k) x).marks.length : Nat) : Int)]) := by
        rw [ei]
        unfold rubTo rubA
        simp only []
        rw [if_pos hm]
        rfl
      rw [hb]
      refine gives_sheets L this rfl rfl rfl ?_ ?_
      · refine B.put (Nat.le_trans (List.length_filter_le _ _) (Nat.le_succ_of_le l6)) ?_ ?_ ?_
        · show 0 < begunT (sheetT D.ts p k); rw [es]; exact B.begun t hmem
        · show (sheetT D.ts p k).which < 2; rw [l5]; omega
        · show (sheetT D.ts p k).who < _; rw [l4]; omega
      · rw [hlen]; rfl
    · rw [es] at hm
      cases hm
  · have e : Sy86.step S (.rub p k x) = (S, Sy86.ok (-4)) := by
      unfold Sy86.step
      simp only []
      rw [if_neg (by rw [hw]; decide), if_pos (by rw [l1.has]; exact Bool.eq_false_iff.mpr hm)]
    rw [e]
    rcases sheet_cases D.ts p k with ⟨i, t, ei, et, es, _⟩ | ⟨ei, es⟩
    · rw [ei]
      unfold rubTo rubA
      simp only []
      rw [if_neg hm, es, set_same et]
      exact gives_pure L B rfl rfl
    · rw [ei]
      unfold rubTo rubA
      simp only []
      rw [if_neg hm]
      exact gives_pure L B rfl rfl
theorem g_next (L : LD D S) (B : BndD D n) (p k : Nat) (hw : Sy86.wrong S p k = false) : Gives D S n (D, nextA (D.ways k) (D.want k) (sheetT D.ts p k)) (Sy86.step S (.next p k)) := by
  obtain ⟨l1, _⟩ := sheet_facts L B p k
  refine gives_pure L B rfl ?_
  rw [← L.ways, ← L.want, nextT_is l1]
  have e : Sy86.step S (.next p k) = (S, if Sy86.wrong S p k = true then Sy86.ok (-2) else
      let t := Sy86.sheetOf S p k
      if (Sy86.cells S k).all (Sy86.isMarked t.marks) = true then Sy86.ok (-4) else match (if (Sy86.left S k t.marks).isEmpty = true then none else Sy86.nextSure S k t.marks) with
        | none => Sy86.ok (-6)
        | some z => ⟨(z.1 : Nat), [[(z.2 : Int)]]⟩) := rfl
  rw [e, if_neg (show ¬ Sy86.wrong S p k = true by rw [hw]; decide)]
  all_goals rfl
theorem g_sheet (L : LD D S) (B : BndD D n) (p k : Nat) (hw : Sy86.wrong S p k = false) : Gives D S n (D, shownA (sheetT D.ts p k)) (Sy86.step S (.sheet p k)) := by
  obtain ⟨l1, _⟩ := sheet_facts L B p k
  refine gives_pure L B rfl ?_
  rw [shownT_is l1]
  have e : Sy86.step S (.sheet p k) = (S, if Sy86.wrong S p k = true then Sy86.ok (-2) else
      let t := Sy86.sheetOf S p k
      ⟨(t.marks.length : Nat), [Sy86.ints (t.marks.flatMap fun (z : Nat × Nat) => [z.1, z.2]), Sy86.ints [t.sure, t.may, t.slips]]⟩) := rfl
  rw [e, if_neg (show ¬ Sy86.wrong S p k = true by rw [hw]; decide)]
theorem g_done (L : LD D S) (B : BndD D n) (p k : Nat) (hw : Sy86.wrong S p k = false) : Gives D S n (D, doneA (D.ways k) (D.want k) (sheetT D.ts p k)) (Sy86.step S (.done p k)) := by
  obtain ⟨l1, _⟩ := sheet_facts L B p k
  refine gives_pure L B rfl ?_
  rw [← L.ways, ← L.want, doneT_is l1]
  have e : Sy86.step S (.done p k) = (S, if Sy86.wrong S p k = true then Sy86.ok (-2) else Sy86.ok (if Sy86.isDone S k (Sy86.sheetOf S p k).marks = true then 1 else 0)) := rfl
  rw [e, if_neg (show ¬ Sy86.wrong S p k = true by rw [hw]; decide)]
theorem wrong_step (S : Sy86.St) {p k : Nat} (hw : Sy86.wrong S p k = true) : (∀ x v, Sy86.step S (.mark p k x v) = (S, Sy86.ok (-2))) ∧ (∀ x, Sy86.step S (.rub p k x) = (S, Sy86.ok (-2))) ∧ Sy86.step S (.next p k) = (S, Sy86.ok (-2)) ∧ Sy86.step S (.sheet p k) = (S, Sy86.ok (-2)) ∧ Sy86.step S (.done p k) = (S, Sy86.ok (-2)) := by
  refine ⟨fun x v => ?_, fun x => ?_, ?_, ?_, ?_⟩
  all_goals
    unfold Sy86.step
    simp only []
    rw [if_pos hw]
/-! standing, state -/
theorem rank_is (L : LD D S) : rank (ptsT D.ts) D.sol = Sy86.standing S ∧ ∀ p, ptsT D.ts p = Sy86.points S p := by
  have hp : ∀ p, ptsT D.ts p = Sy86.points S p := fun p => points_is L.s p
  refine ⟨?_, hp⟩
  have hi : ∀ (p : Nat) (l : List Nat), rankI (ptsT D.ts) p l = Sy86.insertSolver S p l := by
    intro p l
    induction l with
    | nil => rfl
    | cons q l ih =>
      unfold rankI Sy86.insertSolver
      rw [hp, hp, ih]
  unfold rank Sy86.standing
  rw [L.so]
  congr 1
  funext m p
  exact hi p m
theorem g_stand (L : LD D S) (B : BndD D n) : Gives D S n (D, standA D) (Sy86.step S .standing) := by
  obtain ⟨h1, h2⟩ := rank_is L
  refine gives_pure L B rfl ?_
  have e : Sy86.step S .standing = (S, ⟨(S.solvers : Nat), [(Sy86.standing S).flatMap fun (p : Nat) => [(p : Int), Sy86.points S p]]⟩) := rfl
  rw [e]
  unfold standA
  have hf : flatR (ptsT D.ts) (rank (ptsT D.ts) D.sol) = (Sy86.standing S).flatMap fun (p : Nat) => [(p : Int), Sy86.points S p] := by
    unfold flatR
    rw [h1]
    congr 1
    funext p
    rw [h2]
  rw [hf, L.so]
  show _ = ((S.solvers : Nat) : Int) :: ((((Sy86.standing S).flatMap fun (p : Nat) => [(p : Int), Sy86.points S p]).length : Int) :: ((Sy86.standing S).flatMap fun (p : Nat) => [(p : Int), Sy86.points S p]) ++ [])
  rw [List.append_nil]
theorem rows_is {ts : List T} {ss : List Sy86.Sheet} (h : Paired LT ts ss) : ts.flatMap rowT = ss.flatMap fun (t : Sy86.Sheet) => [t.who, t.which, t.marks.length, t.sure, t.may, t.slips] := by
  induction h with
  | nil => rfl
  | @cons a b ts ss r _ ih =>
    rw [List.flatMap_cons, List.flatMap_cons, ih]
    congr 1
    show [a.who, a.which, a.marks.length, a.sure, a.may, a.slips] = _
    rw [r.who, r.which, r.len, r.sure, r.may, r.slips]
theorem g_state (L : LD D S) (B : BndD D n) : Gives D S n (D, stateA D) (Sy86.step S .state) := by
  refine gives_pure L B rfl ?_
  have e : Sy86.step S .state = (S, ⟨(S.solvers : Nat), [Sy86.ints (S.sheets.flatMap fun (t : Sy86.Sheet) => [t.who, t.which, t.marks.length, t.sure, t.may, t.slips])]⟩) := rfl
  rw [e]
  unfold stateA
  rw [rows_is L.s.pair, L.so]
  show _ = ((S.solvers : Nat) : Int) :: ((((Sy86.ints (S.sheets.flatMap fun (t : Sy86.Sheet) => [t.who, t.which, t.marks.length, t.sure, t.may, t.slips])).length : Nat) : Int) :: Sy86.ints (S.sheets.flatMap fun (t : Sy86.Sheet) => [t.who, t.which, t.marks.length, t.sure, t.may, t.slips]) ++ [])
  rw [List.append_nil, castL_app]
  unfold Sy86.ints
  rw [List.length_map]
  rfl
/-! every call -/
theorem g_call (L : LD D S) (B : BndD D n) {cn : Nat} {tl : List Nat} (ok : OkC (cn, tl)) : Gives D S n (actD D cn tl) (Sy86.step S (callC (cn, tl))) := by
  rcases okC_cases ok with (rfl | rfl) | ⟨hw, h12⟩
  · obtain ⟨h1, h2⟩ := d_field L.f L.h tl
    exact gives_after L B (k := 0) (by decide) rfl rfl h1 h2
  · obtain ⟨h1, h2⟩ := d_hall L.f L.h tl
    exact gives_after L B (k := 1) (by decide) rfl rfl h1 h2
  · have hq : cn = 0 ∨ cn = 3 ∨ cn = 4 ∨ cn = 5 ∨ cn = 6 ∨ cn = 7 ∨ cn = 8 ∨ cn = 9 ∨ cn = 10 ∨ cn = 11 ∨ cn = 12 := by simpa [wantC] using lookup_key hw
    have hsh : ∀ {X : Dk × List Int} {Y : Sy86.St × Sy86.Ans}, 6 ≤ cn → cn ≤ 10 → actD D cn tl = ofSheet D (cn, tl) → (Sy86.wrong S (tl.getD 0 0) (tl.getD 1 0) = true → Y = (S, Sy86.ok (-2))) → (Sy86.wrong S (tl.getD 0 0) (tl.getD 1 0) = false → Gives D S n (ofSheet2 D cn tl (D.ts.findIdx? (keyT (tl.getD 0 0) (tl.getD 1 0))) (sheetT D.ts (tl.getD 0 0) (tl.getD 1 0))) Y) → Gives D S n (actD D cn tl) Y := by
      intro X Y _ _ e h1 h2
      rw [e]
      have hE : ofSheet D (cn, tl) = if (decide (D.sol ≤ tl.getD 0 0) || decide (2 ≤ tl.getD 1 0)) = true then (D, [-2]) else ofSheet2 D cn tl (D.ts.findIdx? (keyT (tl.getD 0 0) (tl.getD 1 0))) (sheetT D.ts (tl.getD 0 0) (tl.getD 1 0)) := rfl
      rw [hE]
      have hwr := L.wrong (tl.getD 0 0) (tl.getD 1 0)
      by_cases c : (decide (D.sol ≤ tl.getD 0 0) || decide (2 ≤ tl.getD 1 0)) = true
      · rw [if_pos c]; exact g_wrong L B (h1 (by rw [hwr]; exact c))
      · rw [if_neg c]; exact h2 (by rw [hwr]; exact Bool.eq_false_iff.mpr c)
    have W := fun h => wrong_step S (p := tl.getD 0 0) (k := tl.getD 1 0) h
    have hrd : ∀ {Y : Sy86.St × Sy86.Ans}, actD D cn tl = ofRid D cn tl → (2 ≤ tl.getD 0 0 → Y = (S, Sy86.ok (-2))) → (tl.getD 0 0 < 2 → Gives D S n (if cn = 3 then (D, goodO D (tl.getD 0 0)) else if cn = 4 then thinO D (tl.getD 0 0) else fillO D (tl.getD 0 0) (tl.getD 1 0)) Y) → Gives D S n (actD D cn tl) Y := by
      intro Y e h1 h2
      rw [e]
      unfold ofRid
      by_cases c : decide (2 ≤ tl.getD 0 0) = true
      · rw [if_pos c]; exact g_wrong L B (h1 (of_decide_eq_true c))
      · rw [if_neg c]; exact h2 (by have := of_decide_eq_false (Bool.eq_false_iff.mpr c); omega)
    rcases hq with rfl | rfl | rfl | rfl | rfl | rfl | rfl | rfl | rfl | rfl | rfl
    · exact g_begins L B _
    · exact hrd rfl no_good (g_good L B _)
    · exact hrd rfl no_thin (g_thin L B _)
    · exact hrd rfl no_fill (g_fill L B _ _)
    · exact hsh (X := (D, [])) (by decide) (by decide) rfl (fun h => (W h).1 _ _) (g_mark L B _ _ _ _)
    · exact hsh (X := (D, [])) (by decide) (by decide) rfl (fun h => (W h).2.1 _) (g_rub L B _ _ _)
    · exact hsh (X := (D, [])) (by decide) (by decide) rfl (fun h => (W h).2.2.1) (g_next L B _ _)
    · exact hsh (X := (D, [])) (by decide) (by decide) rfl (fun h => (W h).2.2.2.1) (g_sheet L B _ _)
    · exact hsh (X := (D, [])) (by decide) (by decide) rfl (fun h => (W h).2.2.2.2) (g_done L B _ _)
    · exact g_stand L B
    · exact g_state L B
end
/-- a new desk -/
theorem ld_new : LD ⟨1, r0, r0, []⟩ Sy86.init := ⟨lf_new, lh_new, ⟨.nil, .nil, fun t ht => nomatch ht⟩, rfl⟩
theorem bnd_new : BndD ⟨1, r0, r0, []⟩ 0 := ⟨Nat.le_refl _, fun t ht => (by cases ht), fun t ht => (by cases ht), fun t ht => (by cases ht), fun t ht => (by cases ht), Nat.le_refl _, by decide⟩
end Rd
set_option linter.all false
set_option maxRecDepth 100000
set_option maxHeartbeats 2000000
namespace Rd
open PySem PySem.Spec PyProof.Rows L2 Evl
/-! ### a list of calls, one behind another -/
def runC (S : Sy86.St) (cs : List CC) : Sy86.St := cs.foldl (fun S c => (Sy86.step S (callC c)).1) S
theorem play_app : ∀ (cs ds : List CC) (S : Sy86.St), playC S (cs ++ ds) = playC S cs ++ playC (runC S cs) ds
  | [], _, _ => rfl
  | c :: cs, ds, S => by
    show Sy86Neutral.out (Sy86.step S (callC c)).2 :: playC (Sy86.step S (callC c)).1 (cs ++ ds) = _
    rw [play_app cs ds]
    rfl
theorem run_snoc (S : Sy86.St) (cs : List CC) (c : CC) : runC S (cs ++ [c]) = (Sy86.step (runC S cs) (callC c)).1 := by
  unfold runC; rw [List.foldl_append]; rfl
theorem told_app (a b : List (List Int)) : PyFlat.told (a ++ b) = PyFlat.told a ++ PyFlat.told b := by
  unfold PyFlat.told; rw [List.flatMap_append]
theorem told_snoc (S : Sy86.St) (cs : List CC) (c : CC) : PyFlat.told (playC S (cs ++ [c])) = PyFlat.told (playC S cs) ++ [((Sy86Neutral.out (Sy86.step (runC S cs) (callC c)).2).length : Int)] ++ Sy86Neutral.out (Sy86.step (runC S cs) (callC c)).2 := by
  rw [play_app, told_app, List.append_assoc]
  congr 1
  show ((Sy86Neutral.out (Sy86.step (runC S cs) (callC c)).2).length : Int) :: (Sy86Neutral.out (Sy86.step (runC S cs) (callC c)).2 ++ []) = _
  rw [List.append_nil]
  rfl
theorem told_len : ∀ l : List (List Int), (PyFlat.told l).length = l.length + l.flatten.length
  | [] => rfl
  | a :: l => by
    have ih := told_len l
    have e : PyFlat.told (a :: l) = (a.length : Int) :: (a ++ PyFlat.told l) := rfl
    rw [e, List.length_cons, List.length_append, ih, List.flatten_cons, List.length_append, List.length_cons]
    omega
theorem play_len : ∀ (cs : List CC) (S : Sy86.St), (playC S cs).length = cs.length
  | [], _ => rfl
  | c :: cs, S => congrArg (· + 1) (play_len cs _)
theorem play_take {cs : List CC} {S : Sy86.St} (i : Nat) : (playC S (cs.take i)).flatten.length ≤ (playC S cs).flatten.length := by
  conv => rhs; rw [← List.take_append_drop i cs]
  rw [play_app, List.flatten_append, List.length_append]
  exact Nat.le_add_right _ _
section
variable {σ : L2.St} {H : Hp} {te ta : TE} {K : PySem.W.Frag} {D : Ends} {tz : TS}
/-- l.append(x), l of any length -/
theorem q_appW {l : Addr} {xs : List V} {v : V} (hl : H l = some (.lst xs)) (ha : Ev ta σ H (.ref l)) (h : Ev te σ H v) (hz : xs.length < sizeLine) (k : ∀ H1, Ex H H1 → tz D σ (upd H1 l (.lst (xs ++ [v])))) :
    tSeq (tDrop (tBM K "list" rAppend ta (tCons te tNil))) tz D σ H := ha H (Ex.refl H) _ fun H1 e1 =>
  ⟨Or.inl ⟨rfl, xs, sq_of (e1 l _ hl)⟩, h H1 e1 _ fun H2 e2 => ⟨l, xs, v, rfl, rfl, e2 l _ (e1 l _ hl), hz, k H2 (e1.trans e2)⟩⟩
/-- l.extend(x) -/
theorem s_extend {l b : Addr} {xs zs : List V} (hl : H l = some (.lst xs)) (hb : H b = some (.lst zs)) (ha : Ev ta σ H (.ref l)) (h : Ev te σ H (.ref b)) (hz : xs.length + zs.length ≤ sizeLine) (k : ∀ H1, Ex H H1 → D.nx σ (upd H1 l (.lst (xs ++ zs)))) :
    tDrop (tBM K "list" rExtend ta (tCons te tNil)) D σ H := ha H (Ex.refl H) _ fun H1 e1 =>
  ⟨Or.inl ⟨rfl, xs, sq_of (e1 l _ hl)⟩, h H1 e1 _ fun H2 e2 => ⟨l, b, xs, zs, rfl, rfl, (e1.trans e2) l _ hl, (e1.trans e2) b _ hb, hz, k H2 (e1.trans e2)⟩⟩
end
abbrev sAnswers : Stmt := top 68
abbrev nAnswers : List Str := ["calls", "desk", "told", "call", "numbers", "answered"]
theorem scAnswers : FnScope nAnswers ["calls"] (defScope sAnswers) := ⟨rfl, rfl, rfl, by decide +kernel, rfl, by decide +kernel, by decide +kernel⟩
def spAnswers (K : PySem.W.Frag) : Sp := fun vs H Q _ => ∃ (p : Addr) (cs : List CC), vs = [.ref p] ∧ SqL K H p (vL (cs.flatMap enc)) ∧ (∀ c ∈ cs, OkC c) ∧ cs.length ≤ 60 ∧ (playC Sy86.init cs).flatten.length ≤ 1000000 ∧ RetL (vI (PyFlat.told (playC Sy86.init cs))) H Q
theorem line_big : 2000000 ≤ sizeLine := by decide
section
variable {P : Program} {w : World} {K : PySem.W.Frag} {mg : Str → Option Value} {base : Heap} {c : Cs}
theorem ok_answers {f fD : Addr} {fd fdD : FuncData} (F : Fun K "answers" "answers" sAnswers f fd) (Dc : DC K c.D) (gL : mg "len" = none) (gD : mg "Desk" = some (.ref c.D)) (MD : Mk K c.D fD) (GD : FnOk P w K mg base CX0 5 fD fdD ["self"] (spInitD c)) (BD : Binds K fdD ["self"] [])
    (gS : Gf P w K mg base 1 "split_calls" ["calls"] (spSplit K)) (mA : Mt P w K mg base c.D 10 "answer" ["self", "call", "told"] (spAnswer c)) : FnOk P w K mg base CX0 11 f fd ["calls"] (spAnswers K) := by
  refine F.ok scAnswers (fun vs H Q E h => ?_) (fun cdv A0 outer s H vs Q E hr h => ?_)
  · obtain ⟨p, cs, rfl, _⟩ := h; rfl
  · obtain ⟨f1, fd1, g1, k1, G1, B1⟩ := gS
    obtain ⟨f2, fd2, M2, G2, B2⟩ := mA
    refine ⟨_, pss_cons (ps_set (i := 1) scAnswers.nd rfl (Or.inl rfl) (pe_make0 MD GD (hr.mono (by decide)) (by rfl) gD BD .nil pass0))
      (pss_cons (ps_set (i := 2) scAnswers.nd rfl (Or.inl rfl) (pe_lst pa_nil))
      (pss_cons (ps_for PassesOwn.never rfl (pi_list (pe_call G1 (hr.mono (by decide)) (by rfl) g1 k1 B1 .nil pass0 (pa_cons (pv 0) pa_nil))) (pg_tup rfl (pgs_cons (pg_name (i := 3) scAnswers.nd rfl (Or.inl rfl)) (pgs_cons (pg_name (i := 4) scAnswers.nd rfl (Or.inl rfl)) pgs_nil)))
        (pss_cons (ps_set (i := 5) scAnswers.nd rfl (Or.inl rfl) (pe_lock (pe_meth (pv 1) Dc.cl M2 G2 hr B2 .nil pass0 (pa_cons (pv 3) (pa_cons (pv 4) pa_nil)))))
        (pss_cons (ps_expr (pe_bm PySem.F.plainAttrs_list PySem.F.slot_list_append PySem.F.type_list_append mt_append (pv 2) (pa_cons (pe_callB call_len_seq (by rfl) gL PySem.boot_len (pa_cons (pv 5) pa_nil)) pa_nil)))
        (pss_one (ps_expr (pe_bm PySem.F.plainAttrs_list PySem.F.slot_list_extend PySem.F.type_list_extend mt_extend (pv 2) (pa_cons (pv 5) pa_nil)))))))
      (pss_one (ps_ret (pv 2))))), ?_⟩
    obtain ⟨p, cs, rfl, hp, ok, h60, hshort, k⟩ := h
    -- the desk
    refine fun x dx hx hdx hne => ?_
    have e0 : Ex H (upd (upd H dx (.own x)) x (.ins c.D dx [])) := (Ex.new hdx).trans (Ex.new (by rw [upd_ne (fun z => hne z.symm)]; exact hx))
    refine ⟨x, dx, rfl, upd_same, fun H1 A k1 O fr1 => ⟨rfl, ?_⟩⟩
    have e1 : Ex H H1 := fun b o hb => k1 b o (e0 b o hb) (by rw [List.mem_singleton]; intro z; rw [z, hx] at hb; cases hb)
    have f1 : ∀ z ∈ footD x A, H z = none := fun z hz => (fr1 z hz).elim (fun h => by rw [h]; exact hx) (fresh_back e0)
    -- told
    refine q_asgL (xs := vI (PyFlat.told (playC Sy86.init (cs.take 0)))) (el_lst ea_nil (by show 0 ≤ 100000; decide)) fun T H2 hT e2 h2 => ?_
    have e02 := e1.trans e2
    have T0 : T ∉ footD x A := fun z => O.there T z hT
    have hT0 : H T = none := fresh_back e1 hT
    -- the calls
    refine q_forPL (P := fun v H' => ∃ (q : Addr) (as : List Addr), v = .ref q ∧ H2 q = none ∧ H' q = some (.lst (as.map V.ref)) ∧ Paired (IsCf H2 H') as cs) (ep_call (vs := [.ref p]) (ea_cons (ev_var rfl) ea_nil) (fun H3 e3 Q q E => ⟨p, cs, rfl, ex_l (e02.trans e3) hp, ok, h60, fun H4 s as e4 hs h4 hc => q _ H4 e4 ⟨s, as, rfl, fresh_back e3 hs, h4, Paired.imp (fun a c ⟨l, ⟨g1, g2⟩, g3⟩ => ⟨l, ⟨fresh_back e3 g1, fresh_back e3 g2⟩, g3⟩) hc⟩⟩)) fun v H3 e3 ⟨sp, as, ev, hsp0, hsp, hcs⟩ => ?_
    subst ev
    have hlen : as.length = cs.length := Paired.length hcs
    have there2 : ∀ {b}, H2 b = none → H T ≠ none ∨ b ≠ T := fun {b} hb => .inr fun z => by rw [z, h2] at hb; cases hb
    refine q_forL (a := sp) (xs := as.map V.ref) ev_c (sq_of hsp) (fun i σ' H' => ∃ (A : DA) (D : Dk) (v3 v4 v5 : Option V), σ' = [some (.ref p), some (.ref x), some (.ref T), v3, v4, v5] ∧ Ex H H' ∧ OwnD c H' x A D ∧ LD D (runC Sy86.init (cs.take i)) ∧ BndD D i ∧ (∀ z ∈ footD x A, H z = none) ∧ T ∉ footD x A ∧
        H' T = some (.lst (vI (PyFlat.told (playC Sy86.init (cs.take i))))) ∧ ∀ b o, H2 b = none → H3 b = some o → H' b = some o ∧ b ∉ footD x A) ?_ ?_ ?_ ?_
    · intro H4 e4
      refine ⟨A, _, none, none, none, rfl, (e02.trans e3).trans e4, O.mono ((e2.trans e3).trans e4), ld_new, bnd_new, f1, T0, (e3.trans e4) _ _ h2, fun b o hb h3 => ⟨e4 _ _ h3, fun z => ?_⟩⟩
      exact (O.mono e2).there b z hb
    · rintro i σ' H' _ ⟨A, D, v3, v4, v5, _, _, _, _, _, _, _, _, fr⟩
      exact sq_of (fr sp _ hsp0 hsp).1
    · rintro i v σ' H' hi ⟨A, D, v3, v4, v5, rfl, eH, O, L, B, fH, hTf, hTl, fr⟩
      rw [List.getElem?_map] at hi
      cases eq : as[i]? with
      | none => rw [eq] at hi; cases hi
      | some a =>
        rw [eq] at hi
        obtain rfl : v = .ref a := (Option.some.inj hi).symm
        obtain ⟨⟨cn, tl⟩, hc, l, ⟨ga, gl⟩, ha, hl⟩ := Paired.get hcs eq
        have hi' : i < cs.length := (List.getElem?_eq_some_iff.mp hc).1
        have okc := ok _ (List.mem_of_getElem? hc)
        obtain ⟨ha', naf⟩ := fr a _ ga ha
        obtain ⟨hl', nlf⟩ := fr l _ gl hl
        have lT : l ≠ T := fun z => by rw [z, h2] at gl; cases gl
        refine ⟨a, _, rfl, st_of ha', rfl, _, _, rfl, _, _, rfl, rfl, ?_⟩
        have Gv := g_call (n := i) L B okc
        have hsn := told_snoc Sy86.init (cs.take i) (cn, tl)
        have hrun := run_snoc Sy86.init (cs.take i) (cn, tl)
        rw [← take_more hc] at hsn hrun
        have hbig : (PyFlat.told (playC Sy86.init (cs.take (i + 1)))).length ≤ 1000060 := by
          rw [told_len, play_len]
          have h1 := play_take (cs := cs) (S := Sy86.init) (i + 1)
          have h2 := List.length_take_le' (i + 1) cs
          omega
        generalize hSi : runC Sy86.init (cs.take i) = Si at *
        generalize hans : Sy86Neutral.out (Sy86.step Si (callC (cn, tl))).2 = ans at *
        have hansE : (actD D cn tl).2 = ans := Gv.ans.trans hans
        generalize hpre : PyFlat.told (playC Sy86.init (cs.take i)) = pre at *
        have hb2 : pre.length + 1 + ans.length ≤ 1000060 := by
          rw [hsn] at hbig
          rw [List.length_append, List.length_append] at hbig
          exact hbig
        -- answered
        refine ⟨T, _, hTl, trivial, fun od => ?_⟩
        have kL : Kept H' (upd H' T (.frz od (.lst (vI pre)))) [T] := (Kept.of_ex (Ex.refl H')).set (by simp)
        have OL := O.kept kL fun z hz g => hTf (by rw [← List.mem_singleton.mp g]; exact hz)
        refine ⟨_, rfl, x, A.dx, _, rfl, OL.ins, dF_no _ _ _ (by decide +kernel), _, rfl, _, rfl, ?_⟩
        refine ⟨x, l, A, D, cn, tl, rfl, OL, by rw [upd_ne lT]; exact hl', okc, B.mono (by omega), ⟨Gv.gf, Gv.gh⟩, Gv.bnd.mono (by omega), fun H4 A4 q k4 O4 fr4 hq => ?_⟩
        rw [hansE] at hq
        have hT4 : H4 T = some (.frz od (.lst (vI pre))) := k4 _ _ upd_same hTf
        have qT : q ≠ T := fun z => by rw [z, hT4] at hq; cases hq
        refine ⟨hT4, ?_⟩
        have nT4 : T ∉ footD x A4 := fun z => by
          rcases fr4 T z with g | g
          · exact hTf g
          · rw [upd_same] at g; cases g
        have k5 : Kept H4 (upd H4 T (.lst (vI pre))) [T] := (Kept.of_ex (Ex.refl H4)).set (by simp)
        have O5 := O4.kept k5 fun z hz g => nT4 (by rw [← List.mem_singleton.mp g]; exact hz)
        have hq5 : upd H4 T (.lst (vI pre)) q = some (.lst (vI ans)) := by rw [upd_ne qT]; exact hq
        -- what was there stays
        have stay : ∀ b o, H' b = some o → b ∉ footD x A → b ≠ T → upd H4 T (.lst (vI pre)) b = some o ∧ b ∉ footD x A4 := fun b o hb hn hbT => by
          refine ⟨?_, fun z => ?_⟩
          · rw [upd_ne hbT]
            exact k4 _ _ (by rw [upd_ne hbT]; exact hb) hn
          · rcases fr4 b z with g | g
            · exact hn g
            · rw [upd_ne hbT, hb] at g; cases g
        have eH5 : Ex H (upd H4 T (.lst (vI pre))) := fun b o hb => by
          refine (stay b o (eH _ _ hb) (fun z => ?_) (fun z => ?_)).1
          · rw [fH b z] at hb; cases hb
          · rw [z, hT0] at hb; cases hb
        have fH5 : ∀ z ∈ footD x A4, H z = none := fun z hz => by
          rcases fr4 z hz with g | g
          · exact fH z g
          · cases e : H z with
            | none => rfl
            | some o =>
              have h1 := eH _ _ e
              by_cases c : z = T
              · rw [c, hT0] at e; cases e
              · rw [upd_ne c, h1] at g; cases g
        revert O5 hq5 stay eH5
        have hT5 : upd H4 T (.lst (vI pre)) T = some (.lst (vI pre)) := upd_same
        revert hT5
        generalize upd H4 T (.lst (vI pre)) = H5
        intro hT5 O5 hq5 stay eH5
        -- told.append(len(answered))
        refine q_appW (l := T) (xs := vI pre) (v := .int (ans.length : Int)) hT5 (ev_var rfl) (ev_is (ev_len (ev_var rfl) (sq_of hq5)) (by unfold vI; rw [List.length_map])) (by unfold vI; rw [List.length_map]; exact Nat.lt_of_lt_of_le (by omega) line_big) fun H6 e6 => ?_
        have hT6 : upd H6 T (.lst (vI pre ++ [.int (ans.length : Int)])) T = some (.lst (vI pre ++ [.int (ans.length : Int)])) := upd_same
        have hq6 : upd H6 T (.lst (vI pre ++ [.int (ans.length : Int)])) q = some (.lst (vI ans)) := by rw [upd_ne qT]; exact e6 _ _ hq5
        -- told.extend(answered)
        refine s_extend (l := T) (b := q) (xs := vI pre ++ [.int (ans.length : Int)]) (zs := vI ans) hT6 hq6 (ev_var rfl) (ev_var rfl) (by unfold vI; rw [List.length_append, List.length_map, List.length_map]; show pre.length + 1 + ans.length ≤ sizeLine; exact Nat.le_trans (by omega) line_big) fun H7 e7 => ?_
        have k57 : Kept H5 (upd H7 T (.lst (vI pre ++ [.int (ans.length : Int)] ++ vI ans))) [T] := ((((Kept.of_ex e6).set (a := T) (by simp)).ex e7).set (by simp))
        refine ⟨A4, ansD D cn tl, _, _, _, rfl, fun b o hb => k57 _ _ (eH5 _ _ hb) (by rw [List.mem_singleton]; intro z; rw [z, hT0] at hb; cases hb), O5.kept k57 fun z hz g => nT4 (by rw [← List.mem_singleton.mp g]; exact hz), ?_, Gv.bnd.forget _ _, fH5, nT4, ?_, fun b o hb h3 => ?_⟩
        · rw [hrun]; exact Gv.ld
        · rw [upd_same, hsn]
          unfold vI
          rw [List.map_append, List.map_append]
          rfl
        · obtain ⟨g1, g2⟩ := fr b o hb h3
          have bT : b ≠ T := fun z => by rw [z, h2] at hb; cases hb
          obtain ⟨g3, g4⟩ := stay b o g1 g2 bT
          exact ⟨k57 _ _ g3 (by simpa using bT), g4⟩
    · rintro σ' H' ⟨A, D, v3, v4, v5, rfl, eH, O, L, B, fH, hTf, hTl, fr⟩
      rw [List.length_map, hlen, List.take_length] at hTl
      exact s_ret (v := .ref T) (ev_var rfl) fun H4 e4 => k T H4 hT0 (eH.trans e4) (e4 _ _ hTl)
end
end Rd
set_option linter.all false
set_option maxRecDepth 100000
set_option maxHeartbeats 2000000
namespace Rd
open PySem PySem.Spec PyProof.Rows L2 Evl
/-! ### what the top has written, fact by fact -/
structure DefF (K : PySem.W.Frag) (x qual : Str) (st : Stmt) (f : Addr) : Prop where
  ex : ∃ fd, Fun K x qual st f fd
  fn : PySem.W.isFn K (.ref f) = true
  kp : PySem.W.keepIn K (.ref f) = true
/-- a method of the class at C -/
def MF (K : PySem.W.Frag) (C : Addr) (x qual : Str) (st : Stmt) : Prop := ∃ f, PySem.W.findIn K (.ref C) x = some (some (.ref f)) ∧ DefF K x qual st f
/-- a def of the module -/
def GF (K : PySem.W.Frag) (x : Str) (st : Stmt) : Prop := ∃ f, PySem.W.nsIn K mainGlobals x = some (some (.ref f)) ∧ DefF K x x st f
theorem mf_mk {K : PySem.W.Frag} {C f : Addr} {x qual : Str} {st : Stmt} {oc : Value} {od an : Option Addr} {osl : Array (Option Value)} {kV doc pm cdv ct : Value} (a : PySem.W.findIn K (.ref C) x = some (some (.ref f)))
    (l : K.lookup f = some ⟨oc, od, .func (PySem.W.fnOf x qual (defArgs st) (defBody st) (defScope st) .none kV doc pm an cdv ct), osl⟩) (c : PySem.W.codeIn K cdv qual = true) (k : PySem.W.keepIn K (.ref f) = true) (i : PySem.W.isFn K (.ref f) = true) : MF K C x qual st := ⟨f, a, ⟨_, fun_mk l c k⟩, i, k⟩
theorem gf_mk {K : PySem.W.Frag} {f : Addr} {x : Str} {st : Stmt} {oc : Value} {od an : Option Addr} {osl : Array (Option Value)} {kV doc pm cdv ct : Value} (a : PySem.W.nsIn K mainGlobals x = some (some (.ref f)))
    (l : K.lookup f = some ⟨oc, od, .func (PySem.W.fnOf x x (defArgs st) (defBody st) (defScope st) .none kV doc pm an cdv ct), osl⟩) (c : PySem.W.codeIn K cdv x = true) (k : PySem.W.keepIn K (.ref f) = true) (i : PySem.W.isFn K (.ref f) = true) : GF K x st := ⟨f, a, ⟨_, fun_mk l c k⟩, i, k⟩
theorem MF.mt {P : Program} {w : World} {K : PySem.W.Frag} {mg : Str → Option Value} {base : Heap} {C : Addr} {x qual : Str} {st : Stmt} {j k : Nat} {ps : List Str} {sp : Sp} (d : MF K C x qual st) (hb : ∀ f fd, Fun K x qual st f fd → Binds K fd ps []) (ok : ∀ f fd, Fun K x qual st f fd → FnOk P w K mg base CX0 j f fd ps sp) (h : j ≤ k) : Mt P w K mg base C k x ps sp := by
  obtain ⟨f, a, ⟨fd, F⟩, i, kp⟩ := d
  exact ⟨f, fd, ⟨a, i, kp⟩, (ok f fd F).mono h, hb f fd F⟩
theorem GF.gf {P : Program} {w : World} {K : PySem.W.Frag} {mg : Str → Option Value} {base h : Heap} {x : Str} {st : Stmt} {j k : Nat} {ps : List Str} {sp : Sp} (d : GF K x st) (X : K.In h) (G : h.Ns mainGlobals mg) (hb : ∀ f fd, Fun K x x st f fd → Binds K fd ps []) (ok : ∀ f fd, Fun K x x st f fd → FnOk P w K mg base CX0 j f fd ps sp) (h : j ≤ k) : Gf P w K mg base k x ps sp := by
  obtain ⟨f, a, ⟨fd, F⟩, i, kp⟩ := d
  exact ⟨f, fd, PySem.W.mg_of X G a, kp, (ok f fd F).mono h, hb f fd F⟩
def KI (K : PySem.W.Frag) (m : Str) (i : Int) : Prop := ∃ t, PySem.W.nsIn K mainGlobals m = some (some (.int i t))
theorem ki_mk {K : PySem.W.Frag} {m : Str} {i : Int} {t : Tok} (h : PySem.W.nsIn K mainGlobals m = some (some (.int i t))) : KI K m i := ⟨t, h⟩
theorem KI.is {K : PySem.W.Frag} {mg : Str → Option Value} {h : Heap} {m : Str} {i : Int} (k : KI K m i) (X : K.In h) (G : h.Ns mainGlobals mg) : KInt mg m i := by
  obtain ⟨t, e⟩ := k
  exact ⟨t, PySem.W.mg_of X G e⟩
structure ClsFs (K : PySem.W.Frag) (C : Addr) : Prop where
  pg : PySem.W.plainGet K C Str.empty = true
  hd : PySem.W.hasDictIn K C = true
  po : PySem.W.plainOver K C = true
  sa : PySem.W.findIn K (.ref C) "__setattr__" = some (some (.builtin "object.__setattr__"))
  mks : PySem.W.makesIn K C = true
  kc : PySem.W.keepIn K (.ref C) = true
theorem ClsFs.cls {K : PySem.W.Frag} {C : Addr} (c : ClsFs K C) : Cls K C := ⟨c.pg, c.hd, c.po, c.sa⟩
structure NoR (K : PySem.W.Frag) (C : Addr) : Prop where
  n1 : PySem.W.findIn K (.ref C) "longest" = some none
  n2 : PySem.W.findIn K (.ref C) "wants" = some none
  n3 : PySem.W.findIn K (.ref C) "rows" = some none
  n4 : PySem.W.findIn K (.ref C) "columns" = some none
  n5 : PySem.W.findIn K (.ref C) "blocked" = some none
  n6 : PySem.W.findIn K (.ref C) "numbers" = some none
theorem NoR.rc {K : PySem.W.Frag} {C : Addr} (c : ClsFs K C) (n : NoR K C) : RC K C := ⟨c.cls, n.n1, n.n2, n.n3, n.n4, n.n5, n.n6⟩
structure NoT (K : PySem.W.Frag) (C : Addr) : Prop where
  n1 : PySem.W.findIn K (.ref C) "solver" = some none
  n2 : PySem.W.findIn K (.ref C) "riddle" = some none
  n3 : PySem.W.findIn K (.ref C) "marks" = some none
  n4 : PySem.W.findIn K (.ref C) "told" = some none
theorem NoT.tc {K : PySem.W.Frag} {C : Addr} (c : ClsFs K C) (n : NoT K C) : TC K C := ⟨c.cls, n.n1, n.n2, n.n3, n.n4⟩
structure NoD (K : PySem.W.Frag) (C : Addr) : Prop where
  n1 : PySem.W.findIn K (.ref C) "solvers" = some none
  n2 : PySem.W.findIn K (.ref C) "riddles" = some none
  n3 : PySem.W.findIn K (.ref C) "sheets" = some none
theorem NoD.dc {K : PySem.W.Frag} {C : Addr} (c : ClsFs K C) (n : NoD K C) : DC K C := ⟨c.cls, n.n1, n.n2, n.n3⟩
structure RidFs (K : PySem.W.Frag) (C : Addr) : Prop where
  mmakeup : MF K C "makeup" "Riddle.makeup" sMakeup
  mdeed : MF K C "deed" "Riddle.deed" sDeed
  mbegins : MF K C "begins" "Riddle.begins" sBegins
  munblock : MF K C "unblock" "Riddle.unblock" sUnblock
  mtell : MF K C "tell" "Riddle.tell" sTell
  msize : MF K C "size" "Riddle.size" sSize
  mwanting : MF K C "wanting" "Riddle.wanting" sWanting
  mbeside : MF K C "beside" "Riddle.beside" sBeside
  mmisfits : MF K C "misfits" "Riddle.misfits" sMisfits
  mways : MF K C "ways" "Riddle.ways" sWays
  mfewest_told : MF K C "fewest_told" "Riddle.fewest_told" sFew
  mmany : MF K C "many" "Riddle.many" sMany
  mfewest : MF K C "fewest" "Riddle.fewest" sFewest
  mgood : MF K C "good" "Riddle.good" sGood
  mthin : MF K C "thin" "Riddle.thin" sThin
  mfill : MF K C "fill" "Riddle.fill" sFill
structure FieldFs (K : PySem.W.Frag) (C : Addr) : Prop where
  m_init : MF K C "__init__" "Field.__init__" sInitF
  mown_deed : MF K C "own_deed" "Field.own_deed" sOwnF
  mtree : MF K C "tree" "Field.tree" sTree
  mline : MF K C "line" "Field.line" sLine
  mstate : MF K C "state" "Field.state" sStateF
  mall_numbers : MF K C "all_numbers" "Field.all_numbers" sAllF
  mcounted : MF K C "counted" "Field.counted" sCntF
  msettings : MF K C "settings" "Field.settings" sSetF
  mwith_tent_for : MF K C "with_tent_for" "Field.with_tent_for" sTent
  mtouches_one : MF K C "touches_one" "Field.touches_one" sTouch
structure HallFs (K : PySem.W.Frag) (C : Addr) : Prop where
  m_init : MF K C "__init__" "Hall.__init__" sInitH
  mown_deed : MF K C "own_deed" "Hall.own_deed" sOwnH
  mpillar : MF K C "pillar" "Hall.pillar" sPillar
  mgone : MF K C "gone" "Hall.gone" sGone
  mstate : MF K C "state" "Hall.state" sStateH
  mall_numbers : MF K C "all_numbers" "Hall.all_numbers" sAllH
  mcounted : MF K C "counted" "Hall.counted" sCntH
  msettings : MF K C "settings" "Hall.settings" sSetH
  mlit_from : MF K C "lit_from" "Hall.lit_from" sLitF
  mhas_free : MF K C "has_free" "Hall.has_free" sHasF
structure SheetFs (K : PySem.W.Frag) (C : Addr) : Prop where
  m_init : MF K C "__init__" "Sheet.__init__" sInitT
  mhas_begun : MF K C "has_begun" "Sheet.has_begun" sHasB
  mleft : MF K C "left" "Sheet.left" sLeft
  munmarked : MF K C "unmarked" "Sheet.unmarked" sUnm
  mmark : MF K C "mark" "Sheet.mark" sMarkS
  mrub : MF K C "rub" "Sheet.rub" sRub
  mnext_sure : MF K C "next_sure" "Sheet.next_sure" sNext
  mdone : MF K C "done" "Sheet.done" sDone
  mshown : MF K C "shown" "Sheet.shown" sShown
  mkinds : MF K C "kinds" "Sheet.kinds" sKinds
  mpoints : MF K C "points" "Sheet.points" sPts
structure DeskFs (K : PySem.W.Frag) (C : Addr) : Prop where
  m_init : MF K C "__init__" "Desk.__init__" sInitD
  mbegins : MF K C "begins" "Desk.begins" sBegD
  manswer : MF K C "answer" "Desk.answer" sAnswer
  mact : MF K C "act" "Desk.act" sAct
  mof_riddle : MF K C "of_riddle" "Desk.of_riddle" sOfRid
  mof_sheet : MF K C "of_sheet" "Desk.of_sheet" sOfSheet
  mforget_sheets : MF K C "forget_sheets" "Desk.forget_sheets" sForget
  msheet_of : MF K C "sheet_of" "Desk.sheet_of" sSheetOf
  mmark : MF K C "mark" "Desk.mark" sMarkD
  mstanding : MF K C "standing" "Desk.standing" sStand
  mstate : MF K C "state" "Desk.state" sStateD
structure FnsFs (K : PySem.W.Frag) : Prop where
  gmeets_all : GF K "meets_all" sMeets
  gone_longer : GF K "one_longer" sLonger
  gwith_or_without : GF K "with_or_without" sWow
  gall_lit : GF K "all_lit" sAllLit
  ghaving : GF K "having" sHaving
  gkind_of : GF K "kind_of" sKind
  gsplit_calls : GF K "split_calls" sSplit
  ganswers : GF K "answers" sAnswers
structure KsFs (K : PySem.W.Frag) : Prop where
  cBAD_VALUE : KI K "BAD_VALUE" (-1)
  cNO_SUCH : KI K "NO_SUCH" (-2)
  cNOT_AS_IT_IS : KI K "NOT_AS_IT_IS" (-4)
  cFULL : KI K "FULL" (-5)
  cNOT_ENOUGH : KI K "NOT_ENOUGH" (-6)
  cNO_CALL : KI K "NO_CALL" (-100)
  cBEGINS : KI K "BEGINS" 0
  cLONGEST_field : KI K "LONGEST_field" 5
  cMOST_TREES : KI K "MOST_TREES" 6
  cMOST_TENTS : KI K "MOST_TENTS" 6
  cNOT_TOLD : KI K "NOT_TOLD" 99
  cTREE : KI K "TREE" 1
  cFELL : KI K "FELL" 2
  cROW : KI K "ROW" 3
  cCOL : KI K "COL" 4
  cMANY_field : KI K "MANY_field" 6
  cFEWEST_field : KI K "FEWEST_field" 11
  cLONGEST_hall : KI K "LONGEST_hall" 4
  cMOST_LAMPS : KI K "MOST_LAMPS" 4
  cNO_NUMBER : KI K "NO_NUMBER" 9
  cPILLAR : KI K "PILLAR" 1
  cGONE : KI K "GONE" 2
  cMANY_hall : KI K "MANY_hall" 4
  cFEWEST_hall : KI K "FEWEST_hall" 8
  cSURE : KI K "SURE" 2
  cMAY_BE : KI K "MAY_BE" 1
  cCANT_BE : KI K "CANT_BE" 0
  cTHERE_IS : KI K "THERE_IS" 1
  cTHERE_IS_NONE : KI K "THERE_IS_NONE" 2
  cSURE_GAINS : KI K "SURE_GAINS" 2
  cMAY_BE_GAINS : KI K "MAY_BE_GAINS" 1
  cCANT_BE_LOSES : KI K "CANT_BE_LOSES" 3
  cMOST_SOLVERS : KI K "MOST_SOLVERS" 4
  cFIELD : KI K "FIELD" 0
  cHALL : KI K "HALL" 1
  cBEGINS_CALL : KI K "BEGINS_CALL" 0
  cFIELD_CALL : KI K "FIELD_CALL" 1
  cHALL_CALL : KI K "HALL_CALL" 2
  cGOOD_CALL : KI K "GOOD_CALL" 3
  cTHIN_CALL : KI K "THIN_CALL" 4
  cFILL_CALL : KI K "FILL_CALL" 5
  cMARK_CALL : KI K "MARK_CALL" 6
  cRUB_CALL : KI K "RUB_CALL" 7
  cNEXT_CALL : KI K "NEXT_CALL" 8
  cSHEET_CALL : KI K "SHEET_CALL" 9
  cSTANDING_CALL : KI K "STANDING_CALL" 11
  cSTATE_CALL : KI K "STATE_CALL" 12
structure BisFs (K : PySem.W.Frag) : Prop where
  blen : PySem.W.nsIn K mainGlobals "len" = some none
  blist : PySem.W.nsIn K mainGlobals "list" = some none
  bdict : PySem.W.nsIn K mainGlobals "dict" = some none
  brange : PySem.W.nsIn K mainGlobals "range" = some none
  bsorted : PySem.W.nsIn K mainGlobals "sorted" = some none
  bany : PySem.W.nsIn K mainGlobals "any" = some none
  babs : PySem.W.nsIn K mainGlobals "abs" = some none
  btuple : PySem.W.nsIn K mainGlobals "tuple" = some none
  bsum : PySem.W.nsIn K mainGlobals "sum" = some none
  bzip : PySem.W.nsIn K mainGlobals "zip" = some none
/-- a dict of the module's top -/
def WF (K : PySem.W.Frag) (m : Str) (kv : List (Nat × Nat)) : Prop := ∃ W, PySem.W.nsIn K mainGlobals m = some (some (.ref W)) ∧ KNat K W kv
theorem wf_mk {K : PySem.W.Frag} {m : Str} {kv : List (Nat × Nat)} {W : Addr} {es : Array DictEntry} {n : Nat} (a : PySem.W.nsIn K mainGlobals m = some (some (.ref W))) (l : K.lookup W = some ⟨.type "dict", none, .dict es n, #[]⟩) (e : NatEs es.toList kv) (low : (W == sysModules) = false) (nd : (kv.map (·.1)).Nodup) (few : kv.length ≤ 1000) : WF K m kv := ⟨W, a, ⟨es, n, l, e⟩, low, nd, few⟩
theorem ktup2 {K : PySem.W.Frag} {a : Addr} {od : Option Addr} {n : Nat} {sl : Array (Option Value)} {i j : Int} {u v : Tok} (l : K.lookup a = some ⟨.type "tuple", od, .seq #[.int i u, .int j v] n, sl⟩) : KTup K a [.int i, .int j] :=
  ⟨_, _, n, l, rfl, rfl, by show 2 ≤ sizeLine; decide, .cons ⟨u, rfl⟩ (.cons ⟨v, rfl⟩ .nil)⟩
theorem ktup4 {K : PySem.W.Frag} {a : Addr} {od : Option Addr} {n : Nat} {sl : Array (Option Value)} {t0 t1 t2 t3 : Addr} (l : K.lookup a = some ⟨.type "tuple", od, .seq #[.ref t0, .ref t1, .ref t2, .ref t3] n, sl⟩) : KTup K a [.ref t0, .ref t1, .ref t2, .ref t3] :=
  ⟨_, _, n, l, rfl, rfl, by show 4 ≤ sizeLine; decide, .cons rfl (.cons rfl (.cons rfl (.cons rfl .nil)))⟩
def StF (K : PySem.W.Frag) : Prop := ∃ a t0 t1 t2 t3 : Addr, PySem.W.nsIn K mainGlobals "STEPS" = some (some (.ref a)) ∧ KTup K a [.ref t0, .ref t1, .ref t2, .ref t3] ∧ KTup K t0 [.int (-1), .int 0] ∧ KTup K t1 [.int 0, .int (-1)] ∧ KTup K t2 [.int 0, .int 1] ∧ KTup K t3 [.int 1, .int 0]
theorem st_mk {K : PySem.W.Frag} {a t0 t1 t2 t3 : Addr} {od od0 od1 od2 od3 : Option Addr} {n n0 n1 n2 n3 : Nat} {sl sl0 sl1 sl2 sl3 : Array (Option Value)} {u0 u1 u2 u3 v0 v1 v2 v3 : Tok} (e : PySem.W.nsIn K mainGlobals "STEPS" = some (some (.ref a)))
    (l : K.lookup a = some ⟨.type "tuple", od, .seq #[.ref t0, .ref t1, .ref t2, .ref t3] n, sl⟩) (l0 : K.lookup t0 = some ⟨.type "tuple", od0, .seq #[.int (-1) u0, .int 0 v0] n0, sl0⟩) (l1 : K.lookup t1 = some ⟨.type "tuple", od1, .seq #[.int 0 u1, .int (-1) v1] n1, sl1⟩)
    (l2 : K.lookup t2 = some ⟨.type "tuple", od2, .seq #[.int 0 u2, .int 1 v2] n2, sl2⟩) (l3 : K.lookup t3 = some ⟨.type "tuple", od3, .seq #[.int 1 u3, .int 0 v3] n3, sl3⟩) : StF K := ⟨a, t0, t1, t2, t3, e, ktup4 l, ktup2 l0, ktup2 l1, ktup2 l2, ktup2 l3⟩
theorem StF.stp {K : PySem.W.Frag} {mg : Str → Option Value} {h : Heap} (s : StF K) (X : K.In h) (G : h.Ns mainGlobals mg) : Stp K mg := by
  obtain ⟨a, t0, t1, t2, t3, e, r⟩ := s
  exact ⟨a, t0, t1, t2, t3, PySem.W.mg_of X G e, r⟩
/-- the class above, as it is read -/
structure AbvFs (K : PySem.W.Frag) (CR : Addr) : Prop where
  rd : PySem.W.readsIn K CR (.type "type") = true
  ga : PySem.W.specialIn K (.ref CR) "__getattribute__" = some (some (.builtin "type.__getattribute__"))
def InF (K : PySem.W.Frag) (CR : Addr) : Prop := ∃ f, PySem.W.findCls K (.ref CR) (.type "type") "__init__" = some (.val (.ref f)) ∧ DefF K "__init__" "Riddle.__init__" sInitR f
theorem in_mk {K : PySem.W.Frag} {C f : Addr} {oc : Value} {od an : Option Addr} {osl : Array (Option Value)} {kV doc pm cdv ct : Value} (a : PySem.W.findCls K (.ref C) (.type "type") "__init__" = some (.val (.ref f)))
    (l : K.lookup f = some ⟨oc, od, .func (PySem.W.fnOf "__init__" "Riddle.__init__" (defArgs sInitR) (defBody sInitR) (defScope sInitR) .none kV doc pm an cdv ct), osl⟩) (c : PySem.W.codeIn K cdv "Riddle.__init__" = true) (k : PySem.W.keepIn K (.ref f) = true) (i : PySem.W.isFn K (.ref f) = true) : InF K C := ⟨f, a, ⟨_, fun_mk l c k⟩, i, k⟩
section
variable {P : Program} {w : World} {K : PySem.W.Frag} {mg : Str → Option Value} {base h : Heap}
/-- what both riddles have ahead of their own -/
structure Low (P : Program) (w : World) (K : PySem.W.Frag) (mg : Str → Option Value) (base : Heap) (C : Addr) : Prop where
  size : Mt P w K mg base C 1 "size" ["self"] (spSize C)
  wanting : Mt P w K mg base C 2 "wanting" ["self"] (spWanting C)
  beside : Mt P w K mg base C 1 "beside" ["self", "cell"] (spBeside C)
  tell : Mt P w K mg base C 1 "tell" ["self", "number", "value"] (spTell C)
  unblock : Mt P w K mg base C 2 "unblock" ["self", "cell"] (spUnblock C)
  begins : Mt P w K mg base C 2 "begins" ["self", "rows", "columns"] (spBegins C)
  makeup : Mt P w K mg base C 1 "makeup" ["self"] (spMakeup C)
theorem low_mk {C : Addr} (X : K.In h) (G : h.Ns mainGlobals mg) (T : RC K C) (R : RidFs K C) (k : KsFs K) (b : BisFs K) (st : StF K) : Low P w K mg base C := by
  have gn : ∀ {n : Str}, PySem.W.nsIn K mainGlobals n = some none → mg n = none := fun e => PySem.W.mg_none_of X G e
  have size := R.msize.mt (P := P) (w := w) (mg := mg) (base := base) (k := 1) (fun _ _ F => F.binds fun _ _ _ _ _ _ us hl => match us, hl with | [_], _ => rfl) (fun _ _ F => ok_size F T) (Nat.le_refl _)
  exact ⟨size, R.mwanting.mt (fun _ _ F => F.binds fun _ _ _ _ _ _ us hl => match us, hl with | [_], _ => rfl) (fun _ _ F => ok_wanting F T (gn b.brange) size) (Nat.le_refl _),
    R.mbeside.mt (fun _ _ F => F.binds fun _ _ _ _ _ _ us hl => match us, hl with | [_, _], _ => rfl) (fun _ _ F => ok_beside F T (st.stp X G)) (Nat.le_refl _),
    R.mtell.mt (fun _ _ F => F.binds fun _ _ _ _ _ _ us hl => match us, hl with | [_, _, _], _ => rfl) (fun _ _ F => ok_tell F T) (Nat.le_refl _),
    R.munblock.mt (fun _ _ F => F.binds fun _ _ _ _ _ _ us hl => match us, hl with | [_, _], _ => rfl) (fun _ _ F => ok_unblock F T (gn b.blen) (k.cNO_SUCH.is X G) (k.cNOT_AS_IT_IS.is X G) size) (Nat.le_refl _),
    R.mbegins.mt (fun _ _ F => F.binds fun _ _ _ _ _ _ us hl => match us, hl with | [_, _, _], _ => rfl) (fun _ _ F => ok_begins F T (k.cBAD_VALUE.is X G) size) (Nat.le_refl _),
    R.mmakeup.mt (fun _ _ F => F.binds fun _ _ _ _ _ _ us hl => match us, hl with | [_], _ => rfl) (fun _ _ F => ok_makeup F T (gn b.blist) (gn b.bdict)) (Nat.le_refl _)⟩
/-- what both riddles have behind their own -/
structure High (P : Program) (w : World) (K : PySem.W.Frag) (mg : Str → Option Value) (base : Heap) (C : Addr) (kd : Kind) : Prop where
  misfits : Mt P w K mg base C 3 "misfits" ["self", "setting"] (spMisfits C kd)
  ways : Mt P w K mg base C 5 "ways" ["self"] (spWays C kd)
  many : Mt P w K mg base C 5 "many" ["self"] (spPure C kd (manyA kd))
  fewest : Mt P w K mg base C 6 "fewest" ["self"] (spPure C kd (fewA kd))
  good : Mt P w K mg base C 6 "good" ["self"] (spPure C kd (goodA kd))
  thin : Mt P w K mg base C 6 "thin" ["self"] (spThin C kd)
  fill : Mt P w K mg base C 6 "fill" ["self", "ahead"] (spFill C kd)
theorem high_mk {C : Addr} {kd : Kind} (X : K.In h) (G : h.Ns mainGlobals mg) (T : RC K C) (ft : kd.Fits) (R : RidFs K C) (k : KsFs K) (b : BisFs K) (L : Low P w K mg base C) (mC : Mt P w K mg base C 2 "counted" ["self", "number", "setting"] (spCounted C kd)) (mS : Mt P w K mg base C 4 "settings" ["self"] (spSettings C kd)) (mA : Mt P w K mg base C 1 "all_numbers" ["self"] (spAll C kd))
    (mm : Gf P w K mg base 1 "meets_all" ["choice", "clashes"] spMeets) (ml : Gf P w K mg base 1 "one_longer" ["choices", "told"] spLonger) : High P w K mg base C kd := by
  have gn : ∀ {n : Str}, PySem.W.nsIn K mainGlobals n = some none → mg n = none := fun e => PySem.W.mg_none_of X G e
  have mis := R.mmisfits.mt (P := P) (w := w) (mg := mg) (base := base) (k := 3) (fun _ _ F => F.binds fun _ _ _ _ _ _ us hl => match us, hl with | [_, _], _ => rfl) (fun _ _ F => ok_misfits F T ft mC) (Nat.le_refl _)
  have ways := R.mways.mt (P := P) (w := w) (mg := mg) (base := base) (k := 5) (fun _ _ F => F.binds fun _ _ _ _ _ _ us hl => match us, hl with | [_], _ => rfl) (fun _ _ F => ok_ways F T ft mS mis) (Nat.le_refl _)
  have few := R.mfewest_told.mt (P := P) (w := w) (mg := mg) (base := base) (k := 5) (fun _ _ F => F.binds fun _ _ _ _ _ _ us hl => match us, hl with | [_], _ => rfl) (fun _ _ F => ok_few F T ft (gn b.bsorted) mS mis mm ml) (Nat.le_refl _)
  exact ⟨mis, ways, R.mmany.mt (fun _ _ F => F.binds fun _ _ _ _ _ _ us hl => match us, hl with | [_], _ => rfl) (fun _ _ F => ok_many F T ft (gn b.blen) mS mis) (Nat.le_refl _),
    R.mfewest.mt (fun _ _ F => F.binds fun _ _ _ _ _ _ us hl => match us, hl with | [_], _ => rfl) (fun _ _ F => ok_fewest F T ft (gn b.blen) (k.cNOT_ENOUGH.is X G) few) (Nat.le_refl _),
    R.mgood.mt (fun _ _ F => F.binds fun _ _ _ _ _ _ us hl => match us, hl with | [_], _ => rfl) (fun _ _ F => ok_good F T ft (gn b.blen) few ways) (Nat.le_refl _),
    R.mthin.mt (fun _ _ F => F.binds fun _ _ _ _ _ _ us hl => match us, hl with | [_], _ => rfl) (fun _ _ F => ok_thin F T ft (gn b.blen) (gn b.blist) (k.cNOT_ENOUGH.is X G) few L.tell) (Nat.le_refl _),
    R.mfill.mt (fun _ _ F => F.binds fun _ _ _ _ _ _ us hl => match us, hl with | [_, _], _ => rfl) (fun _ _ F => ok_fill F T ft (gn b.blen) (k.cNOT_ENOUGH.is X G) mS mA L.tell mC ways) (Nat.le_refl _)⟩
/-- a riddle, made and asked -/
structure RidM (P : Program) (w : World) (K : PySem.W.Frag) (mg : Str → Option Value) (base : Heap) (C : Addr) (kd : Kind) (ws : List (Nat × Nat)) (L : Nat) (dm : R → List Nat → R × List Int) : Prop where
  low : Low P w K mg base C
  high : High P w K mg base C kd
  deed : Mt P w K mg base C 8 "deed" ["self", "told"] (spDeed C kd ws L dm)
  made : ∃ (f : Addr) (fd : FuncData), Mk K C f ∧ FnOk P w K mg base CX0 2 f fd ["self"] (spInit C L ws) ∧ Binds K fd ["self"] []
theorem field_mk {C CR : Addr} (X : K.In h) (G : h.Ns mainGlobals mg) (c : ClsFs K C) (T : RC K C) (R : RidFs K C) (M : FieldFs K C) (k : KsFs K) (b : BisFs K) (st : StF K) (wd : WF K "WANTED_field" wantsF) (aR : PySem.W.nsIn K mainGlobals "Riddle" = some (some (.ref CR))) (ab : AbvFs K CR) (inn : InF K CR)
    (mm : Gf P w K mg base 1 "meets_all" ["choice", "clashes"] spMeets) (ml : Gf P w K mg base 1 "one_longer" ["choices", "told"] spLonger) : RidM P w K mg base C kF wantsF 5 fieldDeed := by
  have gn : ∀ {n : Str}, PySem.W.nsIn K mainGlobals n = some none → mg n = none := fun e => PySem.W.mg_none_of X G e
  have L : Low P w K mg base C := low_mk X G T R k b st
  have all := M.mall_numbers.mt (P := P) (w := w) (mg := mg) (base := base) (k := 1) (fun _ _ F => F.binds fun _ _ _ _ _ _ us hl => match us, hl with | [_], _ => rfl) (fun _ _ F => ok_allF F T (gn b.blist) (gn b.brange)) (Nat.le_refl _)
  have touch := M.mtouches_one.mt (P := P) (w := w) (mg := mg) (base := base) (k := 1) (fun _ _ F => F.binds fun _ _ _ _ _ _ us hl => match us, hl with | [_, _, _], _ => rfl) (fun _ _ F => ok_touch F T (gn b.babs)) (Nat.le_refl _)
  have cnt := M.mcounted.mt (P := P) (w := w) (mg := mg) (base := base) (k := 2) (fun _ _ F => F.binds fun _ _ _ _ _ _ us hl => match us, hl with | [_, _, _], _ => rfl) (fun _ _ F => ok_cntF F T (gn b.blen)) (by decide)
  have tent := M.mwith_tent_for.mt (P := P) (w := w) (mg := mg) (base := base) (k := 2) (fun _ _ F => F.binds fun _ _ _ _ _ _ us hl => match us, hl with | [_, _, _], _ => rfl) (fun _ _ F => ok_tent F T (gn b.btuple) (gn b.bsorted) (gn b.blist) L.beside touch) (Nat.le_refl _)
  have sets := M.msettings.mt (P := P) (w := w) (mg := mg) (base := base) (k := 4) (fun _ _ F => F.binds fun _ _ _ _ _ _ us hl => match us, hl with | [_], _ => rfl) (fun _ _ F => ok_setF F T (gn b.bsorted) (gn b.blist) tent) (by decide)
  have hi := high_mk X G T fitsF R k b L cnt sets all mm ml
  have tree := M.mtree.mt (P := P) (w := w) (mg := mg) (base := base) (k := 2) (fun _ _ F => F.binds fun _ _ _ _ _ _ us hl => match us, hl with | [_, _], _ => rfl) (fun _ _ F => ok_tree F T (gn b.blen) (k.cNO_SUCH.is X G) (k.cNOT_AS_IT_IS.is X G) (k.cFULL.is X G) (k.cMOST_TREES.is X G) L.size) (Nat.le_refl _)
  have line := M.mline.mt (P := P) (w := w) (mg := mg) (base := base) (k := 2) (ps := nLine) (fun _ _ F => F.binds fun _ _ _ _ _ _ us hl => match us, hl with | [_, _, _, _, _], _ => rfl) (fun _ _ F => ok_line F T (k.cNO_SUCH.is X G) (k.cBAD_VALUE.is X G) (k.cMOST_TENTS.is X G) (k.cNOT_TOLD.is X G) L.tell) (Nat.le_refl _)
  have state := M.mstate.mt (P := P) (w := w) (mg := mg) (base := base) (k := 2) (fun _ _ F => F.binds fun _ _ _ _ _ _ us hl => match us, hl with | [_], _ => rfl) (fun _ _ F => ok_stateF F T (gn b.blen) (k.cNOT_TOLD.is X G) all) (Nat.le_refl _)
  have own := M.mown_deed.mt (P := P) (w := w) (mg := mg) (base := base) (k := 7) (fun _ _ F => F.binds fun _ _ _ _ _ _ us hl => match us, hl with | [_, _], _ => rfl) (fun _ _ F => ok_ownF F T (k.cTREE.is X G) (k.cFELL.is X G) (k.cROW.is X G) (k.cCOL.is X G) (k.cMANY_field.is X G) (k.cFEWEST_field.is X G) tree L.unblock line hi.many hi.fewest state) (Nat.le_refl _)
  refine ⟨L, hi, R.mdeed.mt (fun _ _ F => F.binds fun _ _ _ _ _ _ us hl => match us, hl with | [_, _], _ => rfl) (fun _ _ F => ok_deed rfl F T (gn b.blen) (k.cNO_CALL.is X G) (k.cBEGINS.is X G) L.begins own) (Nat.le_refl _), ?_⟩
  obtain ⟨f, a, ⟨fd, F⟩, i, kp⟩ := M.m_init
  obtain ⟨fR, aI, ⟨fdR, FR⟩, iR, kR⟩ := inn
  obtain ⟨W, aW, D⟩ := wd
  exact ⟨f, fd, ⟨c.mks, a, i, c.kc⟩, ok_initF F T ⟨PySem.W.mg_of X G aR, ⟨ab.rd, ab.ga⟩, ⟨aI, rfl⟩, kR, ok_initR FR T, FR.binds fun _ _ _ _ _ _ us hl => match us, hl with | [_, _, _], _ => rfl⟩ (gn b.bdict) (k.cLONGEST_field.is X G) (PySem.W.mg_of X G aW) D, F.binds fun _ _ _ _ _ _ us hl => match us, hl with | [_], _ => rfl⟩
theorem hall_mk {C CR : Addr} (X : K.In h) (G : h.Ns mainGlobals mg) (c : ClsFs K C) (T : RC K C) (R : RidFs K C) (M : HallFs K C) (k : KsFs K) (b : BisFs K) (st : StF K) (wd : WF K "WANTED_hall" wantsH) (aR : PySem.W.nsIn K mainGlobals "Riddle" = some (some (.ref CR))) (ab : AbvFs K CR) (inn : InF K CR)
    (mm : Gf P w K mg base 1 "meets_all" ["choice", "clashes"] spMeets) (ml : Gf P w K mg base 1 "one_longer" ["choices", "told"] spLonger) (gW : Gf P w K mg base 1 "with_or_without" ["cell", "lit", "found"] spWow) (gA : Gf P w K mg base 1 "all_lit" ["free", "lit", "lamps"] spAllLit) : RidM P w K mg base C kH wantsH 4 hallDeed := by
  have gn : ∀ {n : Str}, PySem.W.nsIn K mainGlobals n = some none → mg n = none := fun e => PySem.W.mg_none_of X G e
  have L : Low P w K mg base C := low_mk X G T R k b st
  have all := M.mall_numbers.mt (P := P) (w := w) (mg := mg) (base := base) (k := 1) (fun _ _ F => F.binds fun _ _ _ _ _ _ us hl => match us, hl with | [_], _ => rfl) (fun _ _ F => ok_allH F T (gn b.bsorted)) (Nat.le_refl _)
  have free := M.mhas_free.mt (P := P) (w := w) (mg := mg) (base := base) (k := 1) (fun _ _ F => F.binds fun _ _ _ _ _ _ us hl => match us, hl with | [_, _, _], _ => rfl) (fun _ _ F => ok_hasF F T) (Nat.le_refl _)
  have cnt := M.mcounted.mt (P := P) (w := w) (mg := mg) (base := base) (k := 2) (fun _ _ F => F.binds fun _ _ _ _ _ _ us hl => match us, hl with | [_, _, _], _ => rfl) (fun _ _ F => ok_cntH F T (gn b.blen) L.beside) (Nat.le_refl _)
  have lit := M.mlit_from.mt (P := P) (w := w) (mg := mg) (base := base) (k := 2) (fun _ _ F => F.binds fun _ _ _ _ _ _ us hl => match us, hl with | [_, _], _ => rfl) (fun _ _ F => ok_litF F T (st.stp X G) free) (Nat.le_refl _)
  have sets := M.msettings.mt (P := P) (w := w) (mg := mg) (base := base) (k := 4) (fun _ _ F => F.binds fun _ _ _ _ _ _ us hl => match us, hl with | [_], _ => rfl) (fun _ _ F => ok_setH F T L.wanting lit gW gA) (by decide)
  have hi := high_mk X G T fitsH R k b L cnt sets all mm ml
  have pil := M.mpillar.mt (P := P) (w := w) (mg := mg) (base := base) (k := 2) (fun _ _ F => F.binds fun _ _ _ _ _ _ us hl => match us, hl with | [_, _, _], _ => rfl) (fun _ _ F => ok_pillar F T (gn b.blen) (k.cNO_SUCH.is X G) (k.cBAD_VALUE.is X G) (k.cMOST_LAMPS.is X G) (k.cNO_NUMBER.is X G) L.size L.tell) (Nat.le_refl _)
  have gone := M.mgone.mt (P := P) (w := w) (mg := mg) (base := base) (k := 3) (fun _ _ F => F.binds fun _ _ _ _ _ _ us hl => match us, hl with | [_, _], _ => rfl) (fun _ _ F => ok_gone F T L.unblock L.tell) (Nat.le_refl _)
  have state := M.mstate.mt (P := P) (w := w) (mg := mg) (base := base) (k := 2) (fun _ _ F => F.binds fun _ _ _ _ _ _ us hl => match us, hl with | [_], _ => rfl) (fun _ _ F => ok_stateH F T (gn b.blen) (k.cNO_NUMBER.is X G) all) (Nat.le_refl _)
  have own := M.mown_deed.mt (P := P) (w := w) (mg := mg) (base := base) (k := 7) (fun _ _ F => F.binds fun _ _ _ _ _ _ us hl => match us, hl with | [_, _], _ => rfl) (fun _ _ F => ok_ownH F T (k.cPILLAR.is X G) (k.cGONE.is X G) (k.cMANY_hall.is X G) (k.cFEWEST_hall.is X G) pil gone hi.many hi.fewest state) (Nat.le_refl _)
  refine ⟨L, hi, R.mdeed.mt (fun _ _ F => F.binds fun _ _ _ _ _ _ us hl => match us, hl with | [_, _], _ => rfl) (fun _ _ F => ok_deed rfl F T (gn b.blen) (k.cNO_CALL.is X G) (k.cBEGINS.is X G) L.begins own) (Nat.le_refl _), ?_⟩
  obtain ⟨f, a, ⟨fd, F⟩, i, kp⟩ := M.m_init
  obtain ⟨fR, aI, ⟨fdR, FR⟩, iR, kR⟩ := inn
  obtain ⟨W, aW, D⟩ := wd
  exact ⟨f, fd, ⟨c.mks, a, i, c.kc⟩, ok_initH F T ⟨PySem.W.mg_of X G aR, ⟨ab.rd, ab.ga⟩, ⟨aI, rfl⟩, kR, ok_initR FR T, FR.binds fun _ _ _ _ _ _ us hl => match us, hl with | [_, _, _], _ => rfl⟩ (gn b.bdict) (k.cLONGEST_hall.is X G) (PySem.W.mg_of X G aW) D, F.binds fun _ _ _ _ _ _ us hl => match us, hl with | [_], _ => rfl⟩
/-- all that the top has written -/
structure AllF (K : PySem.W.Frag) (c : Cs) (CR : Addr) : Prop where
  cF : ClsFs K c.F
  cH : ClsFs K c.H
  cS : ClsFs K c.S
  cD : ClsFs K c.D
  nF : NoR K c.F
  nH : NoR K c.H
  nS : NoT K c.S
  nD : NoD K c.D
  rF : RidFs K c.F
  rH : RidFs K c.H
  mF : FieldFs K c.F
  mH : HallFs K c.H
  mS : SheetFs K c.S
  mD : DeskFs K c.D
  fn : FnsFs K
  ks : KsFs K
  bi : BisFs K
  st : StF K
  wF : WF K "WANTED_field" wantsF
  wH : WF K "WANTED_hall" wantsH
  wD : WF K "WANTED_desk" wantC
  ab : AbvFs K CR
  inn : InF K CR
theorem all_mk {fa CR : Addr} {c : Cs} (X : K.In h) (G : h.Ns mainGlobals mg) (hfa : mg "answers" = some (.ref fa)) (aF : PySem.W.nsIn K mainGlobals "Field" = some (some (.ref c.F))) (aH : PySem.W.nsIn K mainGlobals "Hall" = some (some (.ref c.H))) (aS : PySem.W.nsIn K mainGlobals "Sheet" = some (some (.ref c.S))) (aD : PySem.W.nsIn K mainGlobals "Desk" = some (some (.ref c.D))) (aR : PySem.W.nsIn K mainGlobals "Riddle" = some (some (.ref CR)))
    (ap : c.Apart) (a : AllF K c CR) :
    ∃ fd : FuncData, (∀ (s : Shared) (us : List Value), us.length = (["calls"] : List Str).length → BindsTo s fd ⟨us, []⟩ ((["calls"] : List Str).zip us)) ∧ ∀ base : Heap, K.In base → base.Ns mainGlobals mg → FnOk P w K mg base CX0 11 fa fd ["calls"] (spAnswers K) := by
  have gn : ∀ {n : Str}, PySem.W.nsIn K mainGlobals n = some none → mg n = none := fun e => PySem.W.mg_none_of X G e
  obtain ⟨f0, a0, ⟨fd0, F0⟩, i0, k0⟩ := a.fn.ganswers
  have e := hfa.symm.trans (PySem.W.mg_of X G a0)
  cases e
  have bnd : Binds K fd0 ["calls"] [] := F0.binds fun _ _ _ _ _ _ us hl => match us, hl with | [_], _ => rfl
  refine ⟨fd0, ?_, fun base _ _ => ?_⟩
  · obtain ⟨oc, od, kV, doc, pm, an, cdv, ct, osl, rfl, lk, hcd⟩ := F0.ex
    exact fun s us hu => match us, hu with | [_], _ => .of_eq rfl
  have T1 : RC K c.F := a.nF.rc a.cF
  have T2 : RC K c.H := a.nH.rc a.cH
  have T3 : TC K c.S := a.nS.tc a.cS
  have T4 : DC K c.D := a.nD.dc a.cD
  have ks := fun {m : Str} {i : Int} (k : KI K m i) => k.is X G
  have g_meets_all := a.fn.gmeets_all.gf (P := P) (w := w) (mg := mg) (base := base) X G (fun _ _ F => F.binds fun _ _ _ _ _ _ us hl => match us, hl with | [_, _], _ => rfl) (fun _ _ F => ok_meets F (gn a.bi.bany)) (Nat.le_refl _)
  have g_one_longer := a.fn.gone_longer.gf (P := P) (w := w) (mg := mg) (base := base) X G (fun _ _ F => F.binds fun _ _ _ _ _ _ us hl => match us, hl with | [_, _], _ => rfl) (fun _ _ F => ok_longer F) (Nat.le_refl _)
  have g_with_or_without := a.fn.gwith_or_without.gf (P := P) (w := w) (mg := mg) (base := base) X G (fun _ _ F => F.binds fun _ _ _ _ _ _ us hl => match us, hl with | [_, _, _], _ => rfl) (fun _ _ F => ok_wow F (gn a.bi.bany)) (Nat.le_refl _)
  have g_all_lit := a.fn.gall_lit.gf (P := P) (w := w) (mg := mg) (base := base) X G (fun _ _ F => F.binds fun _ _ _ _ _ _ us hl => match us, hl with | [_, _, _], _ => rfl) (fun _ _ F => ok_allLit F (gn a.bi.bany)) (Nat.le_refl _)
  have g_having := a.fn.ghaving.gf (P := P) (w := w) (mg := mg) (base := base) X G (fun _ _ F => F.binds fun _ _ _ _ _ _ us hl => match us, hl with | [_, _, _], _ => rfl) (fun _ _ F => ok_having F (ks a.ks.cTHERE_IS)) (Nat.le_refl _)
  have g_kind_of := a.fn.gkind_of.gf (P := P) (w := w) (mg := mg) (base := base) X G (fun _ _ F => F.binds fun _ _ _ _ _ _ us hl => match us, hl with | [_, _, _], _ => rfl) (fun _ _ F => ok_kind F (gn a.bi.blen) (ks a.ks.cCANT_BE) (ks a.ks.cMAY_BE) (ks a.ks.cSURE) g_having) (Nat.le_refl _)
  obtain ⟨W, aW, DW⟩ := a.wD
  have g_split_calls := a.fn.gsplit_calls.gf (P := P) (w := w) (mg := mg) (base := base) X G (fun _ _ F => F.binds fun _ _ _ _ _ _ us hl => match us, hl with | [_], _ => rfl) (fun _ _ F => ok_split F (gn a.bi.blen) (ks a.ks.cFIELD_CALL) (ks a.ks.cHALL_CALL) (PySem.W.mg_of X G aW) DW fun _ _ h => h) (Nat.le_refl _)
  have Mf : RidM P w K mg base c.F kF wantsF 5 fieldDeed := field_mk X G a.cF T1 a.rF a.mF a.ks a.bi a.st a.wF aR a.ab a.inn g_meets_all g_one_longer
  have Mh : RidM P w K mg base c.H kH wantsH 4 hallDeed := hall_mk X G a.cH T2 a.rH a.mH a.ks a.bi a.st a.wH aR a.ab a.inn g_meets_all g_one_longer g_with_or_without g_all_lit
  have s_left := a.mS.mleft.mt (P := P) (w := w) (mg := mg) (base := base) (fun _ _ F => F.binds fun _ _ _ _ _ _ us hl => match us, hl with | [_, _], _ => rfl) (fun _ _ F => ok_left F T3 g_having) (Nat.le_refl _)
  have s_has_begun := a.mS.mhas_begun.mt (P := P) (w := w) (mg := mg) (base := base) (fun _ _ F => F.binds fun _ _ _ _ _ _ us hl => match us, hl with | [_], _ => rfl) (fun _ _ F => ok_hasB F T3 (gn a.bi.bsum)) (Nat.le_refl _)
  have s_unmarked := a.mS.munmarked.mt (P := P) (w := w) (mg := mg) (base := base) (fun _ _ F => F.binds fun _ _ _ _ _ _ us hl => match us, hl with | [_, _], _ => rfl) (fun _ _ F => ok_unm F T3) (Nat.le_refl _)
  have s_kinds := a.mS.mkinds.mt (P := P) (w := w) (mg := mg) (base := base) (fun _ _ F => F.binds fun _ _ _ _ _ _ us hl => match us, hl with | [_], _ => rfl) (fun _ _ F => ok_kinds F T3 (ks a.ks.cCANT_BE) (ks a.ks.cMAY_BE) (ks a.ks.cSURE)) (Nat.le_refl _)
  have s_points := a.mS.mpoints.mt (P := P) (w := w) (mg := mg) (base := base) (fun _ _ F => F.binds fun _ _ _ _ _ _ us hl => match us, hl with | [_], _ => rfl) (fun _ _ F => ok_pts F T3 (ks a.ks.cCANT_BE) (ks a.ks.cMAY_BE) (ks a.ks.cSURE) (ks a.ks.cSURE_GAINS) (ks a.ks.cMAY_BE_GAINS) (ks a.ks.cCANT_BE_LOSES)) (Nat.le_refl _)
  have s_rub := a.mS.mrub.mt (P := P) (w := w) (mg := mg) (base := base) (fun _ _ F => F.binds fun _ _ _ _ _ _ us hl => match us, hl with | [_, _], _ => rfl) (fun _ _ F => ok_rub F T3 (gn a.bi.blen) (ks a.ks.cNOT_AS_IT_IS)) (Nat.le_refl _)
  have s_mark := a.mS.mmark.mt (P := P) (w := w) (mg := mg) (base := base) (fun _ _ F => F.binds fun _ _ _ _ _ _ us hl => match us, hl with | [_, _, _, _], _ => rfl) (fun _ _ F => ok_markS F T3 (gn a.bi.blen) (ks a.ks.cCANT_BE) (ks a.ks.cNOT_AS_IT_IS) s_left g_kind_of) (Nat.le_refl _)
  have s_next_sure := a.mS.mnext_sure.mt (P := P) (w := w) (mg := mg) (base := base) (fun _ _ F => F.binds fun _ _ _ _ _ _ us hl => match us, hl with | [_, _, _], _ => rfl) (fun _ _ F => ok_next F T3 (ks a.ks.cNOT_AS_IT_IS) (ks a.ks.cNOT_ENOUGH) (ks a.ks.cSURE) (ks a.ks.cTHERE_IS) (ks a.ks.cTHERE_IS_NONE) s_unmarked s_left g_kind_of) (Nat.le_refl _)
  have s_done := a.mS.mdone.mt (P := P) (w := w) (mg := mg) (base := base) (fun _ _ F => F.binds fun _ _ _ _ _ _ us hl => match us, hl with | [_, _, _], _ => rfl) (fun _ _ F => ok_done F T3 s_unmarked s_left) (Nat.le_refl _)
  have s_shown := a.mS.mshown.mt (P := P) (w := w) (mg := mg) (base := base) (fun _ _ F => F.binds fun _ _ _ _ _ _ us hl => match us, hl with | [_], _ => rfl) (fun _ _ F => ok_shown F T3 (gn a.bi.blen) (gn a.bi.bsorted) s_kinds) (Nat.le_refl _)
  obtain ⟨fS, aiS, ⟨fdS, FS⟩, iS, kS⟩ := a.mS.m_init
  have MS : Mk K c.S fS := ⟨a.cS.mks, aiS, iS, a.cS.kc⟩
  have GS : FnOk P w K mg base CX0 1 fS fdS ["self", "solver", "riddle"] (spInitT c.S) := ok_initT FS T3
  have BS : Binds K fdS ["self", "solver", "riddle"] [] := FS.binds fun _ _ _ _ _ _ us hl => match us, hl with | [_, _, _], _ => rfl
  obtain ⟨fF, fdF, MF1, GF1, BF1⟩ := Mf.made
  obtain ⟨fH, fdH, MH1, GH1, BH1⟩ := Mh.made
  have d_begins := a.mD.mbegins.mt (P := P) (w := w) (mg := mg) (base := base) (fun _ _ F => F.binds fun _ _ _ _ _ _ us hl => match us, hl with | [_, _], _ => rfl) (fun _ _ F => ok_begD F T4 ap (ks a.ks.cBAD_VALUE) (ks a.ks.cMOST_SOLVERS) (PySem.W.mg_of X G aF) MF1 GF1 BF1 (PySem.W.mg_of X G aH) MH1 GH1 BH1) (Nat.le_refl _)
  have d_forget_sheets := a.mD.mforget_sheets.mt (P := P) (w := w) (mg := mg) (base := base) (fun _ _ F => F.binds fun _ _ _ _ _ _ us hl => match us, hl with | [_, _], _ => rfl) (fun _ _ F => ok_forget F T4 T3 ap (gn a.bi.bzip) T1.cl T2.cl Mf.low.makeup Mh.low.makeup) (Nat.le_refl _)
  have d_sheet_of := a.mD.msheet_of.mt (P := P) (w := w) (mg := mg) (base := base) (fun _ _ F => F.binds fun _ _ _ _ _ _ us hl => match us, hl with | [_, _, _], _ => rfl) (fun _ _ F => ok_sheetOf F T4 T3 (PySem.W.mg_of X G aS) MS GS BS) (Nat.le_refl _)
  have d_mark := a.mD.mmark.mt (P := P) (w := w) (mg := mg) (base := base) (fun _ _ F => F.binds fun _ _ _ _ _ _ us hl => match us, hl with | [_, _, _, _, _], _ => rfl) (fun _ _ F => ok_markD F T4 T3 ap T1.cl T2.cl (ks a.ks.cBAD_VALUE) (ks a.ks.cTHERE_IS) (ks a.ks.cTHERE_IS_NONE) Mf.low.wanting Mh.low.wanting Mf.high.ways Mh.high.ways s_has_begun s_mark) (Nat.le_refl _)
  have d_of_sheet := a.mD.mof_sheet.mt (P := P) (w := w) (mg := mg) (base := base) (fun _ _ F => F.binds fun _ _ _ _ _ _ us hl => match us, hl with | [_, _, _], _ => rfl) (fun _ _ F => ok_ofSheet F T4 T3 ap T1.cl T2.cl (gn a.bi.blen) (ks a.ks.cNO_SUCH) (ks a.ks.cMARK_CALL) (ks a.ks.cRUB_CALL) (ks a.ks.cNEXT_CALL) (ks a.ks.cSHEET_CALL) Mf.low.wanting Mh.low.wanting Mf.high.ways Mh.high.ways d_sheet_of d_mark s_rub s_next_sure s_shown s_done) (Nat.le_refl _)
  have d_of_riddle := a.mD.mof_riddle.mt (P := P) (w := w) (mg := mg) (base := base) (fun _ _ F => F.binds fun _ _ _ _ _ _ us hl => match us, hl with | [_, _, _], _ => rfl) (fun _ _ F => ok_ofRid F T4 ap T1.cl T2.cl (gn a.bi.blen) (ks a.ks.cNO_SUCH) (ks a.ks.cGOOD_CALL) (ks a.ks.cTHIN_CALL) Mf.high.good Mh.high.good Mf.high.thin Mh.high.thin Mf.high.fill Mh.high.fill) (Nat.le_refl _)
  have d_state := a.mD.mstate.mt (P := P) (w := w) (mg := mg) (base := base) (fun _ _ F => F.binds fun _ _ _ _ _ _ us hl => match us, hl with | [_], _ => rfl) (fun _ _ F => ok_stateD F T4 T3 (gn a.bi.blen) s_kinds) (Nat.le_refl _)
  have d_standing := a.mD.mstanding.mt (P := P) (w := w) (mg := mg) (base := base) (fun _ _ F => F.binds fun _ _ _ _ _ _ us hl => match us, hl with | [_], _ => rfl) (fun _ _ F => ok_stand F T4 T3 (gn a.bi.blen) (gn a.bi.bsorted) (gn a.bi.brange) s_points) (Nat.le_refl _)
  have d_act := a.mD.mact.mt (P := P) (w := w) (mg := mg) (base := base) (fun _ _ F => F.binds fun _ _ _ _ _ _ us hl => match us, hl with | [_, _, _], _ => rfl) (fun _ _ F => ok_act F T4 ap T1.cl T2.cl (ks a.ks.cBEGINS_CALL) (ks a.ks.cFIELD_CALL) (ks a.ks.cHALL_CALL) (ks a.ks.cFIELD) (ks a.ks.cHALL) (ks a.ks.cSTANDING_CALL) (ks a.ks.cSTATE_CALL) (ks a.ks.cGOOD_CALL) (ks a.ks.cTHIN_CALL) (ks a.ks.cFILL_CALL) d_begins Mf.deed Mh.deed d_standing d_state d_of_riddle d_of_sheet) (Nat.le_refl _)
  have d_answer := a.mD.manswer.mt (P := P) (w := w) (mg := mg) (base := base) (fun _ _ F => F.binds fun _ _ _ _ _ _ us hl => match us, hl with | [_, _, _], _ => rfl) (fun _ _ F => ok_answer F T4 T1.cl T2.cl Mf.low.makeup Mh.low.makeup d_act d_forget_sheets) (Nat.le_refl _)
  obtain ⟨fD, aiD, ⟨fdD, FD⟩, iD, kD⟩ := a.mD.m_init
  have MD : Mk K c.D fD := ⟨a.cD.mks, aiD, iD, a.cD.kc⟩
  have GD : FnOk P w K mg base CX0 5 fD fdD ["self"] (spInitD c) := ok_initD FD T4 d_begins
  have BD : Binds K fdD ["self"] [] := FD.binds fun _ _ _ _ _ _ us hl => match us, hl with | [_], _ => rfl
  exact ok_answers F0 T4 (gn a.bi.blen) (PySem.W.mg_of X G aD) MD GD BD g_split_calls d_answer
end
/-- what is asked is what is told -/
theorem req_mk {K : PySem.W.Frag} {H : Hp} {p : Addr} {l : List Int} {Q : VK} (hs : SqL K H p (l.map V.int)) (h : PySy86.answers_asked l = true) (k : ∀ (H' : Hp) (q : Addr), H' q = some (.lst ((PySy86.answers l).map V.int)) → Q (.ref q) H') : spAnswers K [.ref p] H Q fun _ _ _ => False := by
  obtain ⟨cs, A⟩ := asked_is h
  refine ⟨p, cs, rfl, ?_, A.ok, A.few, A.short, fun q H' _ _ hq => k H' q ?_⟩
  · rw [← vL_cast, ← A.is]; exact hs
  · rw [A.due]; exact hq
end Rd
set_option linter.all false
set_option maxRecDepth 100000
set_option maxHeartbeats 2000000
namespace Rd
open PySem PySem.Spec PyProof.Rows L2 Evl
/-- the same, the classes one by one -/
theorem all_mk2 {P : Program} {w : World} {K : PySem.W.Frag} {mg : Str → Option Value} {h : Heap} {fa CR CF CH CS CD : Addr} (X : K.In h) (G : h.Ns mainGlobals mg) (hfa : mg "answers" = some (.ref fa)) (aF : PySem.W.nsIn K mainGlobals "Field" = some (some (.ref CF))) (aH : PySem.W.nsIn K mainGlobals "Hall" = some (some (.ref CH))) (aS : PySem.W.nsIn K mainGlobals "Sheet" = some (some (.ref CS))) (aD : PySem.W.nsIn K mainGlobals "Desk" = some (some (.ref CD))) (aR : PySem.W.nsIn K mainGlobals "Riddle" = some (some (.ref CR)))
    (ap : (⟨CF, CH, CS, CD⟩ : Cs).Apart) (a : AllF K ⟨CF, CH, CS, CD⟩ CR) :
    ∃ fd : FuncData, (∀ (s : Shared) (us : List Value), us.length = (["calls"] : List Str).length → BindsTo s fd ⟨us, []⟩ ((["calls"] : List Str).zip us)) ∧ ∀ base : Heap, K.In base → base.Ns mainGlobals mg → FnOk P w K mg base CX0 11 fa fd ["calls"] (spAnswers K) := all_mk (c := ⟨CF, CH, CS, CD⟩) X G hfa aF aH aS aD aR ap a
end Rd
set_option linter.all false
open PySem PySem.W PyProof.Rows
set_option maxRecDepth 100000 in
set_option maxHeartbeats 0 in
theorem PySem.Challenge.cw_riddledesk_s01_answers_holds : PySem.Challenge.rw_riddledesk_s01_answers.Holds := by
  w_on; k_headS; (case hw => exact ⟨[.list [.int 11]], by decide +kernel, by decide +kernel⟩)
  k_fillS
  refine L2.walk_specK (r := PySem.Challenge.rw_riddledesk_s01_answers) (k := 11) (CX := L2.CX0) (ps := ["calls"]) (sp := Rd.spAnswers) (by decide +kernel) rfl rfl ⟨rfl, by decide, by decide⟩ (fun w h Y => PySem.W.kIn_of Y) ?F ?S (fun _ _ _ _ z => z)
  case F =>
    intro w mg fa h Y KX G hmg
    refine' Rd.all_mk2 KX G hmg ?aF ?aH ?aS ?aD ?aR ?ap ?A
    case aF => k_is
    case aH => k_is
    case aS => k_is
    case aD => k_is
    case aR => k_is
    case ap => exact ⟨by decide, by decide, by decide, by decide, by decide, by decide⟩
    refine' ⟨?cF, ?cH, ?cS, ?cD, ?nF, ?nH, ?nS, ?nD, ?rF, ?rH, ?mF, ?mH, ?mS, ?mD, ?fn, ?ks, ?bi, ?st, ?wF, ?wH, ?wD, ?ab, ?inn⟩
    case cF => constructor <;> k_is
    case cH => constructor <;> k_is
    case cS => constructor <;> k_is
    case cD => constructor <;> k_is
    case nF => constructor <;> k_is
    case nH => constructor <;> k_is
    case nS => constructor <;> k_is
    case nD => constructor <;> k_is
    case bi => constructor <;> k_is
    case ks => constructor <;> (refine' Rd.ki_mk ?h; (case h => k_is))
    case ab => constructor <;> k_is
    case fn => constructor <;> (refine' Rd.gf_mk ?a ?l ?c ?k ?i; (case a => k_is); (case l => k_is); (case c => k_is); (case k => k_is); (case i => k_is))
    case rF => constructor <;> (refine' Rd.mf_mk ?a ?l ?c ?k ?i; (case a => k_is); (case l => k_is); (case c => k_is); (case k => k_is); (case i => k_is))
    case rH => constructor <;> (refine' Rd.mf_mk ?a ?l ?c ?k ?i; (case a => k_is); (case l => k_is); (case c => k_is); (case k => k_is); (case i => k_is))
    case mF => constructor <;> (refine' Rd.mf_mk ?a ?l ?c ?k ?i; (case a => k_is); (case l => k_is); (case c => k_is); (case k => k_is); (case i => k_is))
    case mH => constructor <;> (refine' Rd.mf_mk ?a ?l ?c ?k ?i; (case a => k_is); (case l => k_is); (case c => k_is); (case k => k_is); (case i => k_is))
    case mS => constructor <;> (refine' Rd.mf_mk ?a ?l ?c ?k ?i; (case a => k_is); (case l => k_is); (case c => k_is); (case k => k_is); (case i => k_is))
    case mD => constructor <;> (refine' Rd.mf_mk ?a ?l ?c ?k ?i; (case a => k_is); (case l => k_is); (case c => k_is); (case k => k_is); (case i => k_is))
    case inn => (refine' Rd.in_mk ?a ?l ?c ?k ?i; (case a => k_is); (case l => k_is); (case c => k_is); (case k => k_is); (case i => k_is))
    case st =>
      refine' Rd.st_mk ?e ?l ?l0 ?l1 ?l2 ?l3
      case e => k_is
      case l => k_is
      case l0 => k_is
      case l1 => k_is
      case l2 => k_is
      case l3 => k_is
    case wF =>
      refine' Rd.wf_mk ?a ?l ?e ?low ?nd ?few
      case a => k_is
      case l => k_is
      case e => repeat (first | exact trivial | refine ⟨⟨_, rfl⟩, ⟨_, rfl⟩, rfl, ?_⟩)
      case low => decide
      case nd => decide
      case few => decide
    case wH =>
      refine' Rd.wf_mk ?a ?l ?e ?low ?nd ?few
      case a => k_is
      case l => k_is
      case e => repeat (first | exact trivial | refine ⟨⟨_, rfl⟩, ⟨_, rfl⟩, rfl, ?_⟩)
      case low => decide
      case nd => decide
      case few => decide
    case wD =>
      refine' Rd.wf_mk ?a ?l ?e ?low ?nd ?few
      case a => k_is
      case l => k_is
      case e => repeat (first | exact trivial | refine ⟨⟨_, rfl⟩, ⟨_, rfl⟩, rfl, ?_⟩)
      case low => decide
      case nd => decide
      case few => decide
  case S =>
    intro K H xs a hO hwi hask hx
    cases hx with
    | cons h1 h2 =>
      cases h2
      cases h1 with
      | lst hs ha =>
        have e := L2.ints_dw a.1 _ ha
        subst e
        exact Rd.req_mk hs (show PySy86.answers_asked a.1 = true from hask) fun H' q hq => .lst (L2.SqL.of hq) (L2.dw_ints _)
#print axioms PySem.Challenge.cw_riddledesk_s01_answers_holds
