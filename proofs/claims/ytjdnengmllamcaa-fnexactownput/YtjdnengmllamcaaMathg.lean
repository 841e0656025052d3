/-
  How trees grow, as plain mathematics: the proof of growth, what it leads to, and that it shows what has grown.
-/
import Derived.Test.YtjdnengmllamcaaMathd
namespace Go.Proofs.Ytjdnengmllamcaa.Tm

/-- what shows that the first m leaves are the beginning of all; alone: whether it is told by the first m alone -/
def conF : Nat → List Int → Nat → Bool → List Int
  | 0, _, _, _ => []
  | f + 1, l, m, alone => if m = l.length then (if alone = true then [] else [root l]) else if m ≤ sp l then conF f (l.take (sp l)) m alone ++ [root (l.drop (sp l))] else conF f (l.drop (sp l)) (m - sp l) false ++ [root (l.take (sp l))]
theorem conF_same : ∀ (f g : Nat) (l : List Int) (m : Nat) (alone : Bool), l.length ≤ f → l.length ≤ g → l.length ≤ 40 → 1 ≤ m → m ≤ l.length → conF f l m alone = conF g l m alone := by
  intro f
  induction f with
  | zero => intro g l m alone h1 h2 h3 h4 h5; omega
  | succ f ih =>
    intro g l m alone h1 h2 h3 h4 h5
    cases g with
    | zero => omega
    | succ g =>
      simp only [conF]
      by_cases e0 : m = l.length
      · rw [if_pos e0, if_pos e0]
      · rw [if_neg e0, if_neg e0]
        have hs := sp_bd (l := l) (by omega) h3
        by_cases e1 : m ≤ sp l
        · rw [if_pos e1, if_pos e1, ih g (l.take (sp l)) m alone (by rw [List.length_take]; omega) (by rw [List.length_take]; omega) (by rw [List.length_take]; omega) h4 (by rw [List.length_take]; omega)]
        · rw [if_neg e1, if_neg e1, ih g (l.drop (sp l)) (m - sp l) false (by rw [List.length_drop]; omega) (by rw [List.length_drop]; omega) (by rw [List.length_drop]; omega) (by omega) (by rw [List.length_drop]; omega)]
def con (l : List Int) (m : Nat) (alone : Bool) : List Int := conF l.length l m alone
theorem con_all {l : List Int} {m : Nat} {alone : Bool} (h : m = l.length) (h1 : 1 ≤ m) : con l m alone = if alone = true then [] else [root l] := by
  unfold con
  obtain ⟨f, hf⟩ : ∃ f, l.length = f + 1 := ⟨l.length - 1, by omega⟩
  rw [hf]
  simp only [conF]
  rw [if_pos h]
theorem con_left {l : List Int} {m : Nat} {alone : Bool} (h1 : 1 ≤ m) (h : m < l.length) (h2 : l.length ≤ 40) (hm : m ≤ sp l) : con l m alone = con (l.take (sp l)) m alone ++ [root (l.drop (sp l))] := by
  have hs := sp_bd (l := l) (by omega) h2
  obtain ⟨f, hf⟩ : ∃ f, l.length = f + 1 := ⟨l.length - 1, by omega⟩
  unfold con
  rw [hf]
  simp only [conF]
  rw [if_neg (by omega), if_pos hm, conF_same f (l.take (sp l)).length (l.take (sp l)) m alone (by rw [List.length_take]; omega) (Nat.le_refl _) (by rw [List.length_take]; omega) h1 (by rw [List.length_take]; omega)]
theorem con_right {l : List Int} {m : Nat} {alone : Bool} (h1 : 1 ≤ m) (h : m < l.length) (h2 : l.length ≤ 40) (hm : ¬ m ≤ sp l) : con l m alone = con (l.drop (sp l)) (m - sp l) false ++ [root (l.take (sp l))] := by
  have hs := sp_bd (l := l) (by omega) h2
  obtain ⟨f, hf⟩ : ∃ f, l.length = f + 1 := ⟨l.length - 1, by omega⟩
  unfold con
  rw [hf]
  simp only [conF]
  rw [if_neg (by omega), if_neg hm, conF_same f (l.drop (sp l)).length (l.drop (sp l)) (m - sp l) false (by rw [List.length_drop]; omega) (Nat.le_refl _) (by rw [List.length_drop]; omega) (by omega) (by rw [List.length_drop]; omega)]
theorem con_len : ∀ (f : Nat) (l : List Int) (m : Nat) (alone : Bool), l.length ≤ f → l.length ≤ 40 → 1 ≤ m → m ≤ l.length → (con l m alone).length ≤ high l.length + 1 := by
  intro f
  induction f with
  | zero => intro l m alone h1 h2 h3 h4; omega
  | succ f ih =>
    intro l m alone h1 h2 h3 h4
    by_cases e0 : m = l.length
    · rw [con_all e0 h3]; split <;> simp
    · have hs := sp_bd (l := l) (by omega) h2
      have hp := high_part (l := l) (by omega) h2
      by_cases hm : m ≤ sp l
      · have h5 := ih (l.take (sp l)) m alone (by rw [List.length_take]; omega) (by rw [List.length_take]; omega) h3 (by rw [List.length_take]; omega)
        rw [List.length_take, Nat.min_eq_left (by omega)] at h5
        rw [con_left h3 (by omega) h2 hm, List.length_append, List.length_singleton]
        omega
      · have h5 := ih (l.drop (sp l)) (m - sp l) false (by rw [List.length_drop]; omega) (by rw [List.length_drop]; omega) (by omega) (by rw [List.length_drop]; omega)
        rw [List.length_drop] at h5
        rw [con_right h3 (by omega) h2 hm, List.length_append, List.length_singleton]
        omega
theorem con_len7 {l : List Int} {m : Nat} (alone : Bool) (h : l.length ≤ 40) (h1 : 1 ≤ m) (h2 : m ≤ l.length) : (con l m alone).length ≤ 7 :=
  Nat.le_trans (con_len _ l m alone (Nat.le_refl _) h h1 h2) (by have := high_le l.length; omega)
theorem con_ok : ∀ (f : Nat) (l : List Int) (m : Nat) (alone : Bool), l.length ≤ f → l.length ≤ 40 → 1 ≤ m → m ≤ l.length → okAll l = true → okAll (con l m alone) = true := by
  intro f
  induction f with
  | zero => intro l m alone h1 h2 h3 h4; omega
  | succ f ih =>
    intro l m alone h1 h2 h3 h4 h5
    by_cases e0 : m = l.length
    · rw [con_all e0 h3]
      split
      · rfl
      · have := root_ok _ l (Nat.le_refl _) h2 h5
        simp [okAll, this]
    · have hs := sp_bd (l := l) (by omega) h2
      by_cases hm : m ≤ sp l
      · rw [con_left h3 (by omega) h2 hm]
        exact okAll_snoc (ih _ m alone (by rw [List.length_take]; omega) (by rw [List.length_take]; omega) h3 (by rw [List.length_take]; omega) (okAll_take h5 _)) (root_ok _ _ (Nat.le_refl _) (by rw [List.length_drop]; omega) (okAll_drop h5 _))
      · rw [con_right h3 (by omega) h2 hm]
        exact okAll_snoc (ih _ _ false (by rw [List.length_drop]; omega) (by rw [List.length_drop]; omega) (by omega) (by rw [List.length_drop]; omega) (okAll_drop h5 _)) (root_ok _ _ (Nat.le_refl _) (by rw [List.length_take]; omega) (okAll_take h5 _))

/-- both roots that a proof of growth leads to, the proof's last number first -/
def bothR : List Int → Int → Int → Int → Bool → Option (Int × Int)
  | [], m, n, old, alone => if m = n ∧ alone = true then some (old, old) else none
  | p :: rp, m, n, old, alone =>
    if m = n then (if alone = false ∧ rp = [] then some (p, p) else none)
    else if m ≤ split n then (bothR rp m (split n) old alone).map (fun x => (x.1, pair x.2 p))
    else (bothR rp (m - split n) (n - split n) old false).map (fun x => (pair p x.1, pair p x.2))
def both (m n old : Int) (proof : List Int) (alone : Bool) : Option (Int × Int) := bothR proof.reverse m n old alone
theorem both_nil_all {m n old : Int} (h : m = n) : both m n old [] true = some (old, old) := by simp [both, bothR, h]
theorem both_nil_not {m n old : Int} {alone : Bool} (h : ¬ (m = n ∧ alone = true)) : both m n old [] alone = none := by
  simp only [both, List.reverse_nil, bothR]; rw [if_neg h]
theorem both_one {m n old p : Int} (h : m = n) : both m n old [p] false = some (p, p) := by simp [both, bothR, h]
theorem both_all_not {m n old p : Int} {init : List Int} {alone : Bool} (h : m = n) (h2 : ¬ (alone = false ∧ init = [])) : both m n old (init ++ [p]) alone = none := by
  simp only [both, List.reverse_append, List.reverse_cons, List.reverse_nil, List.nil_append, List.singleton_append, bothR]
  rw [if_pos h, if_neg (by simpa using h2)]
theorem both_left {m n old p : Int} {init : List Int} {alone : Bool} (h : ¬ m = n) (hm : m ≤ split n) : both m n old (init ++ [p]) alone = (both m (split n) old init alone).map (fun x => (x.1, pair x.2 p)) := by
  simp only [both, List.reverse_append, List.reverse_cons, List.reverse_nil, List.nil_append, List.singleton_append, bothR]
  rw [if_neg h, if_pos hm]
theorem both_right {m n old p : Int} {init : List Int} {alone : Bool} (h : ¬ m = n) (hm : ¬ m ≤ split n) : both m n old (init ++ [p]) alone = (both (m - split n) (n - split n) old init false).map (fun x => (pair p x.1, pair p x.2)) := by
  simp only [both, List.reverse_append, List.reverse_cons, List.reverse_nil, List.nil_append, List.singleton_append, bothR]
  rw [if_neg h, if_neg hm]
theorem bothR_ok {old : Int} (hl : okB old = true) : ∀ (rp : List Int) (m n : Int) (alone : Bool) (x : Int × Int), okAll rp = true → bothR rp m n old alone = some x → okB x.1 = true ∧ okB x.2 = true := by
  intro rp
  induction rp with
  | nil => intro m n alone x _ h; simp only [bothR] at h; split at h; cases h; exact ⟨hl, hl⟩; cases h
  | cons p rp ih =>
    intro m n alone x hok h
    have hp : okB p = true := by simp [okAll] at hok; exact hok.1
    have hr : okAll rp = true := by simp [okAll] at hok ⊢; exact hok.2
    simp only [bothR] at h
    split at h
    · split at h
      · cases h; exact ⟨hp, hp⟩
      · cases h
    · split at h
      · rw [Option.map_eq_some_iff] at h
        obtain ⟨y, hy, rfl⟩ := h
        exact ⟨(ih _ _ _ _ hr hy).1, pair_ok _ _⟩
      · rw [Option.map_eq_some_iff] at h
        obtain ⟨y, _, rfl⟩ := h
        exact ⟨pair_ok _ _, pair_ok _ _⟩
theorem okAll_reverse {l : List Int} (h : okAll l = true) : okAll l.reverse = true := by
  unfold okAll at *; rw [List.all_eq_true] at *; exact fun x hx => h x (List.mem_reverse.1 hx)
theorem both_ok {old : Int} (hl : okB old = true) {ps : List Int} (hp : okAll ps = true) {m n : Int} {alone : Bool} {x : Int × Int} (h : both m n old ps alone = some x) : okB x.1 = true ∧ okB x.2 = true :=
  bothR_ok hl _ _ _ _ _ (okAll_reverse hp) h

/-- the parting of the first ones, where they reach beyond the first part, is that of all -/
theorem sp_take {l : List Int} {m : Nat} (h2 : l.length ≤ 40) (hm : ¬ m ≤ sp l) (hl : m ≤ l.length) (hl2 : 2 ≤ l.length) : sp (l.take m) = sp l := by
  have hs := sp_bd hl2 h2
  have hsi := sp_int hl2 h2
  have hlen : (l.take m).length = m := by rw [List.length_take]; omega
  have h1 := split_eq (split_pow l.length) (n := (m : Int)) (by omega) (by omega)
  unfold sp
  rw [hlen, ← h1]
theorem root_take {l : List Int} {m : Nat} (h2 : l.length ≤ 40) (hm : ¬ m ≤ sp l) (hl : m ≤ l.length) (hl2 : 2 ≤ l.length) : root (l.take m) = pair (root (l.take (sp l))) (root ((l.drop (sp l)).take (m - sp l))) := by
  have hs := sp_bd hl2 h2
  have hlen : (l.take m).length = m := by rw [List.length_take]; omega
  rw [root_more (by omega) (by omega), sp_take h2 hm hl hl2, List.take_take, Nat.min_eq_left (by omega), List.drop_take]
/-- WHAT HAS GROWN CAN BE SHOWN TO HAVE GROWN -/
theorem both_con : ∀ (f : Nat) (l : List Int) (m : Nat) (alone : Bool) (old : Int), l.length ≤ f → l.length ≤ 40 → 1 ≤ m → m ≤ l.length → (alone = true → old = root (l.take m)) →
    both m l.length old (con l m alone) alone = some (root (l.take m), root l) := by
  intro f
  induction f with
  | zero => intro l m alone old h1 h2 h3 h4; omega
  | succ f ih =>
    intro l m alone old h1 h2 h3 h4 h5
    by_cases e0 : m = l.length
    · rw [con_all e0 h3]
      subst e0
      rw [List.take_length] at h5 ⊢
      cases alone
      · rw [if_neg (by simp), both_one rfl]
      · rw [if_pos rfl, both_nil_all rfl, h5 rfl]
    · have hs := sp_bd (l := l) (by omega) h2
      have hsi := sp_int (l := l) (by omega) h2
      by_cases hm : m ≤ sp l
      · have h6 := ih (l.take (sp l)) m alone old (by rw [List.length_take]; omega) (by rw [List.length_take]; omega) h3 (by rw [List.length_take]; omega) (fun ha => by rw [List.take_take, Nat.min_eq_left hm]; exact h5 ha)
        rw [List.take_take, Nat.min_eq_left hm, List.length_take, Nat.min_eq_left (by omega)] at h6
        rw [con_left h3 (by omega) h2 hm, both_left (by omega) (by omega), hsi, h6, root_more (by omega) h2]
        rfl
      · have h6 := ih (l.drop (sp l)) (m - sp l) false old (by rw [List.length_drop]; omega) (by rw [List.length_drop]; omega) (by omega) (by rw [List.length_drop]; omega) (fun ha => by cases ha)
        rw [List.length_drop] at h6
        rw [con_right h3 (by omega) h2 hm, both_right (by omega) (by omega), hsi]
        rw [show ((m : Int) - (sp l : Int)) = ((m - sp l : Nat) : Int) by omega, show ((l.length : Int) - (sp l : Int)) = ((l.length - sp l : Nat) : Int) by omega, h6, root_more (l := l) (by omega) h2, root_take h2 hm h4 (by omega)]
        rfl
/-- ConProof's answer -/
def conProof (l : List Int) (m : Int) : List Int := if treOk l = true ∧ 1 ≤ m ∧ m ≤ l.length then con l m.toNat true else []
/-- ConCheck's answer -/
def conCheck (m old n root : Int) (ps : List Int) : Bool :=
  if 1 ≤ n ∧ n ≤ 40 ∧ 1 ≤ m ∧ m ≤ n ∧ okB old = true ∧ okB root = true ∧ treOk ps = true then decide (both m n old ps true = some (old, root)) else false
end Go.Proofs.Ytjdnengmllamcaa.Tm
