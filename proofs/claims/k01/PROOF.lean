import PyProof.Rows.All
import Wide.All
import OpenK.AllK
import Wide.FinOn
import HandS.ForMost
import HandS.More
import HandS.Wide
import HandS.WideBits
import HandS.SortRule
import HandS.SortInts
import PyProof.StrOps2
import PyProof.Rows.SortShellAny
import HandS.IsInst
import HandS.Evl
import PySem.Challenge.RW_measurekind_k01_measures_multiplied
set_option Elab.async false
set_option linter.all false
/-! Measures as lists of pairs: association lists, sums by letter, the one sorted list of a sum. Plain Lean. -/
namespace MK
open PySem

/-! ### association lists -/
section
variable {α : Type}
def lk : List (Str × α) → Str → Option α
  | [], _ => none
  | p :: r, l => if p.1 = l then some p.2 else lk r l
def put : List (Str × α) → Str → α → List (Str × α)
  | [], l, v => [(l, v)]
  | p :: r, l, v => if p.1 = l then (p.1, v) :: r else p :: put r l v
theorem lk_put : ∀ (m : List (Str × α)) (l j : Str) (v : α), lk (put m l v) j = if j = l then some v else lk m j
  | [], l, j, v => by
    by_cases e : l = j
    · simp [put, lk, e]
    · have e' : ¬ j = l := fun z => e z.symm
      simp [put, lk, e, e']
  | p :: r, l, j, v => by
    have ih := lk_put r l j v
    unfold put
    by_cases e : p.1 = l
    · rw [if_pos e]
      by_cases e2 : p.1 = j
      · have : j = l := e2.symm.trans e
        simp [lk, e2, this]
      · have : ¬ j = l := fun z => e2 (e.trans z.symm)
        simp [lk, e2, this]
    · rw [if_neg e]
      by_cases e2 : p.1 = j
      · have : ¬ j = l := fun z => e (e2.trans z)
        simp [lk, e2, this]
      · simp [lk, e2, ih]
theorem put_keys : ∀ (m : List (Str × α)) (l : Str) (v : α), (∀ k, k ∈ (put m l v).map (·.1) ↔ (k = l ∨ k ∈ m.map (·.1)))
  | [], l, v, k => by simp [put]
  | p :: r, l, v, k => by
    have ih := put_keys r l v k
    unfold put
    by_cases e : p.1 = l
    · rw [if_pos e]
      simp only [List.map_cons, List.mem_cons]
      rw [e]
      constructor
      · intro h; rcases h with h | h
        · exact .inl h
        · exact .inr (.inr h)
      · intro h; rcases h with h | h | h
        · exact .inl h
        · exact .inl h
        · exact .inr h
    · rw [if_neg e]
      simp only [List.map_cons, List.mem_cons]
      rw [ih]
      constructor
      · intro h; rcases h with h | h | h
        · exact .inr (.inl h)
        · exact .inl h
        · exact .inr (.inr h)
      · intro h; rcases h with h | h | h
        · exact .inr (.inl h)
        · exact .inl h
        · exact .inr (.inr h)
theorem put_nodup : ∀ {m : List (Str × α)} (l : Str) (v : α), (m.map (·.1)).Nodup → ((put m l v).map (·.1)).Nodup
  | [], l, v, _ => by simp [put]
  | p :: r, l, v, h => by
    have h : (p.1 :: r.map (·.1)).Nodup := h
    obtain ⟨h1, h2⟩ := List.nodup_cons.mp h
    unfold put
    by_cases e : p.1 = l
    · rw [if_pos e]
      exact h
    · rw [if_neg e]
      show (p.1 :: (put r l v).map (·.1)).Nodup
      refine List.nodup_cons.mpr ⟨fun q => ?_, put_nodup l v h2⟩
      rcases (put_keys r l v p.1).mp q with z | z
      · exact e z
      · exact h1 z
theorem put_len : ∀ (m : List (Str × α)) (l : Str) (v : α), (put m l v).length ≤ m.length + 1
  | [], l, v => by simp [put]
  | p :: r, l, v => by
    have ih := put_len r l v
    unfold put
    by_cases e : p.1 = l
    · rw [if_pos e]; simp
    · rw [if_neg e]; simp only [List.length_cons]; omega
theorem put_mem : ∀ {m : List (Str × α)} {l : Str} {v : α} {q : Str × α}, q ∈ put m l v → q = (l, v) ∨ q ∈ m
  | [], l, v, q, h => by
    simp [put] at h
    exact .inl h
  | p :: r, l, v, q, h => by
    unfold put at h
    by_cases e : p.1 = l
    · rw [if_pos e] at h
      rcases List.mem_cons.mp h with z | z
      · exact .inl (by rw [z, e])
      · exact .inr (List.mem_cons_of_mem _ z)
    · rw [if_neg e] at h
      rcases List.mem_cons.mp h with z | z
      · exact .inr (by rw [z]; exact List.mem_cons_self)
      · rcases put_mem z with y | y
        · exact .inl y
        · exact .inr (List.mem_cons_of_mem _ y)
theorem lk_of_mem : ∀ {m : List (Str × α)} {l : Str} {v : α}, (m.map (·.1)).Nodup → (l, v) ∈ m → lk m l = some v
  | p :: r, l, v, h, q => by
    have h : (p.1 :: r.map (·.1)).Nodup := h
    obtain ⟨h1, h2⟩ := List.nodup_cons.mp h
    unfold lk
    rcases List.mem_cons.mp q with z | z
    · rw [← z]
      simp
    · have ne : ¬ p.1 = l := fun e => h1 (by rw [e]; exact List.mem_map.mpr ⟨_, z, rfl⟩)
      rw [if_neg ne]
      exact lk_of_mem h2 z
theorem mem_of_lk : ∀ {m : List (Str × α)} {l : Str} {v : α}, lk m l = some v → (l, v) ∈ m
  | [], l, v, h => by simp [lk] at h
  | p :: r, l, v, h => by
    unfold lk at h
    by_cases e : p.1 = l
    · rw [if_pos e] at h
      have : p.2 = v := Option.some.inj h
      rw [← e, ← this]
      exact List.mem_cons_self
    · rw [if_neg e] at h
      exact List.mem_cons_of_mem _ (mem_of_lk h)
theorem lk_none : ∀ {m : List (Str × α)} {l : Str}, lk m l = none ↔ ¬ l ∈ m.map (·.1)
  | [], l => by simp [lk]
  | p :: r, l => by
    have ih := lk_none (m := r) (l := l)
    unfold lk
    by_cases e : p.1 = l
    · simp [e]
    · rw [if_neg e, ih]
      simp only [List.map_cons, List.mem_cons]
      constructor
      · intro h z
        rcases z with z | z
        · exact e z.symm
        · exact h z
      · exact fun h z => h (.inr z)
end

/-! ### powers by letters -/
abbrev Ms := List (Str × Int)
def at0 (m : Ms) (l : Str) : Int := (lk m l).getD 0
theorem at0_nil (l : Str) : at0 [] l = 0 := rfl
theorem at0_put (m : Ms) (l j : Str) (v : Int) : at0 (put m l v) j = if j = l then v else at0 m j := by
  unfold at0
  rw [lk_put]
  by_cases e : j = l
  · rw [if_pos e, if_pos e]; rfl
  · rw [if_neg e, if_neg e]
/-- the sum of what stands at a letter, however often -/
def sumAt : Ms → Str → Int
  | [], _ => 0
  | p :: r, j => (if p.1 = j then p.2 else 0) + sumAt r j
theorem sumAt_append : ∀ (a b : Ms) (j : Str), sumAt (a ++ b) j = sumAt a j + sumAt b j
  | [], b, j => by simp [sumAt]
  | p :: r, b, j => by
    have ih := sumAt_append r b j
    show (if p.1 = j then p.2 else 0) + sumAt (r ++ b) j = (if p.1 = j then p.2 else 0) + sumAt r j + sumAt b j
    omega
theorem sumAt_one (l : Str) (n : Int) (j : Str) : sumAt [(l, n)] j = if l = j then n else 0 := by
  show (if l = j then n else 0) + 0 = _
  omega
theorem sumAt_no : ∀ {m : Ms} {j : Str}, ¬ j ∈ m.map (·.1) → sumAt m j = 0
  | [], _, _ => rfl
  | p :: r, j, h => by
    have h1 : ¬ p.1 = j := fun e => h (by rw [← e]; exact List.mem_cons_self)
    have h2 : ¬ j ∈ r.map (·.1) := fun e => h (List.mem_cons_of_mem _ e)
    show (if p.1 = j then p.2 else 0) + sumAt r j = 0
    rw [if_neg h1, sumAt_no h2]
    rfl
theorem sumAt_at0 : ∀ {m : Ms} (j : Str), (m.map (·.1)).Nodup → sumAt m j = at0 m j
  | [], _, _ => rfl
  | p :: r, j, h => by
    have h : (p.1 :: r.map (·.1)).Nodup := h
    obtain ⟨h1, h2⟩ := List.nodup_cons.mp h
    show (if p.1 = j then p.2 else 0) + sumAt r j = at0 (p :: r) j
    by_cases e : p.1 = j
    · rw [if_pos e, sumAt_no (by rw [← e]; exact h1)]
      unfold at0 lk
      rw [if_pos e]
      show p.2 + 0 = p.2
      omega
    · rw [if_neg e, sumAt_at0 j h2]
      have q : at0 (p :: r) j = at0 r j := by
        show (if p.1 = j then some p.2 else lk r j).getD 0 = _
        rw [if_neg e]
        rfl
      rw [q]
      omega
def scaled (m : Ms) (n : Int) : Ms := m.map fun p => (p.1, p.2 * n)
theorem sumAt_scaled : ∀ (m : Ms) (n : Int) (j : Str), sumAt (scaled m n) j = sumAt m j * n
  | [], n, j => by show (0 : Int) = 0 * n; omega
  | p :: r, n, j => by
    have ih := sumAt_scaled r n j
    show (if p.1 = j then p.2 * n else 0) + sumAt (scaled r n) j = ((if p.1 = j then p.2 else 0) + sumAt r j) * n
    rw [ih, Int.add_mul]
    by_cases e : p.1 = j
    · rw [if_pos e, if_pos e]
    · rw [if_neg e, if_neg e]; omega
theorem nodup_of_map {β γ : Type} {g : β → γ} {l : List β} (h : (l.map g).Nodup) : l.Nodup := (List.pairwise_map.mp h).imp fun q e => q (congrArg g e)
theorem at0_mem {m : Ms} {j : Str} (h : at0 m j ≠ 0) : (j, at0 m j) ∈ m := by
  unfold at0 at h ⊢
  cases e : lk m j with
  | none => rw [e] at h; exact absurd rfl h
  | some v => exact mem_of_lk e
theorem sumAt_mem {m : Ms} {j : Str} (h : sumAt m j ≠ 0) : j ∈ m.map (·.1) := Decidable.byContradiction fun q => h (sumAt_no q)

/-! ### the order of texts -/
abbrev sLt (a b : Str) : Prop := a.cps.toList < b.cps.toList
theorem sLt_irr (a : Str) : ¬ sLt a a := List.lt_irrefl _
theorem sLt_tr {a b c : Str} (h : sLt a b) (h2 : sLt b c) : sLt a c := List.lt_trans h h2
theorem str_ext {a b : Str} (h : a.cps.toList = b.cps.toList) : a = b := by
  cases a; cases b
  simp at h
  rw [h]
theorem sLt_tri {a b : Str} (h : ¬ sLt a b) (h2 : ¬ sLt b a) : a = b := str_ext (List.le_antisymm (List.not_lt.mp h2) (List.not_lt.mp h))

/-! ### the measures in their one form -/
def Ris (m : List (Str × Int)) : Prop := m.Pairwise fun p q => sLt p.1 q.1
structure Can (m : Ms) : Prop where
  ris : Ris m
  nz : ∀ p ∈ m, p.2 ≠ 0
theorem Ris.nodup {m : Ms} (h : Ris m) : (m.map (·.1)).Nodup := by
  refine List.pairwise_map.mpr (h.imp fun {a b} q => ?_)
  intro e
  rw [e] at q
  exact sLt_irr _ q
theorem ris_ext : ∀ {a b : Ms}, Ris a → Ris b → (∀ p, p ∈ a ↔ p ∈ b) → a = b
  | [], [], _, _, _ => rfl
  | [], p :: r, _, _, h => absurd ((h p).mpr List.mem_cons_self) (by simp)
  | p :: r, [], _, _, h => absurd ((h p).mp List.mem_cons_self) (by simp)
  | p :: r, q :: t, ha, hb, h => by
    obtain ⟨a1, a2⟩ := List.pairwise_cons.mp ha
    obtain ⟨b1, b2⟩ := List.pairwise_cons.mp hb
    have e : p = q := by
      rcases List.mem_cons.mp ((h p).mp List.mem_cons_self) with z | z
      · exact z
      · rcases List.mem_cons.mp ((h q).mpr List.mem_cons_self) with y | y
        · exact y.symm
        · exact absurd (sLt_tr (b1 p z) (a1 q y)) (sLt_irr _)
    subst e
    refine congrArg (p :: ·) (ris_ext a2 b2 fun x => ?_)
    constructor
    · intro hx
      rcases List.mem_cons.mp ((h x).mp (List.mem_cons_of_mem _ hx)) with z | z
      · exact absurd (z ▸ a1 x hx) (sLt_irr _)
      · exact z
    · intro hx
      rcases List.mem_cons.mp ((h x).mpr (List.mem_cons_of_mem _ hx)) with z | z
      · exact absurd (z ▸ b1 x hx) (sLt_irr _)
      · exact z
theorem Can.mem {m : Ms} (h : Can m) (l : Str) (n : Int) : (l, n) ∈ m ↔ n ≠ 0 ∧ at0 m l = n := by
  constructor
  · intro q
    refine ⟨h.nz _ q, ?_⟩
    unfold at0
    rw [lk_of_mem h.ris.nodup q]
    rfl
  · rintro ⟨a, b⟩
    rw [← b]
    exact at0_mem (by rw [b]; exact a)
theorem can_ext {a b : Ms} (ha : Can a) (hb : Can b) (h : ∀ j, at0 a j = at0 b j) : a = b :=
  ris_ext ha.ris hb.ris fun p => by
    rw [show p = (p.1, p.2) from rfl, ha.mem, hb.mem, h]
/-- what the program makes of a dict: its pairs that are not nought, in their order -/
theorem made_prog {d r : Ms} (hd : (d.map (·.1)).Nodup) (hr : Ris r) (hp : ∀ p, p ∈ r ↔ p ∈ d ∧ p.2 ≠ 0) : Can r ∧ ∀ j, at0 r j = at0 d j := by
  have hc : Can r := ⟨hr, fun p q => ((hp p).mp q).2⟩
  refine ⟨hc, fun j => ?_⟩
  by_cases e : at0 d j = 0
  · rw [e]
    refine Decidable.byContradiction fun z => ?_
    have q := (hp _).mp (at0_mem z)
    have q2 : at0 d j = at0 r j := by
      show (lk d j).getD 0 = _
      rw [lk_of_mem hd q.1]
      rfl
    rw [e] at q2
    exact z q2.symm
  · have q := (hp (j, at0 d j)).mpr ⟨at0_mem e, e⟩
    exact ((hc.mem j _).mp q).2
theorem can_nil : Can [] := ⟨List.Pairwise.nil, fun _ h => absurd h (by simp)⟩
/-- the law's reckoning of the same: sorted letters, then their numbers -/
def byKeys (d : Ms) (ks : List Str) : Ms := (ks.filter fun k => decide (at0 d k ≠ 0)).map fun k => (k, at0 d k)
theorem made_law {d : Ms} {ks : List Str} (hd : (d.map (·.1)).Nodup) (hk : ks.Perm (d.map (·.1))) (hs : ks.Pairwise fun a b => ¬ sLt b a) : Can (byKeys d ks) ∧ ∀ j, at0 (byKeys d ks) j = at0 d j := by
  have hn : ks.Nodup := hk.nodup_iff.mpr hd
  have hst : ks.Pairwise sLt := by
    refine (hs.and hn).imp ?_
    rintro a b ⟨h1, h2⟩
    refine Decidable.byContradiction fun h3 => h2 (sLt_tri h3 h1)
  refine made_prog hd ?_ fun p => ?_
  · unfold byKeys
    exact List.pairwise_map.mpr (hst.filter _)
  · unfold byKeys
    rw [List.mem_map]
    constructor
    · rintro ⟨k, q, e⟩
      obtain ⟨q1, q2⟩ := List.mem_filter.mp q
      have q3 : at0 d k ≠ 0 := of_decide_eq_true q2
      rw [← e]
      exact ⟨at0_mem q3, q3⟩
    · rintro ⟨a, b⟩
      have e : at0 d p.1 = p.2 := by
        show (lk d p.1).getD 0 = _
        rw [lk_of_mem hd a]
        rfl
      refine ⟨p.1, List.mem_filter.mpr ⟨hk.mem_iff.mpr (List.mem_map.mpr ⟨p, a, rfl⟩), decide_eq_true (by rw [e]; exact b)⟩, by rw [e]⟩

/-! ### bounds, letters -/
/-- a text of signs that there are -/
def Ok (z : Str) : Prop := ∀ c ∈ z.cps.toList, c < 1114112
/-- .. and not empty -/
def LtOk (z : Str) : Prop := z.cps.toList ≠ [] ∧ Ok z
theorem ok_app {a b : Str} (ha : Ok a) (hb : Ok b) : Ok (a ++ b) := fun c hc => by
  have hc : c ∈ (a.cps ++ b.cps).toList := hc
  rw [Array.toList_append] at hc
  rcases List.mem_append.mp hc with h | h
  · exact ha c h
  · exact hb c h
theorem ok_one {c : Nat} (h : c < 1114112) : Ok ⟨#[c]⟩ := fun x hx => by
  have : x = c := by simpa using hx
  rw [this]
  exact h
theorem ok_string (s : String) : Ok (Str.ofString s) := fun c hc => by
  rw [Str.ofString_eq_toList] at hc
  have hc : c ∈ s.toList.map Char.toNat := by simpa using hc
  obtain ⟨d, _, e⟩ := List.mem_map.mp hc
  have v : d.val.toNat < 0xd800 ∨ (0xdfff < d.val.toNat ∧ d.val.toNat < 0x110000) := d.valid
  have e2 : d.val.toNat = c := e
  omega
theorem ok_fold (c : Array Nat) (hc : ∀ x ∈ c.toList, x < 1114112) : ∀ (k : Nat) (acc : Array Nat), (∀ x ∈ acc.toList, x < 1114112) → ∀ x ∈ ((List.replicate k c).foldl (· ++ ·) acc).toList, x < 1114112
  | 0, acc, h => h
  | k + 1, acc, h => by
    rw [List.replicate_succ, List.foldl_cons]
    refine ok_fold c hc k _ fun x hx => ?_
    rw [Array.toList_append] at hx
    rcases List.mem_append.mp hx with q | q
    · exact h x q
    · exact hc x q
/-- a measure as the law hands it over: in its form, letters that are not empty, numbers below 2 ^ b -/
structure Good (b : Nat) (m : Ms) : Prop where
  can : Can m
  ne : ∀ p ∈ m, LtOk p.1
  lt : ∀ p ∈ m, p.2.natAbs < 2 ^ b
  few : m.length ≤ 1000
theorem Good.at0_lt {b : Nat} {m : Ms} (h : Good b m) (j : Str) : (at0 m j).natAbs < 2 ^ b := by
  by_cases e : at0 m j = 0
  · rw [e]; exact Nat.two_pow_pos b
  · exact h.lt _ (at0_mem e)
theorem good_nil (b : Nat) : Good b [] := ⟨can_nil, fun _ h => absurd h (by simp), fun _ h => absurd h (by simp), by simp⟩
theorem nil_lt {a : Str} (h : a.cps.toList ≠ []) : sLt ⟨#[]⟩ a := by
  show ([] : List Nat) < a.cps.toList
  cases e : a.cps.toList with
  | nil => exact absurd e h
  | cons x r => exact List.nil_lt_cons x r
end MK


set_option Elab.async false
set_option linter.all false
set_option maxRecDepth 100000
set_option maxHeartbeats 4000000
/-! Rules that the layer has not: a text times a number; sorted of texts and of pairs (text, number), any number of them. -/
namespace SrtO
open PySem PyProof.Rows Srt
section
variable {prog : Program} {w : World} {A : Around} {E : Value → Shared → Prop} {s : Shared}
def lexS (p q : PySem.Str × Int) : Bool := if p.1 = q.1 then decide (p.2 < q.2) else decide (p.1.cps.toList < q.1.cps.toList)
theorem lexS_no {p q : PySem.Str × Int} : lexS p q = false ↔ ¬ (MK.sLt p.1 q.1 ∨ (p.1 = q.1 ∧ p.2 < q.2)) := by
  unfold lexS
  by_cases e : p.1 = q.1
  · rw [if_pos e]
    constructor
    · intro h z
      rcases z with z | z
      · rw [e] at z; exact MK.sLt_irr _ z
      · exact of_decide_eq_false h z.2
    · intro h
      exact decide_eq_false fun z => h (.inr ⟨e, z⟩)
  · rw [if_neg e]
    constructor
    · intro h z
      rcases z with z | z
      · exact of_decide_eq_false h z
      · exact e z.1
    · intro h
      exact decide_eq_false fun z => h (.inl z)
theorem lexS_yes {p q : PySem.Str × Int} : lexS p q = true ↔ (MK.sLt p.1 q.1 ∨ (p.1 = q.1 ∧ p.2 < q.2)) := by
  constructor
  · intro h
    refine Decidable.byContradiction fun z => ?_
    rw [lexS_no.mpr z] at h
    cases h
  · intro h
    cases e : lexS p q with
    | true => rfl
    | false => exact absurd h (lexS_no.mp e)
theorem swo_lexS : Swo lexS := by
  refine ⟨fun x y h => ?_, fun x y z h1 h2 => ?_⟩
  · have a := lexS_yes.mp h
    refine lexS_no.mpr fun b => ?_
    rcases a with a | a
    · rcases b with b | b
      · exact MK.sLt_irr _ (MK.sLt_tr a b)
      · rw [b.1] at a; exact MK.sLt_irr _ a
    · rcases b with b | b
      · rw [a.1] at b; exact MK.sLt_irr _ b
      · have := a.2; have := b.2; omega
  · have a := lexS_no.mp h1
    have b := lexS_no.mp h2
    refine lexS_no.mpr fun c => ?_
    have tri : MK.sLt x.1 y.1 ∨ x.1 = y.1 := by
      by_cases h : MK.sLt x.1 y.1
      · exact .inl h
      · exact .inr (MK.sLt_tri h fun q => a (.inl q))
    rcases tri with t | t
    · rcases c with c | c
      · exact b (.inl (MK.sLt_tr c t))
      · rw [← c.1] at t; exact b (.inl t)
    · rcases c with c | c
      · rw [t] at c; exact b (.inl c)
      · have h3 : ¬ y.2 < x.2 := fun q => a (.inr ⟨t.symm, q⟩)
        have h4 : ¬ z.2 < y.2 := fun q => b (.inr ⟨c.1.trans t, q⟩)
        have := c.2
        omega
theorem swo_lexSk (k : Value → PySem.Str × Int) : Swo fun v u => lexS (k v) (k u) := ⟨fun x y => swo_lexS.asym _ _, fun x y z => swo_lexS.tr _ _ _⟩
/-- a tuple (text, number) -/
def IsSP (h : Heap) (v : Value) (x : PySem.Str) (y : Int) : Prop := ∃ a o t u n, v = .ref a ∧ h.get? a = some o ∧ o.cls = .type "tuple" ∧ o.data = .seq #[.str x t, .int y u] n
theorem IsSP.keeps {h h' : Heap} {v : Value} {x : PySem.Str} {y : Int} (p : IsSP h v x y) (k : ∀ b o, h.get? b = some o → o.cls = .type "tuple" → h'.get? b = some o) : IsSP h' v x y := by
  obtain ⟨a, o, t, u, n, e, ho, hc, hd⟩ := p
  exact ⟨a, o, t, u, n, e, k _ _ ho hc, hc, hd⟩
theorem firstsS_of {h : Heap} : ∀ {vs : List Value}, (∀ v ∈ vs, ∃ x y, IsSP h v x y) → ∃ fs : List Value, PySem.W.KatTups h vs fs ∧ fs.length = vs.length ∧ ∀ f ∈ fs, ∃ x t, f = Value.str x t
  | [], _ => ⟨[], PySem.W.KatTups.nil, rfl, fun _ hm => by simp at hm⟩
  | v :: vs, hp => by
    obtain ⟨fs, h1, h2, h3⟩ := firstsS_of (vs := vs) fun v' hm => hp v' (List.mem_cons_of_mem _ hm)
    obtain ⟨x, y, a, o, t, u, n, e, ho, hc, hd⟩ := hp v (List.mem_cons_self ..)
    subst e
    refine ⟨.str x t :: fs, PySem.W.KatTups.cons ho hc hd rfl h1, by rw [List.length_cons, List.length_cons, h2], fun f hm => ?_⟩
    rcases List.mem_cons.mp hm with rfl | hm
    · exact ⟨x, t, rfl⟩
    · exact h3 f hm
theorem pairS_cmp {vs : List Value} {k : Value → PySem.Str × Int} (hp : ∀ v ∈ vs, IsSP s.heap v (k v).1 (k v).2) : Cmp prog w A s (tuples' true) (fun p => p.1 ∈ vs) (lt2 fun v u => lexS (k v) (k u)) := by
  intro p q hm hm'
  have h1 := hp _ hm
  have h2 := hp _ hm'
  show wpAny (model prog w) A (keyLt' (tuples' true) p.1 q.1) (fun r s' => s' = s ∧ r = lexS (k p.1) (k q.1)) (fun _ _ => False) s
  unfold lexS
  generalize (k p.1).1 = x at h1 ⊢
  generalize (k p.1).2 = y at h1 ⊢
  generalize (k q.1).1 = x' at h2 ⊢
  generalize (k q.1).2 = y' at h2 ⊢
  obtain ⟨a, o, t, u, n, e, ho, hc, hd⟩ := h1
  obtain ⟨a', o', t', u', n', e', ho', hc', hd'⟩ := h2
  rw [e, e']
  refine PySem.W.kat_lt ho hd ho' hd' ?_
  show PySem.W.KatLex prog w A true (decide (2 < 2)) _ [(.str x t, .str x' t'), (.int y u, .int y' u')] 0 s
  refine PySem.W.kat_cons (SeqAt.EqAt.str_str x t x' t' prog w _ _ ?_)
  refine PySem.W.kat_go (fun e1 => ?_) (fun e1 => ?_)
  · have ex : x = x' := by simpa using e1
    refine PySem.W.kat_yes (PySem.W.kat_cons (SeqAt.EqAt.int_int y u y' u' prog w _ _ ?_))
    refine PySem.W.kat_go (fun e2 => ?_) (fun e2 => ?_)
    · have ey : y = y' := by simpa using e2
      have e3 : (if x = x' then decide (y < y') else decide (x.cps.toList < x'.cps.toList)) = false := by
        rw [if_pos ex, ey]
        exact decide_eq_false (Int.lt_irrefl _)
      exact PySem.W.kat_yes (PySem.W.kat_nil ⟨rfl, e3.symm⟩)
    · have e3 : (if x = x' then decide (y < y') else decide (x.cps.toList < x'.cps.toList)) = decide (y < y') := if_pos ex
      refine PySem.W.kat_no (PySem.W.kat_one _ _ (PyProof.Rows.lt_int ?_))
      exact (show s = s ∧ decide (y < y') = (if x = x' then decide (y < y') else decide (x.cps.toList < x'.cps.toList)) from ⟨rfl, e3.symm⟩)
  · have ex : ¬ x = x' := by simpa using e1
    have e3 : (if x = x' then decide (y < y') else decide (x.cps.toList < x'.cps.toList)) = decide (x.cps.toList < x'.cps.toList) := if_neg ex
    exact PySem.W.kat_no (oneLt_str ⟨rfl, e3.symm⟩)
theorem pairsS_sortableO {a : Addr} {vs : List Value} {k : Value → PySem.Str × Int} (h0 : 0 < vs.length) (hp : ∀ v ∈ vs, IsSP s.heap v (k v).1 (k v).2) (ha : ∀ o, s.heap.get? a = some o → o.cls ≠ .type "tuple") : SortableO prog w A s a vs fun v u => lexS (k v) (k u) := by
  intro h' keep
  have hp' : ∀ v ∈ vs, IsSP h' v (k v).1 (k v).2 := fun v hm => (hp v hm).keeps fun b o e c => keep b o (fun z => by subst z; exact ha o e c) e
  obtain ⟨fs, h1, h2, h3⟩ := firstsS_of fun v hm => ⟨_, _, hp' v hm⟩
  refine ⟨tuples' true, fun Q E hq => ?_, pairS_cmp hp'⟩
  refine PySem.W.kat_kind (T := .type "str") h1 (by omega) (fun f hm => ?_) (by rfl) ?_
  · obtain ⟨x, t, rfl⟩ := h3 f hm
    exact PySem.W.Looks.now
  · have e : (Value.type "str" != Value.type "tuple") = true := by first | decide +kernel | rfl | decide
    rw [e]
    exact hq
/-- sorted(l) of pairs (text, number), any number of them: sorted by k, stable -/
theorem sorted_pairsS {l : Addr} {vs : List Value} {k : Value → PySem.Str × Int} {Q : Value → Shared → Prop} (hl : s.heap.IsList l vs.toArray) (hz : vs.length ≤ sizeLine) (hp : ∀ v ∈ vs, IsSP s.heap v (k v).1 (k v).2)
    (h : ∀ (h' : Heap) (d : Addr) (out : List Value), Srtd (fun v u => lexS (k v) (k u)) out → Stb (fun v u => lexS (k v) (k u)) out vs → (∀ b o, s.heap.get? b = some o → h'.get? b = some o) → s.heap.objs.size ≤ d → (∃ n, h'.get? d = some (seqObj "list" out.toArray n)) → Q (.ref d) { s with heap := h' }) :
    wpAny (model prog w) A (call (.builtin "sorted") [.ref l]) Q E s := by
  refine sorted_ord (swo_lexSk k) hl hz (fun h2 h₁ a ha kk => ?_) fun out hs hb => ?_
  · refine pairsS_sortableO (s := { s with heap := h₁ }) (by omega) (fun v hm => (hp v hm).keeps fun b o e _ => (kk b o e).2) fun o e => ?_
    have e' : some o = some (seqObj "list" vs.toArray 0) := e.symm.trans ha
    cases e'
    intro c
    exact absurd (Value.type.inj c) (by decide)
  · exact h _ _ out hs hb (fun b o e => sortedAll_old e) (Nat.le_succ _) (sortedAll_at s.heap vs out.toArray)
end
end SrtO

namespace L2
open PySem PySem.Spec PyProof.Rows
/-- sorted(xs), xs a list of pairs (text, number), texts that differ: a new list of the same items, their texts rising -/
def rSortedSP (K : PySem.W.Frag) : List V → Hp → VK → Prop := fun vs H Q => ∃ (a : Addr) (xs : List V) (k : V → Str × Int), vs = [V.ref a] ∧ SqL K H a xs ∧ (∀ x ∈ xs, ∃ t, x = V.ref t ∧ H t = some (.tup [.str (k x).1, .int (k x).2])) ∧
  ∀ ys p, ys.Perm xs → ys.Pairwise (fun x y => SrtO.lexS (k y) (k x) = false) → H p = none → Q (.ref p) (upd H p (.lst ys))
section
variable {X : Cx}
theorem cr_sortedSP : CallR X (.builtin "sorted") (rSortedSP X.K) := by
  intro pins s σ H vs us Q I r h
  obtain ⟨a, xs, k, rfl, hs, hx, q⟩ := h
  obtain ⟨its, rv, hl, hz⟩ := I.list hs
  obtain ⟨u, rfl, ru⟩ := vals1 r
  obtain rfl : u = Value.ref a := ru
  obtain ⟨e1, e2⟩ := refs_back rv fun x m => by
    obtain ⟨t, e, _⟩ := hx x m
    exact ⟨t, e⟩
  refine SrtO.sorted_pairsS (k := fun u => k (backV u)) hl.isList (by rw [← rv.length]; exact hz) (fun v hv => ?_) fun h' d out h1 h2 kp hd hn => ?_
  · obtain ⟨t, rfl⟩ := e2 v hv
    have hm : V.ref t ∈ xs := by rw [e1]; exact List.mem_map.mpr ⟨_, hv, rfl⟩
    obtain ⟨t', e, ht⟩ := hx _ hm
    cases e
    obtain ⟨_, its2, r2, o, ho, hc, n, hd⟩ := I.hok _ _ ht
    obtain ⟨u1, u2, rfl, ri, rj⟩ := vals2 r2
    obtain ⟨t1, rfl⟩ := ri
    obtain ⟨t2, rfl⟩ := rj
    exact ⟨t, o, t1, t2, n, rfl, ho, hc, hd⟩
  · have h3 : ∀ u ∈ out, ∃ a, u = Value.ref a := fun u hu => e2 u (h2.perm.mem_iff.mp hu)
    obtain ⟨n, hn⟩ := hn
    have hb : (out.map backV).Perm xs := by
      rw [e1]
      exact h2.perm.map backV
    refine ⟨.ref d, upd H d (.lst (out.map backV)), I.laid (t' := s.toks) kp hd ⟨?_, out, n, vals_back h3, hn⟩, rfl, q _ d hb (List.pairwise_map.mpr h1) (I.hok.fresh hd)⟩
    rw [hb.length_eq]
    exact hz
/-- sorted(d), d a dict whose keys are texts, any number of them -/
theorem call_sortedDA (hcalm : X.calm = true) : CallR X (.builtin "sorted") (fun xs H Q => ∃ (a : Addr) (kvs : List (Key × V)) (ks : List Str), xs = [.ref a] ∧ Rd H a (.dK kvs) ∧ kvs.map (·.1) = ks.map Sum.inr ∧
    ∀ ys p, ys.Perm ks → sortedS ys = true → H p = none → Q (.ref p) (upd H p (.lst (ys.map V.str)))) := by
  intro pins s σ H xs us Q I r q
  obtain ⟨a, kvs, ks, ex, hd, hks, q⟩ := q
  subst ex
  obtain ⟨u, eu, rx⟩ := vals1 r
  subst eu
  cases rx
  obtain ⟨z, lo, vs, rel, dd⟩ := dk_rd I.hok hd
  obtain ⟨ep, hat⟩ := dd.dictAt
  have hkeys : vs.map (·.1) = ks.map Sum.inr := rel.keys.symm.trans hks
  have hl : vs.length = ks.length := by
    have e := congrArg List.length hkeys
    rw [List.length_map, List.length_map] at e
    exact e
  have h16 : vs.length ≤ sizeLine := by rw [← rel.length]; exact z
  have hks16 : ks.length ≤ sizeLine := by rw [← hl]; exact h16
  refine Calls.call_function_entry PyProof.Rows.kind_sorted PyProof.Rows.plain_sorted PyProof.Rows.entry_sorted (PyProof.Rows.args_sorted1 _) ?_
  unfold Builtin.«sorted»
  refine wpAny_bind (m := checkCount "sorted" 1 1 _) (wpAny_pure ?_)
  refine wpAny_bind (PySem.W.kdu_collect (A := X.A.in1) (PySem.W.kdl_dict (knd := mixKind X.prog X.w) (kvs := vs) (ep := ep) lo) (I.ok.hd hcalm) hat h16 fun h' tk acc hk hacc => ?_)
  have hal : acc.toList.length = ks.length := by rw [Array.length_toList, hacc.1, hl]
  have hS : StrsAre acc.toList ks := strs_at hal fun j v e => by
    obtain ⟨k, x, e1, e2⟩ := hacc.2 j v (by rw [← Array.getElem?_toList]; exact e)
    have e3 : (vs.map (·.1))[j]? = some k := by rw [List.getElem?_map, e1]; all_goals rfl
    rw [hkeys, List.getElem?_map] at e3
    cases e4 : ks[j]? with
    | none => rw [e4] at e3; cases e3
    | some y =>
      rw [e4] at e3
      have e5 : Sum.inr y = k := Option.some.inj e3
      subst e5
      obtain ⟨t, ev⟩ := Value.isStrOf_shape (x := y) (v := v) e2
      exact ⟨y, t, rfl, ev⟩
  have I1 : Inv X pins σ H { s with heap := h', toks := tk } := I.kept hk
  refine wpAny_bind (wpAny_newList ?_ (by rw [hal]; exact hks16))
  have hoL : (h'.push (seqObj "list" acc.toList.toArray 0)).get? h'.objs.size = some (seqObj "list" acc.toList.toArray 0) := Heap.get?_push_size _ rfl
  show wpAny _ _ _ _ _ { s with heap := h'.push (seqObj "list" acc.toList.toArray 0), toks := tk }
  refine wpAny_bind (wpAny_holding (wpAny_call_entry PyProof.Rows.slot_list_sort ⟨_, hoL, rfl⟩ PyProof.Rows.entry_list_sort
    (list_sort_treeKAny strKind_oneLt (s := { s with heap := h'.push (seqObj "list" acc.toList.toArray 0), toks := tk }) hoL hS.keysOf (fun v₁ v₂ rest e => keyKind_strs (by rw [← e]; exact hS)) (by rw [hal]; exact hks16) fun st' hp hs => ⟨_, rfl, ?_⟩)
    (PyProof.Rows.args_list_sort _)))
  obtain ⟨ys, g1, g2, g3⟩ := sorted_out_str hS hp hs
  obtain ⟨e', he'⟩ := PyProof.Rows.sortedHeap_at (vs := acc.toList) (out := (arrOf st').map (·.2)) hoL
  have hlen : (ys.map V.str).length ≤ sizeLine := by
    rw [List.length_map, g2.length_eq]
    exact hks16
  refine wpAny_pure ⟨_, rfl, .ref h'.objs.size, upd H h'.objs.size (.lst (ys.map V.str)), I1.laid (t' := tk) (fun b u e => ?_) (Nat.le_refl _)
    (show ObjOk X.prog X.w _ _ _ (.lst (ys.map V.str)) from ⟨hlen, ((arrOf st').map (·.2)).toList, e', vals_of_strs g1, by rw [Array.toArray_toList]; exact he'⟩), rfl, q ys _ g2 g3 (I1.hok.fresh (Nat.le_refl _))⟩
  have hb : b < h'.objs.size := Heap.lt_size e
  rw [PyProof.Rows.sortedHeap_old (Nat.ne_of_lt hb) (by rw [size_push']; exact Nat.lt_succ_of_lt hb)]
  exact Heap.get?_push_of_some _ e
/-- a text, n times -/
def strRep (x : Str) (n : Int) : Str := if n < 1 then Str.empty else if (n == 1 || x.length == 0) = true then x else ⟨(List.replicate n.toNat x.cps).foldl (· ++ ·) #[]⟩
theorem op_mul_str : OpR X (binaryOp .Mult) (fun x y H Q => ∃ (z : Str) (n : Int), x = .str z ∧ y = .int n ∧ (z.length ≤ 1000 ∧ n ≤ 1000 ∧ -1000 ≤ n) ∧ Q (.str (strRep z n)) H) := by
  intro pins s σ H x y v u Q I rx ry h
  obtain ⟨z, n, rfl, rfl, ⟨hz, h1, h2⟩, q⟩ := h
  obtain ⟨t, rfl⟩ := rx
  obtain ⟨t', rfl⟩ := ry
  have hm : ¬ n < 1 → z.length * n.toNat ≤ 1000 * 1000 := fun h => Nat.mul_le_mul hz (by omega)
  have hl : ¬ n < 1 → (n == 1 || z.length == 0) = false → Builtin.Str.tooLong (z.length * n.toNat) = false := fun h _ => by
    have := hm h
    show decide (z.length * n.toNat > sizeLine) = false
    rw [sizeLine_eq]
    exact decide_eq_false (by omega)
  refine P.mul_str ?_ (fun h _ => ?_) hl ?_
  · rw [decide_eq_false (by omega), decide_eq_false (by omega)]
    rfl
  · have e : (1 : Int) ≤ n := by omega
    have h3 : (1000 : Int) ≤ (2 ^ 63 - 1) / n := (Int.le_ediv_iff_mul_le (by omega)).mpr (by omega)
    omega
  · unfold strRep at q
    by_cases c : n < 1
    · rw [if_pos c] at q ⊢
      exact ⟨by decide, .str Str.empty, H, I.tok _, ⟨_, rfl⟩, q⟩
    · rw [if_neg c] at q ⊢
      by_cases d : (n == 1 || z.length == 0) = true
      · rw [if_pos d] at q ⊢
        exact ⟨.str z, H, I, ⟨_, rfl⟩, q⟩
      · rw [if_neg d] at q ⊢
        exact ⟨fits_reps (hl c (by simpa using d)), .str _, H, I.tok _, ⟨_, rfl⟩, q⟩
end
theorem sLe_tr {a b c : Str} (h : ¬ MK.sLt b a) (h2 : ¬ MK.sLt c b) : ¬ MK.sLt c a := fun q => by
  by_cases e : MK.sLt b c
  · exact h (MK.sLt_tr e q)
  · rw [MK.sLt_tri e h2] at h
    exact h q
theorem risingS_all : ∀ {r : List Str} {p : Str}, risingS p r = true → (∀ x ∈ r, ¬ MK.sLt x p) ∧ r.Pairwise fun a b => ¬ MK.sLt b a
  | [], p, _ => ⟨fun x h => absurd h (by simp), List.Pairwise.nil⟩
  | x :: r, p, h => by
    have h : (!ltCps x.cps.toList p.cps.toList && risingS x r) = true := h
    rw [Bool.and_eq_true] at h
    obtain ⟨h1, h2⟩ := h
    have h3 : ¬ MK.sLt x p := by
      rw [ltCps_eq] at h1
      simpa using h1
    obtain ⟨i1, i2⟩ := risingS_all h2
    refine ⟨fun y hy => ?_, List.pairwise_cons.mpr ⟨fun y hy => i1 y hy, i2⟩⟩
    rcases List.mem_cons.mp hy with e | hy
    · rw [e]; exact h3
    · exact sLe_tr h3 (i1 y hy)
theorem sortedS_pw : ∀ {ys : List Str}, sortedS ys = true → ys.Pairwise fun a b => ¬ MK.sLt b a
  | [], _ => List.Pairwise.nil
  | x :: r, h => by
    obtain ⟨i1, i2⟩ := risingS_all (p := x) (r := r) h
    exact List.pairwise_cons.mpr ⟨i1, i2⟩
/-- [.. for k, v in d.items() ..], d locked: by a word of the turn's number and the heap -/
theorem lc_items {d : Addr} {od : Obj} {kvs : List (Key × V)} {g : TG} {tt : TT} {te : TE} {vs : List Nat} {σ : L2.St} {H1 : Hp} {D : Addr} {Qd : Hp → Prop} (Pv : Nat → Hp → Prop) (h0 : Pv 0 (upd H1 D (.lst [])))
    (hl : ∀ i H, i ≤ kvs.length → Pv i H → H d = some (.frz od (.dK kvs)))
    (hs : ∀ i k v T H, kvs[i]? = some (k, v) → Pv i H → H T = none → g (.ref T) (wipe σ vs) (upd H T (.tup [kV k, v])) fun σ2 H2 => wipe σ2 vs = wipe σ vs ∧ tt σ2 H2 fun b H3 =>
      if b = true then te σ2 H3 fun y H4 => ∃ acc, H4 D = some (.lst acc) ∧ acc.length < sizeLine ∧ Pv (i + 1) (upd H4 D (.lst (acc ++ [y]))) else Pv (i + 1) H3)
    (hd : ∀ H, Pv kvs.length H → Qd H) :
    ∃ W : Nat → Nat → Hp → Prop, (∃ m, W 0 m (upd H1 D (.lst []))) ∧ ∀ i m H, W i m H →
      ((Iti d od kvs).stop i H ∧ Qd H) ∨ ((Iti d od kvs).go i H ∧ ∃ Nx : Hp → Prop, (∀ H', Nx H' → ∃ m', m' < m ∧ W (i + 1) m' H') ∧ ∀ x H', (Iti d od kvs).yld i H x H' → g x (wipe σ vs) H' fun σ2 H2 => wipe σ2 vs = wipe σ vs ∧ tt σ2 H2 fun b H3 =>
        if b = true then te σ2 H3 fun y H4 => ∃ acc, H4 D = some (.lst acc) ∧ acc.length < sizeLine ∧ Nx (upd H4 D (.lst (acc ++ [y]))) else Nx H3) := by
  refine ⟨fun i m H => m = kvs.length - i ∧ i ≤ kvs.length ∧ Pv i H, ⟨kvs.length, by simp, Nat.zero_le _, h0⟩, ?_⟩
  intro i m H ⟨e, hi, p⟩
  have q := hl i H hi p
  by_cases hlt : i < kvs.length
  · refine .inr ⟨⟨q, hlt⟩, Pv (i + 1), fun H' p' => ⟨kvs.length - (i + 1), by omega, rfl, hlt, p'⟩, fun x H' y => ?_⟩
    obtain ⟨T, k, v, hk, ex, hT, eH⟩ := y
    rw [ex, eH]
    exact hs i k v T H hk p hT
  · have e2 : i = kvs.length := by omega
    rw [e2] at p
    exact .inl ⟨⟨q, by omega⟩, hd H p⟩
/-- two dicts of the same pairs, their values the very same objects -/
theorem hits_refs {A : Around} {s : Shared} {ls : List (Key × V)} {vb : List (Key × Value)} (rb : KV ls vb) {ks : List (Key × V)} {va : List (Key × Value)} (ra : KV ks va) : (∀ p ∈ ks, ∃ c, p.2 = .ref c ∧ valV ls p.1 = some (.ref c)) → PySem.W.KeqHits A s vb va true := by
  unfold KV at ra
  induction ra with
  | nil => exact fun _ => .nil
  | @cons p q ps qs h t k =>
    intro hp
    obtain ⟨h1, h2⟩ := h
    obtain ⟨c, ec, e⟩ := hp p List.mem_cons_self
    have rr : RelO (some (.ref c)) (valueAt vb p.1) := by
      rw [← e]
      exact rb.val p.1
    obtain ⟨y, hy, ry⟩ := rr.some_of
    obtain ⟨key, v⟩ := q
    have h1' : p.1 = key := h1
    rw [h1'] at hy
    rw [ec] at h2
    have e1 : v = Value.ref c := h2
    have e2 : y = Value.ref c := ry
    subst e1
    subst e2
    show PySem.W.KeqHits A s vb ((key, Value.ref c) :: qs) (true && true)
    exact .hit hy (SeqAt.EqAt.same _) (k fun p' hm => hp p' (List.mem_cons_of_mem _ hm))
theorem op_ne_dictRef {X : Cx} (hu : X.A.units < cLine) : OpR X (compareOp .NotEq) (fun x y H Q => ∃ a b ks, x = .ref a ∧ y = .ref b ∧ H a = some (.dK ks) ∧ H b = some (.dK ks) ∧ (∀ p ∈ ks, ∃ c, p.2 = .ref c ∧ valV ks p.1 = some (.ref c)) ∧ Q (.bl false) H) := by
  intro pins s σ H x y v u Q I rx ry h
  obtain ⟨a, b, ks, rfl, rfl, ea, eb, hp, q⟩ := h
  obtain rfl : v = Value.ref a := rx
  obtain rfl : u = Value.ref b := ry
  obtain ⟨_, ya, va, ra, da⟩ := (show ObjOk X.prog X.w H s.heap a (.dK ks) from I.hok a _ ea)
  obtain ⟨_, yb, vb, rb, db⟩ := (show ObjOk X.prog X.w H s.heap b (.dK ks) from I.hok b _ eb)
  have hl : va.length = vb.length := by rw [← ra.length, ← rb.length]
  refine PySem.W.keq_ne (knd := mixKind X.prog X.w) (r := true) ya yb da db hu (fun _ => hits_refs rb ra hp) ?_
  rw [show (!(va.length == vb.length && true)) = false by simp [hl]]
  exact ⟨.bl false, H, I, rfl, q⟩
end L2


set_option Elab.async false
set_option linter.all false
set_option maxRecDepth 100000
set_option maxHeartbeats 4000000
namespace MK
open PySem PySem.Spec PyProof.Rows L2
/-! ### measures and dicts as they stand in memory -/
/-- a dict whose keys are texts -/
def encG {α : Type} (g : α → V) (m : List (Str × α)) : List (L2.Key × V) := m.map fun p => (Sum.inr p.1, g p.2)
abbrev enc (m : Ms) : List (L2.Key × V) := encG V.int m
theorem encG_val {α : Type} (g : α → V) : ∀ (m : List (Str × α)) (l : Str), valV (encG g m) (Sum.inr l : L2.Key) = (lk m l).map g
  | [], l => rfl
  | p :: r, l => by
    show valV ((Sum.inr p.1, g p.2) :: encG g r) _ = _
    by_cases e : p.1 = l
    · rw [valV_pos (by rw [e])]
      unfold lk
      rw [if_pos e]
      rfl
    · rw [valV_neg (fun z => e (Sum.inr.inj z)), encG_val g r l]
      rw [show lk (p :: r) l = lk r l from if_neg e]
theorem encG_any {α : Type} (g : α → V) (m : List (Str × α)) (l : Str) : ((encG g m).any fun kv => decide (kv.1 = (Sum.inr l : L2.Key))) = (lk m l).isSome := by
  rw [valV_any, encG_val]
  cases lk m l <;> rfl
theorem encG_map_no {α : Type} (g : α → V) (l : Str) (y : V) : ∀ m : List (Str × α), lk m l = none → (encG g m).map (fun kv => if kv.1 = (Sum.inr l : L2.Key) then (kv.1, y) else kv) = encG g m
  | [], _ => rfl
  | p :: r, h => by
    have e : ¬ p.1 = l := fun z => by
      unfold lk at h
      rw [if_pos z] at h
      cases h
    have h2 : lk r l = none := by
      unfold lk at h
      rw [if_neg e] at h
      exact h
    have ih := encG_map_no g l y r h2
    show (if (Sum.inr p.1 : L2.Key) = Sum.inr l then _ else _) :: List.map _ (encG g r) = _
    rw [if_neg (fun z => e (Sum.inr.inj z)), ih]
    rfl
theorem encG_put {α : Type} (g : α → V) (l : Str) (v : α) : ∀ m : List (Str × α), (m.map (·.1)).Nodup → putK (encG g m) (Sum.inr l : L2.Key) (g v) = encG g (put m l v)
  | [], _ => rfl
  | p :: r, hn => by
    have hn : (p.1 :: r.map (·.1)).Nodup := hn
    obtain ⟨h1, h2⟩ := List.nodup_cons.mp hn
    have ih := encG_put g l v r h2
    unfold putK at ih ⊢
    rw [encG_any] at ih ⊢
    by_cases e : p.1 = l
    · have hs : (lk (p :: r) l).isSome = true := by
        unfold lk
        rw [if_pos e]
        rfl
      rw [if_pos hs]
      have hno : lk r l = none := lk_none.mpr (by rw [← e]; exact h1)
      show (if (Sum.inr p.1 : L2.Key) = Sum.inr l then _ else _) :: List.map _ (encG g r) = _
      rw [if_pos (by rw [e]), encG_map_no g l (g v) r hno]
      show _ = encG g (put (p :: r) l v)
      unfold put
      rw [if_pos e]
      rfl
    · have hl : lk (p :: r) l = lk r l := if_neg e
      rw [hl]
      have hp : put (p :: r) l v = p :: put r l v := if_neg e
      rw [hp]
      by_cases hs : (lk r l).isSome = true
      · rw [if_pos hs] at ih ⊢
        show (if (Sum.inr p.1 : L2.Key) = Sum.inr l then _ else _) :: List.map _ (encG g r) = _
        rw [if_neg (fun z => e (Sum.inr.inj z)), ih]
        rfl
      · rw [if_neg hs] at ih ⊢
        show (Sum.inr p.1, g p.2) :: (encG g r ++ _) = _
        rw [ih]
        rfl
theorem encG_len {α : Type} (g : α → V) (m : List (Str × α)) : (encG g m).length = m.length := List.length_map _
theorem encG_keys {α : Type} (g : α → V) (m : List (Str × α)) : (encG g m).map (·.1) = (m.map (·.1)).map Sum.inr := by
  unfold encG
  rw [List.map_map, List.map_map]
  rfl
/-- at t the pair p -/
def PrAt (H : Hp) (t : Addr) (p : Str × Int) : Prop := H t = some (.tup [.str p.1, .int p.2])
/-- at b the measure m -/
def MsAt (H : Hp) (b : Addr) (m : Ms) : Prop := ∃ ts : List Addr, H b = some (.tup (ts.map V.ref)) ∧ Paired (PrAt H) ts m
theorem MsAt.same {H H' : Hp} {b : Addr} {m : Ms} (s : Same H H') (h : MsAt H b m) : MsAt H' b m := by
  obtain ⟨ts, e, p⟩ := h
  exact ⟨ts, s _ _ e, Paired.mono (fun t q z => s _ _ z) p⟩
theorem paired_ix {α β : Type} {G : α → β → Prop} : ∀ {l : List α} {m : List β} {i : Nat} {a : α}, Paired G l m → l[i]? = some a → ∃ b, m[i]? = some b ∧ G a b
  | _, _, _, _, .nil, e => by simp at e
  | _, _, 0, _, .cons r _, e => by
    simp at e
    subst e
    exact ⟨_, rfl, r⟩
  | _, _, i + 1, _, .cons _ t, e => by
    obtain ⟨b, h1, h2⟩ := paired_ix t (by simpa using e)
    exact ⟨b, by simpa using h1, h2⟩
theorem MsAt.dp {K : PySem.W.Frag} {H : Hp} {b : Addr} {m : Ms} (h : MsAt H b m) : Dp K H (.ref b) (.tuple (m.map fun p => .tuple [.str p.1, .int p.2])) := by
  obtain ⟨ts, e, p⟩ := h
  refine .tup (SqT.of e) ?_
  clear e
  induction p with
  | nil => exact .nil
  | @cons t q _ _ r _ ih => exact .cons (.tup (SqT.of r) (.cons (.str _) (.cons (.int _) .nil))) ih
theorem take_more {α : Type} : ∀ {l : List α} {i : Nat} {x : α}, l[i]? = some x → l.take (i + 1) = l.take i ++ [x] := fun {l i x} h => by
  rw [List.take_add_one, h]
  rfl
theorem byKeys_yes {m : Ms} {ys : List Str} {i : Nat} {k : Str} (h : ys[i]? = some k) (e : at0 m k ≠ 0) : byKeys m (ys.take (i + 1)) = byKeys m (ys.take i) ++ [(k, at0 m k)] := by
  unfold byKeys
  rw [take_more h, List.filter_append, List.map_append]
  congr 1
  rw [List.filter_cons, if_pos (decide_eq_true e)]
  rfl
theorem byKeys_no {m : Ms} {ys : List Str} {i : Nat} {k : Str} (h : ys[i]? = some k) (e : at0 m k = 0) : byKeys m (ys.take (i + 1)) = byKeys m (ys.take i) := by
  unfold byKeys
  rw [take_more h, List.filter_append, List.map_append]
  rw [show [k].filter (fun k => decide (at0 m k ≠ 0)) = [] by
    rw [List.filter_cons, if_neg (by simp [e])]
    rfl]
  simp
theorem at_map {α : Type} {g : α → V} {l : List α} {i : Nat} {y : V} (h : (l.map g)[i]? = some y) : ∃ x, l[i]? = some x ∧ y = g x := by
  rw [List.getElem?_map] at h
  cases e : l[i]? with
  | none =>
    rw [e] at h
    cases h
  | some x =>
    rw [e] at h
    exact ⟨x, rfl, (Option.some.inj h).symm⟩
theorem dget_enc {H : Hp} {d : Addr} {m : Ms} {k : Str} (e : H d = some (.dK (enc m))) (h : k ∈ m.map (·.1)) : DGet H d (.str k) (some (.int (at0 m k))) := by
  have q : DGet H d (kV (Sum.inr k)) (valV (enc m) (Sum.inr k : L2.Key)) := DGet.k e
  rw [encG_val] at q
  unfold at0
  cases e2 : lk m k with
  | none => exact absurd h (lk_none.mp e2)
  | some v =>
    rw [e2] at q
    exact q
theorem dget_enc2 {H : Hp} {d : Addr} {m : Ms} (k : Str) (e : H d = some (.dK (enc m))) : ∃ o, DGet H d (.str k) o ∧ o.getD (.int 0) = .int (at0 m k) := by
  refine ⟨_, DGet.k (k := Sum.inr k) e, ?_⟩
  rw [encG_val]
  unfold at0
  cases lk m k <;> rfl
theorem upd_other {H : Hp} {a b : Addr} {o u : HO} (h : H b = some u) (n : H a = none) : upd H a o b = some u := by
  rw [upd_ne (ne_of_none h n)]
  exact h
theorem same_new {H : Hp} {p : Addr} {o : HO} (h : H p = none) : Same H (upd H p o) := fun b x e => upd_other e h
theorem dput_enc {H : Hp} {d : Addr} {m : Ms} {l : Str} {v : Int} (e : H d = some (.dK (enc m))) (hn : (m.map (·.1)).Nodup) (hl : m.length < sizeLine) : DPut H d (.str l) (.int v) (L2.upd H d (.dK (enc (put m l v)))) := by
  have q : DPut H d (kV (Sum.inr l)) (V.int v) _ := DPut.k (k := Sum.inr l) e (by rw [encG_len]; exact hl)
  rw [show putK (enc m) (Sum.inr l) (V.int v) = enc (put m l v) from encG_put V.int l v m hn] at q
  exact q
theorem small1000' {n : Nat} (h : n ≤ 10000) : n < sizeLine := Nat.lt_of_le_of_lt h (by decide)
/-- a step at an object that came later -/
theorem same_upd {H H1 : Hp} {p : Addr} {o : HO} (s : Same H H1) (h : H p = none) : Same H (L2.upd H1 p o) := fun b x e => by
  rw [upd_ne (ne_of_none e h)]
  exact s b x e
/-- a list that changes is no pair -/
theorem pr_list {H : Hp} {D : Addr} {xs : List V} {o : HO} {ts : List Addr} {m : Ms} (h : H D = some (.lst xs)) (p : Paired (PrAt H) ts m) : Paired (PrAt (L2.upd H D o)) ts m := Paired.mono (fun t q z => by
  show L2.upd H D o t = _
  rw [upd_ne (ne_of z h (fun e => nomatch e))]
  exact z) p
theorem pr_dict {H : Hp} {D : Addr} {kvs : List (L2.Key × V)} {o : HO} {ts : List Addr} {m : Ms} (h : H D = some (.dK kvs)) (p : Paired (PrAt H) ts m) : Paired (PrAt (L2.upd H D o)) ts m := Paired.mono (fun t q z => by
  show L2.upd H D o t = _
  rw [upd_ne (ne_of z h (fun e => nomatch e))]
  exact z) p
theorem pr_same {H H' : Hp} {ts : List Addr} {m : Ms} (s : Same H H') (h : Paired (PrAt H) ts m) : Paired (PrAt H') ts m := Paired.mono (fun t q z => s _ _ z) h
/-! ### parts: measures, each to a power -/
def flat (ps : List (Ms × Int)) : Ms := (ps.map fun q => scaled q.1 q.2).flatten
theorem flat_snoc (ps : List (Ms × Int)) (q : Ms × Int) : flat (ps ++ [q]) = flat ps ++ scaled q.1 q.2 := by
  unfold flat
  rw [List.map_append, List.flatten_append]
  simp
theorem flat_take_le : ∀ (ps : List (Ms × Int)) (i : Nat), (flat (ps.take i)).length ≤ (flat ps).length
  | [], i => by simp [flat]
  | q :: r, 0 => by simp [flat]
  | q :: r, i + 1 => by
    have ih := flat_take_le r i
    show (scaled q.1 q.2 ++ flat (r.take i)).length ≤ (scaled q.1 q.2 ++ flat r).length
    rw [List.length_append, List.length_append]
    omega
def PtAt (H : Hp) (t : Addr) (q : Ms × Int) : Prop := ∃ b, H t = some (.tup [.ref b, .int q.2]) ∧ MsAt H b q.1
theorem PtAt.same {H H' : Hp} {t : Addr} {q : Ms × Int} (s : Same H H') (h : PtAt H t q) : PtAt H' t q := by
  obtain ⟨b, e, m⟩ := h
  exact ⟨b, s _ _ e, m.same s⟩
theorem scaled_take (m : Ms) (n : Int) (k : Nat) : (scaled m n).take k = scaled (m.take k) n := by
  unfold scaled
  rw [List.map_take]
theorem scaled_len (m : Ms) (n : Int) : (scaled m n).length = m.length := by
  unfold scaled
  rw [List.length_map]
theorem scaled_more {m : Ms} {n : Int} {k : Nat} {p : Str × Int} (h : m[k]? = some p) : scaled (m.take (k + 1)) n = scaled (m.take k) n ++ [(p.1, p.2 * n)] := by
  rw [take_more h]
  unfold scaled
  rw [List.map_append]
  rfl
/-- what of a dict is not nought -/
def nz (m : Ms) : Ms := m.filter fun p => decide (p.2 ≠ 0)
theorem nz_yes {m : Ms} {i : Nat} {p : Str × Int} (h : m[i]? = some p) (e : p.2 ≠ 0) : nz (m.take (i + 1)) = nz (m.take i) ++ [p] := by
  unfold nz
  rw [take_more h, List.filter_append]
  congr 1
  rw [List.filter_cons, if_pos (decide_eq_true e)]
  rfl
theorem nz_no {m : Ms} {i : Nat} {p : Str × Int} (h : m[i]? = some p) (e : p.2 = 0) : nz (m.take (i + 1)) = nz (m.take i) := by
  unfold nz
  rw [take_more h, List.filter_append]
  rw [show [p].filter (fun p => decide (p.2 ≠ 0)) = [] by
    rw [List.filter_cons, if_neg (by simp [e])]
    rfl]
  simp
theorem enc_at {m : Ms} {i : Nat} {k : L2.Key} {v : V} (h : (enc m)[i]? = some (k, v)) : ∃ l n, m[i]? = some (l, n) ∧ k = Sum.inr l ∧ v = .int n := by
  unfold enc encG at h
  rw [List.getElem?_map] at h
  cases e : m[i]? with
  | none =>
    rw [e] at h
    cases h
  | some p =>
    rw [e] at h
    obtain ⟨e1, e2⟩ := Prod.mk.inj (Option.some.inj h)
    exact ⟨p.1, p.2, rfl, e1.symm, e2.symm⟩
/-- the sorted list of the pairs of a dict -/
theorem sorted_pairs {H : Hp} {ts : List Addr} {m : Ms} (hn : (m.map (·.1)).Nodup) (p : Paired (PrAt H) ts m) (k : V → Str × Int) (hk : ∀ t q, PrAt H t q → k (.ref t) = q) {ys : List V} (hp : ys.Perm (ts.map V.ref))
    (hs : ys.Pairwise (fun x y => SrtO.lexS (k y) (k x) = false)) : ∃ us : List Addr, ys = us.map V.ref ∧ Paired (PrAt H) us (ys.map k) ∧ (ys.map k).Perm m ∧ Ris (ys.map k) := by
  have hm : (ts.map V.ref).map k = m := by
    clear hp hs hn
    induction p with
    | nil => rfl
    | @cons t q _ _ r _ ih =>
      show k (.ref t) :: _ = _
      rw [hk _ _ r, ih]
  have hpm : (ys.map k).Perm m := by
    rw [← hm]
    exact hp.map k
  have hmem : ∀ y ∈ ys, ∃ t, y = .ref t ∧ PrAt H t (k y) := fun y hy => by
    obtain ⟨t, ht, rfl⟩ := List.mem_map.mp (hp.mem_iff.mp hy)
    obtain ⟨i, hi, e⟩ := List.mem_iff_getElem.mp ht
    obtain ⟨q, _, hq⟩ := paired_ix p (List.getElem?_eq_some_iff.mpr ⟨hi, e⟩)
    refine ⟨t, rfl, ?_⟩
    rw [hk _ _ hq]
    exact hq
  have hnd : ((ys.map k).map (·.1)).Nodup := (hpm.map (·.1)).nodup_iff.mpr hn
  have build : ∀ zs : List V, (∀ y ∈ zs, ∃ t, y = .ref t ∧ PrAt H t (k y)) → ∃ us : List Addr, zs = us.map V.ref ∧ Paired (PrAt H) us (zs.map k) := fun zs => by
    induction zs with
    | nil => exact fun _ => ⟨[], rfl, .nil⟩
    | cons z r ih =>
      intro h
      obtain ⟨t, e, q⟩ := h z List.mem_cons_self
      obtain ⟨us, e1, e2⟩ := ih fun y hy => h y (List.mem_cons_of_mem _ hy)
      refine ⟨t :: us, by rw [e, e1]; rfl, .cons q e2⟩
  obtain ⟨us, e1, e2⟩ := build ys hmem
  refine ⟨us, e1, e2, hpm, ?_⟩
  have h1 : (ys.map k).Pairwise fun p q => SrtO.lexS q p = false := List.pairwise_map.mpr hs
  have h2 : (ys.map k).Pairwise fun p q => p.1 ≠ q.1 := List.pairwise_map.mp hnd
  refine (h1.and h2).imp ?_
  intro a b ⟨h3, h4⟩
  have h5 := SrtO.lexS_no.mp h3
  refine Decidable.byContradiction fun h6 => h4 (sLt_tri h6 fun h7 => h5 (.inl h7))
/-- the pair that stands at a value -/
def prOf : Option HO → Str × Int
  | some (.tup [.str l, .int n]) => (l, n)
  | _ => (⟨#[]⟩, 0)
def kH (H : Hp) : V → Str × Int
  | .ref t => prOf (H t)
  | _ => (⟨#[]⟩, 0)
theorem kH_of {H : Hp} {t : Addr} {q : Str × Int} (h : PrAt H t q) : kH H (.ref t) = q := by
  show prOf (H t) = q
  rw [show H t = _ from h]
  rfl
theorem kH_all {H : Hp} {ts : List Addr} {m : Ms} (p : Paired (PrAt H) ts m) : ∀ x ∈ ts.map V.ref, ∃ t, x = V.ref t ∧ H t = some (.tup [.str (kH H x).1, .int (kH H x).2]) := fun x hx => by
  obtain ⟨t, ht, rfl⟩ := List.mem_map.mp hx
  obtain ⟨i, hi, e⟩ := List.mem_iff_getElem.mp ht
  obtain ⟨q, _, hq⟩ := paired_ix p (List.getElem?_eq_some_iff.mpr ⟨hi, e⟩)
  refine ⟨t, rfl, ?_⟩
  rw [kH_of hq]
  exact hq
theorem ms_list {H : Hp} {D b : Addr} {xs : List V} {o : HO} {m : Ms} (h : H D = some (.lst xs)) (q : MsAt H b m) : MsAt (L2.upd H D o) b m := by
  obtain ⟨ts, e, p⟩ := q
  refine ⟨ts, ?_, pr_list h p⟩
  rw [upd_ne (ne_of e h (fun e => nomatch e))]
  exact e
theorem ms_dict {H : Hp} {D b : Addr} {kvs : List (L2.Key × V)} {o : HO} {m : Ms} (h : H D = some (.dK kvs)) (q : MsAt H b m) : MsAt (L2.upd H D o) b m := by
  obtain ⟨ts, e, p⟩ := q
  refine ⟨ts, ?_, pr_dict h p⟩
  rw [upd_ne (ne_of e h (fun e => nomatch e))]
  exact e
/-! ### fillings -/
def fill (fl : List (Str × Ms)) (l : Str) : Ms := (lk fl l).getD [(l, 1)]
def parts (fl : List (Str × Ms)) (m : Ms) : List (Ms × Int) := m.map fun p => (fill fl p.1, p.2)
abbrev FillR (H : Hp) (x : Str × Addr) (y : Str × Ms) : Prop := x.1 = y.1 ∧ MsAt H x.2 y.2
def FillAt (H : Hp) (d : Addr) (ads : List (Str × Addr)) (fl : List (Str × Ms)) : Prop := H d = some (.dK (encG V.ref ads)) ∧ Paired (FillR H) ads fl
theorem fills_same {H H' : Hp} {ads : List (Str × Addr)} {fl : List (Str × Ms)} (s : Same H H') (p : Paired (FillR H) ads fl) : Paired (FillR H') ads fl := Paired.mono (fun x y z => ⟨z.1, z.2.same s⟩) p
theorem FillAt.same {H H' : Hp} {d : Addr} {ads : List (Str × Addr)} {fl : List (Str × Ms)} (s : Same H H') (h : FillAt H d ads fl) : FillAt H' d ads fl := ⟨s _ _ h.1, fills_same s h.2⟩
theorem fills_lk {H : Hp} {ads : List (Str × Addr)} {fl : List (Str × Ms)} (p : Paired (FillR H) ads fl) (l : Str) : (lk ads l = none ∧ lk fl l = none) ∨ ∃ b m, lk ads l = some b ∧ lk fl l = some m ∧ MsAt H b m := by
  induction p with
  | nil => exact .inl ⟨rfl, rfl⟩
  | @cons x y xs ys h _ ih =>
    obtain ⟨h1, h2⟩ := h
    by_cases e : x.1 = l
    · exact .inr ⟨x.2, y.2, if_pos e, if_pos (h1 ▸ e), h2⟩
    · have e' : ¬ y.1 = l := fun z => e (h1.trans z)
      rw [show lk (x :: xs) l = lk xs l from if_neg e, show lk (y :: ys) l = lk ys l from if_neg e']
      exact ih
/-- filling.get(l, d0), d0 the letter itself -/
theorem fill_get {H : Hp} {d e0 : Addr} {ads : List (Str × Addr)} {fl : List (Str × Ms)} (h : FillAt H d ads fl) (l : Str) (h0 : MsAt H e0 [(l, 1)]) : ∃ o b, DGet H d (.str l) o ∧ o.getD (.ref e0) = .ref b ∧ MsAt H b (fill fl l) := by
  rcases fills_lk h.2 l with ⟨a1, a2⟩ | ⟨b, m, a1, a2, a3⟩
  · refine ⟨_, e0, DGet.k (k := Sum.inr l) h.1, ?_, ?_⟩
    · rw [encG_val, a1]
      rfl
    · unfold fill
      rw [a2]
      exact h0
  · refine ⟨_, b, DGet.k (k := Sum.inr l) h.1, ?_, ?_⟩
    · rw [encG_val, a1]
      rfl
    · unfold fill
      rw [a2]
      exact a3
theorem paired_put {H : Hp} {l : Str} {b : Addr} {m : Ms} (h : MsAt H b m) {ads : List (Str × Addr)} {fl : List (Str × Ms)} (p : Paired (FillR H) ads fl) : Paired (FillR H) (put ads l b) (put fl l m) := by
  induction p with
  | nil => exact .cons ⟨rfl, h⟩ .nil
  | @cons x y xs ys q r ih =>
    obtain ⟨q1, q2⟩ := q
    by_cases e : x.1 = l
    · have e' : y.1 = l := q1 ▸ e
      rw [show put (x :: xs) l b = (x.1, b) :: xs from if_pos e, show put (y :: ys) l m = (y.1, m) :: ys from if_pos e']
      exact .cons ⟨q1, h⟩ r
    · have e' : ¬ y.1 = l := fun z => e (q1.trans z)
      rw [show put (x :: xs) l b = x :: put xs l b from if_neg e, show put (y :: ys) l m = y :: put ys l m from if_neg e']
      exact .cons ⟨q1, q2⟩ ih
theorem dput_encG {α : Type} {g : α → V} {H : Hp} {d : Addr} {m : List (Str × α)} {l : Str} {v : α} (e : H d = some (.dK (encG g m))) (hn : (m.map (·.1)).Nodup) (hl : m.length < sizeLine) : DPut H d (.str l) (g v) (L2.upd H d (.dK (encG g (put m l v)))) := by
  have q : DPut H d (kV (Sum.inr l)) (g v) _ := DPut.k (k := Sum.inr l) e (by rw [encG_len]; exact hl)
  rw [encG_put g l v m hn] at q
  exact q
theorem flat_mem {ps : List (Ms × Int)} {j : Str} (h : j ∈ (flat ps).map (·.1)) : ∃ q ∈ ps, ∃ p ∈ q.1, p.1 = j := by
  obtain ⟨x, hx, rfl⟩ := List.mem_map.mp h
  unfold flat at hx
  obtain ⟨y, hy, hxy⟩ := List.mem_flatten.mp hx
  obtain ⟨q, hq, rfl⟩ := List.mem_map.mp hy
  obtain ⟨p, hp, rfl⟩ := List.mem_map.mp hxy
  exact ⟨q, hq, p, hp, rfl⟩
theorem flat_len_le {n : Nat} : ∀ (ps : List (Ms × Int)), (∀ q ∈ ps, q.1.length ≤ n) → (flat ps).length ≤ ps.length * n
  | [], _ => by simp [flat]
  | q :: r, h => by
    have ih := flat_len_le r fun x hx => h x (List.mem_cons_of_mem _ hx)
    have h1 := h q List.mem_cons_self
    show (scaled q.1 q.2 ++ flat r).length ≤ (r.length + 1) * n
    rw [List.length_append, scaled_len, Nat.succ_mul]
    omega
theorem parts_nil : ∀ (m : Ms) (j : Str), sumAt (flat (parts [] m)) j = sumAt m j
  | [], j => rfl
  | p :: r, j => by
    have ih := parts_nil r j
    show sumAt (scaled [(p.1, 1)] p.2 ++ flat (parts [] r)) j = _
    rw [sumAt_append, ih, sumAt_scaled, sumAt_one]
    show _ = (if p.1 = j then p.2 else 0) + sumAt r j
    by_cases e : p.1 = j
    · rw [if_pos e, if_pos e]
      omega
    · rw [if_neg e, if_neg e]
      omega
end MK


set_option Elab.async false
set_option linter.all false
set_option maxRecDepth 100000
set_option maxHeartbeats 4000000
namespace MK
open PySem PySem.Spec PyProof.Rows L2
def topS (i : Nat) : Stmt := PySem.Challenge.pw_measurekind_k01_measures_multiplied.main.body.getD i (.Pass ⟨0, 0, 0, 0⟩)
abbrev sTimes : Stmt := topS 1
abbrev sOver : Stmt := topS 2
abbrev sPow : Stmt := topS 3
abbrev sGath : Stmt := topS 4
abbrev sCell : Stmt := topS 6
abbrev sMix : Stmt := topS 7
abbrev sWords : Stmt := topS 8
abbrev sMade : Stmt := topS 9
abbrev sWhole : Stmt := topS 10
abbrev sIsM : Stmt := topS 11
abbrev sLetters : Stmt := topS 12
abbrev sPower : Stmt := topS 13
abbrev sMeasure : Stmt := topS 14
abbrev sDue : Stmt := topS 15
abbrev sLaw : Stmt := topS 16
end MK


set_option Elab.async false
set_option linter.all false
set_option maxRecDepth 100000
set_option maxHeartbeats 4000000
namespace MK
open PySem PySem.Spec PyProof.Rows L2
section
variable {P : Program} {w : World} {K : PySem.W.Frag} {mg : Str → Option Value} {base : Heap}
/-! ### _law_cell_at -/
def spCell (K : PySem.W.Frag) : Sp := fun vs H Q _ => ∃ (a : Addr) (ns : List Int) (k : Nat), vs = [.ref a, .int k] ∧ SqL K H a (ns.map V.int) ∧
  ∀ c : Int, 0 ≤ c → c < 1000000000000000003 → Q (.int c) H
theorem scCell : FnScope ["_law_script", "_law_k"] ["_law_script", "_law_k"] (defScope sCell) := ⟨rfl, rfl, rfl, by decide +kernel, rfl, by decide +kernel, by decide +kernel⟩
theorem ok_cell {f : Addr} {fd : FuncData} (F : Fun K "_law_cell_at" "_law_cell_at" sCell f fd) (ml : mg "len" = none) : FnOk P w K mg base CX0 1 f fd ["_law_script", "_law_k"] (spCell K) := by
  refine F.ok scCell (fun vs H Q E h => ?_) (fun cdv A outer s H vs Q E hr h => ?_)
  · obtain ⟨a, ns, k, rfl, _⟩ := h
    rfl
  · obtain ⟨a, ns, k, rfl, hS, q⟩ := h
    refine ⟨_, pss_cons (ps_if (pt_cmpR op_lt (pv 1) (pe_callB call_len_seq (by rfl) ml PySem.boot_len (pa_cons (pv 0) pa_nil)) (nomark _))
        (pss_one (ps_ret (pe_op op_mod (pe_ix ix_list (pv 0) (pv 1) (fun _ _ => rfl)) pe_int))) pss_nil)
      (pss_one (ps_ret pe_int)), ?_⟩
    refine ⟨_, rfl, _, rfl, a, ns.map V.int, rfl, .inl hS, _, _, rfl, rfl, _, rfl, ite2 (fun e => ?_) (fun e => ?_)⟩
    · have hk : k < ns.length := by
        have := of_decide_eq_true e
        rw [List.length_map] at this
        omega
      refine ⟨_, rfl, _, rfl, a, ns.map V.int, (k : Int), .int ns[k], rfl, rfl, hS, atI_nat (by rw [List.getElem?_map, List.getElem?_eq_getElem hk]; rfl), _, _, rfl, rfl, (by show (0 : Int) < 1000000000000000003; decide), ?_⟩
      exact q _ (Int.emod_nonneg _ (by decide)) (Int.emod_lt_of_pos _ (by decide))
    · exact q 0 (by decide) (by decide)
/-! ### _law_mix -/
def spMix : Sp := fun vs H Q _ => ∃ (c k : Int), vs = [.int c, .int k] ∧ ∀ m : Int, 0 ≤ m → m < 2147483629 → Q (.int m) H
theorem scMix : FnScope ["_law_cell", "_law_k", "_law_number"] ["_law_cell", "_law_k"] (defScope sMix) := ⟨rfl, rfl, rfl, by decide +kernel, rfl, by decide +kernel, by decide +kernel⟩
theorem ok_mix {f : Addr} {fd : FuncData} (F : Fun K "_law_mix" "_law_mix" sMix f fd) : FnOk P w K mg base CX0 1 f fd ["_law_cell", "_law_k"] spMix := by
  refine F.ok scMix (fun vs H Q E h => ?_) (fun cdv A outer s H vs Q E hr h => ?_)
  · obtain ⟨c, k, rfl, _⟩ := h
    rfl
  · obtain ⟨c, k, rfl, q⟩ := h
    refine ⟨_, pss_cons (ps_set (i := 2) scMix.nd rfl (.inl rfl) (pe_op op_mod (pe_op op_add (pe_op op_add (pe_op op_mul (pv 0) pe_int) (pe_op op_mul (pv 1) pe_int)) pe_int) pe_int))
      (pss_one (ps_ret (pe_op op_mod (pe_op op_add (pe_op op_add (pe_op op_mul (pv 2) (pv 2)) (pe_op op_mul pe_int (pv 2))) (pv 1)) pe_int))), ?_⟩
    refine ⟨_, rfl, _, _, rfl, rfl, .inr (by decide), _, rfl, _, _, rfl, rfl, .inr (by decide), _, _, rfl, rfl, _, _, rfl, rfl, _, _, rfl, rfl, (by show (0 : Int) < 2147483647; decide), ?_⟩
    have h1 : 0 ≤ (c * 48271 + k * 69621 + 11) % 2147483647 := Int.emod_nonneg _ (by decide)
    have h2 : (c * 48271 + k * 69621 + 11) % 2147483647 < 2147483647 := Int.emod_lt_of_pos _ (by decide)
    refine ⟨_, rfl, _, rfl, _, _, rfl, rfl, .inl ⟨by omega, by omega⟩, _, rfl, _, _, rfl, rfl, .inl (by decide), _, _, rfl, rfl, _, rfl, _, _, rfl, rfl, _, _, rfl, rfl, (by show (0 : Int) < 2147483629; decide), ?_⟩
    exact q _ (Int.emod_nonneg _ (by decide)) (Int.emod_lt_of_pos _ (by decide))
/-! ### _law_power -/
theorem cut_power (x : Int) : (x % (2 * 10 ^ 20 + 1) - 10 ^ 20).natAbs < 2 ^ 67 := by
  have h2 : 0 ≤ x % (2 * 10 ^ 20 + 1) := Int.emod_nonneg _ (by decide)
  have h3 : x % (2 * 10 ^ 20 + 1) < 2 * 10 ^ 20 + 1 := Int.emod_lt_of_pos _ (by decide)
  generalize x % (2 * 10 ^ 20 + 1) = y at h2 h3
  omega
def spPower : Sp := fun vs H Q _ => ∃ (c : Int), vs = [.int c] ∧ 0 ≤ c ∧ c < 2 ^ 62 ∧ ∀ m : Int, m.natAbs < 2 ^ 67 → Q (.int m) H
theorem scPower : FnScope ["_law_cell"] ["_law_cell"] (defScope sPower) := ⟨rfl, rfl, rfl, by decide +kernel, rfl, by decide +kernel, by decide +kernel⟩
theorem ok_power {f : Addr} {fd : FuncData} (F : Fun K "_law_power" "_law_power" sPower f fd) : FnOk P w K mg base CX0 1 f fd ["_law_cell"] spPower := by
  refine F.ok scPower (fun vs H Q E h => ?_) (fun cdv A outer s H vs Q E hr h => ?_)
  · obtain ⟨c, rfl, _⟩ := h
    rfl
  · obtain ⟨c, rfl, h0, h1, q⟩ := h
    refine ⟨_, pss_cons (ps_if (pt_cmpR op_gt (pe_op op_mod (pv 0) pe_int) pe_int (nomark _)) (pss_one (ps_ret (pe_op op_sub (pe_op op_mod (pe_op op_fdiv (pv 0) pe_int) pe_int) pe_int))) pss_nil)
      (pss_one (ps_ret (pe_op op_sub (pe_op op_mod (pe_op op_pow (pe_op op_fdiv (pv 0) pe_int) pe_int) (pe_op op_add (pe_op op_mul pe_int (pe_op op_pow pe_int pe_int)) pe_int)) (pe_op op_pow pe_int pe_int)))), ?_⟩
    refine ⟨_, rfl, _, _, rfl, rfl, (by show (0 : Int) < 5; decide), _, _, rfl, rfl, _, rfl, ite2 (fun e => ?_) (fun e => ?_)⟩
    · refine ⟨_, rfl, _, _, rfl, rfl, ⟨by decide, by decide⟩, _, _, rfl, rfl, (by show (0 : Int) < 9; decide), _, _, rfl, rfl, ?_⟩
      refine q _ ?_
      have h2 : 0 ≤ c / 5 % 9 := Int.emod_nonneg _ (by decide)
      have h3 : c / 5 % 9 < 9 := Int.emod_lt_of_pos _ (by decide)
      omega
    · refine ⟨_, rfl, _, _, rfl, rfl, ⟨by decide, by decide⟩, _, _, rfl, rfl, ⟨by decide, by decide, by omega⟩, ?_⟩
      refine ⟨_, _, rfl, rfl, ⟨by decide, by decide, by decide⟩, _, _, rfl, rfl, .inl (by decide), _, _, rfl, rfl, _, _, rfl, rfl, (by show (0 : Int) < 2 * 10 ^ 20 + 1; decide), _, _, rfl, rfl, ⟨by decide, by decide, by decide⟩, _, _, rfl, rfl, ?_⟩
      exact q _ (cut_power _)
end
end MK


set_option Elab.async false
set_option linter.all false
set_option maxRecDepth 100000
set_option maxHeartbeats 4000000
namespace MK
open PySem PySem.Spec PyProof.Rows L2
section
variable {P : Program} {w : World} {K : PySem.W.Frag} {mg : Str → Option Value} {base : Heap}
/-! ### _law_words -/
/-- a text of 1 to b signs -/
def Wd (b : Nat) (z : Str) : Prop := 1 ≤ z.length ∧ z.length ≤ b ∧ Ok z
theorem strRep_len (z : Str) (n : Int) : (strRep z n).length = z.length * n.toNat := by
  unfold strRep
  by_cases c : n < 1
  · rw [if_pos c]
    have : n.toNat = 0 := by omega
    rw [this]
    rfl
  · rw [if_neg c]
    by_cases d : (n == 1 || z.length == 0) = true
    · rw [if_pos d]
      rw [Bool.or_eq_true] at d
      rcases d with d | d
      · have : n = 1 := by simpa using d
        subst this
        show z.length = z.length * 1
        omega
      · have : z.length = 0 := by simpa using d
        rw [this]
        omega
    · rw [if_neg d]
      show ((List.replicate n.toNat z.cps).foldl (· ++ ·) #[]).size = _
      rw [size_reps]
      show 0 + n.toNat * z.length = _
      rw [Nat.mul_comm]
      omega
theorem ok_rep {z : Str} (h : Ok z) (n : Int) : Ok (strRep z n) := by
  unfold strRep
  by_cases c : n < 1
  · rw [if_pos c]
    exact fun x hx => absurd hx (by simp [Str.empty])
  · rw [if_neg c]
    by_cases d : (n == 1 || z.length == 0) = true
    · rw [if_pos d]
      exact h
    · rw [if_neg d]
      exact ok_fold _ h _ _ (fun x hx => absurd hx (by simp))
abbrev alphabet : Str := "abcdefghijklmnopqrstuvwxyz"
theorem sign_at (i : Int) (h0 : 0 ≤ i) (h1 : i < 26) : ∃ c, atI alphabet.cps.toList i = some c ∧ c < 1114112 := by
  have hl : alphabet.cps.toList.length = 26 := by decide +kernel
  obtain ⟨n, rfl⟩ := Int.eq_ofNat_of_zero_le h0
  have hn : n < alphabet.cps.toList.length := by omega
  exact ⟨_, atI_nat (List.getElem?_eq_getElem hn), ok_string _ _ (List.getElem_mem hn)⟩
theorem len_one (c : Nat) : (⟨#[c]⟩ : Str).length = 1 := rfl
theorem len1000 (c : Nat) : (⟨#[c]⟩ : Str).length ≤ 1000 := by
  rw [len_one]
  decide
theorem szl {n : Nat} (h : n ≤ 1000) : n ≤ sizeLine := Nat.le_trans h (by decide)
theorem app_len (a b : Str) : (a ++ b).length = a.length + b.length := by
  show (a.cps ++ b.cps).size = _
  rw [Array.size_append]
  rfl
def spWords : Sp := fun vs H Q _ => ∃ (c : Int) (n : Nat), vs = [.int c, .int n] ∧ 0 ≤ c ∧ n ≤ 1000 ∧
  ∀ (H' : Hp) (p : Addr) (ws : List Str), Same H H' → H p = none → H' p = some (.lst (ws.map V.str)) → ws.length = n → (∀ z ∈ ws, Wd 20 z) → Q (.ref p) H'
theorem scWords : FnScope ["_law_cell", "_law_many", "_law_signs", "_law_size", "_law_place", "_law_base", "_law_way", "_law_found", "_law_k", "_law_sign", "_law_word"] ["_law_cell", "_law_many"] (defScope sWords) := ⟨rfl, rfl, rfl, by decide +kernel, rfl, by decide +kernel, by decide +kernel⟩
theorem ok_words {f : Addr} {fd : FuncData} (F : Fun K "_law_words" "_law_words" sWords f fd) (mr : mg "range" = none) : FnOk P w K mg base CX0 1 f fd ["_law_cell", "_law_many"] spWords := by
  refine F.ok scWords (fun vs H Q E h => ?_) (fun cdv A outer s H vs Q E hr h => ?_)
  · obtain ⟨c, n, rfl, _⟩ := h
    rfl
  · obtain ⟨c, n, rfl, h0, hn, q⟩ := h
    have nd := scWords.nd
    refine ⟨_, pss_cons (ps_set (i := 2) nd rfl (.inl rfl) pe_str)
      (pss_cons (ps_set (i := 3) nd rfl (.inl rfl) (pe_op op_add pe_int (pe_op op_mod (pv 0) pe_int)))
      (pss_cons (ps_set (i := 4) nd rfl (.inl rfl) (pe_op op_mod (pe_op op_fdiv (pv 0) pe_int) (pv 3)))
      (pss_cons (ps_set (i := 5) nd rfl (.inl rfl) (pe_ix ix_str (pv 2) (pe_op op_mod (pe_op op_fdiv (pv 0) pe_int) pe_int) (fun _ _ => rfl)))
      (pss_cons (ps_set (i := 6) nd rfl (.inl rfl) (pe_op op_mod (pe_op op_fdiv (pv 0) pe_int) pe_int))
      (pss_cons (ps_set (i := 7) nd rfl (.inl rfl) (pe_lst pa_nil))
      (pss_cons (ps_for PassesOwn.never rfl (pi_range1 rfl mr (pa_cons (pv 1) pa_nil)) (pg_name (i := 8) nd rfl (.inl rfl))
        (pss_cons (ps_set (i := 9) nd rfl (.inl rfl) (pe_ix ix_str (pv 2) (pe_op op_mod (pe_op op_add (pe_op op_fdiv (pv 0) pe_int) (pe_op op_mul pe_int (pv 8))) pe_int) (fun _ _ => rfl)))
        (pss_cons (ps_set (i := 10) nd rfl (.inl rfl) (pe_op op_add_str (pe_op op_add_str (pe_op op_mul_str (pv 5) (pv 4)) (pv 9)) (pe_op op_mul_str (pv 5) (pe_op op_sub (pe_op op_sub (pv 3) pe_int) (pv 4)))))
        (Evl.pss_cut (ps_if (pt_cmpR op_eq (pv 6) pe_int (nomark _)) (pss_one (ps_set (i := 10) nd rfl (.inl rfl) (pe_op op_add_str (pv 9) (pe_op op_mul_str (pv 5) (pe_op op_mod (pe_op op_add (pe_op op_mul pe_int (pv 8)) (pe_op op_fdiv (pv 0) pe_int)) pe_int))))) pss_nil)
        (Evl.pss_cut (ps_if (pw_and (pt_cmpR op_eq (pv 6) pe_int (nomark _)) (pw_and1 (pt_cmpR op_lt (pv 8) pe_int (nomark _)))).pt (pss_one (ps_set (i := 10) nd rfl (.inl rfl) (pe_op op_mul_str (pv 5) (pe_op op_add pe_int (pe_op op_mod (pe_op op_add (pe_op op_mul pe_int (pv 8)) (pe_op op_fdiv (pv 0) pe_int)) pe_int))))) pss_nil)
        (Evl.pss_cut (ps_if (pw_and (pt_cmpR op_eq (pv 6) pe_int (nomark _)) (pw_and1 (pt_cmpR op_gt (pv 8) pe_int (nomark _)))).pt (pss_one (ps_set (i := 10) nd rfl (.inl rfl) (pe_op op_add_str (pe_ix ix_str (pv 2) (pe_op op_mod (pe_op op_sub (pe_op op_add (pe_op op_fdiv (pv 0) pe_int) (pv 8)) pe_int) pe_int) (fun _ _ => rfl)) (pe_op op_mul_str (pv 5) (pe_op op_mod (pv 8) pe_int))))) pss_nil)
        (pss_one (ps_expr (pe_bm PySem.F.plainAttrs_list PySem.F.slot_list_append PySem.F.type_list_append mt_append (pv 7) (pa_cons (pv 10) pa_nil))))))))))
      (pss_one (ps_ret (pv 7))))))))), ?_⟩
    -- the sizes
    have hs1 : 0 ≤ c % 8 := Int.emod_nonneg _ (by decide)
    have hs2 : c % 8 < 8 := Int.emod_lt_of_pos _ (by decide)
    have hp1 : 0 ≤ c / 8 % (1 + c % 8) := Int.emod_nonneg _ (by omega)
    have hp2 : c / 8 % (1 + c % 8) < 1 + c % 8 := Int.emod_lt_of_pos _ (by omega)
    (repeat (first | refine ⟨_, rfl, ?_⟩ | refine ⟨_, _, rfl, rfl, ?_⟩ | refine ⟨(by show (0 : Int) < _; decide), ?_⟩ | refine ⟨⟨by decide, by decide⟩, ?_⟩ | refine ⟨.inr (by decide), ?_⟩ | refine ⟨.inl (by decide), ?_⟩ | refine ⟨rfl, ?_⟩))
    refine ⟨(by show (0 : Int) < 1 + c % 8; omega), ?_⟩
    (repeat (first | refine ⟨_, rfl, ?_⟩ | refine ⟨_, _, rfl, rfl, ?_⟩ | refine ⟨(by show (0 : Int) < _; decide), ?_⟩ | refine ⟨⟨by decide, by decide⟩, ?_⟩ | refine ⟨.inr (by decide), ?_⟩ | refine ⟨.inl (by decide), ?_⟩ | refine ⟨rfl, ?_⟩))
    obtain ⟨sb, hsb, hsbO⟩ := sign_at (c / 64 % 26) (Int.emod_nonneg _ (by decide)) (Int.emod_lt_of_pos _ (by decide))
    refine ⟨_, _, sb, rfl, rfl, (by decide +kernel), hsb, ?_⟩
    (repeat (first | refine ⟨_, rfl, ?_⟩ | refine ⟨_, _, rfl, rfl, ?_⟩ | refine ⟨(by show (0 : Int) < _; decide), ?_⟩ | refine ⟨⟨by decide, by decide⟩, ?_⟩ | refine ⟨.inr (by decide), ?_⟩ | refine ⟨.inl (by decide), ?_⟩ | refine ⟨rfl, ?_⟩))
    refine ⟨Nat.zero_le _, fun o no => ?_⟩
    (repeat (first | refine ⟨_, rfl, ?_⟩ | refine ⟨_, _, rfl, rfl, ?_⟩ | refine ⟨(by show (0 : Int) < _; decide), ?_⟩ | refine ⟨⟨by decide, by decide⟩, ?_⟩ | refine ⟨.inr (by decide), ?_⟩ | refine ⟨.inl (by decide), ?_⟩ | refine ⟨rfl, ?_⟩))
    refine ⟨(by omega), (by omega), ?_⟩
    refine for_range (n := (n : Int).toNat) (fun i σ H2 => ∃ (v8 v9 v10 : Option V) (ws : List Str), σ = [some (.int c), some (.int n), some (.str alphabet), some (.int (1 + c % 8)), some (.int (c / 8 % (1 + c % 8))), some (.str ⟨#[sb]⟩), some (.int (c / 3 % 4)), some (.ref o), v8, v9, v10] ∧
        ws.length = i ∧ (∀ z ∈ ws, Wd 20 z) ∧ Same H H2 ∧ H2 o = some (.lst (ws.map V.str)))
      ⟨none, none, none, [], rfl, rfl, (fun z hz => absurd hz (by simp)), same_new no, upd_same⟩ ?_ ?_
    · rintro i σ H2 hi ⟨v8, v9, v10, ws, rfl, hl, hw, sm, ho⟩
      obtain ⟨s1, hs1', hs1O⟩ := sign_at ((c / 1664 + 5 * (0 + (i : Int))) % 26) (Int.emod_nonneg _ (by decide)) (Int.emod_lt_of_pos _ (by decide))
      (repeat (first | refine ⟨_, rfl, ?_⟩ | refine ⟨_, _, rfl, rfl, ?_⟩ | refine ⟨(by show (0 : Int) < _; decide), ?_⟩ | refine ⟨⟨by decide, by decide⟩, ?_⟩ | refine ⟨.inr (by decide), ?_⟩ | refine ⟨.inl (by decide), ?_⟩ | refine ⟨rfl, ?_⟩))
      refine ⟨_, _, s1, rfl, rfl, (by decide +kernel), hs1', ?_⟩
      (repeat (first | refine ⟨_, rfl, ?_⟩ | refine ⟨_, _, rfl, rfl, ?_⟩ | refine ⟨(by show (0 : Int) < _; decide), ?_⟩ | refine ⟨⟨by decide, by decide⟩, ?_⟩ | refine ⟨.inr (by decide), ?_⟩ | refine ⟨.inl (by decide), ?_⟩ | refine ⟨rfl, ?_⟩))
      -- word = base * place + sign + base * (size - 1 - place)
      refine ⟨⟨len1000 _, by omega, by omega⟩, ?_⟩
      (repeat (first | refine ⟨_, rfl, ?_⟩ | refine ⟨_, _, rfl, rfl, ?_⟩ | refine ⟨(by show (0 : Int) < _; decide), ?_⟩ | refine ⟨⟨by decide, by decide⟩, ?_⟩ | refine ⟨.inr (by decide), ?_⟩ | refine ⟨.inl (by decide), ?_⟩ | refine ⟨rfl, ?_⟩))
      refine ⟨szl (by rw [strRep_len, len_one, len_one]; omega), ?_⟩
      (repeat (first | refine ⟨_, rfl, ?_⟩ | refine ⟨_, _, rfl, rfl, ?_⟩ | refine ⟨(by show (0 : Int) < _; decide), ?_⟩ | refine ⟨⟨by decide, by decide⟩, ?_⟩ | refine ⟨.inr (by decide), ?_⟩ | refine ⟨.inl (by decide), ?_⟩ | refine ⟨rfl, ?_⟩))
      refine ⟨⟨len1000 _, by omega, by omega⟩, ?_⟩
      (repeat (first | refine ⟨_, rfl, ?_⟩ | refine ⟨_, _, rfl, rfl, ?_⟩ | refine ⟨(by show (0 : Int) < _; decide), ?_⟩ | refine ⟨⟨by decide, by decide⟩, ?_⟩ | refine ⟨.inr (by decide), ?_⟩ | refine ⟨.inl (by decide), ?_⟩ | refine ⟨rfl, ?_⟩))
      refine ⟨szl (by rw [app_len, strRep_len, strRep_len, len_one, len_one]; omega), ?_⟩
      have w0 : Wd 20 (strRep ⟨#[sb]⟩ (c / 8 % (1 + c % 8)) ++ ⟨#[s1]⟩ ++ strRep ⟨#[sb]⟩ (1 + c % 8 - 1 - c / 8 % (1 + c % 8))) := by
        refine ⟨?_, ?_, ok_app (ok_app (ok_rep (ok_one hsbO) _) (ok_one hs1O)) (ok_rep (ok_one hsbO) _)⟩
        · rw [app_len, app_len, strRep_len, strRep_len, len_one, len_one]
          omega
        · rw [app_len, app_len, strRep_len, strRep_len, len_one, len_one]
          omega
      -- between the ifs: some word of one to twenty signs
      let Mid : L2.St → Hp → Prop := fun σ' H' => H' = H2 ∧ ∃ wd : Str, Wd 20 wd ∧ σ' = [some (V.int c), some (V.int n), some (V.str alphabet), some (V.int (1 + c % 8)), some (V.int (c / 8 % (1 + c % 8))), some (V.str ⟨#[sb]⟩), some (V.int (c / 3 % 4)), some (V.ref o), some (V.int (0 + (i : Int))), some (V.str ⟨#[s1]⟩), some (V.str wd)]
      have hm0 : ∀ x : Int, 0 ≤ x % 8 ∧ x % 8 < 8 := fun x => ⟨Int.emod_nonneg _ (by decide), Int.emod_lt_of_pos _ (by decide)⟩
      refine ⟨Mid, ?_, ?_⟩
      · (repeat (first | refine ⟨_, rfl, ?_⟩ | refine ⟨_, _, rfl, rfl, ?_⟩ | refine ⟨(by show (0 : Int) < _; decide), ?_⟩ | refine ⟨⟨by decide, by decide⟩, ?_⟩ | refine ⟨.inr (by decide), ?_⟩ | refine ⟨.inl (by decide), ?_⟩ | refine ⟨rfl, ?_⟩))
        refine ite2 (fun _ => ?_) (fun _ => ⟨rfl, _, w0, rfl⟩)
        (repeat (first | refine ⟨_, rfl, ?_⟩ | refine ⟨_, _, rfl, rfl, ?_⟩ | refine ⟨(by show (0 : Int) < _; decide), ?_⟩ | refine ⟨⟨by decide, by decide⟩, ?_⟩ | refine ⟨.inr (by decide), ?_⟩ | refine ⟨.inl (by decide), ?_⟩ | refine ⟨rfl, ?_⟩))
        have := hm0 (3 * (0 + (i : Int)) + c / 9)
        refine ⟨⟨len1000 _, by omega, by omega⟩, ?_⟩
        (repeat (first | refine ⟨_, rfl, ?_⟩ | refine ⟨_, _, rfl, rfl, ?_⟩ | refine ⟨(by show (0 : Int) < _; decide), ?_⟩ | refine ⟨⟨by decide, by decide⟩, ?_⟩ | refine ⟨.inr (by decide), ?_⟩ | refine ⟨.inl (by decide), ?_⟩ | refine ⟨rfl, ?_⟩))
        refine ⟨szl (by rw [strRep_len, len_one, len_one]; omega), ?_⟩
        exact ⟨rfl, _, ⟨by rw [app_len, strRep_len, len_one, len_one]; omega, by rw [app_len, strRep_len, len_one, len_one]; omega, ok_app (ok_one hs1O) (ok_rep (ok_one hsbO) _)⟩, rfl⟩
      rintro σ' H' ⟨rfl, wd, hwd, rfl⟩
      refine ⟨Mid, ?_, ?_⟩
      · (repeat (first | refine ⟨_, rfl, ?_⟩ | refine ⟨_, _, rfl, rfl, ?_⟩ | refine ⟨(by show (0 : Int) < _; decide), ?_⟩ | refine ⟨⟨by decide, by decide⟩, ?_⟩ | refine ⟨.inr (by decide), ?_⟩ | refine ⟨.inl (by decide), ?_⟩ | refine ⟨rfl, ?_⟩))
        refine ite2 (fun _ => ?_) (fun _ => iteF ⟨rfl, _, hwd, rfl⟩)
        (repeat (first | refine ⟨_, rfl, ?_⟩ | refine ⟨_, _, rfl, rfl, ?_⟩ | refine ⟨(by show (0 : Int) < _; decide), ?_⟩ | refine ⟨⟨by decide, by decide⟩, ?_⟩ | refine ⟨.inr (by decide), ?_⟩ | refine ⟨.inl (by decide), ?_⟩ | refine ⟨rfl, ?_⟩))
        refine ite2 (fun _ => ?_) (fun _ => ⟨rfl, _, hwd, rfl⟩)
        (repeat (first | refine ⟨_, rfl, ?_⟩ | refine ⟨_, _, rfl, rfl, ?_⟩ | refine ⟨(by show (0 : Int) < _; decide), ?_⟩ | refine ⟨⟨by decide, by decide⟩, ?_⟩ | refine ⟨.inr (by decide), ?_⟩ | refine ⟨.inl (by decide), ?_⟩ | refine ⟨rfl, ?_⟩))
        have := hm0 (3 * (0 + (i : Int)) + c / 9)
        refine ⟨⟨len1000 _, by omega, by omega⟩, ?_⟩
        exact ⟨rfl, _, ⟨by rw [strRep_len, len_one]; omega, by rw [strRep_len, len_one]; omega, ok_rep (ok_one hsbO) _⟩, rfl⟩
      rintro σ' H' ⟨rfl, wd, hwd, rfl⟩
      refine ⟨Mid, ?_, ?_⟩
      · (repeat (first | refine ⟨_, rfl, ?_⟩ | refine ⟨_, _, rfl, rfl, ?_⟩ | refine ⟨(by show (0 : Int) < _; decide), ?_⟩ | refine ⟨⟨by decide, by decide⟩, ?_⟩ | refine ⟨.inr (by decide), ?_⟩ | refine ⟨.inl (by decide), ?_⟩ | refine ⟨rfl, ?_⟩))
        refine ite2 (fun _ => ?_) (fun _ => iteF ⟨rfl, _, hwd, rfl⟩)
        (repeat (first | refine ⟨_, rfl, ?_⟩ | refine ⟨_, _, rfl, rfl, ?_⟩ | refine ⟨(by show (0 : Int) < _; decide), ?_⟩ | refine ⟨⟨by decide, by decide⟩, ?_⟩ | refine ⟨.inr (by decide), ?_⟩ | refine ⟨.inl (by decide), ?_⟩ | refine ⟨rfl, ?_⟩))
        refine ite2 (fun _ => ?_) (fun _ => ⟨rfl, _, hwd, rfl⟩)
        obtain ⟨s3, hs3, hs3O⟩ := sign_at ((c / 64 + (0 + (i : Int)) - 7) % 26) (Int.emod_nonneg _ (by decide)) (Int.emod_lt_of_pos _ (by decide))
        (repeat (first | refine ⟨_, rfl, ?_⟩ | refine ⟨_, _, rfl, rfl, ?_⟩ | refine ⟨(by show (0 : Int) < _; decide), ?_⟩ | refine ⟨⟨by decide, by decide⟩, ?_⟩ | refine ⟨.inr (by decide), ?_⟩ | refine ⟨.inl (by decide), ?_⟩ | refine ⟨rfl, ?_⟩))
        refine ⟨_, _, s3, rfl, rfl, (by decide +kernel), hs3, ?_⟩
        (repeat (first | refine ⟨_, rfl, ?_⟩ | refine ⟨_, _, rfl, rfl, ?_⟩ | refine ⟨(by show (0 : Int) < _; decide), ?_⟩ | refine ⟨⟨by decide, by decide⟩, ?_⟩ | refine ⟨.inr (by decide), ?_⟩ | refine ⟨.inl (by decide), ?_⟩ | refine ⟨rfl, ?_⟩))
        have := hm0 (0 + (i : Int))
        refine ⟨⟨len1000 _, by omega, by omega⟩, ?_⟩
        (repeat (first | refine ⟨_, rfl, ?_⟩ | refine ⟨_, _, rfl, rfl, ?_⟩ | refine ⟨(by show (0 : Int) < _; decide), ?_⟩ | refine ⟨⟨by decide, by decide⟩, ?_⟩ | refine ⟨.inr (by decide), ?_⟩ | refine ⟨.inl (by decide), ?_⟩ | refine ⟨rfl, ?_⟩))
        refine ⟨szl (by rw [strRep_len, len_one, len_one]; omega), ?_⟩
        exact ⟨rfl, _, ⟨by rw [app_len, strRep_len, len_one, len_one]; omega, by rw [app_len, strRep_len, len_one, len_one]; omega, ok_app (ok_one hs3O) (ok_rep (ok_one hsbO) _)⟩, rfl⟩
      rintro σ' H' ⟨rfl, wd, hwd, rfl⟩
      -- found.append(word)
      (repeat (first | refine ⟨_, rfl, ?_⟩ | refine ⟨_, _, rfl, rfl, ?_⟩ | refine ⟨(by show (0 : Int) < _; decide), ?_⟩ | refine ⟨⟨by decide, by decide⟩, ?_⟩ | refine ⟨.inr (by decide), ?_⟩ | refine ⟨.inl (by decide), ?_⟩ | refine ⟨rfl, ?_⟩))
      refine ⟨.inl ⟨rfl, _, .inl (.inl ho)⟩, ?_⟩
      (repeat (first | refine ⟨_, rfl, ?_⟩ | refine ⟨_, _, rfl, rfl, ?_⟩ | refine ⟨(by show (0 : Int) < _; decide), ?_⟩ | refine ⟨⟨by decide, by decide⟩, ?_⟩ | refine ⟨.inr (by decide), ?_⟩ | refine ⟨.inl (by decide), ?_⟩ | refine ⟨rfl, ?_⟩))
      refine ⟨o, _, _, rfl, rfl, ho, (by rw [List.length_map]; exact small1000 (by omega)), ?_⟩
      refine ⟨_, _, _, ws ++ [wd], rfl, ?_, ?_, ?_, ?_⟩
      · rw [List.length_append, hl]
        rfl
      · intro z hz
        rcases List.mem_append.mp hz with z1 | z1
        · exact hw z z1
        · rw [List.mem_singleton.mp z1]
          exact hwd
      · exact fun b x e => by
          rw [upd_ne (ne_of_none e no)]
          exact sm b x e
      · rw [upd_same, List.map_append]
        rfl
    · rintro σ H2 ⟨v8, v9, v10, ws, rfl, hl, hw, sm, ho⟩
      (repeat (first | refine ⟨_, rfl, ?_⟩ | refine ⟨_, _, rfl, rfl, ?_⟩ | refine ⟨(by show (0 : Int) < _; decide), ?_⟩ | refine ⟨⟨by decide, by decide⟩, ?_⟩ | refine ⟨.inr (by decide), ?_⟩ | refine ⟨.inl (by decide), ?_⟩ | refine ⟨rfl, ?_⟩))
      exact q H2 o ws sm no ho (by rw [hl]; rfl) hw
end
end MK


set_option Elab.async false
set_option linter.all false
set_option maxRecDepth 100000
set_option maxHeartbeats 4000000
namespace MK
open PySem PySem.Spec PyProof.Rows L2
section
variable {P : Program} {w : World} {K : PySem.W.Frag} {mg : Str → Option Value} {base : Heap}
/-! ### _law_made -/
def spMade : Sp := fun vs H Q _ => ∃ (d : Addr) (m : Ms), vs = [.ref d] ∧ H d = some (.dK (enc m)) ∧ (m.map (·.1)).Nodup ∧ m.length ≤ 10000 ∧
  ∀ (H' : Hp) (p : Addr) (r : Ms), Same H H' → H p = none → MsAt H' p r → Can r → (∀ j, at0 r j = at0 m j) → Q (.ref p) H'
theorem scMade : FnScope ["_law_powers", "_law_letter"] ["_law_powers"] (defScope sMade) := ⟨rfl, rfl, rfl, by decide +kernel, rfl, by decide +kernel, by decide +kernel⟩
theorem ok_made {f : Addr} {fd : FuncData} (F : Fun K "_law_made" "_law_made" sMade f fd) (mt : mg "tuple" = none) (ms : mg "sorted" = none) : FnOk P w K mg base CX0 1 f fd ["_law_powers"] spMade := by
  refine F.ok scMade (fun vs H Q E h => ?_) (fun cdv A outer s H vs Q E hr h => ?_)
  · obtain ⟨d, m, rfl, _⟩ := h
    rfl
  · obtain ⟨d, m, rfl, hd, hn, hl, q⟩ := h
    have nd := scMade.nd
    have hu := hu_of hr
    refine ⟨_, pss_one (ps_ret (pe_callTy call_tuple_of rfl mt boot_tuple (pa_cons
      (pe_lc (own := [("_law_letter", 1)]) (g := gName 1) rfl nd (pi_list (pe_callB (call_sortedDA rfl) rfl ms boot_sorted (pa_cons (pv 0) pa_nil)))
        (blkOk_by (N := ["_law_powers", "_law_letter"]) (sc := defScope sMade) (by decide +kernel)) (fun _ _ _ _ _ => pg_name (i := 1) nd rfl (Or.inl rfl))
        (fun _ _ _ _ _ => pts_one (pt_cmpR op_ne (pe_dget hu (pv 0) (pv 1) (fun _ _ => rfl)) pe_int (nomark _)))
        (fun _ _ _ _ _ => pe_tup (pa_cons (pv 1) (pa_cons (pe_dget hu (pv 0) (pv 1) (fun _ _ => rfl)) pa_nil)))) pa_nil))), ?_⟩
    (repeat (first | refine ⟨_, rfl, ?_⟩ | refine ⟨_, _, rfl, rfl, ?_⟩ | refine ⟨(by show (0 : Int) < _; decide), ?_⟩ | refine ⟨⟨by decide, by decide⟩, ?_⟩ | refine ⟨.inr (by decide), ?_⟩ | refine ⟨.inl (by decide), ?_⟩ | refine ⟨rfl, ?_⟩))
    refine ⟨d, enc m, m.map (·.1), rfl, .inl hd, encG_keys _ _, fun ys p hp hso np => ?_⟩
    have sp : Same H (upd H p (.lst (ys.map V.str))) := same_new np
    have hlen : ys.length = m.length := by rw [hp.length_eq, List.length_map]
    have fin := made_law hn hp (sortedS_pw hso)
    refine ⟨p, rfl, ⟨_, SqL.of upd_same⟩, fun D nD => ?_⟩
    have nDH : H D = none := sp.free nD
    have nDp : p ≠ D := ne_of_none upd_same nD
    refine lc_list (xs := ys.map V.str) (fun i H2 => Same H H2 ∧ H2 p = some (.lst (ys.map V.str)) ∧ ∃ ts : List Addr, H2 D = some (.lst (ts.map V.ref)) ∧ Paired (PrAt H2) ts (byKeys m (ys.take i)) ∧ ts.length ≤ i)
      ⟨sp.trans (same_new nD), upd_other upd_same nD, [], upd_same, .nil, Nat.le_refl _⟩ (fun i H2 _ z => SqL.of z.2.1) ?_ ?_
    · rintro i x H2 hx ⟨s2, hp2, ts, hD, pr, hts⟩
      obtain ⟨k, hk, rfl⟩ := at_map hx
      have hi : i < ys.length := (List.getElem?_eq_some_iff.mp hk).1
      have hm : k ∈ m.map (·.1) := hp.mem_iff.mp (List.mem_of_getElem? hk)
      refine ⟨rfl, ?_⟩
      (repeat (first | refine ⟨_, rfl, ?_⟩ | refine ⟨_, _, rfl, rfl, ?_⟩ | refine ⟨(by show (0 : Int) < _; decide), ?_⟩ | refine ⟨⟨by decide, by decide⟩, ?_⟩ | refine ⟨.inr (by decide), ?_⟩ | refine ⟨.inl (by decide), ?_⟩ | refine ⟨rfl, ?_⟩))
      refine ⟨d, _, rfl, dget_enc (s2 _ _ hd) hm, ?_⟩
      (repeat (first | refine ⟨_, rfl, ?_⟩ | refine ⟨_, _, rfl, rfl, ?_⟩ | refine ⟨(by show (0 : Int) < _; decide), ?_⟩ | refine ⟨⟨by decide, by decide⟩, ?_⟩ | refine ⟨.inr (by decide), ?_⟩ | refine ⟨.inl (by decide), ?_⟩ | refine ⟨rfl, ?_⟩))
      refine ite2 (fun e => ?_) (fun e => ?_)
      · have e1 : at0 m k ≠ 0 := by simpa using e
        (repeat (first | refine ⟨_, rfl, ?_⟩ | refine ⟨_, _, rfl, rfl, ?_⟩ | refine ⟨(by show (0 : Int) < _; decide), ?_⟩ | refine ⟨⟨by decide, by decide⟩, ?_⟩ | refine ⟨.inr (by decide), ?_⟩ | refine ⟨.inl (by decide), ?_⟩ | refine ⟨rfl, ?_⟩))
        refine ⟨d, _, rfl, dget_enc (s2 _ _ hd) hm, ?_⟩
        refine ⟨(by show 2 ≤ sizeLine; decide), fun t nt => ?_⟩
        have ntD : D ≠ t := ne_of_none hD nt
        refine ⟨_, upd_other hD nt, ?_, same_upd (s2.trans (same_new nt)) nDH, ?_, ts ++ [t], ?_, ?_, ?_⟩
        · rw [List.length_map]
          exact Nat.lt_of_le_of_lt (Nat.le_trans hts (by omega : i ≤ 10000)) (by decide)
        · rw [upd_ne nDp]
          exact upd_other hp2 nt
        · rw [upd_same, List.map_append]
          rfl
        · rw [byKeys_yes hk e1]
          exact pr_list (upd_other hD nt) (Paired.snoc (pr_same (same_new nt) pr) upd_same)
        · rw [List.length_append]
          exact Nat.add_le_add_right hts 1
      · have e1 : at0 m k = 0 := by simpa using e
        refine ⟨s2, hp2, ts, hD, ?_, by omega⟩
        rw [byKeys_no hk e1]
        exact pr
    · rintro H2 ⟨s2, hp2, ts, hD, pr, hts⟩
      (repeat (first | refine ⟨_, rfl, ?_⟩ | refine ⟨_, _, rfl, rfl, ?_⟩ | refine ⟨(by show (0 : Int) < _; decide), ?_⟩ | refine ⟨⟨by decide, by decide⟩, ?_⟩ | refine ⟨.inr (by decide), ?_⟩ | refine ⟨.inl (by decide), ?_⟩ | refine ⟨rfl, ?_⟩))
      refine ⟨D, ts.map V.ref, rfl, .inl ⟨SqL.of hD, fun l nl => ?_⟩⟩
      rw [List.length_map, List.take_length] at pr
      exact q _ l _ (s2.trans (same_new nl)) (s2.free nl) ⟨ts, upd_same, pr_same (same_new nl) pr⟩ fin.1 fin.2
end
end MK


set_option Elab.async false
set_option linter.all false
set_option maxRecDepth 100000
set_option maxHeartbeats 4000000
namespace MK
open PySem PySem.Spec PyProof.Rows L2
section
variable {P : Program} {w : World} {K : PySem.W.Frag} {mg : Str → Option Value} {base : Heap}
/-! ### _law_whole -/
def spWhole : Sp := fun vs H Q _ => ∃ n : Int, vs = [.int n] ∧ Q (.bl true) H
theorem scWhole : FnScope ["_law_found"] ["_law_found"] (defScope sWhole) := ⟨rfl, rfl, rfl, by decide +kernel, rfl, by decide +kernel, by decide +kernel⟩
theorem ok_whole {f : Addr} {fd : FuncData} (F : Fun K "_law_whole" "_law_whole" sWhole f fd) (mi : mg "isinstance" = none) (mn : mg "int" = none) (mb : mg "bool" = none) : FnOk P w K mg base CX0 1 f fd ["_law_found"] spWhole := by
  refine F.ok scWhole (fun vs H Q E h => ?_) (fun cdv A outer s H vs Q E hr h => ?_)
  · obtain ⟨n, rfl, _⟩ := h
    rfl
  · obtain ⟨n, rfl, q⟩ := h
    refine ⟨_, pss_one (ps_ret (pe_and (pe_callB call_isi (by rfl) mi PyProof.Rows.boot_isinstance (pa_cons (pv 0) (pa_cons (pe_bltn (v := .ty "int") (by rfl) mn PyProof.Rows.boot_int rfl) pa_nil)))
      (pe_one (pe_not (pe_callB call_isi (by rfl) mi PyProof.Rows.boot_isinstance (pa_cons (pv 0) (pa_cons (pe_bltn (v := .ty "bool") (by rfl) mb PyProof.Rows.boot_bool rfl) pa_nil))))))), ?_⟩
    refine ⟨_, rfl, _, _, _, _, true, rfl, .ty _, .base (.int _), kit_ty (by decide +kernel), true, rfl, iteT ?_⟩
    refine ⟨_, rfl, _, _, _, _, false, rfl, .ty _, .base (.int _), kit_ty (by decide +kernel), false, rfl, ?_⟩
    exact q
/-! ### _law_is_measure -/
def spIsM : Sp := fun vs H Q _ => ∃ (b : Addr) (m : Ms), vs = [.ref b] ∧ MsAt H b m ∧ Can m ∧ (∀ p ∈ m, LtOk p.1) ∧ Q (.bl true) H
theorem scIsM : FnScope ["_law_found", "_law_ahead", "_law_pair"] ["_law_found"] (defScope sIsM) := ⟨rfl, rfl, rfl, by decide +kernel, rfl, by decide +kernel, by decide +kernel⟩
theorem ris_next {m : Ms} (h : Ris m) {i : Nat} {p q : Str × Int} (hp : m[i]? = some p) (hq : m[i + 1]? = some q) : sLt p.1 q.1 := by
  obtain ⟨h1, e1⟩ := List.getElem?_eq_some_iff.mp hp
  obtain ⟨h2, e2⟩ := List.getElem?_eq_some_iff.mp hq
  have z := List.pairwise_iff_getElem.mp h i (i + 1) h1 h2 (Nat.lt_succ_self i)
  rw [e1, e2] at z
  exact z
theorem ok_isM {f fW : Addr} {fd fdW : FuncData} (F : Fun K "_law_is_measure" "_law_is_measure" sIsM f fd) (FW : Fun K "_law_whole" "_law_whole" sWhole fW fdW) (bW : Binds K fdW ["_law_found"] []) (gW : mg "_law_whole" = some (.ref fW))
    (mi : mg "isinstance" = none) (mn : mg "int" = none) (mb : mg "bool" = none) (mt : mg "tuple" = none) (ml : mg "len" = none) (mstr : mg "str" = none) : FnOk P w K mg base CX0 2 f fd ["_law_found"] spIsM := by
  have GW : FnOk P w K mg base CX0 1 fW fdW ["_law_found"] spWhole := ok_whole FW mi mn mb
  refine F.ok scIsM (fun vs H Q E h => ?_) (fun cdv A outer s H vs Q E hr h => ?_)
  · obtain ⟨b, m, rfl, _⟩ := h
    rfl
  · obtain ⟨b, m, rfl, ⟨ts, hb, pr⟩, hc, hne, q⟩ := h
    have nd := scIsM.nd
    refine ⟨_, pss_cons (ps_if (pt_not (pt_val (pe_callB call_isi (by rfl) mi PyProof.Rows.boot_isinstance (pa_cons (pv 0) (pa_cons (pe_bltn (v := .ty "tuple") (by rfl) mt PyProof.Rows.boot_tuple rfl) pa_nil))))) (pss_one (ps_ret pe_bl)) pss_nil)
      (pss_cons (ps_set (i := 1) nd rfl (.inl rfl) pe_str)
      (pss_cons (ps_for PassesOwn.never rfl (pi_tup (pv 0)) (pg_name (i := 2) nd rfl (.inl rfl))
        (pss_cons (ps_if (pw_or (pt_not (pt_val (pe_callB call_isi (by rfl) mi PyProof.Rows.boot_isinstance (pa_cons (pv 2) (pa_cons (pe_bltn (v := .ty "tuple") (by rfl) mt PyProof.Rows.boot_tuple rfl) pa_nil)))))
            (pw_or (pt_cmpR op_ne (pe_callB call_len_seq (by rfl) ml PySem.boot_len (pa_cons (pv 2) pa_nil)) pe_int (nomark _))
            (pw_or (pt_not (pt_val (pe_callB call_isi (by rfl) mi PyProof.Rows.boot_isinstance (pa_cons (pe_ix ix_tup (pv 2) pe_int (fun _ _ => rfl)) (pa_cons (pe_bltn (v := .ty "str") (by rfl) mstr PyProof.Rows.boot_str rfl) pa_nil)))))
            (pw_or1 (pt_not (pt_val (pe_call GW hr (by rfl) gW FW.kp bW .nil pass0 (pa_cons (pe_ix ix_tup (pv 2) pe_int (fun _ _ => rfl)) pa_nil)))))))).pt
            (pss_one (ps_ret pe_bl)) pss_nil)
        (pss_cons (ps_if (pw_or (pt_cmpR op_le_str (pe_ix ix_tup (pv 2) pe_int (fun _ _ => rfl)) (pv 1) (nomark _))
            (pw_or1 (pt_cmpR op_eq (pe_ix ix_tup (pv 2) pe_int (fun _ _ => rfl)) pe_int (nomark _)))).pt (pss_one (ps_ret pe_bl)) pss_nil)
        (pss_one (ps_set (i := 1) nd rfl (.inl rfl) (pe_ix ix_tup (pv 2) pe_int (fun _ _ => rfl)))))))
      (pss_one (ps_ret pe_bl)))), ?_⟩
    refine ⟨_, rfl, _, _, _, _, true, rfl, .ty _, .base (.tup hb), kit_ty (by decide +kernel), true, rfl, iteF ?_⟩
    (repeat (first | refine ⟨_, rfl, ?_⟩ | refine ⟨_, _, rfl, rfl, ?_⟩ | refine ⟨(by show (0 : Int) < _; decide), ?_⟩ | refine ⟨⟨by decide, by decide⟩, ?_⟩ | refine ⟨.inr (by decide), ?_⟩ | refine ⟨.inl (by decide), ?_⟩ | refine ⟨rfl, ?_⟩))
    refine ⟨⟨_, SqT.of hb⟩, for_tup (xs := ts.map V.ref) (fun i σ H2 => H2 = H ∧ ∃ (ah : Str) (v2 : Option V), σ = [some (.ref b), some (.str ah), v2] ∧ ∀ p, m[i]? = some p → sLt ah p.1)
      ⟨rfl, _, none, rfl, fun p hp => nil_lt (hne p (List.mem_of_getElem? hp)).1⟩ (fun i σ H2 _ z => by rw [z.1]; exact SqT.of hb) ?_ ?_⟩
    · rintro i x σ H2 hx ⟨rfl, ah, v2, rfl, hah⟩
      obtain ⟨t, ht, rfl⟩ := at_map hx
      obtain ⟨p, hp, hpt⟩ := paired_ix pr ht
      have hT : H2 t = some (.tup [.str p.1, .int p.2]) := hpt
      have hlt := hah p hp
      have i0 : atI [V.str p.1, V.int p.2] 0 = some (.str p.1) := rfl
      have i1 : atI [V.str p.1, V.int p.2] 1 = some (.int p.2) := rfl
      refine ⟨_, rfl, _, _, _, _, true, rfl, .ty _, .base (.tup hT), kit_ty (by decide +kernel), true, rfl, iteF ?_⟩
      (repeat (first | refine ⟨_, rfl, ?_⟩ | refine ⟨_, _, rfl, rfl, ?_⟩ | refine ⟨(by show (0 : Int) < _; decide), ?_⟩ | refine ⟨⟨by decide, by decide⟩, ?_⟩ | refine ⟨.inr (by decide), ?_⟩ | refine ⟨.inl (by decide), ?_⟩ | refine ⟨rfl, ?_⟩))
      refine ⟨t, _, rfl, .inr (SqT.of hT), ?_⟩
      (repeat (first | refine ⟨_, rfl, ?_⟩ | refine ⟨_, _, rfl, rfl, ?_⟩ | refine ⟨(by show (0 : Int) < _; decide), ?_⟩ | refine ⟨⟨by decide, by decide⟩, ?_⟩ | refine ⟨.inr (by decide), ?_⟩ | refine ⟨.inl (by decide), ?_⟩ | refine ⟨rfl, ?_⟩))
      refine ⟨t, _, 0, _, rfl, rfl, SqT.of hT, i0, ?_⟩
      refine ⟨_, _, _, _, true, rfl, .ty _, .base (.str _), kit_ty (by decide +kernel), true, rfl, iteF ?_⟩
      (repeat (first | refine ⟨_, rfl, ?_⟩ | refine ⟨_, _, rfl, rfl, ?_⟩ | refine ⟨(by show (0 : Int) < _; decide), ?_⟩ | refine ⟨⟨by decide, by decide⟩, ?_⟩ | refine ⟨.inr (by decide), ?_⟩ | refine ⟨.inl (by decide), ?_⟩ | refine ⟨rfl, ?_⟩))
      refine ⟨t, _, 1, _, rfl, rfl, SqT.of hT, i1, _, rfl, true, rfl, iteF ?_⟩
      -- pair[0] <= ahead or pair[1] == 0
      (repeat (first | refine ⟨_, rfl, ?_⟩ | refine ⟨_, _, rfl, rfl, ?_⟩ | refine ⟨(by show (0 : Int) < _; decide), ?_⟩ | refine ⟨⟨by decide, by decide⟩, ?_⟩ | refine ⟨.inr (by decide), ?_⟩ | refine ⟨.inl (by decide), ?_⟩ | refine ⟨rfl, ?_⟩))
      refine ⟨t, _, 0, _, rfl, rfl, SqT.of hT, i0, _, rfl, _, _, rfl, rfl, _, rfl, ?_⟩
      rw [decide_eq_true hlt]
      refine iteF ?_
      (repeat (first | refine ⟨_, rfl, ?_⟩ | refine ⟨_, _, rfl, rfl, ?_⟩ | refine ⟨(by show (0 : Int) < _; decide), ?_⟩ | refine ⟨⟨by decide, by decide⟩, ?_⟩ | refine ⟨.inr (by decide), ?_⟩ | refine ⟨.inl (by decide), ?_⟩ | refine ⟨rfl, ?_⟩))
      refine ⟨t, _, 1, _, rfl, rfl, SqT.of hT, i1, rfl, _, rfl, ?_⟩
      have nz : p.2 ≠ 0 := hc.nz p (List.mem_of_getElem? hp)
      rw [show decide (V.int p.2 = V.int 0) = false from decide_eq_false fun z => nz (V.int.inj z)]
      refine iteF ?_
      (repeat (first | refine ⟨_, rfl, ?_⟩ | refine ⟨_, _, rfl, rfl, ?_⟩ | refine ⟨(by show (0 : Int) < _; decide), ?_⟩ | refine ⟨⟨by decide, by decide⟩, ?_⟩ | refine ⟨.inr (by decide), ?_⟩ | refine ⟨.inl (by decide), ?_⟩ | refine ⟨rfl, ?_⟩))
      refine ⟨t, _, 0, _, rfl, rfl, SqT.of hT, i0, rfl, _, _, rfl, fun p' hp' => ris_next hc.ris hp hp'⟩
    · rintro σ H2 ⟨rfl, ah, v2, rfl, hah⟩
      exact q
end
end MK


set_option Elab.async false
set_option linter.all false
set_option maxRecDepth 100000
set_option maxHeartbeats 4000000
namespace MK
open PySem PySem.Spec PyProof.Rows L2
section
variable {P : Program} {w : World} {K : PySem.W.Frag} {mg : Str → Option Value} {base : Heap}
/-! ### _law_letters -/
theorem wd_ne {b : Nat} {z : Str} (h : Wd b z) : LtOk z := ⟨fun e => by
  have h1 : 1 ≤ z.cps.size := h.1
  rw [← Array.length_toList, e] at h1
  exact absurd h1 (by decide), h.2.2⟩
theorem num_len {i : Int} (h : i.natAbs < 2 ^ 60) : (toString i : Str).length ≤ 1921 := int_text_len_1921 (Nat.lt_of_lt_of_le (PySem.Flt.log2_lt_of (by decide) h) (by decide))
def spLetters : Sp := fun vs H Q _ => ∃ (c n : Int), vs = [.int c, .int n] ∧ 0 ≤ c ∧ 1 ≤ n ∧ n ≤ 100 ∧
  ∀ (H' : Hp) (p : Addr) (ws : List Str), Same H H' → H p = none → H' p = some (.lst (ws.map V.str)) → ws ≠ [] → ws.length ≤ 1000 → (∀ z ∈ ws, LtOk z) → Q (.ref p) H'
theorem scLetters : FnScope ["_law_cell", "_law_many", "_law_words_here", "_law_found", "_law_k", "_law_number"] ["_law_cell", "_law_many"] (defScope sLetters) := ⟨rfl, rfl, rfl, by decide +kernel, rfl, by decide +kernel, by decide +kernel⟩
theorem two_at {a b : V} {i : Int} (h0 : 0 ≤ i) (h1 : i < 2) : ∃ v, atI [a, b] i = some v ∧ (v = a ∨ v = b) := by
  have : i = 0 ∨ i = 1 := by omega
  rcases this with rfl | rfl
  · exact ⟨a, rfl, .inl rfl⟩
  · exact ⟨b, rfl, .inr rfl⟩
theorem ok_letters {f fW : Addr} {fd fdW : FuncData} (F : Fun K "_law_letters" "_law_letters" sLetters f fd) (FW : Fun K "_law_words" "_law_words" sWords fW fdW) (bW : Binds K fdW ["_law_cell", "_law_many"] []) (gW : mg "_law_words" = some (.ref fW))
    (mr : mg "range" = none) (mstr : mg "str" = none) : FnOk P w K mg base CX0 2 f fd ["_law_cell", "_law_many"] spLetters := by
  have GW : FnOk P w K mg base CX0 1 fW fdW ["_law_cell", "_law_many"] spWords := ok_words FW mr
  refine F.ok scLetters (fun vs H Q E h => ?_) (fun cdv A outer s H vs Q E hr h => ?_)
  · obtain ⟨c, n, rfl, _⟩ := h
    rfl
  · obtain ⟨c, n, rfl, h0, hn1, hn, q⟩ := h
    have nd := scLetters.nd
    refine ⟨_, pss_cons (ps_set (i := 2) nd rfl (.inl rfl) (pe_call GW hr (by rfl) gW FW.kp bW .nil pass0 (pa_cons (pv 0) (pa_cons pe_int pa_nil))))
      (pss_cons (ps_set (i := 3) nd rfl (.inl rfl) (pe_lst pa_nil))
      (pss_cons (ps_for PassesOwn.never rfl (pi_range1 rfl mr (pa_cons (pv 1) pa_nil)) (pg_name (i := 4) nd rfl (.inl rfl))
        (pss_cons (ps_expr (pe_bm PySem.F.plainAttrs_list PySem.F.slot_list_append PySem.F.type_list_append mt_append (pv 3) (pa_cons
            (pe_op op_add_str (pe_ix ix_list (pe_lst (pa_cons pe_str (pa_cons pe_str pa_nil))) (pe_op op_mod (pv 4) pe_int) (fun _ _ => rfl)) (pe_ix ix_list (pv 2) (pe_op op_mod (pv 4) pe_int) (fun _ _ => rfl))) pa_nil)))
        (pss_cons (ps_set (i := 5) nd rfl (.inl rfl) (pe_ix ix_list (pe_lst (pa_cons (pv 4) (pa_cons (pe_op op_add (pe_op op_mul (pv 4) (pe_op op_pow pe_int pe_int)) (pe_op op_mod (pv 0) (pe_op op_pow pe_int pe_int))) pa_nil))) (pe_op op_mod (pv 0) pe_int) (fun _ _ => rfl)))
        (pss_one (ps_expr (pe_bm PySem.F.plainAttrs_list PySem.F.slot_list_append PySem.F.type_list_append mt_append (pv 3) (pa_cons
            (pe_op op_add_str (pe_ix ix_list (pe_lst (pa_cons pe_str (pa_cons pe_str pa_nil))) (pe_op op_mod (pv 4) pe_int) (fun _ _ => rfl)) (pe_callTy call_str_int (by rfl) mstr PyProof.Rows.boot_str (pa_cons (pv 5) pa_nil))) pa_nil)))))))
      (pss_one (ps_ret (pv 3))))), ?_⟩
    (repeat (first | refine ⟨_, rfl, ?_⟩ | refine ⟨_, _, rfl, rfl, ?_⟩ | refine ⟨(by show (0 : Int) < _; decide), ?_⟩ | refine ⟨⟨by decide, by decide⟩, ?_⟩ | refine ⟨.inr (by decide), ?_⟩ | refine ⟨.inl (by decide), ?_⟩ | refine ⟨rfl, ?_⟩))
    refine ⟨c, 26, rfl, h0, by decide, fun H1 p ws s1 np hp hl hw => ?_⟩
    (repeat (first | refine ⟨_, rfl, ?_⟩ | refine ⟨_, _, rfl, rfl, ?_⟩ | refine ⟨(by show (0 : Int) < _; decide), ?_⟩ | refine ⟨⟨by decide, by decide⟩, ?_⟩ | refine ⟨.inr (by decide), ?_⟩ | refine ⟨.inl (by decide), ?_⟩ | refine ⟨rfl, ?_⟩))
    refine ⟨Nat.zero_le _, fun o no => ?_⟩
    have s2 : Same H (upd H1 o (.lst [])) := s1.trans (same_new no)
    have noH : H o = none := s1.free no
    have npo : p ≠ o := ne_of_none hp no
    (repeat (first | refine ⟨_, rfl, ?_⟩ | refine ⟨_, _, rfl, rfl, ?_⟩ | refine ⟨(by show (0 : Int) < _; decide), ?_⟩ | refine ⟨⟨by decide, by decide⟩, ?_⟩ | refine ⟨.inr (by decide), ?_⟩ | refine ⟨.inl (by decide), ?_⟩ | refine ⟨rfl, ?_⟩))
    refine ⟨(by omega), (by omega), ?_⟩
    refine for_range (n := n.toNat) (fun i σ H2 => ∃ (v4 v5 : Option V) (xs : List Str), σ = [some (.int c), some (.int n), some (.ref p), some (.ref o), v4, v5] ∧ Same H H2 ∧ H2 p = some (.lst (ws.map V.str)) ∧ H2 o = some (.lst (xs.map V.str)) ∧ xs.length = 2 * i ∧ ∀ z ∈ xs, LtOk z)
      ⟨none, none, [], rfl, s2, upd_other hp no, upd_same, rfl, fun z hz => absurd hz (by simp)⟩ ?_ ?_
    · rintro i σ H2 hi ⟨v4, v5, xs, rfl, sm, hp2, ho2, hx, hxs⟩
      (repeat (first | refine ⟨_, rfl, ?_⟩ | refine ⟨_, _, rfl, rfl, ?_⟩ | refine ⟨(by show (0 : Int) < _; decide), ?_⟩ | refine ⟨⟨by decide, by decide⟩, ?_⟩ | refine ⟨.inr (by decide), ?_⟩ | refine ⟨.inl (by decide), ?_⟩ | refine ⟨rfl, ?_⟩))
      refine ⟨.inl ⟨rfl, _, .inl (.inl ho2)⟩, ?_⟩
      have k0 : (0 : Int) ≤ (0 + (i : Int)) % 2 := Int.emod_nonneg _ (by decide)
      have k1 : (0 + (i : Int)) % 2 < 2 := Int.emod_lt_of_pos _ (by decide)
      have k2 : (0 : Int) ≤ (0 + (i : Int)) % 26 := Int.emod_nonneg _ (by decide)
      have k3 : (0 + (i : Int)) % 26 < 26 := Int.emod_lt_of_pos _ (by decide)
      -- found.append(['', '='][k % 2] + words_here[k % 26])
      refine ⟨(by show 2 ≤ sizeLine; decide), fun l nl => ?_⟩
      (repeat (first | refine ⟨_, rfl, ?_⟩ | refine ⟨_, _, rfl, rfl, ?_⟩ | refine ⟨(by show (0 : Int) < _; decide), ?_⟩ | refine ⟨⟨by decide, by decide⟩, ?_⟩ | refine ⟨.inr (by decide), ?_⟩ | refine ⟨.inl (by decide), ?_⟩ | refine ⟨rfl, ?_⟩))
      obtain ⟨u1, hu1, hu1'⟩ := two_at (a := V.str "") (b := V.str "=") k0 k1
      obtain ⟨z1, rfl, hz1, hz1O⟩ : ∃ z : Str, u1 = .str z ∧ z.length ≤ 1 ∧ Ok z := by
        rcases hu1' with e | e
        · exact ⟨_, e, by decide, ok_string _⟩
        · exact ⟨_, e, by decide, ok_string _⟩
      refine ⟨l, _, _, _, rfl, rfl, SqL.of upd_same, hu1, ?_⟩
      (repeat (first | refine ⟨_, rfl, ?_⟩ | refine ⟨_, _, rfl, rfl, ?_⟩ | refine ⟨(by show (0 : Int) < _; decide), ?_⟩ | refine ⟨⟨by decide, by decide⟩, ?_⟩ | refine ⟨.inr (by decide), ?_⟩ | refine ⟨.inl (by decide), ?_⟩ | refine ⟨rfl, ?_⟩))
      obtain ⟨j26, ej⟩ := Int.eq_ofNat_of_zero_le k2
      have hj26 : j26 < ws.length := by omega
      have hwj := hw _ (List.getElem_mem hj26)
      refine ⟨p, _, _, .str ws[j26], rfl, rfl, SqL.of (upd_other hp2 nl), at_of ej (by rw [List.getElem?_map, List.getElem?_eq_getElem hj26]; rfl), ?_⟩
      (repeat (first | refine ⟨_, rfl, ?_⟩ | refine ⟨_, _, rfl, rfl, ?_⟩ | refine ⟨(by show (0 : Int) < _; decide), ?_⟩ | refine ⟨⟨by decide, by decide⟩, ?_⟩ | refine ⟨.inr (by decide), ?_⟩ | refine ⟨.inl (by decide), ?_⟩ | refine ⟨rfl, ?_⟩))
      have hl2 := hwj.2.1
      have hl1 := hwj.1
      refine ⟨szl (by omega), ?_⟩
      have ho3 : (upd H2 l (.lst [V.str "", V.str "="])) o = some (.lst (xs.map V.str)) := upd_other ho2 nl
      refine ⟨o, _, _, rfl, rfl, ho3, (by rw [List.length_map]; exact small1000 (by omega)), ?_⟩
      generalize hH3 : upd (upd H2 l (.lst [V.str "", V.str "="])) o (.lst (xs.map V.str ++ [V.str (z1 ++ ws[j26])])) = H3
      have sm3 : Same H H3 := by
        rw [← hH3]
        exact same_upd (sm.trans (same_new nl)) noH
      have hp3 : H3 p = some (.lst (ws.map V.str)) := by
        rw [← hH3, upd_ne npo]
        exact upd_other hp2 nl
      have ho4 : H3 o = some (.lst ((xs ++ [z1 ++ ws[j26]]).map V.str)) := by
        rw [← hH3, upd_same, List.map_append]
        rfl
      -- number = [k, k * 10 ** 9 + cell % 10 ** 9][cell % 2]
      have c0 : (0 : Int) ≤ c % 2 := Int.emod_nonneg _ (by decide)
      have c1 : c % 2 < 2 := Int.emod_lt_of_pos _ (by decide)
      have c2 : (0 : Int) ≤ c % 10 ^ 9 := Int.emod_nonneg _ (by decide)
      have c3 : c % 10 ^ 9 < 10 ^ 9 := Int.emod_lt_of_pos _ (by decide)
      (repeat (first | refine ⟨_, rfl, ?_⟩ | refine ⟨_, _, rfl, rfl, ?_⟩ | refine ⟨(by show (0 : Int) < _; decide), ?_⟩ | refine ⟨⟨by decide, by decide⟩, ?_⟩ | refine ⟨.inr (by decide), ?_⟩ | refine ⟨.inl (by decide), ?_⟩ | refine ⟨rfl, ?_⟩))
      refine ⟨(by show 2 ≤ sizeLine; decide), fun l2 nl2 => ?_⟩
      (repeat (first | refine ⟨_, rfl, ?_⟩ | refine ⟨_, _, rfl, rfl, ?_⟩ | refine ⟨(by show (0 : Int) < _; decide), ?_⟩ | refine ⟨⟨by decide, by decide⟩, ?_⟩ | refine ⟨.inr (by decide), ?_⟩ | refine ⟨.inl (by decide), ?_⟩ | refine ⟨rfl, ?_⟩))
      obtain ⟨u2, hu2, hu2'⟩ := two_at (a := V.int (0 + (i : Int))) (b := V.int ((0 + (i : Int)) * 10 ^ 9 + c % 10 ^ 9)) c0 c1
      obtain ⟨z2, rfl, hz2⟩ : ∃ z : Int, u2 = .int z ∧ z.natAbs < 2 ^ 60 := by
        rcases hu2' with e | e
        · exact ⟨_, e, by omega⟩
        · exact ⟨_, e, by omega⟩
      refine ⟨l2, _, _, _, rfl, rfl, SqL.of upd_same, hu2, ?_⟩
      (repeat (first | refine ⟨_, rfl, ?_⟩ | refine ⟨_, _, rfl, rfl, ?_⟩ | refine ⟨(by show (0 : Int) < _; decide), ?_⟩ | refine ⟨⟨by decide, by decide⟩, ?_⟩ | refine ⟨.inr (by decide), ?_⟩ | refine ⟨.inl (by decide), ?_⟩ | refine ⟨rfl, ?_⟩))
      -- found.append(['0', '?'][k % 2] + str(number))
      refine ⟨.inl ⟨rfl, _, .inl (.inl (upd_other ho4 nl2))⟩, ?_⟩
      refine ⟨(by show 2 ≤ sizeLine; decide), fun l3 nl3 => ?_⟩
      (repeat (first | refine ⟨_, rfl, ?_⟩ | refine ⟨_, _, rfl, rfl, ?_⟩ | refine ⟨(by show (0 : Int) < _; decide), ?_⟩ | refine ⟨⟨by decide, by decide⟩, ?_⟩ | refine ⟨.inr (by decide), ?_⟩ | refine ⟨.inl (by decide), ?_⟩ | refine ⟨rfl, ?_⟩))
      obtain ⟨u3, hu3, hu3'⟩ := two_at (a := V.str "0") (b := V.str "?") k0 k1
      obtain ⟨z3, rfl, hz3, hz3', hz3O⟩ : ∃ z : Str, u3 = .str z ∧ z.length ≤ 1 ∧ 1 ≤ z.length ∧ Ok z := by
        rcases hu3' with e | e
        · exact ⟨_, e, by decide, by decide, ok_string _⟩
        · exact ⟨_, e, by decide, by decide, ok_string _⟩
      refine ⟨l3, _, _, _, rfl, rfl, SqL.of upd_same, hu3, ?_⟩
      (repeat (first | refine ⟨_, rfl, ?_⟩ | refine ⟨_, _, rfl, rfl, ?_⟩ | refine ⟨(by show (0 : Int) < _; decide), ?_⟩ | refine ⟨⟨by decide, by decide⟩, ?_⟩ | refine ⟨.inr (by decide), ?_⟩ | refine ⟨.inl (by decide), ?_⟩ | refine ⟨rfl, ?_⟩))
      refine ⟨Nat.lt_of_lt_of_le (PySem.Flt.log2_lt_of (by decide) hz2) (by decide), ?_⟩
      (repeat (first | refine ⟨_, rfl, ?_⟩ | refine ⟨_, _, rfl, rfl, ?_⟩ | refine ⟨(by show (0 : Int) < _; decide), ?_⟩ | refine ⟨⟨by decide, by decide⟩, ?_⟩ | refine ⟨.inr (by decide), ?_⟩ | refine ⟨.inl (by decide), ?_⟩ | refine ⟨rfl, ?_⟩))
      have hnl := num_len hz2
      refine ⟨Nat.le_trans (show _ ≤ 2000 by omega) (by decide), ?_⟩
      refine ⟨o, _, _, rfl, rfl, upd_other (upd_other ho4 nl2) nl3, (by rw [List.length_map, List.length_append, hx]; exact small1000 (by show 2 * i + 1 ≤ 1000; omega)), ?_⟩
      refine ⟨_, _, xs ++ [z1 ++ ws[j26]] ++ [z3 ++ toString z2], rfl, ?_, ?_, ?_, ?_, ?_⟩
      · exact same_upd ((sm3.trans (same_new nl2)).trans (same_new nl3)) noH
      · rw [upd_ne npo]
        exact upd_other (upd_other hp3 nl2) nl3
      · rw [upd_same]
        refine congrArg (fun z => some (HO.lst z)) ?_
        rw [List.map_append (l₁ := xs ++ [z1 ++ ws[j26]])]
        rfl
      · rw [List.length_append, List.length_append, hx]
        show 2 * i + 1 + 1 = _
        omega
      · intro z hz
        rcases List.mem_append.mp hz with hz | hz
        · rcases List.mem_append.mp hz with hz | hz
          · exact hxs z hz
          · rw [List.mem_singleton.mp hz]
            exact wd_ne (b := 1000) ⟨by rw [app_len]; omega, by rw [app_len]; omega, ok_app hz1O hwj.2.2⟩
        · rw [List.mem_singleton.mp hz]
          exact wd_ne (b := 10000) ⟨by rw [app_len]; omega, by rw [app_len]; omega, ok_app hz3O (ok_string _)⟩
    · rintro σ H2 ⟨v4, v5, xs, rfl, sm, hp2, ho2, hx, hxs⟩
      (repeat (first | refine ⟨_, rfl, ?_⟩ | refine ⟨_, _, rfl, rfl, ?_⟩ | refine ⟨(by show (0 : Int) < _; decide), ?_⟩ | refine ⟨⟨by decide, by decide⟩, ?_⟩ | refine ⟨.inr (by decide), ?_⟩ | refine ⟨.inl (by decide), ?_⟩ | refine ⟨rfl, ?_⟩))
      refine q H2 o xs sm noH ho2 (fun e => ?_) (by omega) hxs
      rw [e] at hx
      have : (0 : Nat) = 2 * n.toNat := hx
      omega
/-! ### _law_measure -/
def spMeasure : Sp := fun vs H Q _ => ∃ (c : Int) (a : Addr) (ws : List Str), vs = [.int c, .ref a] ∧ 0 ≤ c ∧ H a = some (.lst (ws.map V.str)) ∧ ws ≠ [] ∧ ws.length ≤ 1000 ∧ (∀ z ∈ ws, LtOk z) ∧
  ∀ (H' : Hp) (p : Addr) (r : Ms), Same H H' → H p = none → MsAt H' p r → Good 67 r → (∀ x ∈ r, x.1 ∈ ws) → r.length ≤ 60 → Q (.ref p) H'
theorem scMeasure : FnScope ["_law_cell", "_law_letters_here", "_law_powers", "_law_k", "_law_more", "_law_letter"] ["_law_cell", "_law_letters_here"] (defScope sMeasure) := ⟨rfl, rfl, rfl, by decide +kernel, rfl, by decide +kernel, by decide +kernel⟩
/-- what a dict of powers gives, when made -/
theorem made_good {b : Nat} {m r : Ms} (hn : (m.map (·.1)).Nodup) (hc : Can r) (he : ∀ j, at0 r j = at0 m j) (h1 : ∀ p ∈ m, LtOk p.1) (h2 : ∀ p ∈ m, p.2.natAbs < 2 ^ b) (h3 : m.length ≤ 1000) : Good b r ∧ ∀ x ∈ r, x ∈ m := by
  have sub : ∀ x ∈ r, x ∈ m := fun x hx => by
    have q := (hc.mem x.1 x.2).mp hx
    have q2 : at0 m x.1 = x.2 := by rw [← he]; exact q.2
    have q3 := at0_mem (m := m) (j := x.1) (by rw [q2]; exact q.1)
    rw [q2] at q3
    exact q3
  refine ⟨⟨hc, fun p hp => h1 p (sub p hp), fun p hp => h2 p (sub p hp), ?_⟩, sub⟩
  refine Nat.le_trans ?_ h3
  exact List.Nodup.length_le_of_subset (nodup_of_map hc.ris.nodup) sub
theorem ok_measure {f fX fP fM : Addr} {fd fdX fdP fdM : FuncData} (F : Fun K "_law_measure" "_law_measure" sMeasure f fd) (FX : Fun K "_law_mix" "_law_mix" sMix fX fdX) (bX : Binds K fdX ["_law_cell", "_law_k"] []) (gX : mg "_law_mix" = some (.ref fX))
    (FP : Fun K "_law_power" "_law_power" sPower fP fdP) (bP : Binds K fdP ["_law_cell"] []) (gP : mg "_law_power" = some (.ref fP)) (FM : Fun K "_law_made" "_law_made" sMade fM fdM) (bM : Binds K fdM ["_law_powers"] []) (gM : mg "_law_made" = some (.ref fM))
    (mr : mg "range" = none) (ml : mg "len" = none) (mt : mg "tuple" = none) (ms : mg "sorted" = none) : FnOk P w K mg base CX0 2 f fd ["_law_cell", "_law_letters_here"] spMeasure := by
  have GX : FnOk P w K mg base CX0 1 fX fdX ["_law_cell", "_law_k"] spMix := ok_mix FX
  have GP : FnOk P w K mg base CX0 1 fP fdP ["_law_cell"] spPower := ok_power FP
  have GM : FnOk P w K mg base CX0 1 fM fdM ["_law_powers"] spMade := ok_made FM mt ms
  refine F.ok scMeasure (fun vs H Q E h => ?_) (fun cdv A outer s H vs Q E hr h => ?_)
  · obtain ⟨c, a, ws, rfl, _⟩ := h
    rfl
  · obtain ⟨c, a, ws, rfl, h0, ha, hw0, hwl, hw, q⟩ := h
    have nd := scMeasure.nd
    have hu := hu_of hr
    refine ⟨_, pss_cons (ps_set (i := 2) nd rfl (.inl rfl) pe_dnewK)
      (pss_cons (ps_for PassesOwn.never rfl (pi_range1 rfl mr (pa_cons (pe_ix ix_list (pe_lst (pa_cons (pe_op op_mod (pv 0) pe_int) (pa_cons (pe_op op_mod (pv 0) pe_int) pa_nil))) (pe_op op_fdiv (pe_op op_mod (pe_op op_fdiv (pv 0) pe_int) pe_int) pe_int) (fun _ _ => rfl)) pa_nil)) (pg_name (i := 3) nd rfl (.inl rfl))
        (pss_cons (ps_set (i := 4) nd rfl (.inl rfl) (pe_call GX hr (by rfl) gX FX.kp bX .nil pass0 (pa_cons (pv 0) (pa_cons (pv 3) pa_nil))))
        (pss_cons (ps_set (i := 5) nd rfl (.inl rfl) (pe_ix ix_list (pv 1) (pe_op op_mod (pv 4) (pe_callB call_len_seq (by rfl) ml PySem.boot_len (pa_cons (pv 1) pa_nil))) (fun _ _ => rfl)))
        (pss_one (ps_dput hu (pv 2) (pv 5) (pe_call GP hr (by rfl) gP FP.kp bP .nil pass0 (pa_cons (pe_op op_fdiv (pv 4) (pe_callB call_len_seq (by rfl) ml PySem.boot_len (pa_cons (pv 1) pa_nil))) pa_nil)) rfl)))))
      (pss_one (ps_ret (pe_call GM hr (by rfl) gM FM.kp bM .nil pass0 (pa_cons (pv 2) pa_nil))))), ?_⟩
    intro d nd0
    have c0 : (0 : Int) ≤ c / 60 % 8 / 7 := by omega
    have c1 : c / 60 % 8 / 7 < 2 := by omega
    (repeat (first | refine ⟨_, rfl, ?_⟩ | refine ⟨_, _, rfl, rfl, ?_⟩ | refine ⟨(by show (0 : Int) < _; decide), ?_⟩ | refine ⟨⟨by decide, by decide⟩, ?_⟩ | refine ⟨.inr (by decide), ?_⟩ | refine ⟨.inl (by decide), ?_⟩ | refine ⟨rfl, ?_⟩))
    refine ⟨(by show 2 ≤ sizeLine; decide), fun l nl => ?_⟩
    (repeat (first | refine ⟨_, rfl, ?_⟩ | refine ⟨_, _, rfl, rfl, ?_⟩ | refine ⟨(by show (0 : Int) < _; decide), ?_⟩ | refine ⟨⟨by decide, by decide⟩, ?_⟩ | refine ⟨.inr (by decide), ?_⟩ | refine ⟨.inl (by decide), ?_⟩ | refine ⟨rfl, ?_⟩))
    obtain ⟨u, hu1, hu2⟩ := two_at (a := V.int (c % 5)) (b := V.int (c % 60)) c0 c1
    obtain ⟨z, rfl, hz0, hz1⟩ : ∃ z : Int, u = .int z ∧ 0 ≤ z ∧ z < 60 := by
      rcases hu2 with e | e
      · exact ⟨_, e, by omega, by omega⟩
      · exact ⟨_, e, by omega, by omega⟩
    refine ⟨l, _, _, _, rfl, rfl, SqL.of upd_same, hu1, ?_⟩
    (repeat (first | refine ⟨_, rfl, ?_⟩ | refine ⟨_, _, rfl, rfl, ?_⟩ | refine ⟨(by show (0 : Int) < _; decide), ?_⟩ | refine ⟨⟨by decide, by decide⟩, ?_⟩ | refine ⟨.inr (by decide), ?_⟩ | refine ⟨.inl (by decide), ?_⟩ | refine ⟨rfl, ?_⟩))
    refine ⟨(by omega), (by omega), ?_⟩
    have ha1 : (upd (upd H d (.dK [])) l (.lst [V.int (c % 5), V.int (c % 60)])) a = some (.lst (ws.map V.str)) := upd_other (upd_other ha nd0) nl
    refine for_range (n := z.toNat) (fun i σ H2 => ∃ (v3 v4 v5 : Option V) (m : Ms), σ = [some (.int c), some (.ref a), some (.ref d), v3, v4, v5] ∧ Same H H2 ∧ H2 d = some (.dK (enc m)) ∧ (m.map (·.1)).Nodup ∧ m.length ≤ i ∧ (∀ p ∈ m, p.1 ∈ ws) ∧ ∀ p ∈ m, p.2.natAbs < 2 ^ 67)
      ⟨none, none, none, [], rfl, (same_new nd0).trans (same_new nl), upd_other upd_same nl, List.nodup_nil, Nat.le_refl _, (fun p hp => absurd hp (by simp)), (fun p hp => absurd hp (by simp))⟩ ?_ ?_
    · rintro i σ H2 hi ⟨v3, v4, v5, m, rfl, sm, hd, hn, hml, hmw, hmb⟩
      (repeat (first | refine ⟨_, rfl, ?_⟩ | refine ⟨_, _, rfl, rfl, ?_⟩ | refine ⟨(by show (0 : Int) < _; decide), ?_⟩ | refine ⟨⟨by decide, by decide⟩, ?_⟩ | refine ⟨.inr (by decide), ?_⟩ | refine ⟨.inl (by decide), ?_⟩ | refine ⟨rfl, ?_⟩))
      refine ⟨c, 0 + (i : Int), rfl, fun x hx0 hx1 => ?_⟩
      (repeat (first | refine ⟨_, rfl, ?_⟩ | refine ⟨_, _, rfl, rfl, ?_⟩ | refine ⟨(by show (0 : Int) < _; decide), ?_⟩ | refine ⟨⟨by decide, by decide⟩, ?_⟩ | refine ⟨.inr (by decide), ?_⟩ | refine ⟨.inl (by decide), ?_⟩ | refine ⟨rfl, ?_⟩))
      have haH := sm _ _ ha
      have hwlen : (0 : Int) < ((ws.map V.str).length : Int) := by
        rw [List.length_map]
        have := List.length_pos_iff.mpr hw0
        omega
      have hwlen2 : ((ws.map V.str).length : Int) ≤ 1000 := by
        rw [List.length_map]
        omega
      refine ⟨a, _, rfl, .inl (SqL.of haH), ?_⟩
      refine ⟨_, _, rfl, rfl, hwlen, ?_⟩
      obtain ⟨jj, ej⟩ := Int.eq_ofNat_of_zero_le (Int.emod_nonneg x (show ((ws.map V.str).length : Int) ≠ 0 by omega))
      have hjj : jj < ws.length := by
        have := Int.emod_lt_of_pos x hwlen
        rw [List.length_map] at this ej
        omega
      refine ⟨a, _, _, .str ws[jj], rfl, rfl, SqL.of haH, at_of ej (by rw [List.getElem?_map, List.getElem?_eq_getElem hjj]; rfl), ?_⟩
      (repeat (first | refine ⟨_, rfl, ?_⟩ | refine ⟨_, _, rfl, rfl, ?_⟩ | refine ⟨(by show (0 : Int) < _; decide), ?_⟩ | refine ⟨⟨by decide, by decide⟩, ?_⟩ | refine ⟨.inr (by decide), ?_⟩ | refine ⟨.inl (by decide), ?_⟩ | refine ⟨rfl, ?_⟩))
      refine ⟨a, _, rfl, .inl (SqL.of haH), ?_⟩
      refine ⟨_, _, rfl, rfl, ⟨hwlen, by omega⟩, ?_⟩
      have hq0 : 0 ≤ x / ((ws.map V.str).length : Int) := Int.ediv_nonneg hx0 (by omega)
      have hq1 : x / ((ws.map V.str).length : Int) ≤ x := Int.ediv_le_self _ hx0
      refine ⟨_, rfl, hq0, by omega, fun y hy => ?_⟩
      (repeat (first | refine ⟨_, rfl, ?_⟩ | refine ⟨_, _, rfl, rfl, ?_⟩ | refine ⟨(by show (0 : Int) < _; decide), ?_⟩ | refine ⟨⟨by decide, by decide⟩, ?_⟩ | refine ⟨.inr (by decide), ?_⟩ | refine ⟨.inl (by decide), ?_⟩ | refine ⟨rfl, ?_⟩))
      refine ⟨d, _, rfl, dput_enc hd hn (small1000 (by omega)), ?_⟩
      refine ⟨_, _, _, put m ws[jj] y, rfl, same_upd sm nd0, upd_same, put_nodup _ _ hn, Nat.le_trans (put_len _ _ _) (by omega), ?_, ?_⟩
      · intro p hp
        rcases put_mem hp with e | e
        · rw [e]; exact List.getElem_mem hjj
        · exact hmw p e
      · intro p hp
        rcases put_mem hp with e | e
        · rw [e]; exact hy
        · exact hmb p e
    · rintro σ H2 ⟨v3, v4, v5, m, rfl, sm, hd, hn, hml, hmw, hmb⟩
      (repeat (first | refine ⟨_, rfl, ?_⟩ | refine ⟨_, _, rfl, rfl, ?_⟩ | refine ⟨(by show (0 : Int) < _; decide), ?_⟩ | refine ⟨⟨by decide, by decide⟩, ?_⟩ | refine ⟨.inr (by decide), ?_⟩ | refine ⟨.inl (by decide), ?_⟩ | refine ⟨rfl, ?_⟩))
      refine ⟨d, m, rfl, hd, hn, by omega, fun H3 p r s3 np hp hc he => ?_⟩
      obtain ⟨g1, g2⟩ := made_good hn hc he (fun p hp => hw _ (hmw p hp)) hmb (by omega)
      exact q H3 p r (sm.trans s3) (sm.free np) hp g1 (fun x hx => hmw x (g2 x hx)) (Nat.le_trans (List.Nodup.length_le_of_subset (nodup_of_map hc.ris.nodup) g2) (by omega))
end
end MK


set_option Elab.async false
set_option linter.all false
set_option maxRecDepth 100000
set_option maxHeartbeats 4000000
namespace MK
open PySem PySem.Spec PyProof.Rows L2
section
variable {P : Program} {w : World} {K : PySem.W.Frag} {mg : Str → Option Value} {base : Heap}
/-! ### gathered -/
def spGath : Sp := fun vs H Q _ => ∃ (a : Addr) (ts : List Addr) (ps : List (Ms × Int)), vs = [.ref a] ∧ H a = some (.lst (ts.map V.ref)) ∧ Paired (PtAt H) ts ps ∧ (flat ps).length ≤ 10000 ∧
  (∀ q ∈ ps, q.2.natAbs < 2 ^ 250 ∧ ∀ p ∈ q.1, p.2.natAbs < 2 ^ 250) ∧
  ∀ (H' : Hp) (p : Addr) (r : Ms), Same H H' → H p = none → MsAt H' p r → Can r → (∀ j, at0 r j = sumAt (flat ps) j) → Q (.ref p) H'
theorem scGath : FnScope ["parts", "powers", "measure", "n", "letter", "many"] ["parts"] (defScope sGath) := ⟨rfl, rfl, rfl, by decide +kernel, rfl, by decide +kernel, by decide +kernel⟩
theorem ok_gath {f : Addr} {fd : FuncData} (F : Fun K "gathered" "gathered" sGath f fd) (mt : mg "tuple" = none) (ms : mg "sorted" = none) : FnOk P w K mg base CX0 1 f fd ["parts"] spGath := by
  refine F.ok scGath (fun vs H Q E h => ?_) (fun cdv A outer s H vs Q E hr h => ?_)
  · obtain ⟨a, ts, ps, rfl, _⟩ := h
    rfl
  · obtain ⟨a, ts, ps, rfl, ha, hps, hfl, hb, q⟩ := h
    have nd := scGath.nd
    have hu := hu_of hr
    refine ⟨_, pss_cons (ps_set (i := 1) nd rfl (.inl rfl) pe_dnewK)
      (pss_cons (ps_for PassesOwn.never rfl (pi_list (pv 0)) (pg_tup rfl (pgs_cons (pg_name (i := 2) nd rfl (.inl rfl)) (pgs_cons (pg_name (i := 3) nd rfl (.inl rfl)) pgs_nil)))
        (pss_one (ps_for PassesOwn.never rfl (pi_tup (pv 2)) (pg_tup rfl (pgs_cons (pg_name (i := 4) nd rfl (.inl rfl)) (pgs_cons (pg_name (i := 5) nd rfl (.inl rfl)) pgs_nil)))
          (pss_one (ps_dput hu (pv 1) (pv 4) (pe_op op_add (pe_dget2 hu (pv 1) (pv 4) pe_int ⟨rfl, rfl, rfl, rfl⟩) (pe_op op_mulW (pv 5) (pv 3))) rfl)))))
      (pss_one (ps_ret (pe_callTy call_tuple_of rfl mt boot_tuple (pa_cons (pe_callB cr_sortedSP rfl ms boot_sorted (pa_cons (pe_lock
        (pe_lc (own := [("letter", 4), ("many", 5)]) (g := gTup K 2 (gCons (gName 4) (gCons (gName 5) gNil))) rfl nd (pi_items (pv 1)) (blkOk_by (N := ["parts", "powers", "measure", "n", "letter", "many"]) (sc := defScope sGath) (by decide +kernel))
          (fun _ _ _ _ _ => by exact pg_tup rfl (pgs_cons (pg_name (i := 4) nd rfl (Or.inl rfl)) (pgs_cons (pg_name (i := 5) nd rfl (Or.inl rfl)) pgs_nil)))
          (fun _ _ _ _ _ => pts_one (pt_cmpR op_ne (pv 5) pe_int (nomark _)))
          (fun _ _ _ _ _ => pe_tup (pa_cons (pv 4) (pa_cons (pv 5) pa_nil))))) pa_nil)) pa_nil))))), ?_⟩
    intro d nd0
    have s0 : Same H (upd H d (.dK [])) := same_new nd0
    (repeat (first | refine ⟨_, rfl, ?_⟩ | refine ⟨_, _, rfl, rfl, ?_⟩ | refine ⟨(by show (0 : Int) < _; decide), ?_⟩ | refine ⟨⟨by decide, by decide⟩, ?_⟩ | refine ⟨.inr (by decide), ?_⟩ | refine ⟨.inl (by decide), ?_⟩ | refine ⟨rfl, ?_⟩))
    refine ⟨⟨_, SqL.of (s0 _ _ ha)⟩, for_list (xs := ts.map V.ref) (fun i σ H2 => ∃ (v2 v3 v4 v5 : Option V) (m : Ms), σ = [some (.ref a), some (.ref d), v2, v3, v4, v5] ∧ Same H H2 ∧ H2 d = some (.dK (enc m)) ∧ (m.map (·.1)).Nodup ∧ m.length ≤ (flat (ps.take i)).length ∧ ∀ j, at0 m j = sumAt (flat (ps.take i)) j)
      ⟨none, none, none, none, [], rfl, s0, upd_same, List.nodup_nil, Nat.zero_le _, fun j => rfl⟩ (fun i σ H2 _ z => ?_) ?_ ?_⟩
    · obtain ⟨_, _, _, _, _, _, z, _⟩ := z
      exact SqL.of (z _ _ ha)
    · rintro i x σ H2 hx ⟨v2, v3, v4, v5, m, rfl, sm, hd, hn, hml, hat⟩
      obtain ⟨t, ht, rfl⟩ := at_map hx
      obtain ⟨qq, hq, b, htup, hms⟩ := paired_ix hps ht
      obtain ⟨mm, n⟩ := qq
      obtain ⟨us, hus, pr⟩ := id hms
      have htk : ps.take (i + 1) = ps.take i ++ [(mm, n)] := take_more hq
      obtain ⟨hbn, hbp⟩ := hb _ (List.mem_of_getElem? hq)
      have hlu : us.length = mm.length := pr.length
      refine ⟨t, _, rfl, SqT.of (sm _ _ htup), rfl, _, _, rfl, _, _, rfl, rfl, ?_⟩
      (repeat (first | refine ⟨_, rfl, ?_⟩ | refine ⟨_, _, rfl, rfl, ?_⟩ | refine ⟨(by show (0 : Int) < _; decide), ?_⟩ | refine ⟨⟨by decide, by decide⟩, ?_⟩ | refine ⟨.inr (by decide), ?_⟩ | refine ⟨.inl (by decide), ?_⟩ | refine ⟨rfl, ?_⟩))
      have hfl2 : (flat (ps.take i)).length + mm.length ≤ 10000 := by
        have e1 := flat_take_le ps (i + 1)
        rw [htk, flat_snoc, List.length_append] at e1
        have e2 : (scaled mm n).length = mm.length := scaled_len _ _
        have e3 : (flat (ps.take i)).length + (scaled mm n).length ≤ (flat ps).length := e1
        omega
      refine ⟨⟨_, SqT.of (sm _ _ hus)⟩, for_tup (xs := us.map V.ref) (fun k σ H3 => ∃ (v4 v5 : Option V) (m : Ms), σ = [some (.ref a), some (.ref d), some (.ref b), some (.int n), v4, v5] ∧ Same H H3 ∧ H3 d = some (.dK (enc m)) ∧ (m.map (·.1)).Nodup ∧ m.length ≤ (flat (ps.take i)).length + k ∧ ∀ j, at0 m j = sumAt (flat (ps.take i) ++ scaled (mm.take k) n) j)
        ⟨_, _, m, rfl, sm, hd, hn, hml, fun j => by rw [hat, sumAt_append]; show _ = _ + 0; omega⟩ (fun k σ H3 _ z => ?_) ?_ ?_⟩
      · obtain ⟨_, _, _, _, z, _⟩ := z
        exact SqT.of (z _ _ hus)
      · rintro k x σ H3 hx ⟨v4, v5, m, rfl, sm, hd, hn, hml, hat⟩
        obtain ⟨u, hu1, rfl⟩ := at_map hx
        obtain ⟨p, hp, hup⟩ := paired_ix pr hu1
        have hk : k < us.length := (List.getElem?_eq_some_iff.mp hu1).1
        refine ⟨u, _, rfl, SqT.of (sm _ _ hup), rfl, _, _, rfl, _, _, rfl, rfl, ?_⟩
        (repeat (first | refine ⟨_, rfl, ?_⟩ | refine ⟨_, _, rfl, rfl, ?_⟩ | refine ⟨(by show (0 : Int) < _; decide), ?_⟩ | refine ⟨⟨by decide, by decide⟩, ?_⟩ | refine ⟨.inr (by decide), ?_⟩ | refine ⟨.inl (by decide), ?_⟩ | refine ⟨rfl, ?_⟩))
        obtain ⟨o, ho, ho2⟩ := dget_enc2 p.1 hd
        refine ⟨.inl ⟨_, .inl hd⟩, _, rfl, o, ho, ?_⟩
        rw [ho2]
        (repeat (first | refine ⟨_, rfl, ?_⟩ | refine ⟨_, _, rfl, rfl, ?_⟩ | refine ⟨(by show (0 : Int) < _; decide), ?_⟩ | refine ⟨⟨by decide, by decide⟩, ?_⟩ | refine ⟨.inr (by decide), ?_⟩ | refine ⟨.inl (by decide), ?_⟩ | refine ⟨rfl, ?_⟩))
        refine ⟨wide_mul (hbp _ (List.mem_of_getElem? hp)) hbn (by decide) (by decide) (by decide), ?_⟩
        (repeat (first | refine ⟨_, rfl, ?_⟩ | refine ⟨_, _, rfl, rfl, ?_⟩ | refine ⟨(by show (0 : Int) < _; decide), ?_⟩ | refine ⟨⟨by decide, by decide⟩, ?_⟩ | refine ⟨.inr (by decide), ?_⟩ | refine ⟨.inl (by decide), ?_⟩ | refine ⟨rfl, ?_⟩))
        refine ⟨d, _, rfl, dput_enc hd hn (small1000' (by omega)), ?_⟩
        refine ⟨_, _, put m p.1 (at0 m p.1 + p.2 * n), rfl, same_upd sm nd0, upd_same, put_nodup _ _ hn, Nat.le_trans (put_len _ _ _) (by omega), fun j => ?_⟩
        rw [at0_put, scaled_more hp, ← List.append_assoc, sumAt_append, ← hat, sumAt_one]
        by_cases e : j = p.1
        · rw [if_pos e, if_pos e.symm, e]
        · rw [if_neg e, if_neg (fun z => e z.symm)]
          omega
      · rintro σ H3 ⟨v4, v5, m, rfl, sm, hd, hn, hml, hat⟩
        rw [List.length_map, hlu, List.take_length] at hat
        refine ⟨_, _, _, _, m, rfl, sm, hd, hn, ?_, fun j => by rw [htk, flat_snoc]; exact hat j⟩
        rw [List.length_map, hlu] at hml
        rw [htk, flat_snoc, List.length_append, scaled_len]
        exact hml
    · rintro σ H2 ⟨v2, v3, v4, v5, m, rfl, sm, hd, hn, hml, hat⟩
      have hlen := hps.length
      rw [List.length_map, hlen, List.take_length] at hml hat
      -- the pairs that are not nought, sorted
      refine ⟨d, _, hd, trivial, fun od => ?_⟩
      have sl : Same H (upd H2 d (.frz od (.dK (enc m)))) := same_upd sm nd0
      refine ⟨_, rfl, d, od, enc m, rfl, upd_same, fun D nD => ?_⟩
      have nDd : D ≠ d := fun e => by
        rw [e, upd_same] at nD
        cases nD
      have nDH : H D = none := sl.free nD
      have henc : (enc m).length = m.length := encG_len _ _
      refine lc_items (fun i H3 => Same H H3 ∧ H3 d = some (.frz od (.dK (enc m))) ∧ ∃ us : List Addr, H3 D = some (.lst (us.map V.ref)) ∧ Paired (PrAt H3) us (nz (m.take i)) ∧ us.length ≤ i)
        ⟨sl.trans (same_new nD), upd_other upd_same nD, [], upd_same, .nil, Nat.le_refl _⟩ (fun i H3 _ z => z.2.1) ?_ ?_
      · rintro i k v T H3 hk ⟨s3, hd3, us, hD, pr, hus⟩ nT
        obtain ⟨l, n, hm, rfl, rfl⟩ := enc_at hk
        have hi : i < m.length := (List.getElem?_eq_some_iff.mp hm).1
        have sT := s3.trans (same_new (o := .tup [kV (Sum.inr l), V.int n]) nT)
        refine ⟨T, _, rfl, SqT.of upd_same, rfl, _, _, rfl, _, _, rfl, rfl, rfl, ?_⟩
        (repeat (first | refine ⟨_, rfl, ?_⟩ | refine ⟨_, _, rfl, rfl, ?_⟩ | refine ⟨(by show (0 : Int) < _; decide), ?_⟩ | refine ⟨⟨by decide, by decide⟩, ?_⟩ | refine ⟨.inr (by decide), ?_⟩ | refine ⟨.inl (by decide), ?_⟩ | refine ⟨rfl, ?_⟩))
        refine ite2 (fun e => ?_) (fun e => ?_)
        · have e1 : n ≠ 0 := by simpa using e
          (repeat (first | refine ⟨_, rfl, ?_⟩ | refine ⟨_, _, rfl, rfl, ?_⟩ | refine ⟨(by show (0 : Int) < _; decide), ?_⟩ | refine ⟨⟨by decide, by decide⟩, ?_⟩ | refine ⟨.inr (by decide), ?_⟩ | refine ⟨.inl (by decide), ?_⟩ | refine ⟨rfl, ?_⟩))
          refine ⟨(by show 2 ≤ sizeLine; decide), fun t nt => ?_⟩
          refine ⟨_, upd_other (upd_other hD nT) nt, ?_, same_upd (sT.trans (same_new nt)) nDH, ?_, us ++ [t], ?_, ?_, ?_⟩
          · rw [List.length_map]
            exact small1000' (by omega)
          · rw [upd_ne nDd.symm]
            exact upd_other (upd_other hd3 nT) nt
          · rw [upd_same, List.map_append]
            rfl
          · rw [nz_yes hm e1]
            exact pr_list (upd_other (upd_other hD nT) nt) (Paired.snoc (pr_same (same_new nt) (pr_same (same_new nT) pr)) upd_same)
          · rw [List.length_append]
            exact Nat.add_le_add_right hus 1
        · have e1 : n = 0 := by simpa using e
          refine ⟨sT, upd_other hd3 nT, us, upd_other hD nT, ?_, by omega⟩
          rw [nz_no hm e1]
          exact pr_same (same_new nT) pr
      · rintro H3 ⟨s3, hd3, us, hD, pr, hus⟩
        rw [henc, List.take_length] at pr
        refine ⟨hd3, ?_⟩
        have s4 : Same H (upd H3 d (.dK (enc m))) := same_upd s3 nd0
        have hD4 : (upd H3 d (.dK (enc m))) D = some (.lst (us.map V.ref)) := by
          rw [upd_ne nDd]
          exact hD
        have pr4 : Paired (PrAt (upd H3 d (.dK (enc m)))) us (nz m) := Paired.mono (fun t q z => by
          show upd H3 d _ t = _
          rw [upd_ne (ne_of z hd3 (fun e => nomatch e))]
          exact z) pr
        generalize upd H3 d (.dK (enc m)) = H4 at s4 hD4 pr4
        refine ⟨D, us.map V.ref, kH H4, rfl, SqL.of hD4, kH_all pr4, fun ys p hp hs np => ?_⟩
        have hnz : ((nz m).map (·.1)).Nodup := by
          unfold nz
          exact List.Nodup.sublist (List.Sublist.map _ List.filter_sublist) hn
        obtain ⟨vs, rfl, pv1, hperm, hris⟩ := sorted_pairs hnz pr4 (kH H4) (fun t q z => kH_of z) hp hs
        obtain ⟨f1, f2⟩ := made_prog hn hris fun x => by
          rw [hperm.mem_iff]
          unfold nz
          rw [List.mem_filter, decide_eq_true_eq]
        refine ⟨p, vs.map V.ref, rfl, .inl ⟨SqL.of upd_same, fun l nl => ?_⟩⟩
        have s5 : Same H4 (upd (upd H4 p (.lst (vs.map V.ref))) l (.tup (vs.map V.ref))) := (same_new np).trans (same_new nl)
        exact q _ l _ (s4.trans s5) ((s4.trans (same_new np)).free nl) ⟨vs, upd_same, pr_same s5 pv1⟩ f1 fun j => by rw [f2, hat]
end
end MK


set_option Elab.async false
set_option linter.all false
set_option maxRecDepth 100000
set_option maxHeartbeats 4000000
namespace MK
open PySem PySem.Spec PyProof.Rows L2
/-! ### the measure as plain data -/
def msD (m : Ms) : PyData := .tuple (m.map fun p => .tuple [.str p.1, .int p.2])
theorem strOk_of {z : Str} (h : Ok z) : PyData.strOk z = true := by
  unfold PyData.strOk
  rw [← Array.all_toList, List.all_eq_true]
  exact fun c hc => decide_eq_true (h c hc)
theorem msD_lay : ∀ {m : Ms}, (∀ p ∈ m, LtOk p.1) → PyData.canLayAll0 (m.map fun p => PyData.tuple [.str p.1, .int p.2]) = true
  | [], _ => rfl
  | p :: r, h => by
    have ih := msD_lay (m := r) fun q hq => h q (List.mem_cons_of_mem _ hq)
    simp only [List.map_cons, PyData.canLayAll0, PyData.canLay0, ih, Bool.and_true]
    exact strOk_of (h p List.mem_cons_self).2
theorem msD_depth (m : Ms) : PyData.depthAll (m.map fun p => PyData.tuple [.str p.1, .int p.2]) ≤ 1 := by
  induction m with
  | nil => simp [PyData.depthAll]
  | cons p r ih =>
    simp only [List.map_cons, PyData.depthAll, PyData.depth]
    omega
theorem msD_shaped {m : Ms} (h : ∀ p ∈ m, LtOk p.1) : SeqAt.shaped (msD m) = true := by
  unfold SeqAt.shaped msD
  rw [Bool.and_eq_true, decide_eq_true_eq]
  constructor
  · simp only [PyData.canLay0]
    exact msD_lay h
  · have := msD_depth m
    simp only [PyData.depth]
    omega
theorem msD_eqv {m : Ms} (h : ∀ p ∈ m, LtOk p.1) : PyData.eqv (msD m) (msD m) = true := SeqAt.eqv_refl _ (SeqAt.canLay_of_shaped (msD_shaped h))
/-! ### measures of the letters ws -/
structure Mes (ws : List Str) (b : Nat) (m : Ms) : Prop where
  can : Can m
  inn : ∀ x ∈ m, x.1 ∈ ws
  lt : ∀ x ∈ m, x.2.natAbs < 2 ^ b
theorem Mes.few {ws : List Str} {b n : Nat} {m : Ms} (h : Mes ws b m) (hw : ws.length ≤ n) : m.length ≤ n := by
  refine Nat.le_trans ?_ hw
  rw [← List.length_map (f := fun p : Str × Int => p.1)]
  refine List.Nodup.length_le_of_subset h.can.ris.nodup fun x hx => ?_
  obtain ⟨p, hp, rfl⟩ := List.mem_map.mp hx
  exact h.inn p hp
theorem Mes.sum {ws : List Str} {b : Nat} {m : Ms} (h : Mes ws b m) (j : Str) : sumAt m j = at0 m j := sumAt_at0 j h.can.ris.nodup
theorem Mes.at_in {ws : List Str} {b : Nat} {m : Ms} (h : Mes ws b m) {j : Str} (e : at0 m j ≠ 0) : j ∈ ws := h.inn _ (at0_mem e)
theorem Mes.at_lt {ws : List Str} {b : Nat} {m : Ms} (h : Mes ws b m) (j : Str) : (at0 m j).natAbs < 2 ^ b := by
  by_cases e : at0 m j = 0
  · rw [e]; exact Nat.two_pow_pos b
  · exact h.lt _ (at0_mem e)
theorem Mes.of {ws : List Str} {b : Nat} {m : Ms} (hc : Can m) (h1 : ∀ j, at0 m j ≠ 0 → j ∈ ws) (h2 : ∀ j, (at0 m j).natAbs < 2 ^ b) : Mes ws b m := by
  have k : ∀ x ∈ m, at0 m x.1 = x.2 ∧ x.2 ≠ 0 := fun x hx => ⟨((hc.mem x.1 x.2).mp hx).2, hc.nz x hx⟩
  refine ⟨hc, fun x hx => h1 _ ?_, fun x hx => ?_⟩
  · rw [(k x hx).1]; exact (k x hx).2
  · have := h2 x.1
    rw [(k x hx).1] at this
    exact this
theorem Mes.ltok {ws : List Str} {b : Nat} {m : Ms} (h : Mes ws b m) (hw : ∀ z ∈ ws, LtOk z) : ∀ p ∈ m, LtOk p.1 := fun p hp => hw _ (h.inn p hp)
theorem Mes.mono {ws : List Str} {b c : Nat} {m : Ms} (h : Mes ws b m) (hb : b ≤ c) : Mes ws c m := ⟨h.can, h.inn, fun x hx => Nat.lt_of_lt_of_le (h.lt x hx) (Nat.pow_le_pow_right (by decide) hb)⟩
theorem mes_nil (ws : List Str) (b : Nat) : Mes ws b [] := ⟨can_nil, fun x h => absurd h (by simp), fun x h => absurd h (by simp)⟩
/-- a measure small enough to be reckoned with -/
def Bd (m : Ms) : Prop := m.length ≤ 1000 ∧ ∀ p ∈ m, p.2.natAbs < 2 ^ 250
theorem Mes.bd {ws : List Str} {b : Nat} {m : Ms} (h : Mes ws b m) (hw : ws.length ≤ 1000) (hb : b ≤ 250) : Bd m := ⟨h.few hw, (h.mono hb).lt⟩

end MK


set_option Elab.async false
set_option linter.all false
set_option maxRecDepth 100000
set_option maxHeartbeats 4000000
namespace MK
open PySem PySem.Spec PyProof.Rows L2
section
variable {P : Program} {w : World} {K : PySem.W.Frag} {mg : Str → Option Value} {base : Heap}
/-! ### times, over, power -/
def spTwo (g : Int → Int → Int) : Sp := fun vs H Q _ => ∃ (a b : Addr) (m n : Ms), vs = [.ref a, .ref b] ∧ MsAt H a m ∧ MsAt H b n ∧ Bd m ∧ Bd n ∧
  ∀ (H' : Hp) (p : Addr) (r : Ms), Same H H' → H p = none → MsAt H' p r → Can r → (∀ j, at0 r j = g (sumAt m j) (sumAt n j)) → Q (.ref p) H'
def spPow : Sp := fun vs H Q _ => ∃ (a : Addr) (m : Ms) (n : Int), vs = [.ref a, .int n] ∧ MsAt H a m ∧ Bd m ∧ n.natAbs < 2 ^ 250 ∧
  ∀ (H' : Hp) (p : Addr) (r : Ms), Same H H' → H p = none → MsAt H' p r → Can r → (∀ j, at0 r j = sumAt m j * n) → Q (.ref p) H'
theorem flat_two (m n : Ms) (x y : Int) (j : Str) : sumAt (flat [(m, x), (n, y)]) j = sumAt m j * x + sumAt n j * y := by
  show sumAt (scaled m x ++ (scaled n y ++ [])) j = _
  rw [sumAt_append, sumAt_append, sumAt_scaled, sumAt_scaled]
  show _ + (_ + 0) = _
  omega
theorem flat_one (m : Ms) (x : Int) (j : Str) : sumAt (flat [(m, x)]) j = sumAt m j * x := by
  show sumAt (scaled m x ++ []) j = _
  rw [sumAt_append, sumAt_scaled]
  show _ + 0 = _
  omega
theorem flat_two_len (m n : Ms) (x y : Int) : (flat [(m, x), (n, y)]).length = m.length + n.length := by
  show (scaled m x ++ (scaled n y ++ [])).length = _
  rw [List.length_append, List.length_append, scaled_len, scaled_len]
  rfl
theorem flat_one_len (m : Ms) (x : Int) : (flat [(m, x)]).length = m.length := by
  show (scaled m x ++ []).length = _
  rw [List.length_append, scaled_len]
  rfl
theorem scTimes : FnScope ["one", "other"] ["one", "other"] (defScope sTimes) := ⟨rfl, rfl, rfl, by decide +kernel, rfl, by decide +kernel, by decide +kernel⟩
theorem scOver : FnScope ["one", "other"] ["one", "other"] (defScope sOver) := ⟨rfl, rfl, rfl, by decide +kernel, rfl, by decide +kernel, by decide +kernel⟩
theorem scPow : FnScope ["one", "n"] ["one", "n"] (defScope sPow) := ⟨rfl, rfl, rfl, by decide +kernel, rfl, by decide +kernel, by decide +kernel⟩
theorem two_parts {H : Hp} {a b t u l : Addr} {m n : Ms} {x y : Int} (hm : MsAt H a m) (hn : MsAt H b n) (nt : H t = none) (nu : (upd H t (.tup [.ref a, .int x])) u = none)
    (nl : (upd (upd H t (.tup [.ref a, .int x])) u (.tup [.ref b, .int y])) l = none) :
    Same H (upd (upd (upd H t (.tup [.ref a, .int x])) u (.tup [.ref b, .int y])) l (.lst [.ref t, .ref u])) ∧
    Paired (PtAt (upd (upd (upd H t (.tup [.ref a, .int x])) u (.tup [.ref b, .int y])) l (.lst [.ref t, .ref u]))) [t, u] [(m, x), (n, y)] := by
  have s1 : Same H (upd (upd (upd H t (.tup [.ref a, .int x])) u (.tup [.ref b, .int y])) l (.lst [.ref t, .ref u])) := ((same_new nt).trans (same_new nu)).trans (same_new nl)
  refine ⟨s1, .cons ⟨a, upd_other (upd_other upd_same nu) nl, hm.same s1⟩ (.cons ⟨b, upd_other upd_same nl, hn.same s1⟩ .nil)⟩
theorem ok_times {f fG : Addr} {fd fdG : FuncData} (F : Fun K "times" "times" sTimes f fd) (FG : Fun K "gathered" "gathered" sGath fG fdG) (bG : Binds K fdG ["parts"] []) (gG : mg "gathered" = some (.ref fG)) (mt : mg "tuple" = none) (ms : mg "sorted" = none) :
    FnOk P w K mg base CX0 2 f fd ["one", "other"] (spTwo fun x y => x + y) := by
  have GG : FnOk P w K mg base CX0 1 fG fdG ["parts"] spGath := ok_gath FG mt ms
  refine F.ok scTimes (fun vs H Q E h => ?_) (fun cdv A outer s H vs Q E hr h => ?_)
  · obtain ⟨a, b, m, n, rfl, _⟩ := h
    rfl
  · obtain ⟨a, b, m, n, rfl, hm, hn, bm, bn, q⟩ := h
    refine ⟨_, pss_one (ps_ret (pe_call GG hr (by rfl) gG FG.kp bG .nil pass0 (pa_cons (pe_lst (pa_cons (pe_tup (pa_cons (pv 0) (pa_cons pe_int pa_nil))) (pa_cons (pe_tup (pa_cons (pv 1) (pa_cons pe_int pa_nil))) pa_nil))) pa_nil))), ?_⟩
    refine ⟨_, rfl, (by show 2 ≤ sizeLine; decide), fun t nt => ⟨_, rfl, (by show 2 ≤ sizeLine; decide), fun u nu => ⟨(by show 2 ≤ sizeLine; decide), fun l nl => ?_⟩⟩⟩
    obtain ⟨s1, pp⟩ := two_parts hm hn nt nu nl
    refine ⟨l, [t, u], [(m, 1), (n, 1)], rfl, upd_same, pp, ?_, ?_, fun H' p r s2 np hp hc he => ?_⟩
    · rw [flat_two_len]
      have := bm.1
      have := bn.1
      omega
    · intro z hz
      rcases List.mem_cons.mp hz with e | hz
      · rw [e]; exact ⟨(by show (1 : Int).natAbs < 2 ^ 250; decide), bm.2⟩
      · rw [List.mem_singleton.mp hz]; exact ⟨(by show (1 : Int).natAbs < 2 ^ 250; decide), bn.2⟩
    · exact q H' p r (s1.trans s2) (s1.free np) hp hc fun j => by
        rw [he, flat_two]
        show _ = sumAt m j + sumAt n j
        omega
theorem ok_over {f fG : Addr} {fd fdG : FuncData} (F : Fun K "over" "over" sOver f fd) (FG : Fun K "gathered" "gathered" sGath fG fdG) (bG : Binds K fdG ["parts"] []) (gG : mg "gathered" = some (.ref fG)) (mt : mg "tuple" = none) (ms : mg "sorted" = none) :
    FnOk P w K mg base CX0 2 f fd ["one", "other"] (spTwo fun x y => x - y) := by
  have GG : FnOk P w K mg base CX0 1 fG fdG ["parts"] spGath := ok_gath FG mt ms
  refine F.ok scOver (fun vs H Q E h => ?_) (fun cdv A outer s H vs Q E hr h => ?_)
  · obtain ⟨a, b, m, n, rfl, _⟩ := h
    rfl
  · obtain ⟨a, b, m, n, rfl, hm, hn, bm, bn, q⟩ := h
    refine ⟨_, pss_one (ps_ret (pe_call GG hr (by rfl) gG FG.kp bG .nil pass0 (pa_cons (pe_lst (pa_cons (pe_tup (pa_cons (pv 0) (pa_cons pe_int pa_nil))) (pa_cons (pe_tup (pa_cons (pv 1) (pa_cons (pe_un un_neg pe_int) pa_nil))) pa_nil))) pa_nil))), ?_⟩
    refine ⟨_, rfl, (by show 2 ≤ sizeLine; decide), fun t nt => ⟨_, rfl, 1, rfl, (by show 2 ≤ sizeLine; decide), fun u nu => ⟨(by show 2 ≤ sizeLine; decide), fun l nl => ?_⟩⟩⟩
    obtain ⟨s1, pp⟩ := two_parts hm hn nt nu nl
    refine ⟨l, [t, u], [(m, 1), (n, -1)], rfl, upd_same, pp, ?_, ?_, fun H' p r s2 np hp hc he => ?_⟩
    · rw [flat_two_len]
      have := bm.1
      have := bn.1
      omega
    · intro z hz
      rcases List.mem_cons.mp hz with e | hz
      · rw [e]; exact ⟨(by show (1 : Int).natAbs < 2 ^ 250; decide), bm.2⟩
      · rw [List.mem_singleton.mp hz]; exact ⟨(by show (-1 : Int).natAbs < 2 ^ 250; decide), bn.2⟩
    · exact q H' p r (s1.trans s2) (s1.free np) hp hc fun j => by
        rw [he, flat_two]
        show _ = sumAt m j - sumAt n j
        omega
theorem ok_pow {f fG : Addr} {fd fdG : FuncData} (F : Fun K "power" "power" sPow f fd) (FG : Fun K "gathered" "gathered" sGath fG fdG) (bG : Binds K fdG ["parts"] []) (gG : mg "gathered" = some (.ref fG)) (mt : mg "tuple" = none) (ms : mg "sorted" = none) :
    FnOk P w K mg base CX0 2 f fd ["one", "n"] spPow := by
  have GG : FnOk P w K mg base CX0 1 fG fdG ["parts"] spGath := ok_gath FG mt ms
  refine F.ok scPow (fun vs H Q E h => ?_) (fun cdv A outer s H vs Q E hr h => ?_)
  · obtain ⟨a, m, n, rfl, _⟩ := h
    rfl
  · obtain ⟨a, m, n, rfl, hm, bm, bn, q⟩ := h
    refine ⟨_, pss_one (ps_ret (pe_call GG hr (by rfl) gG FG.kp bG .nil pass0 (pa_cons (pe_lst (pa_cons (pe_tup (pa_cons (pv 0) (pa_cons (pv 1) pa_nil))) pa_nil)) pa_nil))), ?_⟩
    refine ⟨_, rfl, _, rfl, (by show 2 ≤ sizeLine; decide), fun t nt => ⟨(by show 1 ≤ sizeLine; decide), fun l nl => ?_⟩⟩
    have s1 : Same H (upd (upd H t (.tup [.ref a, .int n])) l (.lst [.ref t])) := (same_new nt).trans (same_new nl)
    refine ⟨l, [t], [(m, n)], rfl, upd_same, .cons ⟨a, upd_other upd_same nl, hm.same s1⟩ .nil, ?_, ?_, fun H' p r s2 np hp hc he => ?_⟩
    · rw [flat_one_len]
      have := bm.1
      omega
    · intro z hz
      rw [List.mem_singleton.mp hz]
      exact ⟨bn, bm.2⟩
    · exact q H' p r (s1.trans s2) (s1.free np) hp hc fun j => by
        rw [he, flat_one]
/-! ### _law_due -/
def spDue : Sp := fun vs H Q _ => ∃ (a b : Addr) (m n : Ms) (x : Int), vs = [.ref a, .ref b, .int x] ∧ MsAt H a m ∧ MsAt H b n ∧ Bd m ∧ Bd n ∧ x.natAbs < 2 ^ 250 ∧
  ∀ (H' : Hp) (p : Addr) (r : Ms), Same H H' → H p = none → MsAt H' p r → Can r → (∀ j, at0 r j = sumAt m j + sumAt n j * x) → Q (.ref p) H'
theorem scDue : FnScope ["_law_one", "_law_other", "_law_by", "_law_powers", "_law_letter", "_law_many"] ["_law_one", "_law_other", "_law_by"] (defScope sDue) := ⟨rfl, rfl, rfl, by decide +kernel, rfl, by decide +kernel, by decide +kernel⟩
theorem sum_more {m : Ms} {k : Nat} {p : Str × Int} (h : m[k]? = some p) (j : Str) : sumAt (m.take (k + 1)) j = sumAt (m.take k) j + if p.1 = j then p.2 else 0 := by
  rw [take_more h, sumAt_append]
  exact congrArg (_ + ·) (sumAt_one p.1 p.2 j)
theorem ok_due {f fM : Addr} {fd fdM : FuncData} (F : Fun K "_law_due" "_law_due" sDue f fd) (FM : Fun K "_law_made" "_law_made" sMade fM fdM) (bM : Binds K fdM ["_law_powers"] []) (gM : mg "_law_made" = some (.ref fM)) (mt : mg "tuple" = none) (ms : mg "sorted" = none) :
    FnOk P w K mg base CX0 2 f fd ["_law_one", "_law_other", "_law_by"] spDue := by
  have GM : FnOk P w K mg base CX0 1 fM fdM ["_law_powers"] spMade := ok_made FM mt ms
  refine F.ok scDue (fun vs H Q E h => ?_) (fun cdv A outer s H vs Q E hr h => ?_)
  · obtain ⟨a, b, m, n, x, rfl, _⟩ := h
    rfl
  · obtain ⟨a, b, mm, nn, x, rfl, ⟨us, hus, pr⟩, ⟨vs, hvs, pr2⟩, bm, bn, hx, q⟩ := h
    have nd := scDue.nd
    have hu := hu_of hr
    have bm1 := bm.1
    have bn1 := bn.1
    have hlu : us.length = mm.length := pr.length
    have hlv : vs.length = nn.length := pr2.length
    refine ⟨_, pss_cons (ps_set (i := 3) nd rfl (.inl rfl) pe_dnewK)
      (pss_cons (ps_for PassesOwn.never rfl (pi_tup (pv 0)) (pg_tup rfl (pgs_cons (pg_name (i := 4) nd rfl (.inl rfl)) (pgs_cons (pg_name (i := 5) nd rfl (.inl rfl)) pgs_nil)))
        (pss_one (ps_dput hu (pv 3) (pv 4) (pe_op op_add (pe_dget2 hu (pv 3) (pv 4) pe_int ⟨rfl, rfl, rfl, rfl⟩) (pv 5)) rfl)))
      (pss_cons (ps_for PassesOwn.never rfl (pi_tup (pv 1)) (pg_tup rfl (pgs_cons (pg_name (i := 4) nd rfl (.inl rfl)) (pgs_cons (pg_name (i := 5) nd rfl (.inl rfl)) pgs_nil)))
        (pss_one (ps_dput hu (pv 3) (pv 4) (pe_op op_add (pe_dget2 hu (pv 3) (pv 4) pe_int ⟨rfl, rfl, rfl, rfl⟩) (pe_op op_mulW (pv 5) (pv 2))) rfl)))
      (pss_one (ps_ret (pe_call GM hr (by rfl) gM FM.kp bM .nil pass0 (pa_cons (pv 3) pa_nil)))))), ?_⟩
    intro d nd0
    have s0 : Same H (upd H d (.dK [])) := same_new nd0
    (repeat (first | refine ⟨_, rfl, ?_⟩ | refine ⟨_, _, rfl, rfl, ?_⟩ | refine ⟨(by show (0 : Int) < _; decide), ?_⟩ | refine ⟨⟨by decide, by decide⟩, ?_⟩ | refine ⟨.inr (by decide), ?_⟩ | refine ⟨.inl (by decide), ?_⟩ | refine ⟨rfl, ?_⟩))
    refine ⟨⟨_, SqT.of (s0 _ _ hus)⟩, for_tup (xs := us.map V.ref) (fun k σ H3 => ∃ (v4 v5 : Option V) (m : Ms), σ = [some (.ref a), some (.ref b), some (.int x), some (.ref d), v4, v5] ∧ Same H H3 ∧ H3 d = some (.dK (enc m)) ∧ (m.map (·.1)).Nodup ∧ m.length ≤ k ∧ ∀ j, at0 m j = sumAt (mm.take k) j)
        ⟨none, none, [], rfl, s0, upd_same, List.nodup_nil, Nat.zero_le _, fun j => rfl⟩ (fun k σ H3 _ z => ?_) ?_ ?_⟩
    · obtain ⟨_, _, _, _, z, _⟩ := z
      exact SqT.of (z _ _ hus)
    · rintro k y σ H3 hy ⟨v4, v5, m, rfl, sm, hd, hn, hml, hat⟩
      obtain ⟨u, hu1, rfl⟩ := at_map hy
      obtain ⟨p, hp, hup⟩ := paired_ix pr hu1
      have hk : k < us.length := (List.getElem?_eq_some_iff.mp hu1).1
      refine ⟨u, _, rfl, SqT.of (sm _ _ hup), rfl, _, _, rfl, _, _, rfl, rfl, ?_⟩
      (repeat (first | refine ⟨_, rfl, ?_⟩ | refine ⟨_, _, rfl, rfl, ?_⟩ | refine ⟨(by show (0 : Int) < _; decide), ?_⟩ | refine ⟨⟨by decide, by decide⟩, ?_⟩ | refine ⟨.inr (by decide), ?_⟩ | refine ⟨.inl (by decide), ?_⟩ | refine ⟨rfl, ?_⟩))
      obtain ⟨o, ho, ho2⟩ := dget_enc2 p.1 hd
      refine ⟨.inl ⟨_, .inl hd⟩, _, rfl, o, ho, ?_⟩
      rw [ho2]
      (repeat (first | refine ⟨_, rfl, ?_⟩ | refine ⟨_, _, rfl, rfl, ?_⟩ | refine ⟨(by show (0 : Int) < _; decide), ?_⟩ | refine ⟨⟨by decide, by decide⟩, ?_⟩ | refine ⟨.inr (by decide), ?_⟩ | refine ⟨.inl (by decide), ?_⟩ | refine ⟨rfl, ?_⟩))
      refine ⟨d, _, rfl, dput_enc hd hn (small1000' (by omega)), ?_⟩
      refine ⟨_, _, put m p.1 (at0 m p.1 + p.2), rfl, same_upd sm nd0, upd_same, put_nodup _ _ hn, Nat.le_trans (put_len _ _ _) (by omega), fun j => ?_⟩
      rw [at0_put, sum_more hp, ← hat]
      by_cases e : j = p.1
      · rw [if_pos e, if_pos e.symm, e]
      · rw [if_neg e, if_neg (fun z => e z.symm)]
        omega
    · rintro σ H2 ⟨v4, v5, m1, rfl, sm, hd, hn, hml, hat⟩
      rw [List.length_map, hlu] at hml
      rw [List.length_map, hlu, List.take_length] at hat
      (repeat (first | refine ⟨_, rfl, ?_⟩ | refine ⟨_, _, rfl, rfl, ?_⟩ | refine ⟨(by show (0 : Int) < _; decide), ?_⟩ | refine ⟨⟨by decide, by decide⟩, ?_⟩ | refine ⟨.inr (by decide), ?_⟩ | refine ⟨.inl (by decide), ?_⟩ | refine ⟨rfl, ?_⟩))
      refine ⟨⟨_, SqT.of (sm _ _ hvs)⟩, for_tup (xs := vs.map V.ref) (fun k σ H3 => ∃ (v4 v5 : Option V) (m : Ms), σ = [some (.ref a), some (.ref b), some (.int x), some (.ref d), v4, v5] ∧ Same H H3 ∧ H3 d = some (.dK (enc m)) ∧ (m.map (·.1)).Nodup ∧ m.length ≤ 1000 + k ∧ ∀ j, at0 m j = sumAt mm j + sumAt (nn.take k) j * x)
        ⟨_, _, m1, rfl, sm, hd, hn, by omega, fun j => by rw [hat]; show _ = _ + 0 * x; omega⟩ (fun k σ H3 _ z => ?_) ?_ ?_⟩
      · obtain ⟨_, _, _, _, z, _⟩ := z
        exact SqT.of (z _ _ hvs)
      · rintro k y σ H3 hy ⟨v4, v5, m, rfl, sm, hd, hn, hml, hat⟩
        obtain ⟨u, hu1, rfl⟩ := at_map hy
        obtain ⟨p, hp, hup⟩ := paired_ix pr2 hu1
        have hk : k < vs.length := (List.getElem?_eq_some_iff.mp hu1).1
        refine ⟨u, _, rfl, SqT.of (sm _ _ hup), rfl, _, _, rfl, _, _, rfl, rfl, ?_⟩
        (repeat (first | refine ⟨_, rfl, ?_⟩ | refine ⟨_, _, rfl, rfl, ?_⟩ | refine ⟨(by show (0 : Int) < _; decide), ?_⟩ | refine ⟨⟨by decide, by decide⟩, ?_⟩ | refine ⟨.inr (by decide), ?_⟩ | refine ⟨.inl (by decide), ?_⟩ | refine ⟨rfl, ?_⟩))
        obtain ⟨o, ho, ho2⟩ := dget_enc2 p.1 hd
        refine ⟨.inl ⟨_, .inl hd⟩, _, rfl, o, ho, ?_⟩
        rw [ho2]
        (repeat (first | refine ⟨_, rfl, ?_⟩ | refine ⟨_, _, rfl, rfl, ?_⟩ | refine ⟨(by show (0 : Int) < _; decide), ?_⟩ | refine ⟨⟨by decide, by decide⟩, ?_⟩ | refine ⟨.inr (by decide), ?_⟩ | refine ⟨.inl (by decide), ?_⟩ | refine ⟨rfl, ?_⟩))
        refine ⟨wide_mul (bn.2 _ (List.mem_of_getElem? hp)) hx (by decide) (by decide) (by decide), ?_⟩
        (repeat (first | refine ⟨_, rfl, ?_⟩ | refine ⟨_, _, rfl, rfl, ?_⟩ | refine ⟨(by show (0 : Int) < _; decide), ?_⟩ | refine ⟨⟨by decide, by decide⟩, ?_⟩ | refine ⟨.inr (by decide), ?_⟩ | refine ⟨.inl (by decide), ?_⟩ | refine ⟨rfl, ?_⟩))
        refine ⟨d, _, rfl, dput_enc hd hn (small1000' (by omega)), ?_⟩
        refine ⟨_, _, put m p.1 (at0 m p.1 + p.2 * x), rfl, same_upd sm nd0, upd_same, put_nodup _ _ hn, Nat.le_trans (put_len _ _ _) (by omega), fun j => ?_⟩
        rw [at0_put, sum_more hp, Int.add_mul]
        have hj := hat j
        by_cases e : j = p.1
        · rw [if_pos e, if_pos e.symm, ← e]
          omega
        · rw [if_neg e, if_neg (fun z => e z.symm)]
          omega
      · rintro σ H3 ⟨v4, v5, m, rfl, sm, hd, hn, hml, hat⟩
        rw [List.length_map, hlv] at hml
        rw [List.length_map, hlv, List.take_length] at hat
        (repeat (first | refine ⟨_, rfl, ?_⟩ | refine ⟨_, _, rfl, rfl, ?_⟩ | refine ⟨(by show (0 : Int) < _; decide), ?_⟩ | refine ⟨⟨by decide, by decide⟩, ?_⟩ | refine ⟨.inr (by decide), ?_⟩ | refine ⟨.inl (by decide), ?_⟩ | refine ⟨rfl, ?_⟩))
        refine ⟨d, m, rfl, hd, hn, by omega, fun H4 p r s4 np hp hc he => ?_⟩
        exact q H4 p r (sm.trans s4) (sm.free np) hp hc fun j => by rw [he, hat]
end
end MK


set_option Elab.async false
set_option linter.all false
set_option maxRecDepth 100000
set_option maxHeartbeats 4000000
namespace MK
open PySem PySem.Spec PyProof.Rows L2
/-- what the walk asks of the top: each def as it stands, the names of the built-ins free -/
structure Txt (K : PySem.W.Frag) (mg : Str → Option Value) where
  (fT fO fPw fG fC fX fWd fM fW fI fL fP fMs fD : Addr)
  (dT dO dPw dG dC dX dWd dM dW dI dL dP dMs dD : FuncData)
  FT : Fun K "times" "times" sTimes fT dT
  FO : Fun K "over" "over" sOver fO dO
  FPw : Fun K "power" "power" sPow fPw dPw
  FG : Fun K "gathered" "gathered" sGath fG dG
  FC : Fun K "_law_cell_at" "_law_cell_at" sCell fC dC
  FX : Fun K "_law_mix" "_law_mix" sMix fX dX
  FWd : Fun K "_law_words" "_law_words" sWords fWd dWd
  FM : Fun K "_law_made" "_law_made" sMade fM dM
  FW : Fun K "_law_whole" "_law_whole" sWhole fW dW
  FI : Fun K "_law_is_measure" "_law_is_measure" sIsM fI dI
  FL : Fun K "_law_letters" "_law_letters" sLetters fL dL
  FP : Fun K "_law_power" "_law_power" sPower fP dP
  FMs : Fun K "_law_measure" "_law_measure" sMeasure fMs dMs
  FD : Fun K "_law_due" "_law_due" sDue fD dD
  gT : mg "times" = some (.ref fT)
  gO : mg "over" = some (.ref fO)
  gPw : mg "power" = some (.ref fPw)
  gG : mg "gathered" = some (.ref fG)
  gC : mg "_law_cell_at" = some (.ref fC)
  gX : mg "_law_mix" = some (.ref fX)
  gWd : mg "_law_words" = some (.ref fWd)
  gM : mg "_law_made" = some (.ref fM)
  gW : mg "_law_whole" = some (.ref fW)
  gI : mg "_law_is_measure" = some (.ref fI)
  gL : mg "_law_letters" = some (.ref fL)
  gP : mg "_law_power" = some (.ref fP)
  gMs : mg "_law_measure" = some (.ref fMs)
  gD : mg "_law_due" = some (.ref fD)
  ml : mg "len" = none
  mr : mg "range" = none
  mt : mg "tuple" = none
  ms : mg "sorted" = none
  mi : mg "isinstance" = none
  mn : mg "int" = none
  mb : mg "bool" = none
  mstr : mg "str" = none
section
variable {P : Program} {w : World} {K : PySem.W.Frag} {mg : Str → Option Value} {base : Heap}
def spLaw (K : PySem.W.Frag) : Sp := fun vs H Q _ => ∃ (a : Addr) (ns : List Int), vs = [.ref a] ∧ SqL K H a (ns.map V.int) ∧ ∀ H', Q (.bl true) H'
theorem scLaw : FnScope ["_law_script", "_law_letters_here", "_law_one", "_law_other", "_law_n", "_law_rows", "_law_found", "_law_due_here"] ["_law_script"] (defScope sLaw) := ⟨rfl, rfl, rfl, by decide +kernel, rfl, by decide +kernel, by decide +kernel⟩
/-- a row of the law: what was found, what is due: the same measure -/
def RowAt (H : Hp) (t : Addr) (m : Ms) : Prop := ∃ a b, H t = some (.tup [.ref a, .ref b]) ∧ MsAt H a m ∧ MsAt H b m ∧ Can m ∧ ∀ p ∈ m, LtOk p.1
theorem RowAt.same {H H' : Hp} {t : Addr} {m : Ms} (s : Same H H') (h : RowAt H t m) : RowAt H' t m := by
  obtain ⟨a, b, e, h1, h2, h3, h4⟩ := h
  exact ⟨a, b, s _ _ e, h1.same s, h2.same s, h3, h4⟩
theorem row_list {H : Hp} {D t : Addr} {xs : List V} {o : HO} {m : Ms} (h : H D = some (.lst xs)) (q : RowAt H t m) : RowAt (L2.upd H D o) t m := by
  obtain ⟨a, b, e, h1, h2, h3, h4⟩ := q
  refine ⟨a, b, ?_, ms_list h h1, ms_list h h2, h3, h4⟩
  rw [upd_ne (ne_of e h (fun e => nomatch e))]
  exact e
theorem rows_same {H H' : Hp} {ts : List Addr} {ms : List Ms} (s : Same H H') (p : Paired (RowAt H) ts ms) : Paired (RowAt H') ts ms := Paired.mono (fun t m z => z.same s) p
theorem rows_list {H : Hp} {D : Addr} {xs : List V} {o : HO} {ts : List Addr} {ms : List Ms} (h : H D = some (.lst xs)) (p : Paired (RowAt H) ts ms) : Paired (RowAt (L2.upd H D o)) ts ms := Paired.mono (fun t m z => row_list h z) p
theorem nil_at {H : Hp} {p : Addr} (h : H p = some (.tup [])) : MsAt H p [] := ⟨[], h, .nil⟩
theorem two_at' {a b : V} {i : Int} (h0 : 0 ≤ i) (h1 : i < 2) : atI [a, b] i = some a ∨ atI [a, b] i = some b := by
  have : i = 0 ∨ i = 1 := by omega
  rcases this with rfl | rfl
  · exact .inl rfl
  · exact .inr rfl
theorem three_at {a b c : V} {i : Int} (h0 : 0 ≤ i) (h1 : i < 3) : ∃ v, atI [a, b, c] i = some v ∧ (v = a ∨ v = b ∨ v = c) := by
  have : i = 0 ∨ i = 1 ∨ i = 2 := by omega
  rcases this with rfl | rfl | rfl
  · exact ⟨a, rfl, .inl rfl⟩
  · exact ⟨b, rfl, .inr (.inl rfl)⟩
  · exact ⟨c, rfl, .inr (.inr rfl)⟩
theorem ok_law {f : Addr} {fd : FuncData} (F : Fun K "law" "law" sLaw f fd) (T : Txt K mg) : FnOk P w K mg base CX0 3 f fd ["_law_script"] (spLaw K) := by
  have bT := T.FT.binds (ps := ["one", "other"]) fun _ _ _ _ _ _ us hl => match us, hl with | [_, _], _ => rfl
  have bO := T.FO.binds (ps := ["one", "other"]) fun _ _ _ _ _ _ us hl => match us, hl with | [_, _], _ => rfl
  have bPw := T.FPw.binds (ps := ["one", "n"]) fun _ _ _ _ _ _ us hl => match us, hl with | [_, _], _ => rfl
  have bG := T.FG.binds (ps := ["parts"]) fun _ _ _ _ _ _ us hl => match us, hl with | [_], _ => rfl
  have bC := T.FC.binds (ps := ["_law_script", "_law_k"]) fun _ _ _ _ _ _ us hl => match us, hl with | [_, _], _ => rfl
  have bX := T.FX.binds (ps := ["_law_cell", "_law_k"]) fun _ _ _ _ _ _ us hl => match us, hl with | [_, _], _ => rfl
  have bWd := T.FWd.binds (ps := ["_law_cell", "_law_many"]) fun _ _ _ _ _ _ us hl => match us, hl with | [_, _], _ => rfl
  have bM := T.FM.binds (ps := ["_law_powers"]) fun _ _ _ _ _ _ us hl => match us, hl with | [_], _ => rfl
  have bW := T.FW.binds (ps := ["_law_found"]) fun _ _ _ _ _ _ us hl => match us, hl with | [_], _ => rfl
  have bI := T.FI.binds (ps := ["_law_found"]) fun _ _ _ _ _ _ us hl => match us, hl with | [_], _ => rfl
  have bL := T.FL.binds (ps := ["_law_cell", "_law_many"]) fun _ _ _ _ _ _ us hl => match us, hl with | [_, _], _ => rfl
  have bP := T.FP.binds (ps := ["_law_cell"]) fun _ _ _ _ _ _ us hl => match us, hl with | [_], _ => rfl
  have bMs := T.FMs.binds (ps := ["_law_cell", "_law_letters_here"]) fun _ _ _ _ _ _ us hl => match us, hl with | [_, _], _ => rfl
  have bD := T.FD.binds (ps := ["_law_one", "_law_other", "_law_by"]) fun _ _ _ _ _ _ us hl => match us, hl with | [_, _, _], _ => rfl
  have GC : FnOk P w K mg base CX0 1 T.fC T.dC ["_law_script", "_law_k"] (spCell K) := ok_cell T.FC T.ml
  have GL : FnOk P w K mg base CX0 2 T.fL T.dL ["_law_cell", "_law_many"] spLetters := ok_letters T.FL T.FWd bWd T.gWd T.mr T.mstr
  have GP : FnOk P w K mg base CX0 1 T.fP T.dP ["_law_cell"] spPower := ok_power T.FP
  have GMs : FnOk P w K mg base CX0 2 T.fMs T.dMs ["_law_cell", "_law_letters_here"] spMeasure := ok_measure T.FMs T.FX bX T.gX T.FP bP T.gP T.FM bM T.gM T.mr T.ml T.mt T.ms
  have GD : FnOk P w K mg base CX0 2 T.fD T.dD ["_law_one", "_law_other", "_law_by"] spDue := ok_due T.FD T.FM bM T.gM T.mt T.ms
  have GT : FnOk P w K mg base CX0 2 T.fT T.dT ["one", "other"] (spTwo fun x y => x + y) := ok_times T.FT T.FG bG T.gG T.mt T.ms
  have GO : FnOk P w K mg base CX0 2 T.fO T.dO ["one", "other"] (spTwo fun x y => x - y) := ok_over T.FO T.FG bG T.gG T.mt T.ms
  have GPw : FnOk P w K mg base CX0 2 T.fPw T.dPw ["one", "n"] spPow := ok_pow T.FPw T.FG bG T.gG T.mt T.ms
  have GI : FnOk P w K mg base CX0 2 T.fI T.dI ["_law_found"] spIsM := ok_isM T.FI T.FW bW T.gW T.mi T.mn T.mb T.mt T.ml T.mstr
  refine F.ok scLaw (fun vs H Q E h => ?_) (fun cdv A outer s H vs Q E hr h => ?_)
  · obtain ⟨a, ns, rfl, _⟩ := h
    rfl
  · obtain ⟨a, ns, rfl, hS, q⟩ := h
    have nd := scLaw.nd
    have hr1 : Room 1 _ := hr.mono (by decide)
    have hun : (A.deeper (envOfC "law" (defScope sLaw) s.heap.objs.size f cdv)).units + 64 < cLine := by have := hr.un; omega
    refine ⟨_, pss_cons (ps_set (i := 1) nd rfl (.inl rfl) (pe_call GL hr (by rfl) T.gL T.FL.kp bL .nil pass0 (pa_cons (pe_call GC hr1 (by rfl) T.gC T.FC.kp bC .nil pass0 (pa_cons (pv 0) (pa_cons pe_int pa_nil)))
          (pa_cons (pe_op op_add pe_int (pe_op op_mod (pe_call GC hr1 (by rfl) T.gC T.FC.kp bC .nil pass0 (pa_cons (pv 0) (pa_cons pe_int pa_nil))) pe_int)) pa_nil))))
      (pss_cons (ps_set (i := 2) nd rfl (.inl rfl) (pe_call GMs hr (by rfl) T.gMs T.FMs.kp bMs .nil pass0 (pa_cons (pe_call GC hr1 (by rfl) T.gC T.FC.kp bC .nil pass0 (pa_cons (pv 0) (pa_cons pe_int pa_nil))) (pa_cons (pv 1) pa_nil))))
      (pss_cons (ps_set (i := 3) nd rfl (.inl rfl) (pe_call GMs hr (by rfl) T.gMs T.FMs.kp bMs .nil pass0 (pa_cons (pe_call GC hr1 (by rfl) T.gC T.FC.kp bC .nil pass0 (pa_cons (pv 0) (pa_cons pe_int pa_nil))) (pa_cons (pv 1) pa_nil))))
      (Evl.pss_cut (ps_if (pt_cmpR op_eq (pe_op op_mod (pe_call GC hr1 (by rfl) T.gC T.FC.kp bC .nil pass0 (pa_cons (pv 0) (pa_cons pe_int pa_nil))) pe_int) pe_int (nomark _))
          (pss_one (ps_set (i := 3) nd rfl (.inl rfl) (pe_call GD hr (by rfl) T.gD T.FD.kp bD .nil pass0 (pa_cons (pe_tup pa_nil) (pa_cons (pv 2) (pa_cons
            (pe_ix ix_list (pe_lst (pa_cons (pe_un un_neg pe_int) (pa_cons pe_int (pa_cons pe_int pa_nil)))) (pe_op op_mod (pe_op op_fdiv (pe_call GC hr1 (by rfl) T.gC T.FC.kp bC .nil pass0 (pa_cons (pv 0) (pa_cons pe_int pa_nil))) pe_int) pe_int) (fun _ _ => rfl)) pa_nil)))))) pss_nil)
      (Evl.pss_cut (ps_set (i := 4) nd rfl (.inl rfl) (pe_ix ix_list (pe_lst (pa_cons (pe_op op_sub (pe_op op_mod (pe_call GC hr1 (by rfl) T.gC T.FC.kp bC .nil pass0 (pa_cons (pv 0) (pa_cons pe_int pa_nil))) pe_int) pe_int)
            (pa_cons (pe_call GP hr1 (by rfl) T.gP T.FP.kp bP .nil pass0 (pa_cons (pe_call GC hr1 (by rfl) T.gC T.FC.kp bC .nil pass0 (pa_cons (pv 0) (pa_cons pe_int pa_nil))) pa_nil)) pa_nil)))
            (pe_op op_mod (pe_op op_fdiv (pe_call GC hr1 (by rfl) T.gC T.FC.kp bC .nil pass0 (pa_cons (pv 0) (pa_cons pe_int pa_nil))) pe_int) pe_int) (fun _ _ => rfl)))
      (Evl.pss_cut (ps_set (i := 5) nd rfl (.inl rfl) (pe_lst (pa_cons (pe_tup (pa_cons (pe_call GT hr (by rfl) T.gT T.FT.kp bT .nil pass0 (pa_cons (pv 2) (pa_cons (pv 3) pa_nil))) (pa_cons (pe_call GD hr (by rfl) T.gD T.FD.kp bD .nil pass0 (pa_cons (pv 2) (pa_cons (pv 3) (pa_cons pe_int pa_nil)))) pa_nil)))
            (pa_cons (pe_tup (pa_cons (pe_call GO hr (by rfl) T.gO T.FO.kp bO .nil pass0 (pa_cons (pv 2) (pa_cons (pv 3) pa_nil))) (pa_cons (pe_call GD hr (by rfl) T.gD T.FD.kp bD .nil pass0 (pa_cons (pv 2) (pa_cons (pv 3) (pa_cons (pe_un un_neg pe_int) pa_nil)))) pa_nil))) pa_nil))))
      (Evl.pss_cut (ps_expr (pe_bm PySem.F.plainAttrs_list PySem.F.slot_list_append PySem.F.type_list_append mt_append (pv 5) (pa_cons (pe_tup (pa_cons (pe_call GPw hr (by rfl) T.gPw T.FPw.kp bPw .nil pass0 (pa_cons (pv 2) (pa_cons (pv 4) pa_nil)))
            (pa_cons (pe_call GD hr (by rfl) T.gD T.FD.kp bD .nil pass0 (pa_cons (pe_tup pa_nil) (pa_cons (pv 2) (pa_cons (pv 4) pa_nil)))) pa_nil))) pa_nil)))
      (Evl.pss_cut (ps_expr (pe_bm PySem.F.plainAttrs_list PySem.F.slot_list_append PySem.F.type_list_append mt_append (pv 5) (pa_cons (pe_tup (pa_cons (pe_call GPw hr (by rfl) T.gPw T.FPw.kp bPw .nil pass0 (pa_cons (pv 3) (pa_cons (pv 4) pa_nil)))
            (pa_cons (pe_call GD hr (by rfl) T.gD T.FD.kp bD .nil pass0 (pa_cons (pe_tup pa_nil) (pa_cons (pv 3) (pa_cons (pv 4) pa_nil)))) pa_nil))) pa_nil)))
      (Evl.pss_cut (ps_expr (pe_bm PySem.F.plainAttrs_list PySem.F.slot_list_append PySem.F.type_list_append mt_append (pv 5) (pa_cons (pe_tup (pa_cons (pe_call GO hr (by rfl) T.gO T.FO.kp bO .nil pass0 (pa_cons (pv 2) (pa_cons (pv 2) pa_nil)))
            (pa_cons (pe_tup pa_nil) pa_nil))) pa_nil)))
      (Evl.pss_cut (ps_expr (pe_bm PySem.F.plainAttrs_list PySem.F.slot_list_append PySem.F.type_list_append mt_append (pv 5) (pa_cons (pe_tup (pa_cons (pe_call GT hr (by rfl) T.gT T.FT.kp bT .nil pass0 (pa_cons (pv 3) (pa_cons (pe_tup pa_nil) pa_nil)))
            (pa_cons (pv 3) pa_nil))) pa_nil)))
      (pss_cons (ps_for PassesOwn.never rfl (pi_list (pv 5)) (pg_tup rfl (pgs_cons (pg_name (i := 6) nd rfl (.inl rfl)) (pgs_cons (pg_name (i := 7) nd rfl (.inl rfl)) pgs_nil)))
        (pss_one (ps_if (pw_or (pt_not (pt_val (pe_call GI hr (by rfl) T.gI T.FI.kp bI .nil pass0 (pa_cons (pv 6) pa_nil)))) (pw_or1 (pt_cmpR (op_neD hun) (pv 6) (pv 7) (nomark _)))).pt (pss_one (ps_ret pe_bl)) pss_nil)))
      (pss_one (ps_ret pe_bl)))))))))))), ?_⟩
    -- letters_here
    refine ⟨_, rfl, a, ns, 0, rfl, hS, fun c0 c00 c01 => ?_⟩
    refine ⟨_, rfl, a, ns, 1, rfl, hS, fun c1 c10 c11 => ?_⟩
    (repeat (first | refine ⟨_, rfl, ?_⟩ | refine ⟨_, _, rfl, rfl, ?_⟩ | refine ⟨(by show (0 : Int) < _; decide), ?_⟩ | refine ⟨⟨by decide, by decide⟩, ?_⟩ | refine ⟨.inr (by decide), ?_⟩ | refine ⟨.inl (by decide), ?_⟩ | refine ⟨rfl, ?_⟩))
    refine ⟨c0, _, rfl, c00, by omega, by omega, fun H1 p ws s1 np hp hw0 hwl hw => ?_⟩
    -- one, other
    have hS1 := s1.seq hS
    refine ⟨_, rfl, a, ns, 2, rfl, hS1, fun c2 c20 c21 => ?_⟩
    (repeat (first | refine ⟨_, rfl, ?_⟩ | refine ⟨_, _, rfl, rfl, ?_⟩ | refine ⟨(by show (0 : Int) < _; decide), ?_⟩ | refine ⟨⟨by decide, by decide⟩, ?_⟩ | refine ⟨.inr (by decide), ?_⟩ | refine ⟨.inl (by decide), ?_⟩ | refine ⟨rfl, ?_⟩))
    refine ⟨c2, p, ws, rfl, c20, hp, hw0, hwl, hw, fun H2 p2 m2 s2 np2 hp2 g2 i2 _ => ?_⟩
    have M2 : Mes ws 67 m2 := ⟨g2.can, i2, g2.lt⟩
    have hS2 := s2.seq hS1
    refine ⟨_, rfl, a, ns, 3, rfl, hS2, fun c3 c30 c31 => ?_⟩
    (repeat (first | refine ⟨_, rfl, ?_⟩ | refine ⟨_, _, rfl, rfl, ?_⟩ | refine ⟨(by show (0 : Int) < _; decide), ?_⟩ | refine ⟨⟨by decide, by decide⟩, ?_⟩ | refine ⟨.inr (by decide), ?_⟩ | refine ⟨.inl (by decide), ?_⟩ | refine ⟨rfl, ?_⟩))
    refine ⟨c3, p, ws, rfl, c30, s2 _ _ hp, hw0, hwl, hw, fun H3 p3 m3 s3 np3 hp3 g3 i3 _ => ?_⟩
    have M3 : Mes ws 67 m3 := ⟨g3.can, i3, g3.lt⟩
    have hS3 := s3.seq hS2
    have B2 : Bd m2 := M2.bd hwl (by decide)
    -- if .. : other = due((), one, ..)
    refine ⟨fun σ' H' => ∃ (p3 : Addr) (m3 : Ms), σ' = [some (.ref a), some (.ref p), some (.ref p2), some (.ref p3), none, none, none, none] ∧ Same H3 H' ∧ MsAt H' p3 m3 ∧ Mes ws 80 m3, ?_, ?_⟩
    · refine ⟨_, rfl, a, ns, 4, rfl, hS3, fun c4 c40 c41 => ?_⟩
      (repeat (first | refine ⟨_, rfl, ?_⟩ | refine ⟨_, _, rfl, rfl, ?_⟩ | refine ⟨(by show (0 : Int) < _; decide), ?_⟩ | refine ⟨⟨by decide, by decide⟩, ?_⟩ | refine ⟨.inr (by decide), ?_⟩ | refine ⟨.inl (by decide), ?_⟩ | refine ⟨rfl, ?_⟩))
      refine ite2 (fun _ => ?_) (fun _ => ⟨p3, m3, rfl, Same.refl _, hp3, M3.mono (by decide)⟩)
      refine ⟨Nat.zero_le _, fun e0 ne0 => ?_⟩
      (repeat (first | refine ⟨_, rfl, ?_⟩ | refine ⟨_, _, rfl, rfl, ?_⟩ | refine ⟨(by show (0 : Int) < _; decide), ?_⟩ | refine ⟨⟨by decide, by decide⟩, ?_⟩ | refine ⟨.inr (by decide), ?_⟩ | refine ⟨.inl (by decide), ?_⟩ | refine ⟨rfl, ?_⟩))
      refine ⟨(by show 3 ≤ sizeLine; decide), fun l nl => ?_⟩
      have s4 := (same_new (o := .tup []) ne0).trans (same_new (o := .lst [V.int (-1), V.int 1, V.int 2]) nl)
      refine ⟨_, rfl, a, ns, 4, rfl, (s4.seq hS3), fun c4 c40 c41 => ?_⟩
      (repeat (first | refine ⟨_, rfl, ?_⟩ | refine ⟨_, _, rfl, rfl, ?_⟩ | refine ⟨(by show (0 : Int) < _; decide), ?_⟩ | refine ⟨⟨by decide, by decide⟩, ?_⟩ | refine ⟨.inr (by decide), ?_⟩ | refine ⟨.inl (by decide), ?_⟩ | refine ⟨rfl, ?_⟩))
      obtain ⟨v, hv1, hv2⟩ := three_at (a := V.int (-1)) (b := V.int 1) (c := V.int 2) (i := c4 / 5 % 3) (by omega) (by omega)
      obtain ⟨x, rfl, hx⟩ : ∃ x : Int, v = .int x ∧ x.natAbs ≤ 2 := by
        rcases hv2 with e | e | e
        · exact ⟨_, e, by decide⟩
        · exact ⟨_, e, by decide⟩
        · exact ⟨_, e, by decide⟩
      refine ⟨l, _, _, _, rfl, rfl, SqL.of upd_same, hv1, ?_⟩
      refine ⟨e0, p2, [], m2, x, rfl, nil_at (upd_other upd_same nl), (hp2.same s3).same s4, (mes_nil ws 1).bd hwl (by decide), B2, Nat.lt_of_le_of_lt hx (by decide), fun H5 p5 r s5 np5 hp5 hc he => ?_⟩
      refine ⟨p5, r, rfl, s4.trans s5, hp5, Mes.of hc (fun j hj => ?_) (fun j => ?_)⟩
      · rw [he, M2.sum] at hj
        refine M2.at_in (j := j) fun z => hj ?_
        rw [z]
        show (0 : Int) + 0 * x = 0
        omega
      · rw [he, M2.sum]
        show ((0 : Int) + at0 m2 j * x).natAbs < 2 ^ 80
        rw [Int.zero_add, Int.natAbs_mul]
        have h1 := M2.at_lt j
        have h2 : (at0 m2 j).natAbs * x.natAbs ≤ (at0 m2 j).natAbs * 2 := Nat.mul_le_mul_left _ hx
        omega
    rintro σ' H4 ⟨p3, m3, rfl, s4, hp3, M3⟩
    have hS4 := s4.seq hS3
    have hp2' := (hp2.same s3).same s4
    have B3 : Bd m3 := M3.bd hwl (by decide)
    -- n
    refine ⟨fun σ' H' => ∃ n : Int, σ' = [some (.ref a), some (.ref p), some (.ref p2), some (.ref p3), some (.int n), none, none, none] ∧ Same H4 H' ∧ n.natAbs < 2 ^ 67, ?_, ?_⟩
    · refine ⟨_, rfl, a, ns, 5, rfl, hS4, fun c5 c50 c51 => ?_⟩
      (repeat (first | refine ⟨_, rfl, ?_⟩ | refine ⟨_, _, rfl, rfl, ?_⟩ | refine ⟨(by show (0 : Int) < _; decide), ?_⟩ | refine ⟨⟨by decide, by decide⟩, ?_⟩ | refine ⟨.inr (by decide), ?_⟩ | refine ⟨.inl (by decide), ?_⟩ | refine ⟨rfl, ?_⟩))
      refine ⟨a, ns, 5, rfl, hS4, fun d5 d50 d51 => ?_⟩
      refine ⟨d5, rfl, d50, by omega, fun y hy => ?_⟩
      refine ⟨(by show 2 ≤ sizeLine; decide), fun l nl => ?_⟩
      have s5 : Same H4 (upd H4 l (.lst [V.int (c5 % 9 - 4), V.int y])) := same_new nl
      refine ⟨_, rfl, a, ns, 5, rfl, (s5.seq hS4), fun e5 e50 e51 => ?_⟩
      (repeat (first | refine ⟨_, rfl, ?_⟩ | refine ⟨_, _, rfl, rfl, ?_⟩ | refine ⟨(by show (0 : Int) < _; decide), ?_⟩ | refine ⟨⟨by decide, by decide⟩, ?_⟩ | refine ⟨.inr (by decide), ?_⟩ | refine ⟨.inl (by decide), ?_⟩ | refine ⟨rfl, ?_⟩))
      obtain ⟨v, hv1, hv2⟩ := two_at (a := V.int (c5 % 9 - 4)) (b := V.int y) (i := e5 / 9 % 2) (by omega) (by omega)
      obtain ⟨x, rfl, hx⟩ : ∃ x : Int, v = .int x ∧ x.natAbs < 2 ^ 67 := by
        rcases hv2 with e | e
        · exact ⟨_, e, by omega⟩
        · exact ⟨_, e, hy⟩
      refine ⟨l, _, _, _, rfl, rfl, SqL.of upd_same, hv1, ?_⟩
      exact ⟨x, rfl, s5, hx⟩
    rintro σ' H5 ⟨n, rfl, s5, hn⟩
    have hn2 : n.natAbs < 2 ^ 250 := Nat.lt_trans hn (by decide)
    have hp2 := hp2'.same s5
    have hp3 := hp3.same s5
    have B0 : Bd [] := (mes_nil ws 1).bd hwl (by decide)
    have L2' := M2.ltok hw
    have L3' := M3.ltok hw
    -- rows
    refine ⟨fun σ' H' => ∃ (R : Addr) (ts : List Addr) (ms : List Ms), σ' = [some (.ref a), some (.ref p), some (.ref p2), some (.ref p3), some (.int n), some (.ref R), none, none] ∧ H5 R = none ∧ Same H5 H' ∧ H' R = some (.lst (ts.map V.ref)) ∧ Paired (RowAt H') ts ms ∧ ts.length ≤ 2, ?_, ?_⟩
    · refine ⟨_, rfl, _, rfl, p2, p3, m2, m3, rfl, hp2, hp3, B2, B3, fun H6 q1 r1 s6 nq1 hq1 k1 e1 => ?_⟩
      refine ⟨_, rfl, _, rfl, p2, p3, m2, m3, 1, rfl, hp2.same s6, hp3.same s6, B2, B3, by decide, fun H7 q2 r2 s7 nq2 hq2 k2 e2 => ?_⟩
      refine ⟨(by show 2 ≤ sizeLine; decide), fun t1 nt1 => ?_⟩
      have s8 : Same H7 (upd H7 t1 (.tup [.ref q1, .ref q2])) := same_new nt1
      have s58 := (s6.trans s7).trans s8
      refine ⟨_, rfl, _, rfl, p2, p3, m2, m3, rfl, hp2.same s58, hp3.same s58, B2, B3, fun H9 q3 r3 s9 nq3 hq3 k3 e3 => ?_⟩
      have s59 := s58.trans s9
      refine ⟨_, rfl, _, rfl, 1, rfl, p2, p3, m2, m3, -1, rfl, hp2.same s59, hp3.same s59, B2, B3, by decide, fun H10 q4 r4 s10 nq4 hq4 k4 e4 => ?_⟩
      refine ⟨(by show 2 ≤ sizeLine; decide), fun t2 nt2 => ?_⟩
      refine ⟨(by show 2 ≤ sizeLine; decide), fun R nR => ?_⟩
      have e12 : r1 = r2 := can_ext k1 k2 fun j => by
        rw [e1, e2]
        show sumAt m2 j + sumAt m3 j = _
        omega
      have e34 : r3 = r4 := can_ext k3 k4 fun j => by
        rw [e3, e4]
        show sumAt m2 j - sumAt m3 j = _
        omega
      subst e12
      subst e34
      have sT1 : Same (upd H7 t1 (.tup [.ref q1, .ref q2])) (upd (upd H10 t2 (.tup [.ref q3, .ref q4])) R (.lst [.ref t1, .ref t2])) := (s9.trans s10).trans ((same_new nt2).trans (same_new nR))
      have sT2 : Same H10 (upd (upd H10 t2 (.tup [.ref q3, .ref q4])) R (.lst [.ref t1, .ref t2])) := (same_new nt2).trans (same_new nR)
      have in1 : ∀ x ∈ r1, LtOk x.1 := fun x hx => by
        have z := ((k1.mem x.1 x.2).mp hx)
        rw [e1] at z
        have z1 : sumAt m2 x.1 + sumAt m3 x.1 = x.2 := z.2
        by_cases c : sumAt m2 x.1 = 0
        · have c2 : sumAt m3 x.1 ≠ 0 := by have := z.1; omega
          rw [M3.sum] at c2
          exact hw _ (M3.at_in c2)
        · rw [M2.sum] at c
          exact hw _ (M2.at_in c)
      have in3 : ∀ x ∈ r3, LtOk x.1 := fun x hx => by
        have z := ((k3.mem x.1 x.2).mp hx)
        rw [e3] at z
        have z1 : sumAt m2 x.1 - sumAt m3 x.1 = x.2 := z.2
        by_cases c : sumAt m2 x.1 = 0
        · have c2 : sumAt m3 x.1 ≠ 0 := by have := z.1; omega
          rw [M3.sum] at c2
          exact hw _ (M3.at_in c2)
        · rw [M2.sum] at c
          exact hw _ (M2.at_in c)
      refine ⟨R, [t1, t2], [r1, r3], rfl, ?_, s59.trans (s10.trans sT2), upd_same, .cons ⟨q1, q2, sT1 _ _ upd_same, (hq1.same s7).same (s8.trans sT1), hq2.same (s8.trans sT1), k1, in1⟩ (.cons ⟨q3, q4, upd_other upd_same nR, (hq3.same s10).same sT2, hq4.same sT2, k3, in3⟩ .nil), Nat.le_refl _⟩
      exact (s59.trans (s10.trans (same_new nt2))).free nR
    rintro σ' H6 ⟨R, ts, ms, rfl, nR, s6, hR, pr, hts⟩
    let Rw : Nat → L2.St → Hp → Prop := fun k σ' H' => ∃ (ts : List Addr) (ms : List Ms), σ' = [some (V.ref a), some (V.ref p), some (V.ref p2), some (V.ref p3), some (V.int n), some (V.ref R), none, none] ∧ Same H5 H' ∧ H' R = some (.lst (ts.map V.ref)) ∧ Paired (RowAt H') ts ms ∧ ts.length ≤ k
    -- one row more, at t
    have push : ∀ {H6 H7 : Hp} {ts : List Addr} {ms : List Ms} {t : Addr} {r : Ms} {k : Nat}, H6 R = some (.lst (ts.map V.ref)) → Same H5 H6 → Paired (RowAt H6) ts ms → ts.length ≤ k → Same H6 H7 → RowAt H7 t r → k ≤ 100 →
        ∃ (l : Addr) (xs : List V) (y : V), V.ref R = .ref l ∧ [V.ref t] = [y] ∧ H7 l = some (.lst xs) ∧ xs.length < sizeLine ∧ Rw (k + 1) [some (V.ref a), some (V.ref p), some (V.ref p2), some (V.ref p3), some (V.int n), some (V.ref R), none, none] (upd H7 l (.lst (xs ++ [y]))) := by
      intro H6 H7 ts ms t r k hR s6 pr hts s7 row hk
      have hR7 := s7 _ _ hR
      refine ⟨R, ts.map V.ref, .ref t, rfl, rfl, hR7, (by rw [List.length_map]; exact small1000 (by omega)), ts ++ [t], ms ++ [r], rfl, same_upd (s6.trans s7) nR, ?_, Paired.snoc (rows_list hR7 (rows_same s7 pr)) (row_list hR7 row), ?_⟩
      · rw [upd_same, List.map_append]
        rfl
      · rw [List.length_append]
        exact Nat.add_le_add_right hts 1
    refine ⟨Rw 3, ?_, ?_⟩
    · refine ⟨_, rfl, .inl ⟨rfl, _, .inl (.inl hR)⟩, ?_⟩
      refine ⟨_, rfl, _, rfl, p2, m2, n, rfl, (hp2).same s6, B2, hn2, fun H7 q1 r1 s7 nq1 hq1 k1 e1 => ?_⟩
      refine ⟨Nat.zero_le _, fun e0 ne0 => ?_⟩
      have se : Same H7 (upd H7 e0 (.tup [])) := same_new ne0
      refine ⟨_, rfl, _, rfl, e0, p2, [], m2, n, rfl, nil_at upd_same, (hp2).same (s6.trans (s7.trans se)), B0, B2, hn2, fun H8 q2 r2 s8 nq2 hq2 k2 e2 => ?_⟩
      refine ⟨(by show 2 ≤ sizeLine; decide), fun t nt => ?_⟩
      have e12 : r1 = r2 := can_ext k1 k2 fun j => by
        rw [e1, e2]
        show _ = 0 + _
        omega
      subst e12
      have inn : ∀ x ∈ r1, LtOk x.1 := fun x hx => by
        have z := ((k1.mem x.1 x.2).mp hx)
        rw [e1] at z
        have c : sumAt m2 x.1 ≠ 0 := fun c => by
          rw [c, Int.zero_mul] at z
          exact z.1 z.2.symm
        rw [M2.sum] at c
        exact hw _ (M2.at_in c)
      have st : Same H8 (upd H8 t (.tup [.ref q1, .ref q2])) := same_new nt
      have s78 := (s7.trans se).trans (s8.trans st)
      exact push hR s6 pr hts s78 ⟨q1, q2, upd_same, hq1.same (se.trans (s8.trans st)), hq2.same st, k1, inn⟩ (by decide)
    rintro σ' H6 ⟨ts, ms, rfl, s6, hR, pr, hts⟩
    refine ⟨Rw 4, ?_, ?_⟩
    · refine ⟨_, rfl, .inl ⟨rfl, _, .inl (.inl hR)⟩, ?_⟩
      refine ⟨_, rfl, _, rfl, p3, m3, n, rfl, (hp3).same s6, B3, hn2, fun H7 q1 r1 s7 nq1 hq1 k1 e1 => ?_⟩
      refine ⟨Nat.zero_le _, fun e0 ne0 => ?_⟩
      have se : Same H7 (upd H7 e0 (.tup [])) := same_new ne0
      refine ⟨_, rfl, _, rfl, e0, p3, [], m3, n, rfl, nil_at upd_same, (hp3).same (s6.trans (s7.trans se)), B0, B3, hn2, fun H8 q2 r2 s8 nq2 hq2 k2 e2 => ?_⟩
      refine ⟨(by show 2 ≤ sizeLine; decide), fun t nt => ?_⟩
      have e12 : r1 = r2 := can_ext k1 k2 fun j => by
        rw [e1, e2]
        show _ = 0 + _
        omega
      subst e12
      have inn : ∀ x ∈ r1, LtOk x.1 := fun x hx => by
        have z := ((k1.mem x.1 x.2).mp hx)
        rw [e1] at z
        have c : sumAt m3 x.1 ≠ 0 := fun c => by
          rw [c, Int.zero_mul] at z
          exact z.1 z.2.symm
        rw [M3.sum] at c
        exact hw _ (M3.at_in c)
      have st : Same H8 (upd H8 t (.tup [.ref q1, .ref q2])) := same_new nt
      have s78 := (s7.trans se).trans (s8.trans st)
      exact push hR s6 pr hts s78 ⟨q1, q2, upd_same, hq1.same (se.trans (s8.trans st)), hq2.same st, k1, inn⟩ (by decide)
    rintro σ' H6 ⟨ts, ms, rfl, s6, hR, pr, hts⟩
    -- over(one, one), ()
    refine ⟨Rw 5, ?_, ?_⟩
    · refine ⟨_, rfl, .inl ⟨rfl, _, .inl (.inl hR)⟩, ?_⟩
      refine ⟨_, rfl, _, rfl, p2, p2, m2, m2, rfl, hp2.same s6, hp2.same s6, B2, B2, fun H7 q1 r1 s7 nq1 hq1 k1 e1 => ?_⟩
      refine ⟨Nat.zero_le _, fun e0 ne0 => ?_⟩
      have se : Same H7 (upd H7 e0 (.tup [])) := same_new ne0
      refine ⟨(by show 2 ≤ sizeLine; decide), fun t nt => ?_⟩
      have st : Same (upd H7 e0 (.tup [])) (upd (upd H7 e0 (.tup [])) t (.tup [.ref q1, .ref e0])) := same_new nt
      have e12 : r1 = [] := can_ext k1 can_nil fun j => by
        rw [e1]
        show sumAt m2 j - sumAt m2 j = 0
        omega
      subst e12
      exact push hR s6 pr hts (s7.trans (se.trans st)) ⟨q1, e0, upd_same, hq1.same (se.trans st), nil_at (upd_other upd_same nt), can_nil, fun x hx => absurd hx (by simp)⟩ (by decide)
    rintro σ' H6 ⟨ts, ms, rfl, s6, hR, pr, hts⟩
    -- times(other, ()), other
    refine ⟨Rw 6, ?_, ?_⟩
    · refine ⟨_, rfl, .inl ⟨rfl, _, .inl (.inl hR)⟩, ?_⟩
      refine ⟨_, rfl, Nat.zero_le _, fun e0 ne0 => ?_⟩
      have se : Same H6 (upd H6 e0 (.tup [])) := same_new ne0
      refine ⟨p3, e0, m3, [], rfl, hp3.same (s6.trans se), nil_at upd_same, B3, B0, fun H7 q1 r1 s7 nq1 hq1 k1 e1 => ?_⟩
      refine ⟨_, rfl, (by show 2 ≤ sizeLine; decide), fun t nt => ?_⟩
      have st : Same H7 (upd H7 t (.tup [.ref q1, .ref p3])) := same_new nt
      have e12 : r1 = m3 := can_ext k1 M3.can fun j => by
        rw [e1, ← M3.sum]
        show sumAt m3 j + 0 = _
        omega
      subst e12
      exact push hR s6 pr hts (se.trans (s7.trans st)) ⟨q1, p3, upd_same, hq1.same st, hp3.same (s6.trans (se.trans (s7.trans st))), k1, L3'⟩ (by decide)
    rintro σ' H6 ⟨ts, ms, rfl, s6, hR, pr, hts⟩
    -- the rows, one after another
    refine ⟨_, rfl, R, rfl, ⟨_, SqL.of hR⟩, for_list (xs := ts.map V.ref) (fun i σ H7 => H7 = H6 ∧ ∃ (v6 v7 : Option V), σ = [some (.ref a), some (.ref p), some (.ref p2), some (.ref p3), some (.int n), some (.ref R), v6, v7])
      ⟨rfl, none, none, rfl⟩ (fun i σ H7 _ z => by rw [z.1]; exact SqL.of hR) ?_ ?_⟩
    · rintro i x σ H7 hx ⟨rfl, v6, v7, rfl⟩
      obtain ⟨t, ht, rfl⟩ := at_map hx
      obtain ⟨m, hm, q1, q2, htup, h1, h2, hc, hl⟩ := paired_ix pr ht
      refine ⟨t, _, rfl, SqT.of htup, rfl, _, _, rfl, _, _, rfl, rfl, ?_⟩
      refine ⟨_, rfl, q1, m, rfl, h1, hc, hl, true, rfl, iteF ?_⟩
      refine ⟨_, rfl, _, rfl, msD m, msD m, h1.dp, h2.dp, msD_shaped hl, msD_shaped hl, _, rfl, ?_⟩
      rw [msD_eqv hl]
      exact iteF ⟨rfl, _, _, rfl⟩
    · rintro σ H7 ⟨rfl, v6, v7, rfl⟩
      exact q H7
end
/-! ### what the top has written; the law's own head -/
theorem all_mk {l : PySem.W.OpenLaw} {w : World} {K : PySem.W.Frag} {h : Heap} {mg : Str → Option Value} {fa : Addr} (X : K.In h) (G : h.Ns mainGlobals mg) (hfa : mg "law" = some (.ref fa))
    {od1 an1 : Option Addr} {sl1 : Array (Option Value)} {oc1 kV1 dc1 pm1 cd1 ct1 : Value} {f1 : Addr}
    (a1 : PySem.W.nsIn K mainGlobals "times" = some (some (.ref f1))) (l1 : K.lookup f1 = some ⟨oc1, od1, .func (PySem.W.fnOf "times" "times" (defArgs sTimes) (defBody sTimes) (defScope sTimes) .none kV1 dc1 pm1 an1 cd1 ct1), sl1⟩) (c1 : PySem.W.codeIn K cd1 "times" = true) (k1 : PySem.W.keepIn K (.ref f1) = true)
    {od2 an2 : Option Addr} {sl2 : Array (Option Value)} {oc2 kV2 dc2 pm2 cd2 ct2 : Value} {f2 : Addr}
    (a2 : PySem.W.nsIn K mainGlobals "over" = some (some (.ref f2))) (l2 : K.lookup f2 = some ⟨oc2, od2, .func (PySem.W.fnOf "over" "over" (defArgs sOver) (defBody sOver) (defScope sOver) .none kV2 dc2 pm2 an2 cd2 ct2), sl2⟩) (c2 : PySem.W.codeIn K cd2 "over" = true) (k2 : PySem.W.keepIn K (.ref f2) = true)
    {od3 an3 : Option Addr} {sl3 : Array (Option Value)} {oc3 kV3 dc3 pm3 cd3 ct3 : Value} {f3 : Addr}
    (a3 : PySem.W.nsIn K mainGlobals "power" = some (some (.ref f3))) (l3 : K.lookup f3 = some ⟨oc3, od3, .func (PySem.W.fnOf "power" "power" (defArgs sPow) (defBody sPow) (defScope sPow) .none kV3 dc3 pm3 an3 cd3 ct3), sl3⟩) (c3 : PySem.W.codeIn K cd3 "power" = true) (k3 : PySem.W.keepIn K (.ref f3) = true)
    {od4 an4 : Option Addr} {sl4 : Array (Option Value)} {oc4 kV4 dc4 pm4 cd4 ct4 : Value} {f4 : Addr}
    (a4 : PySem.W.nsIn K mainGlobals "gathered" = some (some (.ref f4))) (l4 : K.lookup f4 = some ⟨oc4, od4, .func (PySem.W.fnOf "gathered" "gathered" (defArgs sGath) (defBody sGath) (defScope sGath) .none kV4 dc4 pm4 an4 cd4 ct4), sl4⟩) (c4 : PySem.W.codeIn K cd4 "gathered" = true) (k4 : PySem.W.keepIn K (.ref f4) = true)
    {od5 an5 : Option Addr} {sl5 : Array (Option Value)} {oc5 kV5 dc5 pm5 cd5 ct5 : Value} {f5 : Addr}
    (a5 : PySem.W.nsIn K mainGlobals "_law_cell_at" = some (some (.ref f5))) (l5 : K.lookup f5 = some ⟨oc5, od5, .func (PySem.W.fnOf "_law_cell_at" "_law_cell_at" (defArgs sCell) (defBody sCell) (defScope sCell) .none kV5 dc5 pm5 an5 cd5 ct5), sl5⟩) (c5 : PySem.W.codeIn K cd5 "_law_cell_at" = true) (k5 : PySem.W.keepIn K (.ref f5) = true)
    {od6 an6 : Option Addr} {sl6 : Array (Option Value)} {oc6 kV6 dc6 pm6 cd6 ct6 : Value} {f6 : Addr}
    (a6 : PySem.W.nsIn K mainGlobals "_law_mix" = some (some (.ref f6))) (l6 : K.lookup f6 = some ⟨oc6, od6, .func (PySem.W.fnOf "_law_mix" "_law_mix" (defArgs sMix) (defBody sMix) (defScope sMix) .none kV6 dc6 pm6 an6 cd6 ct6), sl6⟩) (c6 : PySem.W.codeIn K cd6 "_law_mix" = true) (k6 : PySem.W.keepIn K (.ref f6) = true)
    {od7 an7 : Option Addr} {sl7 : Array (Option Value)} {oc7 kV7 dc7 pm7 cd7 ct7 : Value} {f7 : Addr}
    (a7 : PySem.W.nsIn K mainGlobals "_law_words" = some (some (.ref f7))) (l7 : K.lookup f7 = some ⟨oc7, od7, .func (PySem.W.fnOf "_law_words" "_law_words" (defArgs sWords) (defBody sWords) (defScope sWords) .none kV7 dc7 pm7 an7 cd7 ct7), sl7⟩) (c7 : PySem.W.codeIn K cd7 "_law_words" = true) (k7 : PySem.W.keepIn K (.ref f7) = true)
    {od8 an8 : Option Addr} {sl8 : Array (Option Value)} {oc8 kV8 dc8 pm8 cd8 ct8 : Value} {f8 : Addr}
    (a8 : PySem.W.nsIn K mainGlobals "_law_made" = some (some (.ref f8))) (l8 : K.lookup f8 = some ⟨oc8, od8, .func (PySem.W.fnOf "_law_made" "_law_made" (defArgs sMade) (defBody sMade) (defScope sMade) .none kV8 dc8 pm8 an8 cd8 ct8), sl8⟩) (c8 : PySem.W.codeIn K cd8 "_law_made" = true) (k8 : PySem.W.keepIn K (.ref f8) = true)
    {od9 an9 : Option Addr} {sl9 : Array (Option Value)} {oc9 kV9 dc9 pm9 cd9 ct9 : Value} {f9 : Addr}
    (a9 : PySem.W.nsIn K mainGlobals "_law_whole" = some (some (.ref f9))) (l9 : K.lookup f9 = some ⟨oc9, od9, .func (PySem.W.fnOf "_law_whole" "_law_whole" (defArgs sWhole) (defBody sWhole) (defScope sWhole) .none kV9 dc9 pm9 an9 cd9 ct9), sl9⟩) (c9 : PySem.W.codeIn K cd9 "_law_whole" = true) (k9 : PySem.W.keepIn K (.ref f9) = true)
    {od10 an10 : Option Addr} {sl10 : Array (Option Value)} {oc10 kV10 dc10 pm10 cd10 ct10 : Value} {f10 : Addr}
    (a10 : PySem.W.nsIn K mainGlobals "_law_is_measure" = some (some (.ref f10))) (l10 : K.lookup f10 = some ⟨oc10, od10, .func (PySem.W.fnOf "_law_is_measure" "_law_is_measure" (defArgs sIsM) (defBody sIsM) (defScope sIsM) .none kV10 dc10 pm10 an10 cd10 ct10), sl10⟩) (c10 : PySem.W.codeIn K cd10 "_law_is_measure" = true) (k10 : PySem.W.keepIn K (.ref f10) = true)
    {od11 an11 : Option Addr} {sl11 : Array (Option Value)} {oc11 kV11 dc11 pm11 cd11 ct11 : Value} {f11 : Addr}
    (a11 : PySem.W.nsIn K mainGlobals "_law_letters" = some (some (.ref f11))) (l11 : K.lookup f11 = some ⟨oc11, od11, .func (PySem.W.fnOf "_law_letters" "_law_letters" (defArgs sLetters) (defBody sLetters) (defScope sLetters) .none kV11 dc11 pm11 an11 cd11 ct11), sl11⟩) (c11 : PySem.W.codeIn K cd11 "_law_letters" = true) (k11 : PySem.W.keepIn K (.ref f11) = true)
    {od12 an12 : Option Addr} {sl12 : Array (Option Value)} {oc12 kV12 dc12 pm12 cd12 ct12 : Value} {f12 : Addr}
    (a12 : PySem.W.nsIn K mainGlobals "_law_power" = some (some (.ref f12))) (l12 : K.lookup f12 = some ⟨oc12, od12, .func (PySem.W.fnOf "_law_power" "_law_power" (defArgs sPower) (defBody sPower) (defScope sPower) .none kV12 dc12 pm12 an12 cd12 ct12), sl12⟩) (c12 : PySem.W.codeIn K cd12 "_law_power" = true) (k12 : PySem.W.keepIn K (.ref f12) = true)
    {od13 an13 : Option Addr} {sl13 : Array (Option Value)} {oc13 kV13 dc13 pm13 cd13 ct13 : Value} {f13 : Addr}
    (a13 : PySem.W.nsIn K mainGlobals "_law_measure" = some (some (.ref f13))) (l13 : K.lookup f13 = some ⟨oc13, od13, .func (PySem.W.fnOf "_law_measure" "_law_measure" (defArgs sMeasure) (defBody sMeasure) (defScope sMeasure) .none kV13 dc13 pm13 an13 cd13 ct13), sl13⟩) (c13 : PySem.W.codeIn K cd13 "_law_measure" = true) (k13 : PySem.W.keepIn K (.ref f13) = true)
    {od14 an14 : Option Addr} {sl14 : Array (Option Value)} {oc14 kV14 dc14 pm14 cd14 ct14 : Value} {f14 : Addr}
    (a14 : PySem.W.nsIn K mainGlobals "_law_due" = some (some (.ref f14))) (l14 : K.lookup f14 = some ⟨oc14, od14, .func (PySem.W.fnOf "_law_due" "_law_due" (defArgs sDue) (defBody sDue) (defScope sDue) .none kV14 dc14 pm14 an14 cd14 ct14), sl14⟩) (c14 : PySem.W.codeIn K cd14 "_law_due" = true) (k14 : PySem.W.keepIn K (.ref f14) = true)
    {od15 an15 : Option Addr} {sl15 : Array (Option Value)} {oc15 kV15 dc15 pm15 cd15 ct15 : Value} {f15 : Addr}
    (a15 : PySem.W.nsIn K mainGlobals "law" = some (some (.ref f15))) (l15 : K.lookup f15 = some ⟨oc15, od15, .func (PySem.W.fnOf "law" "law" (defArgs sLaw) (defBody sLaw) (defScope sLaw) .none kV15 dc15 pm15 an15 cd15 ct15), sl15⟩) (c15 : PySem.W.codeIn K cd15 "law" = true) (k15 : PySem.W.keepIn K (.ref f15) = true)
    (z0 : PySem.W.nsIn K mainGlobals "len" = some none)
    (z1 : PySem.W.nsIn K mainGlobals "range" = some none)
    (z2 : PySem.W.nsIn K mainGlobals "tuple" = some none)
    (z3 : PySem.W.nsIn K mainGlobals "sorted" = some none)
    (z4 : PySem.W.nsIn K mainGlobals "isinstance" = some none)
    (z5 : PySem.W.nsIn K mainGlobals "int" = some none)
    (z6 : PySem.W.nsIn K mainGlobals "bool" = some none)
    (z7 : PySem.W.nsIn K mainGlobals "str" = some none) :
    ∃ fd : FuncData, (∀ (s : Shared) (v : Value), BindsTo s fd ⟨[v], []⟩ [("_law_script", v)]) ∧ ∀ base : Heap, K.In base → base.Ns mainGlobals mg → FnOk l.prog w K mg base CX0 3 fa fd ["_law_script"] (spLaw K) := by
  have e := hfa.symm.trans (PySem.W.mg_of X G a15)
  cases e
  have T : Txt K mg := ⟨f1, f2, f3, f4, f5, f6, f7, f8, f9, f10, f11, f12, f13, f14, _, _, _, _, _, _, _, _, _, _, _, _, _, _, fun_mk l1 c1 k1, fun_mk l2 c2 k2, fun_mk l3 c3 k3, fun_mk l4 c4 k4, fun_mk l5 c5 k5, fun_mk l6 c6 k6, fun_mk l7 c7 k7, fun_mk l8 c8 k8, fun_mk l9 c9 k9, fun_mk l10 c10 k10, fun_mk l11 c11 k11, fun_mk l12 c12 k12, fun_mk l13 c13 k13, fun_mk l14 c14 k14, PySem.W.mg_of X G a1, PySem.W.mg_of X G a2, PySem.W.mg_of X G a3, PySem.W.mg_of X G a4, PySem.W.mg_of X G a5, PySem.W.mg_of X G a6, PySem.W.mg_of X G a7, PySem.W.mg_of X G a8, PySem.W.mg_of X G a9, PySem.W.mg_of X G a10, PySem.W.mg_of X G a11, PySem.W.mg_of X G a12, PySem.W.mg_of X G a13, PySem.W.mg_of X G a14, PySem.W.mg_none_of X G z0, PySem.W.mg_none_of X G z1, PySem.W.mg_none_of X G z2, PySem.W.mg_none_of X G z3, PySem.W.mg_none_of X G z4, PySem.W.mg_none_of X G z5, PySem.W.mg_none_of X G z6, PySem.W.mg_none_of X G z7⟩
  have FL := fun_mk (st := sLaw) l15 c15 k15
  exact ⟨_, fun s v => .of_eq rfl, fun base _ _ => ok_law FL T⟩
end MK
open PySem PySem.W PyProof.Rows
set_option maxHeartbeats 0 in
theorem PySem.Challenge.cw_measurekind_k01_measures_multiplied_holds : PySem.Challenge.rw_measurekind_k01_measures_multiplied.Holds := by
  w_on; o_law; k_head; (case hw => w_witness2)
  k_fill
  refine L2.walk_of (l := PySem.Challenge.rw_measurekind_k01_measures_multiplied) (n := 63) (k := 3) (x := "_law_script") (CX := fun _ => L2.CX0) (sp := fun w => MK.spLaw _) rfl (by decide) rfl ⟨rfl, by decide, by decide⟩ (fun w h Y => PySem.W.kIn_of Y) ?F (fun _ _ a ns hl _ hS => ⟨a, ns, rfl, hS, fun _ => rfl⟩) (fun _ _ _ _ _ h => h)
  case F =>
    intro w mg fa h KX G hmg
    refine' MK.all_mk KX G hmg ?a1 ?l1 ?c1 ?k1 ?a2 ?l2 ?c2 ?k2 ?a3 ?l3 ?c3 ?k3 ?a4 ?l4 ?c4 ?k4 ?a5 ?l5 ?c5 ?k5 ?a6 ?l6 ?c6 ?k6 ?a7 ?l7 ?c7 ?k7 ?a8 ?l8 ?c8 ?k8 ?a9 ?l9 ?c9 ?k9 ?a10 ?l10 ?c10 ?k10 ?a11 ?l11 ?c11 ?k11 ?a12 ?l12 ?c12 ?k12 ?a13 ?l13 ?c13 ?k13 ?a14 ?l14 ?c14 ?k14 ?a15 ?l15 ?c15 ?k15 ?z0 ?z1 ?z2 ?z3 ?z4 ?z5 ?z6 ?z7
    (case a1 => k_is); (case l1 => k_is); (case c1 => k_is); (case k1 => k_is)
    (case a2 => k_is); (case l2 => k_is); (case c2 => k_is); (case k2 => k_is)
    (case a3 => k_is); (case l3 => k_is); (case c3 => k_is); (case k3 => k_is)
    (case a4 => k_is); (case l4 => k_is); (case c4 => k_is); (case k4 => k_is)
    (case a5 => k_is); (case l5 => k_is); (case c5 => k_is); (case k5 => k_is)
    (case a6 => k_is); (case l6 => k_is); (case c6 => k_is); (case k6 => k_is)
    (case a7 => k_is); (case l7 => k_is); (case c7 => k_is); (case k7 => k_is)
    (case a8 => k_is); (case l8 => k_is); (case c8 => k_is); (case k8 => k_is)
    (case a9 => k_is); (case l9 => k_is); (case c9 => k_is); (case k9 => k_is)
    (case a10 => k_is); (case l10 => k_is); (case c10 => k_is); (case k10 => k_is)
    (case a11 => k_is); (case l11 => k_is); (case c11 => k_is); (case k11 => k_is)
    (case a12 => k_is); (case l12 => k_is); (case c12 => k_is); (case k12 => k_is)
    (case a13 => k_is); (case l13 => k_is); (case c13 => k_is); (case k13 => k_is)
    (case a14 => k_is); (case l14 => k_is); (case c14 => k_is); (case k14 => k_is)
    (case a15 => k_is); (case l15 => k_is); (case c15 => k_is); (case k15 => k_is)
    (case z0 => k_is); (case z1 => k_is); (case z2 => k_is); (case z3 => k_is); (case z4 => k_is); (case z5 => k_is); (case z6 => k_is); (case z7 => k_is)


