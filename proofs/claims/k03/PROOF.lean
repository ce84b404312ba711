import PyProof.Rows.All
import Wide.All
import OpenK.AllK
import Wide.FinOn
import HandS.ForMost
import HandS.More
import HandS.Wide
import HandS.WideBits
import HandS.SortRule
import HandS.SortInts
import PyProof.StrOps2
import PyProof.Rows.SortShellAny
import HandS.ForExc
import HandS.ExcCtx
import HandS.HotCalls
import HandS.ExcIs
import HandS.Gcd
import HandS.RevRange
import HandS.IsInst
import HandS.Evl
import PySem.Challenge.RW_measurekind_k03_fractions_reckoned
set_option Elab.async false
set_option linter.all false
/-! Measures as lists of pairs: association lists, sums by letter, the one sorted list of a sum. Plain Lean. -/
namespace MK
open PySem

/-! ### association lists -/
section
variable {α : Type}
def lk : List (Str × α) → Str → Option α
  | [], _ => none
  | p :: r, l => if p.1 = l then some p.2 else lk r l
def put : List (Str × α) → Str → α → List (Str × α)
  | [], l, v => [(l, v)]
  | p :: r, l, v => if p.1 = l then (p.1, v) :: r else p :: put r l v
theorem lk_put : ∀ (m : List (Str × α)) (l j : Str) (v : α), lk (put m l v) j = if j = l then some v else lk m j
  | [], l, j, v => by
    by_cases e : l = j
    · simp [put, lk, e]
    · have e' : ¬ j = l := fun z => e z.symm
      simp [put, lk, e, e']
  | p :: r, l, j, v => by
    have ih := lk_put r l j v
    unfold put
    by_cases e : p.1 = l
    · rw [if_pos e]
      by_cases e2 : p.1 = j
      · have : j = l := e2.symm.trans e
        simp [lk, e2, this]
      · have : ¬ j = l := fun z => e2 (e.trans z.symm)
        simp [lk, e2, this]
    · rw [if_neg e]
      by_cases e2 : p.1 = j
      · have : ¬ j = l := fun z => e (e2.trans z)
        simp [lk, e2, this]
      · simp [lk, e2, ih]
theorem put_keys : ∀ (m : List (Str × α)) (l : Str) (v : α), (∀ k, k ∈ (put m l v).map (·.1) ↔ (k = l ∨ k ∈ m.map (·.1)))
  | [], l, v, k => by simp [put]
  | p :: r, l, v, k => by
    have ih := put_keys r l v k
    unfold put
    by_cases e : p.1 = l
    · rw [if_pos e]
      simp only [List.map_cons, List.mem_cons]
      rw [e]
      constructor
      · intro h; rcases h with h | h
        · exact .inl h
        · exact .inr (.inr h)
      · intro h; rcases h with h | h | h
        · exact .inl h
        · exact .inl h
        · exact .inr h
    · rw [if_neg e]
      simp only [List.map_cons, List.mem_cons]
      rw [ih]
      constructor
      · intro h; rcases h with h | h | h
        · exact .inr (.inl h)
        · exact .inl h
        · exact .inr (.inr h)
      · intro h; rcases h with h | h | h
        · exact .inr (.inl h)
        · exact .inl h
        · exact .inr (.inr h)
theorem put_nodup : ∀ {m : List (Str × α)} (l : Str) (v : α), (m.map (·.1)).Nodup → ((put m l v).map (·.1)).Nodup
  | [], l, v, _ => by simp [put]
  | p :: r, l, v, h => by
    have h : (p.1 :: r.map (·.1)).Nodup := h
    obtain ⟨h1, h2⟩ := List.nodup_cons.mp h
    unfold put
    by_cases e : p.1 = l
    · rw [if_pos e]
      exact h
    · rw [if_neg e]
      show (p.1 :: (put r l v).map (·.1)).Nodup
      refine List.nodup_cons.mpr ⟨fun q => ?_, put_nodup l v h2⟩
      rcases (put_keys r l v p.1).mp q with z | z
      · exact e z
      · exact h1 z
theorem put_len : ∀ (m : List (Str × α)) (l : Str) (v : α), (put m l v).length ≤ m.length + 1
  | [], l, v => by simp [put]
  | p :: r, l, v => by
    have ih := put_len r l v
    unfold put
    by_cases e : p.1 = l
    · rw [if_pos e]; simp
    · rw [if_neg e]; simp only [List.length_cons]; omega
theorem put_mem : ∀ {m : List (Str × α)} {l : Str} {v : α} {q : Str × α}, q ∈ put m l v → q = (l, v) ∨ q ∈ m
  | [], l, v, q, h => by
    simp [put] at h
    exact .inl h
  | p :: r, l, v, q, h => by
    unfold put at h
    by_cases e : p.1 = l
    · rw [if_pos e] at h
      rcases List.mem_cons.mp h with z | z
      · exact .inl (by rw [z, e])
      · exact .inr (List.mem_cons_of_mem _ z)
    · rw [if_neg e] at h
      rcases List.mem_cons.mp h with z | z
      · exact .inr (by rw [z]; exact List.mem_cons_self)
      · rcases put_mem z with y | y
        · exact .inl y
        · exact .inr (List.mem_cons_of_mem _ y)
theorem lk_of_mem : ∀ {m : List (Str × α)} {l : Str} {v : α}, (m.map (·.1)).Nodup → (l, v) ∈ m → lk m l = some v
  | p :: r, l, v, h, q => by
    have h : (p.1 :: r.map (·.1)).Nodup := h
    obtain ⟨h1, h2⟩ := List.nodup_cons.mp h
    unfold lk
    rcases List.mem_cons.mp q with z | z
    · rw [← z]
      simp
    · have ne : ¬ p.1 = l := fun e => h1 (by rw [e]; exact List.mem_map.mpr ⟨_, z, rfl⟩)
      rw [if_neg ne]
      exact lk_of_mem h2 z
theorem mem_of_lk : ∀ {m : List (Str × α)} {l : Str} {v : α}, lk m l = some v → (l, v) ∈ m
  | [], l, v, h => by simp [lk] at h
  | p :: r, l, v, h => by
    unfold lk at h
    by_cases e : p.1 = l
    · rw [if_pos e] at h
      have : p.2 = v := Option.some.inj h
      rw [← e, ← this]
      exact List.mem_cons_self
    · rw [if_neg e] at h
      exact List.mem_cons_of_mem _ (mem_of_lk h)
theorem lk_none : ∀ {m : List (Str × α)} {l : Str}, lk m l = none ↔ ¬ l ∈ m.map (·.1)
  | [], l => by simp [lk]
  | p :: r, l => by
    have ih := lk_none (m := r) (l := l)
    unfold lk
    by_cases e : p.1 = l
    · simp [e]
    · rw [if_neg e, ih]
      simp only [List.map_cons, List.mem_cons]
      constructor
      · intro h z
        rcases z with z | z
        · exact e z.symm
        · exact h z
      · exact fun h z => h (.inr z)
end

/-! ### powers by letters -/
abbrev Ms := List (Str × Int)
def at0 (m : Ms) (l : Str) : Int := (lk m l).getD 0
theorem at0_nil (l : Str) : at0 [] l = 0 := rfl
theorem at0_put (m : Ms) (l j : Str) (v : Int) : at0 (put m l v) j = if j = l then v else at0 m j := by
  unfold at0
  rw [lk_put]
  by_cases e : j = l
  · rw [if_pos e, if_pos e]; rfl
  · rw [if_neg e, if_neg e]
/-- the sum of what stands at a letter, however often -/
def sumAt : Ms → Str → Int
  | [], _ => 0
  | p :: r, j => (if p.1 = j then p.2 else 0) + sumAt r j
theorem sumAt_append : ∀ (a b : Ms) (j : Str), sumAt (a ++ b) j = sumAt a j + sumAt b j
  | [], b, j => by simp [sumAt]
  | p :: r, b, j => by
    have ih := sumAt_append r b j
    show (if p.1 = j then p.2 else 0) + sumAt (r ++ b) j = (if p.1 = j then p.2 else 0) + sumAt r j + sumAt b j
    omega
theorem sumAt_one (l : Str) (n : Int) (j : Str) : sumAt [(l, n)] j = if l = j then n else 0 := by
  show (if l = j then n else 0) + 0 = _
  omega
theorem sumAt_no : ∀ {m : Ms} {j : Str}, ¬ j ∈ m.map (·.1) → sumAt m j = 0
  | [], _, _ => rfl
  | p :: r, j, h => by
    have h1 : ¬ p.1 = j := fun e => h (by rw [← e]; exact List.mem_cons_self)
    have h2 : ¬ j ∈ r.map (·.1) := fun e => h (List.mem_cons_of_mem _ e)
    show (if p.1 = j then p.2 else 0) + sumAt r j = 0
    rw [if_neg h1, sumAt_no h2]
    rfl
theorem sumAt_at0 : ∀ {m : Ms} (j : Str), (m.map (·.1)).Nodup → sumAt m j = at0 m j
  | [], _, _ => rfl
  | p :: r, j, h => by
    have h : (p.1 :: r.map (·.1)).Nodup := h
    obtain ⟨h1, h2⟩ := List.nodup_cons.mp h
    show (if p.1 = j then p.2 else 0) + sumAt r j = at0 (p :: r) j
    by_cases e : p.1 = j
    · rw [if_pos e, sumAt_no (by rw [← e]; exact h1)]
      unfold at0 lk
      rw [if_pos e]
      show p.2 + 0 = p.2
      omega
    · rw [if_neg e, sumAt_at0 j h2]
      have q : at0 (p :: r) j = at0 r j := by
        show (if p.1 = j then some p.2 else lk r j).getD 0 = _
        rw [if_neg e]
        rfl
      rw [q]
      omega
def scaled (m : Ms) (n : Int) : Ms := m.map fun p => (p.1, p.2 * n)
theorem sumAt_scaled : ∀ (m : Ms) (n : Int) (j : Str), sumAt (scaled m n) j = sumAt m j * n
  | [], n, j => by show (0 : Int) = 0 * n; omega
  | p :: r, n, j => by
    have ih := sumAt_scaled r n j
    show (if p.1 = j then p.2 * n else 0) + sumAt (scaled r n) j = ((if p.1 = j then p.2 else 0) + sumAt r j) * n
    rw [ih, Int.add_mul]
    by_cases e : p.1 = j
    · rw [if_pos e, if_pos e]
    · rw [if_neg e, if_neg e]; omega
theorem nodup_of_map {β γ : Type} {g : β → γ} {l : List β} (h : (l.map g).Nodup) : l.Nodup := (List.pairwise_map.mp h).imp fun q e => q (congrArg g e)
theorem at0_mem {m : Ms} {j : Str} (h : at0 m j ≠ 0) : (j, at0 m j) ∈ m := by
  unfold at0 at h ⊢
  cases e : lk m j with
  | none => rw [e] at h; exact absurd rfl h
  | some v => exact mem_of_lk e
theorem sumAt_mem {m : Ms} {j : Str} (h : sumAt m j ≠ 0) : j ∈ m.map (·.1) := Decidable.byContradiction fun q => h (sumAt_no q)

/-! ### the order of texts -/
abbrev sLt (a b : Str) : Prop := a.cps.toList < b.cps.toList
theorem sLt_irr (a : Str) : ¬ sLt a a := List.lt_irrefl _
theorem sLt_tr {a b c : Str} (h : sLt a b) (h2 : sLt b c) : sLt a c := List.lt_trans h h2
theorem str_ext {a b : Str} (h : a.cps.toList = b.cps.toList) : a = b := by
  cases a; cases b
  simp at h
  rw [h]
theorem sLt_tri {a b : Str} (h : ¬ sLt a b) (h2 : ¬ sLt b a) : a = b := str_ext (List.le_antisymm (List.not_lt.mp h2) (List.not_lt.mp h))

/-! ### the measures in their one form -/
def Ris (m : List (Str × Int)) : Prop := m.Pairwise fun p q => sLt p.1 q.1
structure Can (m : Ms) : Prop where
  ris : Ris m
  nz : ∀ p ∈ m, p.2 ≠ 0
theorem Ris.nodup {m : Ms} (h : Ris m) : (m.map (·.1)).Nodup := by
  refine List.pairwise_map.mpr (h.imp fun {a b} q => ?_)
  intro e
  rw [e] at q
  exact sLt_irr _ q
theorem ris_ext : ∀ {a b : Ms}, Ris a → Ris b → (∀ p, p ∈ a ↔ p ∈ b) → a = b
  | [], [], _, _, _ => rfl
  | [], p :: r, _, _, h => absurd ((h p).mpr List.mem_cons_self) (by simp)
  | p :: r, [], _, _, h => absurd ((h p).mp List.mem_cons_self) (by simp)
  | p :: r, q :: t, ha, hb, h => by
    obtain ⟨a1, a2⟩ := List.pairwise_cons.mp ha
    obtain ⟨b1, b2⟩ := List.pairwise_cons.mp hb
    have e : p = q := by
      rcases List.mem_cons.mp ((h p).mp List.mem_cons_self) with z | z
      · exact z
      · rcases List.mem_cons.mp ((h q).mpr List.mem_cons_self) with y | y
        · exact y.symm
        · exact absurd (sLt_tr (b1 p z) (a1 q y)) (sLt_irr _)
    subst e
    refine congrArg (p :: ·) (ris_ext a2 b2 fun x => ?_)
    constructor
    · intro hx
      rcases List.mem_cons.mp ((h x).mp (List.mem_cons_of_mem _ hx)) with z | z
      · exact absurd (z ▸ a1 x hx) (sLt_irr _)
      · exact z
    · intro hx
      rcases List.mem_cons.mp ((h x).mpr (List.mem_cons_of_mem _ hx)) with z | z
      · exact absurd (z ▸ b1 x hx) (sLt_irr _)
      · exact z
theorem Can.mem {m : Ms} (h : Can m) (l : Str) (n : Int) : (l, n) ∈ m ↔ n ≠ 0 ∧ at0 m l = n := by
  constructor
  · intro q
    refine ⟨h.nz _ q, ?_⟩
    unfold at0
    rw [lk_of_mem h.ris.nodup q]
    rfl
  · rintro ⟨a, b⟩
    rw [← b]
    exact at0_mem (by rw [b]; exact a)
theorem can_ext {a b : Ms} (ha : Can a) (hb : Can b) (h : ∀ j, at0 a j = at0 b j) : a = b :=
  ris_ext ha.ris hb.ris fun p => by
    rw [show p = (p.1, p.2) from rfl, ha.mem, hb.mem, h]
/-- what the program makes of a dict: its pairs that are not nought, in their order -/
theorem made_prog {d r : Ms} (hd : (d.map (·.1)).Nodup) (hr : Ris r) (hp : ∀ p, p ∈ r ↔ p ∈ d ∧ p.2 ≠ 0) : Can r ∧ ∀ j, at0 r j = at0 d j := by
  have hc : Can r := ⟨hr, fun p q => ((hp p).mp q).2⟩
  refine ⟨hc, fun j => ?_⟩
  by_cases e : at0 d j = 0
  · rw [e]
    refine Decidable.byContradiction fun z => ?_
    have q := (hp _).mp (at0_mem z)
    have q2 : at0 d j = at0 r j := by
      show (lk d j).getD 0 = _
      rw [lk_of_mem hd q.1]
      rfl
    rw [e] at q2
    exact z q2.symm
  · have q := (hp (j, at0 d j)).mpr ⟨at0_mem e, e⟩
    exact ((hc.mem j _).mp q).2
theorem can_nil : Can [] := ⟨List.Pairwise.nil, fun _ h => absurd h (by simp)⟩
/-- the law's reckoning of the same: sorted letters, then their numbers -/
def byKeys (d : Ms) (ks : List Str) : Ms := (ks.filter fun k => decide (at0 d k ≠ 0)).map fun k => (k, at0 d k)
theorem made_law {d : Ms} {ks : List Str} (hd : (d.map (·.1)).Nodup) (hk : ks.Perm (d.map (·.1))) (hs : ks.Pairwise fun a b => ¬ sLt b a) : Can (byKeys d ks) ∧ ∀ j, at0 (byKeys d ks) j = at0 d j := by
  have hn : ks.Nodup := hk.nodup_iff.mpr hd
  have hst : ks.Pairwise sLt := by
    refine (hs.and hn).imp ?_
    rintro a b ⟨h1, h2⟩
    refine Decidable.byContradiction fun h3 => h2 (sLt_tri h3 h1)
  refine made_prog hd ?_ fun p => ?_
  · unfold byKeys
    exact List.pairwise_map.mpr (hst.filter _)
  · unfold byKeys
    rw [List.mem_map]
    constructor
    · rintro ⟨k, q, e⟩
      obtain ⟨q1, q2⟩ := List.mem_filter.mp q
      have q3 : at0 d k ≠ 0 := of_decide_eq_true q2
      rw [← e]
      exact ⟨at0_mem q3, q3⟩
    · rintro ⟨a, b⟩
      have e : at0 d p.1 = p.2 := by
        show (lk d p.1).getD 0 = _
        rw [lk_of_mem hd a]
        rfl
      refine ⟨p.1, List.mem_filter.mpr ⟨hk.mem_iff.mpr (List.mem_map.mpr ⟨p, a, rfl⟩), decide_eq_true (by rw [e]; exact b)⟩, by rw [e]⟩

/-! ### bounds, letters -/
/-- a text of signs that there are -/
def Ok (z : Str) : Prop := ∀ c ∈ z.cps.toList, c < 1114112
/-- .. and not empty -/
def LtOk (z : Str) : Prop := z.cps.toList ≠ [] ∧ Ok z
theorem ok_app {a b : Str} (ha : Ok a) (hb : Ok b) : Ok (a ++ b) := fun c hc => by
  have hc : c ∈ (a.cps ++ b.cps).toList := hc
  rw [Array.toList_append] at hc
  rcases List.mem_append.mp hc with h | h
  · exact ha c h
  · exact hb c h
theorem ok_one {c : Nat} (h : c < 1114112) : Ok ⟨#[c]⟩ := fun x hx => by
  have : x = c := by simpa using hx
  rw [this]
  exact h
theorem ok_string (s : String) : Ok (Str.ofString s) := fun c hc => by
  rw [Str.ofString_eq_toList] at hc
  have hc : c ∈ s.toList.map Char.toNat := by simpa using hc
  obtain ⟨d, _, e⟩ := List.mem_map.mp hc
  have v : d.val.toNat < 0xd800 ∨ (0xdfff < d.val.toNat ∧ d.val.toNat < 0x110000) := d.valid
  have e2 : d.val.toNat = c := e
  omega
theorem ok_fold (c : Array Nat) (hc : ∀ x ∈ c.toList, x < 1114112) : ∀ (k : Nat) (acc : Array Nat), (∀ x ∈ acc.toList, x < 1114112) → ∀ x ∈ ((List.replicate k c).foldl (· ++ ·) acc).toList, x < 1114112
  | 0, acc, h => h
  | k + 1, acc, h => by
    rw [List.replicate_succ, List.foldl_cons]
    refine ok_fold c hc k _ fun x hx => ?_
    rw [Array.toList_append] at hx
    rcases List.mem_append.mp hx with q | q
    · exact h x q
    · exact hc x q
/-- a measure as the law hands it over: in its form, letters that are not empty, numbers below 2 ^ b -/
structure Good (b : Nat) (m : Ms) : Prop where
  can : Can m
  ne : ∀ p ∈ m, LtOk p.1
  lt : ∀ p ∈ m, p.2.natAbs < 2 ^ b
  few : m.length ≤ 1000
theorem Good.at0_lt {b : Nat} {m : Ms} (h : Good b m) (j : Str) : (at0 m j).natAbs < 2 ^ b := by
  by_cases e : at0 m j = 0
  · rw [e]; exact Nat.two_pow_pos b
  · exact h.lt _ (at0_mem e)
theorem good_nil (b : Nat) : Good b [] := ⟨can_nil, fun _ h => absurd h (by simp), fun _ h => absurd h (by simp), by simp⟩
theorem nil_lt {a : Str} (h : a.cps.toList ≠ []) : sLt ⟨#[]⟩ a := by
  show ([] : List Nat) < a.cps.toList
  cases e : a.cps.toList with
  | nil => exact absurd e h
  | cons x r => exact List.nil_lt_cons x r
end MK


set_option Elab.async false
set_option linter.all false
set_option maxRecDepth 100000
set_option maxHeartbeats 4000000
/-! Rules that the layer has not: a text times a number; sorted of texts and of pairs (text, number), any number of them. -/
namespace SrtO
open PySem PyProof.Rows Srt
section
variable {prog : Program} {w : World} {A : Around} {E : Value → Shared → Prop} {s : Shared}
def lexS (p q : PySem.Str × Int) : Bool := if p.1 = q.1 then decide (p.2 < q.2) else decide (p.1.cps.toList < q.1.cps.toList)
theorem lexS_no {p q : PySem.Str × Int} : lexS p q = false ↔ ¬ (MK.sLt p.1 q.1 ∨ (p.1 = q.1 ∧ p.2 < q.2)) := by
  unfold lexS
  by_cases e : p.1 = q.1
  · rw [if_pos e]
    constructor
    · intro h z
      rcases z with z | z
      · rw [e] at z; exact MK.sLt_irr _ z
      · exact of_decide_eq_false h z.2
    · intro h
      exact decide_eq_false fun z => h (.inr ⟨e, z⟩)
  · rw [if_neg e]
    constructor
    · intro h z
      rcases z with z | z
      · exact of_decide_eq_false h z
      · exact e z.1
    · intro h
      exact decide_eq_false fun z => h (.inl z)
theorem lexS_yes {p q : PySem.Str × Int} : lexS p q = true ↔ (MK.sLt p.1 q.1 ∨ (p.1 = q.1 ∧ p.2 < q.2)) := by
  constructor
  · intro h
    refine Decidable.byContradiction fun z => ?_
    rw [lexS_no.mpr z] at h
    cases h
  · intro h
    cases e : lexS p q with
    | true => rfl
    | false => exact absurd h (lexS_no.mp e)
theorem swo_lexS : Swo lexS := by
  refine ⟨fun x y h => ?_, fun x y z h1 h2 => ?_⟩
  · have a := lexS_yes.mp h
    refine lexS_no.mpr fun b => ?_
    rcases a with a | a
    · rcases b with b | b
      · exact MK.sLt_irr _ (MK.sLt_tr a b)
      · rw [b.1] at a; exact MK.sLt_irr _ a
    · rcases b with b | b
      · rw [a.1] at b; exact MK.sLt_irr _ b
      · have := a.2; have := b.2; omega
  · have a := lexS_no.mp h1
    have b := lexS_no.mp h2
    refine lexS_no.mpr fun c => ?_
    have tri : MK.sLt x.1 y.1 ∨ x.1 = y.1 := by
      by_cases h : MK.sLt x.1 y.1
      · exact .inl h
      · exact .inr (MK.sLt_tri h fun q => a (.inl q))
    rcases tri with t | t
    · rcases c with c | c
      · exact b (.inl (MK.sLt_tr c t))
      · rw [← c.1] at t; exact b (.inl t)
    · rcases c with c | c
      · rw [t] at c; exact b (.inl c)
      · have h3 : ¬ y.2 < x.2 := fun q => a (.inr ⟨t.symm, q⟩)
        have h4 : ¬ z.2 < y.2 := fun q => b (.inr ⟨c.1.trans t, q⟩)
        have := c.2
        omega
theorem swo_lexSk (k : Value → PySem.Str × Int) : Swo fun v u => lexS (k v) (k u) := ⟨fun x y => swo_lexS.asym _ _, fun x y z => swo_lexS.tr _ _ _⟩
/-- a tuple (text, number) -/
def IsSP (h : Heap) (v : Value) (x : PySem.Str) (y : Int) : Prop := ∃ a o t u n, v = .ref a ∧ h.get? a = some o ∧ o.cls = .type "tuple" ∧ o.data = .seq #[.str x t, .int y u] n
theorem IsSP.keeps {h h' : Heap} {v : Value} {x : PySem.Str} {y : Int} (p : IsSP h v x y) (k : ∀ b o, h.get? b = some o → o.cls = .type "tuple" → h'.get? b = some o) : IsSP h' v x y := by
  obtain ⟨a, o, t, u, n, e, ho, hc, hd⟩ := p
  exact ⟨a, o, t, u, n, e, k _ _ ho hc, hc, hd⟩
theorem firstsS_of {h : Heap} : ∀ {vs : List Value}, (∀ v ∈ vs, ∃ x y, IsSP h v x y) → ∃ fs : List Value, PySem.W.KatTups h vs fs ∧ fs.length = vs.length ∧ ∀ f ∈ fs, ∃ x t, f = Value.str x t
  | [], _ => ⟨[], PySem.W.KatTups.nil, rfl, fun _ hm => by simp at hm⟩
  | v :: vs, hp => by
    obtain ⟨fs, h1, h2, h3⟩ := firstsS_of (vs := vs) fun v' hm => hp v' (List.mem_cons_of_mem _ hm)
    obtain ⟨x, y, a, o, t, u, n, e, ho, hc, hd⟩ := hp v (List.mem_cons_self ..)
    subst e
    refine ⟨.str x t :: fs, PySem.W.KatTups.cons ho hc hd rfl h1, by rw [List.length_cons, List.length_cons, h2], fun f hm => ?_⟩
    rcases List.mem_cons.mp hm with rfl | hm
    · exact ⟨x, t, rfl⟩
    · exact h3 f hm
theorem pairS_cmp {vs : List Value} {k : Value → PySem.Str × Int} (hp : ∀ v ∈ vs, IsSP s.heap v (k v).1 (k v).2) : Cmp prog w A s (tuples' true) (fun p => p.1 ∈ vs) (lt2 fun v u => lexS (k v) (k u)) := by
  intro p q hm hm'
  have h1 := hp _ hm
  have h2 := hp _ hm'
  show wpAny (model prog w) A (keyLt' (tuples' true) p.1 q.1) (fun r s' => s' = s ∧ r = lexS (k p.1) (k q.1)) (fun _ _ => False) s
  unfold lexS
  generalize (k p.1).1 = x at h1 ⊢
  generalize (k p.1).2 = y at h1 ⊢
  generalize (k q.1).1 = x' at h2 ⊢
  generalize (k q.1).2 = y' at h2 ⊢
  obtain ⟨a, o, t, u, n, e, ho, hc, hd⟩ := h1
  obtain ⟨a', o', t', u', n', e', ho', hc', hd'⟩ := h2
  rw [e, e']
  refine PySem.W.kat_lt ho hd ho' hd' ?_
  show PySem.W.KatLex prog w A true (decide (2 < 2)) _ [(.str x t, .str x' t'), (.int y u, .int y' u')] 0 s
  refine PySem.W.kat_cons (SeqAt.EqAt.str_str x t x' t' prog w _ _ ?_)
  refine PySem.W.kat_go (fun e1 => ?_) (fun e1 => ?_)
  · have ex : x = x' := by simpa using e1
    refine PySem.W.kat_yes (PySem.W.kat_cons (SeqAt.EqAt.int_int y u y' u' prog w _ _ ?_))
    refine PySem.W.kat_go (fun e2 => ?_) (fun e2 => ?_)
    · have ey : y = y' := by simpa using e2
      have e3 : (if x = x' then decide (y < y') else decide (x.cps.toList < x'.cps.toList)) = false := by
        rw [if_pos ex, ey]
        exact decide_eq_false (Int.lt_irrefl _)
      exact PySem.W.kat_yes (PySem.W.kat_nil ⟨rfl, e3.symm⟩)
    · have e3 : (if x = x' then decide (y < y') else decide (x.cps.toList < x'.cps.toList)) = decide (y < y') := if_pos ex
      refine PySem.W.kat_no (PySem.W.kat_one _ _ (PyProof.Rows.lt_int ?_))
      exact (show s = s ∧ decide (y < y') = (if x = x' then decide (y < y') else decide (x.cps.toList < x'.cps.toList)) from ⟨rfl, e3.symm⟩)
  · have ex : ¬ x = x' := by simpa using e1
    have e3 : (if x = x' then decide (y < y') else decide (x.cps.toList < x'.cps.toList)) = decide (x.cps.toList < x'.cps.toList) := if_neg ex
    exact PySem.W.kat_no (oneLt_str ⟨rfl, e3.symm⟩)
theorem pairsS_sortableO {a : Addr} {vs : List Value} {k : Value → PySem.Str × Int} (h0 : 0 < vs.length) (hp : ∀ v ∈ vs, IsSP s.heap v (k v).1 (k v).2) (ha : ∀ o, s.heap.get? a = some o → o.cls ≠ .type "tuple") : SortableO prog w A s a vs fun v u => lexS (k v) (k u) := by
  intro h' keep
  have hp' : ∀ v ∈ vs, IsSP h' v (k v).1 (k v).2 := fun v hm => (hp v hm).keeps fun b o e c => keep b o (fun z => by subst z; exact ha o e c) e
  obtain ⟨fs, h1, h2, h3⟩ := firstsS_of fun v hm => ⟨_, _, hp' v hm⟩
  refine ⟨tuples' true, fun Q E hq => ?_, pairS_cmp hp'⟩
  refine PySem.W.kat_kind (T := .type "str") h1 (by omega) (fun f hm => ?_) (by rfl) ?_
  · obtain ⟨x, t, rfl⟩ := h3 f hm
    exact PySem.W.Looks.now
  · have e : (Value.type "str" != Value.type "tuple") = true := by first | decide +kernel | rfl | decide
    rw [e]
    exact hq
/-- sorted(l) of pairs (text, number), any number of them: sorted by k, stable -/
theorem sorted_pairsS {l : Addr} {vs : List Value} {k : Value → PySem.Str × Int} {Q : Value → Shared → Prop} (hl : s.heap.IsList l vs.toArray) (hz : vs.length ≤ sizeLine) (hp : ∀ v ∈ vs, IsSP s.heap v (k v).1 (k v).2)
    (h : ∀ (h' : Heap) (d : Addr) (out : List Value), Srtd (fun v u => lexS (k v) (k u)) out → Stb (fun v u => lexS (k v) (k u)) out vs → (∀ b o, s.heap.get? b = some o → h'.get? b = some o) → s.heap.objs.size ≤ d → (∃ n, h'.get? d = some (seqObj "list" out.toArray n)) → Q (.ref d) { s with heap := h' }) :
    wpAny (model prog w) A (call (.builtin "sorted") [.ref l]) Q E s := by
  refine sorted_ord (swo_lexSk k) hl hz (fun h2 h₁ a ha kk => ?_) fun out hs hb => ?_
  · refine pairsS_sortableO (s := { s with heap := h₁ }) (by omega) (fun v hm => (hp v hm).keeps fun b o e _ => (kk b o e).2) fun o e => ?_
    have e' : some o = some (seqObj "list" vs.toArray 0) := e.symm.trans ha
    cases e'
    intro c
    exact absurd (Value.type.inj c) (by decide)
  · exact h _ _ out hs hb (fun b o e => sortedAll_old e) (Nat.le_succ _) (sortedAll_at s.heap vs out.toArray)
end
end SrtO

namespace L2
open PySem PySem.Spec PyProof.Rows
/-- sorted(xs), xs a list of pairs (text, number), texts that differ: a new list of the same items, their texts rising -/
def rSortedSP (K : PySem.W.Frag) : List V → Hp → VK → Prop := fun vs H Q => ∃ (a : Addr) (xs : List V) (k : V → Str × Int), vs = [V.ref a] ∧ SqL K H a xs ∧ (∀ x ∈ xs, ∃ t, x = V.ref t ∧ H t = some (.tup [.str (k x).1, .int (k x).2])) ∧
  ∀ ys p, ys.Perm xs → ys.Pairwise (fun x y => SrtO.lexS (k y) (k x) = false) → H p = none → Q (.ref p) (upd H p (.lst ys))
section
variable {X : Cx}
theorem cr_sortedSP : CallR X (.builtin "sorted") (rSortedSP X.K) := by
  intro pins s σ H vs us Q I r h
  obtain ⟨a, xs, k, rfl, hs, hx, q⟩ := h
  obtain ⟨its, rv, hl, hz⟩ := I.list hs
  obtain ⟨u, rfl, ru⟩ := vals1 r
  obtain rfl : u = Value.ref a := ru
  obtain ⟨e1, e2⟩ := refs_back rv fun x m => by
    obtain ⟨t, e, _⟩ := hx x m
    exact ⟨t, e⟩
  refine SrtO.sorted_pairsS (k := fun u => k (backV u)) hl.isList (by rw [← rv.length]; exact hz) (fun v hv => ?_) fun h' d out h1 h2 kp hd hn => ?_
  · obtain ⟨t, rfl⟩ := e2 v hv
    have hm : V.ref t ∈ xs := by rw [e1]; exact List.mem_map.mpr ⟨_, hv, rfl⟩
    obtain ⟨t', e, ht⟩ := hx _ hm
    cases e
    obtain ⟨_, its2, r2, o, ho, hc, n, hd⟩ := I.hok _ _ ht
    obtain ⟨u1, u2, rfl, ri, rj⟩ := vals2 r2
    obtain ⟨t1, rfl⟩ := ri
    obtain ⟨t2, rfl⟩ := rj
    exact ⟨t, o, t1, t2, n, rfl, ho, hc, hd⟩
  · have h3 : ∀ u ∈ out, ∃ a, u = Value.ref a := fun u hu => e2 u (h2.perm.mem_iff.mp hu)
    obtain ⟨n, hn⟩ := hn
    have hb : (out.map backV).Perm xs := by
      rw [e1]
      exact h2.perm.map backV
    refine ⟨.ref d, upd H d (.lst (out.map backV)), I.laid (t' := s.toks) kp hd ⟨?_, out, n, vals_back h3, hn⟩, rfl, q _ d hb (List.pairwise_map.mpr h1) (I.hok.fresh hd)⟩
    rw [hb.length_eq]
    exact hz
/-- sorted(d), d a dict whose keys are texts, any number of them -/
theorem call_sortedDA (hcalm : X.calm = true) : CallR X (.builtin "sorted") (fun xs H Q => ∃ (a : Addr) (kvs : List (Key × V)) (ks : List Str), xs = [.ref a] ∧ Rd H a (.dK kvs) ∧ kvs.map (·.1) = ks.map Sum.inr ∧
    ∀ ys p, ys.Perm ks → sortedS ys = true → H p = none → Q (.ref p) (upd H p (.lst (ys.map V.str)))) := by
  intro pins s σ H xs us Q I r q
  obtain ⟨a, kvs, ks, ex, hd, hks, q⟩ := q
  subst ex
  obtain ⟨u, eu, rx⟩ := vals1 r
  subst eu
  cases rx
  obtain ⟨z, lo, vs, rel, dd⟩ := dk_rd I.hok hd
  obtain ⟨ep, hat⟩ := dd.dictAt
  have hkeys : vs.map (·.1) = ks.map Sum.inr := rel.keys.symm.trans hks
  have hl : vs.length = ks.length := by
    have e := congrArg List.length hkeys
    rw [List.length_map, List.length_map] at e
    exact e
  have h16 : vs.length ≤ sizeLine := by rw [← rel.length]; exact z
  have hks16 : ks.length ≤ sizeLine := by rw [← hl]; exact h16
  refine Calls.call_function_entry PyProof.Rows.kind_sorted PyProof.Rows.plain_sorted PyProof.Rows.entry_sorted (PyProof.Rows.args_sorted1 _) ?_
  unfold Builtin.«sorted»
  refine wpAny_bind (m := checkCount "sorted" 1 1 _) (wpAny_pure ?_)
  refine wpAny_bind (PySem.W.kdu_collect (A := X.A.in1) (PySem.W.kdl_dict (knd := mixKind X.prog X.w) (kvs := vs) (ep := ep) lo) (I.ok.hd hcalm) hat h16 fun h' tk acc hk hacc => ?_)
  have hal : acc.toList.length = ks.length := by rw [Array.length_toList, hacc.1, hl]
  have hS : StrsAre acc.toList ks := strs_at hal fun j v e => by
    obtain ⟨k, x, e1, e2⟩ := hacc.2 j v (by rw [← Array.getElem?_toList]; exact e)
    have e3 : (vs.map (·.1))[j]? = some k := by rw [List.getElem?_map, e1]; all_goals rfl
    rw [hkeys, List.getElem?_map] at e3
    cases e4 : ks[j]? with
    | none => rw [e4] at e3; cases e3
    | some y =>
      rw [e4] at e3
      have e5 : Sum.inr y = k := Option.some.inj e3
      subst e5
      obtain ⟨t, ev⟩ := Value.isStrOf_shape (x := y) (v := v) e2
      exact ⟨y, t, rfl, ev⟩
  have I1 : Inv X pins σ H { s with heap := h', toks := tk } := I.kept hk
  refine wpAny_bind (wpAny_newList ?_ (by rw [hal]; exact hks16))
  have hoL : (h'.push (seqObj "list" acc.toList.toArray 0)).get? h'.objs.size = some (seqObj "list" acc.toList.toArray 0) := Heap.get?_push_size _ rfl
  show wpAny _ _ _ _ _ { s with heap := h'.push (seqObj "list" acc.toList.toArray 0), toks := tk }
  refine wpAny_bind (wpAny_holding (wpAny_call_entry PyProof.Rows.slot_list_sort ⟨_, hoL, rfl⟩ PyProof.Rows.entry_list_sort
    (list_sort_treeKAny strKind_oneLt (s := { s with heap := h'.push (seqObj "list" acc.toList.toArray 0), toks := tk }) hoL hS.keysOf (fun v₁ v₂ rest e => keyKind_strs (by rw [← e]; exact hS)) (by rw [hal]; exact hks16) fun st' hp hs => ⟨_, rfl, ?_⟩)
    (PyProof.Rows.args_list_sort _)))
  obtain ⟨ys, g1, g2, g3⟩ := sorted_out_str hS hp hs
  obtain ⟨e', he'⟩ := PyProof.Rows.sortedHeap_at (vs := acc.toList) (out := (arrOf st').map (·.2)) hoL
  have hlen : (ys.map V.str).length ≤ sizeLine := by
    rw [List.length_map, g2.length_eq]
    exact hks16
  refine wpAny_pure ⟨_, rfl, .ref h'.objs.size, upd H h'.objs.size (.lst (ys.map V.str)), I1.laid (t' := tk) (fun b u e => ?_) (Nat.le_refl _)
    (show ObjOk X.prog X.w _ _ _ (.lst (ys.map V.str)) from ⟨hlen, ((arrOf st').map (·.2)).toList, e', vals_of_strs g1, by rw [Array.toArray_toList]; exact he'⟩), rfl, q ys _ g2 g3 (I1.hok.fresh (Nat.le_refl _))⟩
  have hb : b < h'.objs.size := Heap.lt_size e
  rw [PyProof.Rows.sortedHeap_old (Nat.ne_of_lt hb) (by rw [size_push']; exact Nat.lt_succ_of_lt hb)]
  exact Heap.get?_push_of_some _ e
/-- a text, n times -/
def strRep (x : Str) (n : Int) : Str := if n < 1 then Str.empty else if (n == 1 || x.length == 0) = true then x else ⟨(List.replicate n.toNat x.cps).foldl (· ++ ·) #[]⟩
theorem op_mul_str : OpR X (binaryOp .Mult) (fun x y H Q => ∃ (z : Str) (n : Int), x = .str z ∧ y = .int n ∧ (z.length ≤ 1000 ∧ n ≤ 1000 ∧ -1000 ≤ n) ∧ Q (.str (strRep z n)) H) := by
  intro pins s σ H x y v u Q I rx ry h
  obtain ⟨z, n, rfl, rfl, ⟨hz, h1, h2⟩, q⟩ := h
  obtain ⟨t, rfl⟩ := rx
  obtain ⟨t', rfl⟩ := ry
  have hm : ¬ n < 1 → z.length * n.toNat ≤ 1000 * 1000 := fun h => Nat.mul_le_mul hz (by omega)
  have hl : ¬ n < 1 → (n == 1 || z.length == 0) = false → Builtin.Str.tooLong (z.length * n.toNat) = false := fun h _ => by
    have := hm h
    show decide (z.length * n.toNat > sizeLine) = false
    rw [sizeLine_eq]
    exact decide_eq_false (by omega)
  refine P.mul_str ?_ (fun h _ => ?_) hl ?_
  · rw [decide_eq_false (by omega), decide_eq_false (by omega)]
    rfl
  · have e : (1 : Int) ≤ n := by omega
    have h3 : (1000 : Int) ≤ (2 ^ 63 - 1) / n := (Int.le_ediv_iff_mul_le (by omega)).mpr (by omega)
    omega
  · unfold strRep at q
    by_cases c : n < 1
    · rw [if_pos c] at q ⊢
      exact ⟨by decide, .str Str.empty, H, I.tok _, ⟨_, rfl⟩, q⟩
    · rw [if_neg c] at q ⊢
      by_cases d : (n == 1 || z.length == 0) = true
      · rw [if_pos d] at q ⊢
        exact ⟨.str z, H, I, ⟨_, rfl⟩, q⟩
      · rw [if_neg d] at q ⊢
        exact ⟨fits_reps (hl c (by simpa using d)), .str _, H, I.tok _, ⟨_, rfl⟩, q⟩
end
theorem sLe_tr {a b c : Str} (h : ¬ MK.sLt b a) (h2 : ¬ MK.sLt c b) : ¬ MK.sLt c a := fun q => by
  by_cases e : MK.sLt b c
  · exact h (MK.sLt_tr e q)
  · rw [MK.sLt_tri e h2] at h
    exact h q
theorem risingS_all : ∀ {r : List Str} {p : Str}, risingS p r = true → (∀ x ∈ r, ¬ MK.sLt x p) ∧ r.Pairwise fun a b => ¬ MK.sLt b a
  | [], p, _ => ⟨fun x h => absurd h (by simp), List.Pairwise.nil⟩
  | x :: r, p, h => by
    have h : (!ltCps x.cps.toList p.cps.toList && risingS x r) = true := h
    rw [Bool.and_eq_true] at h
    obtain ⟨h1, h2⟩ := h
    have h3 : ¬ MK.sLt x p := by
      rw [ltCps_eq] at h1
      simpa using h1
    obtain ⟨i1, i2⟩ := risingS_all h2
    refine ⟨fun y hy => ?_, List.pairwise_cons.mpr ⟨fun y hy => i1 y hy, i2⟩⟩
    rcases List.mem_cons.mp hy with e | hy
    · rw [e]; exact h3
    · exact sLe_tr h3 (i1 y hy)
theorem sortedS_pw : ∀ {ys : List Str}, sortedS ys = true → ys.Pairwise fun a b => ¬ MK.sLt b a
  | [], _ => List.Pairwise.nil
  | x :: r, h => by
    obtain ⟨i1, i2⟩ := risingS_all (p := x) (r := r) h
    exact List.pairwise_cons.mpr ⟨i1, i2⟩
/-- [.. for k, v in d.items() ..], d locked: by a word of the turn's number and the heap -/
theorem lc_items {d : Addr} {od : Obj} {kvs : List (Key × V)} {g : TG} {tt : TT} {te : TE} {vs : List Nat} {σ : L2.St} {H1 : Hp} {D : Addr} {Qd : Hp → Prop} (Pv : Nat → Hp → Prop) (h0 : Pv 0 (upd H1 D (.lst [])))
    (hl : ∀ i H, i ≤ kvs.length → Pv i H → H d = some (.frz od (.dK kvs)))
    (hs : ∀ i k v T H, kvs[i]? = some (k, v) → Pv i H → H T = none → g (.ref T) (wipe σ vs) (upd H T (.tup [kV k, v])) fun σ2 H2 => wipe σ2 vs = wipe σ vs ∧ tt σ2 H2 fun b H3 =>
      if b = true then te σ2 H3 fun y H4 => ∃ acc, H4 D = some (.lst acc) ∧ acc.length < sizeLine ∧ Pv (i + 1) (upd H4 D (.lst (acc ++ [y]))) else Pv (i + 1) H3)
    (hd : ∀ H, Pv kvs.length H → Qd H) :
    ∃ W : Nat → Nat → Hp → Prop, (∃ m, W 0 m (upd H1 D (.lst []))) ∧ ∀ i m H, W i m H →
      ((Iti d od kvs).stop i H ∧ Qd H) ∨ ((Iti d od kvs).go i H ∧ ∃ Nx : Hp → Prop, (∀ H', Nx H' → ∃ m', m' < m ∧ W (i + 1) m' H') ∧ ∀ x H', (Iti d od kvs).yld i H x H' → g x (wipe σ vs) H' fun σ2 H2 => wipe σ2 vs = wipe σ vs ∧ tt σ2 H2 fun b H3 =>
        if b = true then te σ2 H3 fun y H4 => ∃ acc, H4 D = some (.lst acc) ∧ acc.length < sizeLine ∧ Nx (upd H4 D (.lst (acc ++ [y]))) else Nx H3) := by
  refine ⟨fun i m H => m = kvs.length - i ∧ i ≤ kvs.length ∧ Pv i H, ⟨kvs.length, by simp, Nat.zero_le _, h0⟩, ?_⟩
  intro i m H ⟨e, hi, p⟩
  have q := hl i H hi p
  by_cases hlt : i < kvs.length
  · refine .inr ⟨⟨q, hlt⟩, Pv (i + 1), fun H' p' => ⟨kvs.length - (i + 1), by omega, rfl, hlt, p'⟩, fun x H' y => ?_⟩
    obtain ⟨T, k, v, hk, ex, hT, eH⟩ := y
    rw [ex, eH]
    exact hs i k v T H hk p hT
  · have e2 : i = kvs.length := by omega
    rw [e2] at p
    exact .inl ⟨⟨q, by omega⟩, hd H p⟩
/-- two dicts of the same pairs, their values the very same objects -/
theorem hits_refs {A : Around} {s : Shared} {ls : List (Key × V)} {vb : List (Key × Value)} (rb : KV ls vb) {ks : List (Key × V)} {va : List (Key × Value)} (ra : KV ks va) : (∀ p ∈ ks, ∃ c, p.2 = .ref c ∧ valV ls p.1 = some (.ref c)) → PySem.W.KeqHits A s vb va true := by
  unfold KV at ra
  induction ra with
  | nil => exact fun _ => .nil
  | @cons p q ps qs h t k =>
    intro hp
    obtain ⟨h1, h2⟩ := h
    obtain ⟨c, ec, e⟩ := hp p List.mem_cons_self
    have rr : RelO (some (.ref c)) (valueAt vb p.1) := by
      rw [← e]
      exact rb.val p.1
    obtain ⟨y, hy, ry⟩ := rr.some_of
    obtain ⟨key, v⟩ := q
    have h1' : p.1 = key := h1
    rw [h1'] at hy
    rw [ec] at h2
    have e1 : v = Value.ref c := h2
    have e2 : y = Value.ref c := ry
    subst e1
    subst e2
    show PySem.W.KeqHits A s vb ((key, Value.ref c) :: qs) (true && true)
    exact .hit hy (SeqAt.EqAt.same _) (k fun p' hm => hp p' (List.mem_cons_of_mem _ hm))
theorem op_ne_dictRef {X : Cx} (hu : X.A.units < cLine) : OpR X (compareOp .NotEq) (fun x y H Q => ∃ a b ks, x = .ref a ∧ y = .ref b ∧ H a = some (.dK ks) ∧ H b = some (.dK ks) ∧ (∀ p ∈ ks, ∃ c, p.2 = .ref c ∧ valV ks p.1 = some (.ref c)) ∧ Q (.bl false) H) := by
  intro pins s σ H x y v u Q I rx ry h
  obtain ⟨a, b, ks, rfl, rfl, ea, eb, hp, q⟩ := h
  obtain rfl : v = Value.ref a := rx
  obtain rfl : u = Value.ref b := ry
  obtain ⟨_, ya, va, ra, da⟩ := (show ObjOk X.prog X.w H s.heap a (.dK ks) from I.hok a _ ea)
  obtain ⟨_, yb, vb, rb, db⟩ := (show ObjOk X.prog X.w H s.heap b (.dK ks) from I.hok b _ eb)
  have hl : va.length = vb.length := by rw [← ra.length, ← rb.length]
  refine PySem.W.keq_ne (knd := mixKind X.prog X.w) (r := true) ya yb da db hu (fun _ => hits_refs rb ra hp) ?_
  rw [show (!(va.length == vb.length && true)) = false by simp [hl]]
  exact ⟨.bl false, H, I, rfl, q⟩
end L2


set_option Elab.async false
set_option linter.all false
set_option maxRecDepth 100000
set_option maxHeartbeats 4000000
namespace MK
open PySem PySem.Spec PyProof.Rows L2
/-! ### measures and dicts as they stand in memory -/
/-- a dict whose keys are texts -/
def encG {α : Type} (g : α → V) (m : List (Str × α)) : List (L2.Key × V) := m.map fun p => (Sum.inr p.1, g p.2)
abbrev enc (m : Ms) : List (L2.Key × V) := encG V.int m
theorem encG_val {α : Type} (g : α → V) : ∀ (m : List (Str × α)) (l : Str), valV (encG g m) (Sum.inr l : L2.Key) = (lk m l).map g
  | [], l => rfl
  | p :: r, l => by
    show valV ((Sum.inr p.1, g p.2) :: encG g r) _ = _
    by_cases e : p.1 = l
    · rw [valV_pos (by rw [e])]
      unfold lk
      rw [if_pos e]
      rfl
    · rw [valV_neg (fun z => e (Sum.inr.inj z)), encG_val g r l]
      rw [show lk (p :: r) l = lk r l from if_neg e]
theorem encG_any {α : Type} (g : α → V) (m : List (Str × α)) (l : Str) : ((encG g m).any fun kv => decide (kv.1 = (Sum.inr l : L2.Key))) = (lk m l).isSome := by
  rw [valV_any, encG_val]
  cases lk m l <;> rfl
theorem encG_map_no {α : Type} (g : α → V) (l : Str) (y : V) : ∀ m : List (Str × α), lk m l = none → (encG g m).map (fun kv => if kv.1 = (Sum.inr l : L2.Key) then (kv.1, y) else kv) = encG g m
  | [], _ => rfl
  | p :: r, h => by
    have e : ¬ p.1 = l := fun z => by
      unfold lk at h
      rw [if_pos z] at h
      cases h
    have h2 : lk r l = none := by
      unfold lk at h
      rw [if_neg e] at h
      exact h
    have ih := encG_map_no g l y r h2
    show (if (Sum.inr p.1 : L2.Key) = Sum.inr l then _ else _) :: List.map _ (encG g r) = _
    rw [if_neg (fun z => e (Sum.inr.inj z)), ih]
    rfl
theorem encG_put {α : Type} (g : α → V) (l : Str) (v : α) : ∀ m : List (Str × α), (m.map (·.1)).Nodup → putK (encG g m) (Sum.inr l : L2.Key) (g v) = encG g (put m l v)
  | [], _ => rfl
  | p :: r, hn => by
    have hn : (p.1 :: r.map (·.1)).Nodup := hn
    obtain ⟨h1, h2⟩ := List.nodup_cons.mp hn
    have ih := encG_put g l v r h2
    unfold putK at ih ⊢
    rw [encG_any] at ih ⊢
    by_cases e : p.1 = l
    · have hs : (lk (p :: r) l).isSome = true := by
        unfold lk
        rw [if_pos e]
        rfl
      rw [if_pos hs]
      have hno : lk r l = none := lk_none.mpr (by rw [← e]; exact h1)
      show (if (Sum.inr p.1 : L2.Key) = Sum.inr l then _ else _) :: List.map _ (encG g r) = _
      rw [if_pos (by rw [e]), encG_map_no g l (g v) r hno]
      show _ = encG g (put (p :: r) l v)
      unfold put
      rw [if_pos e]
      rfl
    · have hl : lk (p :: r) l = lk r l := if_neg e
      rw [hl]
      have hp : put (p :: r) l v = p :: put r l v := if_neg e
      rw [hp]
      by_cases hs : (lk r l).isSome = true
      · rw [if_pos hs] at ih ⊢
        show (if (Sum.inr p.1 : L2.Key) = Sum.inr l then _ else _) :: List.map _ (encG g r) = _
        rw [if_neg (fun z => e (Sum.inr.inj z)), ih]
        rfl
      · rw [if_neg hs] at ih ⊢
        show (Sum.inr p.1, g p.2) :: (encG g r ++ _) = _
        rw [ih]
        rfl
theorem encG_len {α : Type} (g : α → V) (m : List (Str × α)) : (encG g m).length = m.length := List.length_map _
theorem encG_keys {α : Type} (g : α → V) (m : List (Str × α)) : (encG g m).map (·.1) = (m.map (·.1)).map Sum.inr := by
  unfold encG
  rw [List.map_map, List.map_map]
  rfl
/-- at t the pair p -/
def PrAt (H : Hp) (t : Addr) (p : Str × Int) : Prop := H t = some (.tup [.str p.1, .int p.2])
/-- at b the measure m -/
def MsAt (H : Hp) (b : Addr) (m : Ms) : Prop := ∃ ts : List Addr, H b = some (.tup (ts.map V.ref)) ∧ Paired (PrAt H) ts m
theorem MsAt.same {H H' : Hp} {b : Addr} {m : Ms} (s : Same H H') (h : MsAt H b m) : MsAt H' b m := by
  obtain ⟨ts, e, p⟩ := h
  exact ⟨ts, s _ _ e, Paired.mono (fun t q z => s _ _ z) p⟩
theorem paired_ix {α β : Type} {G : α → β → Prop} : ∀ {l : List α} {m : List β} {i : Nat} {a : α}, Paired G l m → l[i]? = some a → ∃ b, m[i]? = some b ∧ G a b
  | _, _, _, _, .nil, e => by simp at e
  | _, _, 0, _, .cons r _, e => by
    simp at e
    subst e
    exact ⟨_, rfl, r⟩
  | _, _, i + 1, _, .cons _ t, e => by
    obtain ⟨b, h1, h2⟩ := paired_ix t (by simpa using e)
    exact ⟨b, by simpa using h1, h2⟩
theorem MsAt.dp {K : PySem.W.Frag} {H : Hp} {b : Addr} {m : Ms} (h : MsAt H b m) : Dp K H (.ref b) (.tuple (m.map fun p => .tuple [.str p.1, .int p.2])) := by
  obtain ⟨ts, e, p⟩ := h
  refine .tup (SqT.of e) ?_
  clear e
  induction p with
  | nil => exact .nil
  | @cons t q _ _ r _ ih => exact .cons (.tup (SqT.of r) (.cons (.str _) (.cons (.int _) .nil))) ih
theorem take_more {α : Type} : ∀ {l : List α} {i : Nat} {x : α}, l[i]? = some x → l.take (i + 1) = l.take i ++ [x] := fun {l i x} h => by
  rw [List.take_add_one, h]
  rfl
theorem byKeys_yes {m : Ms} {ys : List Str} {i : Nat} {k : Str} (h : ys[i]? = some k) (e : at0 m k ≠ 0) : byKeys m (ys.take (i + 1)) = byKeys m (ys.take i) ++ [(k, at0 m k)] := by
  unfold byKeys
  rw [take_more h, List.filter_append, List.map_append]
  congr 1
  rw [List.filter_cons, if_pos (decide_eq_true e)]
  rfl
theorem byKeys_no {m : Ms} {ys : List Str} {i : Nat} {k : Str} (h : ys[i]? = some k) (e : at0 m k = 0) : byKeys m (ys.take (i + 1)) = byKeys m (ys.take i) := by
  unfold byKeys
  rw [take_more h, List.filter_append, List.map_append]
  rw [show [k].filter (fun k => decide (at0 m k ≠ 0)) = [] by
    rw [List.filter_cons, if_neg (by simp [e])]
    rfl]
  simp
theorem at_map {α : Type} {g : α → V} {l : List α} {i : Nat} {y : V} (h : (l.map g)[i]? = some y) : ∃ x, l[i]? = some x ∧ y = g x := by
  rw [List.getElem?_map] at h
  cases e : l[i]? with
  | none =>
    rw [e] at h
    cases h
  | some x =>
    rw [e] at h
    exact ⟨x, rfl, (Option.some.inj h).symm⟩
theorem dget_enc {H : Hp} {d : Addr} {m : Ms} {k : Str} (e : H d = some (.dK (enc m))) (h : k ∈ m.map (·.1)) : DGet H d (.str k) (some (.int (at0 m k))) := by
  have q : DGet H d (kV (Sum.inr k)) (valV (enc m) (Sum.inr k : L2.Key)) := DGet.k e
  rw [encG_val] at q
  unfold at0
  cases e2 : lk m k with
  | none => exact absurd h (lk_none.mp e2)
  | some v =>
    rw [e2] at q
    exact q
theorem dget_enc2 {H : Hp} {d : Addr} {m : Ms} (k : Str) (e : H d = some (.dK (enc m))) : ∃ o, DGet H d (.str k) o ∧ o.getD (.int 0) = .int (at0 m k) := by
  refine ⟨_, DGet.k (k := Sum.inr k) e, ?_⟩
  rw [encG_val]
  unfold at0
  cases lk m k <;> rfl
theorem upd_other {H : Hp} {a b : Addr} {o u : HO} (h : H b = some u) (n : H a = none) : upd H a o b = some u := by
  rw [upd_ne (ne_of_none h n)]
  exact h
theorem same_new {H : Hp} {p : Addr} {o : HO} (h : H p = none) : Same H (upd H p o) := fun b x e => upd_other e h
theorem dput_enc {H : Hp} {d : Addr} {m : Ms} {l : Str} {v : Int} (e : H d = some (.dK (enc m))) (hn : (m.map (·.1)).Nodup) (hl : m.length < sizeLine) : DPut H d (.str l) (.int v) (L2.upd H d (.dK (enc (put m l v)))) := by
  have q : DPut H d (kV (Sum.inr l)) (V.int v) _ := DPut.k (k := Sum.inr l) e (by rw [encG_len]; exact hl)
  rw [show putK (enc m) (Sum.inr l) (V.int v) = enc (put m l v) from encG_put V.int l v m hn] at q
  exact q
theorem small1000' {n : Nat} (h : n ≤ 10000) : n < sizeLine := Nat.lt_of_le_of_lt h (by decide)
/-- a step at an object that came later -/
theorem same_upd {H H1 : Hp} {p : Addr} {o : HO} (s : Same H H1) (h : H p = none) : Same H (L2.upd H1 p o) := fun b x e => by
  rw [upd_ne (ne_of_none e h)]
  exact s b x e
/-- a list that changes is no pair -/
theorem pr_list {H : Hp} {D : Addr} {xs : List V} {o : HO} {ts : List Addr} {m : Ms} (h : H D = some (.lst xs)) (p : Paired (PrAt H) ts m) : Paired (PrAt (L2.upd H D o)) ts m := Paired.mono (fun t q z => by
  show L2.upd H D o t = _
  rw [upd_ne (ne_of z h (fun e => nomatch e))]
  exact z) p
theorem pr_dict {H : Hp} {D : Addr} {kvs : List (L2.Key × V)} {o : HO} {ts : List Addr} {m : Ms} (h : H D = some (.dK kvs)) (p : Paired (PrAt H) ts m) : Paired (PrAt (L2.upd H D o)) ts m := Paired.mono (fun t q z => by
  show L2.upd H D o t = _
  rw [upd_ne (ne_of z h (fun e => nomatch e))]
  exact z) p
theorem pr_same {H H' : Hp} {ts : List Addr} {m : Ms} (s : Same H H') (h : Paired (PrAt H) ts m) : Paired (PrAt H') ts m := Paired.mono (fun t q z => s _ _ z) h
/-! ### parts: measures, each to a power -/
def flat (ps : List (Ms × Int)) : Ms := (ps.map fun q => scaled q.1 q.2).flatten
theorem flat_snoc (ps : List (Ms × Int)) (q : Ms × Int) : flat (ps ++ [q]) = flat ps ++ scaled q.1 q.2 := by
  unfold flat
  rw [List.map_append, List.flatten_append]
  simp
theorem flat_take_le : ∀ (ps : List (Ms × Int)) (i : Nat), (flat (ps.take i)).length ≤ (flat ps).length
  | [], i => by simp [flat]
  | q :: r, 0 => by simp [flat]
  | q :: r, i + 1 => by
    have ih := flat_take_le r i
    show (scaled q.1 q.2 ++ flat (r.take i)).length ≤ (scaled q.1 q.2 ++ flat r).length
    rw [List.length_append, List.length_append]
    omega
def PtAt (H : Hp) (t : Addr) (q : Ms × Int) : Prop := ∃ b, H t = some (.tup [.ref b, .int q.2]) ∧ MsAt H b q.1
theorem PtAt.same {H H' : Hp} {t : Addr} {q : Ms × Int} (s : Same H H') (h : PtAt H t q) : PtAt H' t q := by
  obtain ⟨b, e, m⟩ := h
  exact ⟨b, s _ _ e, m.same s⟩
theorem scaled_take (m : Ms) (n : Int) (k : Nat) : (scaled m n).take k = scaled (m.take k) n := by
  unfold scaled
  rw [List.map_take]
theorem scaled_len (m : Ms) (n : Int) : (scaled m n).length = m.length := by
  unfold scaled
  rw [List.length_map]
theorem scaled_more {m : Ms} {n : Int} {k : Nat} {p : Str × Int} (h : m[k]? = some p) : scaled (m.take (k + 1)) n = scaled (m.take k) n ++ [(p.1, p.2 * n)] := by
  rw [take_more h]
  unfold scaled
  rw [List.map_append]
  rfl
/-- what of a dict is not nought -/
def nz (m : Ms) : Ms := m.filter fun p => decide (p.2 ≠ 0)
theorem nz_yes {m : Ms} {i : Nat} {p : Str × Int} (h : m[i]? = some p) (e : p.2 ≠ 0) : nz (m.take (i + 1)) = nz (m.take i) ++ [p] := by
  unfold nz
  rw [take_more h, List.filter_append]
  congr 1
  rw [List.filter_cons, if_pos (decide_eq_true e)]
  rfl
theorem nz_no {m : Ms} {i : Nat} {p : Str × Int} (h : m[i]? = some p) (e : p.2 = 0) : nz (m.take (i + 1)) = nz (m.take i) := by
  unfold nz
  rw [take_more h, List.filter_append]
  rw [show [p].filter (fun p => decide (p.2 ≠ 0)) = [] by
    rw [List.filter_cons, if_neg (by simp [e])]
    rfl]
  simp
theorem enc_at {m : Ms} {i : Nat} {k : L2.Key} {v : V} (h : (enc m)[i]? = some (k, v)) : ∃ l n, m[i]? = some (l, n) ∧ k = Sum.inr l ∧ v = .int n := by
  unfold enc encG at h
  rw [List.getElem?_map] at h
  cases e : m[i]? with
  | none =>
    rw [e] at h
    cases h
  | some p =>
    rw [e] at h
    obtain ⟨e1, e2⟩ := Prod.mk.inj (Option.some.inj h)
    exact ⟨p.1, p.2, rfl, e1.symm, e2.symm⟩
/-- the sorted list of the pairs of a dict -/
theorem sorted_pairs {H : Hp} {ts : List Addr} {m : Ms} (hn : (m.map (·.1)).Nodup) (p : Paired (PrAt H) ts m) (k : V → Str × Int) (hk : ∀ t q, PrAt H t q → k (.ref t) = q) {ys : List V} (hp : ys.Perm (ts.map V.ref))
    (hs : ys.Pairwise (fun x y => SrtO.lexS (k y) (k x) = false)) : ∃ us : List Addr, ys = us.map V.ref ∧ Paired (PrAt H) us (ys.map k) ∧ (ys.map k).Perm m ∧ Ris (ys.map k) := by
  have hm : (ts.map V.ref).map k = m := by
    clear hp hs hn
    induction p with
    | nil => rfl
    | @cons t q _ _ r _ ih =>
      show k (.ref t) :: _ = _
      rw [hk _ _ r, ih]
  have hpm : (ys.map k).Perm m := by
    rw [← hm]
    exact hp.map k
  have hmem : ∀ y ∈ ys, ∃ t, y = .ref t ∧ PrAt H t (k y) := fun y hy => by
    obtain ⟨t, ht, rfl⟩ := List.mem_map.mp (hp.mem_iff.mp hy)
    obtain ⟨i, hi, e⟩ := List.mem_iff_getElem.mp ht
    obtain ⟨q, _, hq⟩ := paired_ix p (List.getElem?_eq_some_iff.mpr ⟨hi, e⟩)
    refine ⟨t, rfl, ?_⟩
    rw [hk _ _ hq]
    exact hq
  have hnd : ((ys.map k).map (·.1)).Nodup := (hpm.map (·.1)).nodup_iff.mpr hn
  have build : ∀ zs : List V, (∀ y ∈ zs, ∃ t, y = .ref t ∧ PrAt H t (k y)) → ∃ us : List Addr, zs = us.map V.ref ∧ Paired (PrAt H) us (zs.map k) := fun zs => by
    induction zs with
    | nil => exact fun _ => ⟨[], rfl, .nil⟩
    | cons z r ih =>
      intro h
      obtain ⟨t, e, q⟩ := h z List.mem_cons_self
      obtain ⟨us, e1, e2⟩ := ih fun y hy => h y (List.mem_cons_of_mem _ hy)
      refine ⟨t :: us, by rw [e, e1]; rfl, .cons q e2⟩
  obtain ⟨us, e1, e2⟩ := build ys hmem
  refine ⟨us, e1, e2, hpm, ?_⟩
  have h1 : (ys.map k).Pairwise fun p q => SrtO.lexS q p = false := List.pairwise_map.mpr hs
  have h2 : (ys.map k).Pairwise fun p q => p.1 ≠ q.1 := List.pairwise_map.mp hnd
  refine (h1.and h2).imp ?_
  intro a b ⟨h3, h4⟩
  have h5 := SrtO.lexS_no.mp h3
  refine Decidable.byContradiction fun h6 => h4 (sLt_tri h6 fun h7 => h5 (.inl h7))
/-- the pair that stands at a value -/
def prOf : Option HO → Str × Int
  | some (.tup [.str l, .int n]) => (l, n)
  | _ => (⟨#[]⟩, 0)
def kH (H : Hp) : V → Str × Int
  | .ref t => prOf (H t)
  | _ => (⟨#[]⟩, 0)
theorem kH_of {H : Hp} {t : Addr} {q : Str × Int} (h : PrAt H t q) : kH H (.ref t) = q := by
  show prOf (H t) = q
  rw [show H t = _ from h]
  rfl
theorem kH_all {H : Hp} {ts : List Addr} {m : Ms} (p : Paired (PrAt H) ts m) : ∀ x ∈ ts.map V.ref, ∃ t, x = V.ref t ∧ H t = some (.tup [.str (kH H x).1, .int (kH H x).2]) := fun x hx => by
  obtain ⟨t, ht, rfl⟩ := List.mem_map.mp hx
  obtain ⟨i, hi, e⟩ := List.mem_iff_getElem.mp ht
  obtain ⟨q, _, hq⟩ := paired_ix p (List.getElem?_eq_some_iff.mpr ⟨hi, e⟩)
  refine ⟨t, rfl, ?_⟩
  rw [kH_of hq]
  exact hq
theorem ms_list {H : Hp} {D b : Addr} {xs : List V} {o : HO} {m : Ms} (h : H D = some (.lst xs)) (q : MsAt H b m) : MsAt (L2.upd H D o) b m := by
  obtain ⟨ts, e, p⟩ := q
  refine ⟨ts, ?_, pr_list h p⟩
  rw [upd_ne (ne_of e h (fun e => nomatch e))]
  exact e
theorem ms_dict {H : Hp} {D b : Addr} {kvs : List (L2.Key × V)} {o : HO} {m : Ms} (h : H D = some (.dK kvs)) (q : MsAt H b m) : MsAt (L2.upd H D o) b m := by
  obtain ⟨ts, e, p⟩ := q
  refine ⟨ts, ?_, pr_dict h p⟩
  rw [upd_ne (ne_of e h (fun e => nomatch e))]
  exact e
/-! ### fillings -/
def fill (fl : List (Str × Ms)) (l : Str) : Ms := (lk fl l).getD [(l, 1)]
def parts (fl : List (Str × Ms)) (m : Ms) : List (Ms × Int) := m.map fun p => (fill fl p.1, p.2)
abbrev FillR (H : Hp) (x : Str × Addr) (y : Str × Ms) : Prop := x.1 = y.1 ∧ MsAt H x.2 y.2
def FillAt (H : Hp) (d : Addr) (ads : List (Str × Addr)) (fl : List (Str × Ms)) : Prop := H d = some (.dK (encG V.ref ads)) ∧ Paired (FillR H) ads fl
theorem fills_same {H H' : Hp} {ads : List (Str × Addr)} {fl : List (Str × Ms)} (s : Same H H') (p : Paired (FillR H) ads fl) : Paired (FillR H') ads fl := Paired.mono (fun x y z => ⟨z.1, z.2.same s⟩) p
theorem FillAt.same {H H' : Hp} {d : Addr} {ads : List (Str × Addr)} {fl : List (Str × Ms)} (s : Same H H') (h : FillAt H d ads fl) : FillAt H' d ads fl := ⟨s _ _ h.1, fills_same s h.2⟩
theorem fills_lk {H : Hp} {ads : List (Str × Addr)} {fl : List (Str × Ms)} (p : Paired (FillR H) ads fl) (l : Str) : (lk ads l = none ∧ lk fl l = none) ∨ ∃ b m, lk ads l = some b ∧ lk fl l = some m ∧ MsAt H b m := by
  induction p with
  | nil => exact .inl ⟨rfl, rfl⟩
  | @cons x y xs ys h _ ih =>
    obtain ⟨h1, h2⟩ := h
    by_cases e : x.1 = l
    · exact .inr ⟨x.2, y.2, if_pos e, if_pos (h1 ▸ e), h2⟩
    · have e' : ¬ y.1 = l := fun z => e (h1.trans z)
      rw [show lk (x :: xs) l = lk xs l from if_neg e, show lk (y :: ys) l = lk ys l from if_neg e']
      exact ih
/-- filling.get(l, d0), d0 the letter itself -/
theorem fill_get {H : Hp} {d e0 : Addr} {ads : List (Str × Addr)} {fl : List (Str × Ms)} (h : FillAt H d ads fl) (l : Str) (h0 : MsAt H e0 [(l, 1)]) : ∃ o b, DGet H d (.str l) o ∧ o.getD (.ref e0) = .ref b ∧ MsAt H b (fill fl l) := by
  rcases fills_lk h.2 l with ⟨a1, a2⟩ | ⟨b, m, a1, a2, a3⟩
  · refine ⟨_, e0, DGet.k (k := Sum.inr l) h.1, ?_, ?_⟩
    · rw [encG_val, a1]
      rfl
    · unfold fill
      rw [a2]
      exact h0
  · refine ⟨_, b, DGet.k (k := Sum.inr l) h.1, ?_, ?_⟩
    · rw [encG_val, a1]
      rfl
    · unfold fill
      rw [a2]
      exact a3
theorem paired_put {H : Hp} {l : Str} {b : Addr} {m : Ms} (h : MsAt H b m) {ads : List (Str × Addr)} {fl : List (Str × Ms)} (p : Paired (FillR H) ads fl) : Paired (FillR H) (put ads l b) (put fl l m) := by
  induction p with
  | nil => exact .cons ⟨rfl, h⟩ .nil
  | @cons x y xs ys q r ih =>
    obtain ⟨q1, q2⟩ := q
    by_cases e : x.1 = l
    · have e' : y.1 = l := q1 ▸ e
      rw [show put (x :: xs) l b = (x.1, b) :: xs from if_pos e, show put (y :: ys) l m = (y.1, m) :: ys from if_pos e']
      exact .cons ⟨q1, h⟩ r
    · have e' : ¬ y.1 = l := fun z => e (q1.trans z)
      rw [show put (x :: xs) l b = x :: put xs l b from if_neg e, show put (y :: ys) l m = y :: put ys l m from if_neg e']
      exact .cons ⟨q1, q2⟩ ih
theorem dput_encG {α : Type} {g : α → V} {H : Hp} {d : Addr} {m : List (Str × α)} {l : Str} {v : α} (e : H d = some (.dK (encG g m))) (hn : (m.map (·.1)).Nodup) (hl : m.length < sizeLine) : DPut H d (.str l) (g v) (L2.upd H d (.dK (encG g (put m l v)))) := by
  have q : DPut H d (kV (Sum.inr l)) (g v) _ := DPut.k (k := Sum.inr l) e (by rw [encG_len]; exact hl)
  rw [encG_put g l v m hn] at q
  exact q
theorem flat_mem {ps : List (Ms × Int)} {j : Str} (h : j ∈ (flat ps).map (·.1)) : ∃ q ∈ ps, ∃ p ∈ q.1, p.1 = j := by
  obtain ⟨x, hx, rfl⟩ := List.mem_map.mp h
  unfold flat at hx
  obtain ⟨y, hy, hxy⟩ := List.mem_flatten.mp hx
  obtain ⟨q, hq, rfl⟩ := List.mem_map.mp hy
  obtain ⟨p, hp, rfl⟩ := List.mem_map.mp hxy
  exact ⟨q, hq, p, hp, rfl⟩
theorem flat_len_le {n : Nat} : ∀ (ps : List (Ms × Int)), (∀ q ∈ ps, q.1.length ≤ n) → (flat ps).length ≤ ps.length * n
  | [], _ => by simp [flat]
  | q :: r, h => by
    have ih := flat_len_le r fun x hx => h x (List.mem_cons_of_mem _ hx)
    have h1 := h q List.mem_cons_self
    show (scaled q.1 q.2 ++ flat r).length ≤ (r.length + 1) * n
    rw [List.length_append, scaled_len, Nat.succ_mul]
    omega
theorem parts_nil : ∀ (m : Ms) (j : Str), sumAt (flat (parts [] m)) j = sumAt m j
  | [], j => rfl
  | p :: r, j => by
    have ih := parts_nil r j
    show sumAt (scaled [(p.1, 1)] p.2 ++ flat (parts [] r)) j = _
    rw [sumAt_append, ih, sumAt_scaled, sumAt_one]
    show _ = (if p.1 = j then p.2 else 0) + sumAt r j
    by_cases e : p.1 = j
    · rw [if_pos e, if_pos e]
      omega
    · rw [if_neg e, if_neg e]
      omega
end MK


set_option Elab.async false
set_option linter.all false
set_option maxRecDepth 100000
set_option maxHeartbeats 4000000
namespace MK
open PySem
/-! ### fractions: plain Lean -/
/-- in lowest terms, below from 1 on -/
def Red (u v : Int) : Prop := 0 < v ∧ Nat.gcd u.natAbs v.natAbs = 1
/-- what both are divided by -/
def cut (x y : Int) : Int := if y < 0 then -((Nat.gcd x.natAbs y.natAbs : Nat) : Int) else ((Nat.gcd x.natAbs y.natAbs : Nat) : Int)
theorem cut_ne {x y : Int} (hy : y ≠ 0) : cut x y ≠ 0 := by
  have h : Nat.gcd x.natAbs y.natAbs ≠ 0 := fun e => hy (by have := Nat.eq_zero_of_gcd_eq_zero_right e; omega)
  unfold cut
  split <;> omega
theorem cut_le {x y : Int} (hy : y ≠ 0) : (cut x y).natAbs ≤ y.natAbs := by
  have h : Nat.gcd x.natAbs y.natAbs ≤ y.natAbs := Nat.gcd_le_right _ (by omega)
  unfold cut
  split <;> omega
theorem cut_ok {x y : Int} (hy : y ≠ 0) : Red (x.fdiv (cut x y)) (y.fdiv (cut x y)) ∧ x.fdiv (cut x y) * y = x * y.fdiv (cut x y) ∧ (x.fdiv (cut x y)).natAbs ≤ x.natAbs ∧ (y.fdiv (cut x y)).natAbs ≤ y.natAbs := by
  have hG : Nat.gcd x.natAbs y.natAbs ≠ 0 := fun e => hy (by have := Nat.eq_zero_of_gcd_eq_zero_right e; omega)
  obtain ⟨x', hx⟩ : ((Nat.gcd x.natAbs y.natAbs : Nat) : Int) ∣ x := Int.ofNat_dvd_left.mpr (Nat.gcd_dvd_left _ _)
  obtain ⟨y', hy'⟩ : ((Nat.gcd x.natAbs y.natAbs : Nat) : Int) ∣ y := Int.ofNat_dvd_left.mpr (Nat.gcd_dvd_right _ _)
  have hc := cut_ne (x := x) hy
  obtain ⟨s, hs, es⟩ : ∃ s : Int, (s = 1 ∨ s = -1) ∧ cut x y = s * ((Nat.gcd x.natAbs y.natAbs : Nat) : Int) ∧ 0 < s * y := by
    unfold cut
    by_cases c : y < 0
    · rw [if_pos c]
      exact ⟨-1, .inr rfl, by omega, by omega⟩
    · rw [if_neg c]
      exact ⟨1, .inl rfl, by omega, by omega⟩
  obtain ⟨es, sy⟩ := es
  generalize hg : Nat.gcd x.natAbs y.natAbs = G at *
  have ss : s * s = 1 := by rcases hs with e | e <;> rw [e] <;> rfl
  have sa : s.natAbs = 1 := by rcases hs with e | e <;> rw [e] <;> rfl
  have ex : x = cut x y * (s * x') := by
    rw [es, show s * (G : Int) * (s * x') = s * s * ((G : Int) * x') by rw [Int.mul_assoc, Int.mul_assoc, Int.mul_left_comm (G : Int) s x'], ss, Int.one_mul]
    exact hx
  have ey : y = cut x y * (s * y') := by
    rw [es, show s * (G : Int) * (s * y') = s * s * ((G : Int) * y') by rw [Int.mul_assoc, Int.mul_assoc, Int.mul_left_comm (G : Int) s y'], ss, Int.one_mul]
    exact hy'
  have ux : x.fdiv (cut x y) = s * x' := by
    generalize hcc : cut x y = cc at *
    rw [ex]
    exact Int.mul_fdiv_cancel_left _ hc
  have uy : y.fdiv (cut x y) = s * y' := by
    generalize hcc : cut x y = cc at *
    rw [ey]
    exact Int.mul_fdiv_cancel_left _ hc
  rw [ux, uy]
  have pos : 0 < s * y' := by
    have h1 : 0 < (G : Int) := by omega
    have h2 : s * y = (G : Int) * (s * y') := by
      rw [Int.mul_left_comm, ← hy']
    rw [h2] at sy
    exact Int.not_le.mp fun c => Int.not_le.mpr sy (Int.mul_nonpos_of_nonneg_of_nonpos (Int.le_of_lt h1) c)
  have ax : (s * x').natAbs = x'.natAbs := by rw [Int.natAbs_mul, sa, Nat.one_mul]
  have ay : (s * y').natAbs = y'.natAbs := by rw [Int.natAbs_mul, sa, Nat.one_mul]
  have nx : x.natAbs = G * x'.natAbs := by
    rw [hx, Int.natAbs_mul]
    rfl
  have ny : y.natAbs = G * y'.natAbs := by
    rw [hy', Int.natAbs_mul]
    rfl
  have G0 : 0 < G := Nat.pos_of_ne_zero hG
  refine ⟨⟨pos, ?_⟩, ?_, ?_, ?_⟩
  · rw [ax, ay]
    have e : Nat.gcd (G * x'.natAbs) (G * y'.natAbs) = G := by rw [← nx, ← ny]; exact hg
    rw [Nat.gcd_mul_left] at e
    have e2 : G * Nat.gcd x'.natAbs y'.natAbs = G * 1 := by rw [e, Nat.mul_one]
    exact Nat.eq_of_mul_eq_mul_left G0 e2
  · rw [show s * x' * y = s * x' * ((G : Int) * y') from congrArg (s * x' * ·) hy', show x * (s * y') = (G : Int) * x' * (s * y') from congrArg (· * (s * y')) hx]
    rw [Int.mul_assoc, Int.mul_assoc, Int.mul_left_comm s x' _, Int.mul_left_comm s (G : Int) y', Int.mul_left_comm x' (G : Int) (s * y')]
  · rw [ax, nx]
    exact Nat.le_mul_of_pos_left _ G0
  · rw [ay, ny]
    exact Nat.le_mul_of_pos_left _ G0
/-- two in lowest terms, of one value, are one -/
theorem red_uniq {a b c d : Int} (h : Red a b) (h' : Red c d) (e : a * d = c * b) : a = c ∧ b = d := by
  obtain ⟨b0, g1⟩ := h
  obtain ⟨d0, g2⟩ := h'
  have en : a.natAbs * d.natAbs = c.natAbs * b.natAbs := by rw [← Int.natAbs_mul, ← Int.natAbs_mul, e]
  have h1 : b.natAbs ∣ d.natAbs := by
    have : b.natAbs ∣ a.natAbs * d.natAbs := ⟨c.natAbs, by rw [en, Nat.mul_comm]⟩
    exact Nat.Coprime.dvd_of_dvd_mul_left (Nat.Coprime.symm g1) this
  have h2 : d.natAbs ∣ b.natAbs := by
    have : d.natAbs ∣ c.natAbs * b.natAbs := ⟨a.natAbs, by rw [← en, Nat.mul_comm]⟩
    exact Nat.Coprime.dvd_of_dvd_mul_left (Nat.Coprime.symm g2) this
  have h3 := Nat.dvd_antisymm h1 h2
  have hb : b = d := by omega
  rw [hb] at e
  exact ⟨Int.eq_of_mul_eq_mul_right (by omega) e, hb⟩
theorem red_pow {a b : Int} (h : Red a b) (n : Nat) : Red (a ^ n) (b ^ n) := by
  obtain ⟨h1, h2⟩ := h
  refine ⟨Int.pow_pos h1, ?_⟩
  rw [Int.natAbs_pow, Int.natAbs_pow]
  exact Nat.Coprime.pow n n h2
end MK

namespace L2
open PySem PySem.Spec PyProof.Rows
/-- // by what is not nought, below 2 ^ 9000 -/
def CDivWN (_ j : Int) : Prop := j ≠ 0 ∧ j.natAbs.log2 < 9000
section
variable {X : Cx}
theorem op_fdivWN : OpR X (binaryOp .FloorDiv) (rI CDivWN fun i j => .int (i.fdiv j)) := opI fun _ _ _ _ _ _ _ hc q => floordiv_int hc.1 q (.inl (PyProof.noPylong_of_log2 hc.2))
end
theorem divWN_ok {i j : Int} (h : j ≠ 0) (hb : j.natAbs < 2 ^ 8000) : CDivWN i j := ⟨h, Nat.lt_of_lt_of_le (PySem.Flt.log2_lt_of (by decide) hb) (by decide)⟩
/-- no error leaves a call that could let one out -/
theorem passN {X : Cx} : Passes (L2N.CX X.prog X.w) X E0 := fun _ _ _ _ _ _ _ h => by
  obtain ⟨_, _, _, _, _, _, _, _, _, _, _, _, z⟩ := h
  exact z.elim
/-- around a body nothing is let out -/
theorem takesN {X : Cx} : L2N.Takes X (fun _ _ _ _ => False) := fun _ _ x => by
  obtain ⟨_, _, _, _, _, _, _, _, _, _, _, _, _, _, _, _, z⟩ := x
  exact z.elim
theorem bootVE : bootBuiltins "ValueError" = some (.type "ValueError") := by decide +kernel
section
variable {P : Program} {w : World} {K : PySem.W.Frag} {mg : Str → Option Value} {base : Heap}
/-- a def that may raise, its errors' context None -/
theorem Fun.okN {x qual : Str} {st : Stmt} {f : Addr} {fd : FuncData} {N ps : List Str} {k : Nat} {sp : Sp} (F : Fun K x qual st f fd) (S : FnScope N ps (defScope st)) (len : ∀ vs H Q E, sp vs H Q E → vs.length = ps.length)
    (hb : ∀ (cdv : Value) (A : Around) (outer : List Env) (s : Shared) (H : Hp) (vs : List V) (Q : VK) (E : XK), Room k (A.deeper (envOfC qual (defScope st) s.heap.objs.size f cdv)) → sp vs H Q E →
      ∃ t, PSs (cxOf (L2N.CX P w) P w K mg base N qual (defScope st) f cdv A outer s H E) (defBody st) t ∧ t { nx := fun _ H' => Q .non H', rt := Q } (L2.start N vs) H) : FnOk P w K mg base (L2N.CX P w) (k + 1) f fd ps sp := by
  obtain ⟨oc, od, kV, doc, pm, an, cdv, ct, osl, rfl, lk, hcd⟩ := F.ex
  exact fn_of lk hcd S len fun A outer s H vs Q E hr hsp => hb cdv A outer s H vs Q E hr hsp
/-! ### a def called within an except suite, of the error that is handled (its class at D) -/
structure FnHE (P : Program) (w : World) (K : PySem.W.Frag) (mg : Str → Option Value) (base : Heap) (D : Addr) (k : Nat) (f : Addr) (fd : FuncData) (ps : List Str) (sp : Addr → Sp) : Prop where
  len : ∀ a vs H Q E, sp a vs H Q E → vs.length = ps.length
  run : ∀ (A : Around) (outer : List Env) (s : Shared) (H : Hp) (args : Args) (us : List Value) (vs : List V) (Q : VK) (E : XK) (p : Addr × Obj), L2H.RoomH k A → L2H.Hot1 A p → p.2.cls = .ref D → p.2.dict = none → L2H.PinOk outer H s p → Env0 P w K mg base A outer s H → BindsTo s fd args (ps.zip us) →
    Vals vs us → sp p.1 vs H Q E → codeAny (model P w) A (.call (.ref f) args) (CR CX0 outer P w H s Q E) s
theorem Fun.okHE {x qual : Str} {st : Stmt} {f D : Addr} {fd : FuncData} {N ps : List Str} {k : Nat} {sp : Addr → Sp} (F : Fun K x qual st f fd) (S : FnScope N ps (defScope st)) (len : ∀ a vs H Q E, sp a vs H Q E → vs.length = ps.length)
    (hbody : ∀ (cdv : Value) (A : Around) (outer : List Env) (s : Shared) (H : Hp) (vs : List V) (Q : VK) (E : XK) (p : Addr × Obj), L2H.Hot1 A p → p.2.cls = .ref D → p.2.dict = none → L2H.RoomH k (A.deeper (envOfC qual (defScope st) s.heap.objs.size f cdv)) → sp p.1 vs H Q E →
      ∃ t, PSs (L2H.cxH CX0 P w K mg base N qual (defScope st) f cdv A outer s H E p) (defBody st) t ∧ t { nx := fun _ H' => Q .non H', rt := Q } (L2.start N vs) H) : FnHE P w K mg base D (k + 1) f fd ps sp := by
  obtain ⟨oc, od, kV, doc, pm, an, cdv, ct, osl, rfl, lk, hcd⟩ := F.ex
  refine ⟨len, fun A outer s H args us vs Q E p hr hot hD hN hpin e0 hb r hsp => ?_⟩
  have hl := len _ _ _ _ _ hsp
  have keepB : ∀ b o, base.get? b = some o → s.heap.get? b = some o := fun b o e => (e0.bs b o e).1
  have KX : K.In s.heap := e0.mod.kin.keeps keepB
  have lim : s.heap.NoLimit := e0.mod.nolimit.keeps keepB
  have kinds : ∀ y ∈ ps.zip us, (defScope st).names.lookup y.1 = some .local ∨ ((defScope st).names.lookup y.1 = some .cell ∧ ((cellsFrom (s.heap.objs.size + 1) (defScope st).names []).lookup y.1).isSome = true) := by
    rintro ⟨n, v⟩ hy
    rcases S.par n (List.of_mem_zip hy).1 with q | q
    · exact .inl q
    · exact .inr ⟨q, PySem.W.cellsFrom_some _ _ _ (.inl q)⟩
  refine codeAny_call_function hr.depth (KX _ _ lk) rfl S.co S.gen rfl (PySem.W.codeRec_of KX hcd) (hb _ _ _ _ ?_)
  refine wpAny_newFunctionEnv_cells S.kind kinds fun env he s1 x => ?_
  subst he
  refine ⟨lim.keeps x.toInCall.keep, codeAny_func ?_⟩
  obtain ⟨t, ht, hq⟩ := hbody cdv A outer s H vs Q E p hot hD hN (hr.deeper _) hsp
  refine wpAny_mono (ht.run [] s1 (L2.start N vs) H _ (L2H.inv_startH S hpin e0 hl r x) hq) (fun fl s' hs => ?_) fun e s' hs => hs
  cases fl with
  | ret u =>
    obtain ⟨v, σ', H', J, rv, q⟩ := hs
    exact ⟨v, H', J.os, J.bare, J.base, J.hok, rv, q⟩
  | next =>
    obtain ⟨σ', H', J, q⟩ := hs
    exact ⟨V.non, H', J.os, J.bare, J.base, J.hok, rfl, q⟩
  | brk =>
    obtain ⟨_, _, _, q⟩ := hs
    exact False.elim q
  | cont =>
    obtain ⟨_, _, _, q⟩ := hs
    exact False.elim q
end
section
variable {X : Cx} {k : Nat} {f D : Addr} {fd : FuncData} {ps : List Str} {sp : Addr → Sp} {x : Str} {q pos : Pos} {e : Expr} {es : List Expr} {t : TA} {a : Addr} {oe : Obj} {cls : Value} {d : Option Addr} {pn : List (Addr × Obj)}
/-- f(e), within the suite that holds the error at a: asks that the error is the class's own, without a dict -/
theorem pe_callHE (F : FnHE X.prog X.w X.K X.mg X.base D k f fd ps sp) (hr : L2H.RoomH k X.A) (hz : L2N.Zn cls d oe) (hf : ∃ vs, oe.data = .fields vs) (hg : Gl X x) (hm : X.mg x = some (.ref f)) (hk : PySem.W.keepIn X.K (.ref f) = true) (hb : Binds X.K fd ps [])
    (ha : PA (X.suite a ((a, oe) :: pn)) (e :: es) t) (hdb : (x == ("__debug__" : Str)) = false := by decide) (he : starEach (e :: es) X.env = (false, eval e X.env) :: starEach es X.env := by rfl) (hpl : (backTo pos (starEach es X.env)).any (·.1) = false := by rfl) :
    PE (X.suite a ((a, oe) :: pn)) (.Call (.Name x q) (e :: es) [] pos) (fun σ H Q => cls = .ref D ∧ d = none ∧ t σ H fun vs H1 => sp a vs H1 Q E0) := by
  refine ⟨fun pins s σ H Q I h => ?_⟩
  obtain ⟨ec, ed, h⟩ := h
  refine wpAny_Call_Name_kw (ld_glob I hg hm ?_ hdb)
  refine PySem.W.callWith_K (h₀ := X.base) I.ok.mod.kin hk (thn (ha.run pos pins s σ H _ I h) fun us s1 hh => ?_) he hpl
  obtain ⟨vs, H1, I1, r, hsp⟩ := hh
  refine ⟨I1.kIn, ?_⟩
  have hl : us.length = ps.length := by rw [← r.length]; exact F.len _ _ _ _ _ hsp
  have b := hb s1 us I1.kIn (by rw [List.append_nil]; exact hl)
  rw [List.append_nil] at b
  have P1 := I1.pin (a, oe) (List.mem_append_left _ List.mem_cons_self)
  have hpin : L2H.PinOk (X.suite a ((a, oe) :: pn)).stack H1 s1 (a, oe) := ⟨P1.1, P1.2.1, fun hm => (List.mem_cons.mp (I1.stkSub a hm)).elim P1.2.2.1 P1.2.2.2.1, P1.2.2.2.2⟩
  have hot : L2H.Hot1 (X.suite a ((a, oe) :: pn)).A (a, oe) := by
    obtain ⟨vs, hv⟩ := hf
    exact ⟨rfl, vs, hv, hz.2.2 vs hv⟩
  refine wpAny_call (codeAny_mono (F.run _ _ s1 H1 ⟨us, []⟩ us vs Q E0 (a, oe) ⟨hr.dp, hr.un⟩ hot (hz.1.trans ec) (hz.2.1.trans ed) hpin I1.env0 b r hsp) fun res s' hq => ?_)
  cases res with
  | error er => exact hq.elim
  | ok fl =>
    cases fl with
    | ret u => exact I1.after hq
    | next => exact False.elim hq
    | brk => exact False.elim hq
    | cont => exact False.elim hq
/-- isinstance of an error that the context bears -/
theorem call_isP {X : Cx} {D : Addr} {p : Addr × Obj} (C : ExcC X.K D) (hp : p ∈ X.pn) (h1 : p.2.cls = .ref D) (h2 : p.2.dict = none) (hf : ∃ vs, p.2.data = .fields vs) : CallR X (.builtin "isinstance") (rIsE X.K D p.1) := by
  intro pins s σ H xs us Q I r h
  obtain ⟨c, cv, b, rfl, hcv, e, q⟩ := h
  obtain ⟨u1, u2, rfl, rx, rt⟩ := vals2 r
  cases rx
  have ec := hcv _ rt
  subst ec
  have hget := (I.pin p (List.mem_append_left _ hp)).1
  obtain ⟨vs, hv⟩ := hf
  have J : PySem.W.InstAt s.heap p.1 p.2 D none := by
    obtain ⟨a, oc, od, oda, osl⟩ := p
    dsimp only at h1 h2 hv
    subst h1 h2 hv
    exact ⟨hget, rfl, rfl, trivial⟩
  exact PySem.W.kia_one (PySem.W.handS_kitx_exc C.hg C.hk C.hs C.hd C.ha C.hn C.ht C.hm) I.kIn J e (fun z => nomatch z) fun tk => ⟨.bl b, H, I.kept (t' := tk) fun _ _ z => z, rfl, q⟩
/-- isinstance of the error that the suite handles, whatever its class -/
theorem call_isS {X : Cx} {a : Addr} {oe : Obj} {cls : Value} {d : Option Addr} {pn : List (Addr × Obj)} (hz : L2N.Zn cls d oe) (hf : ∃ vs, oe.data = .fields vs) :
    CallR (X.suite a ((a, oe) :: pn)) (.builtin "isinstance") (fun xs H Q => ∃ D, cls = .ref D ∧ d = none ∧ ExcC X.K D ∧ rIsE X.K D a xs H Q) := by
  intro pins s σ H xs us Q I r h
  obtain ⟨D, e1, e2, C, h⟩ := h
  exact call_isP (X := X.suite a ((a, oe) :: pn)) (p := (a, oe)) C List.mem_cons_self (hz.1.trans e1) (hz.2.1.trans e2) hf pins s σ H xs us Q I r h
end
end L2


set_option Elab.async false
set_option linter.all false
set_option maxRecDepth 100000
set_option maxHeartbeats 4000000
namespace MK
/-! ### sums and products of fractions by what they share: plain Lean -/
/-- what both are divided by, from nought on -/
abbrev gc (x y : Int) : Int := ((Nat.gcd x.natAbs y.natAbs : Nat) : Int)
theorem gc_dl (x y : Int) : gc x y ∣ x := Int.ofNat_dvd_left.mpr (Nat.gcd_dvd_left _ _)
theorem gc_dr (x y : Int) : gc x y ∣ y := Int.ofNat_dvd_left.mpr (Nat.gcd_dvd_right _ _)
theorem gc_pos {x y : Int} (h : y ≠ 0) : 0 < gc x y := by
  have : Nat.gcd x.natAbs y.natAbs ≠ 0 := fun e => h (by have := Nat.eq_zero_of_gcd_eq_zero_right e; omega)
  show 0 < ((Nat.gcd x.natAbs y.natAbs : Nat) : Int)
  omega
/-- both are what is shared times two that share nothing -/
theorem gc_split {x y : Int} (h : y ≠ 0) : ∃ x' y', x = gc x y * x' ∧ y = gc x y * y' ∧ Nat.gcd x'.natAbs y'.natAbs = 1 ∧ x.fdiv (gc x y) = x' ∧ y.fdiv (gc x y) = y' := by
  obtain ⟨x', hx⟩ := gc_dl x y
  obtain ⟨y', hy⟩ := gc_dr x y
  have p := gc_pos (x := x) h
  refine ⟨x', y', hx, hy, ?_, ?_, ?_⟩
  · have nx : x.natAbs = Nat.gcd x.natAbs y.natAbs * x'.natAbs := by
      have := congrArg Int.natAbs hx
      rw [Int.natAbs_mul] at this
      exact this
    have ny : y.natAbs = Nat.gcd x.natAbs y.natAbs * y'.natAbs := by
      have := congrArg Int.natAbs hy
      rw [Int.natAbs_mul] at this
      exact this
    have p' : 0 < Nat.gcd x.natAbs y.natAbs := by
      have : 0 < ((Nat.gcd x.natAbs y.natAbs : Nat) : Int) := p
      omega
    generalize hg : Nat.gcd x.natAbs y.natAbs = G at *
    have e : Nat.gcd (G * x'.natAbs) (G * y'.natAbs) = G := by rw [← nx, ← ny]; exact hg
    rw [Nat.gcd_mul_left] at e
    exact Nat.eq_of_mul_eq_mul_left p' (by rw [e, Nat.mul_one])
  · generalize gc x y = g at *
    rw [hx]
    exact Int.mul_fdiv_cancel_left _ (by omega)
  · generalize gc x y = g at *
    rw [hy]
    exact Int.mul_fdiv_cancel_left _ (by omega)
theorem fdiv_le {x g : Int} (hg : 0 < g) (hd : g ∣ x) : (x.fdiv g).natAbs ≤ x.natAbs := by
  obtain ⟨z, rfl⟩ := hd
  rw [Int.mul_fdiv_cancel_left _ (by omega), Int.natAbs_mul]
  exact Nat.le_mul_of_pos_left _ (by omega)
theorem pos_of {g x : Int} (hg : 0 < g) (h : 0 < g * x) : 0 < x := Int.not_le.mp fun c => Int.not_le.mpr h (Int.mul_nonpos_of_nonneg_of_nonpos (Int.le_of_lt hg) c)
theorem cop_mulr {x y z : Nat} (h : Nat.gcd x y = 1) (h' : Nat.gcd x z = 1) : Nat.gcd x (y * z) = 1 := Nat.Coprime.mul_right h h'
theorem cop_mull {x y z : Nat} (h : Nat.gcd x z = 1) (h' : Nat.gcd y z = 1) : Nat.gcd (x * y) z = 1 := Nat.Coprime.mul_left h h'
theorem cop_dl {x y z : Nat} (h : Nat.gcd x z = 1) (d : y ∣ x) : Nat.gcd y z = 1 := Nat.Coprime.coprime_dvd_left d h
theorem cop_dr {x y z : Nat} (h : Nat.gcd x z = 1) (d : y ∣ z) : Nat.gcd x y = 1 := Nat.Coprime.coprime_dvd_right d h
theorem abs_dl (x y : Int) : x.natAbs ∣ (x * y).natAbs := by rw [Int.natAbs_mul]; exact ⟨_, rfl⟩
theorem abs_dr (x y : Int) : y.natAbs ∣ (x * y).natAbs := by rw [Int.natAbs_mul]; exact ⟨_, Nat.mul_comm _ _⟩
/-- what sums of two share with one part is shared by the other -/
theorem cop_sum {p q m : Int} (h : Nat.gcd p.natAbs m.natAbs = 1) : Nat.gcd (p + m * q).natAbs m.natAbs = 1 := by
  have e := Int.gcd_add_mul_left_right m p q
  rw [Int.gcd_comm m p, show p.gcd m = 1 from h, Int.gcd_comm] at e
  exact e
/-- one and another fraction, together, as it is worked out -/
def togA (a b c d : Int) : Int := (a * d.fdiv (gc b d) + c * b.fdiv (gc b d)).fdiv (gc (a * d.fdiv (gc b d) + c * b.fdiv (gc b d)) (gc b d))
def togB (a b c d : Int) : Int := b.fdiv (gc b d) * d.fdiv (gc (a * d.fdiv (gc b d) + c * b.fdiv (gc b d)) (gc b d))
theorem tog_ok {a b c d : Int} (h : Red a b) (h' : Red c d) : Red (togA a b c d) (togB a b c d) ∧ togA a b c d * (b * d) = (a * d + c * b) * togB a b c d := by
  obtain ⟨b0, g1⟩ := h
  obtain ⟨d0, g2⟩ := h'
  have dn : d ≠ 0 := by omega
  have sp := gc_pos (x := b) dn
  unfold togA togB
  obtain ⟨b', d', eb, ed, cbd, fb, fd⟩ := gc_split (x := b) dn
  rw [fb, fd]
  generalize gc b d = s at *
  generalize hw : a * d' + c * b' = whole at *
  obtain ⟨w', s', ew, es, cws, fw, fs⟩ := gc_split (x := whole) (y := s) (by omega)
  have gp := gc_pos (x := whole) (y := s) (by omega)
  rw [fw]
  generalize gc whole s = g at *
  have dd : d = g * (s' * d') := by rw [ed, ← Int.mul_assoc, ← es]
  have fdd : d.fdiv g = s' * d' := by
    rw [dd]
    exact Int.mul_fdiv_cancel_left _ (by omega)
  rw [fdd]
  have cwb : Nat.gcd whole.natAbs b'.natAbs = 1 := by
    have h1 : Nat.gcd (a * d').natAbs b'.natAbs = 1 := by
      rw [Int.natAbs_mul]
      refine cop_mull (cop_dr g1 ?_) (by rw [Nat.gcd_comm]; exact cbd)
      rw [eb]
      exact abs_dr _ _
    rw [← hw, Int.mul_comm c b']
    exact cop_sum h1
  have cwd : Nat.gcd whole.natAbs d'.natAbs = 1 := by
    have h1 : Nat.gcd (c * b').natAbs d'.natAbs = 1 := by
      rw [Int.natAbs_mul]
      refine cop_mull (cop_dr g2 ?_) cbd
      rw [ed]
      exact abs_dr _ _
    rw [← hw, Int.add_comm, Int.mul_comm a d']
    exact cop_sum h1
  have ww : w'.natAbs ∣ whole.natAbs := by
    rw [ew]
    exact abs_dr _ _
  refine ⟨⟨?_, ?_⟩, ?_⟩
  · have p1 : 0 < b' := pos_of sp (by rw [← eb]; exact b0)
    have p2 : 0 < s' * d' := pos_of gp (by rw [← dd]; exact d0)
    exact Int.mul_pos p1 p2
  · rw [Int.natAbs_mul, Int.natAbs_mul]
    exact cop_mulr (cop_dl cwb ww) (cop_mulr cws (cop_dl cwd ww))
  · have e1 : a * d + c * b = s * whole := by
      rw [ed, eb, ← hw, Int.mul_add, Int.mul_left_comm a s d', Int.mul_left_comm c s b']
    rw [e1, dd, ew, eb]
    simp only [Int.mul_assoc, Int.mul_comm, Int.mul_left_comm]
/-- their product, as it is worked out -/
def proA (a b c d : Int) : Int := a.fdiv (gc a d) * c.fdiv (gc c b)
def proB (a b c d : Int) : Int := b.fdiv (gc c b) * d.fdiv (gc a d)
theorem pro_ok {a b c d : Int} (h : Red a b) (h' : Red c d) : Red (proA a b c d) (proB a b c d) ∧ proA a b c d * (b * d) = a * c * proB a b c d := by
  obtain ⟨b0, g1⟩ := h
  obtain ⟨d0, g2⟩ := h'
  obtain ⟨a', d', ea, ed, cad, fa, fd⟩ := gc_split (x := a) (y := d) (by omega)
  obtain ⟨c', b', ec, eb, ccb, fc, fb⟩ := gc_split (x := c) (y := b) (by omega)
  have p1 := gc_pos (x := a) (y := d) (by omega)
  have p2 := gc_pos (x := c) (y := b) (by omega)
  unfold proA proB
  rw [fa, fd, fc, fb]
  generalize gc a d = g at *
  generalize gc c b = k at *
  refine ⟨⟨Int.mul_pos (pos_of p2 (by rw [← eb]; exact b0)) (pos_of p1 (by rw [← ed]; exact d0)), ?_⟩, ?_⟩
  · have da : a'.natAbs ∣ a.natAbs := by rw [ea]; exact abs_dr _ _
    have dc : c'.natAbs ∣ c.natAbs := by rw [ec]; exact abs_dr _ _
    have db : b'.natAbs ∣ b.natAbs := by rw [eb]; exact abs_dr _ _
    have dd : d'.natAbs ∣ d.natAbs := by rw [ed]; exact abs_dr _ _
    rw [Int.natAbs_mul, Int.natAbs_mul]
    exact cop_mull (cop_mulr (cop_dl (cop_dr g1 db) da) cad) (cop_mulr ccb (cop_dl (cop_dr g2 dd) dc))
  · rw [ea, ed, ec, eb]
    simp only [Int.mul_assoc, Int.mul_comm, Int.mul_left_comm]
/-- one over it, as it is worked out -/
def trnA (a b : Int) : Int := if a < 0 then -b else b
def trnB (a b : Int) : Int := if a < 0 then -a else a
theorem trn_ok {a b : Int} (h : Red a b) (n : a ≠ 0) : Red (trnA a b) (trnB a b) ∧ trnA a b * a = b * trnB a b := by
  obtain ⟨b0, g⟩ := h
  unfold trnA trnB
  split
  · refine ⟨⟨by omega, ?_⟩, ?_⟩
    · rw [Int.natAbs_neg, Int.natAbs_neg, Nat.gcd_comm]
      exact g
    · rw [Int.neg_mul, Int.mul_neg]
  · exact ⟨⟨by omega, by rw [Nat.gcd_comm]; exact g⟩, rfl⟩
theorem trn_le (a b : Int) : (trnA a b).natAbs = b.natAbs ∧ (trnB a b).natAbs = a.natAbs := by
  unfold trnA trnB
  split <;> constructor <;> omega
end MK


set_option Elab.async false
set_option linter.all false
set_option maxRecDepth 100000
set_option maxHeartbeats 4000000
namespace MK
open PySem PySem.Spec PyProof.Rows L2
def topS (i : Nat) : Stmt := PySem.Challenge.pw_measurekind_k03_fractions_reckoned.main.body.getD i (.Pass ⟨0, 0, 0, 0⟩)
abbrev sFrac : Stmt := topS 8
abbrev sAdd : Stmt := topS 9
abbrev sLess : Stmt := topS 10
abbrev sProd : Stmt := topS 11
abbrev sQuo : Stmt := topS 12
abbrev sRaised : Stmt := topS 13
abbrev sIsLess : Stmt := topS 14
abbrev sTog : Stmt := topS 15
abbrev sTrn : Stmt := topS 16
abbrev sWholeP : Stmt := topS 17
abbrev sCell : Stmt := topS 19
abbrev sMix : Stmt := topS 20
abbrev sShared : Stmt := topS 21
abbrev sLowest : Stmt := topS 22
abbrev sNumber : Stmt := topS 23
abbrev sAlone : Stmt := topS 24
abbrev sLQuo : Stmt := topS 25
abbrev sLRaised : Stmt := topS 26
abbrev sLFrac : Stmt := topS 27
abbrev sLIs : Stmt := topS 28
abbrev sTimesI : Stmt := topS 29
abbrev sLaw : Stmt := topS 30
end MK


set_option Elab.async false
set_option linter.all false
set_option maxRecDepth 100000
set_option maxHeartbeats 4000000
namespace MK
open PySem PySem.Spec PyProof.Rows L2
section
variable {P : Program} {w : World} {K : PySem.W.Frag} {mg : Str → Option Value} {base : Heap}
/-! ### _law_cell_at -/
def spCell (K : PySem.W.Frag) : Sp := fun vs H Q _ => ∃ (a : Addr) (ns : List Int) (k : Nat), vs = [.ref a, .int k] ∧ SqL K H a (ns.map V.int) ∧
  ∀ c : Int, 0 ≤ c → c < 1000000000000000003 → Q (.int c) H
theorem scCell : FnScope ["_law_script", "_law_k"] ["_law_script", "_law_k"] (defScope sCell) := ⟨rfl, rfl, rfl, by decide +kernel, rfl, by decide +kernel, by decide +kernel⟩
theorem ok_cell {f : Addr} {fd : FuncData} (F : Fun K "_law_cell_at" "_law_cell_at" sCell f fd) (ml : mg "len" = none) : FnOk P w K mg base CX0 1 f fd ["_law_script", "_law_k"] (spCell K) := by
  refine F.ok scCell (fun vs H Q E h => ?_) (fun cdv A outer s H vs Q E hr h => ?_)
  · obtain ⟨a, ns, k, rfl, _⟩ := h
    rfl
  · obtain ⟨a, ns, k, rfl, hS, q⟩ := h
    refine ⟨_, pss_cons (ps_if (pt_cmpR op_lt (pv 1) (pe_callB call_len_seq (by rfl) ml PySem.boot_len (pa_cons (pv 0) pa_nil)) (nomark _))
        (pss_one (ps_ret (pe_op op_mod (pe_ix ix_list (pv 0) (pv 1) (fun _ _ => rfl)) pe_int))) pss_nil)
      (pss_one (ps_ret pe_int)), ?_⟩
    refine ⟨_, rfl, _, rfl, a, ns.map V.int, rfl, .inl hS, _, _, rfl, rfl, _, rfl, ite2 (fun e => ?_) (fun e => ?_)⟩
    · have hk : k < ns.length := by
        have := of_decide_eq_true e
        rw [List.length_map] at this
        omega
      refine ⟨_, rfl, _, rfl, a, ns.map V.int, (k : Int), .int ns[k], rfl, rfl, hS, atI_nat (by rw [List.getElem?_map, List.getElem?_eq_getElem hk]; rfl), _, _, rfl, rfl, (by show (0 : Int) < 1000000000000000003; decide), ?_⟩
      exact q _ (Int.emod_nonneg _ (by decide)) (Int.emod_lt_of_pos _ (by decide))
    · exact q 0 (by decide) (by decide)
end
end MK


set_option Elab.async false
set_option linter.all false
set_option maxRecDepth 100000
set_option maxHeartbeats 4000000
namespace MK
open PySem PySem.Spec PyProof.Rows L2
/-- what the class of an error of the program's own is known by -/
structure ErrAt (K : PySem.W.Frag) (mg : Str → Option Value) (x : Str) (B : Addr) : Prop where
  x1 : PySem.W.excIn K B [.type "ValueError", .type "Exception", .type "BaseException", .type "object"] "ValueError.__new__" = true
  g : mg x = some (.ref B)
  k : PySem.W.keepIn K (.ref B) = true
  b : PySem.W.subIn K (.ref B) (.type "BaseException") = some true
  t : PySem.W.typeIn K (.ref B) = some (.type "type")
section
variable {P : Program} {w : World} {K : PySem.W.Frag} {mg : Str → Option Value} {base : Heap} {B : Addr}
abbrev FrAt (H : Hp) (p : Addr) (u v : Int) : Prop := H p = some (.tup [.int u, .int v])
theorem scFrac : FnScope ["above", "below", "shared"] ["above", "below"] (defScope sFrac) := ⟨rfl, rfl, rfl, by decide +kernel, rfl, by decide +kernel, by decide +kernel⟩
def spFrac (B : Addr) : Sp := fun vs H Q E => ∃ x y : Int, vs = [.int x, .int y] ∧ x.natAbs < 2 ^ 200 ∧ y.natAbs < 2 ^ 200 ∧ (y = 0 → E (.ref B) none H) ∧
  (y ≠ 0 → ∀ p u v, H p = none → Red u v → u * y = x * v → u.natAbs ≤ x.natAbs → v.natAbs ≤ y.natAbs → Q (.ref p) (upd H p (.tup [.int u, .int v])))
theorem ok_frac {f : Addr} {fd : FuncData} (F : Fun K "fraction" "fraction" sFrac f fd) (mG : mg "gcd" = some (.builtin "math.gcd")) (eB : ErrAt K mg "ByNought" B) : FnOk P w K mg base (L2N.CX P w) 1 f fd ["above", "below"] (spFrac B) := by
  refine F.okN scFrac (fun vs H Q E h => ?_) (fun cdv A outer s H vs Q E hr h => ?_)
  · obtain ⟨x, y, rfl, _⟩ := h
    rfl
  · obtain ⟨x, y, rfl, bx, by', qE, qQ⟩ := h
    have nd := scFrac.nd
    refine ⟨_, pss_cons (ps_if (pt_cmpR op_eq (pv 1) pe_int (nomark _)) (pss_one (L2N.ps_raise rfl (L2N.takes_of rfl rfl rfl rfl) (L2N.pmk_own PySem.F.excBase_ValueError eB.x1 eB.g eB.k (raises_own eB.b eB.t) rfl))) pss_nil)
      (PSs.nox (pss_cons (ps_set (i := 2) nd rfl (.inl rfl) (pe_callBfun cr_gcd (by rfl) mG (pa_cons (pv 0) (pa_cons (pv 1) pa_nil))))
      (Evl.pss_cut (ps_if (pt_cmpR op_lt (pv 1) pe_int (nomark _)) (pss_one (ps_set (i := 2) nd rfl (.inl rfl) (pe_un un_neg (pv 2)))) pss_nil)
      (pss_one (ps_ret (pe_tup (pa_cons (pe_op op_fdivWN (pv 0) (pv 2)) (pa_cons (pe_op op_fdivWN (pv 1) (pv 2)) pa_nil)))))))), ?_⟩
    refine ⟨_, rfl, rfl, _, rfl, ite2 (fun e => ?_) (fun e => ?_)⟩
    · exact qE (by simpa using e)
    · have y0 : y ≠ 0 := fun z => e (by rw [z]; rfl)
      refine ⟨_, rfl, _, rfl, x, y, rfl, ?_⟩
      refine ⟨fun σ' H' => σ' = [some (.int x), some (.int y), some (.int (cut x y))] ∧ H' = H, ?_, ?_⟩
      · refine ⟨_, rfl, _, _, rfl, rfl, _, rfl, ite2 (fun e => ?_) (fun e => ?_)⟩
        · have e1 : y < 0 := of_decide_eq_true e
          refine ⟨_, rfl, _, rfl, ?_⟩
          refine ⟨?_, rfl⟩
          unfold cut
          rw [if_pos e1]
          rfl
        · have e1 : ¬ y < 0 := fun z => e (decide_eq_true z)
          refine ⟨?_, rfl⟩
          unfold cut
          rw [if_neg e1]
          rfl
      · rintro σ' H' ⟨rfl, rfl⟩
        have c0 := cut_ne (x := x) y0
        have cb : (cut x y).natAbs < 2 ^ 8000 := Nat.lt_of_le_of_lt (cut_le y0) (Nat.lt_trans by' (Nat.pow_lt_pow_right (by decide) (by decide)))
        obtain ⟨h1, h2, h3, h4⟩ := cut_ok (x := x) y0
        refine ⟨_, rfl, _, rfl, _, _, rfl, rfl, divWN_ok c0 cb, _, rfl, _, rfl, _, _, rfl, rfl, divWN_ok c0 cb, (by show 2 ≤ sizeLine; decide), fun p np => ?_⟩
        exact qQ y0 p _ _ np h1 h2 h3 h4
end
end MK


set_option Elab.async false
set_option linter.all false
set_option maxRecDepth 100000
set_option maxHeartbeats 4000000
namespace MK
open PySem PySem.Spec PyProof.Rows L2
theorem lt_two {x y : Int} (hx : x.natAbs < 2 ^ 40) (hy : y.natAbs < 2 ^ 40) : (x * y).natAbs < 2 ^ 80 := by
  rw [Int.natAbs_mul]
  exact Nat.lt_of_lt_of_le (Nat.mul_lt_mul'' hx hy) (by decide)
theorem two_add {x y : Int} (hx : x.natAbs < 2 ^ 80) (hy : y.natAbs < 2 ^ 80) : (x + y).natAbs < 2 ^ 200 := by omega
theorem two_sub {x y : Int} (hx : x.natAbs < 2 ^ 80) (hy : y.natAbs < 2 ^ 80) : (x - y).natAbs < 2 ^ 200 := by omega
theorem up_two {x : Int} (hx : x.natAbs < 2 ^ 80) : x.natAbs < 2 ^ 200 := by omega
theorem mul40 {x y : Int} (hx : x.natAbs < 2 ^ 40) (hy : y.natAbs < 2 ^ 40) : CMulW x y := wide_mul hx hy (by decide) (by decide) (by decide)
section
variable {P : Program} {w : World} {K : PySem.W.Frag} {mg : Str → Option Value} {base : Heap} {B : Addr}
/-- a fraction handed in: small enough, not nought below -/
structure FrIn (H : Hp) (a : Addr) (x y : Int) : Prop where
  h : FrAt H a x y
  n : 0 < y
  bx : x.natAbs < 2 ^ 40
  by' : y.natAbs < 2 ^ 40
  r : Red x y
theorem FrIn.same {H H' : Hp} {a : Addr} {x y : Int} (s : Same H H') (h : FrIn H a x y) : FrIn H' a x y := ⟨s _ _ h.h, h.n, h.bx, h.by', h.r⟩
/-- a new fraction, in lowest terms, of the value x over y -/
def QFr (H : Hp) (Q : VK) (x y : Int) : Prop := ∀ (H' : Hp) (p : Addr) (u v : Int), Same H H' → FrAt H' p u v → Red u v → u * y = x * v → u.natAbs < 2 ^ 200 → v.natAbs < 2 ^ 200 → Q (.ref p) H'
def spTwoF (g k : Int → Int → Int → Int → Int) : Sp := fun vs H Q _ => ∃ (a b : Addr) (x y z t : Int), vs = [.ref a, .ref b] ∧ FrIn H a x y ∧ FrIn H b z t ∧ QFr H Q (g x y z t) (k x y z t)
theorem scAdd : FnScope ["one", "other"] ["one", "other"] (defScope sAdd) := ⟨rfl, rfl, rfl, by decide +kernel, rfl, by decide +kernel, by decide +kernel⟩
theorem scLess : FnScope ["one", "other"] ["one", "other"] (defScope sLess) := ⟨rfl, rfl, rfl, by decide +kernel, rfl, by decide +kernel, by decide +kernel⟩
theorem scProd : FnScope ["one", "other", "falling", "rising"] ["one", "other"] (defScope sProd) := ⟨rfl, rfl, rfl, by decide +kernel, rfl, by decide +kernel, by decide +kernel⟩
theorem scQuo : FnScope ["one", "other"] ["one", "other"] (defScope sQuo) := ⟨rfl, rfl, rfl, by decide +kernel, rfl, by decide +kernel, by decide +kernel⟩
theorem scIsLess : FnScope ["one", "other"] ["one", "other"] (defScope sIsLess) := ⟨rfl, rfl, rfl, by decide +kernel, rfl, by decide +kernel, by decide +kernel⟩
theorem at2_0 (x y : V) : atI [x, y] 0 = some x := rfl
theorem at2_1 (x y : V) : atI [x, y] 1 = some y := rfl
theorem gc40 {x y : Int} (n : y ≠ 0) (h : y.natAbs < 2 ^ 40) : (gc x y).natAbs < 2 ^ 40 := by
  have : Nat.gcd x.natAbs y.natAbs ≤ y.natAbs := Nat.gcd_le_right _ (by omega)
  show ((Nat.gcd x.natAbs y.natAbs : Nat) : Int).natAbs < _
  omega
theorem gdiv {x y z : Int} (n : y ≠ 0) (h : y.natAbs < 2 ^ 40) : CDivWN z (gc x y) := divWN_ok (i := z) (Int.ne_of_gt (gc_pos n)) (Nat.lt_trans (gc40 n h) (Nat.pow_lt_pow_right (by decide) (by decide)))
theorem fle {x g : Int} (h : x.natAbs < 2 ^ 40) (p : 0 < g) (d : g ∣ x) : (x.fdiv g).natAbs < 2 ^ 40 := Nat.lt_of_le_of_lt (fdiv_le p d) h
theorem scTog : FnScope ["one", "above", "below", "shared", "rest", "whole", "left"] ["one", "above", "below"] (defScope sTog) := ⟨rfl, rfl, rfl, by decide +kernel, rfl, by decide +kernel, by decide +kernel⟩
def spTog : Sp := fun vs H Q _ => ∃ (a : Addr) (x y z t : Int), vs = [.ref a, .int z, .int t] ∧ FrIn H a x y ∧ Red z t ∧ z.natAbs < 2 ^ 40 ∧ t.natAbs < 2 ^ 40 ∧ QFr H Q (x * t + z * y) (y * t)
theorem ok_tog {f : Addr} {fd : FuncData} (F : Fun K "_together" "_together" sTog f fd) (mG : mg "gcd" = some (.builtin "math.gcd")) : FnOk P w K mg base CX0 1 f fd ["one", "above", "below"] spTog := by
  refine F.ok scTog (fun vs H Q E h => ?_) (fun cdv A outer s H vs Q E hr h => ?_)
  · obtain ⟨a, x, y, z, t, rfl, _⟩ := h
    rfl
  · obtain ⟨a, x, y, z, t, rfl, ⟨ha, y0, bx, by', red⟩, rz, bz, bt, q⟩ := h
    have nd := scTog.nd
    refine ⟨_, pss_cons (ps_set (i := 3) nd rfl (.inl rfl) (pe_callBfun cr_gcd (by rfl) mG (pa_cons (pe_ix ix_tup (pv 0) pe_int (fun _ _ => rfl)) (pa_cons (pv 2) pa_nil))))
      (pss_cons (ps_set (i := 4) nd rfl (.inl rfl) (pe_op op_fdivWN (pe_ix ix_tup (pv 0) pe_int (fun _ _ => rfl)) (pv 3)))
      (pss_cons (ps_set (i := 5) nd rfl (.inl rfl) (pe_op op_add (pe_op op_mulW (pe_ix ix_tup (pv 0) pe_int (fun _ _ => rfl)) (pe_op op_fdivWN (pv 2) (pv 3))) (pe_op op_mulW (pv 1) (pv 4))))
      (pss_cons (ps_set (i := 6) nd rfl (.inl rfl) (pe_callBfun cr_gcd (by rfl) mG (pa_cons (pv 5) (pa_cons (pv 3) pa_nil))))
      (pss_one (ps_ret (pe_tup (pa_cons (pe_op op_fdivWN (pv 5) (pv 6)) (pa_cons (pe_op op_mulW (pv 4) (pe_op op_fdivWN (pv 2) (pv 6))) pa_nil)))))))), ?_⟩
    have tn : t ≠ 0 := Int.ne_of_gt rz.1
    have s1 : ∀ z', CDivWN z' (gc y t) := fun _ => gdiv tn bt
    have sr : (y.fdiv (gc y t)).natAbs < 2 ^ 40 := fle by' (gc_pos tn) (gc_dl y t)
    have sd : (t.fdiv (gc y t)).natAbs < 2 ^ 40 := fle bt (gc_pos tn) (gc_dr y t)
    have gn : gc y t ≠ 0 := Int.ne_of_gt (gc_pos tn)
    have s2 : ∀ z', CDivWN z' (gc (x * t.fdiv (gc y t) + z * y.fdiv (gc y t)) (gc y t)) := fun _ => gdiv gn (gc40 tn bt)
    have gt : gc (x * t.fdiv (gc y t) + z * y.fdiv (gc y t)) (gc y t) ∣ t := Int.dvd_trans (gc_dr _ _) (gc_dr _ _)
    have sl : (t.fdiv (gc (x * t.fdiv (gc y t) + z * y.fdiv (gc y t)) (gc y t))).natAbs < 2 ^ 40 := fle bt (gc_pos gn) gt
    have sw : (x * t.fdiv (gc y t) + z * y.fdiv (gc y t)).natAbs < 2 ^ 200 := two_add (lt_two bx sd) (lt_two bz sr)
    obtain ⟨h1, h2⟩ := tog_ok red rz
    refine ⟨_, rfl, a, _, 1, _, rfl, rfl, SqT.of ha, at2_1 _ _, _, rfl, _, _, rfl, ?_⟩
    refine ⟨_, rfl, a, _, 1, _, rfl, rfl, SqT.of ha, at2_1 _ _, _, rfl, _, _, rfl, rfl, s1 _, ?_⟩
    refine ⟨_, rfl, a, _, 0, _, rfl, rfl, SqT.of ha, at2_0 _ _, _, rfl, _, rfl, _, _, rfl, rfl, s1 _, _, _, rfl, rfl, mul40 bx sd, ?_⟩
    refine ⟨_, rfl, _, rfl, _, _, rfl, rfl, mul40 bz sr, _, _, rfl, rfl, ?_⟩
    refine ⟨_, rfl, _, rfl, _, _, rfl, ?_⟩
    refine ⟨_, rfl, _, rfl, _, _, rfl, rfl, s2 _, ?_⟩
    refine ⟨_, rfl, _, rfl, _, rfl, _, _, rfl, rfl, s2 _, _, _, rfl, rfl, mul40 sr sl, (by show 2 ≤ sizeLine; decide), fun p np => ?_⟩
    exact q _ p _ _ (same_new np) upd_same h1 h2 (Nat.lt_of_le_of_lt (fdiv_le (gc_pos gn) (gc_dl _ _)) sw) (up_two (lt_two sr sl))
theorem ok_add {f fT : Addr} {fd fdT : FuncData} (F : Fun K "added" "added" sAdd f fd) (FT : Fun K "_together" "_together" sTog fT fdT) (bT : Binds K fdT ["one", "above", "below"] []) (gT : mg "_together" = some (.ref fT)) (mG : mg "gcd" = some (.builtin "math.gcd")) :
    FnOk P w K mg base CX0 2 f fd ["one", "other"] (spTwoF (fun x y z t => x * t + z * y) (fun x y z t => y * t)) := by
  have GT : FnOk P w K mg base CX0 1 fT fdT ["one", "above", "below"] spTog := ok_tog FT mG
  refine F.ok scAdd (fun vs H Q E h => ?_) (fun cdv A outer s H vs Q E hr h => ?_)
  · obtain ⟨a, b, x, y, z, t, rfl, _⟩ := h
    rfl
  · obtain ⟨a, b, x, y, z, t, rfl, ha, hb, q⟩ := h
    refine ⟨_, pss_one (ps_ret (pe_call GT hr (by rfl) gT FT.kp bT .nil pass0 (pa_cons (pv 0) (pa_cons (pe_ix ix_tup (pv 1) pe_int (fun _ _ => rfl)) (pa_cons (pe_ix ix_tup (pv 1) pe_int (fun _ _ => rfl)) pa_nil))))), ?_⟩
    refine ⟨_, rfl, _, rfl, b, _, 0, _, rfl, rfl, SqT.of hb.h, at2_0 _ _, _, rfl, b, _, 1, _, rfl, rfl, SqT.of hb.h, at2_1 _ _, ?_⟩
    exact ⟨a, x, y, z, t, rfl, ha, hb.r, hb.bx, hb.by', q⟩
theorem red_neg {x y : Int} (h : Red x y) : Red (-x) y := ⟨h.1, by rw [Int.natAbs_neg]; exact h.2⟩
theorem ok_less {f fT : Addr} {fd fdT : FuncData} (F : Fun K "lessened" "lessened" sLess f fd) (FT : Fun K "_together" "_together" sTog fT fdT) (bT : Binds K fdT ["one", "above", "below"] []) (gT : mg "_together" = some (.ref fT)) (mG : mg "gcd" = some (.builtin "math.gcd")) :
    FnOk P w K mg base CX0 2 f fd ["one", "other"] (spTwoF (fun x y z t => x * t - z * y) (fun x y z t => y * t)) := by
  have GT : FnOk P w K mg base CX0 1 fT fdT ["one", "above", "below"] spTog := ok_tog FT mG
  refine F.ok scLess (fun vs H Q E h => ?_) (fun cdv A outer s H vs Q E hr h => ?_)
  · obtain ⟨a, b, x, y, z, t, rfl, _⟩ := h
    rfl
  · obtain ⟨a, b, x, y, z, t, rfl, ha, hb, q⟩ := h
    refine ⟨_, pss_one (ps_ret (pe_call GT hr (by rfl) gT FT.kp bT .nil pass0 (pa_cons (pv 0) (pa_cons (pe_un un_neg (pe_ix ix_tup (pv 1) pe_int (fun _ _ => rfl))) (pa_cons (pe_ix ix_tup (pv 1) pe_int (fun _ _ => rfl)) pa_nil))))), ?_⟩
    refine ⟨_, rfl, _, rfl, b, _, 0, _, rfl, rfl, SqT.of hb.h, at2_0 _ _, _, rfl, _, rfl, b, _, 1, _, rfl, rfl, SqT.of hb.h, at2_1 _ _, ?_⟩
    refine ⟨a, x, y, -z, t, rfl, ha, red_neg hb.r, by rw [Int.natAbs_neg]; exact hb.bx, hb.by', ?_⟩
    rw [Int.neg_mul, ← Int.sub_eq_add_neg]
    exact q
theorem ok_prod {f : Addr} {fd : FuncData} (F : Fun K "product" "product" sProd f fd) (mG : mg "gcd" = some (.builtin "math.gcd")) :
    FnOk P w K mg base CX0 1 f fd ["one", "other"] (spTwoF (fun x y z t => x * z) (fun x y z t => y * t)) := by
  refine F.ok scProd (fun vs H Q E h => ?_) (fun cdv A outer s H vs Q E hr h => ?_)
  · obtain ⟨a, b, x, y, z, t, rfl, _⟩ := h
    rfl
  · obtain ⟨a, b, x, y, z, t, rfl, ⟨ha, y0, bx, by', red⟩, ⟨hb, t0, bz, bt, rz⟩, q⟩ := h
    have nd := scProd.nd
    have tn : t ≠ 0 := Int.ne_of_gt t0
    have yn : y ≠ 0 := Int.ne_of_gt y0
    refine ⟨_, pss_cons (ps_set (i := 2) nd rfl (.inl rfl) (pe_callBfun cr_gcd (by rfl) mG (pa_cons (pe_ix ix_tup (pv 0) pe_int (fun _ _ => rfl)) (pa_cons (pe_ix ix_tup (pv 1) pe_int (fun _ _ => rfl)) pa_nil))))
      (pss_cons (ps_set (i := 3) nd rfl (.inl rfl) (pe_callBfun cr_gcd (by rfl) mG (pa_cons (pe_ix ix_tup (pv 1) pe_int (fun _ _ => rfl)) (pa_cons (pe_ix ix_tup (pv 0) pe_int (fun _ _ => rfl)) pa_nil))))
      (pss_one (ps_ret (pe_tup (pa_cons (pe_op op_mulW (pe_op op_fdivWN (pe_ix ix_tup (pv 0) pe_int (fun _ _ => rfl)) (pv 2)) (pe_op op_fdivWN (pe_ix ix_tup (pv 1) pe_int (fun _ _ => rfl)) (pv 3))) (pa_cons (pe_op op_mulW (pe_op op_fdivWN (pe_ix ix_tup (pv 0) pe_int (fun _ _ => rfl)) (pv 3)) (pe_op op_fdivWN (pe_ix ix_tup (pv 1) pe_int (fun _ _ => rfl)) (pv 2))) pa_nil)))))), ?_⟩
    have s1 : ∀ z', CDivWN z' (gc x t) := fun _ => gdiv tn bt
    have s2 : ∀ z', CDivWN z' (gc z y) := fun _ => gdiv yn by'
    have b1 := fle bx (gc_pos tn) (gc_dl x t)
    have b2 := fle bz (gc_pos yn) (gc_dl z y)
    have b3 := fle by' (gc_pos yn) (gc_dr z y)
    have b4 := fle bt (gc_pos tn) (gc_dr x t)
    obtain ⟨h1, h2⟩ := pro_ok red rz
    refine ⟨_, rfl, a, _, 0, _, rfl, rfl, SqT.of ha, at2_0 _ _, _, rfl, b, _, 1, _, rfl, rfl, SqT.of hb, at2_1 _ _, _, _, rfl, ?_⟩
    refine ⟨_, rfl, b, _, 0, _, rfl, rfl, SqT.of hb, at2_0 _ _, _, rfl, a, _, 1, _, rfl, rfl, SqT.of ha, at2_1 _ _, _, _, rfl, ?_⟩
    refine ⟨_, rfl, a, _, 0, _, rfl, rfl, SqT.of ha, at2_0 _ _, _, rfl, _, _, rfl, rfl, s1 _, _, rfl, b, _, 0, _, rfl, rfl, SqT.of hb, at2_0 _ _, _, rfl, _, _, rfl, rfl, s2 _, _, _, rfl, rfl, mul40 b1 b2, ?_⟩
    refine ⟨_, rfl, a, _, 1, _, rfl, rfl, SqT.of ha, at2_1 _ _, _, rfl, _, _, rfl, rfl, s2 _, _, rfl, b, _, 1, _, rfl, rfl, SqT.of hb, at2_1 _ _, _, rfl, _, _, rfl, rfl, s1 _, _, _, rfl, rfl, mul40 b3 b4, (by show 2 ≤ sizeLine; decide), fun p np => ?_⟩
    exact q _ p _ _ (same_new np) upd_same h1 h2 (up_two (lt_two b1 b2)) (up_two (lt_two b3 b4))
theorem scTrn : FnScope ["one", "above", "below"] ["one"] (defScope sTrn) := ⟨rfl, rfl, rfl, by decide +kernel, rfl, by decide +kernel, by decide +kernel⟩
def spTrn (B : Addr) : Sp := fun vs H Q E => ∃ (a : Addr) (x y : Int), vs = [.ref a] ∧ FrAt H a x y ∧ (x = 0 → E (.ref B) none H) ∧ (x ≠ 0 → ∀ p, H p = none → Q (.ref p) (upd H p (.tup [.int (trnA x y), .int (trnB x y)])))
theorem ok_trn {f : Addr} {fd : FuncData} (F : Fun K "_turned" "_turned" sTrn f fd) (eB : ErrAt K mg "ByNought" B) : FnOk P w K mg base (L2N.CX P w) 1 f fd ["one"] (spTrn B) := by
  refine F.okN scTrn (fun vs H Q E h => ?_) (fun cdv A outer s H vs Q E hr h => ?_)
  · obtain ⟨a, x, y, rfl, _⟩ := h
    rfl
  · obtain ⟨a, x, y, rfl, ha, qE, qQ⟩ := h
    have nd := scTrn.nd
    refine ⟨_, pss_cons (ps_asg (pv 0) (pg_tup rfl (pgs_cons (pg_name (i := 1) nd rfl (.inl rfl)) (pgs_cons (pg_name (i := 2) nd rfl (.inl rfl)) pgs_nil))))
      (pss_cons (ps_if (pt_cmpR op_eq (pv 1) pe_int (nomark _)) (pss_one (L2N.ps_raise rfl (L2N.takes_of rfl rfl rfl rfl) (L2N.pmk_own PySem.F.excBase_ValueError eB.x1 eB.g eB.k (raises_own eB.b eB.t) rfl))) pss_nil)
      (pss_cons (ps_if (pt_cmpR op_lt (pv 1) pe_int (nomark _)) (pss_one (ps_ret (pe_tup (pa_cons (pe_un un_neg (pv 2)) (pa_cons (pe_un un_neg (pv 1)) pa_nil))))) pss_nil)
      (pss_one (ps_ret (pe_tup (pa_cons (pv 2) (pa_cons (pv 1) pa_nil))))))), ?_⟩
    refine ⟨_, rfl, a, _, rfl, SqT.of ha, rfl, _, _, rfl, _, _, rfl, rfl, ?_⟩
    refine ⟨_, rfl, rfl, _, rfl, ite2 (fun e => ?_) (fun e => ?_)⟩
    · exact qE (by simpa using e)
    · have x0 : x ≠ 0 := fun z => e (by rw [z]; rfl)
      have q := qQ x0
      unfold trnA trnB at q
      refine ⟨_, rfl, _, _, rfl, rfl, _, rfl, ite2 (fun e => ?_) (fun e => ?_)⟩
      · rw [if_pos (of_decide_eq_true e), if_pos (of_decide_eq_true e)] at q
        exact ⟨_, rfl, _, rfl, _, rfl, _, rfl, (by show 2 ≤ sizeLine; decide), fun p np => q p np⟩
      · rw [if_neg fun z => e (decide_eq_true z), if_neg fun z => e (decide_eq_true z)] at q
        exact ⟨_, rfl, _, rfl, (by show 2 ≤ sizeLine; decide), fun p np => q p np⟩
def spQuo (B : Addr) : Sp := fun vs H Q E => ∃ (a b : Addr) (x y z t : Int), vs = [.ref a, .ref b] ∧ FrIn H a x y ∧ FrIn H b z t ∧ (y * z = 0 → E (.ref B) none H) ∧ (y * z ≠ 0 → QFr H Q (x * t) (y * z))
theorem ok_quo {f fP fT : Addr} {fd fdP fdT : FuncData} (F : Fun K "quotient" "quotient" sQuo f fd) (FP : Fun K "product" "product" sProd fP fdP) (bP : Binds K fdP ["one", "other"] []) (gP : mg "product" = some (.ref fP)) (FT : Fun K "_turned" "_turned" sTrn fT fdT) (bT : Binds K fdT ["one"] []) (gT : mg "_turned" = some (.ref fT)) (mG : mg "gcd" = some (.builtin "math.gcd")) (eB : ErrAt K mg "ByNought" B) :
    FnOk P w K mg base (L2N.CX P w) 2 f fd ["one", "other"] (spQuo B) := by
  have GP : FnOk P w K mg base CX0 1 fP fdP ["one", "other"] (spTwoF (fun x y z t => x * z) (fun x y z t => y * t)) := ok_prod FP mG
  have GT : FnOk P w K mg base (L2N.CX P w) 1 fT fdT ["one"] (spTrn B) := ok_trn FT eB
  refine F.okN scQuo (fun vs H Q E h => ?_) (fun cdv A outer s H vs Q E hr h => ?_)
  · obtain ⟨a, b, x, y, z, t, rfl, _⟩ := h
    rfl
  · obtain ⟨a, b, x, y, z, t, rfl, ha, hb, qE, q⟩ := h
    refine ⟨_, pss_one (ps_ret (pe_call GP hr (by rfl) gP FP.kp bP .nil pass0 (pa_cons (pv 0) (pa_cons
      (pe_callS GT hr (by rfl) gT FT.kp bT (fun σ => L2N.passAt (L2N.takes_of rfl rfl rfl rfl) σ) (pa_cons (pv 1) pa_nil)) pa_nil)))), ?_⟩
    refine ⟨_, rfl, _, rfl, b, z, t, rfl, hb.h, fun e => qE (by rw [e, Int.mul_zero]), fun n0 p np => ?_⟩
    obtain ⟨r, e⟩ := trn_ok hb.r n0
    have l := trn_le z t
    have yn : y * z ≠ 0 := Int.mul_ne_zero (Int.ne_of_gt ha.n) n0
    have ha2 := ha.same (same_new (o := .tup [.int (trnA z t), .int (trnB z t)]) np)
    refine ⟨a, p, x, y, trnA z t, trnB z t, rfl, ha2, ⟨upd_same, r.1, by rw [l.1]; exact hb.by', by rw [l.2]; exact hb.bx, r⟩, fun H' p' u v s h ru e2 b1 b2 => ?_⟩
    refine q yn H' p' u v ((same_new np).trans s) h ru ?_ b1 b2
    -- u * (y * trnB) = x * trnA * v, trnA * z = t * trnB
    have e3 : u * (y * z) * trnB z t = x * t * v * trnB z t := by
      have h1 : u * (y * z) * trnB z t = u * (y * trnB z t) * z := by simp only [Int.mul_assoc, Int.mul_comm, Int.mul_left_comm]
      have h2 : x * t * v * trnB z t = x * v * (t * trnB z t) := by simp only [Int.mul_assoc, Int.mul_comm, Int.mul_left_comm]
      rw [h1, e2, h2, ← e]
      simp only [Int.mul_assoc, Int.mul_comm, Int.mul_left_comm]
    exact Int.eq_of_mul_eq_mul_right (Int.ne_of_gt r.1) e3
def spIsLess : Sp := fun vs H Q _ => ∃ (a b : Addr) (x y z t : Int), vs = [.ref a, .ref b] ∧ FrIn H a x y ∧ FrIn H b z t ∧ Q (.bl (decide (x * t < z * y))) H
theorem ok_isLess {f : Addr} {fd : FuncData} (F : Fun K "is_less" "is_less" sIsLess f fd) : FnOk P w K mg base CX0 1 f fd ["one", "other"] spIsLess := by
  refine F.ok scIsLess (fun vs H Q E h => ?_) (fun cdv A outer s H vs Q E hr h => ?_)
  · obtain ⟨a, b, x, y, z, t, rfl, _⟩ := h
    rfl
  · obtain ⟨a, b, x, y, z, t, rfl, ha, hb, q⟩ := h
    refine ⟨_, pss_one (ps_ret (pe_cmpR op_lt (pe_op op_mulW (pe_ix ix_tup (pv 0) pe_int (fun _ _ => rfl)) (pe_ix ix_tup (pv 1) pe_int (fun _ _ => rfl))) (pe_op op_mulW (pe_ix ix_tup (pv 1) pe_int (fun _ _ => rfl)) (pe_ix ix_tup (pv 0) pe_int (fun _ _ => rfl))) (nomark _))), ?_⟩
    refine ⟨_, rfl, a, _, 0, _, rfl, rfl, SqT.of ha.h, at2_0 _ _, _, rfl, b, _, 1, _, rfl, rfl, SqT.of hb.h, at2_1 _ _, _, _, rfl, rfl, mul40 ha.bx hb.by', ?_⟩
    refine ⟨_, rfl, b, _, 0, _, rfl, rfl, SqT.of hb.h, at2_0 _ _, _, rfl, a, _, 1, _, rfl, rfl, SqT.of ha.h, at2_1 _ _, _, _, rfl, rfl, mul40 hb.bx ha.by', _, _, rfl, rfl, ?_⟩
    exact q
end
end MK


set_option Elab.async false
set_option linter.all false
set_option maxRecDepth 100000
set_option maxHeartbeats 4000000
namespace MK
open PySem PySem.Spec PyProof.Rows L2
theorem pow_lt {x : Int} {k : Nat} (hx : x.natAbs < 2 ^ 40) (hk : k ≤ 6) : (x ^ k).natAbs < 2 ^ 241 := by
  rw [Int.natAbs_pow]
  have h1 : x.natAbs ^ k ≤ (2 ^ 40) ^ k := Nat.pow_le_pow_left (Nat.le_of_lt hx) k
  have h2 : (2 ^ 40) ^ k ≤ (2 ^ 40) ^ 6 := Nat.pow_le_pow_right (by decide) hk
  have h3 : (2 ^ 40) ^ 6 < 2 ^ 241 := by decide
  omega
theorem mul241 {x y : Int} (hx : x.natAbs < 2 ^ 241) (hy : y.natAbs < 2 ^ 241) : CMulW x y := wide_mul hx hy (by decide) (by decide) (by decide)
theorem up241 {x : Int} (hx : x.natAbs < 2 ^ 40) : x.natAbs < 2 ^ 241 := by omega
theorem up241' {x : Int} (hx : x.natAbs < 2 ^ 200) : x.natAbs < 2 ^ 241 := by omega
theorem half_step (n k : Nat) : n / 2 ^ (k + 1) = n / 2 ^ k / 2 := by rw [Nat.pow_succ, Nat.div_div_eq_div_mul]
theorem pow_odd {x : Int} {m : Nat} (h : m % 2 = 1) : x ^ (m / 2) * x ^ (m / 2) * x = x ^ m := by
  rw [← Int.pow_add, ← Int.pow_succ]
  congr 1
  omega
theorem pow_even {x : Int} {m : Nat} (h : m % 2 = 0) : x ^ (m / 2) * x ^ (m / 2) = x ^ m := by
  rw [← Int.pow_add]
  congr 1
  omega
section
variable {P : Program} {w : World} {K : PySem.W.Frag} {mg : Str → Option Value} {base : Heap} {B : Addr}
theorem scWholeP : FnScope ["number", "n", "answer", "place"] ["number", "n"] (defScope sWholeP) := ⟨rfl, rfl, rfl, by decide +kernel, rfl, by decide +kernel, by decide +kernel⟩
theorem scRaised : FnScope ["one", "n", "above", "below"] ["one", "n"] (defScope sRaised) := ⟨rfl, rfl, rfl, by decide +kernel, rfl, by decide +kernel, by decide +kernel⟩
def spWP : Sp := fun vs H Q _ => ∃ (x : Int) (n : Nat), vs = [.int x, .int n] ∧ x.natAbs < 2 ^ 40 ∧ n ≤ 6 ∧ Q (.int (x ^ n)) H
theorem ok_wholeP {f : Addr} {fd : FuncData} (F : Fun K "_whole_power" "_whole_power" sWholeP f fd) (mr : mg "range" = none) (mv : mg "reversed" = none) : FnOk P w K mg base CX0 1 f fd ["number", "n"] spWP := by
  refine F.ok scWholeP (fun vs H Q E h => ?_) (fun cdv A outer s H vs Q E hr h => ?_)
  · obtain ⟨x, n, rfl, _⟩ := h
    rfl
  · obtain ⟨x, n, rfl, bx, bn, q⟩ := h
    have nd := scWholeP.nd
    refine ⟨_, pss_cons (ps_set (i := 2) nd rfl (.inl rfl) pe_int)
      (pss_cons (ps_for PassesOwn.never rfl (pi_revR (by rfl) mv (prg_1 (by rfl) mr (pe_bits (pv 1)))) (pg_name (i := 3) nd rfl (.inl rfl))
        (pss_cons (ps_set (i := 2) nd rfl (.inl rfl) (pe_op op_mulW (pv 2) (pv 2)))
        (pss_one (ps_if (pt_truth (pe_op op_odd (pe_op op_shrN (pv 1) (pv 3)) pe_int) (fun _ => rfl)) (pss_one (ps_set (i := 2) nd rfl (.inl rfl) (pe_op op_mulW (pv 2) (pv 0)))) pss_nil))))
      (pss_one (ps_ret (pv 2)))), ?_⟩
    have hL : n < 2 ^ Builtin.Int.intBits (n : Int) := by
      have := PySem.intBits_le_iff.mp (Nat.le_refl (Builtin.Int.intBits (n : Int)))
      rw [Int.natAbs_natCast] at this
      exact this
    have hL2 : Builtin.Int.intBits (n : Int) ≤ 3 := PySem.intBits_le_iff.mpr (by rw [Int.natAbs_natCast]; omega)
    refine ⟨_, rfl, _, rfl, _, rfl, ?_⟩
    generalize Builtin.Int.intBits (n : Int) = L at hL hL2 ⊢
    refine ⟨by omega, by omega, by omega, by omega, ?_⟩
    rw [show ((L : Int) - 0).toNat = L by omega]
    refine for_rangeC (n := L) (fun i σ H' => H' = H ∧ ∃ v3 : Option V, σ = [some (.int x), some (.int n), some (.int (x ^ (n / 2 ^ (L - i)))), v3]) ⟨rfl, none, ?_⟩ ?_ ?_
    · rw [Nat.sub_zero, Nat.div_eq_of_lt hL, Int.pow_zero]
      rfl
    · rintro i σ H' hi ⟨rfl, v3, rfl⟩
      obtain ⟨k, hk⟩ : ∃ k : Nat, L = i + (k + 1) := ⟨L - i - 1, by omega⟩
      rw [show (0 : Int) + (L : Int) - 1 + (i : Int) * (-1) = (k : Int) by omega, show L - i = k + 1 by omega, show L - (i + 1) = k by omega, half_step]
      have hm : n / 2 ^ k ≤ 6 := Nat.le_trans (Nat.div_le_self _ _) bn
      have e0 : ((n : Int) / 2 ^ k) = ((n / 2 ^ k : Nat) : Int) := by
        rw [Int.natCast_ediv, Int.natCast_pow]
        rfl
      generalize n / 2 ^ k = m at hm e0
      have hb : (x ^ (m / 2)).natAbs < 2 ^ 241 := pow_lt bx (by omega)
      refine ⟨_, rfl, _, rfl, _, _, rfl, rfl, mul241 hb hb, _, rfl, _, rfl, _, _, rfl, rfl, ?_⟩
      rw [e0]
      refine ⟨_, rfl, rfl, ?_⟩
      have b2 : (x ^ (m / 2) * x ^ (m / 2)).natAbs < 2 ^ 241 := by
        rw [← Int.pow_add]
        exact pow_lt bx (by omega)
      rcases Nat.mod_two_eq_zero_or_one m with e | e
      · refine ⟨false, by rw [e]; rfl, iteF ?_⟩
        refine ⟨rfl, some (.int (k : Int)), ?_⟩
        rw [← pow_even e]
        rfl
      · refine ⟨true, by rw [e]; rfl, iteT ?_⟩
        refine ⟨_, rfl, _, rfl, _, _, rfl, rfl, mul241 b2 (up241 bx), ?_⟩
        refine ⟨rfl, some (.int (k : Int)), ?_⟩
        rw [← pow_odd e]
        rfl
    · rintro σ H' ⟨rfl, v3, rfl⟩
      rw [Nat.sub_self, Nat.pow_zero, Nat.div_one]
      exact ⟨_, rfl, q⟩
/-- what is due of a power: above and below -/
def dueA (x y n : Int) : Int := if n < 0 then y ^ (-n).toNat else x ^ n.toNat
def dueB (x y n : Int) : Int := if n < 0 then x ^ (-n).toNat else y ^ n.toNat
def spRaised (B : Addr) : Sp := fun vs H Q E => ∃ (a : Addr) (x y n : Int), vs = [.ref a, .int n] ∧ FrIn H a x y ∧ Red x y ∧ -6 ≤ n ∧ n ≤ 6 ∧ (dueB x y n = 0 → E (.ref B) none H) ∧
  (dueB x y n ≠ 0 → ∀ (H' : Hp) (p : Addr) (u v : Int), Same H H' → FrAt H' p u v → Red u v → u * dueB x y n = dueA x y n * v → u.natAbs < 2 ^ 241 → v.natAbs < 2 ^ 241 → Q (.ref p) H')
theorem ok_raised {f fT fW : Addr} {fd fdT fdW : FuncData} (F : Fun K "raised" "raised" sRaised f fd) (FT : Fun K "_turned" "_turned" sTrn fT fdT) (bT : Binds K fdT ["one"] []) (gT : mg "_turned" = some (.ref fT)) (eB : ErrAt K mg "ByNought" B)
    (FW : Fun K "_whole_power" "_whole_power" sWholeP fW fdW) (bW : Binds K fdW ["number", "n"] []) (gW : mg "_whole_power" = some (.ref fW)) (mr : mg "range" = none) (mv : mg "reversed" = none) :
    FnOk P w K mg base (L2N.CX P w) 2 f fd ["one", "n"] (spRaised B) := by
  have GT : FnOk P w K mg base (L2N.CX P w) 1 fT fdT ["one"] (spTrn B) := ok_trn FT eB
  have GW : FnOk P w K mg base CX0 1 fW fdW ["number", "n"] spWP := ok_wholeP FW mr mv
  refine F.okN scRaised (fun vs H Q E h => ?_) (fun cdv A outer s H vs Q E hr h => ?_)
  · obtain ⟨a, x, y, n, rfl, _⟩ := h
    rfl
  · obtain ⟨a, x, y, n, rfl, ha, red, n1, n2, qE, qQ⟩ := h
    have nd := scRaised.nd
    refine ⟨_, pss_cons (ps_asg (pv 0) (pg_tup rfl (pgs_cons (pg_name (i := 2) nd rfl (.inl rfl)) (pgs_cons (pg_name (i := 3) nd rfl (.inl rfl)) pgs_nil))))
      (Evl.pss_cut (ps_if (pt_cmpR op_lt (pv 1) pe_int (nomark _))
        (pss_cons (ps_asg (pe_callS GT hr (by rfl) gT FT.kp bT (fun σ => L2N.passAt (L2N.takes_of rfl rfl rfl rfl) σ) (pa_cons (pv 0) pa_nil)) (pg_tup rfl (pgs_cons (pg_name (i := 2) nd rfl (.inl rfl)) (pgs_cons (pg_name (i := 3) nd rfl (.inl rfl)) pgs_nil))))
        (pss_one (ps_set (i := 1) nd rfl (.inl rfl) (pe_un un_neg (pv 1))))) pss_nil)
      (pss_one (ps_ret (pe_tup (pa_cons (pe_call GW hr (by rfl) gW FW.kp bW .nil pass0 (pa_cons (pv 2) (pa_cons (pv 1) pa_nil))) (pa_cons (pe_call GW hr (by rfl) gW FW.kp bW .nil pass0 (pa_cons (pv 3) (pa_cons (pv 1) pa_nil))) pa_nil)))))), ?_⟩
    refine ⟨_, rfl, a, _, rfl, SqT.of ha.h, rfl, _, _, rfl, _, _, rfl, rfl, ?_⟩
    refine ⟨fun σ' H' => ∃ (u v : Int) (m : Nat), σ' = [some (.ref a), some (.int m), some (.int u), some (.int v)] ∧ Same H H' ∧ Red u v ∧ u.natAbs < 2 ^ 40 ∧ v.natAbs < 2 ^ 40 ∧ m ≤ 6 ∧ dueB x y n ≠ 0 ∧ u ^ m * dueB x y n = dueA x y n * v ^ m, ?_, ?_⟩
    · refine ⟨_, rfl, _, _, rfl, rfl, _, rfl, ite2 (fun e => ?_) (fun e => ?_)⟩
      · have e1 : n < 0 := of_decide_eq_true e
        have dB : dueB x y n = x ^ (-n).toNat := if_pos e1
        have dA : dueA x y n = y ^ (-n).toNat := if_pos e1
        refine ⟨_, rfl, a, x, y, rfl, ha.h, fun z => qE ?_, fun x0 p np => ?_⟩
        · rw [dB, z]
          exact Int.zero_pow (by omega)
        · obtain ⟨hr2, e2⟩ := trn_ok red x0
          have hl := trn_le x y
          refine ⟨p, _, rfl, SqT.of upd_same, rfl, _, _, rfl, _, _, rfl, rfl, ?_⟩
          refine ⟨_, rfl, _, rfl, ?_⟩
          obtain ⟨m, hm⟩ : ∃ m : Nat, -n = (m : Int) := ⟨(-n).toNat, by omega⟩
          have hm2 : (-n).toNat = m := by omega
          refine ⟨trnA x y, trnB x y, m, by rw [← hm]; rfl, same_new np, hr2, by rw [hl.1]; exact ha.by', by rw [hl.2]; exact ha.bx, by omega, ?_, ?_⟩
          · rw [dB]
            exact Int.pow_ne_zero x0
          · rw [dB, dA, hm2, ← Int.mul_pow, ← Int.mul_pow, e2]
      · have e1 : ¬ n < 0 := fun z => e (decide_eq_true z)
        have dB : dueB x y n = y ^ n.toNat := if_neg e1
        have dA : dueA x y n = x ^ n.toNat := if_neg e1
        obtain ⟨m, hm⟩ : ∃ m : Nat, n = (m : Int) := ⟨n.toNat, by omega⟩
        refine ⟨x, y, m, by rw [hm]; rfl, Same.refl _, red, ha.bx, ha.by', by omega, ?_, ?_⟩
        · rw [dB]
          exact Int.pow_ne_zero (Int.ne_of_gt red.1)
        · rw [dB, dA, show n.toNat = m by omega]
    · rintro σ' H' ⟨u, v, m, rfl, sm, ru, b1, b2, hm, d0, e⟩
      refine ⟨_, rfl, _, rfl, u, m, rfl, b1, hm, _, rfl, _, rfl, v, m, rfl, b2, hm, (by show 2 ≤ sizeLine; decide), fun p np => ?_⟩
      exact qQ d0 _ p _ _ (sm.trans (same_new np)) upd_same (red_pow ru m) e (pow_lt b1 hm) (pow_lt b2 hm)
end
end MK


set_option Elab.async false
set_option linter.all false
set_option maxRecDepth 100000
set_option maxHeartbeats 4000000
namespace MK
open PySem PySem.Spec PyProof.Rows L2
theorem abs_nat (i : Int) : (if i < 0 then -i else i) = ((i.natAbs : Nat) : Int) := by
  split <;> omega
/-- what isinstance tells of an error of ByNought -/
structure KindOf (K : PySem.W.Frag) (B M N U V : Addr) : Prop where
  c : ExcC K B
  kB : PySem.W.kitOne K (.ref B) (.ref B) = some true
  kM : PySem.W.kitOne K (.ref B) (.ref M) = some true
  kE : PySem.W.kitOne K (.ref B) (.type "ValueError") = some true
  kN : PySem.W.kitOne K (.ref B) (.ref N) = some false
  kU : PySem.W.kitOne K (.ref B) (.ref U) = some false
  kV : PySem.W.kitOne K (.ref B) (.ref V) = some false
  em : PySem.W.exmOne K (.ref B) (.ref M) = some true
structure Kinds (K : PySem.W.Frag) (mg : Str → Option Value) (B M N U V : Addr) : Prop where
  k : KindOf K B M N U V
  e : ErrAt K mg "ByNought" B
  gM : mg "MeasureError" = some (.ref M)
  gN : mg "NoFit" = some (.ref N)
  gU : mg "Unlike" = some (.ref U)
  gV : mg "NoValue" = some (.ref V)
  mE : mg "ValueError" = none
  mi : mg "isinstance" = none
  mn : mg "int" = none
section
variable {P : Program} {w : World} {K : PySem.W.Frag} {mg : Str → Option Value} {base : Heap} {B M N U V : Addr}
/-! ### _law_shared, _law_lowest, _law_number, _law_times_itself -/
theorem scShared : FnScope ["_law_one", "_law_other", "_law_rest"] ["_law_one", "_law_other"] (defScope sShared) := ⟨rfl, rfl, rfl, by decide +kernel, rfl, by decide +kernel, by decide +kernel⟩
theorem scLowest : FnScope ["_law_above", "_law_below", "_law_most"] ["_law_above", "_law_below"] (defScope sLowest) := ⟨rfl, rfl, rfl, by decide +kernel, rfl, by decide +kernel, by decide +kernel⟩
theorem scNumber : FnScope ["_law_cell"] ["_law_cell"] (defScope sNumber) := ⟨rfl, rfl, rfl, by decide +kernel, rfl, by decide +kernel, by decide +kernel⟩
theorem scTimesI : FnScope ["_law_number_here", "_law_n", "_law_found", "_law_turn"] ["_law_number_here", "_law_n"] (defScope sTimesI) := ⟨rfl, rfl, rfl, by decide +kernel, rfl, by decide +kernel, by decide +kernel⟩
def spShared : Sp := fun vs H Q _ => ∃ a b : Nat, vs = [.int a, .int b] ∧ Q (.int ((Nat.gcd a b : Nat) : Int)) H
theorem ok_shared {f : Addr} {fd : FuncData} (F : Fun K "_law_shared" "_law_shared" sShared f fd) : FnOk P w K mg base CX0 1 f fd ["_law_one", "_law_other"] spShared := by
  refine F.ok scShared (fun vs H Q E h => ?_) (fun cdv A outer s H vs Q E hr h => ?_)
  · obtain ⟨a, b, rfl, _⟩ := h
    rfl
  · obtain ⟨a, b, rfl, q⟩ := h
    have nd := scShared.nd
    refine ⟨_, pss_cons (ps_while PassesOwn.never (pt_cmpR op_ne (pv 1) pe_int (nomark _)) (pss_cons (ps_set (i := 2) nd rfl (.inl rfl) (pe_op op_mod (pv 0) (pv 1)))
      (pss_cons (ps_set (i := 0) nd rfl (.inl rfl) (pv 1)) (pss_one (ps_set (i := 1) nd rfl (.inl rfl) (pv 2)))))) (pss_one (ps_ret (pv 0))), ?_⟩
    refine ⟨fun m σ H' => ∃ (u v : Nat) (r : Option V), m = v ∧ σ = [some (.int u), some (.int v), r] ∧ H' = H ∧ Nat.gcd u v = Nat.gcd a b, ⟨_, a, b, none, rfl, rfl, rfl, rfl⟩, ?_⟩
    rintro m σ H' ⟨u, v, r, em, rfl, rfl, g⟩
    refine ⟨_, rfl, rfl, _, rfl, ?_⟩
    by_cases v0 : v = 0
    · have e : (!decide (V.int (v : Int) = V.int 0)) = false := by rw [v0]; rfl
      rw [e]
      rw [v0, Nat.gcd_zero_right] at g
      refine ⟨_, rfl, ?_⟩
      rw [g]
      exact q
    · have e : (!decide (V.int (v : Int) = V.int 0)) = true := by
        rw [decide_eq_false (fun z => v0 (by have := V.int.inj z; omega))]
        rfl
      rw [e]
      refine ⟨fun σ' H'' => ∃ (u' v' : Nat) (r : Option V), v' < v ∧ σ' = [some (.int u'), some (.int v'), r] ∧ H'' = H' ∧ Nat.gcd u' v' = Nat.gcd a b, fun σ' H'' ⟨u', v', r, h1, h2, h3, h4⟩ => ⟨_, by rw [em]; exact h1, u', v', r, rfl, h2, h3, h4⟩, ?_⟩
      refine ⟨_, rfl, _, rfl, _, _, rfl, rfl, (by omega), _, rfl, _, rfl, ?_⟩
      refine ⟨v, u % v, _, Nat.mod_lt _ (by omega), rfl, rfl, ?_⟩
      rw [← g, Nat.gcd_comm v, ← Nat.gcd_rec, Nat.gcd_comm]
def spLowest : Sp := fun vs H Q _ => ∃ x y : Int, vs = [.int x, .int y] ∧ y ≠ 0 ∧ y.natAbs < 2 ^ 200 ∧ ∀ p u v, H p = none → Red u v → u.natAbs ≤ x.natAbs → v.natAbs ≤ y.natAbs → Q (.ref p) (upd H p (.tup [.int u, .int v]))
theorem ok_lowest {f fS : Addr} {fd fdS : FuncData} (F : Fun K "_law_lowest" "_law_lowest" sLowest f fd) (FS : Fun K "_law_shared" "_law_shared" sShared fS fdS) (bS : Binds K fdS ["_law_one", "_law_other"] []) (gS : mg "_law_shared" = some (.ref fS)) (ma : mg "abs" = none) :
    FnOk P w K mg base CX0 2 f fd ["_law_above", "_law_below"] spLowest := by
  have GS : FnOk P w K mg base CX0 1 fS fdS ["_law_one", "_law_other"] spShared := ok_shared FS
  refine F.ok scLowest (fun vs H Q E h => ?_) (fun cdv A outer s H vs Q E hr h => ?_)
  · obtain ⟨x, y, rfl, _⟩ := h
    rfl
  · obtain ⟨x, y, rfl, y0, by', q⟩ := h
    have nd := scLowest.nd
    refine ⟨_, pss_cons (ps_set (i := 2) nd rfl (.inl rfl) (pe_call GS hr (by rfl) gS FS.kp bS .nil pass0 (pa_cons (pe_callB call_abs (by rfl) ma PyProof.Rows.boot_abs (pa_cons (pv 0) pa_nil)) (pa_cons (pe_callB call_abs (by rfl) ma PyProof.Rows.boot_abs (pa_cons (pv 1) pa_nil)) pa_nil))))
      (Evl.pss_cut (ps_if (pt_cmpR op_lt (pv 1) pe_int (nomark _)) (pss_one (ps_set (i := 2) nd rfl (.inl rfl) (pe_op op_sub pe_int (pv 2)))) pss_nil)
      (pss_one (ps_ret (pe_tup (pa_cons (pe_op op_fdivWN (pv 0) (pv 2)) (pa_cons (pe_op op_fdivWN (pv 1) (pv 2)) pa_nil)))))), ?_⟩
    refine ⟨_, rfl, _, rfl, _, rfl, _, rfl, x.natAbs, y.natAbs, by rw [abs_nat, abs_nat]; rfl, ?_⟩
    refine ⟨fun σ' H' => σ' = [some (.int x), some (.int y), some (.int (cut x y))] ∧ H' = H, ?_, ?_⟩
    · refine ⟨_, rfl, _, _, rfl, rfl, _, rfl, ite2 (fun e => ?_) (fun e => ?_)⟩
      · have e1 : y < 0 := of_decide_eq_true e
        refine ⟨_, rfl, _, _, rfl, rfl, ?_, rfl⟩
        unfold cut
        rw [if_pos e1, ← Int.zero_sub]
        rfl
      · have e1 : ¬ y < 0 := fun z => e (decide_eq_true z)
        refine ⟨?_, rfl⟩
        unfold cut
        rw [if_neg e1]
        rfl
    · rintro σ' H' ⟨rfl, rfl⟩
      have c0 := cut_ne (x := x) y0
      have cb : (cut x y).natAbs < 2 ^ 8000 := Nat.lt_of_le_of_lt (cut_le y0) (Nat.lt_trans by' (Nat.pow_lt_pow_right (by decide) (by decide)))
      obtain ⟨h1, h2, h3, h4⟩ := cut_ok (x := x) y0
      refine ⟨_, rfl, _, rfl, _, _, rfl, rfl, divWN_ok c0 cb, _, rfl, _, rfl, _, _, rfl, rfl, divWN_ok c0 cb, (by show 2 ≤ sizeLine; decide), fun p np => ?_⟩
      exact q p _ _ np h1 h3 h4
def spNumber : Sp := fun vs H Q _ => ∃ c : Int, vs = [.int c] ∧ 0 ≤ c ∧ ∀ (H' : Hp) (p : Addr) (u v : Int), Same H H' → FrIn H' p u v → Red u v → Q (.ref p) H'
theorem ok_number {f fO fS : Addr} {fd fdO fdS : FuncData} (F : Fun K "_law_number" "_law_number" sNumber f fd) (FO : Fun K "_law_lowest" "_law_lowest" sLowest fO fdO) (bO : Binds K fdO ["_law_above", "_law_below"] []) (gO : mg "_law_lowest" = some (.ref fO))
    (FS : Fun K "_law_shared" "_law_shared" sShared fS fdS) (bS : Binds K fdS ["_law_one", "_law_other"] []) (gS : mg "_law_shared" = some (.ref fS)) (ma : mg "abs" = none) : FnOk P w K mg base CX0 3 f fd ["_law_cell"] spNumber := by
  have GO : FnOk P w K mg base CX0 2 fO fdO ["_law_above", "_law_below"] spLowest := ok_lowest FO FS bS gS ma
  refine F.ok scNumber (fun vs H Q E h => ?_) (fun cdv A outer s H vs Q E hr h => ?_)
  · obtain ⟨c, rfl, _⟩ := h
    rfl
  · obtain ⟨c, rfl, c0, q⟩ := h
    have end_ : ∀ (x y : Int), y ≠ 0 → x.natAbs ≤ 10 ^ 9 → y.natAbs ≤ 10 ^ 9 → ∀ p u v, H p = none → Red u v → u.natAbs ≤ x.natAbs → v.natAbs ≤ y.natAbs → Q (.ref p) (upd H p (.tup [.int u, .int v])) := fun x y _ hx hy p u v np r h1 h2 =>
      q _ p u v (same_new np) ⟨upd_same, r.1, by omega, by omega, r⟩ r
    refine ⟨_, pss_cons (ps_if (pt_cmpR op_lt (pe_op op_mod (pv 0) pe_int) pe_int (nomark _)) (pss_one (ps_ret (pe_call GO hr (by rfl) gO FO.kp bO .nil pass0 (pa_cons (pe_op op_sub (pe_op op_mod (pe_op op_fdiv (pv 0) pe_int) pe_int) pe_int) (pa_cons (pe_op op_add pe_int (pe_op op_mod (pe_op op_fdiv (pv 0) pe_int) pe_int)) pa_nil))))) pss_nil)
      (pss_cons (ps_if (pt_cmpR op_eq (pe_op op_mod (pv 0) pe_int) pe_int (nomark _)) (pss_one (ps_ret (pe_tup (pa_cons pe_int (pa_cons pe_int pa_nil))))) pss_nil)
      (pss_one (ps_ret (pe_call GO hr (by rfl) gO FO.kp bO .nil pass0 (pa_cons
        (pe_op op_sub (pe_op op_mod (pe_op op_mul (pe_op op_fdiv (pv 0) (pe_op op_pow pe_int pe_int)) pe_int) (pe_op op_add (pe_op op_mul pe_int (pe_op op_pow pe_int pe_int)) pe_int)) (pe_op op_pow pe_int pe_int))
        (pa_cons (pe_op op_add pe_int (pe_op op_mod (pe_op op_fdiv (pv 0) pe_int) (pe_op op_pow pe_int pe_int))) pa_nil)))))), ?_⟩
    refine ⟨_, rfl, _, _, rfl, rfl, (by show (0 : Int) < 6; decide), _, _, rfl, rfl, _, rfl, ite2 (fun _ => ?_) (fun _ => ?_)⟩
    · refine ⟨_, rfl, _, _, rfl, rfl, ⟨by decide, by decide⟩, _, _, rfl, rfl, (by show (0 : Int) < 41; decide), _, _, rfl, rfl, ?_⟩
      refine ⟨_, rfl, _, _, rfl, rfl, ⟨by decide, by decide⟩, _, _, rfl, rfl, (by show (0 : Int) < 5; decide), _, _, rfl, rfl, ?_⟩
      have h1 : 0 ≤ c / 6 % 41 := Int.emod_nonneg _ (by decide)
      have h2 : c / 6 % 41 < 41 := Int.emod_lt_of_pos _ (by decide)
      have h3 : 0 ≤ c / 246 % 5 := Int.emod_nonneg _ (by decide)
      have h4 : c / 246 % 5 < 5 := Int.emod_lt_of_pos _ (by decide)
      exact ⟨_, _, rfl, by omega, by omega, end_ _ _ (by omega) (by omega) (by omega)⟩
    · refine ⟨_, rfl, _, _, rfl, rfl, (by show (0 : Int) < 6; decide), rfl, _, rfl, ite2 (fun _ => ?_) (fun _ => ?_)⟩
      · exact ⟨(by show 2 ≤ sizeLine; decide), fun p np => q _ p 0 1 (same_new np) ⟨upd_same, by decide, by decide, by decide, ⟨by decide, by decide⟩⟩ ⟨by decide, by decide⟩⟩
      · refine ⟨_, rfl, _, _, rfl, rfl, ⟨by decide, by decide, by decide⟩, _, _, rfl, rfl, ⟨by decide, by decide⟩, _, _, rfl, rfl, .inr (by decide), _, _, rfl, rfl, ⟨by decide, by decide, by decide⟩, _, _, rfl, rfl, .inl (by decide), _, _, rfl, rfl, _, _, rfl, rfl, (by show (0 : Int) < 2 * 10 ^ 9 + 1; decide), _, _, rfl, rfl, ⟨by decide, by decide, by decide⟩, _, _, rfl, rfl, ?_⟩
        refine ⟨_, rfl, _, _, rfl, rfl, ⟨by decide, by decide⟩, _, _, rfl, rfl, ⟨by decide, by decide, by decide⟩, _, _, rfl, rfl, (by show (0 : Int) < 10 ^ 9; decide), _, _, rfl, rfl, ?_⟩
        have h1 : 0 ≤ c / 6 ^ 3 * 7 % (2 * 10 ^ 9 + 1) := Int.emod_nonneg _ (by decide)
        have h2 : c / 6 ^ 3 * 7 % (2 * 10 ^ 9 + 1) < 2 * 10 ^ 9 + 1 := Int.emod_lt_of_pos _ (by decide)
        have h3 : 0 ≤ c / 6 % 10 ^ 9 := Int.emod_nonneg _ (by decide)
        have h4 : c / 6 % 10 ^ 9 < 10 ^ 9 := Int.emod_lt_of_pos _ (by decide)
        have e1 : (c / 6 ^ 3 * 7 % (2 * 10 ^ 9 + 1) - 10 ^ 9).natAbs ≤ 10 ^ 9 := by
          generalize c / 6 ^ 3 * 7 % (2 * 10 ^ 9 + 1) = y at h1 h2
          omega
        have e2 : 1 + c / 6 % 10 ^ 9 ≠ 0 ∧ (1 + c / 6 % 10 ^ 9).natAbs ≤ 10 ^ 9 := by
          generalize c / 6 % 10 ^ 9 = y at h3 h4
          omega
        exact ⟨_, _, rfl, e2.1, Nat.lt_of_le_of_lt e2.2 (by decide), end_ _ _ e2.1 e1 e2.2⟩
def spTimesI : Sp := fun vs H Q _ => ∃ x n : Int, vs = [.int x, .int n] ∧ x.natAbs < 2 ^ 40 ∧ -6 ≤ n ∧ n ≤ 6 ∧ Q (.int (x ^ n.toNat)) H
theorem ok_timesI {f : Addr} {fd : FuncData} (F : Fun K "_law_times_itself" "_law_times_itself" sTimesI f fd) (mr : mg "range" = none) : FnOk P w K mg base CX0 1 f fd ["_law_number_here", "_law_n"] spTimesI := by
  refine F.ok scTimesI (fun vs H Q E h => ?_) (fun cdv A outer s H vs Q E hr h => ?_)
  · obtain ⟨x, n, rfl, _⟩ := h
    rfl
  · obtain ⟨x, n, rfl, bx, n1, n2, q⟩ := h
    have nd := scTimesI.nd
    refine ⟨_, pss_cons (ps_set (i := 2) nd rfl (.inl rfl) pe_int)
      (pss_cons (ps_for PassesOwn.never rfl (pi_range1 (by rfl) mr (pa_cons (pv 1) pa_nil)) (pg_name (i := 3) nd rfl (.inl rfl)) (pss_one (ps_set (i := 2) nd rfl (.inl rfl) (pe_op op_mulW (pv 2) (pv 0)))))
      (pss_one (ps_ret (pv 2)))), ?_⟩
    refine ⟨_, rfl, n, rfl, by omega, by omega, for_range (n := n.toNat) (fun i σ H' => i ≤ n.toNat ∧ H' = H ∧ ∃ v3 : Option V, σ = [some (.int x), some (.int n), some (.int (x ^ i)), v3]) ⟨Nat.zero_le _, rfl, none, by rw [Int.pow_zero]; rfl⟩ ?_ ?_⟩
    · rintro i σ H' hi ⟨hi2, rfl, v3, rfl⟩
      refine ⟨_, rfl, _, rfl, _, _, rfl, rfl, mul241 (pow_lt bx (by omega)) (up241 bx), ?_⟩
      exact ⟨hi, rfl, some (.int (0 + (i : Nat))), by rw [Int.pow_succ]; rfl⟩
    · rintro σ H' ⟨_, rfl, v3, rfl⟩
      exact ⟨_, rfl, q⟩
end
end MK


set_option Elab.async false
set_option linter.all false
set_option maxRecDepth 100000
set_option maxHeartbeats 4000000
namespace MK
open PySem PySem.Spec PyProof.Rows L2
section
variable {P : Program} {w : World} {K : PySem.W.Frag} {mg : Str → Option Value} {base : Heap} {B M N U V : Addr}
/-! ### _law_alone -/
theorem scAlone : FnScope ["_law_e"] ["_law_e"] (defScope sAlone) := ⟨rfl, rfl, rfl, by decide +kernel, rfl, by decide +kernel, by decide +kernel⟩
def spAlone : Addr → Sp := fun a vs H Q _ => vs = [.ref a] ∧ Q (.bl true) H
theorem ok_alone {f : Addr} {fd : FuncData} (F : Fun K "_law_alone" "_law_alone" sAlone f fd) (k : Kinds K mg B M N U V) : FnHE P w K mg base B 1 f fd ["_law_e"] spAlone := by
  refine F.okHE scAlone (fun a vs H Q E h => ?_) (fun cdv A outer s H vs Q E p hot hD hN hr h => ?_)
  · obtain ⟨rfl, _⟩ := h
    rfl
  · obtain ⟨rfl, q⟩ := h
    have hf : ∃ vs, p.2.data = .fields vs := by
      obtain ⟨_, vs, e, _⟩ := hot
      exact ⟨vs, e⟩
    refine ⟨_, pss_cons (ps_if (pw_or (pt_not (pt_val (pe_callB (call_isP k.k.c List.mem_cons_self hD hN hf) (by rfl) k.mi PyProof.Rows.boot_isinstance (pa_cons (pv 0) (pa_cons (pe_glob (v := .ref B) (by rfl) k.e.g rfl) pa_nil)))))
        (pw_or (pt_not (pt_val (pe_callB (call_isP k.k.c List.mem_cons_self hD hN hf) (by rfl) k.mi PyProof.Rows.boot_isinstance (pa_cons (pv 0) (pa_cons (pe_glob (v := .ref M) (by rfl) k.gM rfl) pa_nil)))))
        (pw_or1 (pt_not (pt_val (pe_callB (call_isP k.k.c List.mem_cons_self hD hN hf) (by rfl) k.mi PyProof.Rows.boot_isinstance (pa_cons (pv 0) (pa_cons (pe_bltn (v := .ty "ValueError") (by rfl) k.mE L2.bootVE rfl) pa_nil)))))))).pt (pss_one (ps_ret pe_bl)) pss_nil)
      (pss_one (ps_ret (pe_and (pe_not (pe_callB (call_isP k.k.c List.mem_cons_self hD hN hf) (by rfl) k.mi PyProof.Rows.boot_isinstance (pa_cons (pv 0) (pa_cons (pe_glob (v := .ref N) (by rfl) k.gN rfl) pa_nil))))
        (pe_and (pe_not (pe_callB (call_isP k.k.c List.mem_cons_self hD hN hf) (by rfl) k.mi PyProof.Rows.boot_isinstance (pa_cons (pv 0) (pa_cons (pe_glob (v := .ref U) (by rfl) k.gU rfl) pa_nil))))
        (pe_one (pe_not (pe_callB (call_isP k.k.c List.mem_cons_self hD hN hf) (by rfl) k.mi PyProof.Rows.boot_isinstance (pa_cons (pv 0) (pa_cons (pe_glob (v := .ref V) (by rfl) k.gV rfl) pa_nil))))))))), ?_⟩
    refine ⟨_, rfl, _, _, true, rfl, fun u e => e, k.k.kB, true, rfl, iteF ?_⟩
    refine ⟨_, rfl, _, _, true, rfl, fun u e => e, k.k.kM, true, rfl, iteF ?_⟩
    refine ⟨_, rfl, _, _, true, rfl, fun u e => e, k.k.kE, true, rfl, iteF ?_⟩
    refine ⟨_, rfl, _, _, false, rfl, fun u e => e, k.k.kN, false, rfl, true, rfl, iteT ?_⟩
    refine ⟨_, rfl, _, _, false, rfl, fun u e => e, k.k.kU, false, rfl, true, rfl, iteT ?_⟩
    refine ⟨_, rfl, _, _, false, rfl, fun u e => e, k.k.kV, false, rfl, ?_⟩
    exact q
/-! ### the three that catch -/
theorem scLFrac : FnScope ["_law_above", "_law_below", "_law_e"] ["_law_above", "_law_below"] (defScope sLFrac) := ⟨rfl, rfl, rfl, by decide +kernel, rfl, by decide +kernel, by decide +kernel⟩
theorem scLQuo : FnScope ["_law_one", "_law_other", "_law_e"] ["_law_one", "_law_other"] (defScope sLQuo) := ⟨rfl, rfl, rfl, by decide +kernel, rfl, by decide +kernel, by decide +kernel⟩
theorem scLRaised : FnScope ["_law_one", "_law_n", "_law_e"] ["_law_one", "_law_n"] (defScope sLRaised) := ⟨rfl, rfl, rfl, by decide +kernel, rfl, by decide +kernel, by decide +kernel⟩
/-- None where below is nought, else a fraction of that value -/
def QTold (H : Hp) (Q : VK) (x y : Int) : Prop := (y = 0 → ∀ H', Same H H' → Q .non H') ∧ (y ≠ 0 → ∀ (H' : Hp) (p : Addr) (u v : Int), Same H H' → FrAt H' p u v → Red u v → u * y = x * v → u.natAbs < 2 ^ 241 → v.natAbs < 2 ^ 241 → Q (.ref p) H')
def spLFrac : Sp := fun vs H Q _ => ∃ x y : Int, vs = [.int x, .int y] ∧ x.natAbs < 2 ^ 200 ∧ y.natAbs < 2 ^ 200 ∧ QTold H Q x y
theorem ok_lfrac {f fF fA : Addr} {fd fdF fdA : FuncData} (F : Fun K "_law_fraction" "_law_fraction" sLFrac f fd) (k : Kinds K mg B M N U V) (FA : Fun K "_law_alone" "_law_alone" sAlone fA fdA) (bA : Binds K fdA ["_law_e"] []) (gA : mg "_law_alone" = some (.ref fA))
    (FF : Fun K "fraction" "fraction" sFrac fF fdF) (bF : Binds K fdF ["above", "below"] []) (gF : mg "fraction" = some (.ref fF)) (mG : mg "gcd" = some (.builtin "math.gcd")) : FnOk P w K mg base CX0 2 f fd ["_law_above", "_law_below"] spLFrac := by
  have GF : FnOk P w K mg base (L2N.CX P w) 1 fF fdF ["above", "below"] (spFrac B) := ok_frac FF mG k.e
  have GA : FnHE P w K mg base B 1 fA fdA ["_law_e"] spAlone := ok_alone FA k
  refine F.ok scLFrac (fun vs H Q E h => ?_) (fun cdv A outer s H vs Q E hr h => ?_)
  · obtain ⟨x, y, rfl, _⟩ := h
    rfl
  · obtain ⟨x, y, rfl, bx, by', q1, q2⟩ := h
    have nd := scLFrac.nd
    refine ⟨_, pss_one (L2N.ps_try_as (i := 2) rfl rfl nd rfl rfl ⟨rfl, by decide, .inl k.gM⟩ takesN
      (fun W pn xe tk _ => pss_one (ps_ret (pe_callS GF hr (by rfl) gF FF.kp bF (fun σ => L2N.passAt tk σ) (pa_cons (pv 0) (pa_cons (pv 1) pa_nil)))))
      (fun a oe cls d pn hz hf => pss_one (ps_ret (pe_ix (show IxR _ (rIxL K) from ix_list) (pe_lst (pa_cons pe_non (pa_cons pe_bl pa_nil))) (pe_callTy call_int1 (by rfl) k.mn PyProof.Rows.boot_int (pa_cons (pe_not (pe_callHE GA (L2H.roomH_of hr) hz hf (by rfl) gA FA.kp bA (pa_cons (pv 2) pa_nil))) pa_nil)) (fun _ _ => rfl))))), ?_⟩
    refine ⟨_, rfl, _, rfl, x, y, rfl, bx, by', fun y0 => ?_, fun y0 p u v np hr2 e h1 h2 => ?_⟩
    · refine ⟨true, k.k.em, fun _ a na => ?_, fun z => nomatch z⟩
      refine ⟨(by show 2 ≤ sizeLine; decide), fun l nl => ?_⟩
      refine ⟨rfl, rfl, _, rfl, rfl, true, rfl, .inr ⟨_, rfl, l, _, 0, _, rfl, rfl, SqL.of upd_same, rfl, ?_⟩⟩
      exact q1 y0 _ (same_new nl)
    · exact q2 y0 _ p u v (same_new np) upd_same hr2 e (up241' (by omega)) (up241' (by omega))
def spLQuo : Sp := fun vs H Q _ => ∃ (a b : Addr) (x y z t : Int), vs = [.ref a, .ref b] ∧ FrIn H a x y ∧ FrIn H b z t ∧ QTold H Q (x * t) (y * z)
theorem ok_lquo {f fA fQ fP fT : Addr} {fd fdA fdQ fdP fdT : FuncData} (F : Fun K "_law_quotient" "_law_quotient" sLQuo f fd) (k : Kinds K mg B M N U V) (FA : Fun K "_law_alone" "_law_alone" sAlone fA fdA) (bA : Binds K fdA ["_law_e"] []) (gA : mg "_law_alone" = some (.ref fA))
    (FQ : Fun K "quotient" "quotient" sQuo fQ fdQ) (bQ : Binds K fdQ ["one", "other"] []) (gQ : mg "quotient" = some (.ref fQ))
    (FP : Fun K "product" "product" sProd fP fdP) (bP : Binds K fdP ["one", "other"] []) (gP : mg "product" = some (.ref fP)) (FT : Fun K "_turned" "_turned" sTrn fT fdT) (bT : Binds K fdT ["one"] []) (gT : mg "_turned" = some (.ref fT)) (mG : mg "gcd" = some (.builtin "math.gcd")) : FnOk P w K mg base CX0 3 f fd ["_law_one", "_law_other"] spLQuo := by
  have GQ : FnOk P w K mg base (L2N.CX P w) 2 fQ fdQ ["one", "other"] (spQuo B) := ok_quo FQ FP bP gP FT bT gT mG k.e
  have GA : FnHE P w K mg base B 1 fA fdA ["_law_e"] spAlone := ok_alone FA k
  refine F.ok scLQuo (fun vs H Q E h => ?_) (fun cdv A outer s H vs Q E hr h => ?_)
  · obtain ⟨a, b, x, y, z, t, rfl, _⟩ := h
    rfl
  · obtain ⟨a, b, x, y, z, t, rfl, ha, hb, q1, q2⟩ := h
    have nd := scLQuo.nd
    refine ⟨_, pss_one (L2N.ps_try_as (i := 2) rfl rfl nd rfl rfl ⟨rfl, by decide, .inl k.gM⟩ takesN
      (fun W pn xe tk _ => pss_one (ps_ret (pe_callS GQ hr (by rfl) gQ FQ.kp bQ (fun σ => L2N.passAt tk σ) (pa_cons (pv 0) (pa_cons (pv 1) pa_nil)))))
      (fun a oe cls d pn hz hf => pss_one (ps_ret (pe_ix (show IxR _ (rIxL K) from ix_list) (pe_lst (pa_cons pe_non (pa_cons pe_bl pa_nil))) (pe_callTy call_int1 (by rfl) k.mn PyProof.Rows.boot_int (pa_cons (pe_not (pe_callHE GA (L2H.roomH_of (hr.mono (by decide))) hz hf (by rfl) gA FA.kp bA (pa_cons (pv 2) pa_nil))) pa_nil)) (fun _ _ => rfl))))), ?_⟩
    refine ⟨_, rfl, _, rfl, a, b, x, y, z, t, rfl, ha, hb, fun y0 => ?_, fun y0 H' p u v sm eH hr2 e h1 h2 => ?_⟩
    · refine ⟨true, k.k.em, fun _ a na => ?_, fun z => nomatch z⟩
      refine ⟨(by show 2 ≤ sizeLine; decide), fun l nl => ?_⟩
      refine ⟨rfl, rfl, _, rfl, rfl, true, rfl, .inr ⟨_, rfl, l, _, 0, _, rfl, rfl, SqL.of upd_same, rfl, ?_⟩⟩
      exact q1 y0 _ (same_new nl)
    · exact q2 y0 _ p u v sm eH hr2 e (up241' h1) (up241' h2)
def spLRaised : Sp := fun vs H Q _ => ∃ (a : Addr) (x y n : Int), vs = [.ref a, .int n] ∧ FrIn H a x y ∧ Red x y ∧ -6 ≤ n ∧ n ≤ 6 ∧ QTold H Q (dueA x y n) (dueB x y n)
theorem ok_lraised {f fT fA fR fW : Addr} {fd fdT fdA fdR fdW : FuncData} (F : Fun K "_law_raised" "_law_raised" sLRaised f fd) (k : Kinds K mg B M N U V) (FA : Fun K "_law_alone" "_law_alone" sAlone fA fdA) (bA : Binds K fdA ["_law_e"] []) (gA : mg "_law_alone" = some (.ref fA))
    (FR : Fun K "raised" "raised" sRaised fR fdR) (bR : Binds K fdR ["one", "n"] []) (gR : mg "raised" = some (.ref fR))
    (FT : Fun K "_turned" "_turned" sTrn fT fdT) (bT : Binds K fdT ["one"] []) (gT : mg "_turned" = some (.ref fT))
    (FW : Fun K "_whole_power" "_whole_power" sWholeP fW fdW) (bW : Binds K fdW ["number", "n"] []) (gW : mg "_whole_power" = some (.ref fW)) (mr : mg "range" = none) (mv : mg "reversed" = none) : FnOk P w K mg base CX0 3 f fd ["_law_one", "_law_n"] spLRaised := by
  have GR : FnOk P w K mg base (L2N.CX P w) 2 fR fdR ["one", "n"] (spRaised B) := ok_raised FR FT bT gT k.e FW bW gW mr mv
  have GA : FnHE P w K mg base B 1 fA fdA ["_law_e"] spAlone := ok_alone FA k
  refine F.ok scLRaised (fun vs H Q E h => ?_) (fun cdv A outer s H vs Q E hr h => ?_)
  · obtain ⟨a, x, y, n, rfl, _⟩ := h
    rfl
  · obtain ⟨a, x, y, n, rfl, ha, red, n1, n2, q1, q2⟩ := h
    have nd := scLRaised.nd
    refine ⟨_, pss_one (L2N.ps_try_as (i := 2) rfl rfl nd rfl rfl ⟨rfl, by decide, .inl k.gM⟩ takesN
      (fun W pn xe tk _ => pss_one (ps_ret (pe_callS GR hr (by rfl) gR FR.kp bR (fun σ => L2N.passAt tk σ) (pa_cons (pv 0) (pa_cons (pv 1) pa_nil)))))
      (fun a oe cls d pn hz hf => pss_one (ps_ret (pe_ix (show IxR _ (rIxL K) from ix_list) (pe_lst (pa_cons pe_non (pa_cons pe_bl pa_nil))) (pe_callTy call_int1 (by rfl) k.mn PyProof.Rows.boot_int (pa_cons (pe_not (pe_callHE GA (L2H.roomH_of (hr.mono (by decide))) hz hf (by rfl) gA FA.kp bA (pa_cons (pv 2) pa_nil))) pa_nil)) (fun _ _ => rfl))))), ?_⟩
    refine ⟨_, rfl, _, rfl, a, x, y, n, rfl, ha, red, n1, n2, fun y0 => ?_, fun y0 H' p u v sm eH hr2 e h1 h2 => ?_⟩
    · refine ⟨true, k.k.em, fun _ a na => ?_, fun z => nomatch z⟩
      refine ⟨(by show 2 ≤ sizeLine; decide), fun l nl => ?_⟩
      refine ⟨rfl, rfl, _, rfl, rfl, true, rfl, .inr ⟨_, rfl, l, _, 0, _, rfl, rfl, SqL.of upd_same, rfl, ?_⟩⟩
      exact q1 y0 _ (same_new nl)
    · exact q2 y0 _ p u v sm eH hr2 e h1 h2
end
end MK


set_option Elab.async false
set_option linter.all false
set_option maxRecDepth 100000
set_option maxHeartbeats 4000000
namespace MK
open PySem PySem.Spec PyProof.Rows L2
/-- found is what a fraction of x over y has to be -/
def IsOk (H : Hp) (v : V) (x y : Int) : Prop := (y = 0 → v = .non) ∧ (y ≠ 0 → ∃ p a b, v = .ref p ∧ FrAt H p a b ∧ Red a b ∧ a * y = x * b ∧ a.natAbs < 2 ^ 241 ∧ b.natAbs < 2 ^ 241)
theorem told_is {H : Hp} {Q : VK} {x y : Int} (q : ∀ H' v, Same H H' → IsOk H' v x y → Q v H') : QTold H Q x y :=
  ⟨fun e H' s => q H' _ s ⟨fun _ => rfl, fun z => absurd e z⟩, fun e H' p u v s h r g b1 b2 => q H' _ s ⟨fun z => absurd z e, fun _ => ⟨p, u, v, rfl, h, r, g, b1, b2⟩⟩⟩
theorem fr_is {H : Hp} {Q : VK} {x y : Int} (y0 : y ≠ 0) (q : ∀ H' v, Same H H' → IsOk H' v x y → Q v H') : QFr H Q x y := fun H' p u v s hp r g b1 b2 =>
  q H' _ s ⟨fun z => absurd z y0, fun _ => ⟨p, u, v, rfl, hp, r, g, up241' b1, up241' b2⟩⟩
theorem two_int {a b : Int} {i : Int} (h0 : 0 ≤ i) (h1 : i < 2) : ∃ x : Int, atI [V.int a, V.int b] i = some (.int x) ∧ (x = a ∨ x = b) := by
  have : i = 0 ∨ i = 1 := by omega
  rcases this with rfl | rfl
  · exact ⟨a, rfl, .inl rfl⟩
  · exact ⟨b, rfl, .inr rfl⟩
theorem cube_lt {c : Int} (h0 : 0 ≤ c) (h1 : c < 1000000000000000003) : (c ^ (3 : Int).toNat).natAbs < 2 ^ 200 := by
  rw [Int.natAbs_pow]
  have h2 : c.natAbs ≤ 2 ^ 60 := by omega
  have h3 : c.natAbs ^ (3 : Int).toNat ≤ (2 ^ 60) ^ (3 : Int).toNat := Nat.pow_le_pow_left h2 _
  exact Nat.lt_of_le_of_lt h3 (by decide)
theorem due_lt {x y n : Int} (hx : x.natAbs < 2 ^ 40) (hy : y.natAbs < 2 ^ 40) (n1 : -6 ≤ n) (n2 : n ≤ 6) : (dueA x y n).natAbs < 2 ^ 241 ∧ (dueB x y n).natAbs < 2 ^ 241 := by
  unfold dueA dueB
  by_cases e : n < 0
  · rw [if_pos e, if_pos e]
    exact ⟨pow_lt hy (by omega), pow_lt hx (by omega)⟩
  · rw [if_neg e, if_neg e]
    exact ⟨pow_lt hx (by omega), pow_lt hy (by omega)⟩
section
variable {P : Program} {w : World} {K : PySem.W.Frag} {mg : Str → Option Value} {base : Heap} {B M N U Z : Addr}
theorem scLIs : FnScope ["_law_found", "_law_above", "_law_below", "_law_part"] ["_law_found", "_law_above", "_law_below"] (defScope sLIs) := ⟨rfl, rfl, rfl, by decide +kernel, rfl, by decide +kernel, by decide +kernel⟩
def spIs : Sp := fun vs H Q _ => ∃ (v : V) (x y : Int), vs = [v, .int x, .int y] ∧ x.natAbs < 2 ^ 241 ∧ y.natAbs < 2 ^ 241 ∧ IsOk H v x y ∧ Q (.bl true) H
theorem ok_is {f fS : Addr} {fd fdS : FuncData} (F : Fun K "_law_is" "_law_is" sLIs f fd) (FS : Fun K "_law_shared" "_law_shared" sShared fS fdS) (bS : Binds K fdS ["_law_one", "_law_other"] []) (gS : mg "_law_shared" = some (.ref fS))
    (ma : mg "abs" = none) (mi : mg "isinstance" = none) (mn : mg "int" = none) (mb : mg "bool" = none) (mt : mg "tuple" = none) (ml : mg "len" = none) : FnOk P w K mg base CX0 2 f fd ["_law_found", "_law_above", "_law_below"] spIs := by
  have GS : FnOk P w K mg base CX0 1 fS fdS ["_law_one", "_law_other"] spShared := ok_shared FS
  refine F.ok scLIs (fun vs H Q E h => ?_) (fun cdv A outer s H vs Q E hr h => ?_)
  · obtain ⟨v, x, y, rfl, _⟩ := h
    rfl
  · obtain ⟨v, x, y, rfl, bx, by', ⟨i0, i1⟩, q⟩ := h
    have nd := scLIs.nd
    refine ⟨_, pss_cons (ps_if (pt_cmpR op_eq (pv 2) pe_int (nomark _)) (pss_one (ps_ret (pe_cmpR op_isN (pv 0) pe_non (nomark _)))) pss_nil)
      (pss_cons (ps_if (pw_or (pt_not (pt_val (pe_callB call_isi (by rfl) mi PyProof.Rows.boot_isinstance (pa_cons (pv 0) (pa_cons (pe_bltn (v := .ty "tuple") (by rfl) mt PyProof.Rows.boot_tuple rfl) pa_nil)))))
          (pw_or1 (pt_cmpR op_ne (pe_callB call_len_seq (by rfl) ml PySem.boot_len (pa_cons (pv 0) pa_nil)) pe_int (nomark _)))).pt (pss_one (ps_ret pe_bl)) pss_nil)
      (pss_cons (ps_for PassesOwn.never rfl (pi_tup (pv 0)) (pg_name (i := 3) nd rfl (.inl rfl))
        (pss_one (ps_if (pw_or (pt_not (pt_val (pe_callB call_isi (by rfl) mi PyProof.Rows.boot_isinstance (pa_cons (pv 3) (pa_cons (pe_bltn (v := .ty "int") (by rfl) mn PyProof.Rows.boot_int rfl) pa_nil)))))
          (pw_or1 (pt_val (pe_callB call_isi (by rfl) mi PyProof.Rows.boot_isinstance (pa_cons (pv 3) (pa_cons (pe_bltn (v := .ty "bool") (by rfl) mb PyProof.Rows.boot_bool rfl) pa_nil)))))).pt (pss_one (ps_ret pe_bl)) pss_nil)))
      (pss_cons (ps_if (pw_or (pt_cmpR op_lt (pe_ix ix_tup (pv 0) pe_int (fun _ _ => rfl)) pe_int (nomark _))
          (pw_or1 (pt_cmpR op_ne (pe_call GS hr (by rfl) gS FS.kp bS .nil pass0 (pa_cons (pe_callB call_abs (by rfl) ma PyProof.Rows.boot_abs (pa_cons (pe_ix ix_tup (pv 0) pe_int (fun _ _ => rfl)) pa_nil)) (pa_cons (pe_ix ix_tup (pv 0) pe_int (fun _ _ => rfl)) pa_nil))) pe_int (nomark _)))).pt (pss_one (ps_ret pe_bl)) pss_nil)
      (pss_one (ps_ret (pe_cmpR op_eq (pe_op op_mulW (pe_ix ix_tup (pv 0) pe_int (fun _ _ => rfl)) (pv 2)) (pe_op op_mulW (pv 1) (pe_ix ix_tup (pv 0) pe_int (fun _ _ => rfl))) (nomark _))))))), ?_⟩
    refine ⟨_, rfl, rfl, _, rfl, ite2 (fun e => ?_) (fun e => ?_)⟩
    · have y0 : y = 0 := by simpa using e
      refine ⟨_, rfl, rfl, ?_⟩
      rw [i0 y0]
      exact q
    · have y0 : y ≠ 0 := fun z => e (by rw [z]; rfl)
      obtain ⟨p, a, b, rfl, hp, red, eq, ba, bb⟩ := i1 y0
      refine ⟨_, rfl, _, _, _, _, true, rfl, .ty _, .base (.tup hp), kit_ty (by decide +kernel), true, rfl, iteF ?_⟩
      refine ⟨_, rfl, p, _, rfl, .inr (SqT.of hp), rfl, _, rfl, iteF ?_⟩
      refine ⟨_, rfl, p, rfl, ⟨_, SqT.of hp⟩, for_tup (xs := [V.int a, V.int b]) (fun i σ H2 => H2 = H ∧ ∃ v3 : Option V, σ = [some (.ref p), some (.int x), some (.int y), v3])
        ⟨rfl, none, rfl⟩ (fun i σ H2 _ z => by rw [z.1]; exact SqT.of hp) ?_ ?_⟩
      · rintro i z σ H2 hz ⟨rfl, v3, rfl⟩
        have hm := List.mem_of_getElem? hz
        obtain ⟨n, rfl⟩ : ∃ n : Int, z = .int n := by
          rcases List.mem_cons.mp hm with e | hm
          · exact ⟨_, e⟩
          · exact ⟨_, List.mem_singleton.mp hm⟩
        refine ⟨_, rfl, _, _, _, _, true, rfl, .ty _, .base (.int _), kit_ty (by decide +kernel), true, rfl, iteF ?_⟩
        refine ⟨_, rfl, _, _, _, _, false, rfl, .ty _, .base (.int _), kit_ty (by decide +kernel), false, rfl, iteF ?_⟩
        exact ⟨rfl, some (.int n), rfl⟩
      · rintro σ H2 ⟨rfl, v3, rfl⟩
        refine ⟨_, rfl, p, _, 1, _, rfl, rfl, SqT.of hp, at2_1 _ _, _, _, rfl, rfl, _, rfl, ?_⟩
        rw [decide_eq_false (show ¬ b < 1 from by have := red.1; omega)]
        refine iteF ?_
        refine ⟨_, rfl, p, _, 0, _, rfl, rfl, SqT.of hp, at2_0 _ _, _, rfl, _, rfl, p, _, 1, _, rfl, rfl, SqT.of hp, at2_1 _ _, a.natAbs, b.natAbs, ?_, rfl, _, rfl, ?_⟩
        · rw [abs_nat, Int.natAbs_of_nonneg (Int.le_of_lt red.1)]
          rfl
        · rw [red.2]
          refine iteF ?_
          refine ⟨_, rfl, p, _, 0, _, rfl, rfl, SqT.of hp, at2_0 _ _, _, rfl, _, _, rfl, rfl, mul241 ba by', _, rfl, _, rfl, p, _, 1, _, rfl, rfl, SqT.of hp, at2_1 _ _, _, _, rfl, rfl, mul241 bx bb, rfl, ?_⟩
          rw [decide_eq_true (congrArg V.int eq)]
          exact q
end
/-- what the walk asks of the top -/
structure Txt (K : PySem.W.Frag) (mg : Str → Option Value) (B M N U Z : Addr) where
  (fFrac fA fLe fP fQ fR fIL fW fTg fTn fC fS fO fN fAl fLQ fLR fLF fI fTI : Addr)
  (dFrac dA dLe dP dQ dR dIL dW dTg dTn dC dS dO dN dAl dLQ dLR dLF dI dTI : FuncData)
  FFrac : Fun K "fraction" "fraction" sFrac fFrac dFrac
  FA : Fun K "added" "added" sAdd fA dA
  FLe : Fun K "lessened" "lessened" sLess fLe dLe
  FP : Fun K "product" "product" sProd fP dP
  FQ : Fun K "quotient" "quotient" sQuo fQ dQ
  FR : Fun K "raised" "raised" sRaised fR dR
  FIL : Fun K "is_less" "is_less" sIsLess fIL dIL
  FW : Fun K "_whole_power" "_whole_power" sWholeP fW dW
  FTg : Fun K "_together" "_together" sTog fTg dTg
  FTn : Fun K "_turned" "_turned" sTrn fTn dTn
  FC : Fun K "_law_cell_at" "_law_cell_at" sCell fC dC
  FS : Fun K "_law_shared" "_law_shared" sShared fS dS
  FO : Fun K "_law_lowest" "_law_lowest" sLowest fO dO
  FN : Fun K "_law_number" "_law_number" sNumber fN dN
  FAl : Fun K "_law_alone" "_law_alone" sAlone fAl dAl
  FLQ : Fun K "_law_quotient" "_law_quotient" sLQuo fLQ dLQ
  FLR : Fun K "_law_raised" "_law_raised" sLRaised fLR dLR
  FLF : Fun K "_law_fraction" "_law_fraction" sLFrac fLF dLF
  FI : Fun K "_law_is" "_law_is" sLIs fI dI
  FTI : Fun K "_law_times_itself" "_law_times_itself" sTimesI fTI dTI
  gFrac : mg "fraction" = some (.ref fFrac)
  gA : mg "added" = some (.ref fA)
  gLe : mg "lessened" = some (.ref fLe)
  gP : mg "product" = some (.ref fP)
  gQ : mg "quotient" = some (.ref fQ)
  gR : mg "raised" = some (.ref fR)
  gIL : mg "is_less" = some (.ref fIL)
  gW : mg "_whole_power" = some (.ref fW)
  gTg : mg "_together" = some (.ref fTg)
  gTn : mg "_turned" = some (.ref fTn)
  gC : mg "_law_cell_at" = some (.ref fC)
  gS : mg "_law_shared" = some (.ref fS)
  gO : mg "_law_lowest" = some (.ref fO)
  gN : mg "_law_number" = some (.ref fN)
  gAl : mg "_law_alone" = some (.ref fAl)
  gLQ : mg "_law_quotient" = some (.ref fLQ)
  gLR : mg "_law_raised" = some (.ref fLR)
  gLF : mg "_law_fraction" = some (.ref fLF)
  gI : mg "_law_is" = some (.ref fI)
  gTI : mg "_law_times_itself" = some (.ref fTI)
  ml : mg "len" = none
  mr : mg "range" = none
  mv : mg "reversed" = none
  ma : mg "abs" = none
  mt : mg "tuple" = none
  mb : mg "bool" = none
  mi : mg "isinstance" = none
  mn : mg "int" = none
  mE : mg "ValueError" = none
  mG : mg "gcd" = some (.builtin "math.gcd")
  k : Kinds K mg B M N U Z

section
variable {P : Program} {w : World} {K : PySem.W.Frag} {mg : Str → Option Value} {base : Heap} {B M N U Z : Addr}
def spLaw (K : PySem.W.Frag) : Sp := fun vs H Q _ => ∃ (a : Addr) (ns : List Int), vs = [.ref a] ∧ SqL K H a (ns.map V.int) ∧ ∀ H', Q (.bl true) H'
theorem scLaw : FnScope ["_law_script", "_law_one", "_law_other", "_law_a", "_law_b", "_law_c", "_law_d", "_law_n", "_law_above", "_law_below", "_law_due", "_law_found"] ["_law_script"] (defScope sLaw) := ⟨rfl, rfl, rfl, by decide +kernel, rfl, by decide +kernel, by decide +kernel⟩
theorem ok_law {f : Addr} {fd : FuncData} (F : Fun K "law" "law" sLaw f fd) (T : Txt K mg B M N U Z) : FnOk P w K mg base CX0 4 f fd ["_law_script"] (spLaw K) := by
  have bFrac := T.FFrac.binds (ps := ["above", "below"]) fun _ _ _ _ _ _ us hl => match us, hl with | [_, _], _ => rfl
  have bA := T.FA.binds (ps := ["one", "other"]) fun _ _ _ _ _ _ us hl => match us, hl with | [_, _], _ => rfl
  have bLe := T.FLe.binds (ps := ["one", "other"]) fun _ _ _ _ _ _ us hl => match us, hl with | [_, _], _ => rfl
  have bP := T.FP.binds (ps := ["one", "other"]) fun _ _ _ _ _ _ us hl => match us, hl with | [_, _], _ => rfl
  have bQ := T.FQ.binds (ps := ["one", "other"]) fun _ _ _ _ _ _ us hl => match us, hl with | [_, _], _ => rfl
  have bR := T.FR.binds (ps := ["one", "n"]) fun _ _ _ _ _ _ us hl => match us, hl with | [_, _], _ => rfl
  have bIL := T.FIL.binds (ps := ["one", "other"]) fun _ _ _ _ _ _ us hl => match us, hl with | [_, _], _ => rfl
  have bW := T.FW.binds (ps := ["number", "n"]) fun _ _ _ _ _ _ us hl => match us, hl with | [_, _], _ => rfl
  have bTg := T.FTg.binds (ps := ["one", "above", "below"]) fun _ _ _ _ _ _ us hl => match us, hl with | [_, _, _], _ => rfl
  have bTn := T.FTn.binds (ps := ["one"]) fun _ _ _ _ _ _ us hl => match us, hl with | [_], _ => rfl
  have bC := T.FC.binds (ps := ["_law_script", "_law_k"]) fun _ _ _ _ _ _ us hl => match us, hl with | [_, _], _ => rfl
  have bS := T.FS.binds (ps := ["_law_one", "_law_other"]) fun _ _ _ _ _ _ us hl => match us, hl with | [_, _], _ => rfl
  have bO := T.FO.binds (ps := ["_law_above", "_law_below"]) fun _ _ _ _ _ _ us hl => match us, hl with | [_, _], _ => rfl
  have bN := T.FN.binds (ps := ["_law_cell"]) fun _ _ _ _ _ _ us hl => match us, hl with | [_], _ => rfl
  have bAl := T.FAl.binds (ps := ["_law_e"]) fun _ _ _ _ _ _ us hl => match us, hl with | [_], _ => rfl
  have bLQ := T.FLQ.binds (ps := ["_law_one", "_law_other"]) fun _ _ _ _ _ _ us hl => match us, hl with | [_, _], _ => rfl
  have bLR := T.FLR.binds (ps := ["_law_one", "_law_n"]) fun _ _ _ _ _ _ us hl => match us, hl with | [_, _], _ => rfl
  have bLF := T.FLF.binds (ps := ["_law_above", "_law_below"]) fun _ _ _ _ _ _ us hl => match us, hl with | [_, _], _ => rfl
  have bI := T.FI.binds (ps := ["_law_found", "_law_above", "_law_below"]) fun _ _ _ _ _ _ us hl => match us, hl with | [_, _, _], _ => rfl
  have bTI := T.FTI.binds (ps := ["_law_number_here", "_law_n"]) fun _ _ _ _ _ _ us hl => match us, hl with | [_, _], _ => rfl
  have GC : FnOk P w K mg base CX0 1 T.fC T.dC ["_law_script", "_law_k"] (spCell K) := ok_cell T.FC T.ml
  have GN : FnOk P w K mg base CX0 3 T.fN T.dN ["_law_cell"] spNumber := ok_number T.FN T.FO bO T.gO T.FS bS T.gS T.ma
  have GTI : FnOk P w K mg base CX0 1 T.fTI T.dTI ["_law_number_here", "_law_n"] spTimesI := ok_timesI T.FTI T.mr
  have GI : FnOk P w K mg base CX0 2 T.fI T.dI ["_law_found", "_law_above", "_law_below"] spIs := ok_is T.FI T.FS bS T.gS T.ma T.mi T.mn T.mb T.mt T.ml
  have GLF : FnOk P w K mg base CX0 2 T.fLF T.dLF ["_law_above", "_law_below"] spLFrac := ok_lfrac T.FLF T.k T.FAl bAl T.gAl T.FFrac bFrac T.gFrac T.mG
  have GLQ : FnOk P w K mg base CX0 3 T.fLQ T.dLQ ["_law_one", "_law_other"] spLQuo := ok_lquo T.FLQ T.k T.FAl bAl T.gAl T.FQ bQ T.gQ T.FP bP T.gP T.FTn bTn T.gTn T.mG
  have GLR : FnOk P w K mg base CX0 3 T.fLR T.dLR ["_law_one", "_law_n"] spLRaised := ok_lraised T.FLR T.k T.FAl bAl T.gAl T.FR bR T.gR T.FTn bTn T.gTn T.FW bW T.gW T.mr T.mv
  have GA : FnOk P w K mg base CX0 2 T.fA T.dA ["one", "other"] (spTwoF (fun x y z t => x * t + z * y) (fun x y z t => y * t)) := ok_add T.FA T.FTg bTg T.gTg T.mG
  have GLe : FnOk P w K mg base CX0 2 T.fLe T.dLe ["one", "other"] (spTwoF (fun x y z t => x * t - z * y) (fun x y z t => y * t)) := ok_less T.FLe T.FTg bTg T.gTg T.mG
  have GP : FnOk P w K mg base CX0 1 T.fP T.dP ["one", "other"] (spTwoF (fun x y z t => x * z) (fun x y z t => y * t)) := ok_prod T.FP T.mG
  have GIL : FnOk P w K mg base CX0 1 T.fIL T.dIL ["one", "other"] spIsLess := ok_isLess T.FIL
  refine F.ok scLaw (fun vs H Q E h => ?_) (fun cdv A outer s H vs Q E hr h => ?_)
  · obtain ⟨a, ns, rfl, _⟩ := h
    rfl
  · obtain ⟨a, ns, rfl, hS, q⟩ := h
    have nd := scLaw.nd
    have hr1 : Room 1 _ := hr.mono (by decide)
    have hr2 : Room 2 _ := hr.mono (by decide)
    refine ⟨_, (pss_cons (ps_set (i := 1) nd rfl (.inl rfl) (pe_call GN hr (by rfl) T.gN T.FN.kp bN .nil pass0 (pa_cons (pe_call GC hr1 (by rfl) T.gC T.FC.kp bC .nil pass0 (pa_cons (pv 0) (pa_cons pe_int pa_nil))) pa_nil)))
      (pss_cons (ps_set (i := 2) nd rfl (.inl rfl) (pe_call GN hr (by rfl) T.gN T.FN.kp bN .nil pass0 (pa_cons (pe_call GC hr1 (by rfl) T.gC T.FC.kp bC .nil pass0 (pa_cons (pv 0) (pa_cons pe_int pa_nil))) pa_nil)))
      (Evl.pss_cut (ps_if (pt_cmpR op_eq (pe_op op_mod (pe_call GC hr1 (by rfl) T.gC T.FC.kp bC .nil pass0 (pa_cons (pv 0) (pa_cons pe_int pa_nil))) pe_int) pe_int (nomark _)) (pss_one (ps_set (i := 2) nd rfl (.inl rfl) (pv 1))) pss_nil)
      (pss_cons (ps_asg (pv 1) (pg_tup rfl (pgs_cons (pg_name (i := 3) nd rfl (.inl rfl)) (pgs_cons (pg_name (i := 4) nd rfl (.inl rfl)) pgs_nil))))
      (pss_cons (ps_asg (pv 2) (pg_tup rfl (pgs_cons (pg_name (i := 5) nd rfl (.inl rfl)) (pgs_cons (pg_name (i := 6) nd rfl (.inl rfl)) pgs_nil))))
      (pss_cons (ps_set (i := 7) nd rfl (.inl rfl) (pe_op op_sub (pe_op op_mod (pe_call GC hr1 (by rfl) T.gC T.FC.kp bC .nil pass0 (pa_cons (pv 0) (pa_cons pe_int pa_nil))) pe_int) pe_int))
      (Evl.pss_cut (ps_set (i := 8) nd rfl (.inl rfl) (pe_ix ix_list (pe_lst (pa_cons (pe_op op_sub (pe_op op_mod (pe_call GC hr1 (by rfl) T.gC T.FC.kp bC .nil pass0 (pa_cons (pv 0) (pa_cons pe_int pa_nil))) pe_int) pe_int) (pa_cons (pe_op op_pow (pe_call GC hr1 (by rfl) T.gC T.FC.kp bC .nil pass0 (pa_cons (pv 0) (pa_cons pe_int pa_nil))) pe_int) pa_nil))) (pe_op op_mod (pe_op op_fdiv (pe_call GC hr1 (by rfl) T.gC T.FC.kp bC .nil pass0 (pa_cons (pv 0) (pa_cons pe_int pa_nil))) pe_int) pe_int) (fun _ _ => rfl)))
      (Evl.pss_cut (ps_set (i := 9) nd rfl (.inl rfl) (pe_ix ix_list (pe_lst (pa_cons (pe_op op_sub (pe_op op_mod (pe_call GC hr1 (by rfl) T.gC T.FC.kp bC .nil pass0 (pa_cons (pv 0) (pa_cons pe_int pa_nil))) pe_int) pe_int) (pa_cons (pe_op op_pow (pe_call GC hr1 (by rfl) T.gC T.FC.kp bC .nil pass0 (pa_cons (pv 0) (pa_cons pe_int pa_nil))) pe_int) pa_nil))) (pe_op op_mod (pe_op op_fdiv (pe_call GC hr1 (by rfl) T.gC T.FC.kp bC .nil pass0 (pa_cons (pv 0) (pa_cons pe_int pa_nil))) pe_int) pe_int) (fun _ _ => rfl)))
      (Evl.pss_cut (ps_if (pt_not (pt_val (pe_call GI hr2 (by rfl) T.gI T.FI.kp bI .nil pass0 (pa_cons (pe_call GLF hr2 (by rfl) T.gLF T.FLF.kp bLF .nil pass0 (pa_cons (pv 8) (pa_cons (pv 9) pa_nil))) (pa_cons (pv 8) (pa_cons (pv 9) pa_nil)))))) (pss_one (ps_ret pe_bl)) pss_nil)
      (Evl.pss_cut (ps_if (pw_or (pt_not (pt_val (pe_call GI hr2 (by rfl) T.gI T.FI.kp bI .nil pass0 (pa_cons (pe_call GA hr2 (by rfl) T.gA T.FA.kp bA .nil pass0 (pa_cons (pv 1) (pa_cons (pv 2) pa_nil))) (pa_cons (pe_op op_add (pe_op op_mulW (pv 3) (pv 6)) (pe_op op_mulW (pv 5) (pv 4))) (pa_cons (pe_op op_mulW (pv 4) (pv 6)) pa_nil)))))) (pw_or1 (pt_not (pt_val (pe_call GI hr2 (by rfl) T.gI T.FI.kp bI .nil pass0 (pa_cons (pe_call GLe hr2 (by rfl) T.gLe T.FLe.kp bLe .nil pass0 (pa_cons (pv 1) (pa_cons (pv 2) pa_nil))) (pa_cons (pe_op op_sub (pe_op op_mulW (pv 3) (pv 6)) (pe_op op_mulW (pv 5) (pv 4))) (pa_cons (pe_op op_mulW (pv 4) (pv 6)) pa_nil)))))))).pt (pss_one (ps_ret pe_bl)) pss_nil)
      (Evl.pss_cut (ps_if (pw_or (pt_not (pt_val (pe_call GI hr2 (by rfl) T.gI T.FI.kp bI .nil pass0 (pa_cons (pe_call GP hr1 (by rfl) T.gP T.FP.kp bP .nil pass0 (pa_cons (pv 1) (pa_cons (pv 2) pa_nil))) (pa_cons (pe_op op_mulW (pv 3) (pv 5)) (pa_cons (pe_op op_mulW (pv 4) (pv 6)) pa_nil)))))) (pw_or1 (pt_not (pt_val (pe_call GI hr2 (by rfl) T.gI T.FI.kp bI .nil pass0 (pa_cons (pe_call GLQ hr (by rfl) T.gLQ T.FLQ.kp bLQ .nil pass0 (pa_cons (pv 1) (pa_cons (pv 2) pa_nil))) (pa_cons (pe_op op_mulW (pv 3) (pv 6)) (pa_cons (pe_op op_mulW (pv 4) (pv 5)) pa_nil)))))))).pt (pss_one (ps_ret pe_bl)) pss_nil)
      (pss_cons (ps_set (i := 10) nd rfl (.inl rfl) (pe_tup (pa_cons (pe_call GTI hr1 (by rfl) T.gTI T.FTI.kp bTI .nil pass0 (pa_cons (pv 3) (pa_cons (pv 7) pa_nil))) (pa_cons (pe_call GTI hr1 (by rfl) T.gTI T.FTI.kp bTI .nil pass0 (pa_cons (pv 4) (pa_cons (pv 7) pa_nil))) pa_nil))))
      (Evl.pss_cut (ps_if (pt_cmpR op_lt (pv 7) pe_int (nomark _)) (pss_one (ps_set (i := 10) nd rfl (.inl rfl) (pe_tup (pa_cons (pe_call GTI hr1 (by rfl) T.gTI T.FTI.kp bTI .nil pass0 (pa_cons (pv 4) (pa_cons (pe_op op_sub pe_int (pv 7)) pa_nil))) (pa_cons (pe_call GTI hr1 (by rfl) T.gTI T.FTI.kp bTI .nil pass0 (pa_cons (pv 3) (pa_cons (pe_op op_sub pe_int (pv 7)) pa_nil))) pa_nil))))) pss_nil)
      (Evl.pss_cut (ps_if (pt_not (pt_val (pe_call GI hr2 (by rfl) T.gI T.FI.kp bI .nil pass0 (pa_cons (pe_call GLR hr (by rfl) T.gLR T.FLR.kp bLR .nil pass0 (pa_cons (pv 1) (pa_cons (pv 7) pa_nil))) (pa_cons (pe_ix ix_tup (pv 10) pe_int (fun _ _ => rfl)) (pa_cons (pe_ix ix_tup (pv 10) pe_int (fun _ _ => rfl)) pa_nil)))))) (pss_one (ps_ret pe_bl)) pss_nil)
      (pss_cons (ps_set (i := 11) nd rfl (.inl rfl) (pe_call GIL hr1 (by rfl) T.gIL T.FIL.kp bIL .nil pass0 (pa_cons (pv 1) (pa_cons (pv 2) pa_nil))))
      (pss_one (ps_ret (pe_and (pe_callB call_isi (by rfl) T.mi PyProof.Rows.boot_isinstance (pa_cons (pv 11) (pa_cons (pe_bltn (v := .ty "bool") (by rfl) T.mb PyProof.Rows.boot_bool rfl) pa_nil))) (pe_one (pe_cmpR op_eq (pv 11) (pe_cmpR op_lt (pe_op op_mulW (pv 3) (pv 6)) (pe_op op_mulW (pv 5) (pv 4)) (nomark _)) (nomark _))))))))))))))))))))), ?_⟩
    -- one, other
    refine ⟨_, rfl, a, ns, 0, rfl, hS, fun c0 c00 c01 => ?_⟩
    refine ⟨c0, rfl, c00, fun H1 p1 x y s1 ha red1 => ?_⟩
    have hS1 := s1.seq hS
    refine ⟨_, rfl, a, ns, 1, rfl, hS1, fun c1 c10 c11 => ?_⟩
    refine ⟨c1, rfl, c10, fun H2 p2 z t s2 hb red2 => ?_⟩
    have hS2 := s2.seq hS1
    have ha2 := ha.same s2
    refine ⟨fun σ' H' => H' = H2 ∧ ∃ (p2 : Addr) (z t : Int), σ' = [some (.ref a), some (.ref p1), some (.ref p2), none, none, none, none, none, none, none, none, none] ∧ FrIn H2 p2 z t, ?_, ?_⟩
    · refine ⟨_, rfl, a, ns, 2, rfl, hS2, fun c2 c20 c21 => ?_⟩
      (repeat (first | refine ⟨_, rfl, ?_⟩ | refine ⟨_, _, rfl, rfl, ?_⟩ | refine ⟨(by show (0 : Int) < _; decide), ?_⟩ | refine ⟨⟨by decide, by decide⟩, ?_⟩ | refine ⟨.inr (by decide), ?_⟩ | refine ⟨.inl (by decide), ?_⟩ | refine ⟨rfl, ?_⟩))
      exact ite2 (fun _ => ⟨_, rfl, rfl, p1, x, y, rfl, ha2⟩) (fun _ => ⟨rfl, p2, z, t, rfl, hb⟩)
    rintro σ' H' ⟨rfl, p2, z, t, rfl, hb⟩
    refine ⟨_, rfl, p1, _, rfl, SqT.of ha2.h, rfl, _, _, rfl, _, _, rfl, rfl, ?_⟩
    refine ⟨_, rfl, p2, _, rfl, SqT.of hb.h, rfl, _, _, rfl, _, _, rfl, rfl, ?_⟩
    refine ⟨_, rfl, a, ns, 3, rfl, hS2, fun c3 c30 c31 => ?_⟩
    (repeat (first | refine ⟨_, rfl, ?_⟩ | refine ⟨_, _, rfl, rfl, ?_⟩ | refine ⟨(by show (0 : Int) < _; decide), ?_⟩ | refine ⟨⟨by decide, by decide⟩, ?_⟩ | refine ⟨.inr (by decide), ?_⟩ | refine ⟨.inl (by decide), ?_⟩ | refine ⟨rfl, ?_⟩))
    obtain ⟨n, hn⟩ : ∃ n : Int, n = c3 % 13 - 6 := ⟨_, rfl⟩
    have n1 : -6 ≤ n := by omega
    have n2 : n ≤ 6 := by omega
    -- above, below
    refine ⟨fun σ' H3 => Same H' H3 ∧ ∃ u : Int, u.natAbs < 2 ^ 200 ∧ σ' = [some (.ref a), some (.ref p1), some (.ref p2), some (.int x), some (.int y), some (.int z), some (.int t), some (.int n), some (.int u), none, none, none], ?_, ?_⟩
    · refine ⟨_, rfl, a, ns, 4, rfl, hS2, fun c4 c40 c41 => ?_⟩
      (repeat (first | refine ⟨_, rfl, ?_⟩ | refine ⟨_, _, rfl, rfl, ?_⟩ | refine ⟨(by show (0 : Int) < _; decide), ?_⟩ | refine ⟨⟨by decide, by decide⟩, ?_⟩ | refine ⟨.inr (by decide), ?_⟩ | refine ⟨.inl (by decide), ?_⟩ | refine ⟨rfl, ?_⟩))
      refine ⟨a, ns, 4, rfl, hS2, fun d4 d40 d41 => ?_⟩
      refine ⟨_, _, rfl, rfl, ⟨by decide, by decide, by omega⟩, (by show 2 ≤ sizeLine; decide), fun l nl => ?_⟩
      have s3 := same_new (o := .lst [V.int (c4 % 41 - 20), V.int (d4 ^ (3 : Int).toNat)]) nl
      refine ⟨_, rfl, a, ns, 4, rfl, (s3.seq hS2), fun e4 e40 e41 => ?_⟩
      (repeat (first | refine ⟨_, rfl, ?_⟩ | refine ⟨_, _, rfl, rfl, ?_⟩ | refine ⟨(by show (0 : Int) < _; decide), ?_⟩ | refine ⟨⟨by decide, by decide⟩, ?_⟩ | refine ⟨.inr (by decide), ?_⟩ | refine ⟨.inl (by decide), ?_⟩ | refine ⟨rfl, ?_⟩))
      obtain ⟨u, hu1, hu2⟩ := two_int (a := c4 % 41 - 20) (b := d4 ^ (3 : Int).toNat) (i := e4 / 41 % 2) (by omega) (by omega)
      refine ⟨l, _, _, _, rfl, rfl, SqL.of upd_same, hu1, s3, u, ?_, by rw [hn]; rfl⟩
      rcases hu2 with e | e
      · rw [e]; omega
      · rw [e]; exact cube_lt d40 (by omega)
    rintro σ' H3 ⟨s3, u, bu, rfl⟩
    have hS3 := s3.seq hS2
    have ha3 := ha2.same s3
    have hb3 := hb.same s3
    refine ⟨fun σ' H4 => Same H3 H4 ∧ ∃ v : Int, v.natAbs < 2 ^ 200 ∧ σ' = [some (.ref a), some (.ref p1), some (.ref p2), some (.int x), some (.int y), some (.int z), some (.int t), some (.int n), some (.int u), some (.int v), none, none], ?_, ?_⟩
    · refine ⟨_, rfl, a, ns, 5, rfl, hS3, fun c5 c50 c51 => ?_⟩
      (repeat (first | refine ⟨_, rfl, ?_⟩ | refine ⟨_, _, rfl, rfl, ?_⟩ | refine ⟨(by show (0 : Int) < _; decide), ?_⟩ | refine ⟨⟨by decide, by decide⟩, ?_⟩ | refine ⟨.inr (by decide), ?_⟩ | refine ⟨.inl (by decide), ?_⟩ | refine ⟨rfl, ?_⟩))
      refine ⟨a, ns, 5, rfl, hS3, fun d5 d50 d51 => ?_⟩
      refine ⟨_, _, rfl, rfl, ⟨by decide, by decide, by omega⟩, (by show 2 ≤ sizeLine; decide), fun l nl => ?_⟩
      have s4 := same_new (o := .lst [V.int (c5 % 9 - 4), V.int (d5 ^ (3 : Int).toNat)]) nl
      refine ⟨_, rfl, a, ns, 5, rfl, (s4.seq hS3), fun e5 e50 e51 => ?_⟩
      (repeat (first | refine ⟨_, rfl, ?_⟩ | refine ⟨_, _, rfl, rfl, ?_⟩ | refine ⟨(by show (0 : Int) < _; decide), ?_⟩ | refine ⟨⟨by decide, by decide⟩, ?_⟩ | refine ⟨.inr (by decide), ?_⟩ | refine ⟨.inl (by decide), ?_⟩ | refine ⟨rfl, ?_⟩))
      obtain ⟨v, hv1, hv2⟩ := two_int (a := c5 % 9 - 4) (b := d5 ^ (3 : Int).toNat) (i := e5 / 9 % 2) (by omega) (by omega)
      refine ⟨l, _, _, _, rfl, rfl, SqL.of upd_same, hv1, s4, v, ?_, rfl⟩
      rcases hv2 with e | e
      · rw [e]; omega
      · rw [e]; exact cube_lt d50 (by omega)
    rintro σ' H4 ⟨s4, v, bv, rfl⟩
    have ha4 := ha3.same s4
    have hb4 := hb3.same s4
    -- the fraction
    refine ⟨fun σ' H5 => Same H4 H5 ∧ σ' = [some (.ref a), some (.ref p1), some (.ref p2), some (.int x), some (.int y), some (.int z), some (.int t), some (.int n), some (.int u), some (.int v), none, none], ?_, ?_⟩
    · refine ⟨_, rfl, _, rfl, u, v, rfl, bu, bv, told_is fun H5 r s5 k => ?_⟩
      exact ⟨_, rfl, _, rfl, r, u, v, rfl, up241' bu, up241' bv, k, true, rfl, iteF ⟨s5, rfl⟩⟩
    rintro σ' H5 ⟨s5, rfl⟩
    have ha5 := ha4.same s5
    have hb5 := hb4.same s5
    have yt : y * t ≠ 0 := Int.ne_of_gt (Int.mul_pos ha5.n hb5.n)
    have m1 := mul40 ha5.bx hb5.by'
    have m2 := mul40 hb5.bx ha5.by'
    have m3 := mul40 ha5.by' hb5.by'
    have l1 := lt_two ha5.bx hb5.by'
    have l2 := lt_two hb5.bx ha5.by'
    have l3 := up241' (up_two (lt_two ha5.by' hb5.by'))
    -- sum, difference
    refine ⟨fun σ' H6 => Same H5 H6 ∧ σ' = [some (.ref a), some (.ref p1), some (.ref p2), some (.int x), some (.int y), some (.int z), some (.int t), some (.int n), some (.int u), some (.int v), none, none], ?_, ?_⟩
    · refine ⟨_, rfl, _, rfl, p1, p2, x, y, z, t, rfl, ha5, hb5, fr_is yt fun H6 r s6 k => ?_⟩
      refine ⟨_, rfl, _, rfl, _, _, rfl, rfl, m1, _, rfl, _, rfl, _, _, rfl, rfl, m2, _, _, rfl, rfl, _, rfl, _, rfl, _, _, rfl, rfl, m3, r, _, _, rfl, up241' (two_add l1 l2), l3, k, true, rfl, iteF ?_⟩
      refine ⟨_, rfl, _, rfl, p1, p2, x, y, z, t, rfl, ha5.same s6, hb5.same s6, fr_is yt fun H7 r s7 k => ?_⟩
      exact ⟨_, rfl, _, rfl, _, _, rfl, rfl, m1, _, rfl, _, rfl, _, _, rfl, rfl, m2, _, _, rfl, rfl, _, rfl, _, rfl, _, _, rfl, rfl, m3, r, _, _, rfl, up241' (two_sub l1 l2), l3, k, true, rfl, iteF ⟨s6.trans s7, rfl⟩⟩
    rintro σ' H6 ⟨s6, rfl⟩
    have ha6 := ha5.same s6
    have hb6 := hb5.same s6
    -- product, quotient
    refine ⟨fun σ' H7 => Same H6 H7 ∧ σ' = [some (.ref a), some (.ref p1), some (.ref p2), some (.int x), some (.int y), some (.int z), some (.int t), some (.int n), some (.int u), some (.int v), none, none], ?_, ?_⟩
    · refine ⟨_, rfl, _, rfl, p1, p2, x, y, z, t, rfl, ha6, hb6, fr_is yt fun H7 r s7 k => ?_⟩
      refine ⟨_, rfl, _, rfl, _, _, rfl, rfl, mul40 ha5.bx hb5.bx, _, rfl, _, rfl, _, _, rfl, rfl, m3, r, _, _, rfl, up241' (up_two (lt_two ha5.bx hb5.bx)), l3, k, true, rfl, iteF ?_⟩
      refine ⟨_, rfl, _, rfl, p1, p2, x, y, z, t, rfl, ha6.same s7, hb6.same s7, told_is fun H8 r s8 k => ?_⟩
      exact ⟨_, rfl, _, rfl, _, _, rfl, rfl, m1, _, rfl, _, rfl, _, _, rfl, rfl, mul40 ha5.by' hb5.bx, r, _, _, rfl, up241' (up_two l1), up241' (up_two (lt_two ha5.by' hb5.bx)), k, true, rfl, iteF ⟨s7.trans s8, rfl⟩⟩
    rintro σ' H7 ⟨s7, rfl⟩
    have ha7 := ha6.same s7
    have hb7 := hb6.same s7
    -- due
    refine ⟨_, rfl, _, rfl, x, n, rfl, ha5.bx, n1, n2, _, rfl, _, rfl, y, n, rfl, ha5.by', n1, n2, (by show 2 ≤ sizeLine; decide), fun d nd0 => ?_⟩
    have s8 := same_new (o := .tup [V.int (x ^ n.toNat), V.int (y ^ n.toNat)]) nd0
    refine ⟨fun σ' H9 => Same H7 H9 ∧ ∃ d : Addr, FrAt H9 d (dueA x y n) (dueB x y n) ∧ σ' = [some (.ref a), some (.ref p1), some (.ref p2), some (.int x), some (.int y), some (.int z), some (.int t), some (.int n), some (.int u), some (.int v), some (.ref d), none], ?_, ?_⟩
    · refine ⟨_, rfl, _, _, rfl, rfl, _, rfl, ite2 (fun e => ?_) (fun e => ?_)⟩
      · have e1 : n < 0 := of_decide_eq_true e
        refine ⟨_, rfl, _, rfl, _, _, rfl, rfl, y, 0 - n, rfl, ha5.by', by omega, by omega, _, rfl, _, rfl, _, _, rfl, rfl, x, 0 - n, rfl, ha5.bx, by omega, by omega, (by show 2 ≤ sizeLine; decide), fun d2 nd2 => ?_⟩
        refine ⟨s8.trans (same_new nd2), d2, ?_, rfl⟩
        unfold FrAt dueA dueB
        rw [if_pos e1, if_pos e1, Int.zero_sub]
        exact upd_same
      · have e1 : ¬ n < 0 := fun z => e (decide_eq_true z)
        refine ⟨s8, d, ?_, rfl⟩
        unfold FrAt dueA dueB
        rw [if_neg e1, if_neg e1]
        exact upd_same
    rintro σ' H9 ⟨s9, d, hd, rfl⟩
    have ha9 := ha7.same s9
    have hb9 := hb7.same s9
    obtain ⟨b1, b2⟩ := due_lt (x := x) (y := y) (n := n) ha5.bx ha5.by' n1 n2
    -- raised
    refine ⟨fun σ' H10 => Same H9 H10 ∧ σ' = [some (.ref a), some (.ref p1), some (.ref p2), some (.int x), some (.int y), some (.int z), some (.int t), some (.int n), some (.int u), some (.int v), some (.ref d), none], ?_, ?_⟩
    · refine ⟨_, rfl, _, rfl, p1, x, y, n, rfl, ha9, red1, n1, n2, told_is fun H10 r s10 k => ?_⟩
      exact ⟨_, rfl, d, _, 0, _, rfl, rfl, SqT.of (s10 _ _ hd), at2_0 _ _, _, rfl, d, _, 1, _, rfl, rfl, SqT.of (s10 _ _ hd), at2_1 _ _, r, _, _, rfl, b1, b2, k, true, rfl, iteF ⟨s10, rfl⟩⟩
    rintro σ' H10 ⟨s10, rfl⟩
    -- is_less
    refine ⟨_, rfl, _, rfl, p1, p2, x, y, z, t, rfl, ha9.same s10, hb9.same s10, ?_⟩
    refine ⟨_, rfl, _, _, _, _, true, rfl, .ty _, .base (.bl _), kit_ty (by decide +kernel), true, rfl, iteT ?_⟩
    refine ⟨_, rfl, _, rfl, _, rfl, _, _, rfl, rfl, m1, _, rfl, _, rfl, _, _, rfl, rfl, m2, _, _, rfl, rfl, rfl, ?_⟩
    rw [decide_eq_true (rfl : V.bl (decide (x * t < z * y)) = V.bl (decide (x * t < z * y)))]
    exact q _
end
/-! ### what the top has written; the law's own head -/
theorem all_mk {l : PySem.W.OpenLaw} {w : World} {K : PySem.W.Frag} {h : Heap} {mg : Str → Option Value} {fa : Addr} (X : K.In h) (G : h.Ns mainGlobals mg) (hfa : mg "law" = some (.ref fa))
    {od0 an0 : Option Addr} {sl0 : Array (Option Value)} {oc0 kV0 dc0 pm0 cd0 ct0 : Value} {f0 : Addr}
    (a0 : PySem.W.nsIn K mainGlobals "fraction" = some (some (.ref f0))) (l0 : K.lookup f0 = some ⟨oc0, od0, .func (PySem.W.fnOf "fraction" "fraction" (defArgs sFrac) (defBody sFrac) (defScope sFrac) .none kV0 dc0 pm0 an0 cd0 ct0), sl0⟩) (c0 : PySem.W.codeIn K cd0 "fraction" = true) (k0 : PySem.W.keepIn K (.ref f0) = true)
    {od1 an1 : Option Addr} {sl1 : Array (Option Value)} {oc1 kV1 dc1 pm1 cd1 ct1 : Value} {f1 : Addr}
    (a1 : PySem.W.nsIn K mainGlobals "added" = some (some (.ref f1))) (l1 : K.lookup f1 = some ⟨oc1, od1, .func (PySem.W.fnOf "added" "added" (defArgs sAdd) (defBody sAdd) (defScope sAdd) .none kV1 dc1 pm1 an1 cd1 ct1), sl1⟩) (c1 : PySem.W.codeIn K cd1 "added" = true) (k1 : PySem.W.keepIn K (.ref f1) = true)
    {od2 an2 : Option Addr} {sl2 : Array (Option Value)} {oc2 kV2 dc2 pm2 cd2 ct2 : Value} {f2 : Addr}
    (a2 : PySem.W.nsIn K mainGlobals "lessened" = some (some (.ref f2))) (l2 : K.lookup f2 = some ⟨oc2, od2, .func (PySem.W.fnOf "lessened" "lessened" (defArgs sLess) (defBody sLess) (defScope sLess) .none kV2 dc2 pm2 an2 cd2 ct2), sl2⟩) (c2 : PySem.W.codeIn K cd2 "lessened" = true) (k2 : PySem.W.keepIn K (.ref f2) = true)
    {od3 an3 : Option Addr} {sl3 : Array (Option Value)} {oc3 kV3 dc3 pm3 cd3 ct3 : Value} {f3 : Addr}
    (a3 : PySem.W.nsIn K mainGlobals "product" = some (some (.ref f3))) (l3 : K.lookup f3 = some ⟨oc3, od3, .func (PySem.W.fnOf "product" "product" (defArgs sProd) (defBody sProd) (defScope sProd) .none kV3 dc3 pm3 an3 cd3 ct3), sl3⟩) (c3 : PySem.W.codeIn K cd3 "product" = true) (k3 : PySem.W.keepIn K (.ref f3) = true)
    {od4 an4 : Option Addr} {sl4 : Array (Option Value)} {oc4 kV4 dc4 pm4 cd4 ct4 : Value} {f4 : Addr}
    (a4 : PySem.W.nsIn K mainGlobals "quotient" = some (some (.ref f4))) (l4 : K.lookup f4 = some ⟨oc4, od4, .func (PySem.W.fnOf "quotient" "quotient" (defArgs sQuo) (defBody sQuo) (defScope sQuo) .none kV4 dc4 pm4 an4 cd4 ct4), sl4⟩) (c4 : PySem.W.codeIn K cd4 "quotient" = true) (k4 : PySem.W.keepIn K (.ref f4) = true)
    {od5 an5 : Option Addr} {sl5 : Array (Option Value)} {oc5 kV5 dc5 pm5 cd5 ct5 : Value} {f5 : Addr}
    (a5 : PySem.W.nsIn K mainGlobals "raised" = some (some (.ref f5))) (l5 : K.lookup f5 = some ⟨oc5, od5, .func (PySem.W.fnOf "raised" "raised" (defArgs sRaised) (defBody sRaised) (defScope sRaised) .none kV5 dc5 pm5 an5 cd5 ct5), sl5⟩) (c5 : PySem.W.codeIn K cd5 "raised" = true) (k5 : PySem.W.keepIn K (.ref f5) = true)
    {od6 an6 : Option Addr} {sl6 : Array (Option Value)} {oc6 kV6 dc6 pm6 cd6 ct6 : Value} {f6 : Addr}
    (a6 : PySem.W.nsIn K mainGlobals "is_less" = some (some (.ref f6))) (l6 : K.lookup f6 = some ⟨oc6, od6, .func (PySem.W.fnOf "is_less" "is_less" (defArgs sIsLess) (defBody sIsLess) (defScope sIsLess) .none kV6 dc6 pm6 an6 cd6 ct6), sl6⟩) (c6 : PySem.W.codeIn K cd6 "is_less" = true) (k6 : PySem.W.keepIn K (.ref f6) = true)
    {od7 an7 : Option Addr} {sl7 : Array (Option Value)} {oc7 kV7 dc7 pm7 cd7 ct7 : Value} {f7 : Addr}
    (a7 : PySem.W.nsIn K mainGlobals "_whole_power" = some (some (.ref f7))) (l7 : K.lookup f7 = some ⟨oc7, od7, .func (PySem.W.fnOf "_whole_power" "_whole_power" (defArgs sWholeP) (defBody sWholeP) (defScope sWholeP) .none kV7 dc7 pm7 an7 cd7 ct7), sl7⟩) (c7 : PySem.W.codeIn K cd7 "_whole_power" = true) (k7 : PySem.W.keepIn K (.ref f7) = true)
    {od8 an8 : Option Addr} {sl8 : Array (Option Value)} {oc8 kV8 dc8 pm8 cd8 ct8 : Value} {f8 : Addr}
    (a8 : PySem.W.nsIn K mainGlobals "_together" = some (some (.ref f8))) (l8 : K.lookup f8 = some ⟨oc8, od8, .func (PySem.W.fnOf "_together" "_together" (defArgs sTog) (defBody sTog) (defScope sTog) .none kV8 dc8 pm8 an8 cd8 ct8), sl8⟩) (c8 : PySem.W.codeIn K cd8 "_together" = true) (k8 : PySem.W.keepIn K (.ref f8) = true)
    {od9 an9 : Option Addr} {sl9 : Array (Option Value)} {oc9 kV9 dc9 pm9 cd9 ct9 : Value} {f9 : Addr}
    (a9 : PySem.W.nsIn K mainGlobals "_turned" = some (some (.ref f9))) (l9 : K.lookup f9 = some ⟨oc9, od9, .func (PySem.W.fnOf "_turned" "_turned" (defArgs sTrn) (defBody sTrn) (defScope sTrn) .none kV9 dc9 pm9 an9 cd9 ct9), sl9⟩) (c9 : PySem.W.codeIn K cd9 "_turned" = true) (k9 : PySem.W.keepIn K (.ref f9) = true)
    {od10 an10 : Option Addr} {sl10 : Array (Option Value)} {oc10 kV10 dc10 pm10 cd10 ct10 : Value} {f10 : Addr}
    (a10 : PySem.W.nsIn K mainGlobals "_law_cell_at" = some (some (.ref f10))) (l10 : K.lookup f10 = some ⟨oc10, od10, .func (PySem.W.fnOf "_law_cell_at" "_law_cell_at" (defArgs sCell) (defBody sCell) (defScope sCell) .none kV10 dc10 pm10 an10 cd10 ct10), sl10⟩) (c10 : PySem.W.codeIn K cd10 "_law_cell_at" = true) (k10 : PySem.W.keepIn K (.ref f10) = true)
    {od11 an11 : Option Addr} {sl11 : Array (Option Value)} {oc11 kV11 dc11 pm11 cd11 ct11 : Value} {f11 : Addr}
    (a11 : PySem.W.nsIn K mainGlobals "_law_shared" = some (some (.ref f11))) (l11 : K.lookup f11 = some ⟨oc11, od11, .func (PySem.W.fnOf "_law_shared" "_law_shared" (defArgs sShared) (defBody sShared) (defScope sShared) .none kV11 dc11 pm11 an11 cd11 ct11), sl11⟩) (c11 : PySem.W.codeIn K cd11 "_law_shared" = true) (k11 : PySem.W.keepIn K (.ref f11) = true)
    {od12 an12 : Option Addr} {sl12 : Array (Option Value)} {oc12 kV12 dc12 pm12 cd12 ct12 : Value} {f12 : Addr}
    (a12 : PySem.W.nsIn K mainGlobals "_law_lowest" = some (some (.ref f12))) (l12 : K.lookup f12 = some ⟨oc12, od12, .func (PySem.W.fnOf "_law_lowest" "_law_lowest" (defArgs sLowest) (defBody sLowest) (defScope sLowest) .none kV12 dc12 pm12 an12 cd12 ct12), sl12⟩) (c12 : PySem.W.codeIn K cd12 "_law_lowest" = true) (k12 : PySem.W.keepIn K (.ref f12) = true)
    {od13 an13 : Option Addr} {sl13 : Array (Option Value)} {oc13 kV13 dc13 pm13 cd13 ct13 : Value} {f13 : Addr}
    (a13 : PySem.W.nsIn K mainGlobals "_law_number" = some (some (.ref f13))) (l13 : K.lookup f13 = some ⟨oc13, od13, .func (PySem.W.fnOf "_law_number" "_law_number" (defArgs sNumber) (defBody sNumber) (defScope sNumber) .none kV13 dc13 pm13 an13 cd13 ct13), sl13⟩) (c13 : PySem.W.codeIn K cd13 "_law_number" = true) (k13 : PySem.W.keepIn K (.ref f13) = true)
    {od14 an14 : Option Addr} {sl14 : Array (Option Value)} {oc14 kV14 dc14 pm14 cd14 ct14 : Value} {f14 : Addr}
    (a14 : PySem.W.nsIn K mainGlobals "_law_alone" = some (some (.ref f14))) (l14 : K.lookup f14 = some ⟨oc14, od14, .func (PySem.W.fnOf "_law_alone" "_law_alone" (defArgs sAlone) (defBody sAlone) (defScope sAlone) .none kV14 dc14 pm14 an14 cd14 ct14), sl14⟩) (c14 : PySem.W.codeIn K cd14 "_law_alone" = true) (k14 : PySem.W.keepIn K (.ref f14) = true)
    {od15 an15 : Option Addr} {sl15 : Array (Option Value)} {oc15 kV15 dc15 pm15 cd15 ct15 : Value} {f15 : Addr}
    (a15 : PySem.W.nsIn K mainGlobals "_law_quotient" = some (some (.ref f15))) (l15 : K.lookup f15 = some ⟨oc15, od15, .func (PySem.W.fnOf "_law_quotient" "_law_quotient" (defArgs sLQuo) (defBody sLQuo) (defScope sLQuo) .none kV15 dc15 pm15 an15 cd15 ct15), sl15⟩) (c15 : PySem.W.codeIn K cd15 "_law_quotient" = true) (k15 : PySem.W.keepIn K (.ref f15) = true)
    {od16 an16 : Option Addr} {sl16 : Array (Option Value)} {oc16 kV16 dc16 pm16 cd16 ct16 : Value} {f16 : Addr}
    (a16 : PySem.W.nsIn K mainGlobals "_law_raised" = some (some (.ref f16))) (l16 : K.lookup f16 = some ⟨oc16, od16, .func (PySem.W.fnOf "_law_raised" "_law_raised" (defArgs sLRaised) (defBody sLRaised) (defScope sLRaised) .none kV16 dc16 pm16 an16 cd16 ct16), sl16⟩) (c16 : PySem.W.codeIn K cd16 "_law_raised" = true) (k16 : PySem.W.keepIn K (.ref f16) = true)
    {od17 an17 : Option Addr} {sl17 : Array (Option Value)} {oc17 kV17 dc17 pm17 cd17 ct17 : Value} {f17 : Addr}
    (a17 : PySem.W.nsIn K mainGlobals "_law_fraction" = some (some (.ref f17))) (l17 : K.lookup f17 = some ⟨oc17, od17, .func (PySem.W.fnOf "_law_fraction" "_law_fraction" (defArgs sLFrac) (defBody sLFrac) (defScope sLFrac) .none kV17 dc17 pm17 an17 cd17 ct17), sl17⟩) (c17 : PySem.W.codeIn K cd17 "_law_fraction" = true) (k17 : PySem.W.keepIn K (.ref f17) = true)
    {od18 an18 : Option Addr} {sl18 : Array (Option Value)} {oc18 kV18 dc18 pm18 cd18 ct18 : Value} {f18 : Addr}
    (a18 : PySem.W.nsIn K mainGlobals "_law_is" = some (some (.ref f18))) (l18 : K.lookup f18 = some ⟨oc18, od18, .func (PySem.W.fnOf "_law_is" "_law_is" (defArgs sLIs) (defBody sLIs) (defScope sLIs) .none kV18 dc18 pm18 an18 cd18 ct18), sl18⟩) (c18 : PySem.W.codeIn K cd18 "_law_is" = true) (k18 : PySem.W.keepIn K (.ref f18) = true)
    {od19 an19 : Option Addr} {sl19 : Array (Option Value)} {oc19 kV19 dc19 pm19 cd19 ct19 : Value} {f19 : Addr}
    (a19 : PySem.W.nsIn K mainGlobals "_law_times_itself" = some (some (.ref f19))) (l19 : K.lookup f19 = some ⟨oc19, od19, .func (PySem.W.fnOf "_law_times_itself" "_law_times_itself" (defArgs sTimesI) (defBody sTimesI) (defScope sTimesI) .none kV19 dc19 pm19 an19 cd19 ct19), sl19⟩) (c19 : PySem.W.codeIn K cd19 "_law_times_itself" = true) (k19 : PySem.W.keepIn K (.ref f19) = true)
    {od20 an20 : Option Addr} {sl20 : Array (Option Value)} {oc20 kV20 dc20 pm20 cd20 ct20 : Value} {f20 : Addr}
    (a20 : PySem.W.nsIn K mainGlobals "law" = some (some (.ref f20))) (l20 : K.lookup f20 = some ⟨oc20, od20, .func (PySem.W.fnOf "law" "law" (defArgs sLaw) (defBody sLaw) (defScope sLaw) .none kV20 dc20 pm20 an20 cd20 ct20), sl20⟩) (c20 : PySem.W.codeIn K cd20 "law" = true) (k20 : PySem.W.keepIn K (.ref f20) = true)
    (z0 : PySem.W.nsIn K mainGlobals "len" = some none)
    (z1 : PySem.W.nsIn K mainGlobals "range" = some none)
    (z2 : PySem.W.nsIn K mainGlobals "reversed" = some none)
    (z3 : PySem.W.nsIn K mainGlobals "abs" = some none)
    (z4 : PySem.W.nsIn K mainGlobals "tuple" = some none)
    (z5 : PySem.W.nsIn K mainGlobals "bool" = some none)
    (z6 : PySem.W.nsIn K mainGlobals "isinstance" = some none)
    (z7 : PySem.W.nsIn K mainGlobals "int" = some none)
    (z8 : PySem.W.nsIn K mainGlobals "ValueError" = some none)
    (gg : PySem.W.nsIn K mainGlobals "gcd" = some (some (.builtin "math.gcd")))
    {B M N U Z : Addr}
    (eB : PySem.W.nsIn K mainGlobals "ByNought" = some (some (.ref B)))
    (eM : PySem.W.nsIn K mainGlobals "MeasureError" = some (some (.ref M)))
    (eN : PySem.W.nsIn K mainGlobals "NoFit" = some (some (.ref N)))
    (eU : PySem.W.nsIn K mainGlobals "Unlike" = some (some (.ref U)))
    (eZ : PySem.W.nsIn K mainGlobals "NoValue" = some (some (.ref Z)))
    (x1 : PySem.W.excIn K B [.type "ValueError", .type "Exception", .type "BaseException", .type "object"] "ValueError.__new__" = true)
    (x2 : PySem.W.keepIn K (.ref B) = true)
    (x3 : PySem.W.subIn K (.ref B) (.type "BaseException") = some true)
    (x4 : PySem.W.typeIn K (.ref B) = some (.type "type"))
    (y1 : PySem.W.findIn K (.ref B) "__getattribute__" = some (some (.builtin "BaseException.__getattribute__")))
    (y2 : PySem.W.findIn K (.ref B) "__getattr__" = some none)
    (y3 : PySem.W.hasDictIn K B = true)
    (y4 : PySem.W.findIn K (.ref B) "__class__" = some (some (.builtin "object.__class__")))
    (y5 : PySem.W.specialIn K (.builtin "object.__class__") "__get__" = some (some (.builtin "getset_descriptor.__get__")))
    (y6 : PySem.W.takesIn K (.builtin "object.__class__") = some true)
    (y7 : PySem.W.mroIn K B (.type "object") = some true)
    (q1 : PySem.W.kitOne K (.ref B) (.ref B) = some true)
    (q2 : PySem.W.kitOne K (.ref B) (.ref M) = some true)
    (q3 : PySem.W.kitOne K (.ref B) (.type "ValueError") = some true)
    (q4 : PySem.W.kitOne K (.ref B) (.ref N) = some false)
    (q5 : PySem.W.kitOne K (.ref B) (.ref U) = some false)
    (q6 : PySem.W.kitOne K (.ref B) (.ref Z) = some false)
    (m1 : PySem.W.subIn K (.ref M) (.type "BaseException") = some true)
    (m2 : PySem.W.hasDictIn K M = true)
    (m3 : PySem.W.typeIn K (.ref M) = some (.type "type"))
    (m4 : PySem.W.subIn K (.ref B) (.ref M) = some true) :
    ∃ fd : FuncData, (∀ (s : Shared) (v : Value), BindsTo s fd ⟨[v], []⟩ [("_law_script", v)]) ∧ ∀ base : Heap, K.In base → base.Ns mainGlobals mg → FnOk l.prog w K mg base CX0 4 fa fd ["_law_script"] (spLaw K) := by
  have e := hfa.symm.trans (PySem.W.mg_of X G a20)
  cases e
  have KK : Kinds K mg B M N U Z := ⟨⟨⟨y1, y2, x3, y3, y4, y5, y6, y7⟩, q1, q2, q3, q4, q5, q6, PySem.W.exm_ref m1 m2 m3 m4⟩, ⟨x1, PySem.W.mg_of X G eB, x2, x3, x4⟩, PySem.W.mg_of X G eM, PySem.W.mg_of X G eN, PySem.W.mg_of X G eU, PySem.W.mg_of X G eZ, PySem.W.mg_none_of X G z8, PySem.W.mg_none_of X G z6, PySem.W.mg_none_of X G z7⟩
  have T : Txt K mg B M N U Z := ⟨f0, f1, f2, f3, f4, f5, f6, f7, f8, f9, f10, f11, f12, f13, f14, f15, f16, f17, f18, f19, _, _, _, _, _, _, _, _, _, _, _, _, _, _, _, _, _, _, _, _, fun_mk l0 c0 k0, fun_mk l1 c1 k1, fun_mk l2 c2 k2, fun_mk l3 c3 k3, fun_mk l4 c4 k4, fun_mk l5 c5 k5, fun_mk l6 c6 k6, fun_mk l7 c7 k7, fun_mk l8 c8 k8, fun_mk l9 c9 k9, fun_mk l10 c10 k10, fun_mk l11 c11 k11, fun_mk l12 c12 k12, fun_mk l13 c13 k13, fun_mk l14 c14 k14, fun_mk l15 c15 k15, fun_mk l16 c16 k16, fun_mk l17 c17 k17, fun_mk l18 c18 k18, fun_mk l19 c19 k19, PySem.W.mg_of X G a0, PySem.W.mg_of X G a1, PySem.W.mg_of X G a2, PySem.W.mg_of X G a3, PySem.W.mg_of X G a4, PySem.W.mg_of X G a5, PySem.W.mg_of X G a6, PySem.W.mg_of X G a7, PySem.W.mg_of X G a8, PySem.W.mg_of X G a9, PySem.W.mg_of X G a10, PySem.W.mg_of X G a11, PySem.W.mg_of X G a12, PySem.W.mg_of X G a13, PySem.W.mg_of X G a14, PySem.W.mg_of X G a15, PySem.W.mg_of X G a16, PySem.W.mg_of X G a17, PySem.W.mg_of X G a18, PySem.W.mg_of X G a19, PySem.W.mg_none_of X G z0, PySem.W.mg_none_of X G z1, PySem.W.mg_none_of X G z2, PySem.W.mg_none_of X G z3, PySem.W.mg_none_of X G z4, PySem.W.mg_none_of X G z5, PySem.W.mg_none_of X G z6, PySem.W.mg_none_of X G z7, PySem.W.mg_none_of X G z8, PySem.W.mg_of X G gg, KK⟩
  have FL := fun_mk (st := sLaw) l20 c20 k20
  exact ⟨_, fun s v => .of_eq rfl, fun base _ _ => ok_law FL T⟩
end MK
open PySem PySem.W PyProof.Rows
set_option maxHeartbeats 0 in
theorem PySem.Challenge.cw_measurekind_k03_fractions_reckoned_holds : PySem.Challenge.rw_measurekind_k03_fractions_reckoned.Holds := by
  w_on; o_law; k_head; (case hw => w_witness2)
  k_fill
  refine L2.walk_of (l := PySem.Challenge.rw_measurekind_k03_fractions_reckoned) (n := 63) (k := 4) (x := "_law_script") (CX := fun _ => L2.CX0) (sp := fun w => MK.spLaw _) rfl (by decide) rfl ⟨rfl, by decide, by decide⟩ (fun w h Y => PySem.W.kIn_of Y) ?F (fun _ _ a ns hl _ hS => ⟨a, ns, rfl, hS, fun _ => rfl⟩) (fun _ _ _ _ _ h => h)
  case F =>
    intro w mg fa h KX G hmg
    refine' MK.all_mk KX G hmg ?a0 ?l0 ?c0 ?k0 ?a1 ?l1 ?c1 ?k1 ?a2 ?l2 ?c2 ?k2 ?a3 ?l3 ?c3 ?k3 ?a4 ?l4 ?c4 ?k4 ?a5 ?l5 ?c5 ?k5 ?a6 ?l6 ?c6 ?k6 ?a7 ?l7 ?c7 ?k7 ?a8 ?l8 ?c8 ?k8 ?a9 ?l9 ?c9 ?k9 ?a10 ?l10 ?c10 ?k10 ?a11 ?l11 ?c11 ?k11 ?a12 ?l12 ?c12 ?k12 ?a13 ?l13 ?c13 ?k13 ?a14 ?l14 ?c14 ?k14 ?a15 ?l15 ?c15 ?k15 ?a16 ?l16 ?c16 ?k16 ?a17 ?l17 ?c17 ?k17 ?a18 ?l18 ?c18 ?k18 ?a19 ?l19 ?c19 ?k19 ?a20 ?l20 ?c20 ?k20 ?z0 ?z1 ?z2 ?z3 ?z4 ?z5 ?z6 ?z7 ?z8 ?gg ?eB ?eM ?eN ?eU ?eZ ?x1 ?x2 ?x3 ?x4 ?y1 ?y2 ?y3 ?y4 ?y5 ?y6 ?y7 ?q1 ?q2 ?q3 ?q4 ?q5 ?q6 ?m1 ?m2 ?m3 ?m4
    (case a0 => k_is); (case l0 => k_is); (case c0 => k_is); (case k0 => k_is)
    (case a1 => k_is); (case l1 => k_is); (case c1 => k_is); (case k1 => k_is)
    (case a2 => k_is); (case l2 => k_is); (case c2 => k_is); (case k2 => k_is)
    (case a3 => k_is); (case l3 => k_is); (case c3 => k_is); (case k3 => k_is)
    (case a4 => k_is); (case l4 => k_is); (case c4 => k_is); (case k4 => k_is)
    (case a5 => k_is); (case l5 => k_is); (case c5 => k_is); (case k5 => k_is)
    (case a6 => k_is); (case l6 => k_is); (case c6 => k_is); (case k6 => k_is)
    (case a7 => k_is); (case l7 => k_is); (case c7 => k_is); (case k7 => k_is)
    (case a8 => k_is); (case l8 => k_is); (case c8 => k_is); (case k8 => k_is)
    (case a9 => k_is); (case l9 => k_is); (case c9 => k_is); (case k9 => k_is)
    (case a10 => k_is); (case l10 => k_is); (case c10 => k_is); (case k10 => k_is)
    (case a11 => k_is); (case l11 => k_is); (case c11 => k_is); (case k11 => k_is)
    (case a12 => k_is); (case l12 => k_is); (case c12 => k_is); (case k12 => k_is)
    (case a13 => k_is); (case l13 => k_is); (case c13 => k_is); (case k13 => k_is)
    (case a14 => k_is); (case l14 => k_is); (case c14 => k_is); (case k14 => k_is)
    (case a15 => k_is); (case l15 => k_is); (case c15 => k_is); (case k15 => k_is)
    (case a16 => k_is); (case l16 => k_is); (case c16 => k_is); (case k16 => k_is)
    (case a17 => k_is); (case l17 => k_is); (case c17 => k_is); (case k17 => k_is)
    (case a18 => k_is); (case l18 => k_is); (case c18 => k_is); (case k18 => k_is)
    (case a19 => k_is); (case l19 => k_is); (case c19 => k_is); (case k19 => k_is)
    (case a20 => k_is); (case l20 => k_is); (case c20 => k_is); (case k20 => k_is)
    (case z0 => k_is); (case z1 => k_is); (case z2 => k_is); (case z3 => k_is); (case z4 => k_is); (case z5 => k_is); (case z6 => k_is); (case z7 => k_is); (case z8 => k_is)
    (case gg => k_is)
    (case eB => k_is); (case eM => k_is); (case eN => k_is); (case eU => k_is); (case eZ => k_is)
    (case x1 => k_exc)
    (case x2 => k_is); (case x3 => k_is); (case x4 => k_is); (case y1 => k_is); (case y2 => k_is); (case y3 => k_is); (case y4 => k_is); (case y5 => k_is); (case y6 => k_is); (case y7 => k_is); (case q1 => kit_is); (case q2 => kit_is); (case q3 => kit_is); (case q4 => kit_is); (case q5 => kit_is); (case q6 => kit_is); (case m1 => k_is); (case m2 => k_is); (case m3 => k_is); (case m4 => k_is)


