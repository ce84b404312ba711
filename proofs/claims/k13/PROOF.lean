import PyProof.Rows.All
import Wide.All
import OpenK.AllK
import Wide.FinOn
import HandS.ForMost
import HandS.More
import HandS.Wide
import HandS.WideBits
import HandS.SortRule
import HandS.SortInts
import PyProof.StrOps2
import PyProof.Rows.SortShellAny
import HandS.ForExc
import HandS.ExcCtx
import HandS.HotCalls
import HandS.ExcIs
import HandS.Gcd
import HandS.RevRange
import KE.KDictPairs
import HandS.TupSets
import HandS.SetTxt0
import HandS.SetBool
import HandS.Small
import HandS.FStr
import HandS.DictComp
import HandS.Style
import HandS.FStrTup
import PyProof.ReprNest
import PyProof.FitsInt
import HandS.ListEq
import HandS.DeepEq
import PyProof.NeKinds
import KE.GoesRaise
import HandS.IsInst
import HandS.Evl
import HandS.TupAny
import HandS.Walk
import HandS.NoneIn
import PySem.Challenge.RW_measurekind_k13_units_changed
set_option Elab.async false
set_option linter.all false
/-! Measures as lists of pairs: association lists, sums by letter, the one sorted list of a sum. Plain Lean. -/
namespace MK
open PySem

/-! ### association lists -/
section
variable {α : Type}
def lk : List (Str × α) → Str → Option α
  | [], _ => none
  | p :: r, l => if p.1 = l then some p.2 else lk r l
def put : List (Str × α) → Str → α → List (Str × α)
  | [], l, v => [(l, v)]
  | p :: r, l, v => if p.1 = l then (p.1, v) :: r else p :: put r l v
theorem lk_put : ∀ (m : List (Str × α)) (l j : Str) (v : α), lk (put m l v) j = if j = l then some v else lk m j
  | [], l, j, v => by
    by_cases e : l = j
    · simp [put, lk, e]
    · have e' : ¬ j = l := fun z => e z.symm
      simp [put, lk, e, e']
  | p :: r, l, j, v => by
    have ih := lk_put r l j v
    unfold put
    by_cases e : p.1 = l
    · rw [if_pos e]
      by_cases e2 : p.1 = j
      · have : j = l := e2.symm.trans e
        simp [lk, e2, this]
      · have : ¬ j = l := fun z => e2 (e.trans z.symm)
        simp [lk, e2, this]
    · rw [if_neg e]
      by_cases e2 : p.1 = j
      · have : ¬ j = l := fun z => e (e2.trans z)
        simp [lk, e2, this]
      · simp [lk, e2, ih]
theorem put_keys : ∀ (m : List (Str × α)) (l : Str) (v : α), (∀ k, k ∈ (put m l v).map (·.1) ↔ (k = l ∨ k ∈ m.map (·.1)))
  | [], l, v, k => by simp [put]
  | p :: r, l, v, k => by
    have ih := put_keys r l v k
    unfold put
    by_cases e : p.1 = l
    · rw [if_pos e]
      simp only [List.map_cons, List.mem_cons]
      rw [e]
      constructor
      · intro h; rcases h with h | h
        · exact .inl h
        · exact .inr (.inr h)
      · intro h; rcases h with h | h | h
        · exact .inl h
        · exact .inl h
        · exact .inr h
    · rw [if_neg e]
      simp only [List.map_cons, List.mem_cons]
      rw [ih]
      constructor
      · intro h; rcases h with h | h | h
        · exact .inr (.inl h)
        · exact .inl h
        · exact .inr (.inr h)
      · intro h; rcases h with h | h | h
        · exact .inr (.inl h)
        · exact .inl h
        · exact .inr (.inr h)
theorem put_nodup : ∀ {m : List (Str × α)} (l : Str) (v : α), (m.map (·.1)).Nodup → ((put m l v).map (·.1)).Nodup
  | [], l, v, _ => by simp [put]
  | p :: r, l, v, h => by
    have h : (p.1 :: r.map (·.1)).Nodup := h
    obtain ⟨h1, h2⟩ := List.nodup_cons.mp h
    unfold put
    by_cases e : p.1 = l
    · rw [if_pos e]
      exact h
    · rw [if_neg e]
      show (p.1 :: (put r l v).map (·.1)).Nodup
      refine List.nodup_cons.mpr ⟨fun q => ?_, put_nodup l v h2⟩
      rcases (put_keys r l v p.1).mp q with z | z
      · exact e z
      · exact h1 z
theorem put_len : ∀ (m : List (Str × α)) (l : Str) (v : α), (put m l v).length ≤ m.length + 1
  | [], l, v => by simp [put]
  | p :: r, l, v => by
    have ih := put_len r l v
    unfold put
    by_cases e : p.1 = l
    · rw [if_pos e]; simp
    · rw [if_neg e]; simp only [List.length_cons]; omega
theorem put_mem : ∀ {m : List (Str × α)} {l : Str} {v : α} {q : Str × α}, q ∈ put m l v → q = (l, v) ∨ q ∈ m
  | [], l, v, q, h => by
    simp [put] at h
    exact .inl h
  | p :: r, l, v, q, h => by
    unfold put at h
    by_cases e : p.1 = l
    · rw [if_pos e] at h
      rcases List.mem_cons.mp h with z | z
      · exact .inl (by rw [z, e])
      · exact .inr (List.mem_cons_of_mem _ z)
    · rw [if_neg e] at h
      rcases List.mem_cons.mp h with z | z
      · exact .inr (by rw [z]; exact List.mem_cons_self)
      · rcases put_mem z with y | y
        · exact .inl y
        · exact .inr (List.mem_cons_of_mem _ y)
theorem lk_of_mem : ∀ {m : List (Str × α)} {l : Str} {v : α}, (m.map (·.1)).Nodup → (l, v) ∈ m → lk m l = some v
  | p :: r, l, v, h, q => by
    have h : (p.1 :: r.map (·.1)).Nodup := h
    obtain ⟨h1, h2⟩ := List.nodup_cons.mp h
    unfold lk
    rcases List.mem_cons.mp q with z | z
    · rw [← z]
      simp
    · have ne : ¬ p.1 = l := fun e => h1 (by rw [e]; exact List.mem_map.mpr ⟨_, z, rfl⟩)
      rw [if_neg ne]
      exact lk_of_mem h2 z
theorem mem_of_lk : ∀ {m : List (Str × α)} {l : Str} {v : α}, lk m l = some v → (l, v) ∈ m
  | [], l, v, h => by simp [lk] at h
  | p :: r, l, v, h => by
    unfold lk at h
    by_cases e : p.1 = l
    · rw [if_pos e] at h
      have : p.2 = v := Option.some.inj h
      rw [← e, ← this]
      exact List.mem_cons_self
    · rw [if_neg e] at h
      exact List.mem_cons_of_mem _ (mem_of_lk h)
theorem lk_none : ∀ {m : List (Str × α)} {l : Str}, lk m l = none ↔ ¬ l ∈ m.map (·.1)
  | [], l => by simp [lk]
  | p :: r, l => by
    have ih := lk_none (m := r) (l := l)
    unfold lk
    by_cases e : p.1 = l
    · simp [e]
    · rw [if_neg e, ih]
      simp only [List.map_cons, List.mem_cons]
      constructor
      · intro h z
        rcases z with z | z
        · exact e z.symm
        · exact h z
      · exact fun h z => h (.inr z)
end

/-! ### powers by letters -/
abbrev Ms := List (Str × Int)
def at0 (m : Ms) (l : Str) : Int := (lk m l).getD 0
theorem at0_nil (l : Str) : at0 [] l = 0 := rfl
theorem at0_put (m : Ms) (l j : Str) (v : Int) : at0 (put m l v) j = if j = l then v else at0 m j := by
  unfold at0
  rw [lk_put]
  by_cases e : j = l
  · rw [if_pos e, if_pos e]; rfl
  · rw [if_neg e, if_neg e]
/-- the sum of what stands at a letter, however often -/
def sumAt : Ms → Str → Int
  | [], _ => 0
  | p :: r, j => (if p.1 = j then p.2 else 0) + sumAt r j
theorem sumAt_append : ∀ (a b : Ms) (j : Str), sumAt (a ++ b) j = sumAt a j + sumAt b j
  | [], b, j => by simp [sumAt]
  | p :: r, b, j => by
    have ih := sumAt_append r b j
    show (if p.1 = j then p.2 else 0) + sumAt (r ++ b) j = (if p.1 = j then p.2 else 0) + sumAt r j + sumAt b j
    omega
theorem sumAt_one (l : Str) (n : Int) (j : Str) : sumAt [(l, n)] j = if l = j then n else 0 := by
  show (if l = j then n else 0) + 0 = _
  omega
theorem sumAt_no : ∀ {m : Ms} {j : Str}, ¬ j ∈ m.map (·.1) → sumAt m j = 0
  | [], _, _ => rfl
  | p :: r, j, h => by
    have h1 : ¬ p.1 = j := fun e => h (by rw [← e]; exact List.mem_cons_self)
    have h2 : ¬ j ∈ r.map (·.1) := fun e => h (List.mem_cons_of_mem _ e)
    show (if p.1 = j then p.2 else 0) + sumAt r j = 0
    rw [if_neg h1, sumAt_no h2]
    rfl
theorem sumAt_at0 : ∀ {m : Ms} (j : Str), (m.map (·.1)).Nodup → sumAt m j = at0 m j
  | [], _, _ => rfl
  | p :: r, j, h => by
    have h : (p.1 :: r.map (·.1)).Nodup := h
    obtain ⟨h1, h2⟩ := List.nodup_cons.mp h
    show (if p.1 = j then p.2 else 0) + sumAt r j = at0 (p :: r) j
    by_cases e : p.1 = j
    · rw [if_pos e, sumAt_no (by rw [← e]; exact h1)]
      unfold at0 lk
      rw [if_pos e]
      show p.2 + 0 = p.2
      omega
    · rw [if_neg e, sumAt_at0 j h2]
      have q : at0 (p :: r) j = at0 r j := by
        show (if p.1 = j then some p.2 else lk r j).getD 0 = _
        rw [if_neg e]
        rfl
      rw [q]
      omega
def scaled (m : Ms) (n : Int) : Ms := m.map fun p => (p.1, p.2 * n)
theorem sumAt_scaled : ∀ (m : Ms) (n : Int) (j : Str), sumAt (scaled m n) j = sumAt m j * n
  | [], n, j => by show (0 : Int) = 0 * n; omega
  | p :: r, n, j => by
    have ih := sumAt_scaled r n j
    show (if p.1 = j then p.2 * n else 0) + sumAt (scaled r n) j = ((if p.1 = j then p.2 else 0) + sumAt r j) * n
    rw [ih, Int.add_mul]
    by_cases e : p.1 = j
    · rw [if_pos e, if_pos e]
    · rw [if_neg e, if_neg e]; omega
theorem nodup_of_map {β γ : Type} {g : β → γ} {l : List β} (h : (l.map g).Nodup) : l.Nodup := (List.pairwise_map.mp h).imp fun q e => q (congrArg g e)
theorem at0_mem {m : Ms} {j : Str} (h : at0 m j ≠ 0) : (j, at0 m j) ∈ m := by
  unfold at0 at h ⊢
  cases e : lk m j with
  | none => rw [e] at h; exact absurd rfl h
  | some v => exact mem_of_lk e
theorem sumAt_mem {m : Ms} {j : Str} (h : sumAt m j ≠ 0) : j ∈ m.map (·.1) := Decidable.byContradiction fun q => h (sumAt_no q)

/-! ### the order of texts -/
abbrev sLt (a b : Str) : Prop := a.cps.toList < b.cps.toList
theorem sLt_irr (a : Str) : ¬ sLt a a := List.lt_irrefl _
theorem sLt_tr {a b c : Str} (h : sLt a b) (h2 : sLt b c) : sLt a c := List.lt_trans h h2
theorem str_ext {a b : Str} (h : a.cps.toList = b.cps.toList) : a = b := by
  cases a; cases b
  simp at h
  rw [h]
theorem sLt_tri {a b : Str} (h : ¬ sLt a b) (h2 : ¬ sLt b a) : a = b := str_ext (List.le_antisymm (List.not_lt.mp h2) (List.not_lt.mp h))

/-! ### the measures in their one form -/
def Ris (m : List (Str × Int)) : Prop := m.Pairwise fun p q => sLt p.1 q.1
structure Can (m : Ms) : Prop where
  ris : Ris m
  nz : ∀ p ∈ m, p.2 ≠ 0
theorem Ris.nodup {m : Ms} (h : Ris m) : (m.map (·.1)).Nodup := by
  refine List.pairwise_map.mpr (h.imp fun {a b} q => ?_)
  intro e
  rw [e] at q
  exact sLt_irr _ q
theorem ris_ext : ∀ {a b : Ms}, Ris a → Ris b → (∀ p, p ∈ a ↔ p ∈ b) → a = b
  | [], [], _, _, _ => rfl
  | [], p :: r, _, _, h => absurd ((h p).mpr List.mem_cons_self) (by simp)
  | p :: r, [], _, _, h => absurd ((h p).mp List.mem_cons_self) (by simp)
  | p :: r, q :: t, ha, hb, h => by
    obtain ⟨a1, a2⟩ := List.pairwise_cons.mp ha
    obtain ⟨b1, b2⟩ := List.pairwise_cons.mp hb
    have e : p = q := by
      rcases List.mem_cons.mp ((h p).mp List.mem_cons_self) with z | z
      · exact z
      · rcases List.mem_cons.mp ((h q).mpr List.mem_cons_self) with y | y
        · exact y.symm
        · exact absurd (sLt_tr (b1 p z) (a1 q y)) (sLt_irr _)
    subst e
    refine congrArg (p :: ·) (ris_ext a2 b2 fun x => ?_)
    constructor
    · intro hx
      rcases List.mem_cons.mp ((h x).mp (List.mem_cons_of_mem _ hx)) with z | z
      · exact absurd (z ▸ a1 x hx) (sLt_irr _)
      · exact z
    · intro hx
      rcases List.mem_cons.mp ((h x).mpr (List.mem_cons_of_mem _ hx)) with z | z
      · exact absurd (z ▸ b1 x hx) (sLt_irr _)
      · exact z
theorem Can.mem {m : Ms} (h : Can m) (l : Str) (n : Int) : (l, n) ∈ m ↔ n ≠ 0 ∧ at0 m l = n := by
  constructor
  · intro q
    refine ⟨h.nz _ q, ?_⟩
    unfold at0
    rw [lk_of_mem h.ris.nodup q]
    rfl
  · rintro ⟨a, b⟩
    rw [← b]
    exact at0_mem (by rw [b]; exact a)
theorem can_ext {a b : Ms} (ha : Can a) (hb : Can b) (h : ∀ j, at0 a j = at0 b j) : a = b :=
  ris_ext ha.ris hb.ris fun p => by
    rw [show p = (p.1, p.2) from rfl, ha.mem, hb.mem, h]
/-- what the program makes of a dict: its pairs that are not nought, in their order -/
theorem made_prog {d r : Ms} (hd : (d.map (·.1)).Nodup) (hr : Ris r) (hp : ∀ p, p ∈ r ↔ p ∈ d ∧ p.2 ≠ 0) : Can r ∧ ∀ j, at0 r j = at0 d j := by
  have hc : Can r := ⟨hr, fun p q => ((hp p).mp q).2⟩
  refine ⟨hc, fun j => ?_⟩
  by_cases e : at0 d j = 0
  · rw [e]
    refine Decidable.byContradiction fun z => ?_
    have q := (hp _).mp (at0_mem z)
    have q2 : at0 d j = at0 r j := by
      show (lk d j).getD 0 = _
      rw [lk_of_mem hd q.1]
      rfl
    rw [e] at q2
    exact z q2.symm
  · have q := (hp (j, at0 d j)).mpr ⟨at0_mem e, e⟩
    exact ((hc.mem j _).mp q).2
theorem can_nil : Can [] := ⟨List.Pairwise.nil, fun _ h => absurd h (by simp)⟩
/-- the law's reckoning of the same: sorted letters, then their numbers -/
def byKeys (d : Ms) (ks : List Str) : Ms := (ks.filter fun k => decide (at0 d k ≠ 0)).map fun k => (k, at0 d k)
theorem made_law {d : Ms} {ks : List Str} (hd : (d.map (·.1)).Nodup) (hk : ks.Perm (d.map (·.1))) (hs : ks.Pairwise fun a b => ¬ sLt b a) : Can (byKeys d ks) ∧ ∀ j, at0 (byKeys d ks) j = at0 d j := by
  have hn : ks.Nodup := hk.nodup_iff.mpr hd
  have hst : ks.Pairwise sLt := by
    refine (hs.and hn).imp ?_
    rintro a b ⟨h1, h2⟩
    refine Decidable.byContradiction fun h3 => h2 (sLt_tri h3 h1)
  refine made_prog hd ?_ fun p => ?_
  · unfold byKeys
    exact List.pairwise_map.mpr (hst.filter _)
  · unfold byKeys
    rw [List.mem_map]
    constructor
    · rintro ⟨k, q, e⟩
      obtain ⟨q1, q2⟩ := List.mem_filter.mp q
      have q3 : at0 d k ≠ 0 := of_decide_eq_true q2
      rw [← e]
      exact ⟨at0_mem q3, q3⟩
    · rintro ⟨a, b⟩
      have e : at0 d p.1 = p.2 := by
        show (lk d p.1).getD 0 = _
        rw [lk_of_mem hd a]
        rfl
      refine ⟨p.1, List.mem_filter.mpr ⟨hk.mem_iff.mpr (List.mem_map.mpr ⟨p, a, rfl⟩), decide_eq_true (by rw [e]; exact b)⟩, by rw [e]⟩

/-! ### bounds, letters -/
/-- a text of signs that there are -/
def Ok (z : Str) : Prop := ∀ c ∈ z.cps.toList, c < 1114112
/-- .. and not empty -/
def LtOk (z : Str) : Prop := z.cps.toList ≠ [] ∧ Ok z
theorem ok_app {a b : Str} (ha : Ok a) (hb : Ok b) : Ok (a ++ b) := fun c hc => by
  have hc : c ∈ (a.cps ++ b.cps).toList := hc
  rw [Array.toList_append] at hc
  rcases List.mem_append.mp hc with h | h
  · exact ha c h
  · exact hb c h
theorem ok_one {c : Nat} (h : c < 1114112) : Ok ⟨#[c]⟩ := fun x hx => by
  have : x = c := by simpa using hx
  rw [this]
  exact h
theorem ok_string (s : String) : Ok (Str.ofString s) := fun c hc => by
  rw [Str.ofString_eq_toList] at hc
  have hc : c ∈ s.toList.map Char.toNat := by simpa using hc
  obtain ⟨d, _, e⟩ := List.mem_map.mp hc
  have v : d.val.toNat < 0xd800 ∨ (0xdfff < d.val.toNat ∧ d.val.toNat < 0x110000) := d.valid
  have e2 : d.val.toNat = c := e
  omega
theorem ok_fold (c : Array Nat) (hc : ∀ x ∈ c.toList, x < 1114112) : ∀ (k : Nat) (acc : Array Nat), (∀ x ∈ acc.toList, x < 1114112) → ∀ x ∈ ((List.replicate k c).foldl (· ++ ·) acc).toList, x < 1114112
  | 0, acc, h => h
  | k + 1, acc, h => by
    rw [List.replicate_succ, List.foldl_cons]
    refine ok_fold c hc k _ fun x hx => ?_
    rw [Array.toList_append] at hx
    rcases List.mem_append.mp hx with q | q
    · exact h x q
    · exact hc x q
/-- a measure as the law hands it over: in its form, letters that are not empty, numbers below 2 ^ b -/
structure Good (b : Nat) (m : Ms) : Prop where
  can : Can m
  ne : ∀ p ∈ m, LtOk p.1
  lt : ∀ p ∈ m, p.2.natAbs < 2 ^ b
  few : m.length ≤ 1000
theorem Good.at0_lt {b : Nat} {m : Ms} (h : Good b m) (j : Str) : (at0 m j).natAbs < 2 ^ b := by
  by_cases e : at0 m j = 0
  · rw [e]; exact Nat.two_pow_pos b
  · exact h.lt _ (at0_mem e)
theorem good_nil (b : Nat) : Good b [] := ⟨can_nil, fun _ h => absurd h (by simp), fun _ h => absurd h (by simp), by simp⟩
theorem nil_lt {a : Str} (h : a.cps.toList ≠ []) : sLt ⟨#[]⟩ a := by
  show ([] : List Nat) < a.cps.toList
  cases e : a.cps.toList with
  | nil => exact absurd e h
  | cons x r => exact List.nil_lt_cons x r
end MK


set_option Elab.async false
set_option linter.all false
set_option maxRecDepth 100000
set_option maxHeartbeats 4000000
/-! Rules that the layer has not: a text times a number; sorted of texts and of pairs (text, number), any number of them. -/
namespace SrtO
open PySem PyProof.Rows Srt
section
variable {prog : Program} {w : World} {A : Around} {E : Value → Shared → Prop} {s : Shared}
def lexS (p q : PySem.Str × Int) : Bool := if p.1 = q.1 then decide (p.2 < q.2) else decide (p.1.cps.toList < q.1.cps.toList)
theorem lexS_no {p q : PySem.Str × Int} : lexS p q = false ↔ ¬ (MK.sLt p.1 q.1 ∨ (p.1 = q.1 ∧ p.2 < q.2)) := by
  unfold lexS
  by_cases e : p.1 = q.1
  · rw [if_pos e]
    constructor
    · intro h z
      rcases z with z | z
      · rw [e] at z; exact MK.sLt_irr _ z
      · exact of_decide_eq_false h z.2
    · intro h
      exact decide_eq_false fun z => h (.inr ⟨e, z⟩)
  · rw [if_neg e]
    constructor
    · intro h z
      rcases z with z | z
      · exact of_decide_eq_false h z
      · exact e z.1
    · intro h
      exact decide_eq_false fun z => h (.inl z)
theorem lexS_yes {p q : PySem.Str × Int} : lexS p q = true ↔ (MK.sLt p.1 q.1 ∨ (p.1 = q.1 ∧ p.2 < q.2)) := by
  constructor
  · intro h
    refine Decidable.byContradiction fun z => ?_
    rw [lexS_no.mpr z] at h
    cases h
  · intro h
    cases e : lexS p q with
    | true => rfl
    | false => exact absurd h (lexS_no.mp e)
theorem swo_lexS : Swo lexS := by
  refine ⟨fun x y h => ?_, fun x y z h1 h2 => ?_⟩
  · have a := lexS_yes.mp h
    refine lexS_no.mpr fun b => ?_
    rcases a with a | a
    · rcases b with b | b
      · exact MK.sLt_irr _ (MK.sLt_tr a b)
      · rw [b.1] at a; exact MK.sLt_irr _ a
    · rcases b with b | b
      · rw [a.1] at b; exact MK.sLt_irr _ b
      · have := a.2; have := b.2; omega
  · have a := lexS_no.mp h1
    have b := lexS_no.mp h2
    refine lexS_no.mpr fun c => ?_
    have tri : MK.sLt x.1 y.1 ∨ x.1 = y.1 := by
      by_cases h : MK.sLt x.1 y.1
      · exact .inl h
      · exact .inr (MK.sLt_tri h fun q => a (.inl q))
    rcases tri with t | t
    · rcases c with c | c
      · exact b (.inl (MK.sLt_tr c t))
      · rw [← c.1] at t; exact b (.inl t)
    · rcases c with c | c
      · rw [t] at c; exact b (.inl c)
      · have h3 : ¬ y.2 < x.2 := fun q => a (.inr ⟨t.symm, q⟩)
        have h4 : ¬ z.2 < y.2 := fun q => b (.inr ⟨c.1.trans t, q⟩)
        have := c.2
        omega
theorem swo_lexSk (k : Value → PySem.Str × Int) : Swo fun v u => lexS (k v) (k u) := ⟨fun x y => swo_lexS.asym _ _, fun x y z => swo_lexS.tr _ _ _⟩
/-- a tuple (text, number) -/
def IsSP (h : Heap) (v : Value) (x : PySem.Str) (y : Int) : Prop := ∃ a o t u n, v = .ref a ∧ h.get? a = some o ∧ o.cls = .type "tuple" ∧ o.data = .seq #[.str x t, .int y u] n
theorem IsSP.keeps {h h' : Heap} {v : Value} {x : PySem.Str} {y : Int} (p : IsSP h v x y) (k : ∀ b o, h.get? b = some o → o.cls = .type "tuple" → h'.get? b = some o) : IsSP h' v x y := by
  obtain ⟨a, o, t, u, n, e, ho, hc, hd⟩ := p
  exact ⟨a, o, t, u, n, e, k _ _ ho hc, hc, hd⟩
theorem firstsS_of {h : Heap} : ∀ {vs : List Value}, (∀ v ∈ vs, ∃ x y, IsSP h v x y) → ∃ fs : List Value, PySem.W.KatTups h vs fs ∧ fs.length = vs.length ∧ ∀ f ∈ fs, ∃ x t, f = Value.str x t
  | [], _ => ⟨[], PySem.W.KatTups.nil, rfl, fun _ hm => by simp at hm⟩
  | v :: vs, hp => by
    obtain ⟨fs, h1, h2, h3⟩ := firstsS_of (vs := vs) fun v' hm => hp v' (List.mem_cons_of_mem _ hm)
    obtain ⟨x, y, a, o, t, u, n, e, ho, hc, hd⟩ := hp v (List.mem_cons_self ..)
    subst e
    refine ⟨.str x t :: fs, PySem.W.KatTups.cons ho hc hd rfl h1, by rw [List.length_cons, List.length_cons, h2], fun f hm => ?_⟩
    rcases List.mem_cons.mp hm with rfl | hm
    · exact ⟨x, t, rfl⟩
    · exact h3 f hm
theorem pairS_cmp {vs : List Value} {k : Value → PySem.Str × Int} (hp : ∀ v ∈ vs, IsSP s.heap v (k v).1 (k v).2) : Cmp prog w A s (tuples' true) (fun p => p.1 ∈ vs) (lt2 fun v u => lexS (k v) (k u)) := by
  intro p q hm hm'
  have h1 := hp _ hm
  have h2 := hp _ hm'
  show wpAny (model prog w) A (keyLt' (tuples' true) p.1 q.1) (fun r s' => s' = s ∧ r = lexS (k p.1) (k q.1)) (fun _ _ => False) s
  unfold lexS
  generalize (k p.1).1 = x at h1 ⊢
  generalize (k p.1).2 = y at h1 ⊢
  generalize (k q.1).1 = x' at h2 ⊢
  generalize (k q.1).2 = y' at h2 ⊢
  obtain ⟨a, o, t, u, n, e, ho, hc, hd⟩ := h1
  obtain ⟨a', o', t', u', n', e', ho', hc', hd'⟩ := h2
  rw [e, e']
  refine PySem.W.kat_lt ho hd ho' hd' ?_
  show PySem.W.KatLex prog w A true (decide (2 < 2)) _ [(.str x t, .str x' t'), (.int y u, .int y' u')] 0 s
  refine PySem.W.kat_cons (SeqAt.EqAt.str_str x t x' t' prog w _ _ ?_)
  refine PySem.W.kat_go (fun e1 => ?_) (fun e1 => ?_)
  · have ex : x = x' := by simpa using e1
    refine PySem.W.kat_yes (PySem.W.kat_cons (SeqAt.EqAt.int_int y u y' u' prog w _ _ ?_))
    refine PySem.W.kat_go (fun e2 => ?_) (fun e2 => ?_)
    · have ey : y = y' := by simpa using e2
      have e3 : (if x = x' then decide (y < y') else decide (x.cps.toList < x'.cps.toList)) = false := by
        rw [if_pos ex, ey]
        exact decide_eq_false (Int.lt_irrefl _)
      exact PySem.W.kat_yes (PySem.W.kat_nil ⟨rfl, e3.symm⟩)
    · have e3 : (if x = x' then decide (y < y') else decide (x.cps.toList < x'.cps.toList)) = decide (y < y') := if_pos ex
      refine PySem.W.kat_no (PySem.W.kat_one _ _ (PyProof.Rows.lt_int ?_))
      exact (show s = s ∧ decide (y < y') = (if x = x' then decide (y < y') else decide (x.cps.toList < x'.cps.toList)) from ⟨rfl, e3.symm⟩)
  · have ex : ¬ x = x' := by simpa using e1
    have e3 : (if x = x' then decide (y < y') else decide (x.cps.toList < x'.cps.toList)) = decide (x.cps.toList < x'.cps.toList) := if_neg ex
    exact PySem.W.kat_no (oneLt_str ⟨rfl, e3.symm⟩)
theorem pairsS_sortableO {a : Addr} {vs : List Value} {k : Value → PySem.Str × Int} (h0 : 0 < vs.length) (hp : ∀ v ∈ vs, IsSP s.heap v (k v).1 (k v).2) (ha : ∀ o, s.heap.get? a = some o → o.cls ≠ .type "tuple") : SortableO prog w A s a vs fun v u => lexS (k v) (k u) := by
  intro h' keep
  have hp' : ∀ v ∈ vs, IsSP h' v (k v).1 (k v).2 := fun v hm => (hp v hm).keeps fun b o e c => keep b o (fun z => by subst z; exact ha o e c) e
  obtain ⟨fs, h1, h2, h3⟩ := firstsS_of fun v hm => ⟨_, _, hp' v hm⟩
  refine ⟨tuples' true, fun Q E hq => ?_, pairS_cmp hp'⟩
  refine PySem.W.kat_kind (T := .type "str") h1 (by omega) (fun f hm => ?_) (by rfl) ?_
  · obtain ⟨x, t, rfl⟩ := h3 f hm
    exact PySem.W.Looks.now
  · have e : (Value.type "str" != Value.type "tuple") = true := by first | decide +kernel | rfl | decide
    rw [e]
    exact hq
/-- sorted(l) of pairs (text, number), any number of them: sorted by k, stable -/
theorem sorted_pairsS {l : Addr} {vs : List Value} {k : Value → PySem.Str × Int} {Q : Value → Shared → Prop} (hl : s.heap.IsList l vs.toArray) (hz : vs.length ≤ sizeLine) (hp : ∀ v ∈ vs, IsSP s.heap v (k v).1 (k v).2)
    (h : ∀ (h' : Heap) (d : Addr) (out : List Value), Srtd (fun v u => lexS (k v) (k u)) out → Stb (fun v u => lexS (k v) (k u)) out vs → (∀ b o, s.heap.get? b = some o → h'.get? b = some o) → s.heap.objs.size ≤ d → (∃ n, h'.get? d = some (seqObj "list" out.toArray n)) → Q (.ref d) { s with heap := h' }) :
    wpAny (model prog w) A (call (.builtin "sorted") [.ref l]) Q E s := by
  refine sorted_ord (swo_lexSk k) hl hz (fun h2 h₁ a ha kk => ?_) fun out hs hb => ?_
  · refine pairsS_sortableO (s := { s with heap := h₁ }) (by omega) (fun v hm => (hp v hm).keeps fun b o e _ => (kk b o e).2) fun o e => ?_
    have e' : some o = some (seqObj "list" vs.toArray 0) := e.symm.trans ha
    cases e'
    intro c
    exact absurd (Value.type.inj c) (by decide)
  · exact h _ _ out hs hb (fun b o e => sortedAll_old e) (Nat.le_succ _) (sortedAll_at s.heap vs out.toArray)
end
end SrtO

namespace L2
open PySem PySem.Spec PyProof.Rows
/-- sorted(xs), xs a list of pairs (text, number), texts that differ: a new list of the same items, their texts rising -/
def rSortedSP (K : PySem.W.Frag) : List V → Hp → VK → Prop := fun vs H Q => ∃ (a : Addr) (xs : List V) (k : V → Str × Int), vs = [V.ref a] ∧ SqL K H a xs ∧ (∀ x ∈ xs, ∃ t, x = V.ref t ∧ H t = some (.tup [.str (k x).1, .int (k x).2])) ∧
  ∀ ys p, ys.Perm xs → ys.Pairwise (fun x y => SrtO.lexS (k y) (k x) = false) → H p = none → Q (.ref p) (upd H p (.lst ys))
section
variable {X : Cx}
theorem cr_sortedSP : CallR X (.builtin "sorted") (rSortedSP X.K) := by
  intro pins s σ H vs us Q I r h
  obtain ⟨a, xs, k, rfl, hs, hx, q⟩ := h
  obtain ⟨its, rv, hl, hz⟩ := I.list hs
  obtain ⟨u, rfl, ru⟩ := vals1 r
  obtain rfl : u = Value.ref a := ru
  obtain ⟨e1, e2⟩ := refs_back rv fun x m => by
    obtain ⟨t, e, _⟩ := hx x m
    exact ⟨t, e⟩
  refine SrtO.sorted_pairsS (k := fun u => k (backV u)) hl.isList (by rw [← rv.length]; exact hz) (fun v hv => ?_) fun h' d out h1 h2 kp hd hn => ?_
  · obtain ⟨t, rfl⟩ := e2 v hv
    have hm : V.ref t ∈ xs := by rw [e1]; exact List.mem_map.mpr ⟨_, hv, rfl⟩
    obtain ⟨t', e, ht⟩ := hx _ hm
    cases e
    obtain ⟨_, its2, r2, o, ho, hc, n, hd⟩ := I.hok _ _ ht
    obtain ⟨u1, u2, rfl, ri, rj⟩ := vals2 r2
    obtain ⟨t1, rfl⟩ := ri
    obtain ⟨t2, rfl⟩ := rj
    exact ⟨t, o, t1, t2, n, rfl, ho, hc, hd⟩
  · have h3 : ∀ u ∈ out, ∃ a, u = Value.ref a := fun u hu => e2 u (h2.perm.mem_iff.mp hu)
    obtain ⟨n, hn⟩ := hn
    have hb : (out.map backV).Perm xs := by
      rw [e1]
      exact h2.perm.map backV
    refine ⟨.ref d, upd H d (.lst (out.map backV)), I.laid (t' := s.toks) kp hd ⟨?_, out, n, vals_back h3, hn⟩, rfl, q _ d hb (List.pairwise_map.mpr h1) (I.hok.fresh hd)⟩
    rw [hb.length_eq]
    exact hz
/-- sorted(d), d a dict whose keys are texts, any number of them -/
theorem call_sortedDA (hcalm : X.calm = true) : CallR X (.builtin "sorted") (fun xs H Q => ∃ (a : Addr) (kvs : List (Key × V)) (ks : List Str), xs = [.ref a] ∧ Rd H a (.dK kvs) ∧ kvs.map (·.1) = ks.map Sum.inr ∧
    ∀ ys p, ys.Perm ks → sortedS ys = true → H p = none → Q (.ref p) (upd H p (.lst (ys.map V.str)))) := by
  intro pins s σ H xs us Q I r q
  obtain ⟨a, kvs, ks, ex, hd, hks, q⟩ := q
  subst ex
  obtain ⟨u, eu, rx⟩ := vals1 r
  subst eu
  cases rx
  obtain ⟨z, lo, vs, rel, dd⟩ := dk_rd I.hok hd
  obtain ⟨ep, hat⟩ := dd.dictAt
  have hkeys : vs.map (·.1) = ks.map Sum.inr := rel.keys.symm.trans hks
  have hl : vs.length = ks.length := by
    have e := congrArg List.length hkeys
    rw [List.length_map, List.length_map] at e
    exact e
  have h16 : vs.length ≤ sizeLine := by rw [← rel.length]; exact z
  have hks16 : ks.length ≤ sizeLine := by rw [← hl]; exact h16
  refine Calls.call_function_entry PyProof.Rows.kind_sorted PyProof.Rows.plain_sorted PyProof.Rows.entry_sorted (PyProof.Rows.args_sorted1 _) ?_
  unfold Builtin.«sorted»
  refine wpAny_bind (m := checkCount "sorted" 1 1 _) (wpAny_pure ?_)
  refine wpAny_bind (PySem.W.kdu_collect (A := X.A.in1) (PySem.W.kdl_dict (knd := mixKind X.prog X.w) (kvs := vs) (ep := ep) lo) (I.ok.hd hcalm) hat h16 fun h' tk acc hk hacc => ?_)
  have hal : acc.toList.length = ks.length := by rw [Array.length_toList, hacc.1, hl]
  have hS : StrsAre acc.toList ks := strs_at hal fun j v e => by
    obtain ⟨k, x, e1, e2⟩ := hacc.2 j v (by rw [← Array.getElem?_toList]; exact e)
    have e3 : (vs.map (·.1))[j]? = some k := by rw [List.getElem?_map, e1]; all_goals rfl
    rw [hkeys, List.getElem?_map] at e3
    cases e4 : ks[j]? with
    | none => rw [e4] at e3; cases e3
    | some y =>
      rw [e4] at e3
      have e5 : Sum.inr y = k := Option.some.inj e3
      subst e5
      obtain ⟨t, ev⟩ := Value.isStrOf_shape (x := y) (v := v) e2
      exact ⟨y, t, rfl, ev⟩
  have I1 : Inv X pins σ H { s with heap := h', toks := tk } := I.kept hk
  refine wpAny_bind (wpAny_newList ?_ (by rw [hal]; exact hks16))
  have hoL : (h'.push (seqObj "list" acc.toList.toArray 0)).get? h'.objs.size = some (seqObj "list" acc.toList.toArray 0) := Heap.get?_push_size _ rfl
  show wpAny _ _ _ _ _ { s with heap := h'.push (seqObj "list" acc.toList.toArray 0), toks := tk }
  refine wpAny_bind (wpAny_holding (wpAny_call_entry PyProof.Rows.slot_list_sort ⟨_, hoL, rfl⟩ PyProof.Rows.entry_list_sort
    (list_sort_treeKAny strKind_oneLt (s := { s with heap := h'.push (seqObj "list" acc.toList.toArray 0), toks := tk }) hoL hS.keysOf (fun v₁ v₂ rest e => keyKind_strs (by rw [← e]; exact hS)) (by rw [hal]; exact hks16) fun st' hp hs => ⟨_, rfl, ?_⟩)
    (PyProof.Rows.args_list_sort _)))
  obtain ⟨ys, g1, g2, g3⟩ := sorted_out_str hS hp hs
  obtain ⟨e', he'⟩ := PyProof.Rows.sortedHeap_at (vs := acc.toList) (out := (arrOf st').map (·.2)) hoL
  have hlen : (ys.map V.str).length ≤ sizeLine := by
    rw [List.length_map, g2.length_eq]
    exact hks16
  refine wpAny_pure ⟨_, rfl, .ref h'.objs.size, upd H h'.objs.size (.lst (ys.map V.str)), I1.laid (t' := tk) (fun b u e => ?_) (Nat.le_refl _)
    (show ObjOk X.prog X.w _ _ _ (.lst (ys.map V.str)) from ⟨hlen, ((arrOf st').map (·.2)).toList, e', vals_of_strs g1, by rw [Array.toArray_toList]; exact he'⟩), rfl, q ys _ g2 g3 (I1.hok.fresh (Nat.le_refl _))⟩
  have hb : b < h'.objs.size := Heap.lt_size e
  rw [PyProof.Rows.sortedHeap_old (Nat.ne_of_lt hb) (by rw [size_push']; exact Nat.lt_succ_of_lt hb)]
  exact Heap.get?_push_of_some _ e
/-- a text, n times -/
def strRep (x : Str) (n : Int) : Str := if n < 1 then Str.empty else if (n == 1 || x.length == 0) = true then x else ⟨(List.replicate n.toNat x.cps).foldl (· ++ ·) #[]⟩
theorem op_mul_str : OpR X (binaryOp .Mult) (fun x y H Q => ∃ (z : Str) (n : Int), x = .str z ∧ y = .int n ∧ (z.length ≤ 1000 ∧ n ≤ 1000 ∧ -1000 ≤ n) ∧ Q (.str (strRep z n)) H) := by
  intro pins s σ H x y v u Q I rx ry h
  obtain ⟨z, n, rfl, rfl, ⟨hz, h1, h2⟩, q⟩ := h
  obtain ⟨t, rfl⟩ := rx
  obtain ⟨t', rfl⟩ := ry
  have hm : ¬ n < 1 → z.length * n.toNat ≤ 1000 * 1000 := fun h => Nat.mul_le_mul hz (by omega)
  have hl : ¬ n < 1 → (n == 1 || z.length == 0) = false → Builtin.Str.tooLong (z.length * n.toNat) = false := fun h _ => by
    have := hm h
    show decide (z.length * n.toNat > sizeLine) = false
    rw [sizeLine_eq]
    exact decide_eq_false (by omega)
  refine P.mul_str ?_ (fun h _ => ?_) hl ?_
  · rw [decide_eq_false (by omega), decide_eq_false (by omega)]
    rfl
  · have e : (1 : Int) ≤ n := by omega
    have h3 : (1000 : Int) ≤ (2 ^ 63 - 1) / n := (Int.le_ediv_iff_mul_le (by omega)).mpr (by omega)
    omega
  · unfold strRep at q
    by_cases c : n < 1
    · rw [if_pos c] at q ⊢
      exact ⟨by decide, .str Str.empty, H, I.tok _, ⟨_, rfl⟩, q⟩
    · rw [if_neg c] at q ⊢
      by_cases d : (n == 1 || z.length == 0) = true
      · rw [if_pos d] at q ⊢
        exact ⟨.str z, H, I, ⟨_, rfl⟩, q⟩
      · rw [if_neg d] at q ⊢
        exact ⟨fits_reps (hl c (by simpa using d)), .str _, H, I.tok _, ⟨_, rfl⟩, q⟩
end
theorem sLe_tr {a b c : Str} (h : ¬ MK.sLt b a) (h2 : ¬ MK.sLt c b) : ¬ MK.sLt c a := fun q => by
  by_cases e : MK.sLt b c
  · exact h (MK.sLt_tr e q)
  · rw [MK.sLt_tri e h2] at h
    exact h q
theorem risingS_all : ∀ {r : List Str} {p : Str}, risingS p r = true → (∀ x ∈ r, ¬ MK.sLt x p) ∧ r.Pairwise fun a b => ¬ MK.sLt b a
  | [], p, _ => ⟨fun x h => absurd h (by simp), List.Pairwise.nil⟩
  | x :: r, p, h => by
    have h : (!ltCps x.cps.toList p.cps.toList && risingS x r) = true := h
    rw [Bool.and_eq_true] at h
    obtain ⟨h1, h2⟩ := h
    have h3 : ¬ MK.sLt x p := by
      rw [ltCps_eq] at h1
      simpa using h1
    obtain ⟨i1, i2⟩ := risingS_all h2
    refine ⟨fun y hy => ?_, List.pairwise_cons.mpr ⟨fun y hy => i1 y hy, i2⟩⟩
    rcases List.mem_cons.mp hy with e | hy
    · rw [e]; exact h3
    · exact sLe_tr h3 (i1 y hy)
theorem sortedS_pw : ∀ {ys : List Str}, sortedS ys = true → ys.Pairwise fun a b => ¬ MK.sLt b a
  | [], _ => List.Pairwise.nil
  | x :: r, h => by
    obtain ⟨i1, i2⟩ := risingS_all (p := x) (r := r) h
    exact List.pairwise_cons.mpr ⟨i1, i2⟩
/-- [.. for k, v in d.items() ..], d locked: by a word of the turn's number and the heap -/
theorem lc_items {d : Addr} {od : Obj} {kvs : List (Key × V)} {g : TG} {tt : TT} {te : TE} {vs : List Nat} {σ : L2.St} {H1 : Hp} {D : Addr} {Qd : Hp → Prop} (Pv : Nat → Hp → Prop) (h0 : Pv 0 (upd H1 D (.lst [])))
    (hl : ∀ i H, i ≤ kvs.length → Pv i H → H d = some (.frz od (.dK kvs)))
    (hs : ∀ i k v T H, kvs[i]? = some (k, v) → Pv i H → H T = none → g (.ref T) (wipe σ vs) (upd H T (.tup [kV k, v])) fun σ2 H2 => wipe σ2 vs = wipe σ vs ∧ tt σ2 H2 fun b H3 =>
      if b = true then te σ2 H3 fun y H4 => ∃ acc, H4 D = some (.lst acc) ∧ acc.length < sizeLine ∧ Pv (i + 1) (upd H4 D (.lst (acc ++ [y]))) else Pv (i + 1) H3)
    (hd : ∀ H, Pv kvs.length H → Qd H) :
    ∃ W : Nat → Nat → Hp → Prop, (∃ m, W 0 m (upd H1 D (.lst []))) ∧ ∀ i m H, W i m H →
      ((Iti d od kvs).stop i H ∧ Qd H) ∨ ((Iti d od kvs).go i H ∧ ∃ Nx : Hp → Prop, (∀ H', Nx H' → ∃ m', m' < m ∧ W (i + 1) m' H') ∧ ∀ x H', (Iti d od kvs).yld i H x H' → g x (wipe σ vs) H' fun σ2 H2 => wipe σ2 vs = wipe σ vs ∧ tt σ2 H2 fun b H3 =>
        if b = true then te σ2 H3 fun y H4 => ∃ acc, H4 D = some (.lst acc) ∧ acc.length < sizeLine ∧ Nx (upd H4 D (.lst (acc ++ [y]))) else Nx H3) := by
  refine ⟨fun i m H => m = kvs.length - i ∧ i ≤ kvs.length ∧ Pv i H, ⟨kvs.length, by simp, Nat.zero_le _, h0⟩, ?_⟩
  intro i m H ⟨e, hi, p⟩
  have q := hl i H hi p
  by_cases hlt : i < kvs.length
  · refine .inr ⟨⟨q, hlt⟩, Pv (i + 1), fun H' p' => ⟨kvs.length - (i + 1), by omega, rfl, hlt, p'⟩, fun x H' y => ?_⟩
    obtain ⟨T, k, v, hk, ex, hT, eH⟩ := y
    rw [ex, eH]
    exact hs i k v T H hk p hT
  · have e2 : i = kvs.length := by omega
    rw [e2] at p
    exact .inl ⟨⟨q, by omega⟩, hd H p⟩
/-- two dicts of the same pairs, their values the very same objects -/
theorem hits_refs {A : Around} {s : Shared} {ls : List (Key × V)} {vb : List (Key × Value)} (rb : KV ls vb) {ks : List (Key × V)} {va : List (Key × Value)} (ra : KV ks va) : (∀ p ∈ ks, ∃ c, p.2 = .ref c ∧ valV ls p.1 = some (.ref c)) → PySem.W.KeqHits A s vb va true := by
  unfold KV at ra
  induction ra with
  | nil => exact fun _ => .nil
  | @cons p q ps qs h t k =>
    intro hp
    obtain ⟨h1, h2⟩ := h
    obtain ⟨c, ec, e⟩ := hp p List.mem_cons_self
    have rr : RelO (some (.ref c)) (valueAt vb p.1) := by
      rw [← e]
      exact rb.val p.1
    obtain ⟨y, hy, ry⟩ := rr.some_of
    obtain ⟨key, v⟩ := q
    have h1' : p.1 = key := h1
    rw [h1'] at hy
    rw [ec] at h2
    have e1 : v = Value.ref c := h2
    have e2 : y = Value.ref c := ry
    subst e1
    subst e2
    show PySem.W.KeqHits A s vb ((key, Value.ref c) :: qs) (true && true)
    exact .hit hy (SeqAt.EqAt.same _) (k fun p' hm => hp p' (List.mem_cons_of_mem _ hm))
theorem op_ne_dictRef {X : Cx} (hu : X.A.units < cLine) : OpR X (compareOp .NotEq) (fun x y H Q => ∃ a b ks, x = .ref a ∧ y = .ref b ∧ H a = some (.dK ks) ∧ H b = some (.dK ks) ∧ (∀ p ∈ ks, ∃ c, p.2 = .ref c ∧ valV ks p.1 = some (.ref c)) ∧ Q (.bl false) H) := by
  intro pins s σ H x y v u Q I rx ry h
  obtain ⟨a, b, ks, rfl, rfl, ea, eb, hp, q⟩ := h
  obtain rfl : v = Value.ref a := rx
  obtain rfl : u = Value.ref b := ry
  obtain ⟨_, ya, va, ra, da⟩ := (show ObjOk X.prog X.w H s.heap a (.dK ks) from I.hok a _ ea)
  obtain ⟨_, yb, vb, rb, db⟩ := (show ObjOk X.prog X.w H s.heap b (.dK ks) from I.hok b _ eb)
  have hl : va.length = vb.length := by rw [← ra.length, ← rb.length]
  refine PySem.W.keq_ne (knd := mixKind X.prog X.w) (r := true) ya yb da db hu (fun _ => hits_refs rb ra hp) ?_
  rw [show (!(va.length == vb.length && true)) = false by simp [hl]]
  exact ⟨.bl false, H, I, rfl, q⟩
end L2


set_option Elab.async false
set_option linter.all false
set_option maxRecDepth 100000
set_option maxHeartbeats 4000000
namespace MK
open PySem PySem.Spec PyProof.Rows L2
/-! ### measures and dicts as they stand in memory -/
/-- a dict whose keys are texts -/
def encG {α : Type} (g : α → V) (m : List (Str × α)) : List (L2.Key × V) := m.map fun p => (Sum.inr p.1, g p.2)
abbrev enc (m : Ms) : List (L2.Key × V) := encG V.int m
theorem encG_val {α : Type} (g : α → V) : ∀ (m : List (Str × α)) (l : Str), valV (encG g m) (Sum.inr l : L2.Key) = (lk m l).map g
  | [], l => rfl
  | p :: r, l => by
    show valV ((Sum.inr p.1, g p.2) :: encG g r) _ = _
    by_cases e : p.1 = l
    · rw [valV_pos (by rw [e])]
      unfold lk
      rw [if_pos e]
      rfl
    · rw [valV_neg (fun z => e (Sum.inr.inj z)), encG_val g r l]
      rw [show lk (p :: r) l = lk r l from if_neg e]
theorem encG_any {α : Type} (g : α → V) (m : List (Str × α)) (l : Str) : ((encG g m).any fun kv => decide (kv.1 = (Sum.inr l : L2.Key))) = (lk m l).isSome := by
  rw [valV_any, encG_val]
  cases lk m l <;> rfl
theorem encG_map_no {α : Type} (g : α → V) (l : Str) (y : V) : ∀ m : List (Str × α), lk m l = none → (encG g m).map (fun kv => if kv.1 = (Sum.inr l : L2.Key) then (kv.1, y) else kv) = encG g m
  | [], _ => rfl
  | p :: r, h => by
    have e : ¬ p.1 = l := fun z => by
      unfold lk at h
      rw [if_pos z] at h
      cases h
    have h2 : lk r l = none := by
      unfold lk at h
      rw [if_neg e] at h
      exact h
    have ih := encG_map_no g l y r h2
    show (if (Sum.inr p.1 : L2.Key) = Sum.inr l then _ else _) :: List.map _ (encG g r) = _
    rw [if_neg (fun z => e (Sum.inr.inj z)), ih]
    rfl
theorem encG_put {α : Type} (g : α → V) (l : Str) (v : α) : ∀ m : List (Str × α), (m.map (·.1)).Nodup → putK (encG g m) (Sum.inr l : L2.Key) (g v) = encG g (put m l v)
  | [], _ => rfl
  | p :: r, hn => by
    have hn : (p.1 :: r.map (·.1)).Nodup := hn
    obtain ⟨h1, h2⟩ := List.nodup_cons.mp hn
    have ih := encG_put g l v r h2
    unfold putK at ih ⊢
    rw [encG_any] at ih ⊢
    by_cases e : p.1 = l
    · have hs : (lk (p :: r) l).isSome = true := by
        unfold lk
        rw [if_pos e]
        rfl
      rw [if_pos hs]
      have hno : lk r l = none := lk_none.mpr (by rw [← e]; exact h1)
      show (if (Sum.inr p.1 : L2.Key) = Sum.inr l then _ else _) :: List.map _ (encG g r) = _
      rw [if_pos (by rw [e]), encG_map_no g l (g v) r hno]
      show _ = encG g (put (p :: r) l v)
      unfold put
      rw [if_pos e]
      rfl
    · have hl : lk (p :: r) l = lk r l := if_neg e
      rw [hl]
      have hp : put (p :: r) l v = p :: put r l v := if_neg e
      rw [hp]
      by_cases hs : (lk r l).isSome = true
      · rw [if_pos hs] at ih ⊢
        show (if (Sum.inr p.1 : L2.Key) = Sum.inr l then _ else _) :: List.map _ (encG g r) = _
        rw [if_neg (fun z => e (Sum.inr.inj z)), ih]
        rfl
      · rw [if_neg hs] at ih ⊢
        show (Sum.inr p.1, g p.2) :: (encG g r ++ _) = _
        rw [ih]
        rfl
theorem encG_len {α : Type} (g : α → V) (m : List (Str × α)) : (encG g m).length = m.length := List.length_map _
theorem encG_keys {α : Type} (g : α → V) (m : List (Str × α)) : (encG g m).map (·.1) = (m.map (·.1)).map Sum.inr := by
  unfold encG
  rw [List.map_map, List.map_map]
  rfl
/-- at t the pair p -/
def PrAt (H : Hp) (t : Addr) (p : Str × Int) : Prop := H t = some (.tup [.str p.1, .int p.2])
/-- at b the measure m -/
def MsAt (H : Hp) (b : Addr) (m : Ms) : Prop := ∃ ts : List Addr, H b = some (.tup (ts.map V.ref)) ∧ Paired (PrAt H) ts m
theorem MsAt.same {H H' : Hp} {b : Addr} {m : Ms} (s : Same H H') (h : MsAt H b m) : MsAt H' b m := by
  obtain ⟨ts, e, p⟩ := h
  exact ⟨ts, s _ _ e, Paired.mono (fun t q z => s _ _ z) p⟩
theorem paired_ix {α β : Type} {G : α → β → Prop} : ∀ {l : List α} {m : List β} {i : Nat} {a : α}, Paired G l m → l[i]? = some a → ∃ b, m[i]? = some b ∧ G a b
  | _, _, _, _, .nil, e => by simp at e
  | _, _, 0, _, .cons r _, e => by
    simp at e
    subst e
    exact ⟨_, rfl, r⟩
  | _, _, i + 1, _, .cons _ t, e => by
    obtain ⟨b, h1, h2⟩ := paired_ix t (by simpa using e)
    exact ⟨b, by simpa using h1, h2⟩
theorem MsAt.dp {K : PySem.W.Frag} {H : Hp} {b : Addr} {m : Ms} (h : MsAt H b m) : Dp K H (.ref b) (.tuple (m.map fun p => .tuple [.str p.1, .int p.2])) := by
  obtain ⟨ts, e, p⟩ := h
  refine .tup (SqT.of e) ?_
  clear e
  induction p with
  | nil => exact .nil
  | @cons t q _ _ r _ ih => exact .cons (.tup (SqT.of r) (.cons (.str _) (.cons (.int _) .nil))) ih
theorem take_more {α : Type} : ∀ {l : List α} {i : Nat} {x : α}, l[i]? = some x → l.take (i + 1) = l.take i ++ [x] := fun {l i x} h => by
  rw [List.take_add_one, h]
  rfl
theorem byKeys_yes {m : Ms} {ys : List Str} {i : Nat} {k : Str} (h : ys[i]? = some k) (e : at0 m k ≠ 0) : byKeys m (ys.take (i + 1)) = byKeys m (ys.take i) ++ [(k, at0 m k)] := by
  unfold byKeys
  rw [take_more h, List.filter_append, List.map_append]
  congr 1
  rw [List.filter_cons, if_pos (decide_eq_true e)]
  rfl
theorem byKeys_no {m : Ms} {ys : List Str} {i : Nat} {k : Str} (h : ys[i]? = some k) (e : at0 m k = 0) : byKeys m (ys.take (i + 1)) = byKeys m (ys.take i) := by
  unfold byKeys
  rw [take_more h, List.filter_append, List.map_append]
  rw [show [k].filter (fun k => decide (at0 m k ≠ 0)) = [] by
    rw [List.filter_cons, if_neg (by simp [e])]
    rfl]
  simp
theorem at_map {α : Type} {g : α → V} {l : List α} {i : Nat} {y : V} (h : (l.map g)[i]? = some y) : ∃ x, l[i]? = some x ∧ y = g x := by
  rw [List.getElem?_map] at h
  cases e : l[i]? with
  | none =>
    rw [e] at h
    cases h
  | some x =>
    rw [e] at h
    exact ⟨x, rfl, (Option.some.inj h).symm⟩
theorem dget_enc {H : Hp} {d : Addr} {m : Ms} {k : Str} (e : H d = some (.dK (enc m))) (h : k ∈ m.map (·.1)) : DGet H d (.str k) (some (.int (at0 m k))) := by
  have q : DGet H d (kV (Sum.inr k)) (valV (enc m) (Sum.inr k : L2.Key)) := DGet.k e
  rw [encG_val] at q
  unfold at0
  cases e2 : lk m k with
  | none => exact absurd h (lk_none.mp e2)
  | some v =>
    rw [e2] at q
    exact q
theorem dget_enc2 {H : Hp} {d : Addr} {m : Ms} (k : Str) (e : H d = some (.dK (enc m))) : ∃ o, DGet H d (.str k) o ∧ o.getD (.int 0) = .int (at0 m k) := by
  refine ⟨_, DGet.k (k := Sum.inr k) e, ?_⟩
  rw [encG_val]
  unfold at0
  cases lk m k <;> rfl
theorem upd_other {H : Hp} {a b : Addr} {o u : HO} (h : H b = some u) (n : H a = none) : upd H a o b = some u := by
  rw [upd_ne (ne_of_none h n)]
  exact h
theorem same_new {H : Hp} {p : Addr} {o : HO} (h : H p = none) : Same H (upd H p o) := fun b x e => upd_other e h
theorem dput_enc {H : Hp} {d : Addr} {m : Ms} {l : Str} {v : Int} (e : H d = some (.dK (enc m))) (hn : (m.map (·.1)).Nodup) (hl : m.length < sizeLine) : DPut H d (.str l) (.int v) (L2.upd H d (.dK (enc (put m l v)))) := by
  have q : DPut H d (kV (Sum.inr l)) (V.int v) _ := DPut.k (k := Sum.inr l) e (by rw [encG_len]; exact hl)
  rw [show putK (enc m) (Sum.inr l) (V.int v) = enc (put m l v) from encG_put V.int l v m hn] at q
  exact q
theorem small1000' {n : Nat} (h : n ≤ 10000) : n < sizeLine := Nat.lt_of_le_of_lt h (by decide)
/-- a step at an object that came later -/
theorem same_upd {H H1 : Hp} {p : Addr} {o : HO} (s : Same H H1) (h : H p = none) : Same H (L2.upd H1 p o) := fun b x e => by
  rw [upd_ne (ne_of_none e h)]
  exact s b x e
/-- a list that changes is no pair -/
theorem pr_list {H : Hp} {D : Addr} {xs : List V} {o : HO} {ts : List Addr} {m : Ms} (h : H D = some (.lst xs)) (p : Paired (PrAt H) ts m) : Paired (PrAt (L2.upd H D o)) ts m := Paired.mono (fun t q z => by
  show L2.upd H D o t = _
  rw [upd_ne (ne_of z h (fun e => nomatch e))]
  exact z) p
theorem pr_dict {H : Hp} {D : Addr} {kvs : List (L2.Key × V)} {o : HO} {ts : List Addr} {m : Ms} (h : H D = some (.dK kvs)) (p : Paired (PrAt H) ts m) : Paired (PrAt (L2.upd H D o)) ts m := Paired.mono (fun t q z => by
  show L2.upd H D o t = _
  rw [upd_ne (ne_of z h (fun e => nomatch e))]
  exact z) p
theorem pr_same {H H' : Hp} {ts : List Addr} {m : Ms} (s : Same H H') (h : Paired (PrAt H) ts m) : Paired (PrAt H') ts m := Paired.mono (fun t q z => s _ _ z) h
/-! ### parts: measures, each to a power -/
def flat (ps : List (Ms × Int)) : Ms := (ps.map fun q => scaled q.1 q.2).flatten
theorem flat_snoc (ps : List (Ms × Int)) (q : Ms × Int) : flat (ps ++ [q]) = flat ps ++ scaled q.1 q.2 := by
  unfold flat
  rw [List.map_append, List.flatten_append]
  simp
theorem flat_take_le : ∀ (ps : List (Ms × Int)) (i : Nat), (flat (ps.take i)).length ≤ (flat ps).length
  | [], i => by simp [flat]
  | q :: r, 0 => by simp [flat]
  | q :: r, i + 1 => by
    have ih := flat_take_le r i
    show (scaled q.1 q.2 ++ flat (r.take i)).length ≤ (scaled q.1 q.2 ++ flat r).length
    rw [List.length_append, List.length_append]
    omega
def PtAt (H : Hp) (t : Addr) (q : Ms × Int) : Prop := ∃ b, H t = some (.tup [.ref b, .int q.2]) ∧ MsAt H b q.1
theorem PtAt.same {H H' : Hp} {t : Addr} {q : Ms × Int} (s : Same H H') (h : PtAt H t q) : PtAt H' t q := by
  obtain ⟨b, e, m⟩ := h
  exact ⟨b, s _ _ e, m.same s⟩
theorem scaled_take (m : Ms) (n : Int) (k : Nat) : (scaled m n).take k = scaled (m.take k) n := by
  unfold scaled
  rw [List.map_take]
theorem scaled_len (m : Ms) (n : Int) : (scaled m n).length = m.length := by
  unfold scaled
  rw [List.length_map]
theorem scaled_more {m : Ms} {n : Int} {k : Nat} {p : Str × Int} (h : m[k]? = some p) : scaled (m.take (k + 1)) n = scaled (m.take k) n ++ [(p.1, p.2 * n)] := by
  rw [take_more h]
  unfold scaled
  rw [List.map_append]
  rfl
/-- what of a dict is not nought -/
def nz (m : Ms) : Ms := m.filter fun p => decide (p.2 ≠ 0)
theorem nz_yes {m : Ms} {i : Nat} {p : Str × Int} (h : m[i]? = some p) (e : p.2 ≠ 0) : nz (m.take (i + 1)) = nz (m.take i) ++ [p] := by
  unfold nz
  rw [take_more h, List.filter_append]
  congr 1
  rw [List.filter_cons, if_pos (decide_eq_true e)]
  rfl
theorem nz_no {m : Ms} {i : Nat} {p : Str × Int} (h : m[i]? = some p) (e : p.2 = 0) : nz (m.take (i + 1)) = nz (m.take i) := by
  unfold nz
  rw [take_more h, List.filter_append]
  rw [show [p].filter (fun p => decide (p.2 ≠ 0)) = [] by
    rw [List.filter_cons, if_neg (by simp [e])]
    rfl]
  simp
theorem enc_at {m : Ms} {i : Nat} {k : L2.Key} {v : V} (h : (enc m)[i]? = some (k, v)) : ∃ l n, m[i]? = some (l, n) ∧ k = Sum.inr l ∧ v = .int n := by
  unfold enc encG at h
  rw [List.getElem?_map] at h
  cases e : m[i]? with
  | none =>
    rw [e] at h
    cases h
  | some p =>
    rw [e] at h
    obtain ⟨e1, e2⟩ := Prod.mk.inj (Option.some.inj h)
    exact ⟨p.1, p.2, rfl, e1.symm, e2.symm⟩
/-- the sorted list of the pairs of a dict -/
theorem sorted_pairs {H : Hp} {ts : List Addr} {m : Ms} (hn : (m.map (·.1)).Nodup) (p : Paired (PrAt H) ts m) (k : V → Str × Int) (hk : ∀ t q, PrAt H t q → k (.ref t) = q) {ys : List V} (hp : ys.Perm (ts.map V.ref))
    (hs : ys.Pairwise (fun x y => SrtO.lexS (k y) (k x) = false)) : ∃ us : List Addr, ys = us.map V.ref ∧ Paired (PrAt H) us (ys.map k) ∧ (ys.map k).Perm m ∧ Ris (ys.map k) := by
  have hm : (ts.map V.ref).map k = m := by
    clear hp hs hn
    induction p with
    | nil => rfl
    | @cons t q _ _ r _ ih =>
      show k (.ref t) :: _ = _
      rw [hk _ _ r, ih]
  have hpm : (ys.map k).Perm m := by
    rw [← hm]
    exact hp.map k
  have hmem : ∀ y ∈ ys, ∃ t, y = .ref t ∧ PrAt H t (k y) := fun y hy => by
    obtain ⟨t, ht, rfl⟩ := List.mem_map.mp (hp.mem_iff.mp hy)
    obtain ⟨i, hi, e⟩ := List.mem_iff_getElem.mp ht
    obtain ⟨q, _, hq⟩ := paired_ix p (List.getElem?_eq_some_iff.mpr ⟨hi, e⟩)
    refine ⟨t, rfl, ?_⟩
    rw [hk _ _ hq]
    exact hq
  have hnd : ((ys.map k).map (·.1)).Nodup := (hpm.map (·.1)).nodup_iff.mpr hn
  have build : ∀ zs : List V, (∀ y ∈ zs, ∃ t, y = .ref t ∧ PrAt H t (k y)) → ∃ us : List Addr, zs = us.map V.ref ∧ Paired (PrAt H) us (zs.map k) := fun zs => by
    induction zs with
    | nil => exact fun _ => ⟨[], rfl, .nil⟩
    | cons z r ih =>
      intro h
      obtain ⟨t, e, q⟩ := h z List.mem_cons_self
      obtain ⟨us, e1, e2⟩ := ih fun y hy => h y (List.mem_cons_of_mem _ hy)
      refine ⟨t :: us, by rw [e, e1]; rfl, .cons q e2⟩
  obtain ⟨us, e1, e2⟩ := build ys hmem
  refine ⟨us, e1, e2, hpm, ?_⟩
  have h1 : (ys.map k).Pairwise fun p q => SrtO.lexS q p = false := List.pairwise_map.mpr hs
  have h2 : (ys.map k).Pairwise fun p q => p.1 ≠ q.1 := List.pairwise_map.mp hnd
  refine (h1.and h2).imp ?_
  intro a b ⟨h3, h4⟩
  have h5 := SrtO.lexS_no.mp h3
  refine Decidable.byContradiction fun h6 => h4 (sLt_tri h6 fun h7 => h5 (.inl h7))
/-- the pair that stands at a value -/
def prOf : Option HO → Str × Int
  | some (.tup [.str l, .int n]) => (l, n)
  | _ => (⟨#[]⟩, 0)
def kH (H : Hp) : V → Str × Int
  | .ref t => prOf (H t)
  | _ => (⟨#[]⟩, 0)
theorem kH_of {H : Hp} {t : Addr} {q : Str × Int} (h : PrAt H t q) : kH H (.ref t) = q := by
  show prOf (H t) = q
  rw [show H t = _ from h]
  rfl
theorem kH_all {H : Hp} {ts : List Addr} {m : Ms} (p : Paired (PrAt H) ts m) : ∀ x ∈ ts.map V.ref, ∃ t, x = V.ref t ∧ H t = some (.tup [.str (kH H x).1, .int (kH H x).2]) := fun x hx => by
  obtain ⟨t, ht, rfl⟩ := List.mem_map.mp hx
  obtain ⟨i, hi, e⟩ := List.mem_iff_getElem.mp ht
  obtain ⟨q, _, hq⟩ := paired_ix p (List.getElem?_eq_some_iff.mpr ⟨hi, e⟩)
  refine ⟨t, rfl, ?_⟩
  rw [kH_of hq]
  exact hq
theorem ms_list {H : Hp} {D b : Addr} {xs : List V} {o : HO} {m : Ms} (h : H D = some (.lst xs)) (q : MsAt H b m) : MsAt (L2.upd H D o) b m := by
  obtain ⟨ts, e, p⟩ := q
  refine ⟨ts, ?_, pr_list h p⟩
  rw [upd_ne (ne_of e h (fun e => nomatch e))]
  exact e
theorem ms_dict {H : Hp} {D b : Addr} {kvs : List (L2.Key × V)} {o : HO} {m : Ms} (h : H D = some (.dK kvs)) (q : MsAt H b m) : MsAt (L2.upd H D o) b m := by
  obtain ⟨ts, e, p⟩ := q
  refine ⟨ts, ?_, pr_dict h p⟩
  rw [upd_ne (ne_of e h (fun e => nomatch e))]
  exact e
/-! ### fillings -/
def fill (fl : List (Str × Ms)) (l : Str) : Ms := (lk fl l).getD [(l, 1)]
def parts (fl : List (Str × Ms)) (m : Ms) : List (Ms × Int) := m.map fun p => (fill fl p.1, p.2)
abbrev FillR (H : Hp) (x : Str × Addr) (y : Str × Ms) : Prop := x.1 = y.1 ∧ MsAt H x.2 y.2
def FillAt (H : Hp) (d : Addr) (ads : List (Str × Addr)) (fl : List (Str × Ms)) : Prop := H d = some (.dK (encG V.ref ads)) ∧ Paired (FillR H) ads fl
theorem fills_same {H H' : Hp} {ads : List (Str × Addr)} {fl : List (Str × Ms)} (s : Same H H') (p : Paired (FillR H) ads fl) : Paired (FillR H') ads fl := Paired.mono (fun x y z => ⟨z.1, z.2.same s⟩) p
theorem FillAt.same {H H' : Hp} {d : Addr} {ads : List (Str × Addr)} {fl : List (Str × Ms)} (s : Same H H') (h : FillAt H d ads fl) : FillAt H' d ads fl := ⟨s _ _ h.1, fills_same s h.2⟩
theorem fills_lk {H : Hp} {ads : List (Str × Addr)} {fl : List (Str × Ms)} (p : Paired (FillR H) ads fl) (l : Str) : (lk ads l = none ∧ lk fl l = none) ∨ ∃ b m, lk ads l = some b ∧ lk fl l = some m ∧ MsAt H b m := by
  induction p with
  | nil => exact .inl ⟨rfl, rfl⟩
  | @cons x y xs ys h _ ih =>
    obtain ⟨h1, h2⟩ := h
    by_cases e : x.1 = l
    · exact .inr ⟨x.2, y.2, if_pos e, if_pos (h1 ▸ e), h2⟩
    · have e' : ¬ y.1 = l := fun z => e (h1.trans z)
      rw [show lk (x :: xs) l = lk xs l from if_neg e, show lk (y :: ys) l = lk ys l from if_neg e']
      exact ih
/-- filling.get(l, d0), d0 the letter itself -/
theorem fill_get {H : Hp} {d e0 : Addr} {ads : List (Str × Addr)} {fl : List (Str × Ms)} (h : FillAt H d ads fl) (l : Str) (h0 : MsAt H e0 [(l, 1)]) : ∃ o b, DGet H d (.str l) o ∧ o.getD (.ref e0) = .ref b ∧ MsAt H b (fill fl l) := by
  rcases fills_lk h.2 l with ⟨a1, a2⟩ | ⟨b, m, a1, a2, a3⟩
  · refine ⟨_, e0, DGet.k (k := Sum.inr l) h.1, ?_, ?_⟩
    · rw [encG_val, a1]
      rfl
    · unfold fill
      rw [a2]
      exact h0
  · refine ⟨_, b, DGet.k (k := Sum.inr l) h.1, ?_, ?_⟩
    · rw [encG_val, a1]
      rfl
    · unfold fill
      rw [a2]
      exact a3
theorem paired_put {H : Hp} {l : Str} {b : Addr} {m : Ms} (h : MsAt H b m) {ads : List (Str × Addr)} {fl : List (Str × Ms)} (p : Paired (FillR H) ads fl) : Paired (FillR H) (put ads l b) (put fl l m) := by
  induction p with
  | nil => exact .cons ⟨rfl, h⟩ .nil
  | @cons x y xs ys q r ih =>
    obtain ⟨q1, q2⟩ := q
    by_cases e : x.1 = l
    · have e' : y.1 = l := q1 ▸ e
      rw [show put (x :: xs) l b = (x.1, b) :: xs from if_pos e, show put (y :: ys) l m = (y.1, m) :: ys from if_pos e']
      exact .cons ⟨q1, h⟩ r
    · have e' : ¬ y.1 = l := fun z => e (q1.trans z)
      rw [show put (x :: xs) l b = x :: put xs l b from if_neg e, show put (y :: ys) l m = y :: put ys l m from if_neg e']
      exact .cons ⟨q1, q2⟩ ih
theorem dput_encG {α : Type} {g : α → V} {H : Hp} {d : Addr} {m : List (Str × α)} {l : Str} {v : α} (e : H d = some (.dK (encG g m))) (hn : (m.map (·.1)).Nodup) (hl : m.length < sizeLine) : DPut H d (.str l) (g v) (L2.upd H d (.dK (encG g (put m l v)))) := by
  have q : DPut H d (kV (Sum.inr l)) (g v) _ := DPut.k (k := Sum.inr l) e (by rw [encG_len]; exact hl)
  rw [encG_put g l v m hn] at q
  exact q
theorem flat_mem {ps : List (Ms × Int)} {j : Str} (h : j ∈ (flat ps).map (·.1)) : ∃ q ∈ ps, ∃ p ∈ q.1, p.1 = j := by
  obtain ⟨x, hx, rfl⟩ := List.mem_map.mp h
  unfold flat at hx
  obtain ⟨y, hy, hxy⟩ := List.mem_flatten.mp hx
  obtain ⟨q, hq, rfl⟩ := List.mem_map.mp hy
  obtain ⟨p, hp, rfl⟩ := List.mem_map.mp hxy
  exact ⟨q, hq, p, hp, rfl⟩
theorem flat_len_le {n : Nat} : ∀ (ps : List (Ms × Int)), (∀ q ∈ ps, q.1.length ≤ n) → (flat ps).length ≤ ps.length * n
  | [], _ => by simp [flat]
  | q :: r, h => by
    have ih := flat_len_le r fun x hx => h x (List.mem_cons_of_mem _ hx)
    have h1 := h q List.mem_cons_self
    show (scaled q.1 q.2 ++ flat r).length ≤ (r.length + 1) * n
    rw [List.length_append, scaled_len, Nat.succ_mul]
    omega
theorem parts_nil : ∀ (m : Ms) (j : Str), sumAt (flat (parts [] m)) j = sumAt m j
  | [], j => rfl
  | p :: r, j => by
    have ih := parts_nil r j
    show sumAt (scaled [(p.1, 1)] p.2 ++ flat (parts [] r)) j = _
    rw [sumAt_append, ih, sumAt_scaled, sumAt_one]
    show _ = (if p.1 = j then p.2 else 0) + sumAt r j
    by_cases e : p.1 = j
    · rw [if_pos e, if_pos e]
      omega
    · rw [if_neg e, if_neg e]
      omega
end MK


set_option Elab.async false
set_option linter.all false
set_option maxRecDepth 100000
set_option maxHeartbeats 4000000
namespace MK
open PySem
/-! ### fractions: plain Lean -/
/-- in lowest terms, below from 1 on -/
def Red (u v : Int) : Prop := 0 < v ∧ Nat.gcd u.natAbs v.natAbs = 1
/-- what both are divided by -/
def cut (x y : Int) : Int := if y < 0 then -((Nat.gcd x.natAbs y.natAbs : Nat) : Int) else ((Nat.gcd x.natAbs y.natAbs : Nat) : Int)
theorem cut_ne {x y : Int} (hy : y ≠ 0) : cut x y ≠ 0 := by
  have h : Nat.gcd x.natAbs y.natAbs ≠ 0 := fun e => hy (by have := Nat.eq_zero_of_gcd_eq_zero_right e; omega)
  unfold cut
  split <;> omega
theorem cut_le {x y : Int} (hy : y ≠ 0) : (cut x y).natAbs ≤ y.natAbs := by
  have h : Nat.gcd x.natAbs y.natAbs ≤ y.natAbs := Nat.gcd_le_right _ (by omega)
  unfold cut
  split <;> omega
theorem cut_ok {x y : Int} (hy : y ≠ 0) : Red (x.fdiv (cut x y)) (y.fdiv (cut x y)) ∧ x.fdiv (cut x y) * y = x * y.fdiv (cut x y) ∧ (x.fdiv (cut x y)).natAbs ≤ x.natAbs ∧ (y.fdiv (cut x y)).natAbs ≤ y.natAbs := by
  have hG : Nat.gcd x.natAbs y.natAbs ≠ 0 := fun e => hy (by have := Nat.eq_zero_of_gcd_eq_zero_right e; omega)
  obtain ⟨x', hx⟩ : ((Nat.gcd x.natAbs y.natAbs : Nat) : Int) ∣ x := Int.ofNat_dvd_left.mpr (Nat.gcd_dvd_left _ _)
  obtain ⟨y', hy'⟩ : ((Nat.gcd x.natAbs y.natAbs : Nat) : Int) ∣ y := Int.ofNat_dvd_left.mpr (Nat.gcd_dvd_right _ _)
  have hc := cut_ne (x := x) hy
  obtain ⟨s, hs, es⟩ : ∃ s : Int, (s = 1 ∨ s = -1) ∧ cut x y = s * ((Nat.gcd x.natAbs y.natAbs : Nat) : Int) ∧ 0 < s * y := by
    unfold cut
    by_cases c : y < 0
    · rw [if_pos c]
      exact ⟨-1, .inr rfl, by omega, by omega⟩
    · rw [if_neg c]
      exact ⟨1, .inl rfl, by omega, by omega⟩
  obtain ⟨es, sy⟩ := es
  generalize hg : Nat.gcd x.natAbs y.natAbs = G at *
  have ss : s * s = 1 := by rcases hs with e | e <;> rw [e] <;> rfl
  have sa : s.natAbs = 1 := by rcases hs with e | e <;> rw [e] <;> rfl
  have ex : x = cut x y * (s * x') := by
    rw [es, show s * (G : Int) * (s * x') = s * s * ((G : Int) * x') by rw [Int.mul_assoc, Int.mul_assoc, Int.mul_left_comm (G : Int) s x'], ss, Int.one_mul]
    exact hx
  have ey : y = cut x y * (s * y') := by
    rw [es, show s * (G : Int) * (s * y') = s * s * ((G : Int) * y') by rw [Int.mul_assoc, Int.mul_assoc, Int.mul_left_comm (G : Int) s y'], ss, Int.one_mul]
    exact hy'
  have ux : x.fdiv (cut x y) = s * x' := by
    generalize hcc : cut x y = cc at *
    rw [ex]
    exact Int.mul_fdiv_cancel_left _ hc
  have uy : y.fdiv (cut x y) = s * y' := by
    generalize hcc : cut x y = cc at *
    rw [ey]
    exact Int.mul_fdiv_cancel_left _ hc
  rw [ux, uy]
  have pos : 0 < s * y' := by
    have h1 : 0 < (G : Int) := by omega
    have h2 : s * y = (G : Int) * (s * y') := by
      rw [Int.mul_left_comm, ← hy']
    rw [h2] at sy
    exact Int.not_le.mp fun c => Int.not_le.mpr sy (Int.mul_nonpos_of_nonneg_of_nonpos (Int.le_of_lt h1) c)
  have ax : (s * x').natAbs = x'.natAbs := by rw [Int.natAbs_mul, sa, Nat.one_mul]
  have ay : (s * y').natAbs = y'.natAbs := by rw [Int.natAbs_mul, sa, Nat.one_mul]
  have nx : x.natAbs = G * x'.natAbs := by
    rw [hx, Int.natAbs_mul]
    rfl
  have ny : y.natAbs = G * y'.natAbs := by
    rw [hy', Int.natAbs_mul]
    rfl
  have G0 : 0 < G := Nat.pos_of_ne_zero hG
  refine ⟨⟨pos, ?_⟩, ?_, ?_, ?_⟩
  · rw [ax, ay]
    have e : Nat.gcd (G * x'.natAbs) (G * y'.natAbs) = G := by rw [← nx, ← ny]; exact hg
    rw [Nat.gcd_mul_left] at e
    have e2 : G * Nat.gcd x'.natAbs y'.natAbs = G * 1 := by rw [e, Nat.mul_one]
    exact Nat.eq_of_mul_eq_mul_left G0 e2
  · rw [show s * x' * y = s * x' * ((G : Int) * y') from congrArg (s * x' * ·) hy', show x * (s * y') = (G : Int) * x' * (s * y') from congrArg (· * (s * y')) hx]
    rw [Int.mul_assoc, Int.mul_assoc, Int.mul_left_comm s x' _, Int.mul_left_comm s (G : Int) y', Int.mul_left_comm x' (G : Int) (s * y')]
  · rw [ax, nx]
    exact Nat.le_mul_of_pos_left _ G0
  · rw [ay, ny]
    exact Nat.le_mul_of_pos_left _ G0
/-- two in lowest terms, of one value, are one -/
theorem red_uniq {a b c d : Int} (h : Red a b) (h' : Red c d) (e : a * d = c * b) : a = c ∧ b = d := by
  obtain ⟨b0, g1⟩ := h
  obtain ⟨d0, g2⟩ := h'
  have en : a.natAbs * d.natAbs = c.natAbs * b.natAbs := by rw [← Int.natAbs_mul, ← Int.natAbs_mul, e]
  have h1 : b.natAbs ∣ d.natAbs := by
    have : b.natAbs ∣ a.natAbs * d.natAbs := ⟨c.natAbs, by rw [en, Nat.mul_comm]⟩
    exact Nat.Coprime.dvd_of_dvd_mul_left (Nat.Coprime.symm g1) this
  have h2 : d.natAbs ∣ b.natAbs := by
    have : d.natAbs ∣ c.natAbs * b.natAbs := ⟨a.natAbs, by rw [← en, Nat.mul_comm]⟩
    exact Nat.Coprime.dvd_of_dvd_mul_left (Nat.Coprime.symm g2) this
  have h3 := Nat.dvd_antisymm h1 h2
  have hb : b = d := by omega
  rw [hb] at e
  exact ⟨Int.eq_of_mul_eq_mul_right (by omega) e, hb⟩
theorem red_pow {a b : Int} (h : Red a b) (n : Nat) : Red (a ^ n) (b ^ n) := by
  obtain ⟨h1, h2⟩ := h
  refine ⟨Int.pow_pos h1, ?_⟩
  rw [Int.natAbs_pow, Int.natAbs_pow]
  exact Nat.Coprime.pow n n h2
end MK

namespace L2
open PySem PySem.Spec PyProof.Rows
/-- // by what is not nought, below 2 ^ 9000 -/
def CDivWN (_ j : Int) : Prop := j ≠ 0 ∧ j.natAbs.log2 < 9000
section
variable {X : Cx}
theorem op_fdivWN : OpR X (binaryOp .FloorDiv) (rI CDivWN fun i j => .int (i.fdiv j)) := opI fun _ _ _ _ _ _ _ hc q => floordiv_int hc.1 q (.inl (PyProof.noPylong_of_log2 hc.2))
end
theorem divWN_ok {i j : Int} (h : j ≠ 0) (hb : j.natAbs < 2 ^ 8000) : CDivWN i j := ⟨h, Nat.lt_of_lt_of_le (PySem.Flt.log2_lt_of (by decide) hb) (by decide)⟩
/-- no error leaves a call that could let one out -/
theorem passN {X : Cx} : Passes (L2N.CX X.prog X.w) X E0 := fun _ _ _ _ _ _ _ h => by
  obtain ⟨_, _, _, _, _, _, _, _, _, _, _, _, z⟩ := h
  exact z.elim
/-- around a body nothing is let out -/
theorem takesN {X : Cx} : L2N.Takes X (fun _ _ _ _ => False) := fun _ _ x => by
  obtain ⟨_, _, _, _, _, _, _, _, _, _, _, _, _, _, _, _, z⟩ := x
  exact z.elim
theorem bootVE : bootBuiltins "ValueError" = some (.type "ValueError") := by decide +kernel
section
variable {P : Program} {w : World} {K : PySem.W.Frag} {mg : Str → Option Value} {base : Heap}
/-- a def that may raise, its errors' context None -/
theorem Fun.okN {x qual : Str} {st : Stmt} {f : Addr} {fd : FuncData} {N ps : List Str} {k : Nat} {sp : Sp} (F : Fun K x qual st f fd) (S : FnScope N ps (defScope st)) (len : ∀ vs H Q E, sp vs H Q E → vs.length = ps.length)
    (hb : ∀ (cdv : Value) (A : Around) (outer : List Env) (s : Shared) (H : Hp) (vs : List V) (Q : VK) (E : XK), Room k (A.deeper (envOfC qual (defScope st) s.heap.objs.size f cdv)) → sp vs H Q E →
      ∃ t, PSs (cxOf (L2N.CX P w) P w K mg base N qual (defScope st) f cdv A outer s H E) (defBody st) t ∧ t { nx := fun _ H' => Q .non H', rt := Q } (L2.start N vs) H) : FnOk P w K mg base (L2N.CX P w) (k + 1) f fd ps sp := by
  obtain ⟨oc, od, kV, doc, pm, an, cdv, ct, osl, rfl, lk, hcd⟩ := F.ex
  exact fn_of lk hcd S len fun A outer s H vs Q E hr hsp => hb cdv A outer s H vs Q E hr hsp
/-! ### a def called within an except suite, of the error that is handled (its class at D) -/
structure FnHE (P : Program) (w : World) (K : PySem.W.Frag) (mg : Str → Option Value) (base : Heap) (D : Addr) (k : Nat) (f : Addr) (fd : FuncData) (ps : List Str) (sp : Addr → Sp) : Prop where
  len : ∀ a vs H Q E, sp a vs H Q E → vs.length = ps.length
  run : ∀ (A : Around) (outer : List Env) (s : Shared) (H : Hp) (args : Args) (us : List Value) (vs : List V) (Q : VK) (E : XK) (p : Addr × Obj), L2H.RoomH k A → L2H.Hot1 A p → p.2.cls = .ref D → p.2.dict = none → L2H.PinOk outer H s p → Env0 P w K mg base A outer s H → BindsTo s fd args (ps.zip us) →
    Vals vs us → sp p.1 vs H Q E → codeAny (model P w) A (.call (.ref f) args) (CR CX0 outer P w H s Q E) s
theorem Fun.okHE {x qual : Str} {st : Stmt} {f D : Addr} {fd : FuncData} {N ps : List Str} {k : Nat} {sp : Addr → Sp} (F : Fun K x qual st f fd) (S : FnScope N ps (defScope st)) (len : ∀ a vs H Q E, sp a vs H Q E → vs.length = ps.length)
    (hbody : ∀ (cdv : Value) (A : Around) (outer : List Env) (s : Shared) (H : Hp) (vs : List V) (Q : VK) (E : XK) (p : Addr × Obj), L2H.Hot1 A p → p.2.cls = .ref D → p.2.dict = none → L2H.RoomH k (A.deeper (envOfC qual (defScope st) s.heap.objs.size f cdv)) → sp p.1 vs H Q E →
      ∃ t, PSs (L2H.cxH CX0 P w K mg base N qual (defScope st) f cdv A outer s H E p) (defBody st) t ∧ t { nx := fun _ H' => Q .non H', rt := Q } (L2.start N vs) H) : FnHE P w K mg base D (k + 1) f fd ps sp := by
  obtain ⟨oc, od, kV, doc, pm, an, cdv, ct, osl, rfl, lk, hcd⟩ := F.ex
  refine ⟨len, fun A outer s H args us vs Q E p hr hot hD hN hpin e0 hb r hsp => ?_⟩
  have hl := len _ _ _ _ _ hsp
  have keepB : ∀ b o, base.get? b = some o → s.heap.get? b = some o := fun b o e => (e0.bs b o e).1
  have KX : K.In s.heap := e0.mod.kin.keeps keepB
  have lim : s.heap.NoLimit := e0.mod.nolimit.keeps keepB
  have kinds : ∀ y ∈ ps.zip us, (defScope st).names.lookup y.1 = some .local ∨ ((defScope st).names.lookup y.1 = some .cell ∧ ((cellsFrom (s.heap.objs.size + 1) (defScope st).names []).lookup y.1).isSome = true) := by
    rintro ⟨n, v⟩ hy
    rcases S.par n (List.of_mem_zip hy).1 with q | q
    · exact .inl q
    · exact .inr ⟨q, PySem.W.cellsFrom_some _ _ _ (.inl q)⟩
  refine codeAny_call_function hr.depth (KX _ _ lk) rfl S.co S.gen rfl (PySem.W.codeRec_of KX hcd) (hb _ _ _ _ ?_)
  refine wpAny_newFunctionEnv_cells S.kind kinds fun env he s1 x => ?_
  subst he
  refine ⟨lim.keeps x.toInCall.keep, codeAny_func ?_⟩
  obtain ⟨t, ht, hq⟩ := hbody cdv A outer s H vs Q E p hot hD hN (hr.deeper _) hsp
  refine wpAny_mono (ht.run [] s1 (L2.start N vs) H _ (L2H.inv_startH S hpin e0 hl r x) hq) (fun fl s' hs => ?_) fun e s' hs => hs
  cases fl with
  | ret u =>
    obtain ⟨v, σ', H', J, rv, q⟩ := hs
    exact ⟨v, H', J.os, J.bare, J.base, J.hok, rv, q⟩
  | next =>
    obtain ⟨σ', H', J, q⟩ := hs
    exact ⟨V.non, H', J.os, J.bare, J.base, J.hok, rfl, q⟩
  | brk =>
    obtain ⟨_, _, _, q⟩ := hs
    exact False.elim q
  | cont =>
    obtain ⟨_, _, _, q⟩ := hs
    exact False.elim q
end
section
variable {X : Cx} {k : Nat} {f D : Addr} {fd : FuncData} {ps : List Str} {sp : Addr → Sp} {x : Str} {q pos : Pos} {e : Expr} {es : List Expr} {t : TA} {a : Addr} {oe : Obj} {cls : Value} {d : Option Addr} {pn : List (Addr × Obj)}
/-- f(e), within the suite that holds the error at a: asks that the error is the class's own, without a dict -/
theorem pe_callHE (F : FnHE X.prog X.w X.K X.mg X.base D k f fd ps sp) (hr : L2H.RoomH k X.A) (hz : L2N.Zn cls d oe) (hf : ∃ vs, oe.data = .fields vs) (hg : Gl X x) (hm : X.mg x = some (.ref f)) (hk : PySem.W.keepIn X.K (.ref f) = true) (hb : Binds X.K fd ps [])
    (ha : PA (X.suite a ((a, oe) :: pn)) (e :: es) t) (hdb : (x == ("__debug__" : Str)) = false := by decide) (he : starEach (e :: es) X.env = (false, eval e X.env) :: starEach es X.env := by rfl) (hpl : (backTo pos (starEach es X.env)).any (·.1) = false := by rfl) :
    PE (X.suite a ((a, oe) :: pn)) (.Call (.Name x q) (e :: es) [] pos) (fun σ H Q => cls = .ref D ∧ d = none ∧ t σ H fun vs H1 => sp a vs H1 Q E0) := by
  refine ⟨fun pins s σ H Q I h => ?_⟩
  obtain ⟨ec, ed, h⟩ := h
  refine wpAny_Call_Name_kw (ld_glob I hg hm ?_ hdb)
  refine PySem.W.callWith_K (h₀ := X.base) I.ok.mod.kin hk (thn (ha.run pos pins s σ H _ I h) fun us s1 hh => ?_) he hpl
  obtain ⟨vs, H1, I1, r, hsp⟩ := hh
  refine ⟨I1.kIn, ?_⟩
  have hl : us.length = ps.length := by rw [← r.length]; exact F.len _ _ _ _ _ hsp
  have b := hb s1 us I1.kIn (by rw [List.append_nil]; exact hl)
  rw [List.append_nil] at b
  have P1 := I1.pin (a, oe) (List.mem_append_left _ List.mem_cons_self)
  have hpin : L2H.PinOk (X.suite a ((a, oe) :: pn)).stack H1 s1 (a, oe) := ⟨P1.1, P1.2.1, fun hm => (List.mem_cons.mp (I1.stkSub a hm)).elim P1.2.2.1 P1.2.2.2.1, P1.2.2.2.2⟩
  have hot : L2H.Hot1 (X.suite a ((a, oe) :: pn)).A (a, oe) := by
    obtain ⟨vs, hv⟩ := hf
    exact ⟨rfl, vs, hv, hz.2.2 vs hv⟩
  refine wpAny_call (codeAny_mono (F.run _ _ s1 H1 ⟨us, []⟩ us vs Q E0 (a, oe) ⟨hr.dp, hr.un⟩ hot (hz.1.trans ec) (hz.2.1.trans ed) hpin I1.env0 b r hsp) fun res s' hq => ?_)
  cases res with
  | error er => exact hq.elim
  | ok fl =>
    cases fl with
    | ret u => exact I1.after hq
    | next => exact False.elim hq
    | brk => exact False.elim hq
    | cont => exact False.elim hq
/-- isinstance of an error that the context bears -/
theorem call_isP {X : Cx} {D : Addr} {p : Addr × Obj} (C : ExcC X.K D) (hp : p ∈ X.pn) (h1 : p.2.cls = .ref D) (h2 : p.2.dict = none) (hf : ∃ vs, p.2.data = .fields vs) : CallR X (.builtin "isinstance") (rIsE X.K D p.1) := by
  intro pins s σ H xs us Q I r h
  obtain ⟨c, cv, b, rfl, hcv, e, q⟩ := h
  obtain ⟨u1, u2, rfl, rx, rt⟩ := vals2 r
  cases rx
  have ec := hcv _ rt
  subst ec
  have hget := (I.pin p (List.mem_append_left _ hp)).1
  obtain ⟨vs, hv⟩ := hf
  have J : PySem.W.InstAt s.heap p.1 p.2 D none := by
    obtain ⟨a, oc, od, oda, osl⟩ := p
    dsimp only at h1 h2 hv
    subst h1 h2 hv
    exact ⟨hget, rfl, rfl, trivial⟩
  exact PySem.W.kia_one (PySem.W.handS_kitx_exc C.hg C.hk C.hs C.hd C.ha C.hn C.ht C.hm) I.kIn J e (fun z => nomatch z) fun tk => ⟨.bl b, H, I.kept (t' := tk) fun _ _ z => z, rfl, q⟩
/-- isinstance of the error that the suite handles, whatever its class -/
theorem call_isS {X : Cx} {a : Addr} {oe : Obj} {cls : Value} {d : Option Addr} {pn : List (Addr × Obj)} (hz : L2N.Zn cls d oe) (hf : ∃ vs, oe.data = .fields vs) :
    CallR (X.suite a ((a, oe) :: pn)) (.builtin "isinstance") (fun xs H Q => ∃ D, cls = .ref D ∧ d = none ∧ ExcC X.K D ∧ rIsE X.K D a xs H Q) := by
  intro pins s σ H xs us Q I r h
  obtain ⟨D, e1, e2, C, h⟩ := h
  exact call_isP (X := X.suite a ((a, oe) :: pn)) (p := (a, oe)) C List.mem_cons_self (hz.1.trans e1) (hz.2.1.trans e2) hf pins s σ H xs us Q I r h
end
end L2


set_option Elab.async false
set_option linter.all false
set_option maxRecDepth 100000
set_option maxHeartbeats 4000000
/-! New tuples told with their very object (it bears no dict); dict(t) of such a tuple of pairs. -/
namespace L2
open PySem PySem.Spec PyProof.Rows
/-- a tuple that bears no dict -/
def TupN (H : Hp) (a : Addr) (xs : List V) : Prop := ∃ o : Obj, H a = some (.frz o (.tup xs)) ∧ o.dict = none
theorem TupN.sq {K : PySem.W.Frag} {H : Hp} {a : Addr} {xs : List V} (h : TupN H a xs) : SqT K H a xs := by
  obtain ⟨o, h, _⟩ := h
  exact .inl (.inr ⟨o, h⟩)
section
variable {X : Cx} {es : List Expr} {t : TA} {pos : Pos}
/-- a written tuple -/
theorem pe_tupN {x1} (h : PA X es t) : PE X (.Tuple es x1 pos) (fun σ H Q => t σ H fun xs H1 => xs.length ≤ sizeLine ∧ ∀ (p : Addr) (o : Obj), H1 p = none → o.dict = none → Q (.ref p) (upd H1 p (.frz o (.tup xs)))) := by
  refine ⟨fun pins s σ H Q I hq => ?_⟩
  refine wpAny_Tuple_spliced (thn (h.run pos pins s σ H _ I hq) fun us u ⟨xs, H1, J, r, z, q⟩ => ⟨by rw [← r.length]; exact z, ?_⟩)
  refine ⟨.ref u.heap.objs.size, _, J.laid (t' := u.toks) (fun b o e => Heap.get?_push_of_some _ e) (Nat.le_refl _) ?_, rfl, q _ { cls := .type "tuple", data := .seq us.toArray } (J.hok.fresh (Nat.le_refl _)) rfl⟩
  exact ⟨Heap.get?_push_size _ rfl, z, us, r, ⟨_, Heap.get?_push_size _ rfl, rfl, _, rfl⟩⟩
/-- tuple(xs) of a list -/
theorem call_tupleN : CallR X (.type "tuple") (fun xs H Q => ∃ p ys, xs = [.ref p] ∧ SqL X.K H p ys ∧ ∀ (l : Addr) (o : Obj), H l = none → o.dict = none → Q (.ref l) (upd H l (.frz o (.tup ys)))) := by
  intro pins s σ H xs us Q I r h
  obtain ⟨p, ys, rfl, hq, q⟩ := h
  obtain ⟨u, rfl, rx⟩ := vals1 r
  cases rx
  obtain ⟨its, rv, pl, hz⟩ := I.list hq
  have hl := rv.length
  refine call_tuple_list pl.isList (fun h' kp => ?_) (by simp only [List.size_toArray] <;> omega)
  have J : Inv X pins σ H { s with heap := h' } := I.kept (t' := s.toks) kp
  exact ⟨.ref h'.objs.size, _, J.laid (t' := s.toks) (fun b o e => Heap.get?_push_of_some _ e) (Nat.le_refl _) (show ObjOk X.prog X.w _ _ _ (.frz { cls := .type "tuple", data := .seq its.toArray } (.tup ys)) from ⟨Heap.get?_push_size _ rfl, hz, its, rv, IsTup.new _ _⟩), rfl, q _ { cls := .type "tuple", data := .seq its.toArray } (J.hok.fresh (Nat.le_refl _)) rfl⟩
/-- the pairs, as values -/
theorem pairs_at {pins : List (Addr × Obj)} {σ : St} {H : Hp} {s : Shared} (I : Inv X pins σ H s) : ∀ {ps : List Addr} {kvs : List (Key × V)}, Paired (fun p kv => SqT X.K H p [kV kv.1, kv.2]) ps kvs →
    ∃ (prs : List (Key × Value)) (vps : List (Value × Value)), KV kvs prs ∧ prs.length = ps.length ∧ vps.length = ps.length ∧
      ∀ (j : Nat) (b : Addr), ps[j]? = some b → ∃ q u, prs[j]? = some q ∧ vps[j]? = some (u, q.2) ∧ IsTup s.heap b #[u, q.2] ∧ keyIs q.1 u = true
  | _, _, .nil => ⟨[], [], .nil, rfl, rfl, fun j q e => by simp at e⟩
  | _, _, .cons (a := p) (b := kv) h t => by
    obtain ⟨prs, vps, r, l1, l2, hp⟩ := pairs_at I t
    obtain ⟨its, rv, ht, _⟩ := I.tuple h
    obtain ⟨u, y, rfl, ru, ry⟩ := vals2 rv
    refine ⟨(kv.1, y) :: prs, (u, y) :: vps, .cons ⟨rfl, ry⟩ r, by simp [l1], by simp [l2], fun j b e => ?_⟩
    cases j with
    | zero =>
      obtain rfl : p = b := Option.some.inj e
      exact ⟨_, u, rfl, rfl, ht, kV_is (P := X.prog) (w := X.w) ru⟩
    | succ j =>
      obtain ⟨q, u', e1, e2, e3⟩ := hp j b (by simpa using e)
      exact ⟨q, u', by simpa using e1, by simpa using e2, e3⟩
/-- dict(t), t a tuple of pairs -/
theorem call_dictPT (hcalm : X.calm = true) : CallR X (.type "dict") (fun xs H Q => ∃ (a : Addr) (ps : List Addr) (kvs : List (Key × V)), xs = [.ref a] ∧ TupN H a (ps.map V.ref) ∧ Paired (fun p kv => SqT X.K H p [kV kv.1, kv.2]) ps kvs ∧
    ∀ p, H p = none → Q (.ref p) (upd H p (.dK (mergeK [] kvs)))) := by
  intro pins s σ H xs us Q I r q
  obtain ⟨a, ps, kvs, rfl, ⟨o, ha, dn⟩, hp, q⟩ := q
  obtain ⟨u, rfl, rx⟩ := vals1 r
  cases rx
  obtain ⟨go, hz, its, rv, ⟨o', ho', hc, n, hdat⟩⟩ := (show ObjOk X.prog X.w H s.heap a (.frz o (.tup (ps.map V.ref))) from I.hok a _ ha)
  obtain rfl : o = o' := Option.some.inj (go.symm.trans ho')
  have ei := refs_at rv
  subst ei
  rw [List.length_map] at hz
  obtain ⟨prs, vps, rel, l1, l2, hpr⟩ := pairs_at I hp
  have pi : PySem.PairItems s.heap (ps.map Value.ref).toArray (fun j => ps.getD j 0) vps := by
    refine ⟨by simp [l2], fun j k v e => ?_⟩
    have hj : j < ps.length := by rw [← l2]; exact (List.getElem?_eq_some_iff.mp e).1
    obtain ⟨q', u, e1, e2, e3, _⟩ := hpr j ps[j] (List.getElem?_eq_getElem hj)
    have ee : (k, v) = (u, q'.2) := Option.some.inj (e.symm.trans e2)
    obtain ⟨rfl, rfl⟩ := Prod.mk.inj ee
    have gd : ps.getD j 0 = ps[j] := by simp [List.getD, hj]
    refine ⟨by simp [hj], ?_⟩
    show PySem.PairAt s.heap (ps.getD j 0) k q'.2
    rw [gd]
    exact .inl e3
  refine PySem.call_dict_pairs (knd := mixKind X.prog X.w) (kvs := prs) (PySem.PairArg.tuple (prog := X.prog) (w := X.w) a (ps.map Value.ref).toArray (fun j => ps.getD j 0) vps) (I.ok.hd hcalm) ⟨⟨o, n, go, hc, dn, hdat⟩, pi⟩ ⟨by rw [l1, l2], fun i key v e => ?_⟩ (by rw [l2]; exact hz) fun h' tk hd' k => ?_
  · have hj : i < ps.length := by rw [← l2]; exact (List.getElem?_eq_some_iff.mp e).1
    obtain ⟨q', u, e1, e2, _, e4⟩ := hpr i ps[i] (List.getElem?_eq_getElem hj)
    have ee : (key, v) = (u, q'.2) := Option.some.inj (e.symm.trans e2)
    obtain ⟨rfl, rfl⟩ := Prod.mk.inj ee
    exact ⟨q'.1, e1, e4⟩
  · have hm : (s.heap.objs.size == sysModules) = false := beq_eq_false_iff_ne.mpr (Nat.ne_of_gt I.big)
    have hlen : (mergeK [] kvs).length ≤ sizeLine := by
      refine Nat.le_trans (length_mergeK kvs []) ?_
      rw [List.length_nil, Nat.zero_add, rel.length, l1]
      exact hz
    exact ⟨.ref s.heap.objs.size, upd H s.heap.objs.size (.dK (mergeK [] kvs)), I.laid (t' := tk) (fun b o e => k b o (fun z => nomatch z) e) (Nat.le_refl _) (show ObjOk X.prog X.w _ _ _ (.dK (mergeK [] kvs)) from ⟨hlen, hm, merged [] prs, KV.merge rel .nil, hd'⟩), rfl, q _ (I.hok.fresh (Nat.le_refl _))⟩
end
end L2


set_option Elab.async false
set_option linter.all false
set_option maxRecDepth 100000
set_option maxHeartbeats 4000000
/-! Reckonings: their form, where they lie in a heap, what they come to. -/
namespace MK
open PySem PySem.Spec PyProof.Rows L2
/-! ### names -/
/-- signs a to z alone -/
def Az (z : Str) : Prop := ∀ c ∈ z.cps.toList, 97 ≤ c ∧ c ≤ 122
/-- a name: 1 to 8 of them -/
def Nm (z : Str) : Prop := 1 ≤ z.length ∧ z.length ≤ 8 ∧ Az z
theorem Az.ok {z : Str} (h : Az z) : Ok z := fun c hc => by
  have := h c hc
  omega
theorem az_app {a b : Str} (ha : Az a) (hb : Az b) : Az (a ++ b) := fun c hc => by
  have hc : c ∈ (a.cps ++ b.cps).toList := hc
  rw [Array.toList_append] at hc
  rcases List.mem_append.mp hc with h | h
  · exact ha c h
  · exact hb c h
theorem az_one {c : Nat} (h : 97 ≤ c ∧ c ≤ 122) : Az ⟨#[c]⟩ := fun x hx => by
  have : x = c := by simpa using hx
  rw [this]
  exact h
theorem az_fold (c : Array Nat) (hc : ∀ x ∈ c.toList, 97 ≤ x ∧ x ≤ 122) : ∀ (k : Nat) (acc : Array Nat), (∀ x ∈ acc.toList, 97 ≤ x ∧ x ≤ 122) → ∀ x ∈ ((List.replicate k c).foldl (· ++ ·) acc).toList, 97 ≤ x ∧ x ≤ 122
  | 0, acc, h => h
  | k + 1, acc, h => by
    rw [List.replicate_succ, List.foldl_cons]
    refine az_fold c hc k _ fun x hx => ?_
    rw [Array.toList_append] at hx
    rcases List.mem_append.mp hx with q | q
    · exact h x q
    · exact hc x q
theorem az_rep {z : Str} (h : Az z) (n : Int) : Az (strRep z n) := by
  unfold strRep
  by_cases c : n < 1
  · rw [if_pos c]
    exact fun x hx => absurd hx (by simp [Str.empty])
  · rw [if_neg c]
    by_cases d : (n == 1 || z.length == 0) = true
    · rw [if_pos d]
      exact h
    · rw [if_neg d]
      exact az_fold _ h _ _ (fun x hx => absurd hx (by simp))
theorem nm_lt {z : Str} (h : Nm z) : LtOk z := ⟨fun e => by
  have h1 : 1 ≤ z.cps.size := h.1
  rw [← Array.length_toList, e] at h1
  exact absurd h1 (by decide), h.2.2.ok⟩
/-! ### numbers -/
/-- below 2 ^ n either way -/
def Sm (n : Nat) (x : Int) : Prop := x.natAbs < 2 ^ n
theorem Sm.mono {a b : Nat} {x : Int} (h : Sm a x) (l : a ≤ b) : Sm b x := Nat.lt_of_lt_of_le h (Nat.pow_le_pow_right (by decide) l)
theorem Sm.le {a : Nat} {x y : Int} (h : Sm a x) (l : y.natAbs ≤ x.natAbs) : Sm a y := Nat.lt_of_le_of_lt l h
theorem Sm.neg {a : Nat} {x : Int} (h : Sm a x) : Sm a (-x) := by
  unfold Sm at *
  omega
theorem Sm.mul {a b : Nat} {x y : Int} (h : Sm a x) (g : Sm b y) : Sm (a + b) (x * y) := by
  unfold Sm at *
  rw [Int.natAbs_mul, Nat.pow_add]
  exact Nat.mul_lt_mul'' h g
theorem Sm.add {a : Nat} {x y : Int} (h : Sm a x) (g : Sm a y) : Sm (a + 1) (x + y) := by
  unfold Sm at *
  rw [Nat.pow_succ]
  omega
theorem Sm.sub {a : Nat} {x y : Int} (h : Sm a x) (g : Sm a y) : Sm (a + 1) (x - y) := by
  unfold Sm at *
  rw [Nat.pow_succ]
  omega
theorem Sm.pow {a : Nat} {x : Int} (h : Sm a x) : ∀ n : Nat, Sm (a * n + 1) (x ^ n)
  | 0 => by
    show (x ^ 0).natAbs < 2 ^ (a * 0 + 1)
    rw [Int.pow_zero, Nat.mul_zero]
    decide
  | n + 1 => by
    have := (Sm.pow h n).mul h
    rw [← Int.pow_succ] at this
    exact this.mono (by rw [Nat.mul_succ]; omega)
theorem Sm.mulW {a b : Nat} {x y : Int} (h : Sm a x) (g : Sm b y) (l : a + b ≤ 100000) : CMulW x y := by
  have h1 := wide_mul (a := a + 1) (b := b + 1) (h.mono (by omega)) (g.mono (by omega)) (by omega) (by omega) (by omega)
  exact h1
theorem Sm.div {a : Nat} {x : Int} (h : Sm a x) (n : x ≠ 0) (l : a ≤ 8000) : CDivWN 0 x := ⟨n, by
  have := PySem.Flt.log2_lt_of (k := a + 1) (by omega) (Nat.lt_of_lt_of_le h (Nat.pow_le_pow_right (by decide) (by omega)))
  omega⟩
theorem divN_any {i i' j : Int} (h : CDivWN i j) : CDivWN i' j := h
/-! ### the form -/
inductive Op4 where
  | plus | minus | times | over
deriving DecidableEq
def Op4.name : Op4 → Str
  | .plus => "plus" | .minus => "minus" | .times => "times" | .over => "over"
inductive Rk where
  | is (x y : Int) (m : Ms)
  | nought
  | input (s : Str)
  | bin (o : Op4) (a b : Rk)
  | power (a : Rk) (n : Int)
  | less (a b c d : Rk)
/-- at b the measure m, a tuple that bears no dict -/
def MsN (H : Hp) (b : Addr) (m : Ms) : Prop := ∃ ts : List Addr, TupN H b (ts.map V.ref) ∧ Paired (PrAt H) ts m
theorem MsN.same {H H' : Hp} {b : Addr} {m : Ms} (s : Same H H') (h : MsN H b m) : MsN H' b m := by
  obtain ⟨ts, ⟨o, e, d⟩, p⟩ := h
  exact ⟨ts, ⟨o, s _ _ e, d⟩, pr_same s p⟩
abbrev FracAt (H : Hp) (p : Addr) (u v : Int) : Prop := H p = some (.tup [.int u, .int v])
/-- a reckoning as it lies there -/
def TrAt (H : Hp) : Rk → Addr → Prop
  | .is x y m, p => ∃ q b, H p = some (.tup [.str "is", .ref q, .ref b]) ∧ FracAt H q x y ∧ MsN H b m
  | .nought, p => H p = some (.tup [.str "nought"])
  | .input s, p => H p = some (.tup [.str "input", .str s])
  | .bin o a b, p => ∃ q r, H p = some (.tup [.str o.name, .ref q, .ref r]) ∧ TrAt H a q ∧ TrAt H b r
  | .power a n, p => ∃ q, H p = some (.tup [.str "power", .ref q, .int n]) ∧ TrAt H a q
  | .less a b c d, p => ∃ q r s t, H p = some (.tup [.str "less", .ref q, .ref r, .ref s, .ref t]) ∧ TrAt H a q ∧ TrAt H b r ∧ TrAt H c s ∧ TrAt H d t
theorem TrAt.same {H H' : Hp} (s : Same H H') : ∀ {r : Rk} {p : Addr}, TrAt H r p → TrAt H' r p
  | .is x y m, p, ⟨q, b, h1, h2, h3⟩ => ⟨q, b, s _ _ h1, s _ _ h2, h3.same s⟩
  | .nought, p, h => s p _ h
  | .input z, p, h => s p _ h
  | .bin o a b, p, ⟨q, r, h1, h2, h3⟩ => ⟨q, r, s _ _ h1, TrAt.same s h2, TrAt.same s h3⟩
  | .power a n, p, ⟨q, h1, h2⟩ => ⟨q, s _ _ h1, TrAt.same s h2⟩
  | .less a b c d, p, ⟨q, r, u, v, h1, h2, h3, h4, h5⟩ => ⟨q, r, u, v, s _ _ h1, TrAt.same s h2, TrAt.same s h3, TrAt.same s h4, TrAt.same s h5⟩
/-- a measure of an is: in its form, few letters, all of them bases, small powers -/
structure MsIn (m : Ms) : Prop where
  can : Can m
  few : m.length ≤ 6
  nm : ∀ p ∈ m, Nm p.1
  sm : ∀ p ∈ m, p.2.natAbs ≤ 20
/-- within the bounds that its parts have -/
def Rk.Ok : Rk → Prop
  | .is x y m => Red x y ∧ x.natAbs ≤ 10 ^ 9 ∧ y ≤ 10 ^ 9 ∧ MsIn m
  | .nought => True
  | .input s => Nm s
  | .bin _ a b => a.Ok ∧ b.Ok
  | .power a n => a.Ok ∧ -4 ≤ n ∧ n ≤ 4
  | .less a b c d => a.Ok ∧ b.Ok ∧ c.Ok ∧ d.Ok
/-- how deep: one without parts is one deep -/
def Rk.deep : Rk → Nat
  | .bin _ a b => 1 + max a.deep b.deep
  | .power a _ => 1 + a.deep
  | .less a b c d => 1 + max (max a.deep b.deep) (max c.deep d.deep)
  | _ => 1
/-- how many reckonings in all -/
def Rk.many : Rk → Nat
  | .bin _ a b => 1 + (a.many + b.many)
  | .power a _ => 1 + a.many
  | .less a b c d => 1 + (a.many + b.many + c.many + d.many)
  | _ => 1
/-- how many powers within one another -/
def Rk.pows : Rk → Nat
  | .bin _ a b => max a.pows b.pows
  | .power a _ => 1 + a.pows
  | .less a b c d => max (max a.pows b.pows) (max c.pows d.pows)
  | _ => 0
/-- how many noughts -/
def Rk.noughts : Rk → Nat
  | .nought => 1
  | .bin _ a b => a.noughts + b.noughts
  | .power a _ => a.noughts
  | .less a b c d => a.noughts + b.noughts + c.noughts + d.noughts
  | _ => 0
/-- the names of its inputs, as they stand -/
def Rk.ins : Rk → List Str
  | .input s => [s]
  | .bin _ a b => a.ins ++ b.ins
  | .power a _ => a.ins
  | .less a b c d => a.ins ++ b.ins ++ c.ins ++ d.ins
  | _ => []
/-- the letters of its numbers -/
def Rk.lts : Rk → List Str
  | .is _ _ m => m.map (·.1)
  | .bin _ a b => a.lts ++ b.lts
  | .power a _ => a.lts
  | .less a b c d => a.lts ++ b.lts ++ c.lts ++ d.lts
  | _ => []
theorem Rk.deep_pos : ∀ r : Rk, 1 ≤ r.deep
  | .is _ _ _ => Nat.le_refl _ | .nought => Nat.le_refl _ | .input _ => Nat.le_refl _
  | .bin _ _ _ => Nat.le_add_right _ _ | .power _ _ => Nat.le_add_right _ _ | .less _ _ _ _ => Nat.le_add_right _ _
/-! ### what it comes to -/
/-- x over y in lowest terms -/
def norm (x y : Int) : Int × Int := (x.fdiv (cut x y), y.fdiv (cut x y))
theorem norm_red {x y : Int} (h : y ≠ 0) : Red (norm x y).1 (norm x y).2 := (cut_ok h).1
theorem norm_val {x y : Int} (h : y ≠ 0) : (norm x y).1 * y = x * (norm x y).2 := (cut_ok h).2.1
theorem norm_sm {x y : Int} {a : Nat} (h : y ≠ 0) (h1 : Sm a x) (h2 : Sm a y) : Sm a (norm x y).1 ∧ Sm a (norm x y).2 := ⟨h1.le (cut_ok h).2.2.1, h2.le (cut_ok h).2.2.2⟩
theorem norm_is {x y u v : Int} (h : y ≠ 0) (r : Red u v) (e : u * y = x * v) : norm x y = (u, v) := by
  have h1 := norm_red (x := x) h
  have h2 := norm_val (x := x) h
  obtain ⟨e1, e2⟩ := red_uniq h1 r (by
    have h3 : (norm x y).1 * v * y = u * (norm x y).2 * y := by
      rw [Int.mul_right_comm, h2, Int.mul_right_comm u, e, Int.mul_right_comm]
    exact Int.eq_of_mul_eq_mul_right h h3)
  exact Prod.ext e1 e2
def valOp : Op4 → Int × Int → Int × Int → Option (Int × Int)
  | .plus, a, b => some (norm (a.1 * b.2 + b.1 * a.2) (a.2 * b.2))
  | .minus, a, b => some (norm (a.1 * b.2 - b.1 * a.2) (a.2 * b.2))
  | .times, a, b => some (norm (a.1 * b.1) (a.2 * b.2))
  | .over, a, b => if b.1 = 0 then none else some (norm (a.1 * b.2) (a.2 * b.1))
def pwA (x y n : Int) : Int := if n < 0 then y ^ n.natAbs else x ^ n.natAbs
def pwB (x y n : Int) : Int := if n < 0 then x ^ n.natAbs else y ^ n.natAbs
def valPow (a : Int × Int) (n : Int) : Option (Int × Int) := if pwB a.1 a.2 n = 0 then none else some (norm (pwA a.1 a.2 n) (pwB a.1 a.2 n))
def val (env : Str → Option (Int × Int)) : Rk → Option (Int × Int)
  | .is x y _ => some (x, y)
  | .nought => some (0, 1)
  | .input s => env s
  | .bin o a b => (val env a).bind fun u => (val env b).bind fun v => valOp o u v
  | .power a n => (val env a).bind fun u => valPow u n
  | .less a b c d => (val env a).bind fun u => (val env b).bind fun v => if u.1 * v.2 < v.1 * u.2 then val env c else val env d
/-- how many signs (in twos) its value may have -/
def Rk.bits : Rk → Nat
  | .bin _ a b => a.bits + b.bits + 1
  | .power a _ => a.bits * 4 + 1
  | .less a b c d => max (max a.bits b.bits) (max c.bits d.bits)
  | _ => 30
/-- a fraction in lowest terms, below 2 ^ n -/
def FrSm (n : Nat) (u : Int × Int) : Prop := Red u.1 u.2 ∧ Sm n u.1 ∧ Sm n u.2
theorem FrSm.mono {a b : Nat} {u : Int × Int} (h : FrSm a u) (l : a ≤ b) : FrSm b u := ⟨h.1, h.2.1.mono l, h.2.2.mono l⟩
theorem valOp_sm {o : Op4} {u v r : Int × Int} {a b : Nat} (hu : FrSm a u) (hv : FrSm b v) (e : valOp o u v = some r) : FrSm (a + b + 1) r := by
  obtain ⟨ru, u1, u2⟩ := hu
  obtain ⟨rv, v1, v2⟩ := hv
  have n0 : u.2 * v.2 ≠ 0 := Int.ne_of_gt (Int.mul_pos ru.1 rv.1)
  have s0 : Sm (a + b + 1) (u.2 * v.2) := (u2.mul v2).mono (by omega)
  have c1 : Sm (a + b) (u.1 * v.2) := u1.mul v2
  have c2 : Sm (a + b) (v.1 * u.2) := (v1.mul u2).mono (by omega)
  cases o with
  | plus =>
    cases e
    exact ⟨norm_red n0, norm_sm n0 (c1.add c2) s0⟩
  | minus =>
    cases e
    exact ⟨norm_red n0, norm_sm n0 (c1.sub c2) s0⟩
  | times =>
    cases e
    exact ⟨norm_red n0, norm_sm n0 ((u1.mul v1).mono (by omega)) s0⟩
  | over =>
    have e : (if v.1 = 0 then none else some (norm (u.1 * v.2) (u.2 * v.1))) = some r := e
    by_cases z : v.1 = 0
    · rw [if_pos z] at e
      cases e
    · rw [if_neg z] at e
      cases e
      have n1 : u.2 * v.1 ≠ 0 := Int.mul_ne_zero (Int.ne_of_gt ru.1) z
      exact ⟨norm_red n1, norm_sm n1 (c1.mono (by omega)) ((u2.mul v1).mono (by omega))⟩
theorem pw_sm {x y n : Int} {a : Nat} (hx : Sm a x) (hy : Sm a y) (h1 : -4 ≤ n) (h2 : n ≤ 4) : Sm (a * 4 + 1) (pwA x y n) ∧ Sm (a * 4 + 1) (pwB x y n) := by
  have l : a * n.natAbs + 1 ≤ a * 4 + 1 := Nat.add_le_add_right (Nat.mul_le_mul_left _ (by omega)) 1
  unfold pwA pwB
  by_cases e : n < 0
  · rw [if_pos e, if_pos e]
    exact ⟨(hy.pow _).mono l, (hx.pow _).mono l⟩
  · rw [if_neg e, if_neg e]
    exact ⟨(hx.pow _).mono l, (hy.pow _).mono l⟩
theorem valPow_sm {u r : Int × Int} {n : Int} {a : Nat} (hu : FrSm a u) (h1 : -4 ≤ n) (h2 : n ≤ 4) (e : valPow u n = some r) : FrSm (a * 4 + 1) r := by
  unfold valPow at e
  by_cases z : pwB u.1 u.2 n = 0
  · rw [if_pos z] at e
    cases e
  · rw [if_neg z] at e
    cases e
    obtain ⟨s1, s2⟩ := pw_sm hu.2.1 hu.2.2 h1 h2
    exact ⟨norm_red z, norm_sm z s1 s2⟩
theorem bind_some {α β : Type} {o : Option α} {f : α → Option β} {r : β} (e : o.bind f = some r) : ∃ u, o = some u ∧ f u = some r := by
  cases o with
  | none => cases e
  | some u => exact ⟨u, rfl, e⟩
theorem sm30 {x : Int} (h : x.natAbs ≤ 10 ^ 9) : Sm 30 x := Nat.lt_of_le_of_lt h (by decide)
theorem val_sm {env : Str → Option (Int × Int)} (he : ∀ s u, env s = some u → FrSm 30 u) : ∀ {r : Rk} {u : Int × Int}, r.Ok → val env r = some u → FrSm r.bits u
  | .is x y m, u, ⟨h1, h2, h3, _⟩, e => by
    cases e
    exact ⟨h1, sm30 h2, sm30 (by have := h1.1; omega)⟩
  | .nought, u, _, e => by
    cases e
    exact ⟨⟨by decide, by decide⟩, by show (0 : Int).natAbs < 2 ^ 30; decide, by show (1 : Int).natAbs < 2 ^ 30; decide⟩
  | .input s, u, _, e => he s u e
  | .bin o a b, u, ⟨h1, h2⟩, e => by
    obtain ⟨x, e1, e⟩ := bind_some e
    obtain ⟨y, e2, e⟩ := bind_some e
    exact valOp_sm (val_sm he h1 e1) (val_sm he h2 e2) e
  | .power a n, u, ⟨h1, h2, h3⟩, e => by
    obtain ⟨x, e1, e⟩ := bind_some e
    exact valPow_sm (val_sm he h1 e1) h2 h3 e
  | .less a b c d, u, ⟨h1, h2, h3, h4⟩, e => by
    obtain ⟨x, e1, e⟩ := bind_some e
    obtain ⟨y, e2, e⟩ := bind_some e
    by_cases z : x.1 * y.2 < y.1 * x.2
    · rw [if_pos z] at e
      exact (val_sm he h3 e).mono (Nat.le_trans (Nat.le_max_left _ _) (Nat.le_max_right _ _))
    · rw [if_neg z] at e
      exact (val_sm he h4 e).mono (Nat.le_trans (Nat.le_max_right _ _) (Nat.le_max_right _ _))
/-- the most signs by depth and powers: for the law's trees -/
theorem bits_by : ∀ {r : Rk}, r.deep ≤ 4 → r.pows ≤ 2 → r.bits ≤ 1000 := by
  have leaf : ∀ r : Rk, r.deep ≤ 1 → r.bits ≤ 30 ∧ r.pows = 0 := fun r h => by
    cases r with
    | bin o a b => have h : 1 + max a.deep b.deep ≤ 1 := h; have := a.deep_pos; omega
    | power a n => have h : 1 + a.deep ≤ 1 := h; have := a.deep_pos; omega
    | less a b c d => have h : 1 + max (max a.deep b.deep) (max c.deep d.deep) ≤ 1 := h; have := a.deep_pos; omega
    | is _ _ _ => exact ⟨Nat.le_refl _, rfl⟩
    | nought => exact ⟨Nat.le_refl _, rfl⟩
    | input _ => exact ⟨Nat.le_refl _, rfl⟩
  have two : ∀ r : Rk, r.deep ≤ 2 → (r.pows = 0 → r.bits ≤ 61) ∧ r.bits ≤ 121 := fun r h => by
    cases r with
    | bin o a b =>
      have h : 1 + max a.deep b.deep ≤ 2 := h
      have := leaf a (by omega); have := leaf b (by omega)
      show (_ → a.bits + b.bits + 1 ≤ 61) ∧ a.bits + b.bits + 1 ≤ 121
      omega
    | power a n =>
      have h : 1 + a.deep ≤ 2 := h
      have := leaf a (by omega)
      show (1 + a.pows = 0 → _) ∧ a.bits * 4 + 1 ≤ 121
      omega
    | less a b c d =>
      have h : 1 + max (max a.deep b.deep) (max c.deep d.deep) ≤ 2 := h
      have := leaf a (by omega); have := leaf b (by omega); have := leaf c (by omega); have := leaf d (by omega)
      show (_ → max (max a.bits b.bits) (max c.bits d.bits) ≤ 61) ∧ max (max a.bits b.bits) (max c.bits d.bits) ≤ 121
      omega
    | is _ _ _ => exact ⟨fun _ => by show 30 ≤ 61; decide, by show 30 ≤ 121; decide⟩
    | nought => exact ⟨fun _ => by show 30 ≤ 61; decide, by show 30 ≤ 121; decide⟩
    | input _ => exact ⟨fun _ => by show 30 ≤ 61; decide, by show 30 ≤ 121; decide⟩
  have three : ∀ r : Rk, r.deep ≤ 3 → (r.pows ≤ 1 → r.bits ≤ 245) ∧ (r.pows ≤ 2 → r.bits ≤ 485) := fun r h => by
    cases r with
    | bin o a b =>
      have h : 1 + max a.deep b.deep ≤ 3 := h
      have := two a (by omega); have := two b (by omega)
      show (max a.pows b.pows ≤ 1 → a.bits + b.bits + 1 ≤ 245) ∧ (max a.pows b.pows ≤ 2 → a.bits + b.bits + 1 ≤ 485)
      omega
    | power a n =>
      have h : 1 + a.deep ≤ 3 := h
      have := two a (by omega)
      show (1 + a.pows ≤ 1 → a.bits * 4 + 1 ≤ 245) ∧ (1 + a.pows ≤ 2 → a.bits * 4 + 1 ≤ 485)
      omega
    | less a b c d =>
      have h : 1 + max (max a.deep b.deep) (max c.deep d.deep) ≤ 3 := h
      have := two a (by omega); have := two b (by omega); have := two c (by omega); have := two d (by omega)
      show (max (max a.pows b.pows) (max c.pows d.pows) ≤ 1 → max (max a.bits b.bits) (max c.bits d.bits) ≤ 245) ∧ (max (max a.pows b.pows) (max c.pows d.pows) ≤ 2 → max (max a.bits b.bits) (max c.bits d.bits) ≤ 485)
      omega
    | is _ _ _ => exact ⟨fun _ => by show 30 ≤ 245; decide, fun _ => by show 30 ≤ 485; decide⟩
    | nought => exact ⟨fun _ => by show 30 ≤ 245; decide, fun _ => by show 30 ≤ 485; decide⟩
    | input _ => exact ⟨fun _ => by show 30 ≤ 245; decide, fun _ => by show 30 ≤ 485; decide⟩
  intro r h p
  cases r with
  | bin o a b =>
    have h : 1 + max a.deep b.deep ≤ 4 := h
    have p : max a.pows b.pows ≤ 2 := p
    have := three a (by omega); have := three b (by omega)
    show a.bits + b.bits + 1 ≤ 1000
    omega
  | power a n =>
    have h : 1 + a.deep ≤ 4 := h
    have p : 1 + a.pows ≤ 2 := p
    have := three a (by omega)
    show a.bits * 4 + 1 ≤ 1000
    omega
  | less a b c d =>
    have h : 1 + max (max a.deep b.deep) (max c.deep d.deep) ≤ 4 := h
    have p : max (max a.pows b.pows) (max c.pows d.pows) ≤ 2 := p
    have := three a (by omega); have := three b (by omega); have := three c (by omega); have := three d (by omega)
    show max (max a.bits b.bits) (max c.bits d.bits) ≤ 1000
    omega
  | is _ _ _ => show 30 ≤ 1000; decide
  | nought => show 30 ≤ 1000; decide
  | input _ => show 30 ≤ 1000; decide
end MK
namespace MK
open PySem PySem.Spec PyProof.Rows L2
/-- what a dict gives when made: of its pairs -/
theorem made_in {m r : Ms} (hc : Can r) (he : ∀ j, at0 r j = at0 m j) : ∀ x ∈ r, x ∈ m := fun x hx => by
  have q := (hc.mem x.1 x.2).mp hx
  have q2 : at0 m x.1 = x.2 := by rw [← he]; exact q.2
  have q3 := at0_mem (m := m) (j := x.1) (by rw [q2]; exact q.1)
  rw [q2] at q3
  exact q3
theorem made_few {m r : Ms} (hc : Can r) (he : ∀ j, at0 r j = at0 m j) : r.length ≤ m.length := List.Nodup.length_le_of_subset (nodup_of_map hc.ris.nodup) (made_in hc he)
theorem two_val {a b : V} {i : Int} (h0 : 0 ≤ i) (h1 : i < 2) : ∃ v, atI [a, b] i = some v ∧ (v = a ∨ v = b) := by
  have : i = 0 ∨ i = 1 := by omega
  rcases this with rfl | rfl
  · exact ⟨a, rfl, .inl rfl⟩
  · exact ⟨b, rfl, .inr rfl⟩
theorem abs_natI (i : Int) : (if i < 0 then -i else i) = ((i.natAbs : Nat) : Int) := by
  split <;> omega
/-- an item of a list of texts at a place modulo its length -/
theorem mod_at {ws : List Str} (h0 : ws ≠ []) (x : Int) : ∃ z ∈ ws, atI (ws.map V.str) (x % ((ws.map V.str).length : Int)) = some (.str z) := by
  have hl : (0 : Int) < ((ws.map V.str).length : Int) := by
    rw [List.length_map]
    have := List.length_pos_iff.mpr h0
    omega
  obtain ⟨j, ej⟩ := Int.eq_ofNat_of_zero_le (Int.emod_nonneg x (show ((ws.map V.str).length : Int) ≠ 0 by omega))
  have hj : j < ws.length := by
    have := Int.emod_lt_of_pos x hl
    rw [List.length_map] at this ej
    omega
  refine ⟨ws[j], List.getElem_mem hj, ?_⟩
  rw [ej]
  exact atI_nat (by rw [List.getElem?_map, List.getElem?_eq_getElem hj]; rfl)
/-- a list of names -/
structure NmsAt (H : Hp) (a : Addr) (ws : List Str) : Prop where
  h : H a = some (.lst (ws.map V.str))
  n : ws ≠ []
  l : ws.length ≤ 1000
  z : ∀ z ∈ ws, Nm z
theorem NmsAt.same {H H' : Hp} {a : Addr} {ws : List Str} (s : Same H H') (h : NmsAt H a ws) : NmsAt H' a ws := ⟨s _ _ h.h, h.n, h.l, h.z⟩
/-- a reckoning of these names and letters, d deep at most, with at most p powers within one another -/
structure RkIn (ws bs : List Str) (d p : Nat) (r : Rk) : Prop where
  ok : r.Ok
  deep : r.deep ≤ d
  pows : r.pows ≤ p
  ins : ∀ s ∈ r.ins, s ∈ ws
  lts : ∀ s ∈ r.lts, s ∈ bs
theorem RkIn.mono {ws bs : List Str} {d p d' p' : Nat} {r : Rk} (h : RkIn ws bs d p r) (hd : d ≤ d') (hp : p ≤ p') : RkIn ws bs d' p' r := ⟨h.ok, Nat.le_trans h.deep hd, Nat.le_trans h.pows hp, h.ins, h.lts⟩
theorem RkIn.bin {ws bs : List Str} {d p : Nat} {a b : Rk} (o : Op4) (h : RkIn ws bs d p a) (g : RkIn ws bs d p b) : RkIn ws bs (1 + d) p (.bin o a b) := by
  refine ⟨⟨h.ok, g.ok⟩, ?_, ?_, fun s hs => ?_, fun s hs => ?_⟩
  · have := h.deep; have := g.deep
    show 1 + max a.deep b.deep ≤ _
    omega
  · have := h.pows; have := g.pows
    show max a.pows b.pows ≤ _
    omega
  · rcases List.mem_append.mp hs with z | z
    · exact h.ins s z
    · exact g.ins s z
  · rcases List.mem_append.mp hs with z | z
    · exact h.lts s z
    · exact g.lts s z
theorem RkIn.power {ws bs : List Str} {d p : Nat} {a : Rk} {n : Int} (h : RkIn ws bs d p a) (h1 : -4 ≤ n) (h2 : n ≤ 4) : RkIn ws bs (1 + d) (1 + p) (.power a n) := by
  refine ⟨⟨h.ok, h1, h2⟩, ?_, ?_, h.ins, h.lts⟩
  · have := h.deep
    show 1 + a.deep ≤ _
    omega
  · have := h.pows
    show 1 + a.pows ≤ _
    omega
theorem RkIn.less {ws bs : List Str} {d p : Nat} {a b c e : Rk} (h : RkIn ws bs d p a) (g : RkIn ws bs d p b) (i : RkIn ws bs d p c) (j : RkIn ws bs d p e) : RkIn ws bs (1 + d) p (.less a b c e) := by
  have ap : ∀ {s : Str} {k l m n : List Str}, s ∈ k ++ l ++ m ++ n → s ∈ k ∨ s ∈ l ∨ s ∈ m ∨ s ∈ n := fun hs => by
    simp only [List.mem_append] at hs
    rcases hs with ((h1 | h1) | h1) | h1
    · exact .inl h1
    · exact .inr (.inl h1)
    · exact .inr (.inr (.inl h1))
    · exact .inr (.inr (.inr h1))
  refine ⟨⟨h.ok, g.ok, i.ok, j.ok⟩, ?_, ?_, fun s hs => ?_, fun s hs => ?_⟩
  · have := h.deep; have := g.deep; have := i.deep; have := j.deep
    show 1 + max (max a.deep b.deep) (max c.deep e.deep) ≤ _
    omega
  · have := h.pows; have := g.pows; have := i.pows; have := j.pows
    show max (max a.pows b.pows) (max c.pows e.pows) ≤ _
    omega
  · rcases ap hs with z | z | z | z
    · exact h.ins s z
    · exact g.ins s z
    · exact i.ins s z
    · exact j.ins s z
  · rcases ap hs with z | z | z | z
    · exact h.lts s z
    · exact g.lts s z
    · exact i.lts s z
    · exact j.lts s z
theorem RkIn.nought {ws bs : List Str} {d p : Nat} (hd : 1 ≤ d) : RkIn ws bs d p .nought := ⟨trivial, hd, Nat.zero_le _, fun s hs => absurd hs (by show s ∉ []; simp), fun s hs => absurd hs (by show s ∉ []; simp)⟩
theorem RkIn.input {ws bs : List Str} {d p : Nat} {z : Str} (hd : 1 ≤ d) (hz : z ∈ ws) (n : Nm z) : RkIn ws bs d p (.input z) := ⟨n, hd, Nat.zero_le _, fun s hs => by
  have : s = z := List.mem_singleton.mp hs
  rw [this]
  exact hz, fun s hs => absurd hs (by show s ∉ []; simp)⟩
theorem RkIn.is {ws bs : List Str} {d p : Nat} {x y : Int} {m : Ms} (hd : 1 ≤ d) (r : Red x y) (h1 : x.natAbs ≤ 10 ^ 9) (h2 : y ≤ 10 ^ 9) (c : Can m) (l : m.length ≤ 6) (hb : ∀ z ∈ bs, Nm z) (hm : ∀ q ∈ m, q.1 ∈ bs ∧ q.2.natAbs ≤ 20) : RkIn ws bs d p (.is x y m) :=
  ⟨⟨r, h1, h2, c, l, fun q hq => hb _ (hm q hq).1, fun q hq => (hm q hq).2⟩, hd, Nat.zero_le _, fun s hs => absurd hs (by show s ∉ []; simp), fun s hs => by
    obtain ⟨q, hq, e⟩ := List.mem_map.mp hs
    rw [← e]
    exact (hm q hq).1⟩
/-- a def that is never called so -/
def spNo : Sp := fun _ _ _ _ => False
theorem fn_no {P : Program} {w : World} {K : PySem.W.Frag} {mg : Str → Option Value} {base : Heap} {CX : CXT} {k : Nat} {f : Addr} {fd : FuncData} {ps : List Str} : FnOk P w K mg base CX k f fd ps spNo :=
  ⟨fun _ _ _ _ h => h.elim, fun _ _ _ _ _ _ _ _ _ _ _ _ _ h => h.elim⟩
theorem four_op {i : Int} (h0 : 0 ≤ i) (h1 : i < 4) : ∃ o : Op4, atI [V.str "plus", V.str "minus", V.str "times", V.str "over"] i = some (.str o.name) := by
  have : i = 0 ∨ i = 1 ∨ i = 2 ∨ i = 3 := by omega
  rcases this with rfl | rfl | rfl | rfl
  · exact ⟨.plus, rfl⟩
  · exact ⟨.minus, rfl⟩
  · exact ⟨.times, rfl⟩
  · exact ⟨.over, rfl⟩
/-! ### the parts; values by name -/
def Rk.parts : Rk → List Rk
  | .bin _ a b => [a, b]
  | .power a _ => [a]
  | .less a b c d => [a, b, c, d]
  | _ => []
abbrev FrR (H : Hp) (x : Str × Addr) (y : Str × (Int × Int)) : Prop := x.1 = y.1 ∧ FracAt H x.2 y.2.1 y.2.2
/-- a dict of names with fractions -/
def VlAt (H : Hp) (d : Addr) (ads : List (Str × Addr)) (vl : List (Str × (Int × Int))) : Prop := H d = some (.dK (encG V.ref ads)) ∧ Paired (FrR H) ads vl
theorem frs_same {H H' : Hp} {ads : List (Str × Addr)} {vl : List (Str × (Int × Int))} (s : Same H H') (p : Paired (FrR H) ads vl) : Paired (FrR H') ads vl := Paired.mono (fun x y z => ⟨z.1, s _ _ z.2⟩) p
theorem VlAt.same {H H' : Hp} {d : Addr} {ads : List (Str × Addr)} {vl : List (Str × (Int × Int))} (s : Same H H') (h : VlAt H d ads vl) : VlAt H' d ads vl := ⟨s _ _ h.1, frs_same s h.2⟩
theorem frs_lk {H : Hp} {ads : List (Str × Addr)} {vl : List (Str × (Int × Int))} (p : Paired (FrR H) ads vl) (l : Str) : (lk ads l = none ∧ lk vl l = none) ∨ ∃ b u, lk ads l = some b ∧ lk vl l = some u ∧ FracAt H b u.1 u.2 := by
  induction p with
  | nil => exact .inl ⟨rfl, rfl⟩
  | @cons x y xs ys h _ ih =>
    obtain ⟨h1, h2⟩ := h
    by_cases e : x.1 = l
    · exact .inr ⟨x.2, y.2, if_pos e, if_pos (h1 ▸ e), h2⟩
    · have e' : ¬ y.1 = l := fun z => e (h1.trans z)
      rw [show lk (x :: xs) l = lk xs l from if_neg e, show lk (y :: ys) l = lk ys l from if_neg e']
      exact ih
theorem frs_put {H : Hp} {l : Str} {b : Addr} {u : Int × Int} (h : FracAt H b u.1 u.2) {ads : List (Str × Addr)} {vl : List (Str × (Int × Int))} (p : Paired (FrR H) ads vl) : Paired (FrR H) (put ads l b) (put vl l u) := by
  induction p with
  | nil => exact .cons ⟨rfl, h⟩ .nil
  | @cons x y xs ys q r ih =>
    obtain ⟨q1, q2⟩ := q
    by_cases e : x.1 = l
    · have e' : y.1 = l := q1 ▸ e
      rw [show put (x :: xs) l b = (x.1, b) :: xs from if_pos e, show put (y :: ys) l u = (y.1, u) :: ys from if_pos e']
      exact .cons ⟨q1, h⟩ r
    · have e' : ¬ y.1 = l := fun z => e (q1.trans z)
      rw [show put (x :: xs) l b = x :: put xs l b from if_neg e, show put (y :: ys) l u = y :: put ys l u from if_neg e']
      exact .cons ⟨q1, q2⟩ ih
theorem vl_get {H : Hp} {d : Addr} {ads : List (Str × Addr)} {vl : List (Str × (Int × Int))} (h : VlAt H d ads vl) {l : Str} (n : lk vl l ≠ none) : ∃ b u, lk vl l = some u ∧ DGet H d (.str l) (some (.ref b)) ∧ FracAt H b u.1 u.2 := by
  rcases frs_lk h.2 l with ⟨_, a2⟩ | ⟨b, u, a1, a2, a3⟩
  · exact absurd a2 n
  · refine ⟨b, u, a2, ?_, a3⟩
    have := DGet.k (k := Sum.inr l) h.1
    rw [encG_val, a1] at this
    exact this
/-- None, or a fraction that lies there -/
def Told (H : Hp) (o : Option (Int × Int)) (v : V) : Prop := match o with
  | none => v = .non
  | some u => ∃ p, v = .ref p ∧ FracAt H p u.1 u.2
theorem Told.same {H H' : Hp} {o : Option (Int × Int)} {v : V} (s : Same H H') (h : Told H o v) : Told H' o v := by
  cases o with
  | none => exact h
  | some u =>
    obtain ⟨p, e, q⟩ := h
    exact ⟨p, e, s _ _ q⟩
theorem parts_deep : ∀ {r x : Rk}, x ∈ r.parts → x.deep + 1 ≤ r.deep
  | .bin _ a b, x, h => by
    show x.deep + 1 ≤ 1 + max a.deep b.deep
    rcases List.mem_cons.mp h with e | h
    · rw [e]; omega
    · rw [List.mem_singleton.mp h]; omega
  | .power a _, x, h => by
    show x.deep + 1 ≤ 1 + a.deep
    rw [List.mem_singleton.mp h]; omega
  | .less a b c d, x, h => by
    show x.deep + 1 ≤ 1 + max (max a.deep b.deep) (max c.deep d.deep)
    rcases List.mem_cons.mp h with e | h
    · rw [e]; omega
    · rcases List.mem_cons.mp h with e | h
      · rw [e]; omega
      · rcases List.mem_cons.mp h with e | h
        · rw [e]; omega
        · rw [List.mem_singleton.mp h]; omega
theorem ins_parts : ∀ {r : Rk}, (∀ z, r ≠ .input z) → r.ins = r.parts.flatMap Rk.ins
  | .is _ _ _, _ => rfl
  | .nought, _ => rfl
  | .input z, h => absurd rfl (h z)
  | .bin _ a b, _ => by
    show a.ins ++ b.ins = a.ins ++ (b.ins ++ [])
    rw [List.append_nil]
  | .power a _, _ => by
    show a.ins = a.ins ++ []
    rw [List.append_nil]
  | .less a b c d, _ => by
    show a.ins ++ b.ins ++ c.ins ++ d.ins = a.ins ++ (b.ins ++ (c.ins ++ (d.ins ++ [])))
    rw [List.append_nil, List.append_assoc, List.append_assoc]
theorem flat_more {α β : Type} {f : α → List β} {l : List α} {i : Nat} {x : α} (h : l[i]? = some x) : (l.take (i + 1)).flatMap f = (l.take i).flatMap f ++ f x := by
  rw [take_more h, List.flatMap_append]
  show _ ++ (f x ++ []) = _
  rw [List.append_nil]
theorem flat_le {α β : Type} {f : α → List β} (l : List α) (i : Nat) : ((l.take i).flatMap f).length ≤ (l.flatMap f).length := by
  conv => rhs; rw [← List.take_append_drop i l, List.flatMap_append, List.length_append]
  exact Nat.le_add_right _ _
/-- different ones, rising or alike: rising -/
theorem ris_of {ks : List Str} (hs : ks.Pairwise fun a b => ¬ sLt b a) (hn : ks.Nodup) : ks.Pairwise sLt := by
  refine (hs.and hn).imp ?_
  rintro a b ⟨h1, h2⟩
  exact Decidable.byContradiction fun h3 => h2 (sLt_tri h3 h1)
/-- the names of ins, rising, each once -/
structure Names (ins ys : List Str) : Prop where
  ris : ys.Pairwise sLt
  mem : ∀ z, z ∈ ys ↔ z ∈ ins
theorem Names.nodup {ins ys : List Str} (h : Names ins ys) : ys.Nodup := h.ris.imp fun q e => by
  rw [e] at q
  exact sLt_irr _ q
theorem Names.few {ins ys : List Str} (h : Names ins ys) : ys.length ≤ ins.length := List.Nodup.length_le_of_subset h.nodup fun z hz => (h.mem z).mp hz
/-! ### a name taken out -/
def drp {α : Type} (m : List (Str × α)) (l : Str) : List (Str × α) := m.filter fun p => decide (p.1 ≠ l)
theorem drp_enc {α : Type} (g : α → V) (l : Str) : ∀ m : List (Str × α), (encG g m).filter (fun kv => decide (kv.1 ≠ (Sum.inr l : L2.Key))) = encG g (drp m l)
  | [] => rfl
  | p :: r => by
    have ih := drp_enc g l r
    unfold encG drp at *
    by_cases e : p.1 = l
    · have e2 : ¬ (Sum.inr p.1 : L2.Key) ≠ Sum.inr l := fun z => z (by rw [e])
      rw [List.map_cons, List.filter_cons, List.filter_cons, if_neg (by simpa using e2), if_neg (by simpa using e)]
      exact ih
    · have e2 : (Sum.inr p.1 : L2.Key) ≠ Sum.inr l := fun z => e (Sum.inr.inj z)
      rw [List.map_cons, List.filter_cons, List.filter_cons, if_pos (by simpa using e2), if_pos (by simpa using e), List.map_cons]
      rw [ih]
theorem drp_nodup {α : Type} {m : List (Str × α)} {l : Str} (h : (m.map (·.1)).Nodup) : ((drp m l).map (·.1)).Nodup := by
  unfold drp
  exact List.Nodup.sublist (List.Sublist.map _ List.filter_sublist) h
theorem drp_mem {α : Type} {m : List (Str × α)} {l : Str} {p : Str × α} (h : p ∈ drp m l) : p ∈ m := (List.mem_filter.mp h).1
theorem frs_drp {H : Hp} {l : Str} {ads : List (Str × Addr)} {vl : List (Str × (Int × Int))} (p : Paired (FrR H) ads vl) : Paired (FrR H) (drp ads l) (drp vl l) := by
  induction p with
  | nil => exact .nil
  | @cons x y xs ys h _ ih =>
    have e1 := h.1
    unfold drp at *
    by_cases e : x.1 = l
    · rw [List.filter_cons, List.filter_cons, if_neg (by simpa using e), if_neg (by rw [e1] at e; simpa using e)]
      exact ih
    · rw [List.filter_cons, List.filter_cons, if_pos (by simpa using e), if_pos (by rw [e1] at e; simpa using e)]
      exact .cons h ih
theorem frs_dict {H : Hp} {D : Addr} {kvs : List (L2.Key × V)} {o : HO} {ads : List (Str × Addr)} {vl : List (Str × (Int × Int))} (h : H D = some (.dK kvs)) (p : Paired (FrR H) ads vl) : Paired (FrR (L2.upd H D o)) ads vl := Paired.mono (fun x y z => by
  refine ⟨z.1, ?_⟩
  show L2.upd H D o x.2 = _
  rw [upd_ne (ne_of z.2 h (fun e => nomatch e))]
  exact z.2) p
theorem frs_keys {H : Hp} {ads : List (Str × Addr)} {vl : List (Str × (Int × Int))} (p : Paired (FrR H) ads vl) : ads.map (·.1) = vl.map (·.1) := by
  induction p with
  | nil => rfl
  | cons h _ ih => rw [List.map_cons, List.map_cons, h.1, ih]
/-- a dict of names with fractions, as the law has it -/
structure VlOk (H : Hp) (d : Addr) (ads : List (Str × Addr)) (vl : List (Str × (Int × Int))) : Prop where
  v : VlAt H d ads vl
  nd : (vl.map (·.1)).Nodup
  sm : ∀ p ∈ vl, FrSm 30 p.2
  few : vl.length ≤ 4
theorem VlOk.lk {H : Hp} {d : Addr} {ads : List (Str × Addr)} {vl : List (Str × (Int × Int))} (h : VlOk H d ads vl) : ∀ s u, lk vl s = some u → FrSm 30 u := fun s u e => h.sm _ (mem_of_lk e)
theorem VlOk.len {H : Hp} {d : Addr} {ads : List (Str × Addr)} {vl : List (Str × (Int × Int))} (h : VlOk H d ads vl) : ads.length = vl.length := by
  have := congrArg List.length (frs_keys h.v.2)
  rw [List.length_map, List.length_map] at this
  exact this
theorem VlOk.same {H H' : Hp} {d : Addr} {ads : List (Str × Addr)} {vl : List (Str × (Int × Int))} (s : Same H H') (h : VlOk H d ads vl) : VlOk H' d ads vl := ⟨h.v.same s, h.nd, h.sm, h.few⟩
/-- at each key its own value -/
theorem VlOk.hits {H : Hp} {d : Addr} {ads : List (Str × Addr)} {vl : List (Str × (Int × Int))} (h : VlOk H d ads vl) : ∀ p ∈ encG V.ref ads, ∃ c, p.2 = .ref c ∧ valV (encG V.ref ads) p.1 = some (.ref c) := fun p hp => by
  obtain ⟨x, hx, rfl⟩ := List.mem_map.mp hp
  refine ⟨x.2, rfl, ?_⟩
  show valV (encG V.ref ads) (Sum.inr x.1) = _
  rw [encG_val, lk_of_mem (l := x.1) (v := x.2) (by rw [frs_keys h.v.2]; exact h.nd) hx]
  rfl
/-! ### dict of a measure -/
theorem put_new {α : Type} : ∀ {m : List (Str × α)} {l : Str} {v : α}, l ∉ m.map (·.1) → put m l v = m ++ [(l, v)]
  | [], _, _, _ => rfl
  | p :: r, l, v, h => by
    have e : ¬ p.1 = l := fun z => h (by rw [List.map_cons, z]; exact List.mem_cons_self)
    rw [show put (p :: r) l v = p :: put r l v from if_neg e, put_new (m := r) fun z => h (by rw [List.map_cons]; exact List.mem_cons_of_mem _ z)]
    rfl
theorem merge_enc {α : Type} (g : α → V) : ∀ (b a : List (Str × α)), ((a ++ b).map (·.1)).Nodup → mergeK (encG g a) (encG g b) = encG g (a ++ b)
  | [], a, _ => by
    rw [List.append_nil]
    rfl
  | p :: r, a, h => by
    have e : a ++ p :: r = (a ++ [p]) ++ r := by rw [List.append_assoc]; rfl
    have nd : (a.map (·.1)).Nodup := by
      rw [List.map_append] at h
      exact (List.nodup_append.mp h).1
    have np : p.1 ∉ a.map (·.1) := fun z => by
      rw [List.map_append] at h
      exact (List.nodup_append.mp h).2.2 _ z _ (by rw [List.map_cons]; exact List.mem_cons_self) rfl
    have ih := merge_enc g r (a ++ [p]) (by rw [← e]; exact h)
    rw [e, ← ih]
    show mergeK (putK (encG g a) (Sum.inr p.1 : L2.Key) (g p.2)) (encG g r) = _
    rw [encG_put g p.1 p.2 a nd, put_new np]
/-- the pairs of a measure, as dict() reads them -/
theorem ms_pairs {K : PySem.W.Frag} {H : Hp} : ∀ {ts : List Addr} {m : Ms}, Paired (PrAt H) ts m → Paired (fun p kv => SqT K H p [kV kv.1, kv.2]) ts (enc m)
  | _, _, .nil => .nil
  | _, _, .cons h t => .cons (SqT.of h) (ms_pairs t)
end MK


set_option Elab.async false
set_option linter.all false
set_option maxRecDepth 100000
set_option maxHeartbeats 4000000
/-! sorted(set(xs)), xs a list of texts. -/
namespace MKS
open PySem PySem.Spec PyProof.Rows PySem.Froz
variable {P : Program} {w : World} {A : Around} {E : Value → Shared → Prop} {s : Shared}
/-- the texts l lie in the set at a, in an order that can be walked -/
def TxAt (P : Program) (w : World) (h : Heap) (a : Addr) (l : List Str) : Prop :=
  ∃ D : SD, h.get? a = some (sObj "set" D) ∧ TxOk P w D l ∧ l.Nodup ∧ L2.Ris D.2.2.place.toList ∧ (w.params.followText "set-order" = true ∨ D.2.2.led = true)
theorem TxAt.keep {h h' : Heap} {a : Addr} {l : List Str} (x : TxAt P w h a l) (k : ∀ o, h.get? a = some o → h'.get? a = some o) : TxAt P w h' a l := by
  obtain ⟨D, h1, r⟩ := x
  exact ⟨D, k _ h1, r⟩
theorem tail_ris {ep : Nat} {es1 : Array (Int × Value)} {t2 : SetTable} {b : Bool} (r : L2.Ris t2.place.toList) : L2.Ris (tailTx ep es1 t2 b).2.2.place.toList ∧ (tailTx ep es1 t2 b).2.2.led = t2.led := by
  unfold tailTx
  split
  · exact ⟨L2.relayAll_ris _ _ _, L2.relayAll_led _ _ _⟩
  · exact ⟨r, rfl⟩
theorem add_ris {D : SD} {h : Int} {v : Value} (r : L2.Ris D.2.2.place.toList) : L2.Ris (addTx h v D).2.2.place.toList ∧ (addTx h v D).2.2.led = D.2.2.led := by
  unfold addTx
  have h1 := L2.layNew_ris D.2.2 D.1 h v r
  have h2 := L2.layNew_led D.2.2 D.1 h v
  by_cases c : (layNew D.2.2 D.1 h v).2.1.plain = true
  · rw [if_pos c]
    obtain ⟨q1, q2⟩ := tail_ris (ep := D.2.1) (es1 := (layNew D.2.2 D.1 h v).1) (b := (layNew D.2.2 D.1 h v).2.2.1) (t2 := { (layNew D.2.2 D.1 h v).2.1 with plain := false }) h1
    exact ⟨q1, q2.trans h2⟩
  · rw [if_neg c]
    obtain ⟨q1, q2⟩ := tail_ris (ep := D.2.1) (es1 := (layNew D.2.2 D.1 h v).1) (b := (layNew D.2.2 D.1 h v).2.2.1) h1
    exact ⟨q1, q2.trans h2⟩
/-- a text that is there already -/
theorem add_old {a : Addr} {D : SD} {l : List Str} {k : Str} {u : Tok} {Q : Bool → Shared → Prop} (ho : s.heap.get? a = some (sObj "set" D)) (F : TxOk P w D l) (hk : k ∈ l) (hb : l.length < scanBound) (q : Q false s) :
    wpAny (model P w) A (setAddHashed a (.str k u) (hashStr w k)) Q E s := by
  obtain ⟨es, ep, t⟩ := D
  have dd : (sObj "set" (es, ep, t)).data = .set es ep t := rfl
  have ff : t.fits es.size = true := F.fit
  have ee : ElemsOf (strKind P w) es.toList := F.el
  have zz : es.size = l.length := F.sz
  obtain ⟨e, he, hz⟩ := (F.mem k).mp hk
  cases hr : List.findIdx? (fun e => (strKind P w).is k e.2) es.toList with
  | none =>
    have := List.findIdx?_eq_none_iff.mp hr e he
    rw [hz] at this
    cases this
  | some j =>
    unfold setAddHashed setAddHashedIn
    refine wpAny_holding (wpAny_bind (wpAny_setState_of ho dd ff ?_))
    dsimp only
    rw [byScan_of rfl (show es.size < scanBound by omega) ee, if_pos rfl]
    unfold setAddByScan
    refine wpAny_bind (wpAny_bind (wpAny_rule (wpAny_bind (wpAny_setScan_of (knd := strKind P w) (k := k) (is_str k u) ho dd ff ee ?_))))
    rw [hr]
    exact wpAny_pure (wpAny_pure q)
/-- setAdd of a text -/
theorem add_any {a : Addr} {l : List Str} {k : Str} {u : Tok} {Q : Bool → Shared → Prop} (T : TxAt P w s.heap a l) (hb : l.length + 1 < scanBound)
    (q : ∀ b h' l', (∀ c, c ≠ a → h'.get? c = s.heap.get? c) → TxAt P w h' a l' → (∀ z, z ∈ l' ↔ z = k ∨ z ∈ l) → l'.length ≤ l.length + 1 → Q b { s with heap := h' }) :
    wpAny (model P w) A (setAddHashed a (.str k u) (hashStr w k)) Q E s := by
  obtain ⟨D, h1, F, nd, r, ld⟩ := T
  by_cases hk : k ∈ l
  · refine add_old h1 F hk (by omega) ?_
    exact q false s.heap l (fun _ _ => rfl) ⟨D, h1, F, nd, r, ld⟩ (fun z => ⟨.inr, fun y => y.elim (fun e => by rw [e]; exact hk) id⟩) (Nat.le_succ _)
  · refine add_x h1 F hk hb ?_
    obtain ⟨r1, r2⟩ := add_ris (h := hashStr w k) (v := .str k u) r
    refine q true _ (k :: l) (fun c hc => Heap.get?_update_other _ _ (Ne.symm hc)) ⟨_, get_upd _ h1 rfl, add_ok u F, List.nodup_cons.mpr ⟨hk, nd⟩, r1, ld.imp id fun z => by rw [r2]; exact z⟩ (fun z => List.mem_cons) (Nat.le_refl _)
/-- what the loop has made of the first i texts -/
def Mid (P : Program) (w : World) (S : Addr) (xs : List Str) (i : Nat) (h : Heap) : Prop := ∃ l, TxAt P w h S l ∧ (∀ z, z ∈ l ↔ z ∈ xs.take i) ∧ l.length ≤ i
/-- the loop of set.update over a list of texts -/
theorem loop_txt {I : Addr} {fp wr : List Addr} {G : Array GenState → Array GenState → Prop} {n : Nat} {Pv : Nat → Value → Prop} {St : Nat → Shared → Prop} {R : Result → Shared → Prop} (W : WalksS P w A.in1 I fp wr G n Pv St) (S : Addr) (sf : S ∉ fp)
    (xs : List Str) (hn : n = xs.length) (hb : n + 1 < scanBound) (hv : ∀ i v, Pv i v → ∃ x t, xs[i]? = some x ∧ v = .str x t) : ∀ (m i : Nat) (s : Shared), n - i = m → i ≤ n → St i s → Mid P w S xs i s.heap →
      (∀ s', Moved (S :: wr) G s s' → Mid P w S xs n s'.heap → R (.ok (.ret .none)) s') → codeAny (model P w) A (.builtin "set.update.loop" ⟨[.ref S, .ref I], []⟩) R s := by
  have sw : S ∉ wr := fun z => sf (W.sub _ z)
  have up : ∀ b ∈ wr, b ∈ S :: wr := fun b z => .tail _ z
  have keep : ∀ {u v : Shared} {i : Nat}, Moved wr G u v → Mid P w S xs i u.heap → Mid P w S xs i v.heap := fun mv ⟨l, t, e, z⟩ => ⟨l, t.keep fun o q => mv.heap S o sw q, e, z⟩
  intro m
  induction m with
  | zero =>
    intro i s e1 e2 st md fin
    obtain rfl : i = n := by omega
    refine codeAny_builtin F.entry_set_update_loop ?_
    rw [Around.under_plainId F.plain_set_update_loop _]
    exact wpAny_bind (m := pyNext (.ref I)) (W.done s _ _ st fun u mv => wpAny_pure (fin u (mv.mono up) (keep mv md)))
  | succ m ih =>
    intro i s e1 e2 st md fin
    refine codeAny_builtin F.entry_set_update_loop ?_
    rw [Around.under_plainId F.plain_set_update_loop _]
    refine wpAny_bind (m := pyNext (.ref I)) (W.item i s _ _ (by omega) st fun v u pv st1 mv => ?_)
    obtain ⟨x, t, hx, rfl⟩ := hv i v pv
    obtain ⟨l, tx, mem, len⟩ := keep mv md
    refine wpAny_bind (m := holding [Value.str x t] (setAdd S (.str x t))) (wpAny_holding ?_)
    unfold setAdd
    refine wpAny_holding (wpAny_bind ((strKind P w).pyHash (k := x) (is_str x t) ?_))
    refine add_any (s := { u with toks := u.toks + 1 }) tx (by omega) fun b h' l' oth tx' mem' len' => ?_
    refine wpAny_pure ⟨plainId_quiet F.plain_set_update_loop _, ih (i + 1) _ (by omega) (by omega) (W.frame _ u _ _ st1 (Nat.le_succ _) fun c hc o q => ?_) ⟨l', tx', fun z => ?_, by omega⟩ fun r mv2 md2 => ?_⟩
    · rw [oth c fun z => sf (z ▸ hc)]
      exact q
    · rw [mem' z, mem z, MK.take_more hx, List.mem_append, List.mem_singleton]
      exact Or.comm
    · refine fin r (Moved.trans W.gtrans ((mv.mono up).then_heap (Nat.le_succ _) fun c o hc q => ?_) mv2) md2
      rw [oth c fun z => hc (z ▸ .head _)]
      exact q
/-- a new set, empty -/
abbrev newO (w : World) : Obj := { cls := .type "set", dict := none, data := .set #[] 0 (.fresh 0 0 (!w.params.followText "set-order")) }
theorem new_tx {h : Heap} {a : Addr} (e : h.get? a = some (newO w)) : TxAt P w h a [] :=
  ⟨(#[], 0, .fresh 0 0 (!w.params.followText "set-order")), e, TxOk.nil rfl, List.nodup_nil, List.Pairwise.nil, by
    cases c : w.params.followText "set-order"
    · exact .inr rfl
    · exact .inl rfl⟩
theorem txt_item {us : List Value} {xs : List Str} (h : StrsAre us xs) : ∀ {i : Nat} {v : Value}, us[i]? = some v → ∃ x t, xs[i]? = some x ∧ v = .str x t := by
  induction h with
  | nil => exact fun q => by simp at q
  | cons n t _ ih =>
    intro i v q
    cases i with
    | zero => exact ⟨n, t, rfl, (Option.some.inj q).symm⟩
    | succ i => exact ih (by simpa using q)
set_option maxHeartbeats 8000000 in
/-- set(xs), xs a list of texts -/
theorem set_of {l : Addr} {items : Array Value} {xs : List Str} {Q : Value → Shared → Prop} (hh : A.handled = none) (hl : s.heap.IsList l items) (hx : StrsAre items.toList xs) (hb : xs.length + 1 < scanBound)
    (q : ∀ (h' : Heap) (tk : Nat) (ys : List Str), TxAt P w h' s.heap.objs.size ys → (∀ z, z ∈ ys ↔ z ∈ xs) → ys.length ≤ xs.length → (∀ b o, s.heap.get? b = some o → h'.get? b = some o) → Q (.ref s.heap.objs.size) { s with heap := h', toks := tk }) :
    wpAny (model P w) A (call (.type "set") [.ref l]) Q E s := by
  have hn : items.size = xs.length := by rw [← StrsAre.len_eq hx, Array.length_toList]
  obtain ⟨c, tl, hmro⟩ := F.called_set.mro
  have h1 := F.called_set.notType
  have h2 := F.called_set.canCreate
  have h3 := F.called_set.made
  have h4 := F.called_set.sub
  have h5 := F.typeCall_set_1 (.ref l)
  refine wpAny_call (codeAny_of_tree (wpAny_pure ⟨Code.quiet_builtin _ (by decide +kernel), codeAny_builtin F.entry_type_call ?_⟩))
  rw [Around.under_plain (weight_type_call_type "set" [.ref l] []) rfl]
  repeat (any_goals (first | assumption | wp_step))
  refine codeAny_mono (L2.code_set_led1 (.ref l) (E := E) (Q₁ := fun v u => v = .ref s.heap.objs.size ∧ u = { s with heap := s.heap.push (newO w) }) ⟨rfl, rfl⟩) fun r u hr => ?_
  cases r with
  | error e => exact hr
  | ok fl =>
    cases fl with
    | ret v =>
      obtain ⟨rfl, rfl⟩ := hr
      have hS : (s.heap.push (newO w)).get? s.heap.objs.size = some (newO w) := Heap.get?_push_size _ rfl
      have hT : Shared.TypeIs { s with heap := s.heap.push (newO w) } (.ref s.heap.objs.size) "set" := ⟨_, hS, rfl⟩
      have h6 := F.called_set.init.lookup
      have h7 := F.called_set.init.bind (.ref s.heap.objs.size)
      repeat (any_goals (first | assumption | wp_step))
      refine codeAny_mono (codeAny_call_builtin (R := wants (fun v u => v = .none ∧ ∃ h' tk, u = { s with heap := h', toks := tk } ∧ Mid P w s.heap.objs.size xs xs.length h' ∧ (∀ b o, s.heap.get? b = some o → h'.get? b = some o)) E) F.called_set.init.plain F.entry_set_init (check_set_init_1 hT ?_)) fun r u hr => ?_
      · obtain ⟨⟨oc, od, oda, os⟩, e1, e2, nl, e3⟩ := hl
        dsimp only at e2 e3
        subst e2 e3
        have g1 : (s.heap.push (newO w)).get? l = some ⟨.type "list", od, .seq items nl, os⟩ := Heap.get?_push_of_some _ e1
        have g2 : (s.heap.push (newO w)).IsList l items := ⟨_, g1, rfl, nl, rfl⟩
        have g3 := F.sub_list_set
        have g4 := F.sub_list_frozenset
        have g5 : (Value.type "list" == Value.type "dict") = false := by decide
        unfold Builtin.«set.__init__» noKeywords Builtin.Frozenset.updateFrom
        generalize hPI : pyIter = PI
        wp_walk
        subst hPI
        have lt : l < s.heap.objs.size := Heap.lt_size e1
        have sz : (s.heap.push (newO w)).objs.size = s.heap.objs.size + 1 := Heap.size_push ..
        have ne : l ≠ (s.heap.push (newO w)).objs.size := by
          rw [sz]
          exact Nat.ne_of_lt (Nat.lt_succ_of_lt lt)
        refine wpAny_pyIter_list g2 (wpAny_bind (wpAny_runValue ?_))
        refine loop_txt (A := A.in1.in1) ((Walks.list (show A.in1.in1.in1.handled = none by simp [hh]) _ l ne items).toS) s.heap.objs.size (fun z => ?_) xs hn (by omega) (fun i v z => txt_item hx (by rw [Array.getElem?_toList]; exact z)) (items.size - 0) 0 _ rfl (Nat.zero_le _) ⟨⟨_, Heap.get?_push_size _ rfl, rfl, rfl⟩, g2.push _⟩
          ⟨[], new_tx (Heap.get?_push_of_some _ hS), fun z => by simp, Nat.le_refl _⟩ fun u mv md => ?_
        · rcases List.mem_cons.mp z with z | z
          · rw [sz] at z
            exact absurd z (Nat.ne_of_lt (Nat.lt_succ_self _))
          · exact absurd lt (by rw [← List.mem_singleton.mp z]; exact Nat.lt_irrefl _)
        · obtain ⟨h', g', d', tk', os'⟩ := u
          obtain rfl : g' = s.gens := mv.gens
          obtain rfl : d' = s.drawn := mv.drawn
          obtain rfl : os' = s.os := mv.os
          rw [hn] at md
          refine wpAny_pure (wpAny_pure ⟨rfl, h', tk', rfl, md, fun b o z => mv.heap b o (fun y => ?_) (Heap.get?_push_of_some _ (Heap.get?_push_of_some _ z))⟩)
          have := Heap.lt_size z
          rcases List.mem_cons.mp y with y | y
          · exact absurd this (by rw [y]; exact Nat.lt_irrefl _)
          · rw [List.mem_singleton.mp y, sz] at this
            exact absurd this (Nat.not_lt_of_le (Nat.le_succ _))
      · cases r with
        | error e => exact hr
        | ok fl =>
          cases fl with
          | ret v =>
            obtain ⟨rfl, h', tk, rfl, ⟨ys, t, mem, len⟩, kp⟩ := hr
            repeat (any_goals (first | assumption | wp_step))
            exact q h' tk ys t (fun z => by rw [mem z, List.take_length]) len kp
          | _ => exact hr.elim
    | _ => exact hr.elim
/-- as many different ones as the other list has items: the same items -/
theorem perm_few : ∀ {l m : List Str}, l.Nodup → (∀ x ∈ l, x ∈ m) → m.length ≤ l.length → l.Perm m
  | [], m, _, _, h => by
    have : m = [] := List.length_eq_zero_iff.mp (by simpa using h)
    rw [this]
  | x :: r, m, nd, sub, h => by
    obtain ⟨n1, n2⟩ := List.nodup_cons.mp nd
    have hx := sub x (.head _)
    have e := List.length_erase_of_mem hx
    have h' : m.length ≤ r.length + 1 := h
    have p := perm_few (m := m.erase x) n2 (fun y hy => (List.mem_erase_of_ne fun z : y = x => n1 (by rw [← z]; exact hy)).mpr (sub y (.tail _ hy))) (by omega)
    exact (p.cons x).trans (List.perm_cons_erase hx).symm
def keyS (v : Value) : Str := match v with | .str x _ => x | _ => Str.empty
theorem strs_all : ∀ vs : List Value, (∀ v ∈ vs, ∃ x t, v = Value.str x t) → StrsAre vs (vs.map keyS)
  | [], _ => .nil
  | v :: r, h => by
    obtain ⟨x, t, rfl⟩ := h v (.head _)
    exact .cons x t (strs_all r fun u hu => h u (.tail _ hu))
/-- sorted(set) of texts -/
theorem sorted_txt {a : Addr} {l : List Str} {Q : Value → Shared → Prop} (T : TxAt P w s.heap a l) (hh : A.handled = none) (hb : l.length < scanBound)
    (q : ∀ s' p (out : Array Value) (c : Nat) (ys : List Str), (∀ b o, s.heap.get? b = some o → s'.heap.get? b = some o) → s'.gens = s.gens → s'.os = s.os → s.heap.objs.size ≤ p → s'.heap.get? p = some (seqObj "list" out c) → StrsAre out.toList ys → ys.Perm l → sortedS ys = true → Q (.ref p) s') :
    wpAny (model P w) A (call (.builtin "sorted") [.ref a]) Q E s := by
  obtain ⟨⟨es, ep, t⟩, h1, F, nd, r, ld⟩ := T
  have zz : es.size = l.length := F.sz
  have fit : t.fits es.size = true := F.fit
  refine Calls.call_function_entry PyProof.Rows.kind_sorted PyProof.Rows.plain_sorted PyProof.Rows.entry_sorted (PyProof.Rows.args_sorted1 _) ?_
  unfold Builtin.«sorted»
  refine wpAny_bind (m := checkCount "sorted" 1 1 _) (wpAny_pure (wpAny_bind (L2.collect_set (A := A.in1) hh ⟨_, h1, rfl, rfl⟩ fit (show es.size < scanBound by omega) r ld fun u vs k1 sz g1 o1 pm => ?_)))
  have dv : (sObj "set" (es, ep, t)).data = .set es ep t := rfl
  have el : ElemsOf (strKind P w) es.toList := F.el
  have vl : vs.length = l.length := by rw [pm.length_eq, List.length_map, Array.length_toList, zz]
  obtain ⟨ks, hk, pk⟩ : ∃ ks : List Str, StrsAre vs ks ∧ ks.Perm l := by
    have st : ∀ e ∈ es.toList, ∃ x t, e.2 = Value.str x t := fun e he => by
      obtain ⟨⟨x, hx, _⟩, _⟩ := el e he
      obtain ⟨t, ht⟩ := Value.isStrOf_shape (show Value.isStrOf x e.2 = true from hx)
      exact ⟨x, t, ht⟩
    refine ⟨vs.map keyS, strs_all vs fun v hv => ?_, ?_⟩
    · obtain ⟨e, he, rfl⟩ := List.mem_map.mp (pm.mem_iff.mp hv)
      exact st e he
    · have p2 : (vs.map keyS).Perm ((es.toList.map (·.2)).map keyS) := pm.map keyS
      refine p2.trans (perm_few nd (fun x hx => ?_) ?_).symm
      · obtain ⟨e, he, hz⟩ := (F.mem x).mp hx
        obtain ⟨t, ht⟩ := Value.isStrOf_shape (show Value.isStrOf x e.2 = true from hz)
        refine List.mem_map.mpr ⟨e.2, List.mem_map.mpr ⟨e, he, rfl⟩, ?_⟩
        rw [ht]
        rfl
      · rw [List.length_map, List.length_map, Array.length_toList]
        omega
  have lz : vs.length ≤ sizeLine := by rw [vl]; exact Nat.le_trans (Nat.le_of_lt hb) (by decide)
  refine wpAny_bind (wpAny_newList ?_ lz)
  have hoL : (u.heap.push (seqObj "list" vs.toArray 0)).get? u.heap.objs.size = some (seqObj "list" vs.toArray 0) := Heap.get?_push_size _ rfl
  refine wpAny_bind (wpAny_holding (wpAny_call_entry PyProof.Rows.slot_list_sort ⟨_, hoL, rfl⟩ PyProof.Rows.entry_list_sort
    (list_sort_treeKAny strKind_oneLt (s := { u with heap := u.heap.push (seqObj "list" vs.toArray 0) }) hoL hk.keysOf (fun v₁ v₂ rest e => keyKind_strs (by rw [← e]; exact hk)) lz fun st' hp hs => ⟨_, rfl, ?_⟩)
    (PyProof.Rows.args_list_sort _)))
  obtain ⟨ys, y1, y2, y3⟩ := sorted_out_str hk hp hs
  obtain ⟨c, hc⟩ := PyProof.Rows.sortedHeap_at (vs := vs) (out := (arrOf st').map (·.2)) hoL
  refine wpAny_pure ⟨_, rfl, q _ u.heap.objs.size _ c ys (fun b o e => ?_) g1 o1 sz hc y1 (y2.trans pk) y3⟩
  have lt := Heap.lt_size (k1 b o e)
  rw [PyProof.Rows.sortedHeap_old (Nat.ne_of_lt lt) (by rw [size_push']; exact Nat.lt_succ_of_lt lt)]
  exact Heap.get?_push_of_some _ (k1 b o e)
end MKS
namespace L2
open PySem PySem.Spec PyProof.Rows
/-- a set of texts, as it lies there -/
def TxO (P : Program) (w : World) (a : Addr) (l : List Str) : HO := .ext fun h => MKS.TxAt P w h a l
theorem txO_new {P : Program} {w : World} {H : Hp} {h : Heap} {a : Addr} {l : List Str} (t : MKS.TxAt P w h a l) : ObjOk P w H h a (TxO P w a l) := by
  obtain ⟨D, h1, r⟩ := id t
  refine ⟨t, ⟨_, h1⟩, fun h1 h2 p k => ?_⟩
  exact MKS.TxAt.keep p fun o e => k o e
section
variable {X : Cx}
/-- set(xs), xs a list of texts -/
def rSetTx (K : PySem.W.Frag) (P : Program) (w : World) : List V → Hp → VK → Prop := fun xs H Q => ∃ (l : Addr) (zs : List Str), xs = [V.ref l] ∧ SqL K H l (zs.map V.str) ∧ zs.length ≤ 1000 ∧
  ∀ a ys, H a = none → (∀ z, z ∈ ys ↔ z ∈ zs) → ys.length ≤ zs.length → Q (.ref a) (upd H a (TxO P w a ys))
theorem strs_vals : ∀ {zs : List Str} {us : List Value}, Vals (zs.map V.str) us → StrsAre us zs
  | [], _, .nil => .nil
  | z :: zs, _, .cons r t => by
    obtain ⟨k, rfl⟩ := r
    exact .cons z k (strs_vals t)
theorem cr_setTx (hc : X.calm = true) : CallR X (.type "set") (rSetTx X.K X.prog X.w) := by
  intro pins s σ H xs us Q I r h
  obtain ⟨l, zs, rfl, hl, hf, q⟩ := h
  rw [Vals.ref1 r]
  obtain ⟨its, rv, pl, hz⟩ := I.list hl
  refine MKS.set_of (P := X.prog) (w := X.w) (I.ok.hd hc) pl.isList (by simpa using strs_vals rv) (Nat.lt_of_le_of_lt (Nat.add_le_add_right hf 1) (by decide)) fun h' tk ys t mem len k => ?_
  exact ⟨.ref s.heap.objs.size, upd H s.heap.objs.size (TxO X.prog X.w s.heap.objs.size ys), I.laid (t' := tk) k (Nat.le_refl _) (txO_new t), rfl, q _ ys (I.hok.fresh (Nat.le_refl _)) mem len⟩
/-- sorted(s), s a set of texts: a new list of these, rising -/
def rSortedTx (P : Program) (w : World) : List V → Hp → VK → Prop := fun xs H Q => ∃ (a : Addr) (l : List Str), xs = [V.ref a] ∧ H a = some (TxO P w a l) ∧ l.length ≤ 1000 ∧
  ∀ ys p, ys.Perm l → ys.Nodup → sortedS ys = true → H p = none → Q (.ref p) (upd H p (.lst (ys.map V.str)))
theorem vals_txt : ∀ {us : List Value} {ys : List Str}, StrsAre us ys → Vals (ys.map V.str) us := fun h => by
  induction h with
  | nil => exact .nil
  | cons n t _ ih => exact .cons ⟨t, rfl⟩ ih
theorem cr_sortedTx (hc : X.calm = true) : CallR X (.builtin "sorted") (rSortedTx X.prog X.w) := by
  intro pins s σ H xs us Q I r h
  obtain ⟨a, l, rfl, ha, hf, q⟩ := h
  have t : MKS.TxAt X.prog X.w s.heap a l := (I.hok a _ ha).1
  rw [Vals.ref1 r]
  have nd : l.Nodup := by
    obtain ⟨_, _, _, z, _⟩ := id t
    exact z
  refine MKS.sorted_txt t (I.ok.hd hc) (Nat.lt_of_le_of_lt hf (by decide)) fun s' p out c ys k g o hp hg hy pm so => ?_
  have hn : H p = none := I.hok.fresh hp
  have lz : (ys.map V.str).length ≤ sizeLine := by
    rw [List.length_map, pm.length_eq]
    exact Nat.le_trans hf (by decide)
  have J : Inv X pins σ (upd H p (.lst (ys.map V.str))) { s with heap := s'.heap, gens := s'.gens, drawn := s'.drawn, toks := s'.toks } :=
    I.call (ch := []) (Un.laid k hp hn) (I.hok.laid k hp ⟨lz, out.toList, c, vals_txt hy, hg⟩) (by rw [g]; exact I.bare) (fun _ z => nomatch z)
  have e : s' = { s with heap := s'.heap, gens := s'.gens, drawn := s'.drawn, toks := s'.toks } := by
    obtain ⟨_, _, _, _, _⟩ := s'
    obtain ⟨_, _, _, _, _⟩ := s
    obtain rfl := o
    rfl
  rw [e]
  exact ⟨.ref p, _, J, rfl, q ys p pm (pm.nodup_iff.mpr nd) so hn⟩
end
end L2


set_option Elab.async false
set_option linter.all false
set_option maxRecDepth 100000
set_option maxHeartbeats 4000000
/-! What a reckoning's measure is by a choice, part by part, and what has to be alike. -/
namespace MK
open PySem PySem.Spec PyProof.Rows L2
/-- one's powers, and x times the other's -/
def IsTms (m n : Ms) (x : Int) (r : Ms) : Prop := Can r ∧ ∀ j, at0 r j = at0 m j + at0 n j * x
open Classical in
/-- the one measure of these powers -/
noncomputable def mulC (m n : Ms) (x : Int) : Ms := if h : ∃ r, IsTms m n x r then h.choose else []
theorem mulC_is {m n r : Ms} {x : Int} (h : IsTms m n x r) : mulC m n x = r := by
  have e : ∃ r, IsTms m n x r := ⟨r, h⟩
  unfold mulC
  rw [dif_pos e]
  have c := e.choose_spec
  exact can_ext c.1 h.1 fun j => (c.2 j).trans (h.2 j).symm
/-- a measure of at most l letters, powers below 2 ^ b -/
structure MsB (l b : Nat) (m : Ms) : Prop where
  can : Can m
  few : m.length ≤ l
  sm : ∀ p ∈ m, p.2.natAbs < 2 ^ b
theorem MsB.mono {l b l' b' : Nat} {m : Ms} (h : MsB l b m) (hl : l ≤ l') (hb : b ≤ b') : MsB l' b' m := ⟨h.can, Nat.le_trans h.few hl, fun p hp => Nat.lt_of_lt_of_le (h.sm p hp) (Nat.pow_le_pow_right (by decide) hb)⟩
theorem MsB.nil {l b : Nat} : MsB l b [] := ⟨can_nil, Nat.zero_le _, fun p hp => absurd hp (by simp)⟩
theorem MsB.at {l b : Nat} {m : Ms} (h : MsB l b m) (j : Str) : (at0 m j).natAbs < 2 ^ b := by
  by_cases e : at0 m j = 0
  · rw [e]
    exact Nat.two_pow_pos b
  · exact h.sm _ (at0_mem e)
theorem MsB.tms {l k b : Nat} {m n r : Ms} {x : Int} (h : MsB l b m) (g : MsB k b n) (hx : x.natAbs ≤ 4) (t : IsTms m n x r) : MsB (l + k) (b + 3) r := by
  obtain ⟨c, e⟩ := t
  refine ⟨c, ?_, fun p hp => ?_⟩
  · have sub : ∀ z ∈ r.map (·.1), z ∈ m.map (·.1) ++ n.map (·.1) := fun z hz => by
      obtain ⟨p, hp, rfl⟩ := List.mem_map.mp hz
      have q := (c.mem p.1 p.2).mp hp
      by_cases z1 : at0 m p.1 = 0
      · refine List.mem_append_right _ (List.mem_map.mpr ⟨_, at0_mem (m := n) (j := p.1) fun z2 => q.1 ?_, rfl⟩)
        rw [← q.2, e, z1, z2]
        omega
      · exact List.mem_append_left _ (List.mem_map.mpr ⟨_, at0_mem z1, rfl⟩)
    have := List.Nodup.length_le_of_subset c.ris.nodup sub
    rw [List.length_map, List.length_append, List.length_map, List.length_map] at this
    have := h.few
    have := g.few
    omega
  · have q := (c.mem p.1 p.2).mp hp
    have a1 := h.at p.1
    have a2 := g.at p.1
    rw [← q.2, e]
    have a3 : (at0 n p.1 * x).natAbs ≤ (at0 n p.1).natAbs * 4 := by
      rw [Int.natAbs_mul]
      exact Nat.mul_le_mul_left _ hx
    have e8 : 2 ^ (b + 3) = 2 ^ b * 8 := Nat.pow_add 2 b 3
    omega
/-- how many leaves -/
def Rk.lvs : Rk → Nat
  | .bin _ a b => a.lvs + b.lvs
  | .power a _ => a.lvs
  | .less a b c d => a.lvs + b.lvs + c.lvs + d.lvs
  | _ => 1
/-- its measure, and what has to be alike, by a choice -/
noncomputable def walk (env : Str → Ms) : Rk → List Ms → Ms × List Ms
  | .is _ _ m, _ => (m, [])
  | .nought, g => (g.headD [], [])
  | .input s, _ => (env s, [])
  | .bin o a b, g => match o with
    | .times => (mulC (walk env a g).1 (walk env b (g.drop a.noughts)).1 1, (walk env a g).2 ++ (walk env b (g.drop a.noughts)).2)
    | .over => (mulC (walk env a g).1 (walk env b (g.drop a.noughts)).1 (-1), (walk env a g).2 ++ (walk env b (g.drop a.noughts)).2)
    | _ => ((walk env a g).1, (walk env a g).2 ++ (walk env b (g.drop a.noughts)).2 ++ [mulC (walk env a g).1 (walk env b (g.drop a.noughts)).1 (-1)])
  | .power a n, g => (mulC [] (walk env a g).1 n, (walk env a g).2)
  | .less a b c d, g => ((walk env c (g.drop (a.noughts + b.noughts))).1,
      (walk env a g).2 ++ (walk env b (g.drop a.noughts)).2 ++ (walk env c (g.drop (a.noughts + b.noughts))).2 ++ (walk env d (g.drop (a.noughts + b.noughts + c.noughts))).2 ++
        [mulC (walk env a g).1 (walk env b (g.drop a.noughts)).1 (-1)] ++ [mulC (walk env c (g.drop (a.noughts + b.noughts))).1 (walk env d (g.drop (a.noughts + b.noughts + c.noughts))).1 (-1)])
/-- the parts, each by what is left of the noughts -/
noncomputable def walks (env : Str → Ms) : List Rk → List Ms → List (Ms × List Ms)
  | [], _ => []
  | x :: r, g => walk env x g :: walks env r (g.drop x.noughts)
theorem walks_len (env : Str → Ms) : ∀ (l : List Rk) (g : List Ms), (walks env l g).length = l.length
  | [], _ => rfl
  | x :: r, g => congrArg (· + 1) (walks_len env r (g.drop x.noughts))
def nsum (l : List Rk) : Nat := (l.map Rk.noughts).sum
theorem walks_at (env : Str → Ms) : ∀ (l : List Rk) (g : List Ms) {i : Nat} {x : Rk}, l[i]? = some x → (walks env l g)[i]? = some (walk env x (g.drop (nsum (l.take i))))
  | [], g, i, x, h => by simp at h
  | y :: r, g, 0, x, h => by
    obtain rfl : y = x := Option.some.inj h
    show some (walk env y g) = _
    rw [List.take_zero]
    rfl
  | y :: r, g, i + 1, x, h => by
    have e := walks_at env r (g.drop y.noughts) (i := i) (x := x) (by simpa using h)
    show (walks env r (g.drop y.noughts))[i]? = _
    rw [e, List.drop_drop]
    rfl
theorem nsum_more {l : List Rk} {i : Nat} {x : Rk} (h : l[i]? = some x) : nsum (l.take (i + 1)) = nsum (l.take i) + x.noughts := by
  unfold nsum
  rw [take_more h, List.map_append, List.sum_append]
  show _ + (x.noughts + 0) = _
  omega
theorem mulC_b {l k b : Nat} {m n : Ms} {x : Int} (h : MsB l b m) (g : MsB k b n) (hx : x.natAbs ≤ 4) : MsB (l + k) (b + 3) (mulC m n x) := by
  by_cases e : ∃ r, IsTms m n x r
  · obtain ⟨r, t⟩ := e
    rw [mulC_is t]
    exact h.tms g hx t
  · unfold mulC
    rw [dif_neg e]
    exact .nil
/-! ### in the heap -/
theorem fne {H : Hp} {D p : Addr} {xs : List V} {o : HO} {u : HO} (h : H D = some (.lst xs)) (e : H p = some u) (n : u ≠ .lst xs) : L2.upd H D o p = some u := by
  rw [upd_ne (fun z => n (by rw [z, h] at e; exact (Option.some.inj e).symm))]
  exact e
theorem MsN.lst {H : Hp} {D b : Addr} {xs : List V} {o : HO} {m : Ms} (h : H D = some (.lst xs)) (q : MsN H b m) : MsN (L2.upd H D o) b m := by
  obtain ⟨ts, ⟨ob, e, d⟩, p⟩ := q
  exact ⟨ts, ⟨ob, fne h e (fun z => nomatch z), d⟩, pr_list h p⟩
theorem tr_list {H : Hp} {D : Addr} {xs : List V} {o : HO} (h : H D = some (.lst xs)) : ∀ {r : Rk} {p : Addr}, TrAt H r p → TrAt (L2.upd H D o) r p
  | .is x y m, p, ⟨q, b, h1, h2, h3⟩ => ⟨q, b, fne h h1 (fun z => nomatch z), fne h h2 (fun z => nomatch z), h3.lst h⟩
  | .nought, p, e => fne h e (fun z => nomatch z)
  | .input z, p, e => fne h e (fun z => nomatch z)
  | .bin op a b, p, ⟨q, r, h1, h2, h3⟩ => ⟨q, r, fne h h1 (fun z => nomatch z), tr_list h h2, tr_list h h3⟩
  | .power a n, p, ⟨q, h1, h2⟩ => ⟨q, fne h h1 (fun z => nomatch z), tr_list h h2⟩
  | .less a b c d, p, ⟨q, r, u, v, h1, h2, h3, h4, h5⟩ => ⟨q, r, u, v, fne h h1 (fun z => nomatch z), tr_list h h2, tr_list h h3, tr_list h h4, tr_list h h5⟩
abbrev NmR (H : Hp) (x : Str × Addr) (y : Str × Ms) : Prop := x.1 = y.1 ∧ MsN H x.2 y.2
/-- a dict of names with measures -/
def NmAt (H : Hp) (d : Addr) (ads : List (Str × Addr)) (fl : List (Str × Ms)) : Prop := H d = some (.dK (encG V.ref ads)) ∧ Paired (NmR H) ads fl
theorem NmAt.same {H H' : Hp} {d : Addr} {ads : List (Str × Addr)} {fl : List (Str × Ms)} (s : Same H H') (h : NmAt H d ads fl) : NmAt H' d ads fl := ⟨s _ _ h.1, Paired.mono (fun x y z => ⟨z.1, z.2.same s⟩) h.2⟩
theorem nm_lk {H : Hp} {ads : List (Str × Addr)} {fl : List (Str × Ms)} (p : Paired (NmR H) ads fl) (l : Str) : (lk ads l = none ∧ lk fl l = none) ∨ ∃ b m, lk ads l = some b ∧ lk fl l = some m ∧ MsN H b m := by
  induction p with
  | nil => exact .inl ⟨rfl, rfl⟩
  | @cons x y xs ys h _ ih =>
    obtain ⟨h1, h2⟩ := h
    by_cases e : x.1 = l
    · exact .inr ⟨x.2, y.2, if_pos e, if_pos (h1 ▸ e), h2⟩
    · have e' : ¬ y.1 = l := fun z => e (h1.trans z)
      rw [show lk (x :: xs) l = lk xs l from if_neg e, show lk (y :: ys) l = lk ys l from if_neg e']
      exact ih
theorem nm_get {H : Hp} {d : Addr} {ads : List (Str × Addr)} {fl : List (Str × Ms)} (h : NmAt H d ads fl) {l : Str} (n : lk fl l ≠ none) : ∃ b m, lk fl l = some m ∧ DGet H d (.str l) (some (.ref b)) ∧ MsN H b m := by
  rcases nm_lk h.2 l with ⟨_, a2⟩ | ⟨b, m, a1, a2, a3⟩
  · exact absurd a2 n
  · refine ⟨b, m, a2, ?_, a3⟩
    have := DGet.k (k := Sum.inr l) h.1
    rw [encG_val, a1] at this
    exact this
theorem cut_drop {xs : List V} {k : Nat} (h : k ≤ xs.length) : cutV xs (some (k : Int)) none = xs.drop k := by
  unfold cutV
  rw [HT.sIx_nat, HT.sIx_none, Nat.min_eq_left h, List.take_of_length_le (by rw [List.length_drop]; exact Nat.le_refl _)]
theorem paired_drop {α β : Type} {G : α → β → Prop} : ∀ (k : Nat) {l : List α} {m : List β}, Paired G l m → Paired G (l.drop k) (m.drop k)
  | 0, _, _, p => p
  | _ + 1, _, _, .nil => .nil
  | k + 1, _, _, .cons _ t => paired_drop k t
/-! ### of the parts -/
theorem part_of {r x : Rk} (h : x ∈ r.parts) (ok : r.Ok) : x.Ok ∧ (∀ s ∈ x.ins, s ∈ r.ins) ∧ x.lvs ≤ r.lvs := by
  cases r with
  | is _ _ _ => exact absurd h (by show x ∉ []; simp)
  | nought => exact absurd h (by show x ∉ []; simp)
  | input _ => exact absurd h (by show x ∉ []; simp)
  | bin o a b =>
    obtain ⟨o1, o2⟩ := ok
    rcases List.mem_cons.mp h with e | h
    · rw [e]; exact ⟨o1, fun s hs => List.mem_append_left _ hs, Nat.le_add_right _ _⟩
    · rw [List.mem_singleton.mp h]; exact ⟨o2, fun s hs => List.mem_append_right _ hs, Nat.le_add_left _ _⟩
  | power a n =>
    rw [List.mem_singleton.mp h]
    exact ⟨ok.1, fun s hs => hs, Nat.le_refl _⟩
  | less a b c d =>
    obtain ⟨o1, o2, o3, o4⟩ := ok
    have e : (Rk.less a b c d).lvs = a.lvs + b.lvs + c.lvs + d.lvs := rfl
    rcases List.mem_cons.mp h with q | h
    · rw [q]; exact ⟨o1, fun s hs => List.mem_append_left _ (List.mem_append_left _ (List.mem_append_left _ hs)), by omega⟩
    · rcases List.mem_cons.mp h with q | h
      · rw [q]; exact ⟨o2, fun s hs => List.mem_append_left _ (List.mem_append_left _ (List.mem_append_right _ hs)), by omega⟩
      · rcases List.mem_cons.mp h with q | h
        · rw [q]; exact ⟨o3, fun s hs => List.mem_append_left _ (List.mem_append_right _ hs), by omega⟩
        · rw [List.mem_singleton.mp h]; exact ⟨o4, fun s hs => List.mem_append_right _ hs, by omega⟩
theorem nsum_parts (r : Rk) : nsum r.parts ≤ r.noughts := by
  cases r with
  | is _ _ _ => exact Nat.zero_le _
  | nought => exact Nat.zero_le _
  | input _ => exact Nat.zero_le _
  | bin o a b =>
    show a.noughts + (b.noughts + 0) ≤ a.noughts + b.noughts
    omega
  | power a n =>
    show a.noughts + 0 ≤ a.noughts
    omega
  | less a b c d =>
    show a.noughts + (b.noughts + (c.noughts + (d.noughts + 0))) ≤ a.noughts + b.noughts + c.noughts + d.noughts
    omega
theorem nsum_le : ∀ (l : List Rk) (i : Nat), nsum (l.take i) ≤ nsum l
  | [], i => by rw [List.take_nil]; exact Nat.le_refl _
  | x :: r, 0 => Nat.zero_le _
  | x :: r, i + 1 => by
    have := nsum_le r i
    show x.noughts + nsum (r.take i) ≤ x.noughts + nsum r
    omega
theorem walk_len (env : Str → Ms) : ∀ (r : Rk) (g : List Ms), (walk env r g).2.length + 1 ≤ r.lvs
  | .is _ _ _, _ => Nat.le_refl _
  | .nought, _ => Nat.le_refl _
  | .input _, _ => Nat.le_refl _
  | .bin o a b, g => by
    have h1 := walk_len env a g
    have h2 := walk_len env b (g.drop a.noughts)
    have e : (Rk.bin o a b).lvs = a.lvs + b.lvs := rfl
    cases o with
    | times =>
      show ((walk env a g).2 ++ (walk env b (g.drop a.noughts)).2).length + 1 ≤ _
      rw [List.length_append]; omega
    | over =>
      show ((walk env a g).2 ++ (walk env b (g.drop a.noughts)).2).length + 1 ≤ _
      rw [List.length_append]; omega
    | plus =>
      show ((walk env a g).2 ++ (walk env b (g.drop a.noughts)).2 ++ [_]).length + 1 ≤ _
      rw [List.length_append, List.length_append, List.length_singleton]; omega
    | minus =>
      show ((walk env a g).2 ++ (walk env b (g.drop a.noughts)).2 ++ [_]).length + 1 ≤ _
      rw [List.length_append, List.length_append, List.length_singleton]; omega
  | .power a n, g => walk_len env a g
  | .less a b c d, g => by
    have h1 := walk_len env a g
    have h2 := walk_len env b (g.drop a.noughts)
    have h3 := walk_len env c (g.drop (a.noughts + b.noughts))
    have h4 := walk_len env d (g.drop (a.noughts + b.noughts + c.noughts))
    have e : (Rk.less a b c d).lvs = a.lvs + b.lvs + c.lvs + d.lvs := rfl
    show ((walk env a g).2 ++ (walk env b (g.drop a.noughts)).2 ++ (walk env c (g.drop (a.noughts + b.noughts))).2 ++ (walk env d (g.drop (a.noughts + b.noughts + c.noughts))).2 ++ [_] ++ [_]).length + 1 ≤ _
    rw [List.length_append, List.length_append, List.length_append, List.length_append, List.length_append, List.length_singleton, List.length_singleton]; omega
theorem walks_flat (env : Str → Ms) : ∀ (l : List Rk) (g : List Ms), ((walks env l g).flatMap (·.2)).length ≤ (l.map Rk.lvs).sum
  | [], _ => Nat.zero_le _
  | x :: r, g => by
    have h1 := walk_len env x g
    have h2 := walks_flat env r (g.drop x.noughts)
    show ((walk env x g).2 ++ (walks env r (g.drop x.noughts)).flatMap (·.2)).length ≤ x.lvs + (r.map Rk.lvs).sum
    rw [List.length_append]
    omega
theorem lvs_parts (r : Rk) : (r.parts.map Rk.lvs).sum ≤ r.lvs := by
  cases r with
  | is _ _ _ => exact Nat.zero_le _
  | nought => exact Nat.zero_le _
  | input _ => exact Nat.zero_le _
  | bin o a b =>
    show a.lvs + (b.lvs + 0) ≤ a.lvs + b.lvs
    omega
  | power a n =>
    show a.lvs + 0 ≤ a.lvs
    omega
  | less a b c d =>
    show a.lvs + (b.lvs + (c.lvs + (d.lvs + 0))) ≤ a.lvs + b.lvs + c.lvs + d.lvs
    omega
theorem TupN.lst {H : Hp} {D p : Addr} {xs ys : List V} {o : HO} (h : H D = some (.lst xs)) (q : TupN H p ys) : TupN (L2.upd H D o) p ys := by
  obtain ⟨ob, e, d⟩ := q
  exact ⟨ob, fne h e (fun z => nomatch z), d⟩
theorem TupN.same {H H' : Hp} {p : Addr} {ys : List V} (s : Same H H') (q : TupN H p ys) : TupN H' p ys := by
  obtain ⟨ob, e, d⟩ := q
  exact ⟨ob, s _ _ e, d⟩
theorem paired_app {α β : Type} {G : α → β → Prop} : ∀ {l : List α} {m : List β} {l' : List α} {m' : List β}, Paired G l m → Paired G l' m' → Paired G (l ++ l') (m ++ m')
  | _, _, _, _, .nil, q => q
  | _, _, _, _, .cons h t, q => .cons h (paired_app t q)
/-- how great a reckoning's measure may be -/
theorem walk_b {env : Str → Ms} {l b : Nat} (he : ∀ s, MsB l b (env s)) (l6 : 6 ≤ l) (b5 : 5 ≤ b) : ∀ {r : Rk} {g : List Ms}, r.Ok → (∀ m ∈ g, MsB l b m) → MsB (l * r.lvs) (b + 3 * r.deep) (walk env r g).1
  | .is x y m, g, ⟨_, _, _, h⟩, _ => ⟨h.can, Nat.le_trans h.few (by show 6 ≤ l * 1; omega), fun p hp => Nat.lt_of_le_of_lt (h.sm p hp) (Nat.lt_of_lt_of_le (show 20 < 2 ^ 5 by decide) (Nat.pow_le_pow_right (by decide) (by omega)))⟩
  | .nought, g, _, hg => by
    cases g with
    | nil => exact .nil
    | cons m g => exact (hg m List.mem_cons_self).mono (by show l ≤ l * 1; omega) (by omega)
  | .input s, g, _, _ => (he s).mono (by show l ≤ l * 1; omega) (by omega)
  | .bin o a c, g, ⟨o1, o2⟩, hg => by
    have h1 := walk_b he l6 b5 (g := g) o1 hg
    have h2 := walk_b he l6 b5 (g := g.drop a.noughts) o2 fun m hm => hg m (List.mem_of_mem_drop hm)
    have e : (Rk.bin o a c).deep = 1 + max a.deep c.deep := rfl
    have e2 : l * (Rk.bin o a c).lvs = l * a.lvs + l * c.lvs := Nat.mul_add l a.lvs c.lvs
    have k1 := h1.mono (l' := l * a.lvs) (b' := b + 3 * max a.deep c.deep) (Nat.le_refl _) (by omega)
    have k2 := h2.mono (l' := l * c.lvs) (b' := b + 3 * max a.deep c.deep) (Nat.le_refl _) (by omega)
    cases o with
    | times => exact (mulC_b k1 k2 (by decide)).mono (by omega) (by omega)
    | over => exact (mulC_b k1 k2 (by decide)).mono (by omega) (by omega)
    | plus => exact h1.mono (by omega) (by omega)
    | minus => exact h1.mono (by omega) (by omega)
  | .power a n, g, ⟨o1, n1, n2⟩, hg => by
    have h1 := walk_b he l6 b5 (g := g) o1 hg
    have e : (Rk.power a n).deep = 1 + a.deep := rfl
    have e2 : (Rk.power a n).lvs = a.lvs := rfl
    exact (mulC_b (MsB.nil (l := 0) (b := b + 3 * a.deep)) h1 (by omega)).mono (by rw [e2]; omega) (by omega)
  | .less a c d f, g, ⟨o1, o2, o3, o4⟩, hg => by
    have h3 := walk_b he l6 b5 (g := g.drop (a.noughts + c.noughts)) o3 fun m hm => hg m (List.mem_of_mem_drop hm)
    have e : (Rk.less a c d f).deep = 1 + max (max a.deep c.deep) (max d.deep f.deep) := rfl
    have e2 : l * d.lvs ≤ l * (Rk.less a c d f).lvs := Nat.mul_le_mul_left _ (by show d.lvs ≤ a.lvs + c.lvs + d.lvs + f.lvs; omega)
    exact h3.mono e2 (by omega)
end MK


set_option Elab.async false
set_option linter.all false
set_option maxRecDepth 100000
set_option maxHeartbeats 4000000
/-! All the reckonings within one, from left to right; what a reckoning's tuple holds; how many there are by depth. -/
namespace MK
open PySem PySem.Spec PyProof.Rows L2
/-- the first text -/
def Rk.kind : Rk → Str
  | .is _ _ _ => "is" | .nought => "nought" | .input _ => "input" | .bin o _ _ => o.name | .power _ _ => "power" | .less _ _ _ _ => "less"
/-- itself and all within, from left to right -/
def Rk.all : Rk → List Rk
  | .bin o a b => .bin o a b :: (a.all ++ b.all)
  | .power a n => .power a n :: a.all
  | .less a b c d => .less a b c d :: (a.all ++ b.all ++ c.all ++ d.all)
  | .is x y m => [.is x y m]
  | .nought => [.nought]
  | .input s => [.input s]
theorem all_eq : ∀ r : Rk, r.all = r :: r.parts.flatMap Rk.all
  | .is _ _ _ => rfl
  | .nought => rfl
  | .input _ => rfl
  | .bin o a b => by
    show _ :: (a.all ++ b.all) = _ :: (a.all ++ (b.all ++ []))
    rw [List.append_nil]
  | .power a n => by
    show _ :: a.all = _ :: (a.all ++ [])
    rw [List.append_nil]
  | .less a b c d => by
    show _ :: (a.all ++ b.all ++ c.all ++ d.all) = _ :: (a.all ++ (b.all ++ (c.all ++ (d.all ++ []))))
    rw [List.append_nil, List.append_assoc, List.append_assoc]
theorem all_len : ∀ r : Rk, r.all.length = r.many
  | .is _ _ _ => rfl
  | .nought => rfl
  | .input _ => rfl
  | .bin o a b => by
    have := all_len a; have := all_len b
    show (a.all ++ b.all).length + 1 = 1 + (a.many + b.many)
    rw [List.length_append]
    omega
  | .power a n => by
    have := all_len a
    show a.all.length + 1 = 1 + a.many
    omega
  | .less a b c d => by
    have := all_len a; have := all_len b; have := all_len c; have := all_len d
    show (a.all ++ b.all ++ c.all ++ d.all).length + 1 = 1 + (a.many + b.many + c.many + d.many)
    rw [List.length_append, List.length_append, List.length_append]
    omega
def inpName : Rk → Option Str
  | .input s => some s
  | _ => none
def isNou : Rk → Bool
  | .nought => true
  | _ => false
theorem all_ins : ∀ r : Rk, r.all.filterMap inpName = r.ins
  | .is _ _ _ => rfl
  | .nought => rfl
  | .input _ => rfl
  | .bin o a b => by
    show (a.all ++ b.all).filterMap inpName = _
    rw [List.filterMap_append, all_ins a, all_ins b]
    rfl
  | .power a n => all_ins a
  | .less a b c d => by
    show (a.all ++ b.all ++ c.all ++ d.all).filterMap inpName = _
    rw [List.filterMap_append, List.filterMap_append, List.filterMap_append, all_ins a, all_ins b, all_ins c, all_ins d]
    rfl
theorem all_nou : ∀ r : Rk, (r.all.filter isNou).length = r.noughts
  | .is _ _ _ => rfl
  | .nought => rfl
  | .input _ => rfl
  | .bin o a b => by
    have := all_nou a; have := all_nou b
    show ((a.all ++ b.all).filter isNou).length = a.noughts + b.noughts
    rw [List.filter_append, List.length_append]
    omega
  | .power a n => all_nou a
  | .less a b c d => by
    have := all_nou a; have := all_nou b; have := all_nou c; have := all_nou d
    show ((a.all ++ b.all ++ c.all ++ d.all).filter isNou).length = a.noughts + b.noughts + c.noughts + d.noughts
    rw [List.filter_append, List.filter_append, List.filter_append, List.length_append, List.length_append, List.length_append]
    omega
/-- a reckoning's tuple: its kind, its parts, what stands behind -/
theorem tr_tup {H : Hp} : ∀ {r : Rk} {t : Addr}, TrAt H r t → ∃ (ps : List Addr) (zs : List V), H t = some (.tup (V.str r.kind :: (ps.map V.ref ++ zs))) ∧ Paired (fun q x => TrAt H x q) ps r.parts
  | .is x y m, t, ⟨q, b, h1, _⟩ => ⟨[], _, h1, .nil⟩
  | .nought, t, h => ⟨[], _, h, .nil⟩
  | .input z, t, h => ⟨[], _, h, .nil⟩
  | .bin o a b, t, ⟨q, r, h1, h2, h3⟩ => ⟨[q, r], [], h1, .cons h2 (.cons h3 .nil)⟩
  | .power a n, t, ⟨q, h1, h2⟩ => ⟨[q], _, h1, .cons h2 .nil⟩
  | .less a b c d, t, ⟨q, r, u, v, h1, h2, h3, h4, h5⟩ => ⟨[q, r, u, v], [], h1, .cons h2 (.cons h3 (.cons h4 (.cons h5 .nil)))⟩
theorem cut_parts (x : V) (us zs : List V) : cutV (x :: (us ++ zs)) (some 1) (some (1 + (us.length : Int))) = us := by
  have h1 : HT.sIx (x :: (us ++ zs)).length 0 (some 1) = 1 := by
    rw [show (1 : Int) = ((1 : Nat) : Int) from rfl, HT.sIx_nat]
    simp only [List.length_cons]
    omega
  have h2 : HT.sIx (x :: (us ++ zs)).length (x :: (us ++ zs)).length (some (1 + (us.length : Int))) = 1 + us.length := by
    rw [show (1 : Int) + (us.length : Int) = ((1 + us.length : Nat) : Int) by omega, HT.sIx_nat]
    simp only [List.length_cons, List.length_append]
    omega
  unfold cutV
  rw [h1, h2]
  show ((us ++ zs).take (1 + us.length - 1)) = us
  rw [Nat.add_sub_cancel_left, List.take_left]
theorem cut_some (x : V) (us zs : List V) {j : Option Int} : ¬ (HT.sIx (x :: (us ++ zs)).length 0 (some 1) = 0 ∧ HT.sIx (x :: (us ++ zs)).length (x :: (us ++ zs)).length j = (x :: (us ++ zs)).length) := by
  rintro ⟨h, _⟩
  rw [show (1 : Int) = ((1 : Nat) : Int) from rfl, HT.sIx_nat] at h
  simp only [List.length_cons] at h
  omega
theorem many_by : ∀ (n : Nat) (r : Rk), r.deep ≤ n → 3 * r.many + 1 ≤ 4 ^ n := by
  intro n
  induction n with
  | zero =>
    intro r h
    have := r.deep_pos
    omega
  | succ n ih =>
    intro r h
    have e : 4 ^ (n + 1) = 4 ^ n * 4 := Nat.pow_succ ..
    have p1 : 1 ≤ 4 ^ n := Nat.one_le_pow n 4 (by decide)
    cases r with
    | bin o a b =>
      have h : 1 + max a.deep b.deep ≤ n + 1 := h
      have := ih a (by omega); have := ih b (by omega)
      show 3 * (1 + (a.many + b.many)) + 1 ≤ _
      omega
    | power a m =>
      have h : 1 + a.deep ≤ n + 1 := h
      have := ih a (by omega)
      show 3 * (1 + a.many) + 1 ≤ _
      omega
    | less a b c d =>
      have h : 1 + max (max a.deep b.deep) (max c.deep d.deep) ≤ n + 1 := h
      have := ih a (by omega); have := ih b (by omega); have := ih c (by omega); have := ih d (by omega)
      show 3 * (1 + (a.many + b.many + c.many + d.many)) + 1 ≤ _
      omega
    | is _ _ _ =>
      show 3 * 1 + 1 ≤ _
      omega
    | nought =>
      show 3 * 1 + 1 ≤ _
      omega
    | input _ =>
      show 3 * 1 + 1 ≤ _
      omega
theorem many_pos : ∀ r : Rk, 1 ≤ r.many
  | .is _ _ _ => Nat.le_refl _ | .nought => Nat.le_refl _ | .input _ => Nat.le_refl _
  | .bin _ _ _ => Nat.le_add_right _ _ | .power _ _ => Nat.le_add_right _ _ | .less _ _ _ _ => Nat.le_add_right _ _
theorem parts_many : ∀ {r x : Rk}, x ∈ r.parts → x.many < r.many
  | .bin _ a b, x, h => by
    show x.many < 1 + (a.many + b.many)
    rcases List.mem_cons.mp h with e | h
    · rw [e]; omega
    · rw [List.mem_singleton.mp h]; omega
  | .power a _, x, h => by
    show x.many < 1 + a.many
    rw [List.mem_singleton.mp h]; omega
  | .less a b c d, x, h => by
    show x.many < 1 + (a.many + b.many + c.many + d.many)
    rcases List.mem_cons.mp h with e | h
    · rw [e]; omega
    · rcases List.mem_cons.mp h with e | h
      · rw [e]; omega
      · rcases List.mem_cons.mp h with e | h
        · rw [e]; omega
        · rw [List.mem_singleton.mp h]; omega
theorem ins_nm : ∀ {r : Rk}, r.Ok → ∀ {z : Str}, z ∈ r.ins → Nm z
  | .is _ _ _, _, _, h => absurd (show _ ∈ [] from h) (by simp)
  | .nought, _, _, h => absurd (show _ ∈ [] from h) (by simp)
  | .input s, ok, z, h => by
    rw [List.mem_singleton.mp (show z ∈ [s] from h)]
    exact ok
  | .bin _ a b, ⟨h1, h2⟩, z, h => (List.mem_append.mp (show z ∈ a.ins ++ b.ins from h)).elim (ins_nm h1) (ins_nm h2)
  | .power a _, ⟨h1, _⟩, z, h => ins_nm h1 (show z ∈ a.ins from h)
  | .less a b c d, ⟨h1, h2, h3, h4⟩, z, h => (List.mem_append.mp (show z ∈ a.ins ++ b.ins ++ c.ins ++ d.ins from h)).elim (fun h => (List.mem_append.mp h).elim (fun h => (List.mem_append.mp h).elim (ins_nm h1) (ins_nm h2)) (ins_nm h3)) (ins_nm h4)
theorem kind_inp : ∀ {r : Rk}, (∀ z, r ≠ .input z) → decide (V.str r.kind = V.str "input") = false
  | .is _ _ _, _ => (by decide +kernel : decide (V.str "is" = V.str "input") = false)
  | .nought, _ => (by decide +kernel : decide (V.str "nought" = V.str "input") = false)
  | .input z, h => absurd rfl (h z)
  | .bin .plus _ _, _ => (by decide +kernel : decide (V.str "plus" = V.str "input") = false)
  | .bin .minus _ _, _ => (by decide +kernel : decide (V.str "minus" = V.str "input") = false)
  | .bin .times _ _, _ => (by decide +kernel : decide (V.str "times" = V.str "input") = false)
  | .bin .over _ _, _ => (by decide +kernel : decide (V.str "over" = V.str "input") = false)
  | .power _ _, _ => (by decide +kernel : decide (V.str "power" = V.str "input") = false)
  | .less _ _ _ _, _ => (by decide +kernel : decide (V.str "less" = V.str "input") = false)
theorem kind_nou : ∀ {r : Rk}, isNou r = false → decide (V.str r.kind = V.str "nought") = false
  | .is _ _ _, _ => (by decide +kernel : decide (V.str "is" = V.str "nought") = false)
  | .nought, h => nomatch h
  | .input z, h => (by decide +kernel : decide (V.str "input" = V.str "nought") = false)
  | .bin .plus _ _, _ => (by decide +kernel : decide (V.str "plus" = V.str "nought") = false)
  | .bin .minus _ _, _ => (by decide +kernel : decide (V.str "minus" = V.str "nought") = false)
  | .bin .times _ _, _ => (by decide +kernel : decide (V.str "times" = V.str "nought") = false)
  | .bin .over _ _, _ => (by decide +kernel : decide (V.str "over" = V.str "nought") = false)
  | .power _ _, _ => (by decide +kernel : decide (V.str "power" = V.str "nought") = false)
  | .less _ _ _ _, _ => (by decide +kernel : decide (V.str "less" = V.str "nought") = false)
/-- the table of how many parts a form has -/
structure PTab (K : PySem.W.Frag) (w : World) (mg : Str → Option Value) (pt : Addr) : Prop where
  g : mg "PARTS" = some (.ref pt)
  k : ∀ r : Rk, KDct K w pt r.kind (.int (r.parts.length : Nat))
theorem PTab.mk' {K : PySem.W.Frag} {w : World} {mg : Str → Option Value} {pt : Addr} {es : Array DictEntry} {n : Nat} {t1 t2 t3 t4 t5 t6 t7 t8 t9 : Tok}
    (g : mg "PARTS" = some (.ref pt)) (l : K.lookup pt = some ⟨.type "dict", none, .dict es n, #[]⟩) (kl : PySem.W.KeysLit w.params es.toList)
    (e1 : PySem.W.nsIn K pt "is" = some (some (.int 0 t1))) (e2 : PySem.W.nsIn K pt "nought" = some (some (.int 0 t2))) (e3 : PySem.W.nsIn K pt "input" = some (some (.int 0 t3)))
    (e4 : PySem.W.nsIn K pt "plus" = some (some (.int 2 t4))) (e5 : PySem.W.nsIn K pt "minus" = some (some (.int 2 t5))) (e6 : PySem.W.nsIn K pt "times" = some (some (.int 2 t6)))
    (e7 : PySem.W.nsIn K pt "over" = some (some (.int 2 t7))) (e8 : PySem.W.nsIn K pt "power" = some (some (.int 1 t8))) (e9 : PySem.W.nsIn K pt "less" = some (some (.int 4 t9))) : PTab K w mg pt :=
  ⟨g, fun r => match r with
    | .is _ _ _ => ⟨es, n, _, l, kl, e1, _, rfl⟩
    | .nought => ⟨es, n, _, l, kl, e2, _, rfl⟩
    | .input _ => ⟨es, n, _, l, kl, e3, _, rfl⟩
    | .bin .plus _ _ => ⟨es, n, _, l, kl, e4, _, rfl⟩
    | .bin .minus _ _ => ⟨es, n, _, l, kl, e5, _, rfl⟩
    | .bin .times _ _ => ⟨es, n, _, l, kl, e6, _, rfl⟩
    | .bin .over _ _ => ⟨es, n, _, l, kl, e7, _, rfl⟩
    | .power _ _ => ⟨es, n, _, l, kl, e8, _, rfl⟩
    | .less _ _ _ _ => ⟨es, n, _, l, kl, e9, _, rfl⟩⟩
end MK


set_option Elab.async false
set_option linter.all false
set_option maxRecDepth 100000
set_option maxHeartbeats 4000000
/-! {elt for target in iter if ..}, elt a text. An own error of any arguments, its context None. -/
namespace L2
open PySem PySem.Spec PyProof.Rows PpSet PySem.Froz
section
variable {X : Cx}
/-- set.add of a text -/
theorem addTx_ok {pins : List (Addr × Obj)} {σ : L2.St} {H : Hp} {s : Shared} {E : Value → Shared → Prop} {D : Addr} {l : List Str} {y : Str} {t : Tok} {Q : Value → Shared → Prop} (I : Inv X pins σ H s) (hD : H D = some (TxO X.prog X.w D l)) (room : l.length + 1 < scanBound)
    (h : ∀ s' l', (∀ z, z ∈ l' ↔ z = y ∨ z ∈ l) → l'.length ≤ l.length + 1 → Inv X pins σ (upd H D (TxO X.prog X.w D l')) s' → Q .none s') : wpAny (model X.prog X.w) X.A (call (.builtin "set.add") [.ref D, .str y t]) Q E s := by
  have R : MKS.TxAt X.prog X.w s.heap D l := (I.hok D _ hD).1
  have hT : Shared.TypeIs s (.ref D) "set" := by
    obtain ⟨d, e, _⟩ := id R
    exact ⟨_, e, rfl⟩
  refine wpAny_call_entry F.slot_set_add hT F.entry_set_add ?_ (F.args_set_add_2 _ _)
  unfold Builtin.«set.add» Builtin.Frozenset.oneOther
  simp only [List.isEmpty_nil, bind_assoc]
  unfold Builtin.Frozenset.addrOf setAdd
  refine wpAny_bind (wpAny_pure ?_)
  try dsimp only
  refine wpAny_bind (wpAny_pure ?_)
  try dsimp only
  refine wpAny_bind ?_
  refine wpAny_holding ?_
  refine wpAny_bind ((strKind X.prog X.w).pyHash (k := y) (is_str y t) ?_)
  refine MKS.add_any (s := { s with toks := s.toks + 1 }) R room fun b h' l' oth tx' mem' len' => ?_
  show wpAny _ _ (ret Value.none) _ _ _
  have he : ∃ u, h'.get? D = some u := by
    obtain ⟨d, e, _⟩ := id tx'
    exact ⟨_, e⟩
  exact wpAny_pure ⟨_, rfl, h _ l' mem' len' (I.write (e := D) (t' := s.toks + 1) (by rw [hD]; trivial) (.inl rfl) (fun b u hb hu => (oth b hb).trans hu) he (txO_new tx'))⟩
/-- {elt for target in iter if ..}, elt a text: D the new set -/
def tScT (P : Program) (w : World) (wi : TI) (g : TG) (tt : TT) (te : TE) (vs : List Nat) : TE := fun σ H Q => wi σ H fun J H1 => ∀ D, H1 D = none → ∃ W : Nat → Nat → Hp → Prop, (∃ m, W 0 m (upd H1 D (TxO P w D []))) ∧ ∀ i m H, W i m H →
  (J.stop i H ∧ Q (.ref D) H) ∨ (J.go i H ∧ ∃ Nx : Hp → Prop, (∀ H', Nx H' → ∃ m', m' < m ∧ W (i + 1) m' H') ∧ ∀ x H', J.yld i H x H' → g x (wipe σ vs) H' fun σ2 H2 => wipe σ2 vs = wipe σ vs ∧ tt σ2 H2 fun b H3 =>
    if b = true then te σ2 H3 fun y H4 => ∃ (z : Str) (l : List Str), y = .str z ∧ H4 D = some (TxO P w D l) ∧ l.length + 1 < scanBound ∧ ∀ l', (∀ u, u ∈ l' ↔ u = z ∨ u ∈ l) → l'.length ≤ l.length + 1 → Nx (upd H4 D (TxO P w D l')) else Nx H3)
theorem scT_core {pins : List (Addr × Obj)} {s : Shared} {σ : L2.St} {H : Hp} {Q : VK} {elt tg iter : Expr} {ifs : List Expr} {scope : Scope} {own : List (PySem.Str × Nat)} {pos pos' : Pos} {wi : TI} {g : TG} {tt : TT} {te : TE} {use : Option (Value → Sem Unit)} {Qf : Value → Shared → Prop}
    (hc : X.calm = true) (hN : X.N.Nodup) (I : Inv X pins σ H s) (hi : PI X tg iter wi) (ok : BlkOk X.N X.env.scope scope own)
    (hg : ∀ (s : Shared) (H : Hp) (C : Addr) (cl : List (PySem.Str × Addr)) (fp : List Addr), PG (X.blk s H scope (compEnvC scope cl C X.env) fp) tg g) (ht : ∀ (s : Shared) (H : Hp) (C : Addr) (cl : List (PySem.Str × Addr)) (fp : List Addr), PTs (X.blk s H scope (compEnvC scope cl C X.env) fp) ifs tt)
    (he : ∀ (s : Shared) (H : Hp) (C : Addr) (cl : List (PySem.Str × Addr)) (fp : List Addr), PE (X.blk s H scope (compEnvC scope cl C X.env) fp) elt te) (hs : ∀ x, foldedSetIterable iter X.env x = pure x)
    (h : tScT X.prog X.w wi g tt te (own.map (·.2)) σ H Q)
    (hRR : ∀ D C s' m H', Inv X pins σ H' s' → Q (.ref D) H' → s'.heap.Ns C m → FpOk X pins H' C → compPost (model X.prog X.w) X.A X.xe use Qf (.ref D) C (.ok .next) s') :
    wpAny (model X.prog X.w) X.A (comprehension (.SetComp elt [⟨tg, iter, ifs, 0⟩] scope pos) scope X.env pos' (newSet (.type "set")) false (eval iter X.env) use) Qf X.xe s := by
  have hfree : ∀ y ∈ scope.names, y.2 = .free → ∃ c, X.env.cells.lookup y.1 = some c := fun y hy e => by
    rcases ok.free y hy e with k | k
    · exact I.ok.has _ (.inl k)
    · exact I.ok.has _ (.inr k)
  refine wpAny_comprehension_free (use := use) rfl hs (closure_ok hfree) ok.kind (fun y hy e => by rw [ok.uniq y hy, e])
    (thn (hi.run pins s σ H _ I h) fun xv s1 hx => thn hx fun itv s2 h2 => ?_)
  obtain ⟨it, fp, tn, J, H2, e, I2, T, st2, f2, q⟩ := h2
  subst e
  refine newSet_ok (newEnv_comp ?_)
  generalize hD : s2.heap.objs.size = D
  have hDn : H2 D = none := I2.hok.fresh (Nat.le_of_eq hD)
  obtain ⟨W, ⟨m0, w0⟩, turn⟩ := q D hDn
  generalize hs3 : ({ s2 with heap := s2.heap.push { cls := .type "set", dict := none, data := .set #[] 0 (.fresh 0 0 (!X.w.params.followText "set-order")) } } : Shared) = s3
  have I3 : Inv X pins σ (upd H2 D (TxO X.prog X.w D [])) s3 := by
    rw [← hs3]
    refine I2.laid (t' := s2.toks) (fun b o e => Heap.get?_push_of_some _ e) (Nat.le_of_eq hD) ?_
    rw [← hD]
    exact txO_new (MKS.new_tx (Heap.get?_push_size _ rfl))
  have h3 : s3.heap = s2.heap.push { cls := .type "set", dict := none, data := .set #[] 0 (.fresh 0 0 (!X.w.params.followText "set-order")) } := by rw [← hs3]
  have sz : ∀ b ∈ fp, b < s2.heap.objs.size := fun b hb => by
    obtain ⟨o, e, _⟩ := T.obj _ _ st2 b hb
    exact Heap.lt_size e
  have f3 : ∀ b ∈ fp, FpOk X pins (upd H2 D (TxO X.prog X.w D [])) b ∧ b < s3.heap.objs.size := fun b hb => by
    have hlt := sz b hb
    refine ⟨⟨?_, (f2 b hb).2⟩, by rw [h3, Heap.size_push]; exact Nat.lt_succ_of_lt hlt⟩
    rw [upd_ne (by rw [← hD]; exact Nat.ne_of_lt hlt)]
    exact (f2 b hb).1
  have st3 : tn 0 s3.heap := T.keep _ _ _ st2 fun b _ o e => by rw [h3]; exact Heap.get?_push_of_some _ e
  have I4 := block_start I3 ok hN f3
  have pg := hg s3 (upd H2 D (TxO X.prog X.w D [])) s3.heap.objs.size (cellsFrom (s3.heap.objs.size + 1) scope.names (cloFrom X.env.cells scope.names [])) fp
  have pt := ht s3 (upd H2 D (TxO X.prog X.w D [])) s3.heap.objs.size (cellsFrom (s3.heap.objs.size + 1) scope.names (cloFrom X.env.cells scope.names [])) fp
  have pe := he s3 (upd H2 D (TxO X.prog X.w D [])) s3.heap.objs.size (cellsFrom (s3.heap.objs.size + 1) scope.names (cloFrom X.env.cells scope.names [])) fp
  show codeAny _ _ (.compStart (.SetComp elt [⟨tg, iter, ifs, 0⟩] scope pos) 0 (.ref it) (.ref D) (compEnvC scope (cellsFrom (s3.heap.objs.size + 1) scope.names (cloFrom X.env.cells scope.names [])) s3.heap.objs.size X.env)) (compPost (model X.prog X.w) X.A X.xe use Qf (.ref D) s3.heap.objs.size) { s3 with heap := pushCells (s3.heap.push { cls := .type "dict", data := .dict #[] }) scope.names }
  have nfp : ∀ b ∈ fp, (upd H2 D (TxO X.prog X.w D [])) b = none := fun b hb => (f3 b hb).1.1
  generalize hce : compEnvC scope (cellsFrom (s3.heap.objs.size + 1) scope.names (cloFrom X.env.cells scope.names [])) s3.heap.objs.size X.env = ce at I4 pg pt pe ⊢
  have cL : ce.locals = s3.heap.objs.size := by subst hce; rfl
  generalize hH3 : upd H2 D (TxO X.prog X.w D []) = H3 at I3 I4 pg pt pe w0 nfp f3
  generalize hs4 : ({ s3 with heap := pushCells (s3.heap.push { cls := .type "dict", data := .dict #[] }) scope.names } : Shared) = s4 at I4 ⊢
  have st4 : tn 0 s4.heap := T.keep _ _ _ st3 fun b _ o e => by rw [← hs4]; exact pushCells_keeps _ _ _ _ (Heap.get?_push_of_some _ e)
  have stat : ∀ {σ' : L2.St} {H' : Hp} {s' : Shared}, Inv (X.blk s3 H3 scope ce fp) [] σ' H' s' → (∀ b ∈ fp, H' b = none) → ∀ b ∈ fp, FpOk (X.blk s3 H3 scope ce fp) [] H' b := fun {σ' H' s'} I' hn b hb =>
    ⟨hn b hb, (I'.ok.exf b hb).1, I'.ok.exfs b hb, .inl hb, fun x c e => (I'.ok.exf b hb).2 x c e, fun p hp => absurd (show p ∈ ([] : List (Addr × Obj)) ++ [] from hp) (by simp)⟩
  have loop : codeAny (model X.prog X.w) X.A (.compLoop (.SetComp elt [⟨tg, iter, ifs, 0⟩] scope pos) 0 (.ref it) (.ref D) ce) (compPost (model X.prog X.w) X.A X.xe use Qf (.ref D) s3.heap.objs.size) s4 := by
    refine compLoopS_any (fun n s' => ∃ i H', Inv (X.blk s3 H3 scope ce fp) [] (wipe σ (own.map (·.2))) H' s' ∧ tn i s'.heap ∧ (∀ b ∈ fp, H' b = none) ∧ W i n H') ?_ m0 ⟨0, H3, I4, st4, nfp, w0⟩
    rintro n s5 ⟨i, H5, I5, st5, n5, w5⟩
    rcases turn i n H5 w5 with ⟨stop, qq⟩ | ⟨go, Nx, hNx, step⟩
    · have td := T.done (X.blk s3 H3 scope ce fp) rfl rfl rfl hc i [] s5 _ H5 (fun _ _ => False) I5 (stat I5 n5) st5 stop
      refine thnF td fun r s6 ⟨hr, I6⟩ => ?_
      subst hr
      have I7 : Inv X pins σ H5 s6 := I3.call' (ch := fp) I6.os I6.base I6.hok I6.bare fun b hb => ⟨(f3 b hb).1.2.2.2.1, (f3 b hb).1.2.1, (f3 b hb).1.2.2.2.2.1, (f3 b hb).1.2.2.2.2.2⟩
      have nC : H5 s3.heap.objs.size = none := by
        have z : H5 ce.locals = none := I6.free
        rw [cL] at z
        exact z
      obtain ⟨m, hn, _⟩ := I6.loc
      have hn : s6.heap.Ns ce.locals m := hn
      rw [cL] at hn
      exact hRR D s3.heap.objs.size s6 m H5 I7 qq hn (I3.fpOk (Nat.le_refl _) nC)
    · have ti := T.item (X.blk s3 H3 scope ce fp) rfl rfl rfl hc i [] s5 _ H5 (fun _ _ => False) I5 (stat I5 n5) st5 go
      refine thnF ti fun r s6 ⟨u, hr, h6⟩ => ?_
      subst hr
      refine thnF h6 fun _ s7 ⟨x, H7, I7, r7, y7, st7, n7⟩ => ?_
      have I7' := I7.pinned (stat I7 n7) (T.obj _ _ st7)
      refine thnF (pg.run _ s7 _ H7 x u _ I7' r7 (step x H7 y7)) fun _ s8 ⟨σ8, H8, I8, hw8, q8⟩ => ?_
      refine thnF (pt.run _ s8 σ8 H8 _ I8 q8) fun b s9 ⟨H9, I9, q9⟩ => ?_
      have fin : ∀ {s' : Shared} {H' : Hp}, Inv (X.blk s3 H3 scope ce fp) ([] ++ pinsAt fp s7.heap) σ8 H' s' → Nx H' → ∃ m, m < n ∧ ∃ i H', Inv (X.blk s3 H3 scope ce fp) [] (wipe σ (own.map (·.2))) H' s' ∧ tn i s'.heap ∧ (∀ b ∈ fp, H' b = none) ∧ W i m H' := fun {s' H'} I' nx => by
        obtain ⟨m', hm, w'⟩ := hNx H' nx
        have pin' : ∀ b ∈ fp, ∀ o, s7.heap.get? b = some o → s'.heap.get? b = some o ∧ H' b = none := fun b hb o e =>
          let z := I'.pin (b, o) (List.mem_append_right _ (List.mem_append_right _ (mem_pinsAt hb e)))
          ⟨z.1, z.2.1⟩
        have hl : (wipe σ (own.map (·.2))).length = σ8.length := by rw [← hw8, wipe_length]
        refine ⟨m', hm, i + 1, H', (I'.unpinned (pins := [])).weak hl (fun j v e => ?_), T.keep _ _ _ st7 fun b hb o e => (pin' b hb o e).1, fun b hb => ?_, w'⟩
        · rw [← hw8] at e
          exact (wipe_some e).1
        · obtain ⟨o, e, _⟩ := T.obj _ _ st7 b hb
          exact (pin' b hb o e).2
      cases b with
      | false =>
        simp only [Bool.false_eq_true, if_false] at q9 ⊢
        exact fin I9 q9
      | true =>
        simp only [if_true] at q9 ⊢
        refine thnF (pe.run _ s9 σ8 H9 _ I9 q9) fun z s10 ⟨yv, H10, I10, r10, zb, l0, ey, hD10, hz10, nx⟩ => ?_
        subst ey
        obtain ⟨t10, ez⟩ := (show ∃ t, z = Value.str zb t from r10)
        subst ez
        exact addTx_ok (X := X.blk s3 H3 scope ce fp) I10 hD10 hz10 fun s11 l' hm hl I11 => fin I11 (nx l' hm hl)
  exact codeAny_compStart_set loop (T.self X.A 0 _ _ _ st4 loop)
/-- as a value -/
theorem pe_scT {elt tg iter : Expr} {ifs : List Expr} {scope : Scope} {own : List (PySem.Str × Nat)} {pos : Pos} {wi : TI} {g : TG} {tt : TT} {te : TE} (hc : X.calm = true) (hN : X.N.Nodup) (hi : PI X tg iter wi) (ok : BlkOk X.N X.env.scope scope own)
    (hg : ∀ (s : Shared) (H : Hp) (C : Addr) (cl : List (PySem.Str × Addr)) (fp : List Addr), PG (X.blk s H scope (compEnvC scope cl C X.env) fp) tg g) (ht : ∀ (s : Shared) (H : Hp) (C : Addr) (cl : List (PySem.Str × Addr)) (fp : List Addr), PTs (X.blk s H scope (compEnvC scope cl C X.env) fp) ifs tt)
    (he : ∀ (s : Shared) (H : Hp) (C : Addr) (cl : List (PySem.Str × Addr)) (fp : List Addr), PE (X.blk s H scope (compEnvC scope cl C X.env) fp) elt te) (hs : ∀ x, foldedSetIterable iter X.env x = pure x := by intro _; rfl) :
    PE X (.SetComp elt [⟨tg, iter, ifs, 0⟩] scope pos) (tScT X.prog X.w wi g tt te (own.map (·.2))) := by
  refine ⟨fun pins s σ H Q I h => ?_⟩
  rw [eval_SetComp]
  refine scT_core hc hN I hi ok hg ht he hs h fun D C s' m H' I' q hn f => ⟨m, hn, fun h'' sb => ?_⟩
  obtain ⟨f0, f1, f2, f3, f4, f5⟩ := f
  exact ⟨.ref D, H', I'.turned (t' := s'.toks) (fun b o hb e => (sb.2 b hb).trans e) f0 f1 f3 f4 f5, rfl, q⟩
end
/-- over a list that the block leaves as it is -/
theorem scT_list {P : Program} {w : World} {K : PySem.W.Frag} {a : Addr} {xs : List V} {g : TG} {tt : TT} {te : TE} {vs : List Nat} {σ : L2.St} {H1 : Hp} {D : Addr} {Qd : Hp → Prop} (Pv : Nat → Hp → Prop) (h0 : Pv 0 (upd H1 D (TxO P w D []))) (hl : ∀ i H, i ≤ xs.length → Pv i H → SqL K H a xs)
    (hs : ∀ i x H, xs[i]? = some x → Pv i H → g x (wipe σ vs) H fun σ2 H2 => wipe σ2 vs = wipe σ vs ∧ tt σ2 H2 fun b H3 =>
      if b = true then te σ2 H3 fun y H4 => ∃ (z : Str) (l : List Str), y = .str z ∧ H4 D = some (TxO P w D l) ∧ l.length + 1 < scanBound ∧ ∀ l', (∀ u, u ∈ l' ↔ u = z ∨ u ∈ l) → l'.length ≤ l.length + 1 → Pv (i + 1) (upd H4 D (TxO P w D l')) else Pv (i + 1) H3) (hd : ∀ H, Pv xs.length H → Qd H) :
    ∃ W : Nat → Nat → Hp → Prop, (∃ m, W 0 m (upd H1 D (TxO P w D []))) ∧ ∀ i m H, W i m H →
      ((Itl K a).stop i H ∧ Qd H) ∨ ((Itl K a).go i H ∧ ∃ Nx : Hp → Prop, (∀ H', Nx H' → ∃ m', m' < m ∧ W (i + 1) m' H') ∧ ∀ x H', (Itl K a).yld i H x H' → g x (wipe σ vs) H' fun σ2 H2 => wipe σ2 vs = wipe σ vs ∧ tt σ2 H2 fun b H3 =>
        if b = true then te σ2 H3 fun y H4 => ∃ (z : Str) (l : List Str), y = .str z ∧ H4 D = some (TxO P w D l) ∧ l.length + 1 < scanBound ∧ ∀ l', (∀ u, u ∈ l' ↔ u = z ∨ u ∈ l) → l'.length ≤ l.length + 1 → Nx (upd H4 D (TxO P w D l')) else Nx H3) := by
  refine ⟨fun i m H => m = xs.length - i ∧ i ≤ xs.length ∧ Pv i H, ⟨xs.length, by simp, Nat.zero_le _, h0⟩, ?_⟩
  rintro i m H ⟨rfl, hi, p⟩
  have q := hl i H hi p
  by_cases hlt : i < xs.length
  · refine .inr ⟨⟨xs, xs[i], q, by simp [hlt]⟩, Pv (i + 1), fun H' p' => ⟨xs.length - (i + 1), by omega, rfl, hlt, p'⟩, fun x H' y => ?_⟩
    obtain ⟨e, y⟩ := y
    subst e
    exact hs i x _ (y xs q) p
  · have e : i = xs.length := by omega
    subst e
    exact .inl ⟨⟨xs, q, Nat.le_refl _⟩, hd H p⟩
end L2
namespace L2N
open PySem PySem.Spec PyProof.Rows L2
/-- X(e, ..), X an own error class without own __init__ -/
theorem pmk_ownA {X : Cx} {pos : Pos} {C : Addr} {bmB : List Value} {B newId initId : String} {x : Str} {p : Pos} {e : Expr} {es : List Expr} {t : TA} (F : ExcBaseFacts B newId initId bmB) (q : PySem.W.excIn X.K C bmB newId = true) (gC : X.mg x = some (.ref C))
    (kC : PySem.W.keepIn X.K (.ref C) = true) (r : Raises X (.ref C)) (hg : Gl X x) (ha : PA X (e :: es) t) (hdb : (x == ("__debug__" : Str)) = false := by decide)
    (he : starEach (e :: es) X.env = (false, eval e X.env) :: starEach es X.env := by rfl) (hpl : (backTo pos (starEach es X.env)).any (·.1) = false := by rfl) :
    PMk X (.Call (.Name x p) (e :: es) [] pos) (fun σ H Q => t σ H fun vs H1 => vs.length ≤ sizeLine ∧ Q (.ref C) none H1) := by
  intro pins s σ H Q I h
  refine wpAny_Call_Name_kw (ld_glob I hg gC ?_ hdb)
  refine PySem.W.callWith_K (h₀ := X.base) I.ok.mod.kin kC (thn (ha.run pos pins s σ H _ I h) fun us s1 ⟨vs, H1, I1, r1, hz, q1⟩ => ⟨I1.kIn, ?_⟩) he hpl
  show wpAny _ _ (call (.ref C) us) _ _ _
  obtain ⟨bm, N, nm, qn, bs, hdct, sn, sub, ab, col, dd, k0, k1, k2, k3, k5, mN, hC, hN, hni, T⟩ := exc_obj I1.kIn q
  refine wpAny_call_exc_subT F T hC hN hni (fun h' e hm => ?_) (by rw [← r1.length]; exact hz)
  exact mk_of I1 hm r q1 (I1.hok.gone hm.new)
end L2N


set_option Elab.async false
set_option linter.all false
set_option maxRecDepth 100000
set_option maxHeartbeats 4000000
/-! The pairs that have to be alike; heaps that are alike but at two lists. -/
namespace MK
open PySem PySem.Spec PyProof.Rows L2
/-- the pairs of measures that have to be alike, from left to right -/
noncomputable def prs (env : Str → Ms) : Rk → List Ms → List (Ms × Ms)
  | .is _ _ _, _ => []
  | .nought, _ => []
  | .input _, _ => []
  | .bin o a b, g => match o with
    | .times => prs env a g ++ prs env b (g.drop a.noughts)
    | .over => prs env a g ++ prs env b (g.drop a.noughts)
    | _ => prs env a g ++ prs env b (g.drop a.noughts) ++ [((walk env a g).1, (walk env b (g.drop a.noughts)).1)]
  | .power a _, g => prs env a g
  | .less a b c d, g => prs env a g ++ prs env b (g.drop a.noughts) ++ prs env c (g.drop (a.noughts + b.noughts)) ++ prs env d (g.drop (a.noughts + b.noughts + c.noughts)) ++
      [((walk env a g).1, (walk env b (g.drop a.noughts)).1)] ++ [((walk env c (g.drop (a.noughts + b.noughts))).1, (walk env d (g.drop (a.noughts + b.noughts + c.noughts))).1)]
/-- one over the other -/
noncomputable def ovr (p : Ms × Ms) : Ms := mulC p.1 p.2 (-1)
theorem prs_rows (env : Str → Ms) : ∀ (r : Rk) (g : List Ms), (walk env r g).2 = (prs env r g).map ovr
  | .is _ _ _, _ => rfl
  | .nought, _ => rfl
  | .input _, _ => rfl
  | .bin .times a b, g => by
    show (walk env a g).2 ++ (walk env b (g.drop a.noughts)).2 = (prs env a g ++ prs env b (g.drop a.noughts)).map ovr
    rw [List.map_append, prs_rows env a, prs_rows env b]
  | .bin .over a b, g => by
    show (walk env a g).2 ++ (walk env b (g.drop a.noughts)).2 = (prs env a g ++ prs env b (g.drop a.noughts)).map ovr
    rw [List.map_append, prs_rows env a, prs_rows env b]
  | .bin .plus a b, g => by
    show (walk env a g).2 ++ (walk env b (g.drop a.noughts)).2 ++ [_] = (prs env a g ++ prs env b (g.drop a.noughts) ++ [_]).map ovr
    rw [List.map_append, List.map_append, prs_rows env a, prs_rows env b]
    rfl
  | .bin .minus a b, g => by
    show (walk env a g).2 ++ (walk env b (g.drop a.noughts)).2 ++ [_] = (prs env a g ++ prs env b (g.drop a.noughts) ++ [_]).map ovr
    rw [List.map_append, List.map_append, prs_rows env a, prs_rows env b]
    rfl
  | .power a n, g => prs_rows env a g
  | .less a b c d, g => by
    show (walk env a g).2 ++ (walk env b (g.drop a.noughts)).2 ++ (walk env c (g.drop (a.noughts + b.noughts))).2 ++ (walk env d (g.drop (a.noughts + b.noughts + c.noughts))).2 ++ [_] ++ [_] =
      (prs env a g ++ prs env b (g.drop a.noughts) ++ prs env c (g.drop (a.noughts + b.noughts)) ++ prs env d (g.drop (a.noughts + b.noughts + c.noughts)) ++ [_] ++ [_]).map ovr
    rw [List.map_append, List.map_append, List.map_append, List.map_append, List.map_append, prs_rows env a, prs_rows env b, prs_rows env c, prs_rows env d]
    rfl
theorem prs_len (env : Str → Ms) (r : Rk) (g : List Ms) : (prs env r g).length + 1 ≤ r.lvs := by
  have h := walk_len env r g
  rw [prs_rows, List.length_map] at h
  exact h
noncomputable def prss (env : Str → Ms) : List Rk → List Ms → List (List (Ms × Ms))
  | [], _ => []
  | x :: r, g => prs env x g :: prss env r (g.drop x.noughts)
theorem prss_len (env : Str → Ms) : ∀ (l : List Rk) (g : List Ms), (prss env l g).length = l.length
  | [], _ => rfl
  | x :: r, g => congrArg (· + 1) (prss_len env r (g.drop x.noughts))
theorem prss_at (env : Str → Ms) : ∀ (l : List Rk) (g : List Ms) {i : Nat} {x : Rk}, l[i]? = some x → (prss env l g)[i]? = some (prs env x (g.drop (nsum (l.take i))))
  | [], g, i, x, h => by simp at h
  | y :: r, g, 0, x, h => by
    obtain rfl : y = x := Option.some.inj h
    show some (prs env y g) = _
    rw [List.take_zero]
    rfl
  | y :: r, g, i + 1, x, h => by
    have e := prss_at env r (g.drop y.noughts) (i := i) (x := x) (by simpa using h)
    show (prss env r (g.drop y.noughts))[i]? = _
    rw [e, List.drop_drop]
    rfl
theorem prss_flat (env : Str → Ms) : ∀ (l : List Rk) (g : List Ms), (prss env l g).flatten.length ≤ (l.map Rk.lvs).sum
  | [], _ => Nat.zero_le _
  | x :: r, g => by
    have h1 := prs_len env x g
    have h2 := prss_flat env r (g.drop x.noughts)
    show (prs env x g ++ (prss env r (g.drop x.noughts)).flatten).length ≤ x.lvs + (r.map Rk.lvs).sum
    rw [List.length_append]
    omega
theorem prss_take (env : Str → Ms) : ∀ (l : List Rk) (g : List Ms) (i : Nat), (prss env l g).take i = prss env (l.take i) g
  | [], _, i => by
    rw [List.take_nil]
    exact List.take_nil
  | x :: r, g, 0 => rfl
  | x :: r, g, i + 1 => congrArg (_ :: ·) (prss_take env r (g.drop x.noughts) i)
theorem lvs_take : ∀ {l : List Rk} {i : Nat} {x : Rk}, l[i]? = some x → ((l.take i).map Rk.lvs).sum + x.lvs ≤ (l.map Rk.lvs).sum
  | [], i, x, h => by simp at h
  | y :: r, 0, x, h => by
    obtain rfl : y = x := Option.some.inj h
    show 0 + y.lvs ≤ y.lvs + (r.map Rk.lvs).sum
    omega
  | y :: r, i + 1, x, h => by
    have := lvs_take (l := r) (i := i) (x := x) (by simpa using h)
    show y.lvs + ((r.take i).map Rk.lvs).sum + x.lvs ≤ y.lvs + (r.map Rk.lvs).sum
    omega
theorem flatten_more {α : Type} {l : List (List α)} {i : Nat} {x : List α} (h : l[i]? = some x) : (l.take (i + 1)).flatten = (l.take i).flatten ++ x := by
  rw [take_more h, List.flatten_append]
  show _ ++ (x ++ []) = _
  rw [List.append_nil]
theorem flatten_le {α : Type} (l : List (List α)) (i : Nat) : (l.take i).flatten.length ≤ l.flatten.length := by
  conv => rhs; rw [← List.take_append_drop i l, List.flatten_append, List.length_append]
  exact Nat.le_add_right _ _
/-- each pair's measures are small -/
theorem prs_b {env : Str → Ms} {l b : Nat} (he : ∀ s, MsB l b (env s)) (l6 : 6 ≤ l) (b5 : 5 ≤ b) : ∀ {r : Rk} {g : List Ms}, r.Ok → (∀ m ∈ g, MsB l b m) → ∀ p ∈ prs env r g, MsB (l * r.lvs) (b + 3 * r.deep) p.1 ∧ MsB (l * r.lvs) (b + 3 * r.deep) p.2
  | .is _ _ _, g, _, _, p, hp => absurd (show p ∈ [] from hp) (by simp)
  | .nought, g, _, _, p, hp => absurd (show p ∈ [] from hp) (by simp)
  | .input _, g, _, _, p, hp => absurd (show p ∈ [] from hp) (by simp)
  | .bin o a c, g, ⟨o1, o2⟩, hg, p, hp => by
    have hd : ∀ m ∈ g.drop a.noughts, MsB l b m := fun m hm => hg m (List.mem_of_mem_drop hm)
    have w1 := walk_b he l6 b5 (g := g) o1 hg
    have w2 := walk_b he l6 b5 (g := g.drop a.noughts) o2 hd
    have e : (Rk.bin o a c).deep = 1 + max a.deep c.deep := rfl
    have e2 : l * (Rk.bin o a c).lvs = l * a.lvs + l * c.lvs := Nat.mul_add l a.lvs c.lvs
    have h1 : p ∈ prs env a g → MsB (l * (Rk.bin o a c).lvs) (b + 3 * (Rk.bin o a c).deep) p.1 ∧ MsB (l * (Rk.bin o a c).lvs) (b + 3 * (Rk.bin o a c).deep) p.2 := fun h =>
      ⟨(prs_b he l6 b5 o1 hg p h).1.mono (by omega) (by omega), (prs_b he l6 b5 o1 hg p h).2.mono (by omega) (by omega)⟩
    have h2 : p ∈ prs env c (g.drop a.noughts) → MsB (l * (Rk.bin o a c).lvs) (b + 3 * (Rk.bin o a c).deep) p.1 ∧ MsB (l * (Rk.bin o a c).lvs) (b + 3 * (Rk.bin o a c).deep) p.2 := fun h =>
      ⟨(prs_b he l6 b5 o2 hd p h).1.mono (by omega) (by omega), (prs_b he l6 b5 o2 hd p h).2.mono (by omega) (by omega)⟩
    have h3 : p = ((walk env a g).1, (walk env c (g.drop a.noughts)).1) → MsB (l * (Rk.bin o a c).lvs) (b + 3 * (Rk.bin o a c).deep) p.1 ∧ MsB (l * (Rk.bin o a c).lvs) (b + 3 * (Rk.bin o a c).deep) p.2 := fun h => by
      rw [h]
      exact ⟨w1.mono (by omega) (by omega), w2.mono (by omega) (by omega)⟩
    cases o with
    | times => exact (List.mem_append.mp (show p ∈ prs env a g ++ prs env c (g.drop a.noughts) from hp)).elim h1 h2
    | over => exact (List.mem_append.mp (show p ∈ prs env a g ++ prs env c (g.drop a.noughts) from hp)).elim h1 h2
    | plus => exact (List.mem_append.mp (show p ∈ prs env a g ++ prs env c (g.drop a.noughts) ++ [_] from hp)).elim (fun h => (List.mem_append.mp h).elim h1 h2) fun h => h3 (List.mem_singleton.mp h)
    | minus => exact (List.mem_append.mp (show p ∈ prs env a g ++ prs env c (g.drop a.noughts) ++ [_] from hp)).elim (fun h => (List.mem_append.mp h).elim h1 h2) fun h => h3 (List.mem_singleton.mp h)
  | .power a n, g, ⟨o1, _, _⟩, hg, p, hp => by
    have e : (Rk.power a n).deep = 1 + a.deep := rfl
    have e2 : (Rk.power a n).lvs = a.lvs := rfl
    have h := prs_b he l6 b5 o1 hg p hp
    rw [e2]
    exact ⟨h.1.mono (Nat.le_refl _) (by omega), h.2.mono (Nat.le_refl _) (by omega)⟩
  | .less a c d f, g, ⟨o1, o2, o3, o4⟩, hg, p, hp => by
    have hd : ∀ k, ∀ m ∈ g.drop k, MsB l b m := fun k m hm => hg m (List.mem_of_mem_drop hm)
    have e : (Rk.less a c d f).deep = 1 + max (max a.deep c.deep) (max d.deep f.deep) := rfl
    have e2 : l * (Rk.less a c d f).lvs = l * a.lvs + l * c.lvs + l * d.lvs + l * f.lvs := by
      show l * (a.lvs + c.lvs + d.lvs + f.lvs) = _
      rw [Nat.mul_add, Nat.mul_add, Nat.mul_add]
    have up : ∀ {x : Rk} {k : Nat}, x.Ok → x.deep < (Rk.less a c d f).deep → l * x.lvs ≤ l * (Rk.less a c d f).lvs → p ∈ prs env x (g.drop k) → MsB (l * (Rk.less a c d f).lvs) (b + 3 * (Rk.less a c d f).deep) p.1 ∧ MsB (l * (Rk.less a c d f).lvs) (b + 3 * (Rk.less a c d f).deep) p.2 → True := fun _ _ _ _ _ => trivial
    have w1 := walk_b he l6 b5 (g := g) o1 hg
    have w2 := walk_b he l6 b5 (g := g.drop a.noughts) o2 (hd _)
    have w3 := walk_b he l6 b5 (g := g.drop (a.noughts + c.noughts)) o3 (hd _)
    have w4 := walk_b he l6 b5 (g := g.drop (a.noughts + c.noughts + d.noughts)) o4 (hd _)
    have hp : p ∈ prs env a g ++ prs env c (g.drop a.noughts) ++ prs env d (g.drop (a.noughts + c.noughts)) ++ prs env f (g.drop (a.noughts + c.noughts + d.noughts)) ++
      [((walk env a g).1, (walk env c (g.drop a.noughts)).1)] ++ [((walk env d (g.drop (a.noughts + c.noughts))).1, (walk env f (g.drop (a.noughts + c.noughts + d.noughts))).1)] := hp
    simp only [List.mem_append, List.mem_singleton] at hp
    rcases hp with ((((h | h) | h) | h) | h) | h
    · exact ⟨(prs_b he l6 b5 o1 hg p h).1.mono (by omega) (by omega), (prs_b he l6 b5 o1 hg p h).2.mono (by omega) (by omega)⟩
    · exact ⟨(prs_b he l6 b5 o2 (hd _) p h).1.mono (by omega) (by omega), (prs_b he l6 b5 o2 (hd _) p h).2.mono (by omega) (by omega)⟩
    · exact ⟨(prs_b he l6 b5 o3 (hd _) p h).1.mono (by omega) (by omega), (prs_b he l6 b5 o3 (hd _) p h).2.mono (by omega) (by omega)⟩
    · exact ⟨(prs_b he l6 b5 o4 (hd _) p h).1.mono (by omega) (by omega), (prs_b he l6 b5 o4 (hd _) p h).2.mono (by omega) (by omega)⟩
    · rw [h]
      exact ⟨w1.mono (by omega) (by omega), w2.mono (by omega) (by omega)⟩
    · rw [h]
      exact ⟨w3.mono (by omega) (by omega), w4.mono (by omega) (by omega)⟩
/-! ### letters -/
theorem mulC_in {m n : Ms} {x : Int} {G : Str → Prop} (hm : ∀ p ∈ m, G p.1) (hn : ∀ p ∈ n, G p.1) : ∀ p ∈ mulC m n x, G p.1 := fun p hp => by
  by_cases e : ∃ r, IsTms m n x r
  · obtain ⟨r, t⟩ := e
    rw [mulC_is t] at hp
    obtain ⟨c, eq⟩ := t
    have q := (c.mem p.1 p.2).mp hp
    by_cases z1 : at0 m p.1 = 0
    · refine hn (p.1, at0 n p.1) (at0_mem fun z2 => q.1 ?_)
      rw [← q.2, eq, z1, z2]
      omega
    · exact hm (p.1, at0 m p.1) (at0_mem z1)
  · unfold mulC at hp
    rw [dif_neg e] at hp
    exact absurd hp (by simp)
theorem walk_in {env : Str → Ms} {G : Str → Prop} (he : ∀ s, ∀ p ∈ env s, G p.1) (hG : ∀ z, Nm z → G z) : ∀ {r : Rk} {g : List Ms}, r.Ok → (∀ m ∈ g, ∀ p ∈ m, G p.1) → ∀ p ∈ (walk env r g).1, G p.1
  | .is x y m, g, ⟨_, _, _, h⟩, _ => fun p hp => hG _ (h.nm p hp)
  | .nought, g, _, hg => fun p hp => by
    cases g with
    | nil => exact absurd (show p ∈ [] from hp) (by simp)
    | cons m g => exact hg m List.mem_cons_self p hp
  | .input s, g, _, _ => he s
  | .bin o a c, g, ⟨o1, o2⟩, hg => by
    have h1 := walk_in he hG (g := g) o1 hg
    have h2 := walk_in he hG (g := g.drop a.noughts) o2 fun m hm => hg m (List.mem_of_mem_drop hm)
    cases o with
    | times => exact mulC_in h1 h2
    | over => exact mulC_in h1 h2
    | plus => exact h1
    | minus => exact h1
  | .power a n, g, ⟨o1, _, _⟩, hg => mulC_in (fun p hp => absurd hp (by simp)) (walk_in he hG (g := g) o1 hg)
  | .less a c d f, g, ⟨_, _, o3, _⟩, hg => walk_in he hG (g := g.drop (a.noughts + c.noughts)) o3 fun m hm => hg m (List.mem_of_mem_drop hm)
theorem prs_in {env : Str → Ms} {G : Str → Prop} (he : ∀ s, ∀ p ∈ env s, G p.1) (hG : ∀ z, Nm z → G z) : ∀ {r : Rk} {g : List Ms}, r.Ok → (∀ m ∈ g, ∀ p ∈ m, G p.1) → ∀ q ∈ prs env r g, (∀ p ∈ q.1, G p.1) ∧ ∀ p ∈ q.2, G p.1
  | .is _ _ _, g, _, _, q, hq => absurd (show q ∈ [] from hq) (by simp)
  | .nought, g, _, _, q, hq => absurd (show q ∈ [] from hq) (by simp)
  | .input _, g, _, _, q, hq => absurd (show q ∈ [] from hq) (by simp)
  | .bin o a c, g, ⟨o1, o2⟩, hg, q, hq => by
    have hd : ∀ m ∈ g.drop a.noughts, ∀ p ∈ m, G p.1 := fun m hm => hg m (List.mem_of_mem_drop hm)
    have w1 := walk_in he hG (g := g) o1 hg
    have w2 := walk_in he hG (g := g.drop a.noughts) o2 hd
    have h1 := prs_in he hG (g := g) o1 hg q
    have h2 := prs_in he hG (g := g.drop a.noughts) o2 hd q
    have h3 : q = ((walk env a g).1, (walk env c (g.drop a.noughts)).1) → (∀ p ∈ q.1, G p.1) ∧ ∀ p ∈ q.2, G p.1 := fun h => by
      rw [h]
      exact ⟨w1, w2⟩
    cases o with
    | times => exact (List.mem_append.mp (show q ∈ prs env a g ++ prs env c (g.drop a.noughts) from hq)).elim h1 h2
    | over => exact (List.mem_append.mp (show q ∈ prs env a g ++ prs env c (g.drop a.noughts) from hq)).elim h1 h2
    | plus => exact (List.mem_append.mp (show q ∈ prs env a g ++ prs env c (g.drop a.noughts) ++ [_] from hq)).elim (fun h => (List.mem_append.mp h).elim h1 h2) fun h => h3 (List.mem_singleton.mp h)
    | minus => exact (List.mem_append.mp (show q ∈ prs env a g ++ prs env c (g.drop a.noughts) ++ [_] from hq)).elim (fun h => (List.mem_append.mp h).elim h1 h2) fun h => h3 (List.mem_singleton.mp h)
  | .power a n, g, ⟨o1, _, _⟩, hg, q, hq => prs_in he hG o1 hg q hq
  | .less a c d f, g, ⟨o1, o2, o3, o4⟩, hg, q, hq => by
    have hd : ∀ k, ∀ m ∈ g.drop k, ∀ p ∈ m, G p.1 := fun k m hm => hg m (List.mem_of_mem_drop hm)
    have hq : q ∈ prs env a g ++ prs env c (g.drop a.noughts) ++ prs env d (g.drop (a.noughts + c.noughts)) ++ prs env f (g.drop (a.noughts + c.noughts + d.noughts)) ++
      [((walk env a g).1, (walk env c (g.drop a.noughts)).1)] ++ [((walk env d (g.drop (a.noughts + c.noughts))).1, (walk env f (g.drop (a.noughts + c.noughts + d.noughts))).1)] := hq
    simp only [List.mem_append, List.mem_singleton] at hq
    rcases hq with ((((h | h) | h) | h) | h) | h
    · exact prs_in he hG o1 hg q h
    · exact prs_in he hG o2 (hd _) q h
    · exact prs_in he hG o3 (hd _) q h
    · exact prs_in he hG o4 (hd _) q h
    · rw [h]
      exact ⟨walk_in he hG o1 hg, walk_in he hG o2 (hd _)⟩
    · rw [h]
      exact ⟨walk_in he hG o3 (hd _), walk_in he hG o4 (hd _)⟩
/-! ### heaps -/
/-- what stands there stays, but at a and b -/
def But (a b : Addr) (H H' : Hp) : Prop := ∀ c x, c ≠ a → c ≠ b → H c = some x → H' c = some x
theorem But.of {a b : Addr} {H H' : Hp} (s : Same H H') : But a b H H' := fun c x _ _ h => s c x h
theorem But.trans {a b : Addr} {H H1 H2 : Hp} (h : But a b H H1) (g : But a b H1 H2) : But a b H H2 := fun c x n1 n2 e => g c x n1 n2 (h c x n1 n2 e)
theorem But.upd1 {a b : Addr} {H H' : Hp} {o : HO} (h : But a b H H') : But a b H (L2.upd H' a o) := fun c x n1 n2 e => by
  rw [upd_ne n1]
  exact h c x n1 n2 e
theorem But.upd2 {a b : Addr} {H H' : Hp} {o : HO} (h : But a b H H') : But a b H (L2.upd H' b o) := fun c x n1 n2 e => by
  rw [upd_ne n2]
  exact h c x n1 n2 e
theorem But.updN {a b d : Addr} {H H' : Hp} {o : HO} (h : But a b H H') (n : H d = none) : But a b H (L2.upd H' d o) := fun c x n1 n2 e => by
  rw [upd_ne (fun z => by rw [z, n] at e; cases e)]
  exact h c x n1 n2 e
/-- what is no list stays -/
def Fx (H H' : Hp) : Prop := ∀ c x, (∀ zs, x ≠ .lst zs) → H c = some x → H' c = some x
theorem Fx.of {H H' : Hp} (s : Same H H') : Fx H H' := fun c x _ h => s c x h
theorem Fx.trans {H H1 H2 : Hp} (h : Fx H H1) (g : Fx H1 H2) : Fx H H2 := fun c x n e => g c x n (h c x n e)
theorem Fx.lst {H : Hp} {d : Addr} {xs : List V} {o : HO} (h : H d = some (.lst xs)) : Fx H (L2.upd H d o) := fun c x n e => fne h e fun z => n _ z
theorem But.fx {a b : Addr} {H H' : Hp} {xs ys : List V} (h : But a b H H') (ha : H a = some (.lst xs)) (hb : H b = some (.lst ys)) : Fx H H' := fun c x n e =>
  h c x (fun z => n _ (by rw [z, ha] at e; exact (Option.some.inj e).symm)) (fun z => n _ (by rw [z, hb] at e; exact (Option.some.inj e).symm)) e
theorem pr_fx {H H' : Hp} {ts : List Addr} {m : Ms} (s : Fx H H') (p : Paired (PrAt H) ts m) : Paired (PrAt H') ts m := Paired.mono (fun _ q z => s _ (.tup [.str q.1, .int q.2]) (fun _ e => nomatch e) z) p
theorem MsN.fx {H H' : Hp} {b : Addr} {m : Ms} (s : Fx H H') (h : MsN H b m) : MsN H' b m := by
  obtain ⟨ts, ⟨o, e, d⟩, p⟩ := h
  exact ⟨ts, ⟨o, s _ _ (fun _ e => nomatch e) e, d⟩, pr_fx s p⟩
theorem TrAt.fx {H H' : Hp} (s : Fx H H') : ∀ {r : Rk} {p : Addr}, TrAt H r p → TrAt H' r p
  | .is x y m, p, ⟨q, b, h1, h2, h3⟩ => ⟨q, b, s _ _ (fun _ e => nomatch e) h1, s _ _ (fun _ e => nomatch e) h2, h3.fx s⟩
  | .nought, p, h => s p _ (fun _ e => nomatch e) h
  | .input z, p, h => s p _ (fun _ e => nomatch e) h
  | .bin o a b, p, ⟨q, r, h1, h2, h3⟩ => ⟨q, r, s _ _ (fun _ e => nomatch e) h1, TrAt.fx s h2, TrAt.fx s h3⟩
  | .power a n, p, ⟨q, h1, h2⟩ => ⟨q, s _ _ (fun _ e => nomatch e) h1, TrAt.fx s h2⟩
  | .less a b c d, p, ⟨q, r, u, v, h1, h2, h3, h4, h5⟩ => ⟨q, r, u, v, s _ _ (fun _ e => nomatch e) h1, TrAt.fx s h2, TrAt.fx s h3, TrAt.fx s h4, TrAt.fx s h5⟩
theorem NmAt.fx {H H' : Hp} {d : Addr} {ads : List (Str × Addr)} {fl : List (Str × Ms)} (s : Fx H H') (h : NmAt H d ads fl) : NmAt H' d ads fl := ⟨s _ _ (fun _ e => nomatch e) h.1, Paired.mono (fun x y z => ⟨z.1, z.2.fx s⟩) h.2⟩
/-- at q the pair of two measures -/
def PrMs (H : Hp) (q : Addr) (p : Ms × Ms) : Prop := ∃ a b, H q = some (.tup [.ref a, .ref b]) ∧ MsN H a p.1 ∧ MsN H b p.2
theorem PrMs.fx {H H' : Hp} {q : Addr} {p : Ms × Ms} (s : Fx H H') (h : PrMs H q p) : PrMs H' q p := by
  obtain ⟨a, b, h1, h2, h3⟩ := h
  exact ⟨a, b, s _ _ (fun _ e => nomatch e) h1, h2.fx s, h3.fx s⟩
theorem nmr_keys {H : Hp} {ads : List (Str × Addr)} {fl : List (Str × Ms)} (p : Paired (NmR H) ads fl) : ads.map (·.1) = fl.map (·.1) := by
  induction p with
  | nil => rfl
  | cons h _ ih => rw [List.map_cons, List.map_cons, h.1, ih]
theorem msN_dict {H : Hp} {D b : Addr} {kvs : List (L2.Key × V)} {o : HO} {m : Ms} (h : MsN H b m) (hD : H D = some (.dK kvs)) : MsN (L2.upd H D o) b m := by
  obtain ⟨ts, ⟨ob, e, d⟩, p⟩ := h
  refine ⟨ts, ⟨ob, ?_, d⟩, Paired.mono (fun t q z => ?_) p⟩
  · rw [upd_ne (ne_of e hD (fun e => nomatch e))]
    exact e
  · show L2.upd H D o t = _
    rw [upd_ne (ne_of z hD (fun e => nomatch e))]
    exact z
end MK


set_option Elab.async false
set_option linter.all false
set_option maxRecDepth 100000
set_option maxHeartbeats 4000000
/-! Dict comprehensions: over a list, over a dict's items, stored in a name; a new dict locked from here on. -/
namespace L2
open PySem PySem.Spec PyProof.Rows
section
variable {X : Cx}
/-- the object that e tells, locked from here on -/
def tFrz (t : TE) : TE := fun σ H Q => t σ H fun x H1 => ∃ d u, x = .ref d ∧ H1 d = some u ∧ Mut (some u) ∧ ∀ od, Q (.ref d) (upd H1 d (.frz od u))
theorem pe_frz {e : Expr} {t : TE} (h : PE X e t) : PE X e (tFrz t) := by
  refine ⟨fun pins s σ H Q I hw => ?_⟩
  refine thn (h.run pins s σ H _ I hw) fun v s1 ⟨x, H1, I1, r, d, u, ex, hd, mu, q⟩ => ?_
  subst ex
  obtain ⟨od, I2⟩ := I1.lock hd mu
  exact ⟨_, _, I2, r, q od⟩
/-- a written tuple that bears no dict, under a name -/
def tTupN (t : TA) : TE := fun σ H Q => t σ H fun xs H1 => xs.length ≤ sizeLine ∧ ∀ (p : Addr) (o : Obj), H1 p = none → o.dict = none → Q (.ref p) (upd H1 p (.frz o (.tup xs)))
theorem pe_tupM {es : List Expr} {t : TA} {pos : Pos} {x1 : Nat} (h : PA X es t) : PE X (.Tuple es x1 pos) (tTupN t) := pe_tupN h
/-- a dict comprehension, as it is stored in a name -/
theorem sw_trueD {kx vx : Expr} {gs : List Comprehension} {scope : Scope} {pos py : Pos} {y : Str} {l : Nat} {env : Env} (hk : env.scope.kind = .function) (hy : env.scope.names.lookup y = some .local) (hl : (py.line == pos.line) = true)
    (ha : (scope.names.any fun (n, k) => n == y && (k == .local || k == .cell)) = false) : swapsWith (.DictComp kx vx gs scope pos) (some (.Name y py)) l env = pure true := by
  have ky : env.kindOf y = some .local := hy
  have hb : env.blockKind = .function := by unfold Env.blockKind; rw [hk]; rfl
  unfold swapsWith
  simp only [hb, ky, ha, Expr.pos, hl]
  rfl
theorem ps_setDc {i : Nat} {y : Str} {py : Pos} {kx vx tg iter : Expr} {ifs : List Expr} {scope : Scope} {own : List (Str × Nat)} {pos spos : Pos} {wi : TI} {g : TG} {tt : TT} {tk tv : TE} (hc : X.calm = true) (hN : X.N.Nodup) (hy : X.N[i]? = some y) (hyl : X.env.scope.names.lookup y = some .local)
    (hsw : swapsWith (.DictComp kx vx [⟨tg, iter, ifs, 0⟩] scope pos) (some (.Name y py)) spos.line X.env = pure true) (hi : PI X tg iter wi) (ok : BlkOk X.N X.env.scope scope own)
    (hg : ∀ (s : Shared) (H : Hp) (C : Addr) (cl : List (Str × Addr)) (fp : List Addr), PG (X.blk s H scope (compEnvC scope cl C X.env) fp) tg g) (ht : ∀ (s : Shared) (H : Hp) (C : Addr) (cl : List (Str × Addr)) (fp : List Addr), PTs (X.blk s H scope (compEnvC scope cl C X.env) fp) ifs tt)
    (hk : ∀ (s : Shared) (H : Hp) (C : Addr) (cl : List (Str × Addr)) (fp : List Addr), PE (X.blk s H scope (compEnvC scope cl C X.env) fp) kx tk)
    (he : ∀ (s : Shared) (H : Hp) (C : Addr) (cl : List (Str × Addr)) (fp : List Addr), PE (X.blk s H scope (compEnvC scope cl C X.env) fp) vx tv) (hs : ∀ x, foldedSetIterable iter X.env x = pure x := by intro _; rfl) :
    PS X (.Assign [.Name y py] (.DictComp kx vx [⟨tg, iter, ifs, 0⟩] scope pos) spos) (tAsg (tDc wi g tt tk tv (own.map (·.2))) (gName i)) := by
  refine ⟨fun pins s σ H D I h => ?_⟩
  rw [exec_Assign_Name_used _ _ _ _ hsw]
  refine wpAny_bind (wpAny_standAt (wpAny_bind ?_))
  show wpAny _ X.A (do let _ ← comprehension (.DictComp kx vx [⟨tg, iter, ifs, 0⟩] scope pos) scope X.env (firstIterPos [⟨tg, iter, ifs, 0⟩] pos) newDict false (eval iter X.env) (some (assign (.Name y py) X.env))) _ _ s
  have h : tDc wi g tt tk tv (own.map (·.2)) σ H (fun x H1 => gName i x σ H1 D.nx) := h
  refine wpAny_bind (thn (dc_core (Qf := fun _ s' => SP X pins D .next s') hc hN I hi ok hg ht hk he hs h fun L C s' m H' I' q hn f => ?_) fun _ s' hq => wpAny_pure (wpAny_pure hq))
  show wpAny _ _ (assign (.Name y py) X.env (.ref L)) _ _ _
  refine wpAny_assign_Name (store_ok2 (v := V.ref L) I' hN hy (.inl hyl) rfl (fun s2 I2 ⟨a, sb, ha⟩ => ?_) (.inr hyl))
  obtain ⟨f0, f1, f2, f3, f4, f5⟩ := f
  have haC : C ≠ a := by
    rcases ha with z | z
    · rw [z]; exact f1
    · exact fun e => f4 y a z e.symm
  refine ⟨m, hn.sameBut sb haC, fun h3 sb3 => ?_⟩
  exact ⟨_, H', I2.turned (t' := s2.toks) (fun b o hb e => (sb3.2 b hb).trans e) f0 f1 f3 f4 f5, q⟩
end
/-- over a list that the block leaves as it is -/
theorem dc_list {K : PySem.W.Frag} {a : Addr} {xs : List V} {g : TG} {tt : TT} {tk tv : TE} {vs : List Nat} {σ : L2.St} {H1 : Hp} {D : Addr} {Qd : Hp → Prop} (Pv : Nat → Hp → Prop) (h0 : Pv 0 (upd H1 D (.dK []))) (hl : ∀ i H, i ≤ xs.length → Pv i H → SqL K H a xs)
    (hs : ∀ i x H, xs[i]? = some x → Pv i H → g x (wipe σ vs) H fun σ2 H2 => wipe σ2 vs = wipe σ vs ∧ tt σ2 H2 fun b H3 =>
      if b = true then tk σ2 H3 fun y H4 => tv σ2 H4 fun z H5 => ∃ kvs k, y = kV k ∧ H5 D = some (.dK kvs) ∧ kvs.length < sizeLine ∧ Pv (i + 1) (upd H5 D (.dK (putK kvs k z))) else Pv (i + 1) H3) (hd : ∀ H, Pv xs.length H → Qd H) :
    ∃ W : Nat → Nat → Hp → Prop, (∃ m, W 0 m (upd H1 D (.dK []))) ∧ ∀ i m H, W i m H →
      ((Itl K a).stop i H ∧ Qd H) ∨ ((Itl K a).go i H ∧ ∃ Nx : Hp → Prop, (∀ H', Nx H' → ∃ m', m' < m ∧ W (i + 1) m' H') ∧ ∀ x H', (Itl K a).yld i H x H' → g x (wipe σ vs) H' fun σ2 H2 => wipe σ2 vs = wipe σ vs ∧ tt σ2 H2 fun b H3 =>
        if b = true then tk σ2 H3 fun y H4 => tv σ2 H4 fun z H5 => ∃ kvs k, y = kV k ∧ H5 D = some (.dK kvs) ∧ kvs.length < sizeLine ∧ Nx (upd H5 D (.dK (putK kvs k z))) else Nx H3) := by
  refine ⟨fun i m H => m = xs.length - i ∧ i ≤ xs.length ∧ Pv i H, ⟨xs.length, by simp, Nat.zero_le _, h0⟩, ?_⟩
  rintro i m H ⟨rfl, hi, p⟩
  have q := hl i H hi p
  by_cases hlt : i < xs.length
  · refine .inr ⟨⟨xs, xs[i], q, by simp [hlt]⟩, Pv (i + 1), fun H' p' => ⟨xs.length - (i + 1), by omega, rfl, hlt, p'⟩, fun x H' y => ?_⟩
    obtain ⟨e, y⟩ := y
    subst e
    exact hs i x _ (y xs q) p
  · have e : i = xs.length := by omega
    subst e
    exact .inl ⟨⟨xs, q, Nat.le_refl _⟩, hd H p⟩
/-- over the items of a locked dict -/
theorem dc_items {d : Addr} {od : Obj} {kvs : List (Key × V)} {g : TG} {tt : TT} {tk tv : TE} {vs : List Nat} {σ : L2.St} {H1 : Hp} {D : Addr} {Qd : Hp → Prop} (Pv : Nat → Hp → Prop) (h0 : Pv 0 (upd H1 D (.dK [])))
    (hl : ∀ i H, i ≤ kvs.length → Pv i H → H d = some (.frz od (.dK kvs)))
    (hs : ∀ i k v T H, kvs[i]? = some (k, v) → Pv i H → H T = none → g (.ref T) (wipe σ vs) (upd H T (.tup [kV k, v])) fun σ2 H2 => wipe σ2 vs = wipe σ vs ∧ tt σ2 H2 fun b H3 =>
      if b = true then tk σ2 H3 fun y H4 => tv σ2 H4 fun z H5 => ∃ kv k, y = kV k ∧ H5 D = some (.dK kv) ∧ kv.length < sizeLine ∧ Pv (i + 1) (upd H5 D (.dK (putK kv k z))) else Pv (i + 1) H3)
    (hd : ∀ H, Pv kvs.length H → Qd H) :
    ∃ W : Nat → Nat → Hp → Prop, (∃ m, W 0 m (upd H1 D (.dK []))) ∧ ∀ i m H, W i m H →
      ((Iti d od kvs).stop i H ∧ Qd H) ∨ ((Iti d od kvs).go i H ∧ ∃ Nx : Hp → Prop, (∀ H', Nx H' → ∃ m', m' < m ∧ W (i + 1) m' H') ∧ ∀ x H', (Iti d od kvs).yld i H x H' → g x (wipe σ vs) H' fun σ2 H2 => wipe σ2 vs = wipe σ vs ∧ tt σ2 H2 fun b H3 =>
        if b = true then tk σ2 H3 fun y H4 => tv σ2 H4 fun z H5 => ∃ kv k, y = kV k ∧ H5 D = some (.dK kv) ∧ kv.length < sizeLine ∧ Nx (upd H5 D (.dK (putK kv k z))) else Nx H3) := by
  refine ⟨fun i m H => m = kvs.length - i ∧ i ≤ kvs.length ∧ Pv i H, ⟨kvs.length, by simp, Nat.zero_le _, h0⟩, ?_⟩
  intro i m H ⟨e, hi, p⟩
  have q := hl i H hi p
  by_cases hlt : i < kvs.length
  · refine .inr ⟨⟨q, hlt⟩, Pv (i + 1), fun H' p' => ⟨kvs.length - (i + 1), by omega, rfl, hlt, p'⟩, fun x H' y => ?_⟩
    obtain ⟨T, k, v, hk, ex, hT, eH⟩ := y
    rw [ex, eH]
    exact hs i k v T H hk p hT
  · have e2 : i = kvs.length := by omega
    rw [e2] at p
    exact .inl ⟨⟨q, by omega⟩, hd H p⟩
end L2


set_option Elab.async false
set_option linter.all false
set_option maxRecDepth 100000
set_option maxHeartbeats 4000000
/-! Measures, and lists of them, as plain data. -/
namespace MK
open PySem PySem.Spec PyProof.Rows L2
def msD (m : Ms) : PyData := .tuple (m.map fun p => .tuple [.str p.1, .int p.2])
theorem strOkN {z : Str} (h : Ok z) : PyData.strOk z = true := by
  unfold PyData.strOk
  rw [← Array.all_toList, List.all_eq_true]
  exact fun c hc => decide_eq_true (h c hc)
theorem msD_lay : ∀ {m : Ms}, (∀ p ∈ m, LtOk p.1) → PyData.canLayAll0 (m.map fun p => PyData.tuple [.str p.1, .int p.2]) = true
  | [], _ => rfl
  | p :: r, h => by
    have ih := msD_lay (m := r) fun q hq => h q (List.mem_cons_of_mem _ hq)
    simp only [List.map_cons, PyData.canLayAll0, PyData.canLay0, ih, Bool.and_true]
    exact strOkN (h p List.mem_cons_self).2
theorem msD_depth (m : Ms) : PyData.depthAll (m.map fun p => PyData.tuple [.str p.1, .int p.2]) ≤ 1 := by
  induction m with
  | nil => simp [PyData.depthAll]
  | cons p r ih =>
    simp only [List.map_cons, PyData.depthAll, PyData.depth]
    omega
theorem msD_shaped {m : Ms} (h : ∀ p ∈ m, LtOk p.1) : SeqAt.shaped (msD m) = true := by
  unfold SeqAt.shaped msD
  rw [Bool.and_eq_true, decide_eq_true_eq]
  constructor
  · simp only [PyData.canLay0]
    exact msD_lay h
  · have := msD_depth m
    simp only [PyData.depth]
    omega
theorem msD_eqv {m : Ms} (h : ∀ p ∈ m, LtOk p.1) : PyData.eqv (msD m) (msD m) = true := SeqAt.eqv_refl _ (SeqAt.canLay_of_shaped (msD_shaped h))
theorem MsN.dp {K : PySem.W.Frag} {H : Hp} {b : Addr} {m : Ms} (h : MsN H b m) : Dp K H (.ref b) (msD m) := by
  obtain ⟨ts, e, p⟩ := h
  refine .tup (TupN.sq e) ?_
  clear e
  induction p with
  | nil => exact .nil
  | @cons t q _ _ r _ ih => exact .cons (.tup (SqT.of r) (.cons (.str _) (.cons (.int _) .nil))) ih
/-- a list of measures -/
def rowsD (rs : List Ms) : PyData := .list (rs.map msD)
theorem rowsD_dp {K : PySem.W.Frag} {H : Hp} {a : Addr} {us : List Addr} {rs : List Ms} (h : H a = some (.lst (us.map V.ref))) (p : Paired (MsN H) us rs) : Dp K H (.ref a) (rowsD rs) := by
  refine .lst (SqL.of h) ?_
  clear h
  induction p with
  | nil => exact .nil
  | cons q _ ih => exact .cons q.dp ih
theorem rowsD_lay : ∀ {rs : List Ms}, (∀ m ∈ rs, ∀ p ∈ m, LtOk p.1) → PyData.canLayAll0 (rs.map msD) = true
  | [], _ => rfl
  | m :: r, h => by
    have ih := rowsD_lay (rs := r) fun q hq => h q (List.mem_cons_of_mem _ hq)
    have h1 : PyData.canLay0 (msD m) = true := by
      unfold msD
      simp only [PyData.canLay0]
      exact msD_lay (h m List.mem_cons_self)
    simp only [List.map_cons, PyData.canLayAll0, ih, h1, Bool.and_true]
theorem rowsD_depth (rs : List Ms) : PyData.depthAll (rs.map msD) ≤ 2 := by
  induction rs with
  | nil => simp [PyData.depthAll]
  | cons m r ih =>
    have := msD_depth m
    have e : PyData.depth (msD m) ≤ 2 := by
      unfold msD
      simp only [PyData.depth]
      omega
    simp only [List.map_cons, PyData.depthAll]
    omega
theorem rowsD_shaped {rs : List Ms} (h : ∀ m ∈ rs, ∀ p ∈ m, LtOk p.1) : SeqAt.shaped (rowsD rs) = true := by
  unfold SeqAt.shaped rowsD
  rw [Bool.and_eq_true, decide_eq_true_eq]
  constructor
  · simp only [PyData.canLay0]
    exact rowsD_lay h
  · have := rowsD_depth rs
    simp only [PyData.depth]
    omega
theorem rowsD_eqv {rs : List Ms} (h : ∀ m ∈ rs, ∀ p ∈ m, LtOk p.1) : PyData.eqv (rowsD rs) (rowsD rs) = true := SeqAt.eqv_refl _ (SeqAt.canLay_of_shaped (rowsD_shaped h))
/-- what a product's letters are -/
theorem mulC_can (m n : Ms) (x : Int) : Can (mulC m n x) := by
  by_cases e : ∃ r, IsTms m n x r
  · obtain ⟨r, t⟩ := e
    rw [mulC_is t]
    exact t.1
  · unfold mulC
    rw [dif_neg e]
    exact can_nil
theorem lvs_many : ∀ r : Rk, r.lvs ≤ r.many
  | .is _ _ _ => Nat.le_refl _
  | .nought => Nat.le_refl _
  | .input _ => Nat.le_refl _
  | .bin _ a b => by
    have := lvs_many a; have := lvs_many b
    show a.lvs + b.lvs ≤ 1 + (a.many + b.many)
    omega
  | .power a _ => by
    have := lvs_many a
    show a.lvs ≤ 1 + a.many
    omega
  | .less a b c d => by
    have := lvs_many a; have := lvs_many b; have := lvs_many c; have := lvs_many d
    show a.lvs + b.lvs + c.lvs + d.lvs ≤ 1 + (a.many + b.many + c.many + d.many)
    omega
theorem nm_ltok {z : Str} (h : Nm z) : LtOk z := nm_lt h
end MK


set_option Elab.async false
set_option linter.all false
set_option maxRecDepth 100000
set_option maxHeartbeats 4000000
/-! {m}, m a measure, in an f-string: some text, not too long. -/
namespace PySem
open PySem.Spec PyProof.Rows
section
variable {prog : Program} {w : World}
/-- x's text, whatever it is, has at most N signs -/
def ReprB (prog : Program) (w : World) (h₀ : Heap) (d : Nat) (x : Value) (N : Nat) : Prop :=
  ∀ (b : Nat), b + N ≤ sizeLine → ∀ (A : Around) (E : Value → Shared → Prop) (s : Shared) (Q : Str → Shared → Prop), s.heap = h₀ → A.units + d < cLine → (∀ t tk, t.length ≤ N → Q t { s with toks := tk }) → wpAny (model prog w) A (pyReprUnder b x) Q E s
theorem rb_tuple {h₀ : Heap} {a : Addr} {o : Obj} {items : Array Value} {n N : Nat} {ts : List Str} (ha : h₀.get? a = some o) (hc : o.cls = .type "tuple") (hd : o.data = .seq items n) (hT : ReprAll prog w items.toList ts) (hN : (tupleText ts).length + 5 ≤ N) :
    ReprB prog w h₀ 1 (.ref a) N := by
  intro b hb A E s Q hh hu hQ
  subst hh
  refine wpAny_pyReprUnder_ref (by omega) (wpAny_pyReprObjUnder_twin (twin := "tuple.__repr__.under") ⟨o, ha, hc⟩ F.slot_tuple_repr rfl (by omega) ?_)
  refine call_twin_own (F.quiet_tuple_repr_under _) F.entry_tuple_repr_under F.check_tuple_repr_under ⟨o, ha, hc⟩ F.slot_tuple_repr (F.args_tuple_repr_1 _) (wpOwn_of_wpAny ?_)
  show wpAny _ _ (Builtin.tupleReprAt b ⟨[.ref a], []⟩) _ _ s
  rw [tuple_repr_tree]
  refine wpAny_bind (fmt_underWay fun c => ?_)
  cases c with
  | true =>
    refine PySem.W.KFB.if_so rfl ?_
    refine wpAny_bind (wpAny_rule ?_)
    refine wpAny_bind (wpAny_mkStr (wpAny_pure ?_) (by decide +kernel))
    exact ⟨⟨_, _, rfl⟩, _, _, rfl, hQ "(...)" _ (Nat.le_trans fmt_way (by omega))⟩
  | false =>
    refine PySem.W.KFB.if_not rfl ?_
    refine wpAny_tupleReprRest ha hd hT (fun u tk => ?_) (by omega)
    exact ⟨⟨_, _, rfl⟩, _, _, rfl, hQ (tupleText ts) tk (by omega)⟩
theorem fold_rb {A : Around} {E : Value → Shared → Prop} {N d : Nat} {h₀ : Heap} (hu : A.units + d < cLine) : ∀ (l : List Value) (acc : Array Str) (n : Nat) (s : Shared) (Q : (Array Str × Nat) → Shared → Prop), (∀ x ∈ l, ReprB prog w h₀ d x N) → n + l.length * (N + 2) ≤ sizeLine → s.heap = h₀ →
    (∀ (ts : List Str) k tk, ts.length = l.length → (∀ t ∈ ts, t.length ≤ N) → Q ⟨acc ++ ts.toArray, k⟩ { s with toks := tk }) → wpAny (model prog w) A (forIn l (⟨acc, n⟩ : (Array Str × Nat)) tupBody) Q E s := by
  intro l
  induction l with
  | nil =>
    intro acc n s Q hT hn hh h
    have h0 := h [] n s.toks rfl fun _ h => absurd h (by simp)
    simp only [List.forIn_nil]
    exact wpAny_pure (by simpa using h0)
  | cons x l ih =>
    intro acc n s Q hT hn hh h
    rw [List.length_cons, Nat.succ_mul] at hn
    rw [List.forIn_cons]
    refine wpAny_bind (wpAny_bind (hT x List.mem_cons_self (n + 1) (by omega) _ _ _ _ hh hu fun t tk ht => wpAny_pure ?_))
    refine ih (acc.push t) (n + (t.length + 2)) _ Q (fun y hy => hT y (List.mem_cons_of_mem _ hy)) (by omega) hh fun ts k tk' h1 h2 => ?_
    have h3 := h (t :: ts) k tk' (by rw [List.length_cons, h1, List.length_cons]) fun y hy => by
      rcases List.mem_cons.mp hy with e | e
      · rw [e]; exact ht
      · exact h2 y e
    simpa using h3
theorem piled_le {N : Nat} : ∀ {ts : List Str}, (∀ t ∈ ts, t.length ≤ N) → piled ts ≤ ts.length * (N + 2)
  | [], _ => Nat.zero_le _
  | t :: r, h => by
    have h1 := h t List.mem_cons_self
    have h2 := piled_le (ts := r) fun y hy => h y (List.mem_cons_of_mem _ hy)
    rw [piled_cons, List.length_cons, Nat.succ_mul]
    omega
/-- {t} -/
theorem fmt_rb {A : Around} {E : Value → Shared → Prop} {s : Shared} {a : Addr} {o : Obj} {items : Array Value} {n N : Nat} {Q : Value → Shared → Prop} (hu : A.units + 8 < cLine) (ha : s.heap.get? a = some o) (hc : o.cls = .type "tuple") (hd : o.data = .seq items n)
    (hT : ∀ x ∈ items.toList, ReprB prog w s.heap 1 x N) (hsz : items.size * (N + 2) + 8 ≤ sizeLine)
    (h : ∀ (m : Str) (u tk : Tok), m.length ≤ items.size * (N + 2) + 8 → Q (.str m u) { s with toks := tk }) : wpAny (model prog w) A (formatField (.ref a) Str.empty) Q E s := by
  refine wpAny_formatField_slot (fun _ _ => nofun) (by omega) ⟨o, ha, hc⟩ F.slot_tuple_format F.slot_tuple_str F.slot_tuple_repr ?_
  refine wpAny_call (codeAny_call_builtin_own (Code.quiet_builtin _ (by decide +kernel)) F.entry_tuple_repr (F.slot_tuple_repr.check _ _ _ _ _ _ _ _ ⟨o, ha, hc⟩ (F.args_tuple_repr_1 _) (wpOwn_of_wpAny ?_)))
  show wpAny _ _ (Builtin.tupleReprAt 0 ⟨[.ref a], []⟩) _ _ { s with toks := s.toks + 1 }
  rw [tuple_repr_tree]
  refine wpAny_bind (fmt_underWay fun b => ?_)
  cases b with
  | true =>
    refine PySem.W.KFB.if_so rfl ?_
    refine wpAny_bind (wpAny_rule ?_)
    refine wpAny_bind (wpAny_mkStr (wpAny_pure ?_) (by decide +kernel))
    exact ⟨_, _, rfl, h "(...)" _ _ (Nat.le_trans fmt_way (by omega))⟩
  | false =>
    refine PySem.W.KFB.if_not rfl ?_
    unfold tupleReprRest Builtin.Tuple.tupleItemsOf
    refine wpAny_bind (wpAny_bind (wpAny_seqItems (s := { s with toks := s.toks + 1 }) ha hd (wpAny_pure ?_)))
    rw [← Array.forIn_toList]
    have hl : items.toList.length = items.size := Array.length_toList
    refine wpAny_bind (fold_rb (N := N) (d := 1) (h₀ := s.heap) (by simp only [units_under_tuple_repr, Around.in1_units]; omega) items.toList #[] 0 _ _ hT (by rw [hl]; omega) rfl fun ts k tk h1 h2 => ?_)
    have hp := piled_le h2
    rw [h1, hl] at hp
    have ht := fmt_text ts
    have e : tupleText ts = (("(" : Str) ++ Str.join ", " (#[] ++ ts.toArray).toList ++ (if items.size == 1 then ",)" else ")" : String)) := by
      unfold tupleText
      rw [h1, hl]
      simp
    rw [← e]
    refine wpAny_bind (wpAny_mkStr (wpAny_pure ?_) (by omega))
    exact ⟨_, _, rfl, h (tupleText ts) _ _ (by omega)⟩
end
end PySem
namespace L2
open PySem PySem.Spec PyProof.Rows MK
section
variable {X : Cx}
/-- {m}, m a measure of few letters: some text -/
def tFmtM (te : TE) : TE := fun σ H Q => te σ H fun x H1 => ∃ (a : Addr) (m : Ms), x = .ref a ∧ MsN H1 a m ∧ (∀ p ∈ m, Ok p.1 ∧ p.1.length ≤ 20 ∧ p.2.natAbs < 2 ^ 250) ∧ m.length ≤ 1000 ∧ ∀ t : Str, t.length ≤ 2000000 → Q (.str t) H1
theorem pe_fmtM {e : Expr} {te : TE} {pos : Pos} (hu : X.A.units + 8 < cLine) (he : PE X e te) : PE X (.FormattedValue e (-1) none pos) (tFmtM te) := by
  refine ⟨fun pins s σ H Q I h => ?_⟩
  refine wpAny_FormattedValue_plain (thn (he.run pins s σ H _ I h) fun v s1 hv => ?_)
  obtain ⟨x, H1, I1, r1, a, m, rfl, ⟨ts, htu, pr⟩, hb, hl, q⟩ := hv
  cases r1
  obtain ⟨its, rv, ⟨o, ho, hcl, n, hd⟩, _⟩ := I1.tuple (TupN.sq htu)
  have sz : its.length = m.length := by rw [← rv.length, List.length_map, pr.length]
  have sl := sizeLine_eq
  refine fmt_rb (N := 900) hu ho hcl hd (fun y hy => ?_) ?_ fun t u tk ht => ⟨.str t, H1, I1.tok _, ⟨u, rfl⟩, q t ?_⟩
  · have hy : y ∈ its := by simpa using hy
    obtain ⟨i, hi⟩ := List.getElem?_of_mem hy
    obtain ⟨k, hk⟩ : ∃ k, ts[i]? = some k := by
      have h1 : i < its.length := (List.getElem?_eq_some_iff.mp hi).1
      have h2 := rv.length
      rw [List.length_map] at h2
      exact ⟨ts[i]'(by omega), List.getElem?_eq_getElem _⟩
    obtain ⟨p, hp, hpk⟩ := paired_ix pr hk
    obtain ⟨u, hu2, ru⟩ := Vals.get rv (show (ts.map V.ref)[i]? = some (V.ref k) by rw [List.getElem?_map, hk]; rfl)
    rw [hi] at hu2
    obtain rfl : y = u := Option.some.inj hu2
    obtain rfl : y = Value.ref k := ru
    obtain ⟨_, its2, r2, o2, ho2, hc2, n2, hd2⟩ := I1.hok _ _ (show H1 k = some (.tup [.str p.1, .int p.2]) from hpk)
    obtain ⟨u1, u2, rfl, ri, rj⟩ := vals2 r2
    obtain ⟨t1, rfl⟩ := ri
    obtain ⟨t2, rfl⟩ := rj
    obtain ⟨b1, b2, b3⟩ := hb p (List.mem_of_getElem? hp)
    have l1 := StrLaws.reprText_len p.1 (fun c hc => Nat.lt_trans (b1 c hc) (by decide))
    have lg : p.2.natAbs.log2 < 251 := PySem.Flt.log2_lt_of (by decide) (Nat.lt_trans b3 (by decide))
    have l2 := int_text_length_le (k := 251) (by decide) lg
    have l2' : (Str.ofString (toString p.2)).length ≤ 252 := by rw [PySem.ofString_length]; exact l2
    refine rb_tuple (ts := [reprText p.1, Str.ofString (toString p.2)]) ho2 hc2 hd2 ?_ ?_
    · exact .cons (ReprIs.str p.1 t1 (by omega)) (.cons (ReprIs.int t2 (by omega)) .nil)
    · have := fmt_text [reprText p.1, Str.ofString (toString p.2)]
      rw [piled_cons, piled_cons, piled_nil] at this
      omega
  · show its.toArray.size * (900 + 2) + 8 ≤ _
    rw [List.size_toArray, sz]
    have : m.length * 902 ≤ 1000 * 902 := Nat.mul_le_mul_right _ hl
    omega
  · have ht : t.length ≤ its.toArray.size * (900 + 2) + 8 := ht
    rw [List.size_toArray, sz] at ht
    have : m.length * 902 ≤ 1000 * 902 := Nat.mul_le_mul_right _ hl
    omega
end
end L2


set_option Elab.async false
set_option linter.all false
set_option maxRecDepth 100000
set_option maxHeartbeats 4000000
/-! Each two measures have a product; a quotient is () just where both are alike; measures compared. -/
namespace MK
open PySem PySem.Spec PyProof.Rows L2
/-- v more at l -/
def insM : Ms → Str → Int → Ms
  | [], l, v => if v = 0 then [] else [(l, v)]
  | p :: r, l, v => if p.1 = l then (if p.2 + v = 0 then r else (l, p.2 + v) :: r) else if l.cps.toList < p.1.cps.toList then (if v = 0 then p :: r else (l, v) :: p :: r) else p :: insM r l v
theorem insM_keys : ∀ {m : Ms} {l : Str} {v : Int} {q : Str × Int}, q ∈ insM m l v → q.1 = l ∨ q ∈ m
  | [], l, v, q, h => by
    unfold insM at h
    by_cases e : v = 0
    · rw [if_pos e] at h
      exact absurd h (by simp)
    · rw [if_neg e] at h
      exact .inl (by rw [List.mem_singleton.mp h])
  | p :: r, l, v, q, h => by
    unfold insM at h
    by_cases e : p.1 = l
    · rw [if_pos e] at h
      by_cases e2 : p.2 + v = 0
      · rw [if_pos e2] at h
        exact .inr (List.mem_cons_of_mem _ h)
      · rw [if_neg e2] at h
        rcases List.mem_cons.mp h with z | z
        · exact .inl (by rw [z])
        · exact .inr (List.mem_cons_of_mem _ z)
    · rw [if_neg e] at h
      by_cases e2 : l.cps.toList < p.1.cps.toList
      · rw [if_pos e2] at h
        by_cases e3 : v = 0
        · rw [if_pos e3] at h
          exact .inr h
        · rw [if_neg e3] at h
          rcases List.mem_cons.mp h with z | z
          · exact .inl (by rw [z])
          · exact .inr z
      · rw [if_neg e2] at h
        rcases List.mem_cons.mp h with z | z
        · exact .inr (by rw [z]; exact List.mem_cons_self)
        · exact (insM_keys z).imp id (List.mem_cons_of_mem _)
theorem can_cons {p : Str × Int} {r : Ms} (h : Can (p :: r)) : Can r ∧ p.2 ≠ 0 ∧ ∀ q ∈ r, sLt p.1 q.1 := by
  obtain ⟨h1, h2⟩ := List.pairwise_cons.mp h.ris
  exact ⟨⟨h2, fun q hq => h.nz q (List.mem_cons_of_mem _ hq)⟩, h.nz p List.mem_cons_self, h1⟩
theorem at0_cons (p : Str × Int) (r : Ms) (j : Str) : at0 (p :: r) j = if p.1 = j then p.2 else at0 r j := by
  show (if p.1 = j then some p.2 else lk r j).getD 0 = _
  by_cases e : p.1 = j
  · rw [if_pos e, if_pos e]; rfl
  · rw [if_neg e, if_neg e]; rfl
theorem at0_none {m : Ms} {j : Str} (h : ∀ q ∈ m, q.1 ≠ j) : at0 m j = 0 := by
  unfold at0
  rw [lk_none.mpr fun z => by
    obtain ⟨q, hq, e⟩ := List.mem_map.mp z
    exact h q hq e]
  rfl
theorem insM_ok : ∀ {m : Ms} (l : Str) (v : Int), Can m → Can (insM m l v) ∧ ∀ j, at0 (insM m l v) j = at0 m j + if j = l then v else 0
  | [], l, v, _ => by
    unfold insM
    by_cases e : v = 0
    · rw [if_pos e]
      refine ⟨can_nil, fun j => ?_⟩
      rw [e, at0_nil]
      split <;> rfl
    · rw [if_neg e]
      refine ⟨⟨List.pairwise_singleton _ _, fun p hp => by rw [List.mem_singleton.mp hp]; exact e⟩, fun j => ?_⟩
      rw [at0_cons, at0_nil]
      by_cases e2 : j = l
      · rw [if_pos e2, if_pos e2.symm]; omega
      · rw [if_neg e2, if_neg (fun z => e2 z.symm)]; rfl
  | p :: r, l, v, h => by
    obtain ⟨hr, hp, hlt⟩ := can_cons h
    unfold insM
    by_cases e : p.1 = l
    · rw [if_pos e]
      have no : at0 r l = 0 := at0_none fun q hq z => by
        have := hlt q hq
        rw [z, e] at this
        exact sLt_irr _ this
      by_cases e2 : p.2 + v = 0
      · rw [if_pos e2]
        refine ⟨hr, fun j => ?_⟩
        rw [at0_cons]
        by_cases e3 : j = l
        · rw [if_pos e3, if_pos (by rw [e3]; exact e), e3, no]; omega
        · rw [if_neg e3, if_neg (by rw [e]; exact fun z => e3 z.symm)]; omega
      · rw [if_neg e2]
        refine ⟨⟨List.pairwise_cons.mpr ⟨fun q hq => by rw [← e]; exact hlt q hq, hr.ris⟩, fun q hq => ?_⟩, fun j => ?_⟩
        · rcases List.mem_cons.mp hq with z | z
          · rw [z]; exact e2
          · exact hr.nz q z
        · rw [at0_cons, at0_cons]
          by_cases e3 : j = l
          · rw [if_pos e3, if_pos e3.symm, if_pos (by rw [e3]; exact e)]
          · rw [if_neg e3, if_neg (fun z => e3 z.symm), if_neg (by rw [e]; exact fun z => e3 z.symm)]; omega
    · rw [if_neg e]
      by_cases e2 : l.cps.toList < p.1.cps.toList
      · rw [if_pos e2]
        have nol : at0 (p :: r) l = 0 := at0_none fun q hq z => by
          rcases List.mem_cons.mp hq with y | y
          · exact e (by rw [← y]; exact z)
          · have h1 := hlt q y
            rw [z] at h1
            exact sLt_irr _ (sLt_tr e2 h1)
        by_cases e3 : v = 0
        · rw [if_pos e3]
          refine ⟨h, fun j => ?_⟩
          rw [e3]
          split <;> omega
        · rw [if_neg e3]
          refine ⟨⟨List.pairwise_cons.mpr ⟨fun q hq => ?_, h.ris⟩, fun q hq => ?_⟩, fun j => ?_⟩
          · rcases List.mem_cons.mp hq with y | y
            · rw [y]; exact e2
            · exact sLt_tr e2 (hlt q y)
          · rcases List.mem_cons.mp hq with y | y
            · rw [y]; exact e3
            · exact h.nz q y
          · rw [at0_cons (l, v)]
            by_cases e4 : j = l
            · rw [if_pos e4, if_pos e4.symm, e4, nol]; omega
            · rw [if_neg e4, if_neg (fun z => e4 z.symm)]; omega
      · rw [if_neg e2]
        obtain ⟨c1, c2⟩ := insM_ok l v hr
        have pl : sLt p.1 l := Decidable.byContradiction fun z => e (sLt_tri z e2)
        refine ⟨⟨List.pairwise_cons.mpr ⟨fun q hq => ?_, c1.ris⟩, fun q hq => ?_⟩, fun j => ?_⟩
        · rcases insM_keys hq with y | y
          · rw [y]; exact pl
          · exact hlt q y
        · rcases List.mem_cons.mp hq with y | y
          · rw [y]; exact hp
          · exact c1.nz q y
        · rw [at0_cons, at0_cons, c2]
          by_cases e3 : p.1 = j
          · rw [if_pos e3, if_pos e3, if_neg (by rw [← e3]; exact e)]; omega
          · rw [if_neg e3, if_neg e3]
theorem tms_ex : ∀ (n : Ms) {m : Ms} (x : Int), Can m → Can n → ∃ r, IsTms m n x r
  | [], m, x, hm, _ => ⟨m, hm, fun j => by rw [at0_nil]; omega⟩
  | p :: n, m, x, hm, hn => by
    obtain ⟨hr, hp, hlt⟩ := can_cons hn
    obtain ⟨c1, c2⟩ := insM_ok p.1 (p.2 * x) hm
    obtain ⟨r, r1, r2⟩ := tms_ex n x c1 hr
    refine ⟨r, r1, fun j => ?_⟩
    rw [r2, c2, at0_cons]
    by_cases e : p.1 = j
    · have no : at0 n j = 0 := at0_none fun q hq z => by
        have h1 := hlt q hq
        rw [z, e] at h1
        exact sLt_irr _ h1
      rw [if_pos e, if_pos e.symm, no]; omega
    · rw [if_neg e, if_neg (fun z => e z.symm)]; omega
theorem mulC_ok {m n : Ms} (x : Int) (hm : Can m) (hn : Can n) : IsTms m n x (mulC m n x) := by
  obtain ⟨r, h⟩ := tms_ex n x hm hn
  rw [mulC_is h]
  exact h
theorem mulC_nil {m n : Ms} (hm : Can m) (hn : Can n) : mulC m n (-1) = [] ↔ m = n := by
  constructor
  · intro h
    have t := mulC_ok (-1) hm hn
    rw [h] at t
    refine can_ext hm hn fun j => ?_
    have := t.2 j
    rw [at0_nil] at this
    omega
  · rintro rfl
    exact mulC_is ⟨can_nil, fun j => by rw [at0_nil]; omega⟩
/-! ### compared -/
theorem msD_all : ∀ {m n : Ms}, PyData.eqvAll (m.map fun p => PyData.tuple [.str p.1, .int p.2]) (n.map fun p => PyData.tuple [.str p.1, .int p.2]) = decide (m = n)
  | [], [] => rfl
  | [], q :: n => by
    simp [PyData.eqvAll]
  | p :: m, [] => by
    simp [PyData.eqvAll]
  | p :: m, q :: n => by
    have ih := msD_all (m := m) (n := n)
    simp only [List.map_cons, PyData.eqvAll, PyData.eqv, ih]
    obtain ⟨a, b⟩ := p
    obtain ⟨c, d⟩ := q
    by_cases e1 : a = c <;> by_cases e2 : b = d <;> by_cases e3 : m = n <;> simp [e1, e2, e3]
theorem msD_dec (m n : Ms) : PyData.eqv (msD m) (msD n) = decide (m = n) := by
  unfold msD
  simp only [PyData.eqv]
  exact msD_all
end MK


set_option Elab.async false
set_option linter.all false
set_option maxRecDepth 100000
set_option maxHeartbeats 4000000
/-! a != b of two tuples whose items are equal, a dict among them. -/
namespace PySem.SeqAt
open AutoSeq1 (wpAny_loadPart')
open MeetsSeq MeetsSeq2 MeetsSeq3 SeqRoads2
section
variable {prog : Program} {w : World}
theorem mk_tuple_ne (l b : Addr) (xs ys : Array Value) (n m : Nat) (d1 d2 : Option Addr) (s1 s2 : Array (Option Value)) (sz : xs.size = ys.size) :
    MeetsIn prog w (Builtin.«tuple.__ne__» ⟨[.ref l, .ref b], []⟩)
      (fun A R s => s.heap.get? l = some ⟨.type "tuple", d1, .seq xs n, s1⟩ ∧ s.heap.get? b = some ⟨.type "tuple", d2, .seq ys m, s2⟩ ∧
        (∀ j (h1 : j < xs.size) (h2 : j < ys.size), EqP prog w A.in1 s xs[j] ys[j] true) ∧ R (.ok (.ret (.bool false))) s) := by
  intro A R s h
  obtain ⟨hp, g, d, tk, os⟩ := s
  obtain ⟨hl, hb, he, h⟩ := h
  have f2 := AutoSeq1.sub_tuple_tuple
  have hZ : (xs.toList.zip ys.toList).length = xs.size := by simp [sz]
  wp_walk using wpAny_loadPart' hl, wpAny_loadPart' hb, wpAny_forIn_list _ (fun rest b s' => b.1 = none ∧ s' = ⟨hp, g, d, tk, os⟩ ∧ ∃ i, rest = (xs.toList.zip ys.toList).drop i) _
  case turn =>
    rintro ⟨y, x⟩ rest b s' ⟨hb', rfl, i, hz⟩
    have hlt : i < (xs.toList.zip ys.toList).length := by
      rcases Nat.lt_or_ge i (xs.toList.zip ys.toList).length with q | q
      · exact q
      · rw [List.drop_of_length_le q] at hz
        cases hz
    have h1 : i < xs.size := hZ ▸ hlt
    have h2 : i < ys.size := sz ▸ h1
    rw [List.drop_eq_getElem_cons hlt] at hz
    injection hz with e1 e2
    obtain rfl : y = xs[i] := by simpa using congrArg Prod.fst e1
    obtain rfl : x = ys[i] := by simpa using congrArg Prod.snd e1
    refine wpAny_bind (he i h1 h2 _ _ ?_)
    wp_walk
    exact ⟨rfl, rfl, i + 1, e2⟩
  case fin =>
    rintro ⟨b1, b2⟩ s' ⟨hb', rfl, i, hz⟩
    simp only at hb'
    subst hb'
    wp_walk
    simpa [Builtin.Tuple.tupleCompareSizes, bne, sz] using h
  case h => exact ⟨rfl, rfl, 0, rfl⟩
theorem mk_ne_tuples {A : Around} {s : Shared} {l b : Addr} {xs ys : Array Value} (hl : s.heap.IsTuple l xs) (hb : s.heap.IsTuple b ys) (sz : xs.size = ys.size) (hu : A.units < cLine)
    (he : ∀ j (h1 : j < xs.size) (h2 : j < ys.size), EqP prog w A.in1 s xs[j] ys[j] true) (E Q : Value → Shared → Prop) (h : Q (.bool false) s) : wpAny (model prog w) A (compareOp .NotEq (.ref l) (.ref b)) Q E s := by
  obtain ⟨⟨c1, d1, t1, s1⟩, ho, hc, n, hd⟩ := id hl
  obtain ⟨⟨c2, d2, t2, s2⟩, ho2, hc2, m, hd2⟩ := id hb
  simp only at hc hd hc2 hd2
  subst hc hd hc2 hd2
  have ta : s.TypeIs (.ref l) "tuple" := ⟨_, ho, rfl⟩
  have tb : s.TypeIs (.ref b) "tuple" := ⟨_, ho2, rfl⟩
  exact wpAny_richCompare_same_room (op := .NotEq) ta tb F.slot_tuple_ne (call_meetsIn F.slot_tuple_ne ta F.entry_tuple_ne (F.args_tuple_ne_2 _ _) (mk_tuple_ne l b xs ys n m d1 d2 s1 s2 sz)
    ⟨ho, ho2, he, show Value.bool false ≠ Value.notImplemented ∧ Q (.bool false) s from ⟨(fun x => nomatch x), h⟩⟩) hu
end
end PySem.SeqAt
namespace L2
open PySem PySem.Spec PyProof.Rows
section
variable {X : Cx}
/-- x != y, two tuples whose items are equal, of nesting below 60: False -/
def rNeTV (K : PySem.W.Frag) : R2 := fun x y H Q => ∃ a b xs ys n, x = .ref a ∧ y = .ref b ∧ SqT K H a xs ∧ SqT K H b ys ∧ n ≤ 60 ∧ Paired (EqV K H n) xs ys ∧ Q (.bl false) H
theorem op_neTV (hu : X.A.units + 64 < cLine) : OpR X (compareOp .NotEq) (rNeTV X.K) := by
  intro pins s σ H x y v u Q I rx ry h
  obtain ⟨a, b, xs, ys, n, rfl, rfl, ha, hb, hn, hp, q⟩ := h
  cases (show v = Value.ref a from rx)
  cases (show u = Value.ref b from ry)
  obtain ⟨us, r1, p1, _⟩ := I.tuple ha
  obtain ⟨ws, r2, p2, _⟩ := I.tuple hb
  have sz : us.toArray.size = ws.toArray.size := by
    rw [List.size_toArray, List.size_toArray, ← r1.length, ← r2.length]
    exact Paired.length hp
  refine SeqAt.mk_ne_tuples p1 p2 sz (by omega) (fun j h1 h2 => ?_) _ _ ⟨.bl false, H, I, rfl, q⟩
  have k := items_run (fun x y v u e rx ry => eqV_run I n X.A.in1 (by show X.A.units + 1 + n < cLine; omega) x y v u e rx ry) hp r1 r2 j (by simpa using h1) (by simpa using h2)
  simpa using k
end
end L2


set_option Elab.async false
set_option linter.all false
set_option maxRecDepth 100000
set_option maxHeartbeats 4000000
namespace MK
/-! ### sums and products of fractions by what they share: plain Lean -/
/-- what both are divided by, from nought on -/
abbrev gc (x y : Int) : Int := ((Nat.gcd x.natAbs y.natAbs : Nat) : Int)
theorem gc_dl (x y : Int) : gc x y ∣ x := Int.ofNat_dvd_left.mpr (Nat.gcd_dvd_left _ _)
theorem gc_dr (x y : Int) : gc x y ∣ y := Int.ofNat_dvd_left.mpr (Nat.gcd_dvd_right _ _)
theorem gc_pos {x y : Int} (h : y ≠ 0) : 0 < gc x y := by
  have : Nat.gcd x.natAbs y.natAbs ≠ 0 := fun e => h (by have := Nat.eq_zero_of_gcd_eq_zero_right e; omega)
  show 0 < ((Nat.gcd x.natAbs y.natAbs : Nat) : Int)
  omega
/-- both are what is shared times two that share nothing -/
theorem gc_split {x y : Int} (h : y ≠ 0) : ∃ x' y', x = gc x y * x' ∧ y = gc x y * y' ∧ Nat.gcd x'.natAbs y'.natAbs = 1 ∧ x.fdiv (gc x y) = x' ∧ y.fdiv (gc x y) = y' := by
  obtain ⟨x', hx⟩ := gc_dl x y
  obtain ⟨y', hy⟩ := gc_dr x y
  have p := gc_pos (x := x) h
  refine ⟨x', y', hx, hy, ?_, ?_, ?_⟩
  · have nx : x.natAbs = Nat.gcd x.natAbs y.natAbs * x'.natAbs := by
      have := congrArg Int.natAbs hx
      rw [Int.natAbs_mul] at this
      exact this
    have ny : y.natAbs = Nat.gcd x.natAbs y.natAbs * y'.natAbs := by
      have := congrArg Int.natAbs hy
      rw [Int.natAbs_mul] at this
      exact this
    have p' : 0 < Nat.gcd x.natAbs y.natAbs := by
      have : 0 < ((Nat.gcd x.natAbs y.natAbs : Nat) : Int) := p
      omega
    generalize hg : Nat.gcd x.natAbs y.natAbs = G at *
    have e : Nat.gcd (G * x'.natAbs) (G * y'.natAbs) = G := by rw [← nx, ← ny]; exact hg
    rw [Nat.gcd_mul_left] at e
    exact Nat.eq_of_mul_eq_mul_left p' (by rw [e, Nat.mul_one])
  · generalize gc x y = g at *
    rw [hx]
    exact Int.mul_fdiv_cancel_left _ (by omega)
  · generalize gc x y = g at *
    rw [hy]
    exact Int.mul_fdiv_cancel_left _ (by omega)
theorem fdiv_le {x g : Int} (hg : 0 < g) (hd : g ∣ x) : (x.fdiv g).natAbs ≤ x.natAbs := by
  obtain ⟨z, rfl⟩ := hd
  rw [Int.mul_fdiv_cancel_left _ (by omega), Int.natAbs_mul]
  exact Nat.le_mul_of_pos_left _ (by omega)
theorem pos_of {g x : Int} (hg : 0 < g) (h : 0 < g * x) : 0 < x := Int.not_le.mp fun c => Int.not_le.mpr h (Int.mul_nonpos_of_nonneg_of_nonpos (Int.le_of_lt hg) c)
theorem cop_mulr {x y z : Nat} (h : Nat.gcd x y = 1) (h' : Nat.gcd x z = 1) : Nat.gcd x (y * z) = 1 := Nat.Coprime.mul_right h h'
theorem cop_mull {x y z : Nat} (h : Nat.gcd x z = 1) (h' : Nat.gcd y z = 1) : Nat.gcd (x * y) z = 1 := Nat.Coprime.mul_left h h'
theorem cop_dl {x y z : Nat} (h : Nat.gcd x z = 1) (d : y ∣ x) : Nat.gcd y z = 1 := Nat.Coprime.coprime_dvd_left d h
theorem cop_dr {x y z : Nat} (h : Nat.gcd x z = 1) (d : y ∣ z) : Nat.gcd x y = 1 := Nat.Coprime.coprime_dvd_right d h
theorem abs_dl (x y : Int) : x.natAbs ∣ (x * y).natAbs := by rw [Int.natAbs_mul]; exact ⟨_, rfl⟩
theorem abs_dr (x y : Int) : y.natAbs ∣ (x * y).natAbs := by rw [Int.natAbs_mul]; exact ⟨_, Nat.mul_comm _ _⟩
/-- what sums of two share with one part is shared by the other -/
theorem cop_sum {p q m : Int} (h : Nat.gcd p.natAbs m.natAbs = 1) : Nat.gcd (p + m * q).natAbs m.natAbs = 1 := by
  have e := Int.gcd_add_mul_left_right m p q
  rw [Int.gcd_comm m p, show p.gcd m = 1 from h, Int.gcd_comm] at e
  exact e
/-- one and another fraction, together, as it is worked out -/
def togA (a b c d : Int) : Int := (a * d.fdiv (gc b d) + c * b.fdiv (gc b d)).fdiv (gc (a * d.fdiv (gc b d) + c * b.fdiv (gc b d)) (gc b d))
def togB (a b c d : Int) : Int := b.fdiv (gc b d) * d.fdiv (gc (a * d.fdiv (gc b d) + c * b.fdiv (gc b d)) (gc b d))
theorem tog_ok {a b c d : Int} (h : Red a b) (h' : Red c d) : Red (togA a b c d) (togB a b c d) ∧ togA a b c d * (b * d) = (a * d + c * b) * togB a b c d := by
  obtain ⟨b0, g1⟩ := h
  obtain ⟨d0, g2⟩ := h'
  have dn : d ≠ 0 := by omega
  have sp := gc_pos (x := b) dn
  unfold togA togB
  obtain ⟨b', d', eb, ed, cbd, fb, fd⟩ := gc_split (x := b) dn
  rw [fb, fd]
  generalize gc b d = s at *
  generalize hw : a * d' + c * b' = whole at *
  obtain ⟨w', s', ew, es, cws, fw, fs⟩ := gc_split (x := whole) (y := s) (by omega)
  have gp := gc_pos (x := whole) (y := s) (by omega)
  rw [fw]
  generalize gc whole s = g at *
  have dd : d = g * (s' * d') := by rw [ed, ← Int.mul_assoc, ← es]
  have fdd : d.fdiv g = s' * d' := by
    rw [dd]
    exact Int.mul_fdiv_cancel_left _ (by omega)
  rw [fdd]
  have cwb : Nat.gcd whole.natAbs b'.natAbs = 1 := by
    have h1 : Nat.gcd (a * d').natAbs b'.natAbs = 1 := by
      rw [Int.natAbs_mul]
      refine cop_mull (cop_dr g1 ?_) (by rw [Nat.gcd_comm]; exact cbd)
      rw [eb]
      exact abs_dr _ _
    rw [← hw, Int.mul_comm c b']
    exact cop_sum h1
  have cwd : Nat.gcd whole.natAbs d'.natAbs = 1 := by
    have h1 : Nat.gcd (c * b').natAbs d'.natAbs = 1 := by
      rw [Int.natAbs_mul]
      refine cop_mull (cop_dr g2 ?_) cbd
      rw [ed]
      exact abs_dr _ _
    rw [← hw, Int.add_comm, Int.mul_comm a d']
    exact cop_sum h1
  have ww : w'.natAbs ∣ whole.natAbs := by
    rw [ew]
    exact abs_dr _ _
  refine ⟨⟨?_, ?_⟩, ?_⟩
  · have p1 : 0 < b' := pos_of sp (by rw [← eb]; exact b0)
    have p2 : 0 < s' * d' := pos_of gp (by rw [← dd]; exact d0)
    exact Int.mul_pos p1 p2
  · rw [Int.natAbs_mul, Int.natAbs_mul]
    exact cop_mulr (cop_dl cwb ww) (cop_mulr cws (cop_dl cwd ww))
  · have e1 : a * d + c * b = s * whole := by
      rw [ed, eb, ← hw, Int.mul_add, Int.mul_left_comm a s d', Int.mul_left_comm c s b']
    rw [e1, dd, ew, eb]
    simp only [Int.mul_assoc, Int.mul_comm, Int.mul_left_comm]
/-- their product, as it is worked out -/
def proA (a b c d : Int) : Int := a.fdiv (gc a d) * c.fdiv (gc c b)
def proB (a b c d : Int) : Int := b.fdiv (gc c b) * d.fdiv (gc a d)
theorem pro_ok {a b c d : Int} (h : Red a b) (h' : Red c d) : Red (proA a b c d) (proB a b c d) ∧ proA a b c d * (b * d) = a * c * proB a b c d := by
  obtain ⟨b0, g1⟩ := h
  obtain ⟨d0, g2⟩ := h'
  obtain ⟨a', d', ea, ed, cad, fa, fd⟩ := gc_split (x := a) (y := d) (by omega)
  obtain ⟨c', b', ec, eb, ccb, fc, fb⟩ := gc_split (x := c) (y := b) (by omega)
  have p1 := gc_pos (x := a) (y := d) (by omega)
  have p2 := gc_pos (x := c) (y := b) (by omega)
  unfold proA proB
  rw [fa, fd, fc, fb]
  generalize gc a d = g at *
  generalize gc c b = k at *
  refine ⟨⟨Int.mul_pos (pos_of p2 (by rw [← eb]; exact b0)) (pos_of p1 (by rw [← ed]; exact d0)), ?_⟩, ?_⟩
  · have da : a'.natAbs ∣ a.natAbs := by rw [ea]; exact abs_dr _ _
    have dc : c'.natAbs ∣ c.natAbs := by rw [ec]; exact abs_dr _ _
    have db : b'.natAbs ∣ b.natAbs := by rw [eb]; exact abs_dr _ _
    have dd : d'.natAbs ∣ d.natAbs := by rw [ed]; exact abs_dr _ _
    rw [Int.natAbs_mul, Int.natAbs_mul]
    exact cop_mull (cop_mulr (cop_dl (cop_dr g1 db) da) cad) (cop_mulr ccb (cop_dl (cop_dr g2 dd) dc))
  · rw [ea, ed, ec, eb]
    simp only [Int.mul_assoc, Int.mul_comm, Int.mul_left_comm]
/-- one over it, as it is worked out -/
def trnA (a b : Int) : Int := if a < 0 then -b else b
def trnB (a b : Int) : Int := if a < 0 then -a else a
theorem trn_ok {a b : Int} (h : Red a b) (n : a ≠ 0) : Red (trnA a b) (trnB a b) ∧ trnA a b * a = b * trnB a b := by
  obtain ⟨b0, g⟩ := h
  unfold trnA trnB
  split
  · refine ⟨⟨by omega, ?_⟩, ?_⟩
    · rw [Int.natAbs_neg, Int.natAbs_neg, Nat.gcd_comm]
      exact g
    · rw [Int.neg_mul, Int.mul_neg]
  · exact ⟨⟨by omega, by rw [Nat.gcd_comm]; exact g⟩, rfl⟩
theorem trn_le (a b : Int) : (trnA a b).natAbs = b.natAbs ∧ (trnB a b).natAbs = a.natAbs := by
  unfold trnA trnB
  split <;> constructor <;> omega
end MK


set_option Elab.async false
set_option linter.all false
set_option maxRecDepth 100000
set_option maxHeartbeats 4000000
/-! Scales of measures, retold reckonings: plain Lean. -/
namespace MK
open PySem PySem.Spec PyProof.Rows L2
abbrev Fr := Int × Int
def un (u : Str → Option Fr) (l : Str) : Fr := (u l).getD (1, 1)
/-- all units are above nought, in lowest terms, of k bits -/
def UnOk (k : Nat) (u : Str → Option Fr) : Prop := ∀ l x, u l = some x → FrSm k x ∧ 0 < x.1
def sA (u : Str → Option Fr) (m : Ms) : Int := m.foldr (fun p z => pwA (un u p.1).1 (un u p.1).2 p.2 * z) 1
def sB (u : Str → Option Fr) (m : Ms) : Int := m.foldr (fun p z => pwB (un u p.1).1 (un u p.1).2 p.2 * z) 1
theorem foldr_snoc {α : Type} (f : α → Int) (xs : List α) (x : α) : (xs ++ [x]).foldr (fun p z => f p * z) 1 = xs.foldr (fun p z => f p * z) 1 * f x := by
  induction xs with
  | nil => simp
  | cons a r ih =>
    rw [List.cons_append, List.foldr_cons, List.foldr_cons, ih, Int.mul_assoc]
theorem sA_snoc (u : Str → Option Fr) (xs : Ms) (p : Str × Int) : sA u (xs ++ [p]) = sA u xs * pwA (un u p.1).1 (un u p.1).2 p.2 := foldr_snoc (fun p : Str × Int => pwA (un u p.1).1 (un u p.1).2 p.2) xs p
theorem sB_snoc (u : Str → Option Fr) (xs : Ms) (p : Str × Int) : sB u (xs ++ [p]) = sB u xs * pwB (un u p.1).1 (un u p.1).2 p.2 := foldr_snoc (fun p : Str × Int => pwB (un u p.1).1 (un u p.1).2 p.2) xs p
/-- each letter has a unit -/
def hasU (u : Str → Option Fr) (m : Ms) : Bool := m.all fun p => (u p.1).isSome
/-- the scale of a measure -/
def scl (u : Str → Option Fr) (m : Ms) : Option Fr := if hasU u m = true then some (norm (sA u m) (sB u m)) else none
theorem pw_pos {x y n : Int} (hx : 0 < x) (hy : 0 < y) : 0 < pwA x y n ∧ 0 < pwB x y n := by
  unfold pwA pwB
  split
  · exact ⟨Int.pow_pos hy, Int.pow_pos hx⟩
  · exact ⟨Int.pow_pos hx, Int.pow_pos hy⟩
theorem un_pos {k : Nat} {u : Str → Option Fr} (h : UnOk k u) (l : Str) : 0 < (un u l).1 ∧ 0 < (un u l).2 := by
  unfold un
  cases e : u l with
  | none => exact ⟨by decide, by decide⟩
  | some x => exact ⟨(h l x e).2, (h l x e).1.1.1⟩
theorem s_pos {k : Nat} {u : Str → Option Fr} (h : UnOk k u) : ∀ m : Ms, 0 < sA u m ∧ 0 < sB u m
  | [] => ⟨by show (0 : Int) < 1; decide, by show (0 : Int) < 1; decide⟩
  | p :: r => by
    obtain ⟨h1, h2⟩ := s_pos h r
    obtain ⟨g1, g2⟩ := un_pos h p.1
    obtain ⟨w1, w2⟩ := pw_pos (n := p.2) g1 g2
    exact ⟨Int.mul_pos w1 h1, Int.mul_pos w2 h2⟩
theorem pw_smN {x y n : Int} {a : Nat} (hx : Sm a x) (hy : Sm a y) : Sm (a * n.natAbs + 1) (pwA x y n) ∧ Sm (a * n.natAbs + 1) (pwB x y n) := by
  unfold pwA pwB
  split
  · exact ⟨hy.pow _, hx.pow _⟩
  · exact ⟨hx.pow _, hy.pow _⟩
/-- the bits of a scale -/
def sbits (k : Nat) (m : Ms) : Nat := (m.map fun p => k * p.2.natAbs + 1).sum + 1
theorem un_sm {k : Nat} {u : Str → Option Fr} (h : UnOk k u) (k1 : 1 ≤ k) (l : Str) : Sm k (un u l).1 ∧ Sm k (un u l).2 := by
  unfold un
  cases e : u l with
  | none =>
    have : Sm k 1 := Sm.mono (a := 1) (by show (1 : Int).natAbs < 2 ^ 1; decide) k1
    exact ⟨this, this⟩
  | some x => exact ⟨(h l x e).1.2.1, (h l x e).1.2.2⟩
theorem s_sm {k : Nat} {u : Str → Option Fr} (h : UnOk k u) (k1 : 1 ≤ k) : ∀ m : Ms, Sm (sbits k m) (sA u m) ∧ Sm (sbits k m) (sB u m)
  | [] => ⟨by show (1 : Int).natAbs < 2 ^ 1; decide, by show (1 : Int).natAbs < 2 ^ 1; decide⟩
  | p :: r => by
    obtain ⟨h1, h2⟩ := s_sm h k1 r
    obtain ⟨g1, g2⟩ := un_sm h k1 p.1
    obtain ⟨w1, w2⟩ := pw_smN (n := p.2) g1 g2
    have e : sbits k (p :: r) = (k * p.2.natAbs + 1) + sbits k r := by
      unfold sbits
      rw [List.map_cons, List.sum_cons]
      omega
    rw [e]
    exact ⟨w1.mul h1, w2.mul h2⟩
theorem sbits_take (k : Nat) (m : Ms) (i : Nat) : sbits k (m.take i) ≤ sbits k m := by
  have : ∀ (l : List Nat) (i : Nat), (l.take i).sum ≤ l.sum := by
    intro l
    induction l with
    | nil => intro i; simp
    | cons a r ih =>
      intro i
      cases i with
      | zero => simp
      | succ i => rw [List.take_succ_cons, List.sum_cons, List.sum_cons]; have := ih i; omega
  have := this (m.map fun p => k * p.2.natAbs + 1) i
  rw [← List.map_take] at this
  unfold sbits
  omega
theorem sbits_mem {k : Nat} {m : Ms} {p : Str × Int} (h : p ∈ m) : k * p.2.natAbs + 2 ≤ sbits k m := by
  induction m with
  | nil => cases h
  | cons q r ih =>
    have e : sbits k (q :: r) = (k * q.2.natAbs + 1) + sbits k r := by
      unfold sbits
      rw [List.map_cons, List.sum_cons]
      omega
    have pos : 1 ≤ sbits k r := Nat.le_add_left _ _
    rcases List.mem_cons.mp h with rfl | h
    · omega
    · have := ih h
      omega
theorem sbits_cut {k : Nat} {m : Ms} {i : Nat} {p : Str × Int} (h : m[i]? = some p) : sbits k (m.take i) + (k * p.2.natAbs + 1) ≤ sbits k m := by
  have h1 := sbits_take k m (i + 1)
  rw [take_more h] at h1
  have e : sbits k (m.take i ++ [p]) = sbits k (m.take i) + (k * p.2.natAbs + 1) := by
    unfold sbits
    rw [List.map_append, List.sum_append]
    show (_ + ((k * p.2.natAbs + 1) + 0)) + 1 = _
    omega
  omega
theorem norm_mul {A B a b : Int} (hB : B ≠ 0) (hb : b ≠ 0) : norm ((norm A B).1 * (norm a b).1) ((norm A B).2 * (norm a b).2) = norm (A * a) (B * b) := by
  have p0 : (norm A B).2 ≠ 0 := Int.ne_of_gt (norm_red hB).1
  have q0 : (norm a b).2 ≠ 0 := Int.ne_of_gt (norm_red hb).1
  have e1 := norm_val (x := A) hB
  have e2 := norm_val (x := a) hb
  generalize norm A B = P at *
  generalize norm a b = Q at *
  have n0 : P.2 * Q.2 ≠ 0 := Int.mul_ne_zero p0 q0
  have hBb : B * b ≠ 0 := Int.mul_ne_zero hB hb
  refine (norm_is hBb (norm_red (x := P.1 * Q.1) n0) ?_).symm
  have e3 := norm_val (x := P.1 * Q.1) n0
  generalize norm (P.1 * Q.1) (P.2 * Q.2) = N at *
  refine Int.eq_of_mul_eq_mul_right n0 ?_
  have f1 : N.1 * (B * b) * (P.2 * Q.2) = N.1 * (P.2 * Q.2) * (B * b) := Int.mul_right_comm _ _ _
  rw [f1, e3]
  have f2 : P.1 * Q.1 * N.2 * (B * b) = (P.1 * B) * (Q.1 * b) * N.2 := by simp only [Int.mul_assoc, Int.mul_comm, Int.mul_left_comm]
  rw [f2, e1, e2]
  simp only [Int.mul_assoc, Int.mul_comm, Int.mul_left_comm]
theorem norm_11 : norm 1 1 = (1, 1) := norm_is (by decide) ⟨by decide, by decide⟩ rfl
/-- one more letter -/
theorem scl_step {k : Nat} {u : Str → Option Fr} (h : UnOk k u) (m : Ms) (p : Str × Int) : valOp .times (norm (sA u m) (sB u m)) (norm (pwA (un u p.1).1 (un u p.1).2 p.2) (pwB (un u p.1).1 (un u p.1).2 p.2)) = some (norm (sA u (m ++ [p])) (sB u (m ++ [p]))) := by
  obtain ⟨_, h2⟩ := s_pos h m
  obtain ⟨g1, g2⟩ := un_pos h p.1
  obtain ⟨_, w2⟩ := pw_pos (n := p.2) g1 g2
  show some (norm _ _) = _
  rw [norm_mul (Int.ne_of_gt h2) (Int.ne_of_gt w2), sA_snoc, sB_snoc]
theorem valPow_un {k : Nat} {u : Str → Option Fr} (h : UnOk k u) {p : Str × Int} {x : Fr} (e : u p.1 = some x) : valPow x p.2 = some (norm (pwA (un u p.1).1 (un u p.1).2 p.2) (pwB (un u p.1).1 (un u p.1).2 p.2)) := by
  obtain ⟨g1, g2⟩ := un_pos h p.1
  obtain ⟨_, w2⟩ := pw_pos (n := p.2) g1 g2
  have eu : un u p.1 = x := by unfold un; rw [e]; rfl
  rw [eu] at w2 ⊢
  show (if pwB x.1 x.2 p.2 = 0 then none else _) = _
  rw [if_neg (Int.ne_of_gt w2)]
theorem scl_sm {k : Nat} {u : Str → Option Fr} (h : UnOk k u) (k1 : 1 ≤ k) (m : Ms) : FrSm (sbits k m) (norm (sA u m) (sB u m)) := by
  obtain ⟨_, h2⟩ := s_pos h m
  obtain ⟨g1, g2⟩ := s_sm h k1 m
  exact ⟨norm_red (Int.ne_of_gt h2), norm_sm (Int.ne_of_gt h2) g1 g2⟩
/-- a number told in other units -/
def mulF (x : Fr) (y : Fr) : Fr := norm (x.1 * y.1) (x.2 * y.2)
/-- the same reckoning in other units -/
def retR (u : Str → Option Fr) : Rk → Option Rk
  | .is x y m => (scl u m).map fun z => .is (mulF (x, y) z).1 (mulF (x, y) z).2 m
  | .nought => some .nought
  | .input z => some (.input z)
  | .bin o a b => (retR u a).bind fun a' => (retR u b).map fun b' => .bin o a' b'
  | .power a n => (retR u a).map fun a' => .power a' n
  | .less a b c d => (retR u a).bind fun a' => (retR u b).bind fun b' => (retR u c).bind fun c' => (retR u d).map fun d' => .less a' b' c' d'
/-! ### a reckoning as plain data -/
def rkD : Rk → PyData
  | .is x y m => .tuple [.str "is", .tuple [.int x, .int y], msD m]
  | .nought => .tuple [.str "nought"]
  | .input z => .tuple [.str "input", .str z]
  | .bin o a b => .tuple [.str o.name, rkD a, rkD b]
  | .power a n => .tuple [.str "power", rkD a, .int n]
  | .less a b c d => .tuple [.str "less", rkD a, rkD b, rkD c, rkD d]
theorem tr_dp {K : PySem.W.Frag} {H : Hp} : ∀ {r : Rk} {t : Addr}, TrAt H r t → Dp K H (.ref t) (rkD r)
  | .is x y m, t, ⟨q, b, h1, h2, h3⟩ => .tup (SqT.of h1) (.cons (.str _) (.cons (.tup (SqT.of h2) (.cons (.int _) (.cons (.int _) .nil))) (.cons h3.dp .nil)))
  | .nought, t, h => .tup (SqT.of h) (.cons (.str _) .nil)
  | .input z, t, h => .tup (SqT.of h) (.cons (.str _) (.cons (.str _) .nil))
  | .bin o a b, t, ⟨q, r, h1, h2, h3⟩ => .tup (SqT.of h1) (.cons (.str _) (.cons (tr_dp h2) (.cons (tr_dp h3) .nil)))
  | .power a n, t, ⟨q, h1, h2⟩ => .tup (SqT.of h1) (.cons (.str _) (.cons (tr_dp h2) (.cons (.int _) .nil)))
  | .less a b c d, t, ⟨q, r, u, v, h1, h2, h3, h4, h5⟩ => .tup (SqT.of h1) (.cons (.str _) (.cons (tr_dp h2) (.cons (tr_dp h3) (.cons (tr_dp h4) (.cons (tr_dp h5) .nil)))))
/-- its texts are texts -/
def Rk.Lt : Rk → Prop
  | .is _ _ m => ∀ p ∈ m, LtOk p.1
  | .nought => True
  | .input z => LtOk z
  | .bin _ a b => a.Lt ∧ b.Lt
  | .power a _ => a.Lt
  | .less a b c d => a.Lt ∧ b.Lt ∧ c.Lt ∧ d.Lt
theorem rk_lay : ∀ {r : Rk}, r.Lt → PyData.canLay0 (rkD r) = true
  | .is x y m, h => by
    have e1 : PyData.strOk ("is" : Str) = true := strOkN (ok_string _)
    have e2 : PyData.canLay0 (msD m) = true := by
      unfold msD
      simp only [PyData.canLay0]
      exact msD_lay h
    simp only [rkD, PyData.canLay0, PyData.canLayAll0, e1, e2, Bool.and_true]
  | .nought, _ => by
    have e1 : PyData.strOk ("nought" : Str) = true := strOkN (ok_string _)
    simp only [rkD, PyData.canLay0, PyData.canLayAll0, e1, Bool.and_true]
  | .input z, h => by
    have e1 : PyData.strOk ("input" : Str) = true := strOkN (ok_string _)
    have e2 : PyData.strOk z = true := strOkN h.2
    simp only [rkD, PyData.canLay0, PyData.canLayAll0, e1, e2, Bool.and_true]
  | .bin o a b, h => by
    have e1 : PyData.strOk o.name = true := by cases o <;> exact strOkN (ok_string _)
    simp only [rkD, PyData.canLay0, PyData.canLayAll0, e1, rk_lay h.1, rk_lay h.2, Bool.and_true]
  | .power a n, h => by
    have e1 : PyData.strOk ("power" : Str) = true := strOkN (ok_string _)
    simp only [rkD, PyData.canLay0, PyData.canLayAll0, e1, rk_lay (r := a) h, Bool.and_true]
  | .less a b c d, h => by
    have e1 : PyData.strOk ("less" : Str) = true := strOkN (ok_string _)
    simp only [rkD, PyData.canLay0, PyData.canLayAll0, e1, rk_lay h.1, rk_lay h.2.1, rk_lay h.2.2.1, rk_lay h.2.2.2, Bool.and_true]
theorem rk_depth : ∀ r : Rk, PyData.depth (rkD r) ≤ r.deep + 2
  | .is x y m => by
    have := msD_depth m
    simp only [rkD, msD, PyData.depth, PyData.depthAll, Rk.deep]
    omega
  | .nought => by simp only [rkD, PyData.depth, PyData.depthAll, Rk.deep]; omega
  | .input z => by simp only [rkD, PyData.depth, PyData.depthAll, Rk.deep]; omega
  | .bin o a b => by
    have := rk_depth a; have := rk_depth b
    simp only [rkD, PyData.depth, PyData.depthAll, Rk.deep]
    omega
  | .power a n => by
    have := rk_depth a
    simp only [rkD, PyData.depth, PyData.depthAll, Rk.deep]
    omega
  | .less a b c d => by
    have := rk_depth a; have := rk_depth b; have := rk_depth c; have := rk_depth d
    simp only [rkD, PyData.depth, PyData.depthAll, Rk.deep]
    omega
theorem rk_shaped {r : Rk} (h : r.Lt) (hd : r.deep ≤ 12) : SeqAt.shaped (rkD r) = true := by
  unfold SeqAt.shaped
  rw [Bool.and_eq_true, decide_eq_true_eq]
  exact ⟨rk_lay h, by have := rk_depth r; omega⟩
end MK
namespace MK
open PySem PySem.Spec PyProof.Rows L2
/-! ### a reckoning rebuilt of other parts -/
def Rk.isIs : Rk → Bool
  | .is _ _ _ => true
  | _ => false
def Rk.re : Rk → List Rk → Rk
  | .bin o _ _, [a, b] => .bin o a b
  | .power _ n, [a] => .power a n
  | .less _ _ _ _, [a, b, c, d] => .less a b c d
  | r, _ => r
theorem len1 {α : Type} {l : List α} (h : l.length = 1) : ∃ a, l = [a] := by
  cases l with
  | nil => cases h
  | cons a r =>
    cases r with
    | nil => exact ⟨a, rfl⟩
    | cons _ _ => simp at h
theorem len2 {α : Type} {l : List α} (h : l.length = 2) : ∃ a b, l = [a, b] := by
  cases l with
  | nil => cases h
  | cons a r =>
    obtain ⟨b, rfl⟩ := len1 (l := r) (by simpa using h)
    exact ⟨a, b, rfl⟩
theorem len4 {α : Type} {l : List α} (h : l.length = 4) : ∃ a b c d, l = [a, b, c, d] := by
  cases l with
  | nil => cases h
  | cons a r =>
    cases r with
    | nil => simp at h
    | cons b r =>
      obtain ⟨c, d, rfl⟩ := len2 (l := r) (by simpa using h)
      exact ⟨a, b, c, d, rfl⟩
theorem retR_some {u : Str → Option Fr} {r : Rk} {rs : List Rk} (h : r.parts.map (retR u) = rs.map some) (n : r.isIs = false) : retR u r = some (r.re rs) := by
  have hl := congrArg List.length h
  rw [List.length_map, List.length_map] at hl
  cases r with
  | is _ _ _ => cases n
  | nought => rfl
  | input z => rfl
  | bin o a b =>
    obtain ⟨x, y, rfl⟩ := len2 (l := rs) hl.symm
    simp only [Rk.parts, List.map_cons, List.map_nil, List.cons.injEq, and_true] at h
    show ((retR u a).bind fun a' => (retR u b).map fun b' => Rk.bin o a' b') = _
    rw [h.1, h.2]
    rfl
  | power a m =>
    obtain ⟨x, rfl⟩ := len1 (l := rs) hl.symm
    simp only [Rk.parts, List.map_cons, List.map_nil, List.cons.injEq, and_true] at h
    show (retR u a).map _ = _
    rw [h]
    rfl
  | less a b c d =>
    obtain ⟨x, y, z, w, rfl⟩ := len4 (l := rs) hl.symm
    simp only [Rk.parts, List.map_cons, List.map_nil, List.cons.injEq, and_true] at h
    show ((retR u a).bind fun a' => (retR u b).bind fun b' => (retR u c).bind fun c' => (retR u d).map fun d' => Rk.less a' b' c' d') = _
    rw [h.1, h.2.1, h.2.2.1, h.2.2.2]
    rfl
theorem retR_none {u : Str → Option Fr} {r y : Rk} (hy : y ∈ r.parts) (h : retR u y = none) : retR u r = none := by
  cases r with
  | is _ _ _ => simp [Rk.parts] at hy
  | nought => simp [Rk.parts] at hy
  | input z => simp [Rk.parts] at hy
  | bin o a b =>
    simp only [Rk.parts, List.mem_cons, List.mem_nil_iff, or_false] at hy
    show ((retR u a).bind fun a' => (retR u b).map fun b' => Rk.bin o a' b') = _
    rcases hy with rfl | rfl
    · rw [h]; rfl
    · rw [h]; cases retR u a <;> rfl
  | power a m =>
    simp only [Rk.parts, List.mem_cons, List.mem_nil_iff, or_false] at hy
    subst hy
    show (retR u y).map _ = _
    rw [h]
    rfl
  | less a b c d =>
    simp only [Rk.parts, List.mem_cons, List.mem_nil_iff, or_false] at hy
    show ((retR u a).bind fun a' => (retR u b).bind fun b' => (retR u c).bind fun c' => (retR u d).map fun d' => Rk.less a' b' c' d') = _
    rcases hy with rfl | rfl | rfl | rfl
    · rw [h]; rfl
    · rw [h]; cases retR u a <;> rfl
    · rw [h]; cases retR u a <;> cases retR u b <;> rfl
    · rw [h]; cases retR u a <;> cases retR u b <;> cases retR u c <;> rfl
theorem p1 {α β : Type} {R : α → β → Prop} {a : α} {x : β} {l : List α} {m : List β} (h : Paired R (a :: l) (x :: m)) : R a x ∧ Paired R l m := by
  cases h with
  | cons h t => exact ⟨h, t⟩
theorem p2 {α β : Type} {R : α → β → Prop} {a b : α} {x y : β} {l : List α} {m : List β} (h : Paired R (a :: b :: l) (x :: y :: m)) : R a x ∧ R b y ∧ Paired R l m := ⟨(p1 h).1, (p1 (p1 h).2).1, (p1 (p1 h).2).2⟩
theorem tr_re {H : Hp} {r : Rk} {rs : List Rk} {t p : Addr} {ps cs : List Addr} {zs : List V} (ht : TrAt H r t) (hx : H t = some (.tup (V.str r.kind :: (ps.map V.ref ++ zs)))) (pl : ps.length = r.parts.length) (pr : Paired (fun c x => TrAt H x c) cs rs) (n : rs.length = r.parts.length) (ni : r.isIs = false)
    (hp : H p = some (.tup (V.str r.kind :: (cs.map V.ref ++ zs)))) : TrAt H (r.re rs) p := by
  have cl := pr.length
  cases r with
  | is _ _ _ => cases ni
  | nought =>
    have h : H t = some (.tup [.str "nought"]) := ht
    rw [hx] at h
    have h := HO.tup.inj (Option.some.inj h)
    obtain rfl : ps = [] := List.length_eq_zero_iff.mp pl
    obtain rfl : cs = [] := List.length_eq_zero_iff.mp (cl.trans n)
    have hz : zs = [] := (List.cons.inj h).2
    rw [hz] at hp
    exact hp
  | input z =>
    have h : H t = some (.tup [.str "input", .str z]) := ht
    rw [hx] at h
    have h := HO.tup.inj (Option.some.inj h)
    obtain rfl : ps = [] := List.length_eq_zero_iff.mp pl
    obtain rfl : cs = [] := List.length_eq_zero_iff.mp (cl.trans n)
    have hz : zs = [.str z] := (List.cons.inj h).2
    rw [hz] at hp
    exact hp
  | bin o a b =>
    obtain ⟨q1, q2, h, _, _⟩ := ht
    rw [hx] at h
    have h := HO.tup.inj (Option.some.inj h)
    obtain ⟨s1, s2, rfl⟩ := len2 (l := ps) pl
    obtain ⟨c1, c2, rfl⟩ := len2 (l := cs) (cl.trans n)
    obtain ⟨x, y, rfl⟩ := len2 (l := rs) n
    obtain ⟨g1, g2, _⟩ := p2 pr
    have hz : V.ref s1 :: V.ref s2 :: zs = [V.ref q1, V.ref q2] := (List.cons.inj h).2
    simp only [List.cons.injEq] at hz
    rw [hz.2.2] at hp
    exact ⟨c1, c2, hp, g1, g2⟩
  | power a m =>
    obtain ⟨q1, h, _⟩ := ht
    rw [hx] at h
    have h := HO.tup.inj (Option.some.inj h)
    obtain ⟨s1, rfl⟩ := len1 (l := ps) pl
    obtain ⟨c1, rfl⟩ := len1 (l := cs) (cl.trans n)
    obtain ⟨x, rfl⟩ := len1 (l := rs) n
    obtain ⟨g1, _⟩ := p1 pr
    have hz : V.ref s1 :: zs = [V.ref q1, V.int m] := (List.cons.inj h).2
    simp only [List.cons.injEq] at hz
    rw [hz.2] at hp
    exact ⟨c1, hp, g1⟩
  | less a b c d =>
    obtain ⟨q1, q2, q3, q4, h, _⟩ := ht
    rw [hx] at h
    have h := HO.tup.inj (Option.some.inj h)
    obtain ⟨s1, s2, s3, s4, rfl⟩ := len4 (l := ps) pl
    obtain ⟨c1, c2, c3, c4, rfl⟩ := len4 (l := cs) (cl.trans n)
    obtain ⟨x, y, z, w, rfl⟩ := len4 (l := rs) n
    obtain ⟨g1, g2, pr⟩ := p2 pr
    obtain ⟨g3, g4, _⟩ := p2 pr
    have hz : V.ref s1 :: V.ref s2 :: V.ref s3 :: V.ref s4 :: zs = [V.ref q1, V.ref q2, V.ref q3, V.ref q4] := (List.cons.inj h).2
    simp only [List.cons.injEq] at hz
    rw [hz.2.2.2.2] at hp
    exact ⟨c1, c2, c3, c4, hp, g1, g2, g3, g4⟩
/-- the bits of an is' scale -/
theorem msin_bits {m : Ms} {k : Nat} (h : MsIn m) (k40 : k ≤ 40) : sbits k m ≤ 5000 := by
  have : ∀ (l : Ms), (∀ p ∈ l, p.2.natAbs ≤ 20) → (l.map fun p => k * p.2.natAbs + 1).sum ≤ 801 * l.length := by
    intro l
    induction l with
    | nil => intro _; exact Nat.le_refl _
    | cons p r ih =>
      intro hl
      have h1 := ih fun q hq => hl q (List.mem_cons_of_mem _ hq)
      have h2 : k * p.2.natAbs ≤ 40 * 20 := Nat.mul_le_mul k40 (hl p List.mem_cons_self)
      rw [List.map_cons, List.sum_cons, List.length_cons]
      omega
  have h1 := this m h.sm
  have h2 := h.few
  unfold sbits
  omega
end MK


set_option Elab.async false
set_option linter.all false
set_option maxRecDepth 100000
set_option maxHeartbeats 4000000
/-! A comprehension whose element calls what may let an error out. -/
namespace MKE
open PySem PySem.Spec PyProof.Rows L2
/-- the block, where a call of its element may let an error out: the call's own word is kept -/
abbrev bx (X : Cx) (t : Shared) (G : Hp) (sc : Scope) (ce : Env) (fp : List Addr) (E : XK) : Cx :=
  (X.blk t G sc ce fp).wish fun u r => ∃ pl τ F y, Inv (X.blk t G sc ce fp) pl τ F y ∧ L2N.CX X.prog X.w X.stack F y E u r
theorem bx_pass {X : Cx} {t : Shared} {G : Hp} {sc : Scope} {ce : Env} {fp : List Addr} {E : XK} (τ : L2.St) : PassesAt (L2N.CX X.prog X.w) (bx X t G sc ce fp E) τ E :=
  fun pl F y u r J c => ⟨pl, τ, F, y, J.unwish, c⟩
section
variable {X : Cx} {pl : List (Addr × Obj)} {σ : L2.St} {G : Hp} {t : Shared} {sc : Scope} {ce : Env} {fp : List Addr} {E : XK}
/-- an error out of the block is in the def's own air -/
theorem bx_out (I : Inv X pl σ G t) (cf : ce.frame = X.env.frame) (cl : ce.locals = t.heap.objs.size) (st : X.stack = X.env :: X.outer) (fr : X.env.frame = some X.env.locals) (hfp : ∀ b ∈ fp, FpOk X pl G b)
    (tk : L2N.Takes X (fun c d _ F => E c d F)) {u : Value} {r : Shared} (h : (bx X t G sc ce fp E).xe u r) : notedBy (model X.prog X.w) X.A ce (CompFails (model X.prog X.w) X.A X.xe ce) u r := by
  obtain ⟨pl', τ, F, y, J, a, B, F', cls, d, rfl, fly, hok, ub, na, os, ag, hE⟩ := h
  have hfr : X.A.frames = some (X.env :: X.outer) := by rw [I.ok.frames, st]
  obtain ⟨m, hnm, _⟩ := J.loc
  have nC0 : t.heap.get? ce.locals = none := by
    cases q : t.heap.get? ce.locals with
    | none => rfl
    | some o =>
      have := Heap.lt_size q
      rw [cl] at this
      exact absurd this (Nat.lt_irrefl _)
  have inS : ∀ b ∈ frs X.stack, ∃ o, t.heap.get? b = some o := fun b hb => by
    obtain ⟨_, o, e, _⟩ := Heap.FunFrames.mem I.stack hb
    exact ⟨o, e⟩
  have cS : ce.locals ∉ frs X.stack := fun hb => by
    obtain ⟨o, e⟩ := inS _ hb
    rw [nC0] at e
    cases e
  have fC : F ce.locals = none := J.free
  -- the names' block is on the callee's ground
  have nsB : B.Ns ce.locals m := by
    obtain ⟨o, es, ep, e, q⟩ := hnm
    exact ⟨o, es, ep, ub.keep _ o e fC cS, q⟩
  have fC' : F' ce.locals = none := by
    obtain ⟨o, es, ep, e, _⟩ := hnm
    exact ub.free _ o e fC
  show wpAny _ _ (noteFrame (.ref a) ce) _ _ r
  rw [noteFrame_env _ cf]
  have fly2 := fly
  rw [st] at fly2
  refine PXN.looks_onZ L2N.Zn.steady hfr fr fly2 fun h1 held up1 => ?_
  obtain ⟨gs, gn, gf, gt⟩ := held
  have ns1 : h1.Ns ce.locals m := by
    obtain ⟨o, es, ep, e, q⟩ := nsB
    exact ⟨o, es, ep, gs _ _ e, q⟩
  refine ⟨m, ns1, fun h2 m2 ns2 sb => ?_⟩
  -- the ground without the block's names
  obtain ⟨B', b1, b2⟩ := L2.restrict B fun b => decide (b ≠ ce.locals)
  have bB : ∀ b o, B'.get? b = some o → B.get? b = some o ∧ b ≠ ce.locals := fun b o e => by
    by_cases q : b = ce.locals
    · rw [b2 b (decide_eq_false (fun z => z q))] at e
      cases e
    · rw [b1 b (decide_eq_true q)] at e
      exact ⟨e, q⟩
  have bB' : ∀ b o, b ≠ ce.locals → B.get? b = some o → B'.get? b = some o := fun b o n e => by rw [b1 b (decide_eq_true n)]; exact e
  have noneB : ∀ b, B.get? b = none → B'.get? b = none := fun b e => by
    cases q : B'.get? b with
    | none => rfl
    | some o =>
      have := (bB b o q).1
      rw [e] at this
      cases this
  have stay2 : B'.StaysIn h2 := fun b o e => by
    obtain ⟨e1, n⟩ := bB b o e
    rw [sb.2 b n]
    exact gs b o e1
  have frB : ∀ L ∈ frs (X.env :: X.outer), B.get? L = none := fun L hL => (Heap.FunFrames.mem gf hL).1
  have ff2 : h2.FunFrames B' (X.env :: X.outer) := L2.funFrames_none (Heap.FunFrames.sameBut sb ns2 gf) fun L hL => noneB _ (frB L hL)
  obtain ⟨oe, vs, T, oT, ts, k1, k2, k3, k4, k5, k6, k7, k8, k9⟩ := gt
  have noC : ∀ b o ws, h1.get? b = some o → o.data = .fields ws → b ≠ ce.locals := fun b o ws e hd z => by
    obtain ⟨o', es, ep, e', hd', _⟩ := ns1
    rw [z, e'] at e
    cases e
    rw [hd'] at hd
    cases hd
  have tr2 : HandSPX.TracedZ h2 B' a (L2N.Zn cls d) (rawInt X.env.locals) :=
    ⟨oe, vs, T, oT, ts, by rw [sb.2 a (noC _ _ _ k1 k3)]; exact k1, k2, k3, k4, noneB _ k5, k6, by rw [sb.2 T (noC _ _ _ k7 k8)]; exact k7, k8, k9⟩
  have held2 : HandSPX.HeldZ B' (X.env :: X.outer) a (L2N.Zn cls d) X.env.locals h2 := ⟨stay2, noneB _ gn, ff2, tr2⟩
  have ga : h2.get? a = some oe := by rw [sb.2 a (noC _ _ _ k1 k3)]; exact k1
  have fin : wpAny (model X.prog X.w) X.A (setFlight (.ref a) (some X.env.locals)) (fun _ y => wpAny (model X.prog X.w) X.A (throw (.ref a) : Sem Value) (fun _ _ => False) X.xe y) X.xe { r with heap := h2 } := by
    refine HandSPX.setFlight_onZ held2 fun h3 held3 up3 => wpAny_throw (tk _ _ ?_)
    obtain ⟨ws, wn, wf, wt⟩ := id held3
    -- all but the error's own objects and the names' block
    obtain ⟨K, g1, g2⟩ := L2.restrict h3 fun b => (B'.get? b).isSome || decide (b ∈ frs X.stack)
    have kB : ∀ b o, B'.get? b = some o → K.get? b = some o := fun b o e => by
      rw [g1 b (by rw [e]; rfl)]
      exact ws b o e
    have kF : ∀ b, b ∈ frs X.stack → K.get? b = h3.get? b := fun b hb => g1 b (by rw [decide_eq_true hb, Bool.or_true])
    have kO : ∀ b o, K.get? b = some o → h3.get? b = some o ∧ ((∃ o', B'.get? b = some o') ∨ b ∈ frs X.stack) := fun b o e => by
      cases q : ((B'.get? b).isSome || decide (b ∈ frs X.stack)) with
      | false =>
        rw [g2 b q] at e
        cases e
      | true =>
        rw [g1 b q] at e
        refine ⟨e, ?_⟩
        rcases Bool.or_eq_true_iff.mp q with z | z
        · exact .inl (Option.isSome_iff_exists.mp z)
        · exact .inr (of_decide_eq_true z)
    -- a frame's object, from the block's start to here
    have slotF : ∀ b o, t.heap.get? b = some o → b ∈ frs X.stack → b ∉ fp → ∃ sl, h3.get? b = some { o with slots := sl } := fun b o e hb hx => by
      have hne : b ≠ ce.locals := fun z => cS (z ▸ hb)
      obtain ⟨_, o', e', nf⟩ := Heap.FunFrames.mem I.stack hb
      rw [e] at e'
      cases e'
      obtain ⟨s1, q1⟩ := J.base.slot b o e (I.stkFree b hb) hb hx
      obtain ⟨s2, q2⟩ := ub.slot b _ q1 hb
      obtain ⟨s3, q3⟩ := up1 b _ q2 nf
      rw [← sb.2 b hne] at q3
      obtain ⟨s4, q4⟩ := up3 b _ q3 nf
      exact ⟨s4, q4⟩
    have okB : HOk X.prog X.w F' B' := fun b o q => (hok b o q).stay (fun c v hc e => bB' c v (fun z => by
      rw [z] at hc
      rcases hc with hc | hc
      · rw [← hc, fC'] at q
        cases q
      · rw [fC'] at hc
        cases hc) e) (fun _ z => z) fun _ _ z => z
    have ltC : ∀ b o, t.heap.get? b = some o → b ≠ ce.locals := fun b o e z => by
      rw [z, nC0] at e
      cases e
    refine ⟨a, B', { r with heap := K }, pl, σ, F', cls, d, rfl, ?_, fun b o e hb => ?_, Heap.UpToSlots.of_keeps fun b o e => (kO b o e).1, .inr (.inr (by rw [st]; exact held3)), na, rfl, ag, hE⟩
    · refine I.call' (ch := fp) (os.trans J.os) ⟨fun b o e n hb hx => ?_, fun b o e n hb hx => ?_, fun b o e n hx => ?_, fun b o e hx => ?_, fun b xs e => ub.tups b xs (J.base.tups b xs e), fun b o xs e => ub.frzs b o xs (J.base.frzs b o xs e), fun b ps e => ?_⟩ (okB.kept kB) ag
        fun b hb => ⟨(hfp b hb).2.2.2.1, (hfp b hb).2.1, (hfp b hb).2.2.2.2.1, (hfp b hb).2.2.2.2.2⟩
      · exact kB b o (bB' b o (ltC b o e) (ub.keep b o (J.base.keep b o e n hb hx) (J.base.free b o e n hx) hb))
      · obtain ⟨sl, q⟩ := slotF b o e hb hx
        exact ⟨sl, by rw [kF b hb]; exact q⟩
      · obtain ⟨o', e'⟩ := J.base.there b o e hx
        exact ub.free b o' e' (J.base.free b o e n hx)
      · by_cases hb : b ∈ frs X.stack
        · obtain ⟨sl, q⟩ := slotF b o e hb hx
          exact ⟨_, by rw [kF b hb]; exact q⟩
        · obtain ⟨o', e'⟩ := J.base.there b o e hx
          obtain ⟨o2, e2⟩ := ub.there b o' e' hb
          exact ⟨o2, kB b o2 (bB' b o2 (ltC b o e) e2)⟩
      · obtain ⟨more, e1⟩ := J.base.tbls b ps e
        obtain ⟨more2, e2⟩ := ub.tbls b _ e1
        exact ⟨more ++ more2, by rw [e2, Array.append_assoc]⟩
    · obtain ⟨e', z⟩ := kO b o e
      rcases z with ⟨o', q⟩ | z
      · have := ws b o' q
        rw [e'] at this
        cases this
        exact q
      · exact absurd z hb
  unfold PySem.passOn
  refine wpAny_bind (wpAny_field ga k3 k4 ?_)
  rw [if_neg (show ¬ ((Value.ref T == Value.none) = true) from by simp), cf, fr]
  first
    | exact wpAny_bind (wpAny_pure (wpAny_bind fin))
    | exact wpAny_bind fin
end
end MKE


set_option Elab.async false
set_option linter.all false
set_option maxRecDepth 100000
set_option maxHeartbeats 4000000
namespace MKE
open PySem PySem.Spec PyProof.Rows L2
section
variable {X : Cx}
/-- [elt for .. in ..], an element that may let an error out -/
theorem pe_lcE {elt : Expr} {tg iter : Expr} {ifs : List Expr} {sc : Scope} {own : List (Str × Nat)} {pos : Pos} {wi : TI} {g : TG} {tt : TT} {te : TE} {E : XK}
    (calm : X.calm = true) (nN : X.N.Nodup) (st : X.stack = X.env :: X.outer) (fr : X.env.frame = some X.env.locals) (tk : L2N.Takes X (fun c d _ F => E c d F)) (hi : PI X tg iter wi) (ok : BlkOk X.N X.env.scope sc own)
    (hg : ∀ t G C cl fp, PG (X.blk t G sc (compEnvC sc cl C X.env) fp) tg g) (ht : ∀ t G C cl fp, PTs (X.blk t G sc (compEnvC sc cl C X.env) fp) ifs tt)
    (he : ∀ t G C cl fp, PE (bx X t G sc (compEnvC sc cl C X.env) fp E) elt te)
    (hs : ∀ x, foldedSetIterable iter X.env x = pure x := by intro _; rfl) : PE X (.ListComp elt [⟨tg, iter, ifs, 0⟩] sc pos) (tLc wi g tt te (own.map (·.2))) := by
  refine ⟨fun pl t0 σ G0 Q I0 h => ?_⟩
  rw [eval_ListComp]
  have fre : ∀ y ∈ sc.names, y.2 = .free → ∃ c, X.env.cells.lookup y.1 = some c := fun y hy e => (ok.free y hy e).elim (fun k => I0.ok.has _ (.inl k)) fun k => I0.ok.has _ (.inr k)
  refine comprehension_at (use := none) rfl hs (closure_ok fre) ok.kind (fun y hy e => (ok.uniq y hy).trans (by rw [e])) ?_
  refine thn (hi.run pl t0 σ G0 _ I0 h) fun _ t1 h1 => thn h1 fun _ t2 h2 => ?_
  obtain ⟨it, fp, tn, J, G2, rfl, I2, T, n2, f2, q⟩ := h2
  refine wpAny_newObj_type (newEnv_comp ?_) (by show 0 ≤ sizeLine; decide)
  obtain ⟨D, hD⟩ : ∃ D, D = t2.heap.objs.size := ⟨_, rfl⟩
  have nD : G2 D = none := by rw [hD]; exact I2.hok.fresh (Nat.le_refl _)
  obtain ⟨W, ⟨m0, w0⟩, turn⟩ := q D nD
  obtain ⟨t3, ht3⟩ : ∃ t3 : Shared, t3 = { t2 with heap := t2.heap.push { cls := .type "list", data := .seq ([] : List Value).toArray } } := ⟨_, rfl⟩
  have h3 : t3.heap = t2.heap.push { cls := .type "list", data := .seq ([] : List Value).toArray } := by rw [ht3]
  have I3 : Inv X pl σ (upd G2 D (.lst [])) t3 := by
    rw [ht3]
    refine I2.laid (t' := t2.toks) (fun b o e => Heap.get?_push_of_some _ e) (Nat.le_of_eq hD.symm) ?_
    rw [hD]
    exact ⟨Nat.zero_le _, [], 0, .nil, Heap.get?_push_size _ rfl⟩
  have lt2 : ∀ b ∈ fp, b < t2.heap.objs.size := fun b hb => by
    obtain ⟨_, e, _⟩ := T.obj _ _ n2 b hb
    exact Heap.lt_size e
  have f3 : ∀ b ∈ fp, FpOk X pl (upd G2 D (.lst [])) b ∧ b < t3.heap.objs.size := fun b hb => by
    have l := lt2 b hb
    refine ⟨⟨?_, (f2 b hb).2⟩, ?_⟩
    · rw [upd_ne (fun z => by rw [z, hD] at l; exact Nat.lt_irrefl _ l)]
      exact (f2 b hb).1
    · rw [h3, Heap.size_push]
      exact Nat.lt_succ_of_lt l
  have n3 : tn 0 t3.heap := T.keep _ _ _ n2 fun b _ o e => h3 ▸ Heap.get?_push_of_some _ e
  have I4 := block_start I3 ok nN f3
  rw [← hD, ← ht3]
  generalize hG3 : upd G2 D (.lst []) = G3 at I3 I4 f3 w0
  have pg := fun cl => hg t3 G3 t3.heap.objs.size cl fp
  have pt := fun cl => ht t3 G3 t3.heap.objs.size cl fp
  have px := fun cl => he t3 G3 t3.heap.objs.size cl fp
  generalize hcl : cellsFrom (t3.heap.objs.size + 1) sc.names (cloFrom X.env.cells sc.names []) = cl at I4
  have pg := pg cl
  have pt := pt cl
  have px := px cl
  show codeAny _ _ (.compStart (.ListComp elt [⟨tg, iter, ifs, 0⟩] sc pos) 0 (.ref it) (.ref D) (compEnvC sc cl t3.heap.objs.size X.env)) (compEnds (model X.prog X.w) X.A X.xe none _ (.ref D) (compEnvC sc cl t3.heap.objs.size X.env)) { t3 with heap := pushCells (t3.heap.push { cls := .type "dict", data := .dict #[] }) sc.names }
  obtain ⟨ce, hce⟩ : ∃ ce, ce = compEnvC sc cl t3.heap.objs.size X.env := ⟨_, rfl⟩
  have cL : ce.locals = t3.heap.objs.size := by rw [hce]; rfl
  have cF : ce.frame = X.env.frame := by rw [hce]; rfl
  rw [← hce] at I4 pg pt px ⊢
  obtain ⟨t4, ht4⟩ : ∃ t4 : Shared, t4 = { t3 with heap := pushCells (t3.heap.push { cls := .type "dict", data := .dict #[] }) sc.names } := ⟨_, rfl⟩
  have n4 : tn 0 t4.heap := T.keep _ _ _ n3 fun b _ o e => by
    rw [ht4]
    exact pushCells_keeps _ _ _ _ (Heap.get?_push_of_some _ e)
  rw [← ht4] at I4 ⊢
  have fpk : ∀ {τ : L2.St} {F : Hp} {y : Shared}, Inv (X.blk t3 G3 sc ce fp) [] τ F y → (∀ b ∈ fp, F b = none) → ∀ b ∈ fp, FpOk (X.blk t3 G3 sc ce fp) [] F b := fun {τ F y} Z hn b hb =>
    ⟨hn b hb, (Z.ok.exf b hb).1, Z.ok.exfs b hb, .inl hb, fun x c e => (Z.ok.exf b hb).2 x c e, fun p hp => by cases hp⟩
  -- an error out of the element
  have err : ∀ {u : Value} {y : Shared}, (bx X t3 G3 sc ce fp E).xe u y → notedBy (model X.prog X.w) X.A ce (fun e y' => compEnds (model X.prog X.w) X.A X.xe none (EP X pl σ Q) (.ref D) ce (.error e) y') u y := fun {u y} z =>
    bx_out I3 cF cL st fr (fun b hb => (f3 b hb).1) tk z
  have lp : codeAny (model X.prog X.w) X.A (.compLoop (.ListComp elt [⟨tg, iter, ifs, 0⟩] sc pos) 0 (.ref it) (.ref D) ce) (compEnds (model X.prog X.w) X.A X.xe none (EP X pl σ Q) (.ref D) ce) t4 := by
    refine compLoop_any (fun n y => ∃ i F, Inv (X.blk t3 G3 sc ce fp) [] (wipe σ (own.map (·.2))) F y ∧ tn i y.heap ∧ (∀ b ∈ fp, F b = none) ∧ W i n F) ?_ m0 ⟨0, G3, I4, n4, fun b hb => (f3 b hb).1.1, w0⟩
    rintro n t5 ⟨i, G5, I5, n5, o5, w5⟩
    rcases turn i n G5 w5 with ⟨stop, qd⟩ | ⟨go, Nx, more, stp⟩
    · refine thnF (T.done (X.blk t3 G3 sc ce fp) rfl rfl rfl calm i [] t5 _ G5 (fun _ _ => False) I5 (fpk I5 o5) n5 stop) fun r t6 ⟨hr, I6⟩ => ?_
      subst hr
      have I7 : Inv X pl σ G5 t6 := I3.call' (ch := fp) I6.os I6.base I6.hok I6.bare fun b hb =>
        let z := (f3 b hb).1.2
        ⟨z.2.2.1, z.1, z.2.2.2.1, z.2.2.2.2⟩
      obtain ⟨mm, hmm, _⟩ := I6.loc
      have fC : G5 ce.locals = none := I6.free
      have fo := I3.fpOk (b := ce.locals) (H' := G5) (Nat.le_of_eq cL.symm) fC
      exact ⟨mm, hmm, fun h'' sb => ⟨.ref D, G5, I7.turned (t' := t6.toks) (fun b o hb e => (sb.2 b hb).trans e) fo.1 fo.2.1 fo.2.2.2.1 fo.2.2.2.2.1 fo.2.2.2.2.2, rfl, qd⟩⟩
    · refine thnF (T.item (X.blk t3 G3 sc ce fp) rfl rfl rfl calm i [] t5 _ G5 (fun _ _ => False) I5 (fpk I5 o5) n5 go) fun r t6 ⟨u, hr, h6⟩ => ?_
      subst hr
      refine thnF h6 fun _ t7 ⟨x, G7, I7, r7, y7, n7, o7⟩ => ?_
      refine thnF (pg.run _ t7 _ G7 x u _ (I7.pinned (fpk I7 o7) (T.obj _ _ n7)) r7 (stp x G7 y7)) fun _ t8 ⟨σ8, G8, I8, hw8, q8⟩ => ?_
      refine thnF (pt.run _ t8 σ8 G8 _ I8 q8) fun b t9 ⟨G9, I9, q9⟩ => ?_
      have go_on : ∀ {y : Shared} {F : Hp}, Inv (X.blk t3 G3 sc ce fp) ([] ++ pinsAt fp t7.heap) σ8 F y → Nx F → ∃ m, m < n ∧ ∃ i F, Inv (X.blk t3 G3 sc ce fp) [] (wipe σ (own.map (·.2))) F y ∧ tn i y.heap ∧ (∀ b ∈ fp, F b = none) ∧ W i m F := fun {y F} Z nx => by
        obtain ⟨m', hm, w'⟩ := more F nx
        have pinned : ∀ b ∈ fp, ∀ o, t7.heap.get? b = some o → y.heap.get? b = some o ∧ F b = none := fun b hb o e => by
          obtain ⟨z1, z2, _⟩ := Z.pin (b, o) (List.mem_append_right _ (List.mem_append_right _ (mem_pinsAt hb e)))
          exact ⟨z1, z2⟩
        refine ⟨m', hm, i + 1, F, (Z.unpinned (pins := [])).weak (by rw [← hw8, wipe_length]) (fun j v e => (wipe_some (by rw [hw8]; exact e)).1), T.keep _ _ _ n7 fun b hb o e => (pinned b hb o e).1, fun b hb => ?_, w'⟩
        obtain ⟨o, e, _⟩ := T.obj _ _ n7 b hb
        exact (pinned b hb o e).2
      cases b with
      | false => exact go_on I9 q9
      | true =>
        refine wpAny_mono (px.run _ t9 σ8 G9 _ (I9.wish _) q9) (fun z t10 ⟨v, G10, I10, r10, acc, e10, l10, nx⟩ => ?_) fun u y z => err z
        exact app_ok (X := X.blk t3 G3 sc ce fp) I10.unwish e10 l10 r10 fun t11 I11 => go_on I11 nx
  exact codeAny_compStart_list lp (T.self X.A 0 _ _ _ n4 lp)
/-- {k: v for .. in ..}, a value that may let an error out -/
theorem pe_dcE {kx vx : Expr} {tg iter : Expr} {ifs : List Expr} {sc : Scope} {own : List (Str × Nat)} {pos : Pos} {wi : TI} {g : TG} {tt : TT} {ta tb : TE} {E : XK}
    (calm : X.calm = true) (nN : X.N.Nodup) (st : X.stack = X.env :: X.outer) (fr : X.env.frame = some X.env.locals) (tk : L2N.Takes X (fun c d _ F => E c d F)) (hi : PI X tg iter wi) (ok : BlkOk X.N X.env.scope sc own)
    (hg : ∀ t G C cl fp, PG (X.blk t G sc (compEnvC sc cl C X.env) fp) tg g) (ht : ∀ t G C cl fp, PTs (X.blk t G sc (compEnvC sc cl C X.env) fp) ifs tt)
    (hk : ∀ t G C cl fp, PE (X.blk t G sc (compEnvC sc cl C X.env) fp) kx ta) (he : ∀ t G C cl fp, PE (bx X t G sc (compEnvC sc cl C X.env) fp E) vx tb)
    (hs : ∀ x, foldedSetIterable iter X.env x = pure x := by intro _; rfl) : PE X (.DictComp kx vx [⟨tg, iter, ifs, 0⟩] sc pos) (tDc wi g tt ta tb (own.map (·.2))) := by
  refine ⟨fun pl t0 σ G0 Q I0 h => ?_⟩
  rw [arm_eval_DictComp]
  have fre : ∀ y ∈ sc.names, y.2 = .free → ∃ c, X.env.cells.lookup y.1 = some c := fun y hy e => (ok.free y hy e).elim (fun k => I0.ok.has _ (.inl k)) fun k => I0.ok.has _ (.inr k)
  refine comprehension_at (use := none) rfl hs (closure_ok fre) ok.kind (fun y hy e => (ok.uniq y hy).trans (by rw [e])) ?_
  refine thn (hi.run pl t0 σ G0 _ I0 h) fun _ t1 h1 => thn h1 fun _ t2 h2 => ?_
  obtain ⟨it, fp, tn, J, G2, rfl, I2, T, n2, f2, q⟩ := h2
  refine wpAny_newObj_type (newEnv_comp ?_)
  obtain ⟨D, hD⟩ : ∃ D, D = t2.heap.objs.size := ⟨_, rfl⟩
  have nD : G2 D = none := by rw [hD]; exact I2.hok.fresh (Nat.le_refl _)
  obtain ⟨W, ⟨m0, w0⟩, turn⟩ := q D nD
  obtain ⟨t3, ht3⟩ : ∃ t3 : Shared, t3 = { t2 with heap := t2.heap.push { cls := .type "dict", data := .dict #[] } } := ⟨_, rfl⟩
  have h3 : t3.heap = t2.heap.push { cls := .type "dict", data := .dict #[] } := by rw [ht3]
  have I3 : Inv X pl σ (upd G2 D (.dK [])) t3 := by
    rw [ht3]
    refine I2.laid (t' := t2.toks) (fun b o e => Heap.get?_push_of_some _ e) (Nat.le_of_eq hD.symm) ?_
    rw [hD]
    exact dk_empty t2.heap I2.big
  have lt2 : ∀ b ∈ fp, b < t2.heap.objs.size := fun b hb => by
    obtain ⟨_, e, _⟩ := T.obj _ _ n2 b hb
    exact Heap.lt_size e
  have f3 : ∀ b ∈ fp, FpOk X pl (upd G2 D (.dK [])) b ∧ b < t3.heap.objs.size := fun b hb => by
    have l := lt2 b hb
    refine ⟨⟨?_, (f2 b hb).2⟩, ?_⟩
    · rw [upd_ne (fun z => by rw [z, hD] at l; exact Nat.lt_irrefl _ l)]
      exact (f2 b hb).1
    · rw [h3, Heap.size_push]
      exact Nat.lt_succ_of_lt l
  have n3 : tn 0 t3.heap := T.keep _ _ _ n2 fun b _ o e => h3 ▸ Heap.get?_push_of_some _ e
  have I4 := block_start I3 ok nN f3
  rw [← hD, ← ht3]
  generalize hG3 : upd G2 D (.dK []) = G3 at I3 I4 f3 w0
  have pg := fun cl => hg t3 G3 t3.heap.objs.size cl fp
  have pt := fun cl => ht t3 G3 t3.heap.objs.size cl fp
  have pk := fun cl => hk t3 G3 t3.heap.objs.size cl fp
  have px := fun cl => he t3 G3 t3.heap.objs.size cl fp
  generalize hcl : cellsFrom (t3.heap.objs.size + 1) sc.names (cloFrom X.env.cells sc.names []) = cl at I4
  have pg := pg cl
  have pt := pt cl
  have pk := pk cl
  have px := px cl
  show codeAny _ _ (.compStart (.DictComp kx vx [⟨tg, iter, ifs, 0⟩] sc pos) 0 (.ref it) (.ref D) (compEnvC sc cl t3.heap.objs.size X.env)) (compEnds (model X.prog X.w) X.A X.xe none _ (.ref D) (compEnvC sc cl t3.heap.objs.size X.env)) { t3 with heap := pushCells (t3.heap.push { cls := .type "dict", data := .dict #[] }) sc.names }
  obtain ⟨ce, hce⟩ : ∃ ce, ce = compEnvC sc cl t3.heap.objs.size X.env := ⟨_, rfl⟩
  have cL : ce.locals = t3.heap.objs.size := by rw [hce]; rfl
  have cF : ce.frame = X.env.frame := by rw [hce]; rfl
  rw [← hce] at I4 pg pt pk px ⊢
  obtain ⟨t4, ht4⟩ : ∃ t4 : Shared, t4 = { t3 with heap := pushCells (t3.heap.push { cls := .type "dict", data := .dict #[] }) sc.names } := ⟨_, rfl⟩
  have n4 : tn 0 t4.heap := T.keep _ _ _ n3 fun b _ o e => by
    rw [ht4]
    exact pushCells_keeps _ _ _ _ (Heap.get?_push_of_some _ e)
  rw [← ht4] at I4 ⊢
  have fpk : ∀ {τ : L2.St} {F : Hp} {y : Shared}, Inv (X.blk t3 G3 sc ce fp) [] τ F y → (∀ b ∈ fp, F b = none) → ∀ b ∈ fp, FpOk (X.blk t3 G3 sc ce fp) [] F b := fun {τ F y} Z hn b hb =>
    ⟨hn b hb, (Z.ok.exf b hb).1, Z.ok.exfs b hb, .inl hb, fun x c e => (Z.ok.exf b hb).2 x c e, fun p hp => by cases hp⟩
  -- an error out of the element
  have err : ∀ {u : Value} {y : Shared}, (bx X t3 G3 sc ce fp E).xe u y → notedBy (model X.prog X.w) X.A ce (fun e y' => compEnds (model X.prog X.w) X.A X.xe none (EP X pl σ Q) (.ref D) ce (.error e) y') u y := fun {u y} z =>
    bx_out I3 cF cL st fr (fun b hb => (f3 b hb).1) tk z
  have lp : codeAny (model X.prog X.w) X.A (.compLoop (.DictComp kx vx [⟨tg, iter, ifs, 0⟩] sc pos) 0 (.ref it) (.ref D) ce) (compEnds (model X.prog X.w) X.A X.xe none (EP X pl σ Q) (.ref D) ce) t4 := by
    refine compLoop_anyD (fun n y => ∃ i F, Inv (X.blk t3 G3 sc ce fp) [] (wipe σ (own.map (·.2))) F y ∧ tn i y.heap ∧ (∀ b ∈ fp, F b = none) ∧ W i n F) ?_ m0 ⟨0, G3, I4, n4, fun b hb => (f3 b hb).1.1, w0⟩
    rintro n t5 ⟨i, G5, I5, n5, o5, w5⟩
    rcases turn i n G5 w5 with ⟨stop, qd⟩ | ⟨go, Nx, more, stp⟩
    · refine thnF (T.done (X.blk t3 G3 sc ce fp) rfl rfl rfl calm i [] t5 _ G5 (fun _ _ => False) I5 (fpk I5 o5) n5 stop) fun r t6 ⟨hr, I6⟩ => ?_
      subst hr
      have I7 : Inv X pl σ G5 t6 := I3.call' (ch := fp) I6.os I6.base I6.hok I6.bare fun b hb =>
        let z := (f3 b hb).1.2
        ⟨z.2.2.1, z.1, z.2.2.2.1, z.2.2.2.2⟩
      obtain ⟨mm, hmm, _⟩ := I6.loc
      have fC : G5 ce.locals = none := I6.free
      have fo := I3.fpOk (b := ce.locals) (H' := G5) (Nat.le_of_eq cL.symm) fC
      exact ⟨mm, hmm, fun h'' sb => ⟨.ref D, G5, I7.turned (t' := t6.toks) (fun b o hb e => (sb.2 b hb).trans e) fo.1 fo.2.1 fo.2.2.2.1 fo.2.2.2.2.1 fo.2.2.2.2.2, rfl, qd⟩⟩
    · refine thnF (T.item (X.blk t3 G3 sc ce fp) rfl rfl rfl calm i [] t5 _ G5 (fun _ _ => False) I5 (fpk I5 o5) n5 go) fun r t6 ⟨u, hr, h6⟩ => ?_
      subst hr
      refine thnF h6 fun _ t7 ⟨x, G7, I7, r7, y7, n7, o7⟩ => ?_
      refine thnF (pg.run _ t7 _ G7 x u _ (I7.pinned (fpk I7 o7) (T.obj _ _ n7)) r7 (stp x G7 y7)) fun _ t8 ⟨σ8, G8, I8, hw8, q8⟩ => ?_
      refine thnF (pt.run _ t8 σ8 G8 _ I8 q8) fun b t9 ⟨G9, I9, q9⟩ => ?_
      have go_on : ∀ {y : Shared} {F : Hp}, Inv (X.blk t3 G3 sc ce fp) ([] ++ pinsAt fp t7.heap) σ8 F y → Nx F → ∃ m, m < n ∧ ∃ i F, Inv (X.blk t3 G3 sc ce fp) [] (wipe σ (own.map (·.2))) F y ∧ tn i y.heap ∧ (∀ b ∈ fp, F b = none) ∧ W i m F := fun {y F} Z nx => by
        obtain ⟨m', hm, w'⟩ := more F nx
        have pinned : ∀ b ∈ fp, ∀ o, t7.heap.get? b = some o → y.heap.get? b = some o ∧ F b = none := fun b hb o e => by
          obtain ⟨z1, z2, _⟩ := Z.pin (b, o) (List.mem_append_right _ (List.mem_append_right _ (mem_pinsAt hb e)))
          exact ⟨z1, z2⟩
        refine ⟨m', hm, i + 1, F, (Z.unpinned (pins := [])).weak (by rw [← hw8, wipe_length]) (fun j v e => (wipe_some (by rw [hw8]; exact e)).1), T.keep _ _ _ n7 fun b hb o e => (pinned b hb o e).1, fun b hb => ?_, w'⟩
        obtain ⟨o, e, _⟩ := T.obj _ _ n7 b hb
        exact (pinned b hb o e).2
      cases b with
      | false => exact go_on I9 q9
      | true =>
        refine thnF (pk.run _ t9 σ8 G9 _ I9 q9) fun z t10 ⟨kv, G10, I10, r10, q10⟩ => ?_
        refine wpAny_mono (px.run _ t10 σ8 G10 _ (I10.wish _) q10) (fun z2 t11 ⟨v, G11, I11, r11, kvs, k, ek, e11, l11, nx⟩ => ?_) fun u y z => err z
        subst ek
        exact d_dictSet (X := X.blk t3 G3 sc ce fp) I11.unwish e11 l11 r10 r11 fun t12 I12 => go_on I12 nx
  exact codeAny_compStart_dict lp (T.self X.A 0 _ _ _ n4 lp)
end
end MKE


set_option Elab.async false
set_option linter.all false
set_option maxRecDepth 100000
set_option maxHeartbeats 4000000
namespace MK
open PySem PySem.Spec PyProof.Rows L2
def topS (i : Nat) : Stmt := PySem.Challenge.pw_measurekind_k13_units_changed.main.body.getD i (.Pass ⟨0, 0, 0, 0⟩)
abbrev sProd : Stmt := topS 8
abbrev sRaised : Stmt := topS 9
abbrev sTrn : Stmt := topS 10
abbrev sWholeP : Stmt := topS 11
abbrev sPaP : Stmt := topS 14
abbrev sScale : Stmt := topS 16
abbrev sRetold : Stmt := topS 17
abbrev sRescaled : Stmt := topS 18
abbrev sCell : Stmt := topS 20
abbrev sMix : Stmt := topS 21
abbrev sWords : Stmt := topS 22
abbrev sMade : Stmt := topS 23
abbrev sWhole : Stmt := topS 24
abbrev sIsM : Stmt := topS 25
abbrev sSmall : Stmt := topS 26
abbrev sShared : Stmt := topS 27
abbrev sLowest : Stmt := topS 28
abbrev sNumber : Stmt := topS 29
abbrev sLeaf : Stmt := topS 30
abbrev sTree : Stmt := topS 31
abbrev sParts : Stmt := topS 32
abbrev sLInputs : Stmt := topS 33
abbrev sLTold : Stmt := topS 34
abbrev sUnit : Stmt := topS 35
abbrev sLScale : Stmt := topS 36
abbrev sLRetold : Stmt := topS 37
abbrev sLaw : Stmt := topS 38
end MK


set_option Elab.async false
set_option linter.all false
set_option maxRecDepth 100000
set_option maxHeartbeats 4000000
namespace MK
open PySem PySem.Spec PyProof.Rows L2
section
variable {P : Program} {w : World} {K : PySem.W.Frag} {mg : Str → Option Value} {base : Heap}
/-! ### _law_cell_at -/
def spCell (K : PySem.W.Frag) : Sp := fun vs H Q _ => ∃ (a : Addr) (ns : List Int) (k : Nat), vs = [.ref a, .int k] ∧ SqL K H a (ns.map V.int) ∧
  ∀ c : Int, 0 ≤ c → c < 1000000000000000003 → Q (.int c) H
theorem scCell : FnScope ["_law_script", "_law_k"] ["_law_script", "_law_k"] (defScope sCell) := ⟨rfl, rfl, rfl, by decide +kernel, rfl, by decide +kernel, by decide +kernel⟩
theorem ok_cell {f : Addr} {fd : FuncData} (F : Fun K "_law_cell_at" "_law_cell_at" sCell f fd) (ml : mg "len" = none) : FnOk P w K mg base CX0 1 f fd ["_law_script", "_law_k"] (spCell K) := by
  refine F.ok scCell (fun vs H Q E h => ?_) (fun cdv A outer s H vs Q E hr h => ?_)
  · obtain ⟨a, ns, k, rfl, _⟩ := h
    rfl
  · obtain ⟨a, ns, k, rfl, hS, q⟩ := h
    refine ⟨_, pss_cons (ps_if (pt_cmpR op_lt (pv 1) (pe_callB call_len_seq (by rfl) ml PySem.boot_len (pa_cons (pv 0) pa_nil)) (nomark _))
        (pss_one (ps_ret (pe_op op_mod (pe_ix ix_list (pv 0) (pv 1) (fun _ _ => rfl)) pe_int))) pss_nil)
      (pss_one (ps_ret pe_int)), ?_⟩
    refine ⟨_, rfl, _, rfl, a, ns.map V.int, rfl, .inl hS, _, _, rfl, rfl, _, rfl, ite2 (fun e => ?_) (fun e => ?_)⟩
    · have hk : k < ns.length := by
        have := of_decide_eq_true e
        rw [List.length_map] at this
        omega
      refine ⟨_, rfl, _, rfl, a, ns.map V.int, (k : Int), .int ns[k], rfl, rfl, hS, atI_nat (by rw [List.getElem?_map, List.getElem?_eq_getElem hk]; rfl), _, _, rfl, rfl, (by show (0 : Int) < 1000000000000000003; decide), ?_⟩
      exact q _ (Int.emod_nonneg _ (by decide)) (Int.emod_lt_of_pos _ (by decide))
    · exact q 0 (by decide) (by decide)
/-! ### _law_mix -/
def spMix : Sp := fun vs H Q _ => ∃ (c k : Int), vs = [.int c, .int k] ∧ ∀ m : Int, 0 ≤ m → m < 2147483629 → Q (.int m) H
theorem scMix : FnScope ["_law_cell", "_law_k", "_law_number_here"] ["_law_cell", "_law_k"] (defScope sMix) := ⟨rfl, rfl, rfl, by decide +kernel, rfl, by decide +kernel, by decide +kernel⟩
theorem ok_mix {f : Addr} {fd : FuncData} (F : Fun K "_law_mix" "_law_mix" sMix f fd) : FnOk P w K mg base CX0 1 f fd ["_law_cell", "_law_k"] spMix := by
  refine F.ok scMix (fun vs H Q E h => ?_) (fun cdv A outer s H vs Q E hr h => ?_)
  · obtain ⟨c, k, rfl, _⟩ := h
    rfl
  · obtain ⟨c, k, rfl, q⟩ := h
    refine ⟨_, pss_cons (ps_set (i := 2) scMix.nd rfl (.inl rfl) (pe_op op_mod (pe_op op_add (pe_op op_add (pe_op op_mul (pv 0) pe_int) (pe_op op_mul (pv 1) pe_int)) pe_int) pe_int))
      (pss_one (ps_ret (pe_op op_mod (pe_op op_add (pe_op op_add (pe_op op_mul (pv 2) (pv 2)) (pe_op op_mul pe_int (pv 2))) (pv 1)) pe_int))), ?_⟩
    refine ⟨_, rfl, _, _, rfl, rfl, .inr (by decide), _, rfl, _, _, rfl, rfl, .inr (by decide), _, _, rfl, rfl, _, _, rfl, rfl, _, _, rfl, rfl, (by show (0 : Int) < 2147483647; decide), ?_⟩
    have h1 : 0 ≤ (c * 48271 + k * 69621 + 11) % 2147483647 := Int.emod_nonneg _ (by decide)
    have h2 : (c * 48271 + k * 69621 + 11) % 2147483647 < 2147483647 := Int.emod_lt_of_pos _ (by decide)
    refine ⟨_, rfl, _, rfl, _, _, rfl, rfl, .inl ⟨by omega, by omega⟩, _, rfl, _, _, rfl, rfl, .inl (by decide), _, _, rfl, rfl, _, rfl, _, _, rfl, rfl, _, _, rfl, rfl, (by show (0 : Int) < 2147483629; decide), ?_⟩
    exact q _ (Int.emod_nonneg _ (by decide)) (Int.emod_lt_of_pos _ (by decide))
end
end MK


set_option Elab.async false
set_option linter.all false
set_option maxRecDepth 100000
set_option maxHeartbeats 4000000
namespace MK
open PySem PySem.Spec PyProof.Rows L2
section
variable {P : Program} {w : World} {K : PySem.W.Frag} {mg : Str → Option Value} {base : Heap}
/-! ### _law_words -/
theorem strRep_len (z : Str) (n : Int) : (strRep z n).length = z.length * n.toNat := by
  unfold strRep
  by_cases c : n < 1
  · rw [if_pos c]
    have : n.toNat = 0 := by omega
    rw [this]
    rfl
  · rw [if_neg c]
    by_cases d : (n == 1 || z.length == 0) = true
    · rw [if_pos d]
      rw [Bool.or_eq_true] at d
      rcases d with d | d
      · have : n = 1 := by simpa using d
        subst this
        show z.length = z.length * 1
        omega
      · have : z.length = 0 := by simpa using d
        rw [this]
        omega
    · rw [if_neg d]
      show ((List.replicate n.toNat z.cps).foldl (· ++ ·) #[]).size = _
      rw [size_reps]
      show 0 + n.toNat * z.length = _
      rw [Nat.mul_comm]
      omega
abbrev alphabet : Str := "abcdefghijklmnopqrstuvwxyz"
theorem sign_at (i : Int) (h0 : 0 ≤ i) (h1 : i < 26) : ∃ c, atI alphabet.cps.toList i = some c ∧ (97 ≤ c ∧ c ≤ 122) := by
  have hl : alphabet.cps.toList.length = 26 := by decide +kernel
  obtain ⟨n, rfl⟩ := Int.eq_ofNat_of_zero_le h0
  have hn : n < alphabet.cps.toList.length := by omega
  exact ⟨_, atI_nat (List.getElem?_eq_getElem hn), (by decide +kernel : ∀ c ∈ alphabet.cps.toList, 97 ≤ c ∧ c ≤ 122) _ (List.getElem_mem hn)⟩
theorem len_one (c : Nat) : (⟨#[c]⟩ : Str).length = 1 := rfl
theorem len1000 (c : Nat) : (⟨#[c]⟩ : Str).length ≤ 1000 := by
  rw [len_one]
  decide
theorem szl {n : Nat} (h : n ≤ 1000) : n ≤ sizeLine := Nat.le_trans h (by decide)
theorem app_len (a b : Str) : (a ++ b).length = a.length + b.length := by
  show (a.cps ++ b.cps).size = _
  rw [Array.size_append]
  rfl
def spWords : Sp := fun vs H Q _ => ∃ (c : Int) (n : Nat), vs = [.int c, .int n] ∧ 0 ≤ c ∧ n ≤ 1000 ∧
  ∀ (H' : Hp) (p : Addr) (ws : List Str), Same H H' → H p = none → H' p = some (.lst (ws.map V.str)) → ws.length = n → (∀ z ∈ ws, Nm z) → Q (.ref p) H'
theorem scWords : FnScope ["_law_cell", "_law_many", "_law_signs", "_law_size", "_law_place", "_law_base", "_law_way", "_law_found", "_law_k", "_law_sign", "_law_word"] ["_law_cell", "_law_many"] (defScope sWords) := ⟨rfl, rfl, rfl, by decide +kernel, rfl, by decide +kernel, by decide +kernel⟩
theorem ok_words {f : Addr} {fd : FuncData} (F : Fun K "_law_words" "_law_words" sWords f fd) (mr : mg "range" = none) : FnOk P w K mg base CX0 1 f fd ["_law_cell", "_law_many"] spWords := by
  refine F.ok scWords (fun vs H Q E h => ?_) (fun cdv A outer s H vs Q E hr h => ?_)
  · obtain ⟨c, n, rfl, _⟩ := h
    rfl
  · obtain ⟨c, n, rfl, h0, hn, q⟩ := h
    have nd := scWords.nd
    refine ⟨_, pss_cons (ps_set (i := 2) nd rfl (.inl rfl) pe_str)
      (pss_cons (ps_set (i := 3) nd rfl (.inl rfl) (pe_op op_add pe_int (pe_op op_mod (pv 0) pe_int)))
      (pss_cons (ps_set (i := 4) nd rfl (.inl rfl) (pe_op op_mod (pe_op op_fdiv (pv 0) pe_int) (pv 3)))
      (pss_cons (ps_set (i := 5) nd rfl (.inl rfl) (pe_ix ix_str (pv 2) (pe_op op_mod (pe_op op_fdiv (pv 0) pe_int) pe_int) (fun _ _ => rfl)))
      (pss_cons (ps_set (i := 6) nd rfl (.inl rfl) (pe_op op_mod (pe_op op_fdiv (pv 0) pe_int) pe_int))
      (pss_cons (ps_set (i := 7) nd rfl (.inl rfl) (pe_lst pa_nil))
      (pss_cons (ps_for PassesOwn.never rfl (pi_range1 rfl mr (pa_cons (pv 1) pa_nil)) (pg_name (i := 8) nd rfl (.inl rfl))
        (pss_cons (ps_set (i := 9) nd rfl (.inl rfl) (pe_ix ix_str (pv 2) (pe_op op_mod (pe_op op_add (pe_op op_fdiv (pv 0) pe_int) (pe_op op_mul pe_int (pv 8))) pe_int) (fun _ _ => rfl)))
        (pss_cons (ps_set (i := 10) nd rfl (.inl rfl) (pe_op op_add_str (pe_op op_add_str (pe_op op_mul_str (pv 5) (pv 4)) (pv 9)) (pe_op op_mul_str (pv 5) (pe_op op_sub (pe_op op_sub (pv 3) pe_int) (pv 4)))))
        (Evl.pss_cut (ps_if (pt_cmpR op_eq (pv 6) pe_int (nomark _)) (pss_one (ps_set (i := 10) nd rfl (.inl rfl) (pe_op op_add_str (pv 9) (pe_op op_mul_str (pv 5) (pe_op op_mod (pe_op op_add (pe_op op_mul pe_int (pv 8)) (pe_op op_fdiv (pv 0) pe_int)) pe_int))))) pss_nil)
        (Evl.pss_cut (ps_if (pw_and (pt_cmpR op_eq (pv 6) pe_int (nomark _)) (pw_and1 (pt_cmpR op_lt (pv 8) pe_int (nomark _)))).pt (pss_one (ps_set (i := 10) nd rfl (.inl rfl) (pe_op op_mul_str (pv 5) (pe_op op_add pe_int (pe_op op_mod (pe_op op_add (pe_op op_mul pe_int (pv 8)) (pe_op op_fdiv (pv 0) pe_int)) pe_int))))) pss_nil)
        (Evl.pss_cut (ps_if (pw_and (pt_cmpR op_eq (pv 6) pe_int (nomark _)) (pw_and1 (pt_cmpR op_gt (pv 8) pe_int (nomark _)))).pt (pss_one (ps_set (i := 10) nd rfl (.inl rfl) (pe_op op_add_str (pe_ix ix_str (pv 2) (pe_op op_mod (pe_op op_sub (pe_op op_add (pe_op op_fdiv (pv 0) pe_int) (pv 8)) pe_int) pe_int) (fun _ _ => rfl)) (pe_op op_mul_str (pv 5) (pe_op op_mod (pv 8) pe_int))))) pss_nil)
        (pss_one (ps_expr (pe_bm PySem.F.plainAttrs_list PySem.F.slot_list_append PySem.F.type_list_append mt_append (pv 7) (pa_cons (pv 10) pa_nil))))))))))
      (pss_one (ps_ret (pv 7))))))))), ?_⟩
    -- the sizes
    have hs1 : 0 ≤ c % 8 := Int.emod_nonneg _ (by decide)
    have hs2 : c % 8 < 8 := Int.emod_lt_of_pos _ (by decide)
    have hp1 : 0 ≤ c / 8 % (1 + c % 8) := Int.emod_nonneg _ (by omega)
    have hp2 : c / 8 % (1 + c % 8) < 1 + c % 8 := Int.emod_lt_of_pos _ (by omega)
    (repeat (first | refine ⟨_, rfl, ?_⟩ | refine ⟨_, _, rfl, rfl, ?_⟩ | refine ⟨(by show (0 : Int) < _; decide), ?_⟩ | refine ⟨⟨by decide, by decide⟩, ?_⟩ | refine ⟨.inr (by decide), ?_⟩ | refine ⟨.inl (by decide), ?_⟩ | refine ⟨rfl, ?_⟩))
    refine ⟨(by show (0 : Int) < 1 + c % 8; omega), ?_⟩
    (repeat (first | refine ⟨_, rfl, ?_⟩ | refine ⟨_, _, rfl, rfl, ?_⟩ | refine ⟨(by show (0 : Int) < _; decide), ?_⟩ | refine ⟨⟨by decide, by decide⟩, ?_⟩ | refine ⟨.inr (by decide), ?_⟩ | refine ⟨.inl (by decide), ?_⟩ | refine ⟨rfl, ?_⟩))
    obtain ⟨sb, hsb, hsbO⟩ := sign_at (c / 64 % 26) (Int.emod_nonneg _ (by decide)) (Int.emod_lt_of_pos _ (by decide))
    refine ⟨_, _, sb, rfl, rfl, (by decide +kernel), hsb, ?_⟩
    (repeat (first | refine ⟨_, rfl, ?_⟩ | refine ⟨_, _, rfl, rfl, ?_⟩ | refine ⟨(by show (0 : Int) < _; decide), ?_⟩ | refine ⟨⟨by decide, by decide⟩, ?_⟩ | refine ⟨.inr (by decide), ?_⟩ | refine ⟨.inl (by decide), ?_⟩ | refine ⟨rfl, ?_⟩))
    refine ⟨Nat.zero_le _, fun o no => ?_⟩
    (repeat (first | refine ⟨_, rfl, ?_⟩ | refine ⟨_, _, rfl, rfl, ?_⟩ | refine ⟨(by show (0 : Int) < _; decide), ?_⟩ | refine ⟨⟨by decide, by decide⟩, ?_⟩ | refine ⟨.inr (by decide), ?_⟩ | refine ⟨.inl (by decide), ?_⟩ | refine ⟨rfl, ?_⟩))
    refine ⟨(by omega), (by omega), ?_⟩
    refine for_range (n := (n : Int).toNat) (fun i σ H2 => ∃ (v8 v9 v10 : Option V) (ws : List Str), σ = [some (.int c), some (.int n), some (.str alphabet), some (.int (1 + c % 8)), some (.int (c / 8 % (1 + c % 8))), some (.str ⟨#[sb]⟩), some (.int (c / 3 % 4)), some (.ref o), v8, v9, v10] ∧
        ws.length = i ∧ (∀ z ∈ ws, Nm z) ∧ Same H H2 ∧ H2 o = some (.lst (ws.map V.str)))
      ⟨none, none, none, [], rfl, rfl, (fun z hz => absurd hz (by simp)), same_new no, upd_same⟩ ?_ ?_
    · rintro i σ H2 hi ⟨v8, v9, v10, ws, rfl, hl, hw, sm, ho⟩
      obtain ⟨s1, hs1', hs1O⟩ := sign_at ((c / 1664 + 5 * (0 + (i : Int))) % 26) (Int.emod_nonneg _ (by decide)) (Int.emod_lt_of_pos _ (by decide))
      (repeat (first | refine ⟨_, rfl, ?_⟩ | refine ⟨_, _, rfl, rfl, ?_⟩ | refine ⟨(by show (0 : Int) < _; decide), ?_⟩ | refine ⟨⟨by decide, by decide⟩, ?_⟩ | refine ⟨.inr (by decide), ?_⟩ | refine ⟨.inl (by decide), ?_⟩ | refine ⟨rfl, ?_⟩))
      refine ⟨_, _, s1, rfl, rfl, (by decide +kernel), hs1', ?_⟩
      (repeat (first | refine ⟨_, rfl, ?_⟩ | refine ⟨_, _, rfl, rfl, ?_⟩ | refine ⟨(by show (0 : Int) < _; decide), ?_⟩ | refine ⟨⟨by decide, by decide⟩, ?_⟩ | refine ⟨.inr (by decide), ?_⟩ | refine ⟨.inl (by decide), ?_⟩ | refine ⟨rfl, ?_⟩))
      -- word = base * place + sign + base * (size - 1 - place)
      refine ⟨⟨len1000 _, by omega, by omega⟩, ?_⟩
      (repeat (first | refine ⟨_, rfl, ?_⟩ | refine ⟨_, _, rfl, rfl, ?_⟩ | refine ⟨(by show (0 : Int) < _; decide), ?_⟩ | refine ⟨⟨by decide, by decide⟩, ?_⟩ | refine ⟨.inr (by decide), ?_⟩ | refine ⟨.inl (by decide), ?_⟩ | refine ⟨rfl, ?_⟩))
      refine ⟨szl (by rw [strRep_len, len_one, len_one]; omega), ?_⟩
      (repeat (first | refine ⟨_, rfl, ?_⟩ | refine ⟨_, _, rfl, rfl, ?_⟩ | refine ⟨(by show (0 : Int) < _; decide), ?_⟩ | refine ⟨⟨by decide, by decide⟩, ?_⟩ | refine ⟨.inr (by decide), ?_⟩ | refine ⟨.inl (by decide), ?_⟩ | refine ⟨rfl, ?_⟩))
      refine ⟨⟨len1000 _, by omega, by omega⟩, ?_⟩
      (repeat (first | refine ⟨_, rfl, ?_⟩ | refine ⟨_, _, rfl, rfl, ?_⟩ | refine ⟨(by show (0 : Int) < _; decide), ?_⟩ | refine ⟨⟨by decide, by decide⟩, ?_⟩ | refine ⟨.inr (by decide), ?_⟩ | refine ⟨.inl (by decide), ?_⟩ | refine ⟨rfl, ?_⟩))
      refine ⟨szl (by rw [app_len, strRep_len, strRep_len, len_one, len_one]; omega), ?_⟩
      have w0 : Nm (strRep ⟨#[sb]⟩ (c / 8 % (1 + c % 8)) ++ ⟨#[s1]⟩ ++ strRep ⟨#[sb]⟩ (1 + c % 8 - 1 - c / 8 % (1 + c % 8))) := by
        refine ⟨?_, ?_, az_app (az_app (az_rep (az_one hsbO) _) (az_one hs1O)) (az_rep (az_one hsbO) _)⟩
        · rw [app_len, app_len, strRep_len, strRep_len, len_one, len_one]
          omega
        · rw [app_len, app_len, strRep_len, strRep_len, len_one, len_one]
          omega
      -- between the ifs: some word of one to twenty signs
      let Mid : L2.St → Hp → Prop := fun σ' H' => H' = H2 ∧ ∃ wd : Str, Nm wd ∧ σ' = [some (V.int c), some (V.int n), some (V.str alphabet), some (V.int (1 + c % 8)), some (V.int (c / 8 % (1 + c % 8))), some (V.str ⟨#[sb]⟩), some (V.int (c / 3 % 4)), some (V.ref o), some (V.int (0 + (i : Int))), some (V.str ⟨#[s1]⟩), some (V.str wd)]
      have hm0 : ∀ x : Int, 0 ≤ x % 8 ∧ x % 8 < 8 := fun x => ⟨Int.emod_nonneg _ (by decide), Int.emod_lt_of_pos _ (by decide)⟩
      refine ⟨Mid, ?_, ?_⟩
      · (repeat (first | refine ⟨_, rfl, ?_⟩ | refine ⟨_, _, rfl, rfl, ?_⟩ | refine ⟨(by show (0 : Int) < _; decide), ?_⟩ | refine ⟨⟨by decide, by decide⟩, ?_⟩ | refine ⟨.inr (by decide), ?_⟩ | refine ⟨.inl (by decide), ?_⟩ | refine ⟨rfl, ?_⟩))
        refine ite2 (fun _ => ?_) (fun _ => ⟨rfl, _, w0, rfl⟩)
        (repeat (first | refine ⟨_, rfl, ?_⟩ | refine ⟨_, _, rfl, rfl, ?_⟩ | refine ⟨(by show (0 : Int) < _; decide), ?_⟩ | refine ⟨⟨by decide, by decide⟩, ?_⟩ | refine ⟨.inr (by decide), ?_⟩ | refine ⟨.inl (by decide), ?_⟩ | refine ⟨rfl, ?_⟩))
        have := hm0 (3 * (0 + (i : Int)) + c / 9)
        refine ⟨⟨len1000 _, by omega, by omega⟩, ?_⟩
        (repeat (first | refine ⟨_, rfl, ?_⟩ | refine ⟨_, _, rfl, rfl, ?_⟩ | refine ⟨(by show (0 : Int) < _; decide), ?_⟩ | refine ⟨⟨by decide, by decide⟩, ?_⟩ | refine ⟨.inr (by decide), ?_⟩ | refine ⟨.inl (by decide), ?_⟩ | refine ⟨rfl, ?_⟩))
        refine ⟨szl (by rw [strRep_len, len_one, len_one]; omega), ?_⟩
        exact ⟨rfl, _, ⟨by rw [app_len, strRep_len, len_one, len_one]; omega, by rw [app_len, strRep_len, len_one, len_one]; omega, az_app (az_one hs1O) (az_rep (az_one hsbO) _)⟩, rfl⟩
      rintro σ' H' ⟨rfl, wd, hwd, rfl⟩
      refine ⟨Mid, ?_, ?_⟩
      · (repeat (first | refine ⟨_, rfl, ?_⟩ | refine ⟨_, _, rfl, rfl, ?_⟩ | refine ⟨(by show (0 : Int) < _; decide), ?_⟩ | refine ⟨⟨by decide, by decide⟩, ?_⟩ | refine ⟨.inr (by decide), ?_⟩ | refine ⟨.inl (by decide), ?_⟩ | refine ⟨rfl, ?_⟩))
        refine ite2 (fun _ => ?_) (fun _ => iteF ⟨rfl, _, hwd, rfl⟩)
        (repeat (first | refine ⟨_, rfl, ?_⟩ | refine ⟨_, _, rfl, rfl, ?_⟩ | refine ⟨(by show (0 : Int) < _; decide), ?_⟩ | refine ⟨⟨by decide, by decide⟩, ?_⟩ | refine ⟨.inr (by decide), ?_⟩ | refine ⟨.inl (by decide), ?_⟩ | refine ⟨rfl, ?_⟩))
        refine ite2 (fun _ => ?_) (fun _ => ⟨rfl, _, hwd, rfl⟩)
        (repeat (first | refine ⟨_, rfl, ?_⟩ | refine ⟨_, _, rfl, rfl, ?_⟩ | refine ⟨(by show (0 : Int) < _; decide), ?_⟩ | refine ⟨⟨by decide, by decide⟩, ?_⟩ | refine ⟨.inr (by decide), ?_⟩ | refine ⟨.inl (by decide), ?_⟩ | refine ⟨rfl, ?_⟩))
        have := hm0 (3 * (0 + (i : Int)) + c / 9)
        refine ⟨⟨len1000 _, by omega, by omega⟩, ?_⟩
        exact ⟨rfl, _, ⟨by rw [strRep_len, len_one]; omega, by rw [strRep_len, len_one]; omega, az_rep (az_one hsbO) _⟩, rfl⟩
      rintro σ' H' ⟨rfl, wd, hwd, rfl⟩
      refine ⟨Mid, ?_, ?_⟩
      · (repeat (first | refine ⟨_, rfl, ?_⟩ | refine ⟨_, _, rfl, rfl, ?_⟩ | refine ⟨(by show (0 : Int) < _; decide), ?_⟩ | refine ⟨⟨by decide, by decide⟩, ?_⟩ | refine ⟨.inr (by decide), ?_⟩ | refine ⟨.inl (by decide), ?_⟩ | refine ⟨rfl, ?_⟩))
        refine ite2 (fun _ => ?_) (fun _ => iteF ⟨rfl, _, hwd, rfl⟩)
        (repeat (first | refine ⟨_, rfl, ?_⟩ | refine ⟨_, _, rfl, rfl, ?_⟩ | refine ⟨(by show (0 : Int) < _; decide), ?_⟩ | refine ⟨⟨by decide, by decide⟩, ?_⟩ | refine ⟨.inr (by decide), ?_⟩ | refine ⟨.inl (by decide), ?_⟩ | refine ⟨rfl, ?_⟩))
        refine ite2 (fun _ => ?_) (fun _ => ⟨rfl, _, hwd, rfl⟩)
        obtain ⟨s3, hs3, hs3O⟩ := sign_at ((c / 64 + (0 + (i : Int)) - 7) % 26) (Int.emod_nonneg _ (by decide)) (Int.emod_lt_of_pos _ (by decide))
        (repeat (first | refine ⟨_, rfl, ?_⟩ | refine ⟨_, _, rfl, rfl, ?_⟩ | refine ⟨(by show (0 : Int) < _; decide), ?_⟩ | refine ⟨⟨by decide, by decide⟩, ?_⟩ | refine ⟨.inr (by decide), ?_⟩ | refine ⟨.inl (by decide), ?_⟩ | refine ⟨rfl, ?_⟩))
        refine ⟨_, _, s3, rfl, rfl, (by decide +kernel), hs3, ?_⟩
        (repeat (first | refine ⟨_, rfl, ?_⟩ | refine ⟨_, _, rfl, rfl, ?_⟩ | refine ⟨(by show (0 : Int) < _; decide), ?_⟩ | refine ⟨⟨by decide, by decide⟩, ?_⟩ | refine ⟨.inr (by decide), ?_⟩ | refine ⟨.inl (by decide), ?_⟩ | refine ⟨rfl, ?_⟩))
        have := hm0 (0 + (i : Int))
        refine ⟨⟨len1000 _, by omega, by omega⟩, ?_⟩
        (repeat (first | refine ⟨_, rfl, ?_⟩ | refine ⟨_, _, rfl, rfl, ?_⟩ | refine ⟨(by show (0 : Int) < _; decide), ?_⟩ | refine ⟨⟨by decide, by decide⟩, ?_⟩ | refine ⟨.inr (by decide), ?_⟩ | refine ⟨.inl (by decide), ?_⟩ | refine ⟨rfl, ?_⟩))
        refine ⟨szl (by rw [strRep_len, len_one, len_one]; omega), ?_⟩
        exact ⟨rfl, _, ⟨by rw [app_len, strRep_len, len_one, len_one]; omega, by rw [app_len, strRep_len, len_one, len_one]; omega, az_app (az_one hs3O) (az_rep (az_one hsbO) _)⟩, rfl⟩
      rintro σ' H' ⟨rfl, wd, hwd, rfl⟩
      -- found.append(word)
      (repeat (first | refine ⟨_, rfl, ?_⟩ | refine ⟨_, _, rfl, rfl, ?_⟩ | refine ⟨(by show (0 : Int) < _; decide), ?_⟩ | refine ⟨⟨by decide, by decide⟩, ?_⟩ | refine ⟨.inr (by decide), ?_⟩ | refine ⟨.inl (by decide), ?_⟩ | refine ⟨rfl, ?_⟩))
      refine ⟨.inl ⟨rfl, _, .inl (.inl ho)⟩, ?_⟩
      (repeat (first | refine ⟨_, rfl, ?_⟩ | refine ⟨_, _, rfl, rfl, ?_⟩ | refine ⟨(by show (0 : Int) < _; decide), ?_⟩ | refine ⟨⟨by decide, by decide⟩, ?_⟩ | refine ⟨.inr (by decide), ?_⟩ | refine ⟨.inl (by decide), ?_⟩ | refine ⟨rfl, ?_⟩))
      refine ⟨o, _, _, rfl, rfl, ho, (by rw [List.length_map]; exact small1000 (by omega)), ?_⟩
      refine ⟨_, _, _, ws ++ [wd], rfl, ?_, ?_, ?_, ?_⟩
      · rw [List.length_append, hl]
        rfl
      · intro z hz
        rcases List.mem_append.mp hz with z1 | z1
        · exact hw z z1
        · rw [List.mem_singleton.mp z1]
          exact hwd
      · exact fun b x e => by
          rw [upd_ne (ne_of_none e no)]
          exact sm b x e
      · rw [upd_same, List.map_append]
        rfl
    · rintro σ H2 ⟨v8, v9, v10, ws, rfl, hl, hw, sm, ho⟩
      (repeat (first | refine ⟨_, rfl, ?_⟩ | refine ⟨_, _, rfl, rfl, ?_⟩ | refine ⟨(by show (0 : Int) < _; decide), ?_⟩ | refine ⟨⟨by decide, by decide⟩, ?_⟩ | refine ⟨.inr (by decide), ?_⟩ | refine ⟨.inl (by decide), ?_⟩ | refine ⟨rfl, ?_⟩))
      exact q H2 o ws sm no ho (by rw [hl]; rfl) hw
end
end MK


set_option Elab.async false
set_option linter.all false
set_option maxRecDepth 100000
set_option maxHeartbeats 4000000
namespace MK
open PySem PySem.Spec PyProof.Rows L2
section
variable {P : Program} {w : World} {K : PySem.W.Frag} {mg : Str → Option Value} {base : Heap}
/-! ### _law_made -/
def spMade : Sp := fun vs H Q _ => ∃ (d : Addr) (m : Ms), vs = [.ref d] ∧ H d = some (.dK (enc m)) ∧ (m.map (·.1)).Nodup ∧ m.length ≤ 10000 ∧
  ∀ (H' : Hp) (p : Addr) (r : Ms), Same H H' → H p = none → MsN H' p r → Can r → (∀ j, at0 r j = at0 m j) → Q (.ref p) H'
theorem scMade : FnScope ["_law_powers", "_law_letter"] ["_law_powers"] (defScope sMade) := ⟨rfl, rfl, rfl, by decide +kernel, rfl, by decide +kernel, by decide +kernel⟩
theorem ok_made {f : Addr} {fd : FuncData} (F : Fun K "_law_made" "_law_made" sMade f fd) (mt : mg "tuple" = none) (ms : mg "sorted" = none) : FnOk P w K mg base CX0 1 f fd ["_law_powers"] spMade := by
  refine F.ok scMade (fun vs H Q E h => ?_) (fun cdv A outer s H vs Q E hr h => ?_)
  · obtain ⟨d, m, rfl, _⟩ := h
    rfl
  · obtain ⟨d, m, rfl, hd, hn, hl, q⟩ := h
    have nd := scMade.nd
    have hu := hu_of hr
    refine ⟨_, pss_one (ps_ret (pe_callTy call_tupleN rfl mt boot_tuple (pa_cons
      (pe_lc (own := [("_law_letter", 1)]) (g := gName 1) rfl nd (pi_list (pe_callB (call_sortedDA rfl) rfl ms boot_sorted (pa_cons (pv 0) pa_nil)))
        (blkOk_by (N := ["_law_powers", "_law_letter"]) (sc := defScope sMade) (by decide +kernel)) (fun _ _ _ _ _ => pg_name (i := 1) nd rfl (Or.inl rfl))
        (fun _ _ _ _ _ => pts_one (pt_cmpR op_ne (pe_dget hu (pv 0) (pv 1) (fun _ _ => rfl)) pe_int (nomark _)))
        (fun _ _ _ _ _ => pe_tup (pa_cons (pv 1) (pa_cons (pe_dget hu (pv 0) (pv 1) (fun _ _ => rfl)) pa_nil)))) pa_nil))), ?_⟩
    (repeat (first | refine ⟨_, rfl, ?_⟩ | refine ⟨_, _, rfl, rfl, ?_⟩ | refine ⟨(by show (0 : Int) < _; decide), ?_⟩ | refine ⟨⟨by decide, by decide⟩, ?_⟩ | refine ⟨.inr (by decide), ?_⟩ | refine ⟨.inl (by decide), ?_⟩ | refine ⟨rfl, ?_⟩))
    refine ⟨d, enc m, m.map (·.1), rfl, .inl hd, encG_keys _ _, fun ys p hp hso np => ?_⟩
    have sp : Same H (upd H p (.lst (ys.map V.str))) := same_new np
    have hlen : ys.length = m.length := by rw [hp.length_eq, List.length_map]
    have fin := made_law hn hp (sortedS_pw hso)
    refine ⟨p, rfl, ⟨_, SqL.of upd_same⟩, fun D nD => ?_⟩
    have nDH : H D = none := sp.free nD
    have nDp : p ≠ D := ne_of_none upd_same nD
    refine lc_list (xs := ys.map V.str) (fun i H2 => Same H H2 ∧ H2 p = some (.lst (ys.map V.str)) ∧ ∃ ts : List Addr, H2 D = some (.lst (ts.map V.ref)) ∧ Paired (PrAt H2) ts (byKeys m (ys.take i)) ∧ ts.length ≤ i)
      ⟨sp.trans (same_new nD), upd_other upd_same nD, [], upd_same, .nil, Nat.le_refl _⟩ (fun i H2 _ z => SqL.of z.2.1) ?_ ?_
    · rintro i x H2 hx ⟨s2, hp2, ts, hD, pr, hts⟩
      obtain ⟨k, hk, rfl⟩ := at_map hx
      have hi : i < ys.length := (List.getElem?_eq_some_iff.mp hk).1
      have hm : k ∈ m.map (·.1) := hp.mem_iff.mp (List.mem_of_getElem? hk)
      refine ⟨rfl, ?_⟩
      (repeat (first | refine ⟨_, rfl, ?_⟩ | refine ⟨_, _, rfl, rfl, ?_⟩ | refine ⟨(by show (0 : Int) < _; decide), ?_⟩ | refine ⟨⟨by decide, by decide⟩, ?_⟩ | refine ⟨.inr (by decide), ?_⟩ | refine ⟨.inl (by decide), ?_⟩ | refine ⟨rfl, ?_⟩))
      refine ⟨d, _, rfl, dget_enc (s2 _ _ hd) hm, ?_⟩
      (repeat (first | refine ⟨_, rfl, ?_⟩ | refine ⟨_, _, rfl, rfl, ?_⟩ | refine ⟨(by show (0 : Int) < _; decide), ?_⟩ | refine ⟨⟨by decide, by decide⟩, ?_⟩ | refine ⟨.inr (by decide), ?_⟩ | refine ⟨.inl (by decide), ?_⟩ | refine ⟨rfl, ?_⟩))
      refine ite2 (fun e => ?_) (fun e => ?_)
      · have e1 : at0 m k ≠ 0 := by simpa using e
        (repeat (first | refine ⟨_, rfl, ?_⟩ | refine ⟨_, _, rfl, rfl, ?_⟩ | refine ⟨(by show (0 : Int) < _; decide), ?_⟩ | refine ⟨⟨by decide, by decide⟩, ?_⟩ | refine ⟨.inr (by decide), ?_⟩ | refine ⟨.inl (by decide), ?_⟩ | refine ⟨rfl, ?_⟩))
        refine ⟨d, _, rfl, dget_enc (s2 _ _ hd) hm, ?_⟩
        refine ⟨(by show 2 ≤ sizeLine; decide), fun t nt => ?_⟩
        have ntD : D ≠ t := ne_of_none hD nt
        refine ⟨_, upd_other hD nt, ?_, same_upd (s2.trans (same_new nt)) nDH, ?_, ts ++ [t], ?_, ?_, ?_⟩
        · rw [List.length_map]
          exact Nat.lt_of_le_of_lt (Nat.le_trans hts (by omega : i ≤ 10000)) (by decide)
        · rw [upd_ne nDp]
          exact upd_other hp2 nt
        · rw [upd_same, List.map_append]
          rfl
        · rw [byKeys_yes hk e1]
          exact pr_list (upd_other hD nt) (Paired.snoc (pr_same (same_new nt) pr) upd_same)
        · rw [List.length_append]
          exact Nat.add_le_add_right hts 1
      · have e1 : at0 m k = 0 := by simpa using e
        refine ⟨s2, hp2, ts, hD, ?_, by omega⟩
        rw [byKeys_no hk e1]
        exact pr
    · rintro H2 ⟨s2, hp2, ts, hD, pr, hts⟩
      (repeat (first | refine ⟨_, rfl, ?_⟩ | refine ⟨_, _, rfl, rfl, ?_⟩ | refine ⟨(by show (0 : Int) < _; decide), ?_⟩ | refine ⟨⟨by decide, by decide⟩, ?_⟩ | refine ⟨.inr (by decide), ?_⟩ | refine ⟨.inl (by decide), ?_⟩ | refine ⟨rfl, ?_⟩))
      refine ⟨D, ts.map V.ref, rfl, SqL.of hD, fun l o nl dn => ?_⟩
      rw [List.length_map, List.take_length] at pr
      exact q _ l _ (s2.trans (same_new nl)) (s2.free nl) ⟨ts, ⟨o, upd_same, dn⟩, pr_same (same_new nl) pr⟩ fin.1 fin.2
end
end MK


set_option Elab.async false
set_option linter.all false
set_option maxRecDepth 100000
set_option maxHeartbeats 4000000
namespace MK
open PySem PySem.Spec PyProof.Rows L2
section
variable {P : Program} {w : World} {K : PySem.W.Frag} {mg : Str → Option Value} {base : Heap}
/-! ### _law_small -/
def spSmall : Sp := fun vs H Q _ => ∃ (c : Int) (a : Addr) (ws : List Str), vs = [.int c, .ref a] ∧ 0 ≤ c ∧ H a = some (.lst (ws.map V.str)) ∧ ws ≠ [] ∧ ws.length ≤ 1000 ∧
  ∀ (H' : Hp) (p : Addr) (r : Ms), Same H H' → H p = none → MsN H' p r → Can r → r.length ≤ 3 → (∀ x ∈ r, x.1 ∈ ws ∧ x.2.natAbs ≤ 20) → Q (.ref p) H'
theorem scSmall : FnScope ["_law_cell", "_law_letters", "_law_powers", "_law_k", "_law_more", "_law_many"] ["_law_cell", "_law_letters"] (defScope sSmall) := ⟨rfl, rfl, rfl, by decide +kernel, rfl, by decide +kernel, by decide +kernel⟩
theorem ok_small {f fX fM : Addr} {fd fdX fdM : FuncData} (F : Fun K "_law_small" "_law_small" sSmall f fd) (FX : Fun K "_law_mix" "_law_mix" sMix fX fdX) (bX : Binds K fdX ["_law_cell", "_law_k"] []) (gX : mg "_law_mix" = some (.ref fX))
    (FM : Fun K "_law_made" "_law_made" sMade fM fdM) (bM : Binds K fdM ["_law_powers"] []) (gM : mg "_law_made" = some (.ref fM))
    (mr : mg "range" = none) (ml : mg "len" = none) (mt : mg "tuple" = none) (ms : mg "sorted" = none) : FnOk P w K mg base CX0 2 f fd ["_law_cell", "_law_letters"] spSmall := by
  have GX : FnOk P w K mg base CX0 1 fX fdX ["_law_cell", "_law_k"] spMix := ok_mix FX
  have GM : FnOk P w K mg base CX0 1 fM fdM ["_law_powers"] spMade := ok_made FM mt ms
  refine F.ok scSmall (fun vs H Q E h => ?_) (fun cdv A outer s H vs Q E hr h => ?_)
  · obtain ⟨c, a, ws, rfl, _⟩ := h
    rfl
  · obtain ⟨c, a, ws, rfl, h0, ha, hw0, hwl, q⟩ := h
    have nd := scSmall.nd
    have hu := hu_of hr
    refine ⟨_, pss_cons (ps_set (i := 2) nd rfl (.inl rfl) pe_dnewK)
      (pss_cons (ps_for PassesOwn.never rfl (pi_range1 rfl mr (pa_cons (pe_op op_mod (pv 0) pe_int) pa_nil)) (pg_name (i := 3) nd rfl (.inl rfl))
        (pss_cons (ps_set (i := 4) nd rfl (.inl rfl) (pe_call GX hr (by rfl) gX FX.kp bX .nil pass0 (pa_cons (pv 0) (pa_cons (pv 3) pa_nil))))
        (pss_cons (ps_set (i := 5) nd rfl (.inl rfl) (pe_ix ix_list (pe_lst (pa_cons (pe_op op_sub (pe_op op_mod (pe_op op_fdiv (pv 4) (pe_callB call_len_seq (by rfl) ml PySem.boot_len (pa_cons (pv 1) pa_nil))) pe_int) pe_int)
            (pa_cons (pe_op op_sub (pe_op op_mod (pe_op op_fdiv (pv 4) pe_int) pe_int) pe_int) pa_nil))) (pe_op op_fdiv (pe_op op_mod (pe_op op_fdiv (pv 4) pe_int) pe_int) pe_int) (fun _ _ => rfl)))
        (pss_one (ps_dput hu (pv 2) (pe_ix ix_list (pv 1) (pe_op op_mod (pv 4) (pe_callB call_len_seq (by rfl) ml PySem.boot_len (pa_cons (pv 1) pa_nil))) (fun _ _ => rfl)) (pv 5) rfl)))))
      (pss_one (ps_ret (pe_call GM hr (by rfl) gM FM.kp bM .nil pass0 (pa_cons (pv 2) pa_nil))))), ?_⟩
    intro d nd0
    have hc4 : 0 ≤ c % 4 ∧ c % 4 < 4 := ⟨Int.emod_nonneg _ (by decide), Int.emod_lt_of_pos _ (by decide)⟩
    refine ⟨_, rfl, _, _, rfl, rfl, (by show (0 : Int) < 4; decide), _, rfl, by omega, by omega, ?_⟩
    have hwlen : (0 : Int) < ((ws.map V.str).length : Int) := by
      rw [List.length_map]
      have := List.length_pos_iff.mpr hw0
      omega
    have hwlen2 : ((ws.map V.str).length : Int) ≤ 1000 := by
      rw [List.length_map]
      omega
    refine for_range (n := (c % 4).toNat) (fun i σ H2 => ∃ (v3 v4 v5 : Option V) (m : Ms), σ = [some (.int c), some (.ref a), some (.ref d), v3, v4, v5] ∧ Same H H2 ∧ H2 d = some (.dK (enc m)) ∧ (m.map (·.1)).Nodup ∧ m.length ≤ i ∧ ∀ p ∈ m, p.1 ∈ ws ∧ p.2.natAbs ≤ 20)
      ⟨none, none, none, [], rfl, same_new nd0, upd_same, List.nodup_nil, Nat.le_refl _, (fun p hp => absurd hp (by simp))⟩ ?_ ?_
    · rintro i σ H2 hi ⟨v3, v4, v5, m, rfl, sm, hd, hn, hml, hmw⟩
      refine ⟨_, rfl, _, rfl, c, 0 + (i : Int), rfl, fun x hx0 hx1 => ?_⟩
      have haH := sm _ _ ha
      refine ⟨_, rfl, _, rfl, a, _, rfl, .inl (SqL.of haH), _, _, rfl, rfl, ⟨hwlen, by omega⟩, _, _, rfl, rfl, (by show (0 : Int) < 5; decide), _, _, rfl, rfl, ?_⟩
      refine ⟨_, rfl, _, _, rfl, rfl, ⟨by decide, by decide⟩, _, _, rfl, rfl, (by show (0 : Int) < 41; decide), _, _, rfl, rfl, (by show 2 ≤ sizeLine; decide), fun l nl => ?_⟩
      refine ⟨_, rfl, _, _, rfl, rfl, ⟨by decide, by decide⟩, _, _, rfl, rfl, (by show (0 : Int) < 9; decide), _, _, rfl, rfl, ⟨by decide, by decide⟩, ?_⟩
      obtain ⟨u, hu1, hu2⟩ := two_val (a := V.int (x / ((ws.map V.str).length : Int) % 5 - 2)) (b := V.int (x / 256 % 41 - 20)) (i := x / 16 % 9 / 8) (by omega) (by omega)
      obtain ⟨y, rfl, hy⟩ : ∃ y : Int, u = .int y ∧ y.natAbs ≤ 20 := by
        have h1 : 0 ≤ x / ((ws.map V.str).length : Int) % 5 := Int.emod_nonneg _ (by decide)
        have h2 : x / ((ws.map V.str).length : Int) % 5 < 5 := Int.emod_lt_of_pos _ (by decide)
        rcases hu2 with e | e
        · refine ⟨_, e, ?_⟩
          generalize x / ((ws.map V.str).length : Int) % 5 = t at h1 h2
          omega
        · exact ⟨_, e, by omega⟩
      have s2 : Same H2 (upd H2 l (.lst [V.int (x / ((ws.map V.str).length : Int) % 5 - 2), V.int (x / 256 % 41 - 20)])) := same_new nl
      have haL := s2 _ _ haH
      have hdL := s2 _ _ hd
      refine ⟨l, _, _, _, rfl, rfl, SqL.of upd_same, hu1, ?_⟩
      obtain ⟨z, hz, ez⟩ := mod_at hw0 x
      refine ⟨_, rfl, _, rfl, _, rfl, _, rfl, _, rfl, a, _, rfl, .inl (SqL.of haL), _, _, rfl, rfl, hwlen, a, _, _, _, rfl, rfl, SqL.of haL, ez, ?_⟩
      refine ⟨d, _, rfl, dput_enc hdL hn (small1000 (by omega)), ?_⟩
      refine ⟨_, _, _, put m z y, rfl, same_upd (sm.trans s2) nd0, upd_same, put_nodup _ _ hn, Nat.le_trans (put_len _ _ _) (by omega), ?_⟩
      intro p hp
      rcases put_mem hp with e | e
      · rw [e]; exact ⟨hz, hy⟩
      · exact hmw p e
    · rintro σ H2 ⟨v3, v4, v5, m, rfl, sm, hd, hn, hml, hmw⟩
      refine ⟨_, rfl, d, m, rfl, hd, hn, by omega, fun H3 p r s3 np hp hc he => ?_⟩
      exact q H3 p r (sm.trans s3) (sm.free np) hp hc (Nat.le_trans (made_few hc he) (by omega)) (fun x hx => hmw x (made_in hc he x hx))
end
end MK


set_option Elab.async false
set_option linter.all false
set_option maxRecDepth 100000
set_option maxHeartbeats 4000000
namespace MK
open PySem PySem.Spec PyProof.Rows L2
section
variable {P : Program} {w : World} {K : PySem.W.Frag} {mg : Str → Option Value} {base : Heap}
/-! ### _law_shared, _law_lowest, _law_number -/
theorem scShared : FnScope ["_law_one", "_law_other", "_law_rest"] ["_law_one", "_law_other"] (defScope sShared) := ⟨rfl, rfl, rfl, by decide +kernel, rfl, by decide +kernel, by decide +kernel⟩
theorem scLowest : FnScope ["_law_above", "_law_below", "_law_most"] ["_law_above", "_law_below"] (defScope sLowest) := ⟨rfl, rfl, rfl, by decide +kernel, rfl, by decide +kernel, by decide +kernel⟩
theorem scNumber : FnScope ["_law_cell"] ["_law_cell"] (defScope sNumber) := ⟨rfl, rfl, rfl, by decide +kernel, rfl, by decide +kernel, by decide +kernel⟩
def spShared : Sp := fun vs H Q _ => ∃ a b : Nat, vs = [.int a, .int b] ∧ Q (.int ((Nat.gcd a b : Nat) : Int)) H
theorem ok_shared {f : Addr} {fd : FuncData} (F : Fun K "_law_shared" "_law_shared" sShared f fd) : FnOk P w K mg base CX0 1 f fd ["_law_one", "_law_other"] spShared := by
  refine F.ok scShared (fun vs H Q E h => ?_) (fun cdv A outer s H vs Q E hr h => ?_)
  · obtain ⟨a, b, rfl, _⟩ := h
    rfl
  · obtain ⟨a, b, rfl, q⟩ := h
    have nd := scShared.nd
    refine ⟨_, pss_cons (ps_while PassesOwn.never (pt_cmpR op_ne (pv 1) pe_int (nomark _)) (pss_cons (ps_set (i := 2) nd rfl (.inl rfl) (pe_op op_mod (pv 0) (pv 1)))
      (pss_cons (ps_set (i := 0) nd rfl (.inl rfl) (pv 1)) (pss_one (ps_set (i := 1) nd rfl (.inl rfl) (pv 2)))))) (pss_one (ps_ret (pv 0))), ?_⟩
    refine ⟨fun m σ H' => ∃ (u v : Nat) (r : Option V), m = v ∧ σ = [some (.int u), some (.int v), r] ∧ H' = H ∧ Nat.gcd u v = Nat.gcd a b, ⟨_, a, b, none, rfl, rfl, rfl, rfl⟩, ?_⟩
    rintro m σ H' ⟨u, v, r, em, rfl, rfl, g⟩
    refine ⟨_, rfl, rfl, _, rfl, ?_⟩
    by_cases v0 : v = 0
    · have e : (!decide (V.int (v : Int) = V.int 0)) = false := by rw [v0]; rfl
      rw [e]
      rw [v0, Nat.gcd_zero_right] at g
      refine ⟨_, rfl, ?_⟩
      rw [g]
      exact q
    · have e : (!decide (V.int (v : Int) = V.int 0)) = true := by
        rw [decide_eq_false (fun z => v0 (by have := V.int.inj z; omega))]
        rfl
      rw [e]
      refine ⟨fun σ' H'' => ∃ (u' v' : Nat) (r : Option V), v' < v ∧ σ' = [some (.int u'), some (.int v'), r] ∧ H'' = H' ∧ Nat.gcd u' v' = Nat.gcd a b, fun σ' H'' ⟨u', v', r, h1, h2, h3, h4⟩ => ⟨_, by rw [em]; exact h1, u', v', r, rfl, h2, h3, h4⟩, ?_⟩
      refine ⟨_, rfl, _, rfl, _, _, rfl, rfl, (by omega), _, rfl, _, rfl, ?_⟩
      refine ⟨v, u % v, _, Nat.mod_lt _ (by omega), rfl, rfl, ?_⟩
      rw [← g, Nat.gcd_comm v, ← Nat.gcd_rec, Nat.gcd_comm]
/-- x over y, divided by what both have: a new pair -/
def spLowest : Sp := fun vs H Q _ => ∃ (x y : Int) (k : Nat), vs = [.int x, .int y] ∧ y ≠ 0 ∧ Sm k y ∧ k ≤ 8000 ∧ ∀ p, H p = none → Q (.ref p) (upd H p (.tup [.int (norm x y).1, .int (norm x y).2]))
theorem ok_lowest {f fS : Addr} {fd fdS : FuncData} (F : Fun K "_law_lowest" "_law_lowest" sLowest f fd) (FS : Fun K "_law_shared" "_law_shared" sShared fS fdS) (bS : Binds K fdS ["_law_one", "_law_other"] []) (gS : mg "_law_shared" = some (.ref fS)) (ma : mg "abs" = none) :
    FnOk P w K mg base CX0 2 f fd ["_law_above", "_law_below"] spLowest := by
  have GS : FnOk P w K mg base CX0 1 fS fdS ["_law_one", "_law_other"] spShared := ok_shared FS
  refine F.ok scLowest (fun vs H Q E h => ?_) (fun cdv A outer s H vs Q E hr h => ?_)
  · obtain ⟨x, y, _, rfl, _⟩ := h
    rfl
  · obtain ⟨x, y, k, rfl, y0, by', hk, q⟩ := h
    have nd := scLowest.nd
    refine ⟨_, pss_cons (ps_set (i := 2) nd rfl (.inl rfl) (pe_call GS hr (by rfl) gS FS.kp bS .nil pass0 (pa_cons (pe_callB call_abs (by rfl) ma PyProof.Rows.boot_abs (pa_cons (pv 0) pa_nil)) (pa_cons (pe_callB call_abs (by rfl) ma PyProof.Rows.boot_abs (pa_cons (pv 1) pa_nil)) pa_nil))))
      (Evl.pss_cut (ps_if (pt_cmpR op_lt (pv 1) pe_int (nomark _)) (pss_one (ps_set (i := 2) nd rfl (.inl rfl) (pe_op op_sub pe_int (pv 2)))) pss_nil)
      (pss_one (ps_ret (pe_tup (pa_cons (pe_op op_fdivWN (pv 0) (pv 2)) (pa_cons (pe_op op_fdivWN (pv 1) (pv 2)) pa_nil)))))), ?_⟩
    refine ⟨_, rfl, _, rfl, _, rfl, _, rfl, x.natAbs, y.natAbs, by rw [abs_natI, abs_natI]; rfl, ?_⟩
    refine ⟨fun σ' H' => σ' = [some (.int x), some (.int y), some (.int (cut x y))] ∧ H' = H, ?_, ?_⟩
    · refine ⟨_, rfl, _, _, rfl, rfl, _, rfl, ite2 (fun e => ?_) (fun e => ?_)⟩
      · have e1 : y < 0 := of_decide_eq_true e
        refine ⟨_, rfl, _, _, rfl, rfl, ?_, rfl⟩
        unfold cut
        rw [if_pos e1, ← Int.zero_sub]
        rfl
      · have e1 : ¬ y < 0 := fun z => e (decide_eq_true z)
        refine ⟨?_, rfl⟩
        unfold cut
        rw [if_neg e1]
        rfl
    · rintro σ' H' ⟨rfl, rfl⟩
      have c0 := cut_ne (x := x) y0
      have cd : CDivWN 0 (cut x y) := (by'.le (cut_le (x := x) y0)).div c0 hk
      refine ⟨_, rfl, _, rfl, _, _, rfl, rfl, divN_any cd, _, rfl, _, rfl, _, _, rfl, rfl, divN_any cd, (by show 2 ≤ sizeLine; decide), fun p np => ?_⟩
      exact q p np
/-- a drawn number: its place is new or not told -/
def spNumber : Sp := fun vs H Q _ => ∃ c : Int, vs = [.int c] ∧ 0 ≤ c ∧ ∀ (H' : Hp) (p : Addr) (u v : Int), Same H H' → H p = none → FracAt H' p u v → Red u v → u.natAbs ≤ 10 ^ 9 → v ≤ 10 ^ 9 → Q (.ref p) H'
theorem ok_number {f fO fS : Addr} {fd fdO fdS : FuncData} (F : Fun K "_law_number" "_law_number" sNumber f fd) (FO : Fun K "_law_lowest" "_law_lowest" sLowest fO fdO) (bO : Binds K fdO ["_law_above", "_law_below"] []) (gO : mg "_law_lowest" = some (.ref fO))
    (FS : Fun K "_law_shared" "_law_shared" sShared fS fdS) (bS : Binds K fdS ["_law_one", "_law_other"] []) (gS : mg "_law_shared" = some (.ref fS)) (ma : mg "abs" = none) : FnOk P w K mg base CX0 3 f fd ["_law_cell"] spNumber := by
  have GO : FnOk P w K mg base CX0 2 fO fdO ["_law_above", "_law_below"] spLowest := ok_lowest FO FS bS gS ma
  refine F.ok scNumber (fun vs H Q E h => ?_) (fun cdv A outer s H vs Q E hr h => ?_)
  · obtain ⟨c, rfl, _⟩ := h
    rfl
  · obtain ⟨c, rfl, c0, q⟩ := h
    have end_ : ∀ (x y : Int), y ≠ 0 → x.natAbs ≤ 10 ^ 9 → y.natAbs ≤ 10 ^ 9 → spLowest [.int x, .int y] H Q E := fun x y y0 hx hy =>
      ⟨x, y, 30, rfl, y0, sm30 hy, by decide, fun p np => by
        have l1 := (cut_ok (x := x) y0).2.2.1
        have l2 := (cut_ok (x := x) y0).2.2.2
        have r := norm_red (x := x) y0
        refine q _ p _ _ (same_new np) np upd_same r (Nat.le_trans l1 hx) ?_
        have l3 : (norm x y).2.natAbs ≤ 10 ^ 9 := Nat.le_trans l2 hy
        have := r.1
        omega⟩
    refine ⟨_, pss_cons (ps_if (pt_cmpR op_lt (pe_op op_mod (pv 0) pe_int) pe_int (nomark _)) (pss_one (ps_ret (pe_call GO hr (by rfl) gO FO.kp bO .nil pass0 (pa_cons (pe_op op_sub (pe_op op_mod (pe_op op_fdiv (pv 0) pe_int) pe_int) pe_int) (pa_cons (pe_op op_add pe_int (pe_op op_mod (pe_op op_fdiv (pv 0) pe_int) pe_int)) pa_nil))))) pss_nil)
      (pss_cons (ps_if (pt_cmpR op_eq (pe_op op_mod (pv 0) pe_int) pe_int (nomark _)) (pss_one (ps_ret (pe_tup (pa_cons pe_int (pa_cons pe_int pa_nil))))) pss_nil)
      (pss_one (ps_ret (pe_call GO hr (by rfl) gO FO.kp bO .nil pass0 (pa_cons
        (pe_op op_sub (pe_op op_mod (pe_op op_mul (pe_op op_fdiv (pv 0) (pe_op op_pow pe_int pe_int)) pe_int) (pe_op op_add (pe_op op_mul pe_int (pe_op op_pow pe_int pe_int)) pe_int)) (pe_op op_pow pe_int pe_int))
        (pa_cons (pe_op op_add pe_int (pe_op op_mod (pe_op op_fdiv (pv 0) pe_int) (pe_op op_pow pe_int pe_int))) pa_nil)))))), ?_⟩
    refine ⟨_, rfl, _, _, rfl, rfl, (by show (0 : Int) < 6; decide), _, _, rfl, rfl, _, rfl, ite2 (fun _ => ?_) (fun _ => ?_)⟩
    · refine ⟨_, rfl, _, _, rfl, rfl, ⟨by decide, by decide⟩, _, _, rfl, rfl, (by show (0 : Int) < 41; decide), _, _, rfl, rfl, ?_⟩
      refine ⟨_, rfl, _, _, rfl, rfl, ⟨by decide, by decide⟩, _, _, rfl, rfl, (by show (0 : Int) < 5; decide), _, _, rfl, rfl, ?_⟩
      have h1 : 0 ≤ c / 6 % 41 := Int.emod_nonneg _ (by decide)
      have h2 : c / 6 % 41 < 41 := Int.emod_lt_of_pos _ (by decide)
      have h3 : 0 ≤ c / 246 % 5 := Int.emod_nonneg _ (by decide)
      have h4 : c / 246 % 5 < 5 := Int.emod_lt_of_pos _ (by decide)
      exact end_ _ _ (by omega) (by omega) (by omega)
    · refine ⟨_, rfl, _, _, rfl, rfl, (by show (0 : Int) < 6; decide), rfl, _, rfl, ite2 (fun _ => ?_) (fun _ => ?_)⟩
      · exact ⟨(by show 2 ≤ sizeLine; decide), fun p np => q _ p 0 1 (same_new np) np upd_same ⟨by decide, by decide⟩ (by decide) (by decide)⟩
      · refine ⟨_, rfl, _, _, rfl, rfl, ⟨by decide, by decide, by decide⟩, _, _, rfl, rfl, ⟨by decide, by decide⟩, _, _, rfl, rfl, .inr (by decide), _, _, rfl, rfl, ⟨by decide, by decide, by decide⟩, _, _, rfl, rfl, .inl (by decide), _, _, rfl, rfl, _, _, rfl, rfl, (by show (0 : Int) < 2 * 10 ^ 9 + 1; decide), _, _, rfl, rfl, ⟨by decide, by decide, by decide⟩, _, _, rfl, rfl, ?_⟩
        refine ⟨_, rfl, _, _, rfl, rfl, ⟨by decide, by decide⟩, _, _, rfl, rfl, ⟨by decide, by decide, by decide⟩, _, _, rfl, rfl, (by show (0 : Int) < 10 ^ 9; decide), _, _, rfl, rfl, ?_⟩
        have h1 : 0 ≤ c / 6 ^ 3 * 7 % (2 * 10 ^ 9 + 1) := Int.emod_nonneg _ (by decide)
        have h2 : c / 6 ^ 3 * 7 % (2 * 10 ^ 9 + 1) < 2 * 10 ^ 9 + 1 := Int.emod_lt_of_pos _ (by decide)
        have h3 : 0 ≤ c / 6 % 10 ^ 9 := Int.emod_nonneg _ (by decide)
        have h4 : c / 6 % 10 ^ 9 < 10 ^ 9 := Int.emod_lt_of_pos _ (by decide)
        have e1 : (c / 6 ^ 3 * 7 % (2 * 10 ^ 9 + 1) - 10 ^ 9).natAbs ≤ 10 ^ 9 := by
          generalize c / 6 ^ 3 * 7 % (2 * 10 ^ 9 + 1) = y at h1 h2
          omega
        have e2 : 1 + c / 6 % 10 ^ 9 ≠ 0 ∧ (1 + c / 6 % 10 ^ 9).natAbs ≤ 10 ^ 9 := by
          generalize c / 6 % 10 ^ 9 = y at h3 h4
          omega
        exact end_ _ _ e2.1 e1 e2.2
end
end MK


set_option Elab.async false
set_option linter.all false
set_option maxRecDepth 100000
set_option maxHeartbeats 4000000
namespace MK
open PySem PySem.Spec PyProof.Rows L2
section
variable {P : Program} {w : World} {K : PySem.W.Frag} {mg : Str → Option Value} {base : Heap}
/-! ### _law_leaf -/
theorem scLeaf : FnScope ["_law_cell", "_law_words_here", "_law_bases", "_law_more"] ["_law_cell", "_law_words_here", "_law_bases"] (defScope sLeaf) := ⟨rfl, rfl, rfl, by decide +kernel, rfl, by decide +kernel, by decide +kernel⟩
def spLeaf : Sp := fun vs H Q _ => ∃ (c : Int) (a b : Addr) (ws bs : List Str), vs = [.int c, .ref a, .ref b] ∧ 0 ≤ c ∧ NmsAt H a ws ∧ NmsAt H b bs ∧
  ∀ (H' : Hp) (p : Addr) (r : Rk), Same H H' → H p = none → TrAt H' r p → RkIn ws bs 1 0 r → Q (.ref p) H'
/-- what the leaf calls -/
structure LfT (K : PySem.W.Frag) (mg : Str → Option Value) where
  (fX fM fS fO fN fSm : Addr)
  (dX dM dS dO dN dSm : FuncData)
  FX : Fun K "_law_mix" "_law_mix" sMix fX dX
  FM : Fun K "_law_made" "_law_made" sMade fM dM
  FS : Fun K "_law_shared" "_law_shared" sShared fS dS
  FO : Fun K "_law_lowest" "_law_lowest" sLowest fO dO
  FN : Fun K "_law_number" "_law_number" sNumber fN dN
  FSm : Fun K "_law_small" "_law_small" sSmall fSm dSm
  gX : mg "_law_mix" = some (.ref fX)
  gM : mg "_law_made" = some (.ref fM)
  gS : mg "_law_shared" = some (.ref fS)
  gO : mg "_law_lowest" = some (.ref fO)
  gN : mg "_law_number" = some (.ref fN)
  gSm : mg "_law_small" = some (.ref fSm)
  mr : mg "range" = none
  ml : mg "len" = none
  mt : mg "tuple" = none
  ms : mg "sorted" = none
  ma : mg "abs" = none
theorem LfT.bX (T : LfT K mg) : Binds K T.dX ["_law_cell", "_law_k"] [] := T.FX.binds (ps := ["_law_cell", "_law_k"]) fun _ _ _ _ _ _ us hl => match us, hl with | [_, _], _ => rfl
theorem LfT.bM (T : LfT K mg) : Binds K T.dM ["_law_powers"] [] := T.FM.binds (ps := ["_law_powers"]) fun _ _ _ _ _ _ us hl => match us, hl with | [_], _ => rfl
theorem LfT.bS (T : LfT K mg) : Binds K T.dS ["_law_one", "_law_other"] [] := T.FS.binds (ps := ["_law_one", "_law_other"]) fun _ _ _ _ _ _ us hl => match us, hl with | [_, _], _ => rfl
theorem LfT.bO (T : LfT K mg) : Binds K T.dO ["_law_above", "_law_below"] [] := T.FO.binds (ps := ["_law_above", "_law_below"]) fun _ _ _ _ _ _ us hl => match us, hl with | [_, _], _ => rfl
theorem LfT.bN (T : LfT K mg) : Binds K T.dN ["_law_cell"] [] := T.FN.binds (ps := ["_law_cell"]) fun _ _ _ _ _ _ us hl => match us, hl with | [_], _ => rfl
theorem LfT.bSm (T : LfT K mg) : Binds K T.dSm ["_law_cell", "_law_letters"] [] := T.FSm.binds (ps := ["_law_cell", "_law_letters"]) fun _ _ _ _ _ _ us hl => match us, hl with | [_, _], _ => rfl
theorem ok_leaf {f : Addr} {fd : FuncData} (F : Fun K "_law_leaf" "_law_leaf" sLeaf f fd) (T : LfT K mg) : FnOk P w K mg base CX0 4 f fd ["_law_cell", "_law_words_here", "_law_bases"] spLeaf := by
  have GX : FnOk P w K mg base CX0 1 T.fX T.dX ["_law_cell", "_law_k"] spMix := ok_mix T.FX
  have GN : FnOk P w K mg base CX0 3 T.fN T.dN ["_law_cell"] spNumber := ok_number T.FN T.FO T.bO T.gO T.FS T.bS T.gS T.ma
  have GSm : FnOk P w K mg base CX0 2 T.fSm T.dSm ["_law_cell", "_law_letters"] spSmall := ok_small T.FSm T.FX T.bX T.gX T.FM T.bM T.gM T.mr T.ml T.mt T.ms
  refine F.ok scLeaf (fun vs H Q E h => ?_) (fun cdv A outer s H vs Q E hr h => ?_)
  · obtain ⟨c, a, b, ws, bs, rfl, _⟩ := h
    rfl
  · obtain ⟨c, a, b, ws, bs, rfl, h0, hw, hb, q⟩ := h
    have nd := scLeaf.nd
    have hr1 : Room 1 _ := hr.mono (by decide)
    have hr2 : Room 2 _ := hr.mono (by decide)
    refine ⟨_, pss_cons (ps_set (i := 3) nd rfl (.inl rfl) (pe_op op_fdiv (pv 0) pe_int))
      (pss_cons (ps_if (pt_cmpR op_lt (pe_op op_mod (pv 0) pe_int) pe_int (nomark _)) (pss_one (ps_ret (pe_tup (pa_cons pe_str (pa_cons (pe_ix ix_list (pv 1) (pe_op op_mod (pv 3) (pe_callB call_len_seq (by rfl) T.ml PySem.boot_len (pa_cons (pv 1) pa_nil))) (fun _ _ => rfl)) pa_nil))))) pss_nil)
      (pss_cons (ps_if (pt_cmpR op_eq (pe_op op_mod (pv 0) pe_int) pe_int (nomark _)) (pss_one (ps_ret (pe_tup (pa_cons pe_str pa_nil)))) pss_nil)
      (pss_one (ps_ret (pe_tup (pa_cons pe_str (pa_cons (pe_call GN hr (by rfl) T.gN T.FN.kp T.bN .nil pass0 (pa_cons (pe_call GX hr1 (by rfl) T.gX T.FX.kp T.bX .nil pass0 (pa_cons (pv 3) (pa_cons pe_int pa_nil))) pa_nil))
        (pa_cons (pe_call GSm hr2 (by rfl) T.gSm T.FSm.kp T.bSm .nil pass0 (pa_cons (pv 3) (pa_cons (pv 2) pa_nil))) pa_nil)))))))), ?_⟩
    have h6 : 0 ≤ c / 6 := by omega
    refine ⟨_, rfl, _, _, rfl, rfl, ⟨by decide, by decide⟩, _, rfl, _, _, rfl, rfl, (by show (0 : Int) < 6; decide), _, _, rfl, rfl, _, rfl, ite2 (fun _ => ?_) (fun _ => ?_)⟩
    · obtain ⟨z, hz, ez⟩ := mod_at hw.n (c / 6)
      have hl : (0 : Int) < ((ws.map V.str).length : Int) := by
        rw [List.length_map]
        have := List.length_pos_iff.mpr hw.n
        omega
      refine ⟨_, rfl, _, rfl, _, rfl, a, _, rfl, .inl (SqL.of hw.h), _, _, rfl, rfl, hl, a, _, _, _, rfl, rfl, SqL.of hw.h, ez, (by show 2 ≤ sizeLine; decide), fun p np => ?_⟩
      exact q _ p (.input z) (same_new np) np upd_same (.input (Nat.le_refl _) hz (hw.z z hz))
    · refine ⟨_, rfl, _, _, rfl, rfl, (by show (0 : Int) < 6; decide), rfl, _, rfl, ite2 (fun _ => ?_) (fun _ => ?_)⟩
      · exact ⟨(by show 1 ≤ sizeLine; decide), fun p np => q _ p .nought (same_new np) np upd_same (.nought (Nat.le_refl _))⟩
      · refine ⟨_, rfl, c / 6, 9, rfl, fun m m0 m1 => ⟨m, rfl, m0, fun H1 p1 x y s1 np1 hp1 red b1 b2 => ?_⟩⟩
        refine ⟨_, rfl, _, rfl, c / 6, b, bs, rfl, h6, s1 _ _ hb.h, hb.n, hb.l, fun H2 p2 mm s2 np2 hp2 hc hl2 hm => ?_⟩
        refine ⟨(by show 3 ≤ sizeLine; decide), fun p np => ?_⟩
        have s3 := same_new (o := .tup [.str "is", .ref p1, .ref p2]) np
        exact q _ p (.is x y mm) ((s1.trans s2).trans s3) ((s1.trans s2).free np) ⟨p1, p2, upd_same, s3 _ _ (s2 _ _ hp1), hp2.same s3⟩ (.is (Nat.le_refl _) red b1 b2 hc (by omega) hb.z hm)
/-! ### _law_tree -/
theorem scTree : FnScope ["_law_cell", "_law_depth", "_law_names", "_law_powers", "_law_way", "_law_one", "_law_two", "_law_three"] ["_law_cell", "_law_depth", "_law_names", "_law_powers"] (defScope sTree) := ⟨rfl, rfl, rfl, by decide +kernel, rfl, by decide +kernel, by decide +kernel⟩
/-- of n more levels -/
def spTree : Nat → Sp
  | 0 => spNo
  | n + 1 => fun vs H Q _ => ∃ (c d pw : Int) (t a b : Addr) (ws bs : List Str), vs = [.int c, .int d, .ref t, .int pw] ∧ 0 ≤ c ∧ d ≤ n ∧ H t = some (.tup [.ref a, .ref b]) ∧ NmsAt H a ws ∧ NmsAt H b bs ∧
    ∀ (H' : Hp) (p : Addr) (r : Rk), Same H H' → H p = none → TrAt H' r p → RkIn ws bs (1 + d.toNat) pw.toNat r → Q (.ref p) H'
theorem ok_tree {f fL : Addr} {fd fdL : FuncData} (F : Fun K "_law_tree" "_law_tree" sTree f fd) (bT : Binds K fd ["_law_cell", "_law_depth", "_law_names", "_law_powers"] []) (gT : mg "_law_tree" = some (.ref f))
    (FL : Fun K "_law_leaf" "_law_leaf" sLeaf fL fdL) (bL : Binds K fdL ["_law_cell", "_law_words_here", "_law_bases"] []) (gL : mg "_law_leaf" = some (.ref fL)) (T : LfT K mg) :
    ∀ n : Nat, FnOk P w K mg base CX0 (n + 4) f fd ["_law_cell", "_law_depth", "_law_names", "_law_powers"] (spTree n)
  | 0 => fn_no
  | n + 1 => by
    have GX : FnOk P w K mg base CX0 1 T.fX T.dX ["_law_cell", "_law_k"] spMix := ok_mix T.FX
    have GL : FnOk P w K mg base CX0 4 fL fdL ["_law_cell", "_law_words_here", "_law_bases"] spLeaf := ok_leaf FL T
    have GT := ok_tree F bT gT FL bL gL T n
    refine F.ok scTree (fun vs H Q E h => ?_) (fun cdv A outer s H vs Q E hr h => ?_)
    · obtain ⟨c, d, pw, t, a, b, ws, bs, rfl, _⟩ := h
      rfl
    · obtain ⟨c, d, pw, t, a, b, ws, bs, rfl, c0, hd, ht, hw, hb, q⟩ := h
      have nd := scTree.nd
      have hr1 : Room 1 _ := hr.mono (by omega)
      have hr4 : Room 4 _ := hr.mono (by omega)
      refine ⟨_, pss_cons (ps_set (i := 4) nd rfl (.inl rfl) (pe_op op_mod (pv 0) pe_int))
        (pss_cons (ps_if (pw_or (pt_cmpR op_lt (pv 1) pe_int (nomark _)) (pw_or1 (pt_cmpR op_lt (pv 4) pe_int (nomark _)))).pt
          (pss_one (ps_ret (pe_call GL hr4 (by rfl) gL FL.kp bL .nil pass0 (pa_cons (pe_op op_fdiv (pv 0) pe_int) (pa_cons (pe_ix ix_tup (pv 2) pe_int (fun _ _ => rfl)) (pa_cons (pe_ix ix_tup (pv 2) pe_int (fun _ _ => rfl)) pa_nil)))))) pss_nil)
        (pss_cons (ps_set (i := 5) nd rfl (.inl rfl) (pe_call GT hr (by rfl) gT F.kp bT .nil pass0 (pa_cons (pe_call GX hr1 (by rfl) T.gX T.FX.kp T.bX .nil pass0 (pa_cons (pv 0) (pa_cons pe_int pa_nil)))
          (pa_cons (pe_op op_sub (pv 1) pe_int) (pa_cons (pv 2) (pa_cons (pe_op op_sub (pv 3) (pe_op op_fdiv (pv 4) pe_int)) pa_nil))))))
        (pss_cons (ps_if (pw_and (pt_cmpR op_eq (pv 4) pe_int (nomark _)) (pw_and1 (pt_cmpR op_gt (pv 3) pe_int (nomark _)))).pt
          (pss_one (ps_ret (pe_tup (pa_cons pe_str (pa_cons (pv 5) (pa_cons (pe_op op_sub (pe_op op_mod (pe_op op_fdiv (pv 0) pe_int) pe_int) pe_int) pa_nil)))))) pss_nil)
        (pss_cons (ps_set (i := 6) nd rfl (.inl rfl) (pe_call GT hr (by rfl) gT F.kp bT .nil pass0 (pa_cons (pe_call GX hr1 (by rfl) T.gX T.FX.kp T.bX .nil pass0 (pa_cons (pv 0) (pa_cons pe_int pa_nil)))
          (pa_cons (pe_op op_sub (pv 1) pe_int) (pa_cons (pv 2) (pa_cons (pv 3) pa_nil))))))
        (pss_cons (ps_if (pt_cmpR op_eq (pv 4) pe_int (nomark _))
          (pss_cons (ps_set (i := 7) nd rfl (.inl rfl) (pe_call GT hr (by rfl) gT F.kp bT .nil pass0 (pa_cons (pe_call GX hr1 (by rfl) T.gX T.FX.kp T.bX .nil pass0 (pa_cons (pv 0) (pa_cons pe_int pa_nil)))
            (pa_cons (pe_op op_sub (pv 1) pe_int) (pa_cons (pv 2) (pa_cons (pv 3) pa_nil))))))
          (pss_one (ps_ret (pe_tup (pa_cons pe_str (pa_cons (pv 5) (pa_cons (pv 6) (pa_cons (pv 7) (pa_cons (pe_call GT hr (by rfl) gT F.kp bT .nil pass0 (pa_cons (pe_call GX hr1 (by rfl) T.gX T.FX.kp T.bX .nil pass0 (pa_cons (pv 0) (pa_cons pe_int pa_nil)))
            (pa_cons (pe_op op_sub (pv 1) pe_int) (pa_cons (pv 2) (pa_cons (pv 3) pa_nil))))) pa_nil))))))))) pss_nil)
        (pss_one (ps_ret (pe_tup (pa_cons (pe_ix ix_list (pe_lst (pa_cons pe_str (pa_cons pe_str (pa_cons pe_str (pa_cons pe_str pa_nil))))) (pe_op op_mod (pe_op op_fdiv (pv 0) pe_int) pe_int) (fun _ _ => rfl)) (pa_cons (pv 5) (pa_cons (pv 6) pa_nil))))))))))), ?_⟩
      have t0 : atI [V.ref a, V.ref b] 0 = some (.ref a) := rfl
      have t1 : atI [V.ref a, V.ref b] 1 = some (.ref b) := rfl
      refine ⟨_, rfl, _, _, rfl, rfl, (by show (0 : Int) < 9; decide), ?_⟩
      have fin : 0 ≤ c / 9 → spLeaf [.int (c / 9), .ref a, .ref b] H Q E := fun h9 => ⟨c / 9, a, b, ws, bs, rfl, h9, hw, hb, fun H' p r s np h i => q H' p r s np h (i.mono (by omega) (by omega))⟩
      have leafy : ∀ m : Prop, m → m := fun _ h => h
      refine ⟨_, rfl, _, _, rfl, rfl, _, rfl, ite2 (fun e => ?_) (fun e => ?_)⟩
      · refine iteT ?_
        refine ⟨_, rfl, _, _, rfl, rfl, ⟨by decide, by decide⟩, _, rfl, t, _, 0, _, rfl, rfl, SqT.of ht, t0, _, rfl, t, _, 1, _, rfl, rfl, SqT.of ht, t1, ?_⟩
        exact fin (by omega)
      refine ⟨_, rfl, _, _, rfl, rfl, _, rfl, ite2 (fun e2 => ?_) (fun e2 => ?_)⟩
      · refine ⟨_, rfl, _, _, rfl, rfl, ⟨by decide, by decide⟩, _, rfl, t, _, 0, _, rfl, rfl, SqT.of ht, t0, _, rfl, t, _, 1, _, rfl, rfl, SqT.of ht, t1, ?_⟩
        exact fin (by omega)
      have d1 : 1 ≤ d := by
        have : ¬ d < 1 := fun z => e (decide_eq_true z)
        omega
      obtain ⟨k, rfl⟩ : ∃ k, n = k + 1 := ⟨n - 1, by omega⟩
      -- one
      refine ⟨_, rfl, c, 1, rfl, fun m1 m10 m11 => ?_⟩
      refine ⟨_, rfl, _, _, rfl, rfl, _, rfl, _, rfl, _, rfl, _, _, rfl, rfl, ⟨by decide, by decide⟩, _, _, rfl, rfl, ?_⟩
      refine ⟨m1, d - 1, pw - c % 9 / 8, t, a, b, ws, bs, rfl, m10, by omega, ht, hw, hb, fun H1 p1 r1 s1 np1 h1 i1 => ?_⟩
      refine ⟨_, rfl, rfl, _, rfl, ?_⟩
      by_cases e8 : c % 9 = 8
      · rw [decide_eq_true (congrArg V.int e8)]
        refine iteT ?_
        refine ⟨_, rfl, _, _, rfl, rfl, _, rfl, ite2 (fun e3 => ?_) (fun e3 => ?_)⟩
        · have pw0 : 0 < pw := of_decide_eq_true e3
          refine ⟨_, rfl, _, rfl, _, _, rfl, rfl, ⟨by decide, by decide⟩, _, _, rfl, rfl, (by show (0 : Int) < 9; decide), _, _, rfl, rfl, (by show 3 ≤ sizeLine; decide), fun p np => ?_⟩
          have s2 := same_new (o := .tup [.str "power", .ref p1, .int (c / 9 % 9 - 4)]) np
          exact q _ p (.power r1 (c / 9 % 9 - 4)) (s1.trans s2) (s1.free np) ⟨p1, upd_same, h1.same s2⟩ ((i1.power (by omega) (by omega)).mono (by omega) (by omega))
        · have pw0 : pw ≤ 0 := by
            have : ¬ 0 < pw := fun z => e3 (decide_eq_true z)
            omega
          have i1' : RkIn ws bs (1 + (d - 1).toNat) pw.toNat r1 := i1.mono (Nat.le_refl _) (by omega)
          refine ⟨_, rfl, c, 2, rfl, fun m2 m20 m21 => ?_⟩
          refine ⟨_, rfl, _, _, rfl, rfl, _, rfl, _, rfl, m2, d - 1, pw, t, a, b, ws, bs, rfl, m20, by omega, s1 _ _ ht, hw.same s1, hb.same s1, fun H2 p2 r2 s2 np2 h2 i2 => ?_⟩
          refine ⟨_, rfl, rfl, _, rfl, ?_⟩
          rw [show decide (V.int (c % 9) = V.int 7) = false from decide_eq_false fun z => by have := V.int.inj z; omega]
          refine iteF ?_
          obtain ⟨o, ho⟩ := four_op (i := c / 9 % 4) (by omega) (by omega)
          refine ⟨(by show 4 ≤ sizeLine; decide), fun l nl => ?_⟩
          refine ⟨_, rfl, _, _, rfl, rfl, ⟨by decide, by decide⟩, _, _, rfl, rfl, (by show (0 : Int) < 4; decide), l, _, _, _, rfl, rfl, SqL.of upd_same, ho, _, rfl, _, rfl, (by show 3 ≤ sizeLine; decide), fun p np => ?_⟩
          have s3 := (same_new (o := .lst [V.str "plus", V.str "minus", V.str "times", V.str "over"]) nl).trans (same_new (o := .tup [.str o.name, .ref p1, .ref p2]) np)
          exact q _ p (.bin o r1 r2) ((s1.trans s2).trans s3) ((s1.trans (s2.trans (same_new nl))).free np) ⟨p1, p2, upd_same, h1.same (s2.trans s3), h2.same s3⟩ ((i1'.bin o i2).mono (by omega) (by omega))
      · rw [decide_eq_false (fun z => e8 (V.int.inj z))]
        refine iteF ?_
        have i1' : RkIn ws bs (1 + (d - 1).toNat) pw.toNat r1 := i1.mono (Nat.le_refl _) (by omega)
        refine ⟨_, rfl, c, 2, rfl, fun m2 m20 m21 => ?_⟩
        refine ⟨_, rfl, _, _, rfl, rfl, _, rfl, _, rfl, m2, d - 1, pw, t, a, b, ws, bs, rfl, m20, by omega, s1 _ _ ht, hw.same s1, hb.same s1, fun H2 p2 r2 s2 np2 h2 i2 => ?_⟩
        have s12 := s1.trans s2
        refine ⟨_, rfl, rfl, _, rfl, ite2 (fun e7 => ?_) (fun e7 => ?_)⟩
        · refine ⟨_, rfl, c, 3, rfl, fun m3 m30 m31 => ?_⟩
          refine ⟨_, rfl, _, _, rfl, rfl, _, rfl, _, rfl, m3, d - 2, pw, t, a, b, ws, bs, rfl, m30, by omega, s12 _ _ ht, hw.same s12, hb.same s12, fun H3 p3 r3 s3 np3 h3 i3 => ?_⟩
          have s13 := s12.trans s3
          refine ⟨_, rfl, _, rfl, _, rfl, _, rfl, c, 4, rfl, fun m4 m40 m41 => ?_⟩
          refine ⟨_, rfl, _, _, rfl, rfl, _, rfl, _, rfl, m4, d - 2, pw, t, a, b, ws, bs, rfl, m40, by omega, s13 _ _ ht, hw.same s13, hb.same s13, fun H4 p4 r4 s4 np4 h4 i4 => ?_⟩
          refine ⟨(by show 5 ≤ sizeLine; decide), fun p np => ?_⟩
          have s5 := same_new (o := .tup [.str "less", .ref p1, .ref p2, .ref p3, .ref p4]) np
          exact q _ p (.less r1 r2 r3 r4) ((s13.trans s4).trans s5) ((s13.trans s4).free np) ⟨p1, p2, p3, p4, upd_same, h1.same ((s2.trans s3).trans (s4.trans s5)), h2.same (s3.trans (s4.trans s5)), h3.same (s4.trans s5), h4.same s5⟩
            ((RkIn.less i1' i2 (i3.mono (d' := 1 + (d - 1).toNat) (by omega) (Nat.le_refl _)) (i4.mono (by omega) (Nat.le_refl _))).mono (by omega) (by omega))
        · obtain ⟨o, ho⟩ := four_op (i := c / 9 % 4) (by omega) (by omega)
          refine ⟨(by show 4 ≤ sizeLine; decide), fun l nl => ?_⟩
          refine ⟨_, rfl, _, _, rfl, rfl, ⟨by decide, by decide⟩, _, _, rfl, rfl, (by show (0 : Int) < 4; decide), l, _, _, _, rfl, rfl, SqL.of upd_same, ho, _, rfl, _, rfl, (by show 3 ≤ sizeLine; decide), fun p np => ?_⟩
          have s3 := (same_new (o := .lst [V.str "plus", V.str "minus", V.str "times", V.str "over"]) nl).trans (same_new (o := .tup [.str o.name, .ref p1, .ref p2]) np)
          exact q _ p (.bin o r1 r2) (s12.trans s3) ((s12.trans (same_new nl)).free np) ⟨p1, p2, upd_same, h1.same (s2.trans s3), h2.same s3⟩ ((i1'.bin o i2).mono (by omega) (by omega))
end
end MK


set_option Elab.async false
set_option linter.all false
set_option maxRecDepth 100000
set_option maxHeartbeats 4000000
namespace MK
open PySem PySem.Spec PyProof.Rows L2
section
variable {P : Program} {w : World} {K : PySem.W.Frag} {mg : Str → Option Value} {base : Heap}
/-! ### _law_parts -/
theorem scParts : FnScope ["_law_tree_here"] ["_law_tree_here"] (defScope sParts) := ⟨rfl, rfl, rfl, by decide +kernel, rfl, by decide +kernel, by decide +kernel⟩
def spParts : Sp := fun vs H Q _ => ∃ (t : Addr) (r : Rk), vs = [.ref t] ∧ TrAt H r t ∧ ∀ (H' : Hp) (p : Addr) (ps : List Addr), Same H H' → H p = none → H' p = some (.lst (ps.map V.ref)) → Paired (fun q x => TrAt H' x q) ps r.parts → Q (.ref p) H'
theorem ok_parts {f : Addr} {fd : FuncData} (F : Fun K "_law_parts" "_law_parts" sParts f fd) (mL : mg "list" = none) : FnOk P w K mg base CX0 1 f fd ["_law_tree_here"] spParts := by
  refine F.ok scParts (fun vs H Q E h => ?_) (fun cdv A outer s H vs Q E hr h => ?_)
  · obtain ⟨t, r, rfl, _⟩ := h
    rfl
  · obtain ⟨t, r, rfl, ht, q⟩ := h
    refine ⟨_, pss_cons (ps_if (pw_or (pt_cmpR op_eq (pe_ix ix_tup (pv 0) pe_int (fun _ _ => rfl)) pe_str (nomark _)) (pw_or1 (pt_cmpR op_eq (pe_ix ix_tup (pv 0) pe_int (fun _ _ => rfl)) pe_str (nomark _)))).pt (pss_one (ps_ret (pe_lst pa_nil))) pss_nil)
      (pss_cons (ps_if (pt_cmpR op_eq (pe_ix ix_tup (pv 0) pe_int (fun _ _ => rfl)) pe_str (nomark _)) (pss_one (ps_ret (pe_lst (pa_cons (pe_ix ix_tup (pv 0) pe_int (fun _ _ => rfl)) pa_nil)))) pss_nil)
      (pss_one (ps_ret (pe_callTy call_list_of (by rfl) mL PyProof.Rows.boot_list (pa_cons (pe_slice sl_tup (pv 0) (po_some pe_int) po_none) pa_nil))))), ?_⟩
    have mty : ∀ ps : List Addr, (∀ p, H p = none → Q (.ref p) (upd H p (.lst (ps.map V.ref)))) → ∀ p, H p = none → Q (.ref p) (upd H p (.lst (ps.map V.ref))) := fun _ h => h
    cases r with
    | is x y m =>
      obtain ⟨p, b, h1, h2, h3⟩ := ht
      refine ⟨_, rfl, t, _, 0, _, rfl, rfl, SqT.of h1, rfl, rfl, _, rfl, iteT (iteT ?_)⟩
      exact ⟨Nat.zero_le _, fun l nl => q _ l [] (same_new nl) nl upd_same .nil⟩
    | input z =>
      have h1 : H t = some (.tup [.str "input", .str z]) := ht
      refine ⟨_, rfl, t, _, 0, _, rfl, rfl, SqT.of h1, rfl, rfl, _, rfl, iteF ?_⟩
      refine ⟨_, rfl, t, _, 0, _, rfl, rfl, SqT.of h1, rfl, rfl, _, rfl, iteT ?_⟩
      exact ⟨Nat.zero_le _, fun l nl => q _ l [] (same_new nl) nl upd_same .nil⟩
    | nought =>
      have h1 : H t = some (.tup [.str "nought"]) := ht
      refine ⟨_, rfl, t, _, 0, _, rfl, rfl, SqT.of h1, rfl, rfl, _, rfl, iteF ?_⟩
      refine ⟨_, rfl, t, _, 0, _, rfl, rfl, SqT.of h1, rfl, rfl, _, rfl, iteF ?_⟩
      refine ⟨_, rfl, t, _, 0, _, rfl, rfl, SqT.of h1, rfl, rfl, _, rfl, iteF ?_⟩
      refine ⟨_, rfl, 1, rfl, t, _, rfl, SqT.of h1, (by decide), fun e ne => ?_⟩
      refine ⟨e, _, rfl, .inr (SqT.of upd_same), fun l nl => ?_⟩
      exact q _ l [] ((same_new ne).trans (same_new nl)) ((same_new ne).free nl) upd_same .nil
    | power a n =>
      obtain ⟨p, h1, h2⟩ := ht
      refine ⟨_, rfl, t, _, 0, _, rfl, rfl, SqT.of h1, rfl, rfl, _, rfl, iteF ?_⟩
      refine ⟨_, rfl, t, _, 0, _, rfl, rfl, SqT.of h1, rfl, rfl, _, rfl, iteF ?_⟩
      refine ⟨_, rfl, t, _, 0, _, rfl, rfl, SqT.of h1, rfl, rfl, _, rfl, iteT ?_⟩
      refine ⟨_, rfl, t, _, 1, _, rfl, rfl, SqT.of h1, rfl, (by show 1 ≤ sizeLine; decide), fun l nl => ?_⟩
      exact q _ l [p] (same_new nl) nl upd_same (.cons (h2.same (same_new nl)) .nil)
    | bin o a b =>
      obtain ⟨p1, p2, h1, h2, h3⟩ := ht
      refine ⟨_, rfl, t, _, 0, _, rfl, rfl, SqT.of h1, rfl, (by cases o <;> rfl), _, rfl, ?_⟩
      rw [show decide (V.str o.name = V.str "is") = false by cases o <;> decide +kernel]
      refine iteF ?_
      refine ⟨_, rfl, t, _, 0, _, rfl, rfl, SqT.of h1, rfl, (by cases o <;> rfl), _, rfl, ?_⟩
      rw [show decide (V.str o.name = V.str "input") = false by cases o <;> decide +kernel]
      refine iteF ?_
      refine ⟨_, rfl, t, _, 0, _, rfl, rfl, SqT.of h1, rfl, (by cases o <;> rfl), _, rfl, ?_⟩
      rw [show decide (V.str o.name = V.str "power") = false by cases o <;> decide +kernel]
      refine iteF ?_
      refine ⟨_, rfl, 1, rfl, t, _, rfl, SqT.of h1, (by show ¬ (HT.sIx 3 0 (some 1) = 0 ∧ HT.sIx 3 3 none = 3); decide), fun e ne => ?_⟩
      refine ⟨e, _, rfl, .inr (SqT.of upd_same), fun l nl => ?_⟩
      have s1 := (same_new (o := .tup [V.ref p1, V.ref p2]) ne).trans (same_new (o := .lst [V.ref p1, V.ref p2]) nl)
      exact q _ l [p1, p2] s1 ((same_new ne).free nl) upd_same (.cons (h2.same s1) (.cons (h3.same s1) .nil))
    | less a b c d =>
      obtain ⟨p1, p2, p3, p4, h1, h2, h3, h4, h5⟩ := ht
      refine ⟨_, rfl, t, _, 0, _, rfl, rfl, SqT.of h1, rfl, rfl, _, rfl, iteF ?_⟩
      refine ⟨_, rfl, t, _, 0, _, rfl, rfl, SqT.of h1, rfl, rfl, _, rfl, iteF ?_⟩
      refine ⟨_, rfl, t, _, 0, _, rfl, rfl, SqT.of h1, rfl, rfl, _, rfl, iteF ?_⟩
      refine ⟨_, rfl, 1, rfl, t, _, rfl, SqT.of h1, (by show ¬ (HT.sIx 5 0 (some 1) = 0 ∧ HT.sIx 5 5 none = 5); decide), fun e ne => ?_⟩
      refine ⟨e, _, rfl, .inr (SqT.of upd_same), fun l nl => ?_⟩
      have s1 := (same_new (o := .tup [V.ref p1, V.ref p2, V.ref p3, V.ref p4]) ne).trans (same_new (o := .lst [V.ref p1, V.ref p2, V.ref p3, V.ref p4]) nl)
      exact q _ l [p1, p2, p3, p4] s1 ((same_new ne).free nl) upd_same (.cons (h2.same s1) (.cons (h3.same s1) (.cons (h4.same s1) (.cons (h5.same s1) .nil))))
end
end MK


set_option Elab.async false
set_option linter.all false
set_option maxRecDepth 100000
set_option maxHeartbeats 4000000
namespace MK
open PySem PySem.Spec PyProof.Rows L2
/-- what the class of an error of the program's own is known by -/
structure ErrAt (K : PySem.W.Frag) (mg : Str → Option Value) (x : Str) (B : Addr) : Prop where
  x1 : PySem.W.excIn K B [.type "ValueError", .type "Exception", .type "BaseException", .type "object"] "ValueError.__new__" = true
  g : mg x = some (.ref B)
  k : PySem.W.keepIn K (.ref B) = true
  b : PySem.W.subIn K (.ref B) (.type "BaseException") = some true
  t : PySem.W.typeIn K (.ref B) = some (.type "type")
theorem at2_0 (x y : V) : atI [x, y] 0 = some x := rfl
theorem at2_1 (x y : V) : atI [x, y] 1 = some y := rfl
/-- two fractions handed in, what comes of them -/
def spTwoF (B : Addr) (o : Op4) : Sp := fun vs H Q E => ∃ (a b : Addr) (u v : Int × Int) (i j : Nat), vs = [.ref a, .ref b] ∧ FracAt H a u.1 u.2 ∧ FracAt H b v.1 v.2 ∧ FrSm i u ∧ FrSm j v ∧ i + j ≤ 7000 ∧ (valOp o u v = none → E (.ref B) none H) ∧
  ∀ x, valOp o u v = some x → ∀ (H' : Hp) (p : Addr), Same H H' → FracAt H' p x.1 x.2 → Q (.ref p) H'
theorem gc_sm {j : Nat} {x y : Int} (n : y ≠ 0) (h : Sm j y) : Sm j (gc x y) := h.le (by
  have : Nat.gcd x.natAbs y.natAbs ≤ y.natAbs := Nat.gcd_le_right _ (by omega)
  show ((Nat.gcd x.natAbs y.natAbs : Nat) : Int).natAbs ≤ _
  omega)
theorem gc_div {j : Nat} {x y z : Int} (n : y ≠ 0) (h : Sm j y) (l : j ≤ 8000) : CDivWN z (gc x y) := divN_any ((gc_sm n h).div (Int.ne_of_gt (gc_pos n)) l)
theorem fd_sm {j : Nat} {x y : Int} (hx : Sm j x) (n : y ≠ 0) (d : ∀ g, g = gc x y → g ∣ x) : Sm j (x.fdiv (gc x y)) := hx.le (fdiv_le (gc_pos n) (d _ rfl))
end MK


set_option Elab.async false
set_option linter.all false
set_option maxRecDepth 100000
set_option maxHeartbeats 4000000
namespace MK
open PySem PySem.Spec PyProof.Rows L2
section
variable {P : Program} {w : World} {K : PySem.W.Frag} {mg : Str → Option Value} {base : Heap} {B : Addr}
theorem scProd : FnScope ["one", "other", "falling", "rising"] ["one", "other"] (defScope sProd) := ⟨rfl, rfl, rfl, by decide +kernel, rfl, by decide +kernel, by decide +kernel⟩
theorem norm_pro {u v : Int × Int} (hu : Red u.1 u.2) (hv : Red v.1 v.2) : valOp .times u v = some (proA u.1 u.2 v.1 v.2, proB u.1 u.2 v.1 v.2) := by
  show some (norm (u.1 * v.1) (u.2 * v.2)) = _
  obtain ⟨h1, h2⟩ := pro_ok hu hv
  rw [norm_is (Int.ne_of_gt (Int.mul_pos hu.1 hv.1)) h1 h2]
theorem ok_prod {f : Addr} {fd : FuncData} (F : Fun K "product" "product" sProd f fd) (mG : mg "gcd" = some (.builtin "math.gcd")) : FnOk P w K mg base CX0 1 f fd ["one", "other"] (spTwoF B .times) := by
  refine F.ok scProd (fun vs H Q E h => ?_) (fun cdv A outer s H vs Q E hr h => ?_)
  · obtain ⟨a, b, u, v, i, j, rfl, _⟩ := h
    rfl
  · obtain ⟨a, b, ⟨x, y⟩, ⟨z, t⟩, i, j, rfl, ha, hb, ⟨⟨y0, g1⟩, sx, sy⟩, ⟨⟨t0, g2⟩, sz, st⟩, hij, _, q⟩ := h
    dsimp only at ha hb y0 g1 sx sy t0 g2 sz st
    have nd := scProd.nd
    have tn : t ≠ 0 := Int.ne_of_gt t0
    have yn : y ≠ 0 := Int.ne_of_gt y0
    refine ⟨_, pss_cons (ps_set (i := 2) nd rfl (.inl rfl) (pe_callBfun cr_gcd (by rfl) mG (pa_cons (pe_ix ix_tup (pv 0) pe_int (fun _ _ => rfl)) (pa_cons (pe_ix ix_tup (pv 1) pe_int (fun _ _ => rfl)) pa_nil))))
      (pss_cons (ps_set (i := 3) nd rfl (.inl rfl) (pe_callBfun cr_gcd (by rfl) mG (pa_cons (pe_ix ix_tup (pv 1) pe_int (fun _ _ => rfl)) (pa_cons (pe_ix ix_tup (pv 0) pe_int (fun _ _ => rfl)) pa_nil))))
      (pss_one (ps_ret (pe_tup (pa_cons (pe_op op_mulW (pe_op op_fdivWN (pe_ix ix_tup (pv 0) pe_int (fun _ _ => rfl)) (pv 2)) (pe_op op_fdivWN (pe_ix ix_tup (pv 1) pe_int (fun _ _ => rfl)) (pv 3))) (pa_cons (pe_op op_mulW (pe_op op_fdivWN (pe_ix ix_tup (pv 0) pe_int (fun _ _ => rfl)) (pv 3)) (pe_op op_fdivWN (pe_ix ix_tup (pv 1) pe_int (fun _ _ => rfl)) (pv 2))) pa_nil)))))), ?_⟩
    have s1 : ∀ z', CDivWN z' (gc x t) := fun _ => gc_div tn st (by omega)
    have s2 : ∀ z', CDivWN z' (gc z y) := fun _ => gc_div yn sy (by omega)
    have b1 : Sm i (x.fdiv (gc x t)) := sx.le (fdiv_le (gc_pos tn) (gc_dl _ _))
    have b2 : Sm j (z.fdiv (gc z y)) := sz.le (fdiv_le (gc_pos yn) (gc_dl _ _))
    have b3 : Sm i (y.fdiv (gc z y)) := sy.le (fdiv_le (gc_pos yn) (gc_dr _ _))
    have b4 : Sm j (t.fdiv (gc x t)) := st.le (fdiv_le (gc_pos tn) (gc_dr _ _))
    refine ⟨_, rfl, a, _, 0, _, rfl, rfl, SqT.of ha, at2_0 _ _, _, rfl, b, _, 1, _, rfl, rfl, SqT.of hb, at2_1 _ _, _, _, rfl, ?_⟩
    refine ⟨_, rfl, b, _, 0, _, rfl, rfl, SqT.of hb, at2_0 _ _, _, rfl, a, _, 1, _, rfl, rfl, SqT.of ha, at2_1 _ _, _, _, rfl, ?_⟩
    refine ⟨_, rfl, a, _, 0, _, rfl, rfl, SqT.of ha, at2_0 _ _, _, rfl, _, _, rfl, rfl, s1 _, _, rfl, b, _, 0, _, rfl, rfl, SqT.of hb, at2_0 _ _, _, rfl, _, _, rfl, rfl, s2 _, _, _, rfl, rfl, b1.mulW b2 (by omega), ?_⟩
    refine ⟨_, rfl, a, _, 1, _, rfl, rfl, SqT.of ha, at2_1 _ _, _, rfl, _, _, rfl, rfl, s2 _, _, rfl, b, _, 1, _, rfl, rfl, SqT.of hb, at2_1 _ _, _, rfl, _, _, rfl, rfl, s1 _, _, _, rfl, rfl, b3.mulW b4 (by omega), (by show 2 ≤ sizeLine; decide), fun p np => ?_⟩
    exact q _ (norm_pro (u := (x, y)) (v := (z, t)) ⟨y0, g1⟩ ⟨t0, g2⟩) _ p (same_new np) upd_same
end
end MK


set_option Elab.async false
set_option linter.all false
set_option maxRecDepth 100000
set_option maxHeartbeats 4000000
namespace MK
open PySem PySem.Spec PyProof.Rows L2
section
variable {P : Program} {w : World} {K : PySem.W.Frag} {mg : Str → Option Value} {base : Heap} {B : Addr}
theorem scTrn : FnScope ["one", "above", "below"] ["one"] (defScope sTrn) := ⟨rfl, rfl, rfl, by decide +kernel, rfl, by decide +kernel, by decide +kernel⟩
def spTrn (B : Addr) : Sp := fun vs H Q E => ∃ (a : Addr) (x y : Int), vs = [.ref a] ∧ FracAt H a x y ∧ (x = 0 → E (.ref B) none H) ∧ (x ≠ 0 → ∀ p, H p = none → Q (.ref p) (upd H p (.tup [.int (trnA x y), .int (trnB x y)])))
theorem ok_trn {f : Addr} {fd : FuncData} (F : Fun K "_turned" "_turned" sTrn f fd) (eB : ErrAt K mg "ByNought" B) : FnOk P w K mg base (L2N.CX P w) 1 f fd ["one"] (spTrn B) := by
  refine F.okN scTrn (fun vs H Q E h => ?_) (fun cdv A outer s H vs Q E hr h => ?_)
  · obtain ⟨a, x, y, rfl, _⟩ := h
    rfl
  · obtain ⟨a, x, y, rfl, ha, qE, qQ⟩ := h
    have nd := scTrn.nd
    refine ⟨_, pss_cons (ps_asg (pv 0) (pg_tup rfl (pgs_cons (pg_name (i := 1) nd rfl (.inl rfl)) (pgs_cons (pg_name (i := 2) nd rfl (.inl rfl)) pgs_nil))))
      (pss_cons (ps_if (pt_cmpR op_eq (pv 1) pe_int (nomark _)) (pss_one (L2N.ps_raise rfl (L2N.takes_of rfl rfl rfl rfl) (L2N.pmk_own PySem.F.excBase_ValueError eB.x1 eB.g eB.k (raises_own eB.b eB.t) rfl))) pss_nil)
      (pss_cons (ps_if (pt_cmpR op_lt (pv 1) pe_int (nomark _)) (pss_one (ps_ret (pe_tup (pa_cons (pe_un un_neg (pv 2)) (pa_cons (pe_un un_neg (pv 1)) pa_nil))))) pss_nil)
      (pss_one (ps_ret (pe_tup (pa_cons (pv 2) (pa_cons (pv 1) pa_nil))))))), ?_⟩
    refine ⟨_, rfl, a, _, rfl, SqT.of ha, rfl, _, _, rfl, _, _, rfl, rfl, ?_⟩
    refine ⟨_, rfl, rfl, _, rfl, ite2 (fun e => ?_) (fun e => ?_)⟩
    · exact qE (by simpa using e)
    · have x0 : x ≠ 0 := fun z => e (by rw [z]; rfl)
      have q := qQ x0
      unfold trnA trnB at q
      refine ⟨_, rfl, _, _, rfl, rfl, _, rfl, ite2 (fun e => ?_) (fun e => ?_)⟩
      · rw [if_pos (of_decide_eq_true e), if_pos (of_decide_eq_true e)] at q
        exact ⟨_, rfl, _, rfl, _, rfl, _, rfl, (by show 2 ≤ sizeLine; decide), fun p np => q p np⟩
      · rw [if_neg fun z => e (decide_eq_true z), if_neg fun z => e (decide_eq_true z)] at q
        exact ⟨_, rfl, _, rfl, (by show 2 ≤ sizeLine; decide), fun p np => q p np⟩
end
end MK


set_option Elab.async false
set_option linter.all false
set_option maxRecDepth 100000
set_option maxHeartbeats 4000000
namespace MK
open PySem PySem.Spec PyProof.Rows L2
theorem half_step (n k : Nat) : n / 2 ^ (k + 1) = n / 2 ^ k / 2 := by rw [Nat.pow_succ, Nat.div_div_eq_div_mul]
theorem pow_odd {x : Int} {m : Nat} (h : m % 2 = 1) : x ^ (m / 2) * x ^ (m / 2) * x = x ^ m := by
  rw [← Int.pow_add, ← Int.pow_succ]
  congr 1
  omega
theorem pow_even {x : Int} {m : Nat} (h : m % 2 = 0) : x ^ (m / 2) * x ^ (m / 2) = x ^ m := by
  rw [← Int.pow_add]
  congr 1
  omega
section
variable {P : Program} {w : World} {K : PySem.W.Frag} {mg : Str → Option Value} {base : Heap} {B : Addr}
theorem scWholeP : FnScope ["number", "n", "answer", "place"] ["number", "n"] (defScope sWholeP) := ⟨rfl, rfl, rfl, by decide +kernel, rfl, by decide +kernel, by decide +kernel⟩
theorem scRaised : FnScope ["one", "n", "above", "below"] ["one", "n"] (defScope sRaised) := ⟨rfl, rfl, rfl, by decide +kernel, rfl, by decide +kernel, by decide +kernel⟩
def spWP : Sp := fun vs H Q _ => ∃ (x : Int) (n k : Nat), vs = [.int x, .int n] ∧ Sm k x ∧ k ≤ 6000 ∧ k * n ≤ 6000 ∧ n < 2 ^ 60 ∧ Q (.int (x ^ n)) H
theorem ok_wholeP {f : Addr} {fd : FuncData} (F : Fun K "_whole_power" "_whole_power" sWholeP f fd) (mr : mg "range" = none) (mv : mg "reversed" = none) : FnOk P w K mg base CX0 1 f fd ["number", "n"] spWP := by
  refine F.ok scWholeP (fun vs H Q E h => ?_) (fun cdv A outer s H vs Q E hr h => ?_)
  · obtain ⟨x, n, _, rfl, _⟩ := h
    rfl
  · obtain ⟨x, n, k0, rfl, bx, hk0, hkn, bn, q⟩ := h
    have nd := scWholeP.nd
    refine ⟨_, pss_cons (ps_set (i := 2) nd rfl (.inl rfl) pe_int)
      (pss_cons (ps_for PassesOwn.never rfl (pi_revR (by rfl) mv (prg_1 (by rfl) mr (pe_bits (pv 1)))) (pg_name (i := 3) nd rfl (.inl rfl))
        (pss_cons (ps_set (i := 2) nd rfl (.inl rfl) (pe_op op_mulW (pv 2) (pv 2)))
        (pss_one (ps_if (pt_truth (pe_op op_odd (pe_op op_shrN (pv 1) (pv 3)) pe_int) (fun _ => rfl)) (pss_one (ps_set (i := 2) nd rfl (.inl rfl) (pe_op op_mulW (pv 2) (pv 0)))) pss_nil))))
      (pss_one (ps_ret (pv 2)))), ?_⟩
    have hL : n < 2 ^ Builtin.Int.intBits (n : Int) := by
      have := PySem.intBits_le_iff.mp (Nat.le_refl (Builtin.Int.intBits (n : Int)))
      rw [Int.natAbs_natCast] at this
      exact this
    have hL2 : Builtin.Int.intBits (n : Int) ≤ 60 := PySem.intBits_le_iff.mpr (by rw [Int.natAbs_natCast]; exact bn)
    refine ⟨_, rfl, _, rfl, _, rfl, ?_⟩
    generalize Builtin.Int.intBits (n : Int) = L at hL hL2 ⊢
    refine ⟨by omega, by omega, by omega, by omega, ?_⟩
    rw [show ((L : Int) - 0).toNat = L by omega]
    have pw : ∀ i : Nat, i ≤ n → Sm 6001 (x ^ i) := fun i hi => (bx.pow i).mono (by
      have : k0 * i ≤ k0 * n := Nat.mul_le_mul_left _ hi
      omega)
    refine for_rangeC (n := L) (fun i σ H' => H' = H ∧ ∃ v3 : Option V, σ = [some (.int x), some (.int n), some (.int (x ^ (n / 2 ^ (L - i)))), v3]) ⟨rfl, none, ?_⟩ ?_ ?_
    · rw [Nat.sub_zero, Nat.div_eq_of_lt hL, Int.pow_zero]
      rfl
    · rintro i σ H' hi ⟨rfl, v3, rfl⟩
      obtain ⟨k, hk⟩ : ∃ k : Nat, L = i + (k + 1) := ⟨L - i - 1, by omega⟩
      rw [show (0 : Int) + (L : Int) - 1 + (i : Int) * (-1) = (k : Int) by omega, show L - i = k + 1 by omega, show L - (i + 1) = k by omega, half_step]
      have hm : n / 2 ^ k ≤ n := Nat.div_le_self _ _
      have e0 : ((n : Int) / 2 ^ k) = ((n / 2 ^ k : Nat) : Int) := by
        rw [Int.natCast_ediv, Int.natCast_pow]
        rfl
      generalize n / 2 ^ k = m at hm e0
      have hb := pw (m / 2) (by omega)
      refine ⟨_, rfl, _, rfl, _, _, rfl, rfl, hb.mulW hb (by decide), _, rfl, _, rfl, _, _, rfl, rfl, ?_⟩
      rw [e0]
      refine ⟨_, rfl, rfl, ?_⟩
      have b2 : Sm 6001 (x ^ (m / 2) * x ^ (m / 2)) := by
        rw [← Int.pow_add]
        exact pw _ (by omega)
      rcases Nat.mod_two_eq_zero_or_one m with e | e
      · refine ⟨false, by rw [e]; rfl, iteF ?_⟩
        refine ⟨rfl, some (.int (k : Int)), ?_⟩
        rw [← pow_even e]
        rfl
      · refine ⟨true, by rw [e]; rfl, iteT ?_⟩
        refine ⟨_, rfl, _, rfl, _, _, rfl, rfl, b2.mulW bx (by omega), ?_⟩
        refine ⟨rfl, some (.int (k : Int)), ?_⟩
        rw [← pow_odd e]
        rfl
    · rintro σ H' ⟨rfl, v3, rfl⟩
      rw [Nat.sub_self, Nat.pow_zero, Nat.div_one]
      exact ⟨_, rfl, q⟩
def spRaised (B : Addr) : Sp := fun vs H Q E => ∃ (a : Addr) (u : Int × Int) (n : Int) (k : Nat), vs = [.ref a, .int n] ∧ FracAt H a u.1 u.2 ∧ FrSm k u ∧ k ≤ 6000 ∧ k * n.natAbs ≤ 6000 ∧ n.natAbs < 2 ^ 60 ∧ (valPow u n = none → E (.ref B) none H) ∧
  ∀ x, valPow u n = some x → ∀ (H' : Hp) (p : Addr), Same H H' → FracAt H' p x.1 x.2 → Q (.ref p) H'
theorem ok_raised {f fT fW : Addr} {fd fdT fdW : FuncData} (F : Fun K "raised" "raised" sRaised f fd) (FT : Fun K "_turned" "_turned" sTrn fT fdT) (gT : mg "_turned" = some (.ref fT)) (FW : Fun K "_whole_power" "_whole_power" sWholeP fW fdW) (gW : mg "_whole_power" = some (.ref fW))
    (eB : ErrAt K mg "ByNought" B) (mr : mg "range" = none) (mv : mg "reversed" = none) : FnOk P w K mg base (L2N.CX P w) 2 f fd ["one", "n"] (spRaised B) := by
  have GT : FnOk P w K mg base (L2N.CX P w) 1 fT fdT ["one"] (spTrn B) := ok_trn FT eB
  have GW : FnOk P w K mg base CX0 1 fW fdW ["number", "n"] spWP := ok_wholeP FW mr mv
  have bT := FT.binds (ps := ["one"]) fun _ _ _ _ _ _ us hl => match us, hl with | [_], _ => rfl
  have bW := FW.binds (ps := ["number", "n"]) fun _ _ _ _ _ _ us hl => match us, hl with | [_, _], _ => rfl
  refine F.okN scRaised (fun vs H Q E h => ?_) (fun cdv A outer s H vs Q E hr h => ?_)
  · obtain ⟨a, u, n, k, rfl, _⟩ := h
    rfl
  · obtain ⟨a, ⟨x, y⟩, n, k, rfl, ha, ⟨red, bx, by'⟩, hk, n1, n2, qE, qQ⟩ := h
    dsimp only at ha red bx by'
    have nd := scRaised.nd
    refine ⟨_, pss_cons (ps_asg (pv 0) (pg_tup rfl (pgs_cons (pg_name (i := 2) nd rfl (.inl rfl)) (pgs_cons (pg_name (i := 3) nd rfl (.inl rfl)) pgs_nil))))
      (Evl.pss_cut (ps_if (pt_cmpR op_lt (pv 1) pe_int (nomark _))
        (pss_cons (ps_asg (pe_callS GT hr (by rfl) gT FT.kp bT (fun σ => L2N.passAt (L2N.takes_of rfl rfl rfl rfl) σ) (pa_cons (pv 0) pa_nil)) (pg_tup rfl (pgs_cons (pg_name (i := 2) nd rfl (.inl rfl)) (pgs_cons (pg_name (i := 3) nd rfl (.inl rfl)) pgs_nil))))
        (pss_one (ps_set (i := 1) nd rfl (.inl rfl) (pe_un un_neg (pv 1))))) pss_nil)
      (pss_one (ps_ret (pe_tup (pa_cons (pe_call GW hr (by rfl) gW FW.kp bW .nil pass0 (pa_cons (pv 2) (pa_cons (pv 1) pa_nil))) (pa_cons (pe_call GW hr (by rfl) gW FW.kp bW .nil pass0 (pa_cons (pv 3) (pa_cons (pv 1) pa_nil))) pa_nil)))))), ?_⟩
    refine ⟨_, rfl, a, _, rfl, SqT.of ha, rfl, _, _, rfl, _, _, rfl, rfl, ?_⟩
    refine ⟨fun σ' H' => ∃ (u v : Int) (m : Nat), σ' = [some (.ref a), some (.int m), some (.int u), some (.int v)] ∧ Same H H' ∧ Red u v ∧ Sm k u ∧ Sm k v ∧ m = n.natAbs ∧ pwB x y n ≠ 0 ∧ u ^ m * pwB x y n = pwA x y n * v ^ m, ?_, ?_⟩
    · refine ⟨_, rfl, _, _, rfl, rfl, _, rfl, ite2 (fun e => ?_) (fun e => ?_)⟩
      · have e1 : n < 0 := of_decide_eq_true e
        have dB : pwB x y n = x ^ n.natAbs := if_pos e1
        have dA : pwA x y n = y ^ n.natAbs := if_pos e1
        refine ⟨_, rfl, a, x, y, rfl, ha, fun z => qE ?_, fun x0 p np => ?_⟩
        · show (if pwB x y n = 0 then none else _) = none
          rw [if_pos]
          rw [dB, z]
          exact Int.zero_pow (by omega)
        · obtain ⟨nr, nv⟩ := trn_ok red x0
          have nl := trn_le x y
          have ns : Sm k (trnA x y) ∧ Sm k (trnB x y) := ⟨by'.le (Nat.le_of_eq nl.1), bx.le (Nat.le_of_eq nl.2)⟩
          refine ⟨p, _, rfl, SqT.of upd_same, rfl, _, _, rfl, _, _, rfl, rfl, ?_⟩
          refine ⟨_, rfl, _, rfl, ?_⟩
          obtain ⟨m, hm⟩ : ∃ m : Nat, -n = (m : Int) := ⟨(-n).toNat, by omega⟩
          have hm2 : n.natAbs = m := by omega
          refine ⟨_, _, m, by rw [← hm]; rfl, same_new np, nr, ns.1, ns.2, by omega, ?_, ?_⟩
          · rw [dB]
            exact Int.pow_ne_zero x0
          · rw [dB, dA, hm2, ← Int.mul_pow, ← Int.mul_pow, nv]
      · have e1 : ¬ n < 0 := fun z => e (decide_eq_true z)
        have dB : pwB x y n = y ^ n.natAbs := if_neg e1
        have dA : pwA x y n = x ^ n.natAbs := if_neg e1
        obtain ⟨m, hm⟩ : ∃ m : Nat, n = (m : Int) := ⟨n.toNat, by omega⟩
        refine ⟨x, y, m, by rw [hm]; rfl, Same.refl _, red, bx, by', by omega, ?_, ?_⟩
        · rw [dB]
          exact Int.pow_ne_zero (Int.ne_of_gt red.1)
        · rw [dB, dA, show n.natAbs = m by omega]
    · rintro σ' H' ⟨u, v, m, rfl, sm, ru, b1, b2, hm, d0, e⟩
      refine ⟨_, rfl, _, rfl, u, m, k, rfl, b1, hk, by rw [hm]; exact n1, by rw [hm]; exact n2, _, rfl, _, rfl, v, m, k, rfl, b2, hk, by rw [hm]; exact n1, by rw [hm]; exact n2, (by show 2 ≤ sizeLine; decide), fun p np => ?_⟩
      have nn : norm (pwA x y n) (pwB x y n) = (u ^ m, v ^ m) := norm_is d0 (red_pow ru m) e
      refine qQ (u ^ m, v ^ m) ?_ _ p (sm.trans (same_new np)) upd_same
      show (if pwB x y n = 0 then none else some (norm (pwA x y n) (pwB x y n))) = _
      rw [if_neg d0, nn]
end
end MK


set_option Elab.async false
set_option linter.all false
set_option maxRecDepth 100000
set_option maxHeartbeats 4000000
namespace MK
open PySem PySem.Spec PyProof.Rows L2
section
variable {P : Program} {w : World} {K : PySem.W.Frag} {mg : Str → Option Value} {base : Heap} {pt : Addr}
/-! ### parts -/
theorem scPaP : FnScope ["reckoning"] ["reckoning"] (defScope sPaP) := ⟨rfl, rfl, rfl, by decide +kernel, rfl, by decide +kernel, by decide +kernel⟩
def spPaP : Sp := fun vs H Q _ => ∃ (t : Addr) (r : Rk), vs = [.ref t] ∧ TrAt H r t ∧ ∀ (p : Addr) (ps : List Addr), H p = none → Paired (fun q x => TrAt H x q) ps r.parts → Q (.ref p) (upd H p (.tup (ps.map V.ref)))
theorem ok_paP {f : Addr} {fd : FuncData} (F : Fun K "parts" "parts" sPaP f fd) (T : PTab K w mg pt) : FnOk P w K mg base CX0 1 f fd ["reckoning"] spPaP := by
  refine F.ok scPaP (fun vs H Q E h => ?_) (fun cdv A outer s H vs Q E hr h => ?_)
  · obtain ⟨t, r, rfl, _⟩ := h
    rfl
  · obtain ⟨t, r, rfl, ht, q⟩ := h
    refine ⟨_, pss_one (ps_ret (pe_slice sl_tup (pv 0) (po_some pe_int) (po_some (pe_op op_add pe_int (pe_ix ix_kdict (pe_glob (v := .ref pt) (by rfl) T.g rfl) (pe_ix ix_tup (pv 0) pe_int (fun _ _ => rfl)) (fun _ _ => rfl)))))), ?_⟩
    obtain ⟨ps, zs, h1, hps⟩ := tr_tup ht
    have el : (ps.map V.ref).length = r.parts.length := by rw [List.length_map]; exact hps.length
    refine ⟨_, rfl, 1, rfl, _, rfl, t, _, 0, _, rfl, rfl, SqT.of h1, atI_nat (j := 0) rfl, pt, _, _, rfl, rfl, T.k r, _, _, rfl, rfl, ?_⟩
    rw [← el]
    refine ⟨_, rfl, t, _, rfl, SqT.of h1, cut_some _ _ _, fun p np => ?_⟩
    rw [cut_parts]
    exact q p ps np hps
end
end MK


set_option Elab.async false
set_option linter.all false
set_option maxRecDepth 100000
set_option maxHeartbeats 4000000
namespace MK
open PySem PySem.Spec PyProof.Rows L2
/-- None, or a reckoning that lies there -/
def ToldR (H : Hp) (o : Option Rk) (v : V) : Prop := match o with
  | none => v = .non
  | some r => ∃ p, v = .ref p ∧ TrAt H r p
theorem hasU_take {u : Str → Option Fr} {m : Ms} {i : Nat} {p : Str × Int} (h : m[i]? = some p) : hasU u (m.take (i + 1)) = (hasU u (m.take i) && (u p.1).isSome) := by
  unfold hasU
  rw [take_more h, List.all_append]
  simp
/-- what is asked of a scale -/
structure SclIn (H : Hp) (b ud : Addr) (m : Ms) (ads : List (Str × Addr)) (ul : List (Str × Fr)) (k : Nat) : Prop where
  ms : MsN H b m
  v : VlAt H ud ads ul
  ok : UnOk k (lk ul)
  k1 : 1 ≤ k
  k6 : k ≤ 6000
  bits : sbits k m ≤ 6000
  pw : ∀ p ∈ m, p.2.natAbs < 2 ^ 60
  lt : ∀ p ∈ m, p.1.length ≤ 1000
theorem SclIn.same {H H' : Hp} {b ud : Addr} {m : Ms} {ads : List (Str × Addr)} {ul : List (Str × Fr)} {k : Nat} (s : Same H H') (h : SclIn H b ud m ads ul k) : SclIn H' b ud m ads ul k := ⟨h.ms.same s, h.v.same s, h.ok, h.k1, h.k6, h.bits, h.pw, h.lt⟩
section
variable {P : Program} {w : World} {K : PySem.W.Frag} {mg : Str → Option Value} {base : Heap} {Y B : Addr} {pt : Addr}
/-! ### scale -/
theorem scScale : FnScope ["measure", "units", "letter", "_", "told", "many"] ["measure", "units"] (defScope sScale) := ⟨rfl, rfl, rfl, by decide +kernel, rfl, by decide +kernel, by decide +kernel⟩
def spScale (Y : Addr) : Sp := fun vs H Q E => ∃ (b ud : Addr) (m : Ms) (ads : List (Str × Addr)) (ul : List (Str × Fr)) (k : Nat), vs = [.ref b, .ref ud] ∧ SclIn H b ud m ads ul k ∧
  (scl (lk ul) m = none → ∀ H', Same H H' → E (.ref Y) none H') ∧ ∀ x, scl (lk ul) m = some x → ∀ H' p, Same H H' → FracAt H' p x.1 x.2 → Q (.ref p) H'
theorem ok_scale {f fP fR fT fW : Addr} {fd dP dR dT dW : FuncData} (F : Fun K "scale" "scale" sScale f fd) (FP : Fun K "product" "product" sProd fP dP) (gP : mg "product" = some (.ref fP)) (FR : Fun K "raised" "raised" sRaised fR dR) (gR : mg "raised" = some (.ref fR))
    (FT : Fun K "_turned" "_turned" sTrn fT dT) (gT : mg "_turned" = some (.ref fT)) (FW : Fun K "_whole_power" "_whole_power" sWholeP fW dW) (gW : mg "_whole_power" = some (.ref fW)) (mG : mg "gcd" = some (.builtin "math.gcd")) (mr : mg "range" = none) (mv : mg "reversed" = none)
    (eB : ErrAt K mg "ByNought" B) (eY : ErrAt K mg "NoValue" Y) : FnOk P w K mg base (L2N.CX P w) 3 f fd ["measure", "units"] (spScale Y) := by
  have GP : FnOk P w K mg base CX0 1 fP dP ["one", "other"] (spTwoF B .times) := ok_prod FP mG
  have GR : FnOk P w K mg base (L2N.CX P w) 2 fR dR ["one", "n"] (spRaised B) := ok_raised FR FT gT FW gW eB mr mv
  have bP := FP.binds (ps := ["one", "other"]) fun _ _ _ _ _ _ us hl => match us, hl with | [_, _], _ => rfl
  have bR := FR.binds (ps := ["one", "n"]) fun _ _ _ _ _ _ us hl => match us, hl with | [_, _], _ => rfl
  refine F.okN scScale (fun vs H Q E h => ?_) (fun cdv A outer s H vs Q E hr h => ?_)
  · obtain ⟨b, ud, m, ads, ul, k, rfl, _⟩ := h
    rfl
  · obtain ⟨b, ud, m, ads, ul, k, rfl, si, qE, qQ⟩ := h
    have nd := scScale.nd
    have hu := hu_of hr
    have hr1 : Room 1 _ := hr.mono (by omega)
    refine ⟨_, pss_cons (ps_for (passes_of rfl) rfl (pi_tup (pv 0)) (pg_tup rfl (pgs_cons (pg_name (i := 2) nd rfl (.inl rfl)) (pgs_cons (pg_name (i := 3) nd rfl (.inl rfl)) pgs_nil)))
        (pss_one (ps_if (pt_cmp (pc_dnotin hu (pv 2) (pv 1))) (pss_one (L2N.ps_raise rfl (L2N.takes_of rfl rfl rfl rfl) (L2N.pmk_ownA PySem.F.excBase_ValueError eY.x1 eY.g eY.k (raises_own eY.b eY.t) rfl
          (pa_cons (pe_joined (.cons pe_str (.cons (pe_fmt (pv 2)) (.cons pe_str .nil)))) pa_nil)))) pss_nil)))
      (pss_cons (ps_set (i := 4) nd rfl (.inl rfl) (pe_tup (pa_cons pe_int (pa_cons pe_int pa_nil))))
      (pss_cons (ps_for (passes_of rfl) rfl (pi_tup (pv 0)) (pg_tup rfl (pgs_cons (pg_name (i := 2) nd rfl (.inl rfl)) (pgs_cons (pg_name (i := 5) nd rfl (.inl rfl)) pgs_nil)))
        (pss_one (ps_set (i := 4) nd rfl (.inl rfl) (pe_call GP hr1 (by rfl) gP FP.kp bP .nil pass0 (pa_cons (pv 4) (pa_cons
          (pe_callS GR hr (by rfl) gR FR.kp bR (fun σ => L2N.passAt (L2N.takes_of rfl rfl rfl rfl) σ) (pa_cons (pe_dget hu (pv 1) (pv 2) (fun _ _ => rfl)) (pa_cons (pv 5) pa_nil))) pa_nil))))))
      (pss_one (ps_ret (pv 4))))), ?_⟩
    obtain ⟨ts, tn, pm⟩ := si.ms
    have sq : SqT K H b (ts.map V.ref) := TupN.sq tn
    have tl := pm.length
    refine ⟨_, rfl, b, rfl, ⟨_, sq⟩, for_tup (xs := ts.map V.ref) (fun i σ H2 => ∃ v2 v3 : Option V, σ = [some (.ref b), some (.ref ud), v2, v3, none, none] ∧ H2 = H ∧ hasU (lk ul) (m.take i) = true)
      ⟨none, none, rfl, rfl, rfl⟩ (fun i σ H2 _ z => by obtain ⟨_, _, _, e, _⟩ := z; rw [e]; exact sq) ?_ ?_⟩
    · rintro i x σ H2 hx ⟨v2, v3, rfl, rfl, all⟩
      obtain ⟨t, ht, rfl⟩ := at_map hx
      obtain ⟨p, hp, htp⟩ := paired_ix pm ht
      have htp : H2 t = some (.tup [.str p.1, .int p.2]) := htp
      have hpm := List.mem_of_getElem? hp
      refine ⟨t, _, rfl, SqT.of htp, rfl, _, _, rfl, _, _, rfl, rfl, ?_⟩
      refine ⟨_, rfl, _, rfl, ud, _, rfl, DGet.k (k := Sum.inr p.1) si.v.1, _, rfl, ?_⟩
      rw [encG_val]
      cases e : lk ads p.1 with
      | some c =>
        refine iteF ?_
        refine ⟨_, _, rfl, rfl, ?_⟩
        rw [hasU_take hp, all]
        rcases frs_lk si.v.2 p.1 with ⟨e3, _⟩ | ⟨_, _, _, e3, _⟩
        · rw [e] at e3
          cases e3
        · rw [e3]
          rfl
      | none =>
        refine iteT ?_
        have e2 : lk ul p.1 = none := by
          rcases frs_lk si.v.2 p.1 with ⟨_, e3⟩ | ⟨_, _, e3, _⟩
          · exact e3
          · rw [e] at e3
            cases e3
        have zl := si.lt p hpm
        have l1 : (Str.empty ++ Str.ofString "the letter ").length = 11 := by decide +kernel
        have l3 : (Str.ofString " has no unit").length = 12 := by decide +kernel
        have sz : sizeLine = 16777216 := sizeLine_eq
        refine ⟨_, rfl, ?_, _, rfl, .inl ⟨p.1, rfl, ?_, _, rfl, ?_, _, rfl, ?_, ?_⟩⟩
        · omega
        · omega
        · rw [app_len, l1]
          omega
        · rw [app_len, app_len, l1, l3]
          omega
        · refine ⟨by show 1 ≤ sizeLine; omega, qE ?_ _ (Same.refl _)⟩
          unfold scl
          rw [if_neg]
          intro z
          have := List.all_eq_true.mp z p hpm
          rw [e2] at this
          cases this
    · rintro σ H2 ⟨v2, v3, rfl, rfl, all⟩
      rw [List.length_map, tl, List.take_length] at all
      have es : scl (lk ul) m = some (norm (sA (lk ul) m) (sB (lk ul) m)) := by
        unfold scl
        rw [if_pos all]
      have qQ := qQ _ es
      refine ⟨(by show 2 ≤ sizeLine; decide), fun p0 np0 => ?_⟩
      have s1 := same_new (o := .tup [V.int 1, V.int 1]) np0
      have sq1 : SqT K (upd H2 p0 (.tup [V.int 1, V.int 1])) b (ts.map V.ref) := TupN.sq (by obtain ⟨o, e, d⟩ := tn; exact ⟨o, s1 _ _ e, d⟩)
      refine ⟨_, rfl, b, rfl, ⟨_, sq1⟩, for_tup (xs := ts.map V.ref) (fun i σ H3 => ∃ (v2 v5 : Option V) (q : Addr), σ = [some (.ref b), some (.ref ud), v2, v3, some (.ref q), v5] ∧ Same H2 H3 ∧ FracAt H3 q (norm (sA (lk ul) (m.take i)) (sB (lk ul) (m.take i))).1 (norm (sA (lk ul) (m.take i)) (sB (lk ul) (m.take i))).2)
        ⟨v2, none, p0, rfl, s1, ?_⟩ (fun i σ H3 _ z => by obtain ⟨_, _, _, _, e, _⟩ := z; obtain ⟨o, e2, d⟩ := tn; exact TupN.sq ⟨o, e _ _ e2, d⟩) ?_ ?_⟩
      · show upd H2 p0 _ p0 = some (.tup [.int (norm 1 1).1, .int (norm 1 1).2])
        rw [norm_11]
        exact upd_same
      · rintro i x σ H3 hx ⟨v2, v5, q, rfl, s3, hq⟩
        obtain ⟨t, ht, rfl⟩ := at_map hx
        obtain ⟨p, hp, htp⟩ := paired_ix pm ht
        have htp : H2 t = some (.tup [.str p.1, .int p.2]) := htp
        have hpm := List.mem_of_getElem? hp
        refine ⟨t, _, rfl, SqT.of (s3 _ _ htp), rfl, _, _, rfl, _, _, rfl, rfl, ?_⟩
        have hpu : lk ul p.1 ≠ none := fun z => by
          have := List.all_eq_true.mp all p hpm
          rw [z] at this
          cases this
        obtain ⟨c, x, e1, e2, e3⟩ := vl_get (si.v.same s3) hpu
        have hx := (si.ok p.1 x e1).1
        have hb := sbits_mem (k := k) hpm
        have hbt := sbits_take k m i
        have sb := si.bits
        refine ⟨_, rfl, _, rfl, _, rfl, ud, _, rfl, e2, _, rfl, c, x, p.2, k, rfl, e3, hx, ?_, by omega, si.pw p hpm, fun z => ?_, fun y ey H4 q2 s4 hq2 => ?_⟩
        · by_cases e0 : p.2.natAbs = 0
          · exact si.k6
          · have : k * 1 ≤ k * p.2.natAbs := Nat.mul_le_mul_left _ (by omega)
            omega
        · rw [valPow_un si.ok e1] at z
          cases z
        · rw [valPow_un si.ok e1] at ey
          have ey := Option.some.inj ey
          subst ey
          have f1 := scl_sm si.ok si.k1 (m.take i)
          have f2 := scl_sm si.ok si.k1 [p]
          have e4 : norm (sA (lk ul) [p]) (sB (lk ul) [p]) = norm (pwA (un (lk ul) p.1).1 (un (lk ul) p.1).2 p.2) (pwB (un (lk ul) p.1).1 (un (lk ul) p.1).2 p.2) := by
            show norm (_ * 1) (_ * 1) = _
            rw [Int.mul_one, Int.mul_one]
          rw [e4] at f2
          have b1 : sbits k [p] = k * p.2.natAbs + 2 := by
            show (k * p.2.natAbs + 1) + 0 + 1 = _
            omega
          refine ⟨q, q2, _, _, sbits k (m.take i), sbits k [p], rfl, s4 _ _ hq, hq2, f1, f2, ?_, fun z => ?_, fun y ey H5 q3 s5 hq3 => ?_⟩
          · have := sbits_cut (k := k) hp
            omega
          · rw [scl_step si.ok] at z
            cases z
          · rw [scl_step si.ok] at ey
            have ey := Option.some.inj ey
            subst ey
            refine ⟨_, _, q3, rfl, s3.trans (s4.trans s5), ?_⟩
            rw [take_more hp]
            exact hq3
      · rintro σ H3 ⟨v2, v5, q, rfl, s3, hq⟩
        rw [List.length_map, tl, List.take_length] at hq
        exact ⟨_, rfl, qQ H3 q s3 hq⟩
end
end MK


set_option Elab.async false
set_option linter.all false
set_option maxRecDepth 100000
set_option maxHeartbeats 4000000
namespace MK
open PySem PySem.Spec PyProof.Rows L2
theorem cut_take' {xs : List V} {k : Nat} (h : k ≤ xs.length) : cutV xs none (some (k : Int)) = xs.take k := by
  unfold cutV
  have e1 : HT.sIx xs.length 0 none = 0 := rfl
  have e2 : HT.sIx xs.length xs.length (some (k : Int)) = k := by
    rw [HT.sIx_nat]
    omega
  rw [e1, e2]
  rfl
/-- what is asked of a reckoning to be retold -/
structure RetIn (H : Hp) (t ud : Addr) (r : Rk) (ads : List (Str × Addr)) (ul : List (Str × Fr)) (k : Nat) : Prop where
  t : TrAt H r t
  v : VlAt H ud ads ul
  ok : UnOk k (lk ul)
  k1 : 1 ≤ k
  k40 : k ≤ 40
  rok : r.Ok
theorem RetIn.same {H H' : Hp} {t ud : Addr} {r : Rk} {ads : List (Str × Addr)} {ul : List (Str × Fr)} {k : Nat} (s : Same H H') (h : RetIn H t ud r ads ul k) : RetIn H' t ud r ads ul k := ⟨h.t.same s, h.v.same s, h.ok, h.k1, h.k40, h.rok⟩
theorem parts_few' : ∀ r : Rk, r.parts.length ≤ 4
  | .is _ _ _ => Nat.zero_le _
  | .nought => Nat.zero_le _
  | .input _ => Nat.zero_le _
  | .bin _ _ _ => by show 2 ≤ 4; decide
  | .power _ _ => by show 1 ≤ 4; decide
  | .less _ _ _ _ => by show 4 ≤ 4; decide
theorem kind_is {r : Rk} (ni : r.isIs = false) : r.kind ≠ Str.ofString "is" := by
  cases r with
  | is _ _ _ => cases ni
  | bin o _ _ => show o.name ≠ _; cases o <;> decide +kernel
  | nought => show ("nought" : Str) ≠ _; decide +kernel
  | input _ => show ("input" : Str) ≠ _; decide +kernel
  | power _ _ => show ("power" : Str) ≠ _; decide +kernel
  | less _ _ _ _ => show ("less" : Str) ≠ _; decide +kernel
theorem part_okR' : ∀ {r x : Rk}, x ∈ r.parts → r.Ok → x.Ok := fun hx h => (part_of hx h).1
/-- what a scale of an is asks -/
theorem is_sclIn {H : Hp} {b ud : Addr} {x y : Int} {m : Ms} {ads : List (Str × Addr)} {ul : List (Str × Fr)} {k : Nat} (hb : MsN H b m) (v : VlAt H ud ads ul) (ok : UnOk k (lk ul)) (k1 : 1 ≤ k) (k40 : k ≤ 40) (h : (Rk.is x y m).Ok) : SclIn H b ud m ads ul k := by
  obtain ⟨_, _, _, g⟩ := h
  exact ⟨hb, v, ok, k1, by omega, Nat.le_trans (msin_bits g k40) (by decide), fun p hp => Nat.lt_of_le_of_lt (g.sm p hp) (by decide), fun p hp => Nat.le_trans (g.nm p hp).2.1 (by decide)⟩
theorem sqT_same {K : PySem.W.Frag} {H H' : Hp} {a : Addr} {xs : List V} (s : Same H H') (h : SqT K H a xs) : SqT K H' a xs := by
  rcases h with (e | ⟨o, e⟩) | h
  · exact .inl (.inl (s _ _ e))
  · exact .inl (.inr ⟨o, s _ _ e⟩)
  · exact .inr h
theorem rslA_mono {K : PySem.W.Frag} {x : V} {lo hi : Option Int} {H : Hp} {Q Q' : VK} (m : ∀ v H, Q v H → Q' v H) (h : rSlA K x lo hi H Q) : rSlA K x lo hi H Q' := by
  obtain ⟨a, xs, e, s, h1, h2⟩ := h
  exact ⟨a, xs, e, s, fun z => m _ _ (h1 z), fun z p np => m _ _ (h2 z p np)⟩
theorem rcatA_mono {K : PySem.W.Frag} {x y : V} {H : Hp} {Q Q' : VK} (m : ∀ v H, Q v H → Q' v H) (h : rCatA K x y H Q) : rCatA K x y H Q' := by
  obtain ⟨a, b, xs, ys, e1, e2, s1, s2, z, h0, h1, h2⟩ := h
  exact ⟨a, b, xs, ys, e1, e2, s1, s2, z, fun q => m _ _ (h0 q), fun q r => m _ _ (h1 q r), fun q r p np => m _ _ (h2 q r p np)⟩
/-- reckoning[:1] + told + reckoning[1 + len(told):] -/
theorem re_cat {K : PySem.W.Frag} {H : Hp} {r : Rk} {rs : List Rk} {t l : Addr} {cs : List Addr} {Q : VK} (ht : TrAt H r t) (hl : SqT K H l (cs.map V.ref)) (pr : Paired (fun c x => TrAt H x c) cs rs) (n : rs.length = r.parts.length) (ni : r.isIs = false)
    (q : ∀ H' p, Same H H' → TrAt H' (r.re rs) p → Q (.ref p) H') :
    rSlA K (.ref t) none (some 1) H fun x H1 => rCatA K x (.ref l) H1 fun y H2 => SqT K H2 l (cs.map V.ref) ∧ rSlA K (.ref t) (some (1 + ((cs.map V.ref).length : Int))) none H2 fun z H3 => rCatA K y z H3 Q := by
  obtain ⟨ps, zs, hx, hps⟩ := tr_tup ht
  have pl := hps.length
  have cl := pr.length
  have few := parts_few' r
  have zl : zs.length ≤ 5 := by
    have key : ∀ ys, H t = some (.tup ys) → ys.length ≤ 5 → zs.length ≤ 5 := fun ys h l => by
      rw [hx] at h
      have := congrArg List.length (HO.tup.inj (Option.some.inj h))
      rw [List.length_cons, List.length_append] at this
      omega
    cases r with
    | is x y m =>
      obtain ⟨_, _, h, _⟩ := ht
      exact key _ h (by show 3 ≤ 5; decide)
    | nought => exact key _ ht (by show 1 ≤ 5; decide)
    | input z => exact key _ ht (by show 2 ≤ 5; decide)
    | bin o a b =>
      obtain ⟨_, _, h, _⟩ := ht
      exact key _ h (by show 3 ≤ 5; decide)
    | power a m =>
      obtain ⟨_, h, _⟩ := ht
      exact key _ h (by show 3 ≤ 5; decide)
    | less a b c d =>
      obtain ⟨_, _, _, _, h, _⟩ := ht
      exact key _ h (by show 5 ≤ 5; decide)
  obtain ⟨xs, hxs⟩ : ∃ xs, xs = V.str r.kind :: (ps.map V.ref ++ zs) := ⟨_, rfl⟩
  have xl : xs.length = 1 + ps.length + zs.length := by
    rw [hxs, List.length_cons, List.length_append, List.length_map]
    omega
  rw [← hxs] at hx
  have lc : (cs.map V.ref).length = ps.length := by rw [List.length_map]; omega
  have csz : ∀ {m : Nat}, m ≤ 1000 → m ≤ sizeLine := fun h => Nat.le_trans h (by decide)
  have dz : xs.drop (1 + ps.length) = zs := by
    rw [hxs, Nat.add_comm, List.drop_succ_cons, ← List.length_map (f := V.ref) (as := ps), List.drop_left]
  have tk1 : xs.take 1 = [V.str r.kind] := by rw [hxs]; rfl
  have done : ∀ {H' : Hp} {p : Addr}, Same H H' → H' p = some (.tup (V.str r.kind :: (cs.map V.ref ++ zs))) → Q (.ref p) H' := fun {H' p} s hp =>
    q H' p s (tr_re (ht.same s) (by rw [← hxs]; exact s _ _ hx) (by omega) (Paired.mono (fun _ _ h => h.same s) pr) n ni hp)
  -- the last slice, then the sum
  have last : ∀ {H2 : Hp} {y : Addr}, Same H H2 → H2 y = some (.tup (V.str r.kind :: cs.map V.ref)) → SqT K H2 l (cs.map V.ref) ∧ rSlA K (.ref t) (some (1 + ((cs.map V.ref).length : Int))) none H2 fun z H3 => rCatA K (.ref y) z H3 Q := fun {H2 y} s hy => by
    have e1 : (1 : Int) + ((cs.map V.ref).length : Int) = ((1 + ps.length : Nat) : Int) := by omega
    refine ⟨sqT_same s hl, t, xs, rfl, SqT.of (s _ _ hx), fun z => ?_, fun _ p np => ?_⟩
    · rw [e1, HT.sIx_nat] at z
      omega
    · rw [e1, cut_drop (by omega), dz]
      have s3 := same_new (o := .tup zs) np
      refine ⟨y, p, V.str r.kind :: cs.map V.ref, zs, rfl, rfl, SqT.of (s3 _ _ hy), SqT.of upd_same, ?_, (fun z => nomatch z), fun _ z => ?_, fun _ _ p2 np2 => ?_⟩
      · rw [List.length_cons]
        exact csz (by omega)
      · exact done (s.trans s3) (by rw [s3 _ _ hy, z, List.append_nil])
      · exact done (s.trans (s3.trans (same_new np2))) upd_same
  -- the first slice, then what is told
  have mid : ∀ {H1 : Hp} {x : Addr}, Same H H1 → H1 x = some (.tup [V.str r.kind]) → rCatA K (.ref x) (.ref l) H1 fun y H2 => SqT K H2 l (cs.map V.ref) ∧ rSlA K (.ref t) (some (1 + ((cs.map V.ref).length : Int))) none H2 fun z H3 => rCatA K y z H3 Q := fun {H1 x} s hx1 => by
    refine ⟨x, l, [V.str r.kind], cs.map V.ref, rfl, rfl, SqT.of hx1, sqT_same s hl, ?_, (fun z => nomatch z), fun _ z => ?_, fun _ _ p np => ?_⟩
    · exact csz (by
        show 1 + _ ≤ 1000
        omega)
    · exact last s (by rw [hx1, z])
    · exact last (s.trans (same_new np)) upd_same
  refine ⟨t, xs, rfl, SqT.of hx, fun z => ?_, fun _ p np => ?_⟩
  · have e2 : HT.sIx xs.length xs.length (some (1 : Int)) = 1 := by
      rw [show (1 : Int) = ((1 : Nat) : Int) from rfl, HT.sIx_nat]
      omega
    rw [e2] at z
    refine mid (Same.refl _) ?_
    rw [hx]
    match xs, z.2, hxs with
    | [v], _, hxs => rw [(List.cons.inj hxs).1]
  · have := cut_take' (xs := xs) (k := 1) (by omega)
    rw [show ((1 : Nat) : Int) = 1 from rfl] at this
    rw [this, tk1]
    exact mid (same_new np) upd_same
section
variable {P : Program} {w : World} {K : PySem.W.Frag} {mg : Str → Option Value} {base : Heap} {Y B : Addr} {pt : Addr}
/-! ### retold -/
theorem scRetold : FnScope ["reckoning", "units", "told", "part"] ["reckoning", "units"] (defScope sRetold) := ⟨rfl, rfl, rfl, by decide +kernel, rfl, by decide +kernel, by decide +kernel⟩
def spRetold (Y : Addr) : Nat → Sp
  | 0 => spNo
  | n + 1 => fun vs H Q E => ∃ (t ud : Addr) (r : Rk) (ads : List (Str × Addr)) (ul : List (Str × Fr)) (k : Nat), vs = [.ref t, .ref ud] ∧ RetIn H t ud r ads ul k ∧ r.deep ≤ n + 1 ∧
    (retR (lk ul) r = none → ∀ H', Same H H' → E (.ref Y) none H') ∧ ∀ r', retR (lk ul) r = some r' → ∀ H' p, Same H H' → TrAt H' r' p → Q (.ref p) H'
theorem ok_retold {f fP fS fA : Addr} {fd dP dS dA : FuncData} (F : Fun K "retold" "retold" sRetold f fd) (bF : Binds K fd ["reckoning", "units"] []) (gF : mg "retold" = some (.ref f))
    (FP : Fun K "product" "product" sProd fP dP) (gP : mg "product" = some (.ref fP)) (mG : mg "gcd" = some (.builtin "math.gcd"))
    (GS : FnOk P w K mg base (L2N.CX P w) 3 fS dS ["measure", "units"] (spScale Y)) (kS : PySem.W.keepIn K (.ref fS) = true) (bS : Binds K dS ["measure", "units"] []) (gS : mg "scale" = some (.ref fS))
    (FA : Fun K "parts" "parts" sPaP fA dA) (bA : Binds K dA ["reckoning"] []) (gA : mg "parts" = some (.ref fA)) (TP : PTab K w mg pt) (mt : mg "tuple" = none) (ml : mg "len" = none) :
    ∀ n : Nat, FnOk P w K mg base (L2N.CX P w) (n + 4) f fd ["reckoning", "units"] (spRetold Y n)
  | 0 => fn_no
  | n + 1 => by
    have GP : FnOk P w K mg base CX0 1 fP dP ["one", "other"] (spTwoF Y .times) := ok_prod FP mG
    have bP := FP.binds (ps := ["one", "other"]) fun _ _ _ _ _ _ us hl => match us, hl with | [_, _], _ => rfl
    have GA : FnOk P w K mg base CX0 1 fA dA ["reckoning"] spPaP := ok_paP FA TP
    have GF := ok_retold F bF gF FP gP mG GS kS bS gS FA bA gA TP mt ml n
    refine F.okN scRetold (fun vs H Q E h => ?_) (fun cdv A outer s H vs Q E hr h => ?_)
    · obtain ⟨t, ud, r, ads, ul, k, rfl, _⟩ := h
      rfl
    · obtain ⟨t, ud, r, ads, ul, k, rfl, ri, hd, qE, qQ⟩ := h
      have nd := scRetold.nd
      have hr1 : Room 1 _ := hr.mono (by omega)
      have hr3 : Room 3 _ := hr.mono (by omega)
      refine ⟨_, pss_cons (ps_if (pt_cmpR op_eq (pe_ix ix_tup (pv 0) pe_int (fun _ _ => rfl)) pe_str (nomark _)) (pss_one (ps_ret (pe_tup (pa_cons pe_str (pa_cons
            (pe_call GP hr1 (by rfl) gP FP.kp bP .nil pass0 (pa_cons (pe_ix ix_tup (pv 0) pe_int (fun _ _ => rfl)) (pa_cons (pe_callS GS hr3 (by rfl) gS kS bS (fun σ => L2N.passAt (L2N.takes_of rfl rfl rfl rfl) σ) (pa_cons (pe_ix ix_tup (pv 0) pe_int (fun _ _ => rfl)) (pa_cons (pv 1) pa_nil))) pa_nil)))
            (pa_cons (pe_ix ix_tup (pv 0) pe_int (fun _ _ => rfl)) pa_nil)))))) pss_nil)
        (pss_cons (ps_set (i := 2) nd rfl (.inl rfl) (pe_callTy call_tupleN (by rfl) mt boot_tuple (pa_cons
          (MKE.pe_lcE (E := E) (own := [("part", 3)]) (g := gName 3) (tt := tYes) rfl nd rfl rfl (L2N.takes_of rfl rfl rfl rfl) (pi_tup (pe_call GA hr1 (by rfl) gA FA.kp bA .nil pass0 (pa_cons (pv 0) pa_nil)))
            (blkOk_by (N := ["reckoning", "units", "told", "part"]) (sc := defScope sRetold) (by decide +kernel)) (fun _ _ _ _ _ => pg_name (i := 3) nd rfl (Or.inl rfl)) (fun _ _ _ _ _ => pts_nil)
            (fun _ _ _ _ _ => pe_callS (E := fun _ => E) GF hr (by rfl) gF F.kp bF (fun σ => MKE.bx_pass σ) (pa_cons (pv 3) (pa_cons (pv 1) pa_nil)))) pa_nil)))
        (pss_one (ps_ret (pe_op op_catA (pe_op op_catA (pe_slice sl_tupA (pv 0) po_none (po_some pe_int)) (pv 2)) (pe_slice sl_tupA (pv 0) (po_some (pe_op op_add pe_int (pe_callB call_len_seq (by rfl) ml PySem.boot_len (pa_cons (pv 2) pa_nil)))) po_none))))), ?_⟩
      by_cases ni : r.isIs = true
      · cases r with
        | is x y m =>
          obtain ⟨p, b, h1, h2, h3⟩ := ri.t
          refine ⟨_, rfl, t, _, 0, _, rfl, rfl, SqT.of h1, rfl, rfl, _, rfl, iteT ?_⟩
          refine ⟨_, rfl, t, _, 1, _, rfl, rfl, SqT.of h1, rfl, _, rfl, t, _, 2, _, rfl, rfl, SqT.of h1, rfl, _, rfl, b, ud, m, ads, ul, k, rfl, is_sclIn h3 ri.v ri.ok ri.k1 ri.k40 ri.rok, fun e H1 s1 => ?_, fun z ez H1 p1 s1 hp1 => ?_⟩
          · exact qE (by show (scl (lk ul) m).map _ = none; rw [e]; rfl) _ s1
          · have fz : FrSm (sbits k m) z := by
              have := scl_sm ri.ok ri.k1 m
              unfold scl at ez
              split at ez
              · cases ez
                exact this
              · cases ez
            obtain ⟨o1, o2, o3, o4⟩ := ri.rok
            have fx : FrSm 30 (x, y) := ⟨o1, sm30 o2, sm30 (by have := o1.1; show y.natAbs ≤ _; omega)⟩
            have bt := msin_bits o4 ri.k40
            refine ⟨p, p1, (x, y), z, 30, sbits k m, rfl, s1 _ _ h2, hp1, fx, fz, by omega, (fun e => nomatch e), fun y' ey H2 p2 s2 hp2 => ?_⟩
            have s12 := s1.trans s2
            refine ⟨_, rfl, t, _, 2, _, rfl, rfl, SqT.of (s12 _ _ h1), rfl, (by show 3 ≤ sizeLine; decide), fun p3 np3 => ?_⟩
            have s3 := same_new (o := .tup [V.str "is", V.ref p2, V.ref b]) np3
            refine qQ (.is y'.1 y'.2 m) ?_ _ p3 (s12.trans s3) ⟨p2, b, upd_same, s3 _ _ hp2, h3.same (s12.trans s3)⟩
            show (scl (lk ul) m).map _ = _
            rw [ez]
            have ey : mulF (x, y) z = y' := Option.some.inj ey
            rw [← ey]
            rfl
        | _ => cases ni
      · have ni : r.isIs = false := Bool.eq_false_iff.mpr ni
        obtain ⟨ps, zs, hx, hps⟩ := tr_tup ri.t
        have nk := kind_is ni
        refine ⟨_, rfl, t, _, 0, _, rfl, rfl, SqT.of hx, atI_nat (j := 0) rfl, rfl, _, rfl, ?_⟩
        rw [show decide (V.str r.kind = V.str (Str.ofString "is")) = false from decide_eq_false fun z => nk (V.str.inj z)]
        refine iteF ?_
        refine ⟨_, rfl, t, r, rfl, ri.t, fun pa qs npa hqs => ?_⟩
        have s1 := same_new (o := .tup (qs.map V.ref)) npa
        have few := parts_few' r
        have ql := hqs.length
        refine ⟨pa, rfl, ⟨_, SqT.of upd_same⟩, fun D nD => ?_⟩
        refine lc_tup (xs := qs.map V.ref) (fun i H2 => Same (upd H pa (.tup (qs.map V.ref))) H2 ∧ ∃ (cs : List Addr) (rs : List Rk), H2 D = some (.lst (cs.map V.ref)) ∧ Paired (fun c x => TrAt H2 x c) cs rs ∧ (r.parts.take i).map (retR (lk ul)) = rs.map some)
          ⟨same_new nD, [], [], upd_same, .nil, rfl⟩ (fun i H2 _ z => SqT.of (z.1 _ _ upd_same)) ?_ ?_
        · rintro i x H2 hxi ⟨sm, cs, rs, hD, pr, er⟩
          obtain ⟨q1, hq, rfl⟩ := at_map hxi
          obtain ⟨y, hy, hyt⟩ := paired_ix hqs hq
          have ym := List.mem_of_getElem? hy
          have ydp := parts_deep ym
          have pos := y.deep_pos
          obtain ⟨m, rfl⟩ : ∃ m, n = m + 1 := ⟨n - 1, by omega⟩
          have hi : i < r.parts.length := (List.getElem?_eq_some_iff.mp hy).1
          have s12 := s1.trans sm
          have rl : rs.length = i := by
            have := congrArg List.length er
            rw [List.length_map, List.length_map, List.length_take] at this
            omega
          have cl := pr.length
          refine ⟨rfl, ?_⟩
          refine ⟨_, rfl, _, rfl, q1, ud, y, ads, ul, k, rfl, ⟨hyt.same s12, ri.v.same s12, ri.ok, ri.k1, ri.k40, part_okR' ym ri.rok⟩, by omega, fun e H3 s3 => ?_, fun y' ey H3 p3 s3 hp3 => ?_⟩
          · exact qE (retR_none ym e) _ (s12.trans s3)
          · refine ⟨cs.map V.ref, s3 _ _ hD, ?_, same_upd (sm.trans s3) nD, cs ++ [p3], rs ++ [y'], ?_, ?_, ?_⟩
            · rw [List.length_map]
              exact small1000 (by omega)
            · rw [upd_same, List.map_append]
              rfl
            · have hD3 := s3 _ _ hD
              have mv : ∀ {c x}, TrAt H3 x c → TrAt (upd H3 D (.lst (cs.map V.ref ++ [V.ref p3]))) x c := fun h => h.fx (Fx.lst hD3)
              exact Paired.mono (fun _ _ h => mv h) (Paired.snoc (Paired.mono (fun _ _ h => h.same s3) pr) hp3)
            · rw [take_more hy, List.map_append, List.map_append, er]
              show rs.map some ++ [retR (lk ul) y] = rs.map some ++ [some y']
              rw [ey]
        · rintro H2 ⟨sm, cs, rs, hD, pr, er⟩
          rw [List.length_map, ql, List.take_length] at er
          have rl : rs.length = r.parts.length := by
            have := congrArg List.length er
            rw [List.length_map, List.length_map] at this
            omega
          refine ⟨D, _, rfl, SqL.of hD, fun l o nl dn => ?_⟩
          have s3 := same_new (o := .frz o (.tup (cs.map V.ref))) nl
          have s13 := s1.trans (sm.trans s3)
          have tn : TupN (upd H2 l (.frz o (.tup (cs.map V.ref)))) l (cs.map V.ref) := ⟨o, upd_same, dn⟩
          have fin := re_cat (K := K) (l := l) (ri.t.same s13) (TupN.sq tn) (Paired.mono (fun _ _ h => h.same s3) pr) rl ni (Q := Q) fun H' p s hp => qQ _ (retR_some er ni) _ p (s13.trans s) hp
          exact ⟨_, rfl, _, rfl, rslA_mono (fun x H1 h => ⟨_, rfl, rcatA_mono (fun y H2 h => ⟨_, rfl, _, rfl, l, _, rfl, .inr h.1, _, _, rfl, rfl, _, rfl, h.2⟩) h⟩) fin⟩
end
end MK


set_option Elab.async false
set_option linter.all false
set_option maxRecDepth 100000
set_option maxHeartbeats 4000000
namespace MK
open PySem PySem.Spec PyProof.Rows L2
/-- the values told in other units -/
def resc (v u : Str → Option Fr) (nl : List (Str × Ms)) : List (Str × Fr) := nl.map fun p => (p.1, mulF (un v p.1) ((scl u p.2).getD (1, 1)))
/-- each name has a value, each of its letters a unit -/
def rescOk (v u : Str → Option Fr) (nl : List (Str × Ms)) : Prop := ∀ p ∈ nl, v p.1 ≠ none ∧ scl u p.2 ≠ none
/-- what is handed to rescaled; names is locked -/
structure ResIn (H : Hp) (vd na ud : Addr) (od : Obj) (vads nads uads : List (Str × Addr)) (vl : List (Str × Fr)) (nl : List (Str × Ms)) (ul : List (Str × Fr)) (k : Nat) : Prop where
  v : VlAt H vd vads vl
  n : H na = some (.frz od (.dK (encG V.ref nads)))
  p : Paired (NmR H) nads nl
  u : VlAt H ud uads ul
  nd : (nl.map (·.1)).Nodup
  few : nl.length ≤ 1000
  nm : ∀ p ∈ nl, p.1.length ≤ 1000
  vs : ∀ s x, lk vl s = some x → FrSm 30 x
  ok : UnOk k (lk ul)
  k1 : 1 ≤ k
  k6 : k ≤ 6000
  bits : ∀ p ∈ nl, sbits k p.2 ≤ 6000
  pw : ∀ p ∈ nl, ∀ q ∈ p.2, q.2.natAbs < 2 ^ 60
  lt : ∀ p ∈ nl, ∀ q ∈ p.2, q.1.length ≤ 1000
theorem nmr_same {H H' : Hp} {ads : List (Str × Addr)} {nl : List (Str × Ms)} (s : Same H H') (p : Paired (NmR H) ads nl) : Paired (NmR H') ads nl := Paired.mono (fun _ _ z => ⟨z.1, z.2.same s⟩) p
theorem nmr_at {H : Hp} {ads : List (Str × Addr)} {nl : List (Str × Ms)} (p : Paired (NmR H) ads nl) {i : Nat} {k : L2.Key} {v : V} (h : (encG V.ref ads)[i]? = some (k, v)) : ∃ z m b, nl[i]? = some (z, m) ∧ k = Sum.inr z ∧ v = .ref b ∧ ads[i]? = some (z, b) ∧ MsN H b m := by
  have h : (ads.map fun y => ((Sum.inr y.1 : L2.Key), V.ref y.2))[i]? = some (k, v) := h
  rw [List.getElem?_map] at h
  cases e : ads[i]? with
  | none => rw [e] at h; cases h
  | some y =>
    rw [e] at h
    have h := Option.some.inj h
    obtain ⟨q, hq, h1, h2⟩ := paired_ix p e
    obtain ⟨z, m⟩ := q
    obtain ⟨h3, h4⟩ := Prod.mk.inj h
    exact ⟨z, m, y.2, hq, by rw [← h3]; exact congrArg Sum.inr h1, h4.symm, by rw [show y = (z, y.2) from Prod.ext h1 rfl], h2⟩
section
variable {P : Program} {w : World} {K : PySem.W.Frag} {mg : Str → Option Value} {base : Heap} {Y B : Addr} {pt : Addr}
/-! ### rescaled -/
abbrev scRescN : List Str := ["values", "names", "units", "name", "measure"]
theorem scResc : FnScope scRescN ["values", "names", "units"] (defScope sRescaled) := ⟨rfl, rfl, rfl, by decide +kernel, rfl, by decide +kernel, by decide +kernel⟩
def spResc (Y : Addr) : Sp := fun vs H Q E => ∃ (vd na ud : Addr) (od : Obj) (vads nads uads : List (Str × Addr)) (vl : List (Str × Fr)) (nl : List (Str × Ms)) (ul : List (Str × Fr)) (k : Nat), vs = [.ref vd, .ref na, .ref ud] ∧ ResIn H vd na ud od vads nads uads vl nl ul k ∧
  (¬ rescOk (lk vl) (lk ul) nl → ∀ H', Same H H' → E (.ref Y) none H') ∧ (rescOk (lk vl) (lk ul) nl → ∀ H' d rads, Same H H' → VlAt H' d rads (resc (lk vl) (lk ul) nl) → Q (.ref d) H')
theorem ok_resc {f fP fS : Addr} {fd dP dS : FuncData} (F : Fun K "rescaled" "rescaled" sRescaled f fd) (FP : Fun K "product" "product" sProd fP dP) (gP : mg "product" = some (.ref fP)) (mG : mg "gcd" = some (.builtin "math.gcd"))
    (GS : FnOk P w K mg base (L2N.CX P w) 3 fS dS ["measure", "units"] (spScale Y)) (kS : PySem.W.keepIn K (.ref fS) = true) (bS : Binds K dS ["measure", "units"] []) (gS : mg "scale" = some (.ref fS)) (eY : ErrAt K mg "NoValue" Y) :
    FnOk P w K mg base (L2N.CX P w) 4 f fd ["values", "names", "units"] (spResc Y) := by
  have GP : FnOk P w K mg base CX0 1 fP dP ["one", "other"] (spTwoF Y .times) := ok_prod FP mG
  have bP := FP.binds (ps := ["one", "other"]) fun _ _ _ _ _ _ us hl => match us, hl with | [_, _], _ => rfl
  refine F.okN scResc (fun vs H Q E h => ?_) (fun cdv A outer s H vs Q E hr h => ?_)
  · obtain ⟨vd, na, ud, od, vads, nads, uads, vl, nl, ul, k, rfl, _⟩ := h
    rfl
  · obtain ⟨vd, na, ud, od, vads, nads, uads, vl, nl, ul, k, rfl, ri, qE, qQ⟩ := h
    have nd := scResc.nd
    have hu := hu_of hr
    have hr1 : Room 1 _ := hr.mono (by omega)
    refine ⟨_, pss_cons (ps_for (passes_of rfl) rfl (pi_keys (pv 1)) (pg_name (i := 3) nd rfl (.inl rfl))
        (pss_one (ps_if (pt_cmp (pc_dnotin hu (pv 3) (pv 0))) (pss_one (L2N.ps_raise rfl (L2N.takes_of rfl rfl rfl rfl) (L2N.pmk_ownA PySem.F.excBase_ValueError eY.x1 eY.g eY.k (raises_own eY.b eY.t) rfl
          (pa_cons (pe_joined (.cons pe_str (.cons (pe_fmt (pv 3)) (.cons pe_str .nil)))) pa_nil)))) pss_nil)))
      (pss_one (ps_ret (MKE.pe_dcE (E := E) (own := [("name", 3), ("measure", 4)]) (g := gTup K 2 (gCons (gName 3) (gCons (gName 4) gNil))) (tt := tYes) rfl nd rfl rfl (L2N.takes_of rfl rfl rfl rfl) (pi_items (pv 1))
        (blkOk_by (N := scRescN) (sc := defScope sRescaled) (by decide +kernel))
        (fun _ _ _ _ _ => by exact pg_tup rfl (pgs_cons (pg_name (i := 3) nd rfl (Or.inl rfl)) (pgs_cons (pg_name (i := 4) nd rfl (Or.inl rfl)) pgs_nil)))
        (fun _ _ _ _ _ => pts_nil) (fun _ _ _ _ _ => pv 3)
        (fun _ _ _ _ _ => pe_call GP hr1 (by rfl) gP FP.kp bP .nil pass0 (pa_cons (pe_dget hu (pv 0) (pv 3) (fun _ _ => rfl)) (pa_cons (pe_callS (E := fun _ => E) GS hr (by rfl) gS kS bS (fun σ => MKE.bx_pass σ) (pa_cons (pv 4) (pa_cons (pv 2) pa_nil))) pa_nil)))))), ?_⟩
    have pl := ri.p.length
    have el : (encG V.ref nads).length = nl.length := by rw [encG_len]; exact pl
    refine ⟨_, rfl, na, od, rfl, .inl ⟨_, ri.n, for_it walk_keys (fun i σ H2 => ∃ v3 : Option V, σ = [some (.ref vd), some (.ref na), some (.ref ud), v3, none] ∧ H2 = H ∧ ∀ p ∈ nl.take i, lk vl p.1 ≠ none)
      ⟨none, rfl, rfl, fun p hp => absurd hp (by simp)⟩ (fun i σ H2 _ z => by obtain ⟨_, _, e, _⟩ := z; rw [e]; exact ri.n) ?_ ?_⟩⟩
    · rintro i x σ H2 H3 hi ⟨v3, rfl, rfl, all⟩ ⟨rfl, kk, vv, hk, rfl⟩
      obtain ⟨z, m, b, hz, rfl, _, _, _⟩ := nmr_at ri.p hk
      have zm := List.mem_of_getElem? hz
      refine ⟨_, rfl, _, rfl, vd, _, rfl, DGet.k (k := Sum.inr z) ri.v.1, _, rfl, ?_⟩
      rw [encG_val]
      cases e : lk vads z with
      | some c =>
        refine iteF ?_
        refine ⟨_, rfl, rfl, fun p hp => ?_⟩
        rw [take_more hz, List.mem_append, List.mem_singleton] at hp
        rcases hp with hp | rfl
        · exact all p hp
        · rcases frs_lk ri.v.2 z with ⟨e3, _⟩ | ⟨_, _, _, e3, _⟩
          · rw [e] at e3
            cases e3
          · rw [e3]
            exact fun h => nomatch h
      | none =>
        refine iteT ?_
        have e2 : lk vl z = none := by
          rcases frs_lk ri.v.2 z with ⟨_, e3⟩ | ⟨_, _, e3, _⟩
          · exact e3
          · rw [e] at e3
            cases e3
        have zl := ri.nm _ zm
        have zl : z.length ≤ 1000 := zl
        have l1 : (Str.empty ++ Str.ofString "the input ").length = 10 := by decide +kernel
        have l3 : (Str.ofString " has no value").length = 13 := by decide +kernel
        have sz : sizeLine = 16777216 := sizeLine_eq
        refine ⟨_, rfl, ?_, _, rfl, .inl ⟨z, rfl, ?_, _, rfl, ?_, _, rfl, ?_, ?_⟩⟩
        · omega
        · omega
        · rw [app_len, l1]
          omega
        · rw [app_len, app_len, l1, l3]
          omega
        · exact ⟨by show 1 ≤ sizeLine; omega, qE (fun h => (h _ zm).1 e2) _ (Same.refl _)⟩
    · rintro σ H2 ⟨v3, rfl, rfl, all⟩
      rw [el, List.take_length] at all
      refine ⟨_, rfl, na, od, _, rfl, ri.n, fun D nD => ?_⟩
      refine dc_items (fun i H3 => Same H2 H3 ∧ (∀ p ∈ nl.take i, scl (lk ul) p.2 ≠ none) ∧ ∃ rads : List (Str × Addr), H3 D = some (.dK (encG V.ref rads)) ∧ Paired (FrR H3) rads (resc (lk vl) (lk ul) (nl.take i)))
        ⟨same_new nD, fun p hp => absurd hp (by simp), [], upd_same, .nil⟩ (fun i H3 _ z => z.1 _ _ ri.n) ?_ ?_
      · rintro i kk vv T H3 hk ⟨s3, okI, rads, hD, pr⟩ nT
        obtain ⟨z, m, b, hz, rfl, rfl, _, hb⟩ := nmr_at ri.p hk
        have zm := List.mem_of_getElem? hz
        have hi : i < nl.length := (List.getElem?_eq_some_iff.mp hz).1
        have sT := same_new (o := .tup [kV (Sum.inr z), V.ref b]) nT
        have s3T := s3.trans sT
        refine ⟨T, _, rfl, SqT.of upd_same, rfl, _, _, rfl, _, _, rfl, rfl, rfl, ?_⟩
        obtain ⟨c, x, e1, e2, e3⟩ := vl_get (ri.v.same s3T) (all _ zm)
        have nz : z ∉ (nl.take i).map (·.1) := fun h => by
          have hn := ri.nd
          rw [← List.take_append_drop i nl, List.map_append] at hn
          refine (List.nodup_append.mp hn).2.2 z h z (List.mem_map.mpr ⟨(z, m), List.mem_of_getElem? (i := 0) ?_, rfl⟩) rfl
          rw [List.getElem?_drop]
          exact hz
        refine ⟨_, rfl, _, rfl, _, rfl, vd, _, rfl, e2, _, rfl, _, rfl, b, ud, m, uads, ul, k, rfl, ⟨hb.same s3T, ri.u.same s3T, ri.ok, ri.k1, ri.k6, ri.bits _ zm, ri.pw _ zm, ri.lt _ zm⟩, fun e H4 s4 => ?_, fun y ey H4 p4 s4 hp4 => ?_⟩
        · exact qE (fun h => (h _ zm).2 e) _ (s3T.trans s4)
        · have fy : FrSm (sbits k m) y := by
            have := scl_sm ri.ok ri.k1 m
            unfold scl at ey
            split at ey
            · cases ey
              exact this
            · cases ey
          have bt := ri.bits _ zm
          have bt : sbits k m ≤ 6000 := bt
          refine ⟨c, p4, x, y, 30, sbits k m, rfl, s4 _ _ e3, hp4, ri.vs _ _ e1, fy, by omega, (fun e => nomatch e), fun u eu H5 p5 s5 hp5 => ?_⟩
          have eu : mulF x y = u := Option.some.inj eu
          have s45 := s4.trans s5
          have hD5 := (sT.trans s45) _ _ hD
          have rk : rads.map (·.1) = (nl.take i).map (·.1) := by
            have : ∀ {as : List (Str × Addr)} {bs : List (Str × Fr)}, Paired (FrR H3) as bs → as.map (·.1) = bs.map (·.1) := fun h => by
              induction h with
              | nil => rfl
              | cons q _ ih => rw [List.map_cons, List.map_cons, q.1, ih]
            rw [this pr]
            unfold resc
            rw [List.map_map]
            rfl
          refine ⟨_, Sum.inr z, rfl, hD5, ?_, same_upd (s3T.trans s45) nD, fun p hp => ?_, rads ++ [(z, p5)], ?_, ?_⟩
          · rw [encG_len, pr.length]
            unfold resc
            rw [List.length_map, List.length_take]
            exact small1000 (by have := ri.few; omega)
          · rw [take_more hz, List.mem_append, List.mem_singleton] at hp
            rcases hp with hp | rfl
            · exact okI p hp
            · show scl (lk ul) m ≠ none
              rw [ey]
              exact fun h => nomatch h
          · rw [upd_same]
            have ep := encG_put V.ref z p5 rads (by rw [rk]; exact List.Nodup.sublist (List.Sublist.map _ (List.take_sublist _ _)) ri.nd)
            rw [put_new (by rw [rk]; exact nz)] at ep
            exact congrArg (fun z => some (HO.dK z)) ep
          · have e5 : resc (lk vl) (lk ul) (nl.take (i + 1)) = resc (lk vl) (lk ul) (nl.take i) ++ [(z, u)] := by
              unfold resc
              rw [take_more hz, List.map_append]
              show _ ++ [(z, mulF (un (lk vl) z) ((scl (lk ul) m).getD (1, 1)))] = _
              have : un (lk vl) z = x := by unfold un; rw [e1]; rfl
              rw [this, ey, ← eu]
              rfl
            rw [e5]
            have one : FracAt (upd H5 D (.dK (putK (encG V.ref rads) (Sum.inr z) (V.ref p5)))) p5 u.1 u.2 := by
              show upd H5 D _ p5 = _
              have h5 : H5 p5 = some (.tup [.int u.1, .int u.2]) := hp5
              rw [upd_ne (fun e => by rw [e, hD5] at h5; cases h5)]
              exact h5
            refine Paired.snoc (Paired.mono (fun x' y' q' => ⟨q'.1, ?_⟩) pr) ⟨rfl, one⟩
            have q5 : H5 x'.2 = some (.tup [.int y'.2.1, .int y'.2.2]) := (sT.trans s45) _ _ q'.2
            show upd H5 D _ x'.2 = _
            rw [upd_ne (fun e => by rw [e, hD5] at q5; cases q5)]
            exact q5
      · rintro H3 ⟨s3, okI, rads, hD, pr⟩
        rw [el, List.take_length] at pr okI
        exact qQ (fun p hp => ⟨all p hp, okI p hp⟩) _ D rads s3 ⟨hD, pr⟩
end
end MK


set_option Elab.async false
set_option linter.all false
set_option maxRecDepth 100000
set_option maxHeartbeats 4000000
namespace MK
open PySem PySem.Spec PyProof.Rows L2
/-- what isinstance tells of an error of the class at Y -/
structure KY (K : PySem.W.Frag) (mg : Str → Option Value) (M N U Y B : Addr) : Prop where
  c : ExcC K Y
  kE : PySem.W.kitOne K (.ref Y) (.type "ValueError") = some true
  kY : PySem.W.kitOne K (.ref Y) (.ref Y) = some true
  kN : PySem.W.kitOne K (.ref Y) (.ref N) = some false
  kU : PySem.W.kitOne K (.ref Y) (.ref U) = some false
  kB : PySem.W.kitOne K (.ref Y) (.ref B) = some false
  em : PySem.W.exmOne K (.ref Y) (.ref M) = some true
  gM : mg "MeasureError" = some (.ref M)
  gN : mg "NoFit" = some (.ref N)
  gU : mg "Unlike" = some (.ref U)
  gY : mg "NoValue" = some (.ref Y)
  gB : mg "ByNought" = some (.ref B)
  mE : mg "ValueError" = none
  mi : mg "isinstance" = none
  mn : mg "int" = none
section
variable {P : Program} {w : World} {K : PySem.W.Frag} {mg : Str → Option Value} {base : Heap} {M N U Y B : Addr}
/-! ### _law_told -/
theorem scTold3 : FnScope ["_law_work", "_law_one", "_law_other", "_law_more", "e", "_law_good"] ["_law_work", "_law_one", "_law_other", "_law_more"] (defScope sLTold) := ⟨rfl, rfl, rfl, by decide +kernel, rfl, by decide +kernel, by decide +kernel⟩
/-- what a told asks, of each work -/
def spTold3 (Y : Addr) (dp : Nat) : Sp := fun vs H Q E =>
  (∃ a b, vs = [.str "scale", .ref a, .ref b, .non] ∧ spScale Y [.ref a, .ref b] H Q fun _ _ H' => ∀ H'', Same H' H'' → Q .non H'') ∨
  (∃ a b, vs = [.str "retold", .ref a, .ref b, .non] ∧ spRetold Y dp [.ref a, .ref b] H Q fun _ _ H' => ∀ H'', Same H' H'' → Q .non H'') ∨
  (∃ a b c, vs = [.str "rescaled", .ref a, .ref b, .ref c] ∧ spResc Y [.ref a, .ref b, .ref c] H Q fun _ _ H' => ∀ H'', Same H' H'' → Q .non H'')
theorem str_ne {a b : Str} (h : a ≠ b) : decide (V.str a = V.str b) = false := decide_eq_false fun e => h (V.str.inj e)
theorem str_eq (a : Str) : decide (V.str a = V.str a) = true := decide_eq_true rfl
theorem ok_told3 {n : Nat} {f fS fR fC : Addr} {fd dS dR dC : FuncData} (F : Fun K "_law_told" "_law_told" sLTold f fd) (k : KY K mg M N U Y B)
    (GS : FnOk P w K mg base (L2N.CX P w) 3 fS dS ["measure", "units"] (spScale Y)) (kS : PySem.W.keepIn K (.ref fS) = true) (bS : Binds K dS ["measure", "units"] []) (gS : mg "scale" = some (.ref fS))
    (GR : FnOk P w K mg base (L2N.CX P w) (n + 4) fR dR ["reckoning", "units"] (spRetold Y n)) (kR : PySem.W.keepIn K (.ref fR) = true) (bR : Binds K dR ["reckoning", "units"] []) (gR : mg "retold" = some (.ref fR))
    (GC : FnOk P w K mg base (L2N.CX P w) 4 fC dC ["values", "names", "units"] (spResc Y)) (kC : PySem.W.keepIn K (.ref fC) = true) (bC : Binds K dC ["values", "names", "units"] []) (gC : mg "rescaled" = some (.ref fC)) :
    FnOk P w K mg base CX0 (n + 5) f fd ["_law_work", "_law_one", "_law_other", "_law_more"] (spTold3 Y n) := by
  refine F.ok scTold3 (fun vs H Q E h => ?_) (fun cdv A outer s H vs Q E hr h => ?_)
  · rcases h with ⟨a, b, rfl, _⟩ | ⟨a, b, rfl, _⟩ | ⟨a, b, c, rfl, _⟩ <;> rfl
  · have nd := scTold3.nd
    have hr3 : Room 3 _ := hr.mono (by omega)
    have hr4 : Room 4 _ := hr.mono (by omega)
    refine ⟨_, pss_one (L2N.ps_try_as (i := 4) rfl rfl nd rfl rfl ⟨rfl, by decide, .inl k.gM⟩ takesN
      (fun W pn xe tk _ => pss_cons (ps_if (pt_cmpR op_eq (pv 0) pe_str (nomark _)) (pss_one (ps_ret (pe_callS GS hr3 (by rfl) gS kS bS (fun σ => L2N.passAt tk σ) (pa_cons (pv 1) (pa_cons (pv 2) pa_nil))))) pss_nil)
        (pss_cons (ps_if (pt_cmpR op_eq (pv 0) pe_str (nomark _)) (pss_one (ps_ret (pe_callS GR hr (by rfl) gR kR bR (fun σ => L2N.passAt tk σ) (pa_cons (pv 1) (pa_cons (pv 2) pa_nil))))) pss_nil)
        (pss_one (ps_ret (pe_callS GC hr4 (by rfl) gC kC bC (fun σ => L2N.passAt tk σ) (pa_cons (pv 1) (pa_cons (pv 2) (pa_cons (pv 3) pa_nil))))))))
      (fun a oe cls d pn hz hf => pss_cons (ps_set (i := 5) nd rfl (.inl rfl)
          (pe_and (pe_callB (call_isS hz hf) (by rfl) k.mi PyProof.Rows.boot_isinstance (pa_cons (pv 4) (pa_cons (pe_bltn (v := .ty "ValueError") (by rfl) k.mE L2.bootVE rfl) pa_nil)))
          (pe_and (pe_callB (call_isS hz hf) (by rfl) k.mi PyProof.Rows.boot_isinstance (pa_cons (pv 4) (pa_cons (pe_glob (v := .ref Y) (by rfl) k.gY rfl) pa_nil)))
          (pe_one (pe_not (pe_callB (call_isS hz hf) (by rfl) k.mi PyProof.Rows.boot_isinstance (pa_cons (pv 4) (pa_cons (pe_glob (v := .ref N) (by rfl) k.gN rfl) pa_nil))))))))
        (pss_one (ps_ret (pe_ix (show IxR _ (rIxL K) from ix_list) (pe_lst (pa_cons pe_non (pa_cons pe_bl pa_nil)))
          (pe_callTy call_int1 (by rfl) k.mn PyProof.Rows.boot_int (pa_cons (pe_or (pe_not (pv 5))
            (pe_or (pe_callB (call_isS hz hf) (by rfl) k.mi PyProof.Rows.boot_isinstance (pa_cons (pv 4) (pa_cons (pe_glob (v := .ref U) (by rfl) k.gU rfl) pa_nil)))
            (pe_one (pe_callB (call_isS hz hf) (by rfl) k.mi PyProof.Rows.boot_isinstance (pa_cons (pv 4) (pa_cons (pe_glob (v := .ref B) (by rfl) k.gB rfl) pa_nil)))))) pa_nil)) (fun _ _ => rfl)))))), ?_⟩
    rcases h with ⟨a1, b1, rfl, c, ud, m, ads, ul, kk, e0, si, qE, qQ⟩ | ⟨a1, b1, rfl, h⟩ | ⟨a1, b1, c1, rfl, h⟩
    · refine ⟨_, rfl, rfl, _, rfl, ?_⟩
      rw [str_eq]
      refine iteT ?_
      refine ⟨_, rfl, _, rfl, c, ud, m, ads, ul, kk, e0, si, fun e H1 s1 => ?_, fun x e H1 p s1 hp => qQ x e H1 p s1 hp⟩
      refine ⟨true, k.em, fun _ a na => ?_, fun z => nomatch z⟩
      refine ⟨_, rfl, Y, rfl, rfl, k.c, _, _, true, rfl, fun u e => e, k.kE, true, rfl, iteT ?_⟩
      refine ⟨_, rfl, Y, rfl, rfl, k.c, _, _, true, rfl, fun u e => e, k.kY, true, rfl, iteT ?_⟩
      refine ⟨_, rfl, Y, rfl, rfl, k.c, _, _, false, rfl, fun u e => e, k.kN, false, rfl, ?_⟩
      refine ⟨(by show 2 ≤ sizeLine; decide), fun l nl => ?_⟩
      refine ⟨_, rfl, true, rfl, false, rfl, iteF ?_⟩
      refine ⟨_, rfl, Y, rfl, rfl, k.c, _, _, false, rfl, fun u e => e, k.kU, false, rfl, iteF ?_⟩
      refine ⟨_, rfl, Y, rfl, rfl, k.c, _, _, false, rfl, fun u e => e, k.kB, .inr ⟨_, rfl, ?_⟩⟩
      refine ⟨l, _, 0, _, rfl, rfl, SqL.of upd_same, rfl, ?_⟩
      exact qE e H1 s1 _ (same_new nl)
    · cases n with
      | zero => exact h.elim
      | succ n =>
      obtain ⟨t, ud, r, ads, ul, kk, e0, ri, dp, qE, qQ⟩ := h
      refine ⟨_, rfl, rfl, _, rfl, ?_⟩
      rw [str_ne (by decide +kernel)]
      refine iteF ?_
      refine ⟨_, rfl, rfl, _, rfl, ?_⟩
      rw [str_eq]
      refine iteT ?_
      refine ⟨_, rfl, _, rfl, t, ud, r, ads, ul, kk, e0, ri, dp, fun e H1 s1 => ?_, fun x e H1 p s1 hp => qQ x e H1 p s1 hp⟩
      refine ⟨true, k.em, fun _ a na => ?_, fun z => nomatch z⟩
      refine ⟨_, rfl, Y, rfl, rfl, k.c, _, _, true, rfl, fun u e => e, k.kE, true, rfl, iteT ?_⟩
      refine ⟨_, rfl, Y, rfl, rfl, k.c, _, _, true, rfl, fun u e => e, k.kY, true, rfl, iteT ?_⟩
      refine ⟨_, rfl, Y, rfl, rfl, k.c, _, _, false, rfl, fun u e => e, k.kN, false, rfl, ?_⟩
      refine ⟨(by show 2 ≤ sizeLine; decide), fun l nl => ?_⟩
      refine ⟨_, rfl, true, rfl, false, rfl, iteF ?_⟩
      refine ⟨_, rfl, Y, rfl, rfl, k.c, _, _, false, rfl, fun u e => e, k.kU, false, rfl, iteF ?_⟩
      refine ⟨_, rfl, Y, rfl, rfl, k.c, _, _, false, rfl, fun u e => e, k.kB, .inr ⟨_, rfl, ?_⟩⟩
      refine ⟨l, _, 0, _, rfl, rfl, SqL.of upd_same, rfl, ?_⟩
      exact qE e H1 s1 _ (same_new nl)
    · obtain ⟨vd, na, ud, od, vads, nads, uads, vl, nl0, ul, kk, e0, ri, qE, qQ⟩ := h
      refine ⟨_, rfl, rfl, _, rfl, ?_⟩
      rw [str_ne (by decide +kernel)]
      refine iteF ?_
      refine ⟨_, rfl, rfl, _, rfl, ?_⟩
      rw [str_ne (by decide +kernel)]
      refine iteF ?_
      refine ⟨_, rfl, _, rfl, _, rfl, vd, na, ud, od, vads, nads, uads, vl, nl0, ul, kk, e0, ri, fun e H1 s1 => ?_, fun e H1 d rads s1 hd => qQ e H1 d rads s1 hd⟩
      refine ⟨true, k.em, fun _ a na => ?_, fun z => nomatch z⟩
      refine ⟨_, rfl, Y, rfl, rfl, k.c, _, _, true, rfl, fun u e => e, k.kE, true, rfl, iteT ?_⟩
      refine ⟨_, rfl, Y, rfl, rfl, k.c, _, _, true, rfl, fun u e => e, k.kY, true, rfl, iteT ?_⟩
      refine ⟨_, rfl, Y, rfl, rfl, k.c, _, _, false, rfl, fun u e => e, k.kN, false, rfl, ?_⟩
      refine ⟨(by show 2 ≤ sizeLine; decide), fun l nl => ?_⟩
      refine ⟨_, rfl, true, rfl, false, rfl, iteF ?_⟩
      refine ⟨_, rfl, Y, rfl, rfl, k.c, _, _, false, rfl, fun u e => e, k.kU, false, rfl, iteF ?_⟩
      refine ⟨_, rfl, Y, rfl, rfl, k.c, _, _, false, rfl, fun u e => e, k.kB, .inr ⟨_, rfl, ?_⟩⟩
      refine ⟨l, _, 0, _, rfl, rfl, SqL.of upd_same, rfl, ?_⟩
      exact qE e H1 s1 _ (same_new nl)
/-! ### _law_unit -/
theorem scUnit : FnScope ["_law_cell"] ["_law_cell"] (defScope sUnit) := ⟨rfl, rfl, rfl, by decide +kernel, rfl, by decide +kernel, by decide +kernel⟩
def spUnit : Sp := fun vs H Q _ => ∃ c : Int, vs = [.int c] ∧ 0 ≤ c ∧ ∀ (H' : Hp) (p : Addr) (x : Fr), Same H H' → H p = none → FracAt H' p x.1 x.2 → FrSm 14 x → 0 < x.1 → Q (.ref p) H'
theorem two_int {a b : Int} {i : Int} (h0 : 0 ≤ i) (h1 : i < 2) : ∃ z : Int, atI [V.int a, V.int b] i = some (V.int z) ∧ (z = a ∨ z = b) := by
  obtain ⟨u, hu, e⟩ := two_val (a := V.int a) (b := V.int b) h0 h1
  rcases e with rfl | rfl
  · exact ⟨a, hu, .inl rfl⟩
  · exact ⟨b, hu, .inr rfl⟩
theorem sm14 {x : Int} (h : x.natAbs ≤ 10 ^ 4) : Sm 14 x := Nat.lt_of_le_of_lt h (by decide)
theorem ok_unit {f fO fS : Addr} {fd fdO fdS : FuncData} (F : Fun K "_law_unit" "_law_unit" sUnit f fd) (FO : Fun K "_law_lowest" "_law_lowest" sLowest fO fdO) (bO : Binds K fdO ["_law_above", "_law_below"] []) (gO : mg "_law_lowest" = some (.ref fO))
    (FS : Fun K "_law_shared" "_law_shared" sShared fS fdS) (bS : Binds K fdS ["_law_one", "_law_other"] []) (gS : mg "_law_shared" = some (.ref fS)) (ma : mg "abs" = none) : FnOk P w K mg base CX0 3 f fd ["_law_cell"] spUnit := by
  have GO : FnOk P w K mg base CX0 2 fO fdO ["_law_above", "_law_below"] spLowest := ok_lowest FO FS bS gS ma
  refine F.ok scUnit (fun vs H Q E h => ?_) (fun cdv A outer s H vs Q E hr h => ?_)
  · obtain ⟨c, rfl, _⟩ := h
    rfl
  · obtain ⟨c, rfl, c0, q⟩ := h
    refine ⟨_, pss_one (ps_ret (pe_call GO hr (by rfl) gO FO.kp bO .nil pass0 (pa_cons
        (pe_op op_add pe_int (pe_op op_mod (pv 0) (pe_ix ix_list (pe_lst (pa_cons pe_int (pa_cons (pe_op op_pow pe_int pe_int) pa_nil))) (pe_op op_mod (pe_op op_fdiv (pv 0) pe_int) pe_int) (fun _ _ => rfl))))
        (pa_cons (pe_op op_add pe_int (pe_op op_mod (pe_op op_fdiv (pv 0) pe_int) (pe_ix ix_list (pe_lst (pa_cons pe_int (pa_cons (pe_op op_pow pe_int pe_int) pa_nil))) (pe_op op_mod (pe_op op_fdiv (pv 0) pe_int) pe_int) (fun _ _ => rfl)))) pa_nil)))), ?_⟩
    obtain ⟨z1, e1, h1⟩ := two_int (a := 9) (b := 10 ^ 4) (i := c / 9 % 2) (by omega) (by omega)
    obtain ⟨z2, e2, h2⟩ := two_int (a := 5) (b := 10 ^ 4) (i := c / 90 % 2) (by omega) (by omega)
    refine ⟨_, rfl, _, _, rfl, rfl, ⟨by decide, by decide, by decide⟩, (by show 2 ≤ sizeLine; decide), fun l1 n1 => ?_⟩
    refine ⟨_, rfl, _, _, rfl, rfl, ⟨by decide, by decide⟩, _, _, rfl, rfl, (by show (0 : Int) < 2; decide), l1, _, _, _, rfl, rfl, SqL.of upd_same, e1, _, _, rfl, rfl, (by rcases h1 with rfl | rfl <;> decide), _, _, rfl, rfl, ?_⟩
    refine ⟨_, rfl, _, _, rfl, rfl, ⟨by decide, by decide⟩, _, _, rfl, rfl, ⟨by decide, by decide, by decide⟩, (by show 2 ≤ sizeLine; decide), fun l2 n2 => ?_⟩
    refine ⟨_, rfl, _, _, rfl, rfl, ⟨by decide, by decide⟩, _, _, rfl, rfl, (by show (0 : Int) < 2; decide), l2, _, _, _, rfl, rfl, SqL.of upd_same, e2, _, _, rfl, rfl, (by rcases h2 with rfl | rfl <;> decide), _, _, rfl, rfl, ?_⟩
    have g1 : 0 < z1 ∧ z1 ≤ 10 ^ 4 := by rcases h1 with rfl | rfl <;> decide
    have g2 : 0 < z2 ∧ z2 ≤ 10 ^ 4 := by rcases h2 with rfl | rfl <;> decide
    have a1 := Int.emod_nonneg c (Int.ne_of_gt g1.1)
    have a2 := Int.emod_lt_of_pos c g1.1
    have b1 := Int.emod_nonneg (c / 18) (Int.ne_of_gt g2.1)
    have b2 := Int.emod_lt_of_pos (c / 18) g2.1
    generalize c % z1 = x at a1 a2 ⊢
    generalize c / 18 % z2 = y at b1 b2 ⊢
    have y0 : 1 + y ≠ 0 := by omega
    have sx : Sm 14 (1 + x) := sm14 (by omega)
    have sy : Sm 14 (1 + y) := sm14 (by omega)
    refine ⟨1 + x, 1 + y, 14, rfl, y0, sy, by decide, fun p np => ?_⟩
    have s1 := (same_new (o := .lst [V.int 9, V.int (10 ^ 4)]) n1).trans (same_new (o := .lst [V.int 5, V.int (10 ^ 4)]) n2)
    refine q _ p (norm (1 + x) (1 + y)) (s1.trans (same_new np)) (s1.free np) upd_same ⟨norm_red y0, norm_sm y0 sx sy⟩ ?_
    have nv := norm_val (x := 1 + x) y0
    have nr := (norm_red (x := 1 + x) y0).1
    have : 0 < (norm (1 + x) (1 + y)).1 * (1 + y) := by
      rw [nv]
      exact Int.mul_pos (by omega) nr
    exact Int.pos_of_mul_pos_left this (by omega)
end
end MK


set_option Elab.async false
set_option linter.all false
set_option maxRecDepth 100000
set_option maxHeartbeats 4000000
namespace MK
open PySem PySem.Spec PyProof.Rows L2
section
variable {P : Program} {w : World} {K : PySem.W.Frag} {mg : Str → Option Value} {base : Heap}
/-! ### _law_scale -/
theorem scLScale : FnScope ["_law_measure", "_law_units", "_law_above", "_law_below", "_law_letter", "_law_many", "_law_turn"] ["_law_measure", "_law_units"] (defScope sLScale) := ⟨rfl, rfl, rfl, by decide +kernel, rfl, by decide +kernel, by decide +kernel⟩
def spLScale : Sp := fun vs H Q _ => ∃ (b ud : Addr) (m : Ms) (ads : List (Str × Addr)) (ul : List (Str × Fr)) (k : Nat), vs = [.ref b, .ref ud] ∧ SclIn H b ud m ads ul k ∧ (∀ p ∈ m, p.2.natAbs ≤ 1000) ∧ ∀ H' v, Same H H' → Told H' (scl (lk ul) m) v → Q v H'
theorem ok_lscale {f fO fS : Addr} {fd fdO fdS : FuncData} (F : Fun K "_law_scale" "_law_scale" sLScale f fd) (FO : Fun K "_law_lowest" "_law_lowest" sLowest fO fdO) (bO : Binds K fdO ["_law_above", "_law_below"] []) (gO : mg "_law_lowest" = some (.ref fO))
    (FS : Fun K "_law_shared" "_law_shared" sShared fS fdS) (bS : Binds K fdS ["_law_one", "_law_other"] []) (gS : mg "_law_shared" = some (.ref fS)) (ma : mg "abs" = none) (mr : mg "range" = none) (mn : mg "int" = none) : FnOk P w K mg base CX0 3 f fd ["_law_measure", "_law_units"] spLScale := by
  have GO : FnOk P w K mg base CX0 2 fO fdO ["_law_above", "_law_below"] spLowest := ok_lowest FO FS bS gS ma
  refine F.ok scLScale (fun vs H Q E h => ?_) (fun cdv A outer s H vs Q E hr h => ?_)
  · obtain ⟨b, ud, m, ads, ul, k, rfl, _⟩ := h
    rfl
  · obtain ⟨b, ud, m, ads, ul, k, rfl, si, sm1, q⟩ := h
    have nd := scLScale.nd
    have hu := hu_of hr
    refine ⟨_, pss_cons (ps_asg (pe_tup (pa_cons pe_int (pa_cons pe_int pa_nil))) (pg_tup rfl (pgs_cons (pg_name (i := 2) nd rfl (.inl rfl)) (pgs_cons (pg_name (i := 3) nd rfl (.inl rfl)) pgs_nil))))
      (pss_cons (ps_for PassesOwn.never rfl (pi_tup (pv 0)) (pg_tup rfl (pgs_cons (pg_name (i := 4) nd rfl (.inl rfl)) (pgs_cons (pg_name (i := 5) nd rfl (.inl rfl)) pgs_nil)))
        (pss_cons (ps_if (pt_cmp (pc_dnotin hu (pv 4) (pv 1))) (pss_one (ps_ret pe_non)) pss_nil)
        (pss_one (ps_for PassesOwn.never rfl (pi_range1 (by rfl) mr (pa_cons (pe_callB call_abs (by rfl) ma PyProof.Rows.boot_abs (pa_cons (pv 5) pa_nil)) pa_nil)) (pg_name (i := 6) nd rfl (.inl rfl))
          (pss_cons (ps_set (i := 2) nd rfl (.inl rfl) (pe_op op_mulW (pv 2) (pe_ix ix_tup (pe_dget hu (pv 1) (pv 4) (fun _ _ => rfl)) (pe_callTy call_int1 (by rfl) mn PyProof.Rows.boot_int (pa_cons (pe_cmpR op_lt (pv 5) pe_int (nomark _)) pa_nil)) (fun _ _ => rfl))))
          (pss_one (ps_set (i := 3) nd rfl (.inl rfl) (pe_op op_mulW (pv 3) (pe_ix ix_tup (pe_dget hu (pv 1) (pv 4) (fun _ _ => rfl)) (pe_callTy call_int1 (by rfl) mn PyProof.Rows.boot_int (pa_cons (pe_cmpR op_gt (pv 5) pe_int (nomark _)) pa_nil)) (fun _ _ => rfl))))))))))
      (pss_one (ps_ret (pe_call GO hr (by rfl) gO FO.kp bO .nil pass0 (pa_cons (pv 2) (pa_cons (pv 3) pa_nil)))))), ?_⟩
    obtain ⟨ts, tn, pm⟩ := si.ms
    have tl := pm.length
    refine ⟨(by show 2 ≤ sizeLine; decide), fun p0 np0 => ?_⟩
    have s0 := same_new (o := .tup [V.int 1, V.int 1]) np0
    refine ⟨p0, _, rfl, SqT.of upd_same, rfl, _, _, rfl, _, _, rfl, rfl, ?_⟩
    generalize hH : upd H p0 (HO.tup [V.int 1, V.int 1]) = H1 at s0 ⊢
    have si1 := si.same s0
    have tn1 : SqT K H1 b (ts.map V.ref) := TupN.sq (by obtain ⟨o, e, d⟩ := tn; exact ⟨o, s0 _ _ e, d⟩)
    refine ⟨_, rfl, b, rfl, ⟨_, tn1⟩, for_tup (xs := ts.map V.ref) (fun i σ H2 => ∃ v4 v5 v6 : Option V, σ = [some (.ref b), some (.ref ud), some (.int (sA (lk ul) (m.take i))), some (.int (sB (lk ul) (m.take i))), v4, v5, v6] ∧ H2 = H1 ∧ hasU (lk ul) (m.take i) = true)
      ⟨none, none, none, rfl, rfl, rfl⟩ (fun i σ H2 _ z => by obtain ⟨_, _, _, _, e, _⟩ := z; rw [e]; exact tn1) ?_ ?_⟩
    · rintro i x σ H2 hx ⟨v4, v5, v6, rfl, rfl, all⟩
      obtain ⟨t, ht, rfl⟩ := at_map hx
      obtain ⟨p, hp, htp⟩ := paired_ix pm ht
      have htp : H t = some (.tup [.str p.1, .int p.2]) := htp
      have hpm := List.mem_of_getElem? hp
      refine ⟨t, _, rfl, SqT.of (s0 _ _ htp), rfl, _, _, rfl, _, _, rfl, rfl, ?_⟩
      refine ⟨_, rfl, _, rfl, ud, _, rfl, DGet.k (k := Sum.inr p.1) si1.v.1, _, rfl, ?_⟩
      rw [encG_val]
      cases e : lk ads p.1 with
      | none =>
        refine iteT ?_
        have e2 : lk ul p.1 = none := by
          rcases frs_lk si1.v.2 p.1 with ⟨_, e3⟩ | ⟨_, _, e3, _⟩
          · exact e3
          · rw [e] at e3
            cases e3
        refine q _ _ s0 ?_
        unfold scl
        rw [if_neg]
        · exact rfl
        · intro z
          have := List.all_eq_true.mp z p hpm
          rw [e2] at this
          cases this
      | some c0 =>
        refine iteF ?_
        have hpu : lk ul p.1 ≠ none := by
          rcases frs_lk si1.v.2 p.1 with ⟨e3, _⟩ | ⟨_, _, _, e3, _⟩
          · rw [e] at e3
            cases e3
          · rw [e3]
            exact fun h => nomatch h
        obtain ⟨c, u, e1, e2, e3⟩ := vl_get si1.v hpu
        have fu := (si.ok p.1 u e1).1
        have hb := sbits_mem (k := k) hpm
        have sb := si.bits
        have hs := s_sm si.ok si.k1 (m.take i)
        have hbt := sbits_take k m i
        have n1 := sm1 p hpm
        have k6 := si.k6
        refine ⟨_, rfl, _, rfl, (if p.2 < 0 then -p.2 else p.2), rfl, ?_⟩
        rw [abs_natI]
        refine ⟨by omega, by omega, ?_⟩
        rw [show ((p.2.natAbs : Nat) : Int).toNat = p.2.natAbs from Int.toNat_natCast _]
        have t0 : atI [V.int u.1, V.int u.2] 0 = some (.int u.1) := rfl
        have t1 : atI [V.int u.1, V.int u.2] 1 = some (.int u.2) := rfl
        refine for_range (n := p.2.natAbs) (fun j σ H' => H' = H2 ∧ ∃ v6 : Option V, σ = [some (.ref b), some (.ref ud), some (.int (sA (lk ul) (m.take i) * (if p.2 < 0 then u.2 else u.1) ^ j)), some (.int (sB (lk ul) (m.take i) * (if p.2 < 0 then u.1 else u.2) ^ j)), some (.str p.1), some (.int p.2), v6])
          ⟨rfl, v6, by rw [Int.pow_zero, Int.pow_zero, Int.mul_one, Int.mul_one]; rfl⟩ ?_ ?_
        · rintro j σ H' hj ⟨rfl, v6, rfl⟩
          have kj : k * j ≤ k * p.2.natAbs := Nat.mul_le_mul_left _ (by omega)
          have wA : ∀ {x : Int}, Sm k x → CMulW (sA (lk ul) (m.take i) * x ^ j) x := fun hx => (hs.1.mul (hx.pow j)).mulW hx (by omega)
          have wB : ∀ {x : Int}, Sm k x → CMulW (sB (lk ul) (m.take i) * x ^ j) x := fun hx => (hs.2.mul (hx.pow j)).mulW hx (by omega)
          by_cases e0 : p.2 < 0
          · rw [if_pos e0, if_pos e0]
            refine ⟨_, rfl, _, rfl, _, rfl, ud, _, rfl, e2, _, rfl, _, _, rfl, rfl, ?_⟩
            refine .inr ⟨true, congrArg (fun b => [V.bl b]) (decide_eq_true e0), c, _, 1, _, rfl, rfl, SqT.of e3, t1, _, _, rfl, rfl, wA fu.2.2, ?_⟩
            refine ⟨_, rfl, _, rfl, _, rfl, ud, _, rfl, e2, _, rfl, _, _, rfl, rfl, ?_⟩
            refine .inr ⟨false, congrArg (fun b => [V.bl b]) (decide_eq_false (show ¬ (0 : Int) < p.2 by omega)), c, _, 0, _, rfl, rfl, SqT.of e3, t0, _, _, rfl, rfl, wB fu.2.1, ?_⟩
            exact ⟨rfl, some (.int (0 + (j : Int))), by rw [Int.pow_succ, Int.pow_succ, ← Int.mul_assoc, ← Int.mul_assoc]; rfl⟩
          · rw [if_neg e0, if_neg e0]
            refine ⟨_, rfl, _, rfl, _, rfl, ud, _, rfl, e2, _, rfl, _, _, rfl, rfl, ?_⟩
            refine .inr ⟨false, congrArg (fun b => [V.bl b]) (decide_eq_false e0), c, _, 0, _, rfl, rfl, SqT.of e3, t0, _, _, rfl, rfl, wA fu.2.1, ?_⟩
            refine ⟨_, rfl, _, rfl, _, rfl, ud, _, rfl, e2, _, rfl, _, _, rfl, rfl, ?_⟩
            refine .inr ⟨true, congrArg (fun b => [V.bl b]) (decide_eq_true (show (0 : Int) < p.2 by omega)), c, _, 1, _, rfl, rfl, SqT.of e3, t1, _, _, rfl, rfl, wB fu.2.2, ?_⟩
            exact ⟨rfl, some (.int (0 + (j : Int))), by rw [Int.pow_succ, Int.pow_succ, ← Int.mul_assoc, ← Int.mul_assoc]; rfl⟩
        · rintro σ H' ⟨rfl, v6, rfl⟩
          have eu : un (lk ul) p.1 = u := by unfold un; rw [e1]; rfl
          refine ⟨some (.str p.1), some (.int p.2), v6, ?_, rfl, ?_⟩
          · rw [take_more hp, sA_snoc, sB_snoc, eu]
            unfold pwA pwB
            by_cases e0 : p.2 < 0
            · rw [if_pos e0, if_pos e0, if_pos e0, if_pos e0]
            · rw [if_neg e0, if_neg e0, if_neg e0, if_neg e0]
          · rw [hasU_take hp, all, e1]
            rfl
    · rintro σ H2 ⟨v4, v5, v6, rfl, rfl, all⟩
      rw [List.length_map, tl, List.take_length] at all ⊢
      have hs := s_sm si.ok si.k1 m
      have hp := s_pos si.ok m
      have sb := si.bits
      refine ⟨_, rfl, _, rfl, _, _, sbits k m, rfl, Int.ne_of_gt hp.2, hs.2, by omega, fun p np => q _ _ (s0.trans (same_new np)) ?_⟩
      unfold scl
      rw [if_pos all]
      exact ⟨p, rfl, upd_same⟩
end
end MK


set_option Elab.async false
set_option linter.all false
set_option maxRecDepth 100000
set_option maxHeartbeats 4000000
namespace L2
open PySem PySem.Spec PyProof.Rows
/-- None, or a tuple -/
def NoneT (K : PySem.W.Frag) (H : Hp) (z : V) : Prop := z = .non ∨ ∃ a ys, z = .ref a ∧ SqT K H a ys
theorem isNone_ofT {z : V} {u : Value} {K : PySem.W.Frag} {H : Hp} (r : RelV z u) (f : NoneT K H z) : PySem.Numpy.isNone u = isNon z := by
  rcases f with rfl | ⟨a, ys, rfl, _⟩
  · cases r; rfl
  · cases r; rfl
theorem any_nonT {K : PySem.W.Frag} {H : Hp} : ∀ {xs : List V} {us : List Value}, Vals xs us → (∀ z ∈ xs, NoneT K H z) → us.any PySem.Numpy.isNone = xs.any isNon
  | _, _, .nil, _ => rfl
  | y :: xs, u :: us, .cons r t, f => by
    rw [List.any_cons, List.any_cons, isNone_ofT r (f y (List.mem_cons_self ..)), any_nonT t fun z hz => f z (List.mem_cons_of_mem _ hz)]
section
variable {X : Cx}
theorem noneT_eq {A : Around} {pins : List (Addr × Obj)} {σ : St} {H : Hp} {s : Shared} (I : Inv X pins σ H s) (hu : A.units < cLine) {z : V} {u : Value} (r : RelV z u) (f : NoneT X.K H z) : SeqAt.EqAt A s u .none (PySem.Numpy.isNone u) := by
  rcases f with rfl | ⟨a, ys, rfl, ha⟩
  · cases r
    exact SeqAt.EqAt.same _
  · cases r
    obtain ⟨us, _, p, _⟩ := I.tuple ha
    exact SeqAt.EqAt.tuple_none p hu
theorem mem_nonT {A : Around} {pins : List (Addr × Obj)} {σ : St} {H : Hp} {s : Shared} (I : Inv X pins σ H s) (hu : A.units < cLine) : ∀ {xs : List V} {us : List Value}, Vals xs us → (∀ z ∈ xs, NoneT X.K H z) → ∀ u ∈ us, SeqAt.EqAt A s u .none (PySem.Numpy.isNone u)
  | _, _, .nil, _ => fun u hu' => by cases hu'
  | y :: xs, u :: us, .cons r t, f => fun u' hu' => by
    rcases List.mem_cons.mp hu' with e | hu'
    · subst e
      exact noneT_eq I hu r (f y (List.mem_cons_self ..))
    · exact mem_nonT I hu t (fun z hz => f z (List.mem_cons_of_mem _ hz)) u' hu'
/-- None in a tuple of Nones and tuples -/
def rNinT (K : PySem.W.Frag) : R2 := fun x y H Q => ∃ p xs, x = .non ∧ y = .ref p ∧ SqT K H p xs ∧ (∀ z ∈ xs, NoneT K H z) ∧ Q (.bl (xs.any isNon)) H
theorem op_ninT (hu : X.A.units + 1 < cLine) : OpR X (compareOp .In) (rNinT X.K) := by
  intro pins s σ H x y v u Q I rx ry h
  obtain ⟨p, xs, rfl, rfl, hq, f, q⟩ := h
  cases rx
  cases ry
  obtain ⟨its, rv, pl, _⟩ := I.tuple hq
  have hu1 : X.A.in1.units < cLine := by show X.A.units + 1 < cLine; omega
  refine SeqAt.in_tupleAt PySem.Numpy.isNone pl (fun z hz => mem_nonT I hu1 rv f z (by simpa using hz)) ⟨.bl _, H, I, rfl, ?_⟩
  rw [show its.toArray.any PySem.Numpy.isNone = its.any PySem.Numpy.isNone by simp, any_nonT rv f]
  exact q
end
end L2
namespace MK
open PySem PySem.Spec PyProof.Rows L2
theorem ToldR.same {H H' : Hp} {o : Option Rk} {v : V} (s : Same H H') (h : ToldR H o v) : ToldR H' o v := by
  cases o with
  | none => exact h
  | some r =>
    obtain ⟨p, e, t⟩ := h
    exact ⟨p, e, t.same s⟩
theorem toldR_noneT {K : PySem.W.Frag} {H : Hp} {o : Option Rk} {v : V} (h : ToldR H o v) : NoneT K H v := by
  cases o with
  | none => exact .inl h
  | some r =>
    obtain ⟨p, rfl, t⟩ := h
    obtain ⟨xs, e⟩ : ∃ xs, H p = some (.tup xs) := by
      cases r with
      | is x y m => obtain ⟨_, _, h, _⟩ := t; exact ⟨_, h⟩
      | nought => exact ⟨_, t⟩
      | input z => exact ⟨_, t⟩
      | bin o a b => obtain ⟨_, _, h, _⟩ := t; exact ⟨_, h⟩
      | power a m => obtain ⟨_, h, _⟩ := t; exact ⟨_, h⟩
      | less a b c d => obtain ⟨_, _, _, _, h, _⟩ := t; exact ⟨_, h⟩
    exact .inr ⟨p, xs, rfl, SqT.of e⟩
/-- all parts told, or one of them is None -/
theorem toldR_all {H : Hp} {f : Rk → Option Rk} : ∀ {vs : List V} {l : List Rk}, Paired (fun v x => ToldR H (f x) v) vs l → (vs.any isNon = true ∧ ∃ x ∈ l, f x = none) ∨ (vs.any isNon = false ∧ ∃ (cs : List Addr) (rs : List Rk), vs = cs.map V.ref ∧ Paired (fun c x => TrAt H x c) cs rs ∧ l.map f = rs.map some)
  | _, _, .nil => .inr ⟨rfl, [], [], rfl, .nil, rfl⟩
  | v :: vs, x :: l, .cons h t => by
    cases e : f x with
    | none =>
      rw [e] at h
      have h : v = .non := h
      rw [h]
      exact .inl ⟨rfl, x, List.mem_cons_self, e⟩
    | some r =>
      rw [e] at h
      obtain ⟨p, rfl, hp⟩ := h
      rcases toldR_all t with ⟨h1, y, h2, h3⟩ | ⟨h1, cs, rs, h2, h3, h4⟩
      · exact .inl ⟨by rw [List.any_cons, h1]; rfl, y, List.mem_cons_of_mem _ h2, h3⟩
      · refine .inr ⟨by rw [List.any_cons, h1]; rfl, p :: cs, r :: rs, by rw [h2]; rfl, .cons hp h3, ?_⟩
        rw [List.map_cons, e, h4]
        rfl
theorem toldR_fx {H H' : Hp} {o : Option Rk} {v : V} (fx : Fx H H') (h : ToldR H o v) : ToldR H' o v := by
  cases o with
  | none => exact h
  | some r =>
    obtain ⟨p, e, t⟩ := h
    exact ⟨p, e, t.fx fx⟩
theorem kind_no {r : Rk} (ni : r.isIs = false) (nn : r ≠ .nought) (nz : ∀ z, r ≠ .input z) : r.kind ≠ Str.ofString "input" ∧ r.kind ≠ Str.ofString "nought" := by
  cases r with
  | is _ _ _ => cases ni
  | bin o _ _ => show o.name ≠ _ ∧ o.name ≠ _; cases o <;> decide +kernel
  | nought => exact absurd rfl nn
  | input z => exact absurd rfl (nz z)
  | power _ _ => show ("power" : Str) ≠ _ ∧ ("power" : Str) ≠ _; decide +kernel
  | less _ _ _ _ => show ("less" : Str) ≠ _ ∧ ("less" : Str) ≠ _; decide +kernel
section
variable {P : Program} {w : World} {K : PySem.W.Frag} {mg : Str → Option Value} {base : Heap}
/-! ### _law_retold -/
theorem scLRetold : FnScope ["_law_tree_here", "_law_units", "_law_by", "_law_part", "_law_parts_here"] ["_law_tree_here", "_law_units"] (defScope sLRetold) := ⟨rfl, rfl, rfl, by decide +kernel, rfl, by decide +kernel, by decide +kernel⟩
def spLRetold : Nat → Sp
  | 0 => spNo
  | n + 1 => fun vs H Q _ => ∃ (t ud : Addr) (r : Rk) (ads : List (Str × Addr)) (ul : List (Str × Fr)) (k : Nat), vs = [.ref t, .ref ud] ∧ RetIn H t ud r ads ul k ∧ r.deep ≤ n + 1 ∧ ∀ H' v, Same H H' → ToldR H' (retR (lk ul) r) v → Q v H'
theorem ok_lretold {f fP fC fO : Addr} {fd dP dC dO : FuncData} (F : Fun K "_law_retold" "_law_retold" sLRetold f fd) (bF : Binds K fd ["_law_tree_here", "_law_units"] []) (gF : mg "_law_retold" = some (.ref f))
    (FP : Fun K "_law_parts" "_law_parts" sParts fP dP) (bP : Binds K dP ["_law_tree_here"] []) (gP : mg "_law_parts" = some (.ref fP)) (mL : mg "list" = none)
    (GC : FnOk P w K mg base CX0 3 fC dC ["_law_measure", "_law_units"] spLScale) (kC : PySem.W.keepIn K (.ref fC) = true) (bC : Binds K dC ["_law_measure", "_law_units"] []) (gC : mg "_law_scale" = some (.ref fC))
    (GO : FnOk P w K mg base CX0 2 fO dO ["_law_above", "_law_below"] spLowest) (kO : PySem.W.keepIn K (.ref fO) = true) (bO : Binds K dO ["_law_above", "_law_below"] []) (gO : mg "_law_lowest" = some (.ref fO)) (mt : mg "tuple" = none) (ml : mg "len" = none) :
    ∀ n : Nat, FnOk P w K mg base CX0 (n + 4) f fd ["_law_tree_here", "_law_units"] (spLRetold n)
  | 0 => fn_no
  | n + 1 => by
    have GP : FnOk P w K mg base CX0 1 fP dP ["_law_tree_here"] spParts := ok_parts FP mL
    have GF := ok_lretold F bF gF FP bP gP mL GC kC bC gC GO kO bO gO mt ml n
    refine F.ok scLRetold (fun vs H Q E h => ?_) (fun cdv A outer s H vs Q E hr h => ?_)
    · obtain ⟨t, ud, r, ads, ul, k, rfl, _⟩ := h
      rfl
    · obtain ⟨t, ud, r, ads, ul, k, rfl, ri, hd, q⟩ := h
      have nd := scLRetold.nd
      have hu := hu_of hr
      have hr1 : Room 1 _ := hr.mono (by omega)
      have hr2 : Room 2 _ := hr.mono (by omega)
      have hr3 : Room 3 _ := hr.mono (by omega)
      refine ⟨_, pss_cons (ps_if (pt_cmpR op_eq (pe_ix ix_tup (pv 0) pe_int (fun _ _ => rfl)) pe_str (nomark _))
          (pss_cons (ps_set (i := 2) nd rfl (.inl rfl) (pe_call GC hr3 (by rfl) gC kC bC .nil pass0 (pa_cons (pe_ix ix_tup (pv 0) pe_int (fun _ _ => rfl)) (pa_cons (pv 1) pa_nil))))
          (pss_cons (ps_if (pt_cmpR op_isN (pv 2) pe_non (nomark _)) (pss_one (ps_ret pe_non)) pss_nil)
          (pss_one (ps_ret (pe_tup (pa_cons pe_str (pa_cons (pe_call GO hr2 (by rfl) gO kO bO .nil pass0 (pa_cons
              (pe_op op_mulW (pe_ix ix_tup (pe_ix ix_tup (pv 0) pe_int (fun _ _ => rfl)) pe_int (fun _ _ => rfl)) (pe_ix ix_tup (pv 2) pe_int (fun _ _ => rfl))) (pa_cons
              (pe_op op_mulW (pe_ix ix_tup (pe_ix ix_tup (pv 0) pe_int (fun _ _ => rfl)) pe_int (fun _ _ => rfl)) (pe_ix ix_tup (pv 2) pe_int (fun _ _ => rfl))) pa_nil)))
            (pa_cons (pe_ix ix_tup (pv 0) pe_int (fun _ _ => rfl)) pa_nil)))))))) pss_nil)
        (pss_cons (ps_if (pw_or (pt_cmpR op_eq (pe_ix ix_tup (pv 0) pe_int (fun _ _ => rfl)) pe_str (nomark _)) (pw_or1 (pt_cmpR op_eq (pe_ix ix_tup (pv 0) pe_int (fun _ _ => rfl)) pe_str (nomark _)))).pt (pss_one (ps_ret (pv 0))) pss_nil)
        (pss_cons (ps_set (i := 4) nd rfl (.inl rfl) (pe_callTy call_tupleN (by rfl) mt boot_tuple (pa_cons
          (pe_lc (own := [("_law_part", 3)]) (g := gName 3) (tt := tYes) rfl nd (pi_list (pe_call GP hr1 (by rfl) gP FP.kp bP .nil pass0 (pa_cons (pv 0) pa_nil)))
            (blkOk_by (N := ["_law_tree_here", "_law_units", "_law_by", "_law_part", "_law_parts_here"]) (sc := defScope sLRetold) (by decide +kernel)) (fun _ _ _ _ _ => pg_name (i := 3) nd rfl (Or.inl rfl)) (fun _ _ _ _ _ => pts_nil)
            (fun _ _ _ _ _ => pe_call GF hr (by rfl) gF F.kp bF .nil pass0 (pa_cons (pv 3) (pa_cons (pv 1) pa_nil)))) pa_nil)))
        (pss_cons (ps_if (pt_cmpR (op_ninT hu) pe_non (pv 4) (by rfl)) (pss_one (ps_ret pe_non)) pss_nil)
        (pss_one (ps_ret (pe_op op_catA (pe_op op_catA (pe_slice sl_tupA (pv 0) po_none (po_some pe_int)) (pv 4)) (pe_slice sl_tupA (pv 0) (po_some (pe_op op_add pe_int (pe_callB call_len_seq (by rfl) ml PySem.boot_len (pa_cons (pv 4) pa_nil)))) po_none))))))), ?_⟩
      by_cases ni : r.isIs = true
      · cases r with
        | is x y m =>
          obtain ⟨p, b, h1, h2, h3⟩ := ri.t
          obtain ⟨o1, o2, o3, o4⟩ := id ri.rok
          refine ⟨_, rfl, t, _, 0, _, rfl, rfl, SqT.of h1, rfl, rfl, _, rfl, iteT ?_⟩
          refine ⟨_, rfl, t, _, 2, _, rfl, rfl, SqT.of h1, rfl, _, rfl, b, ud, m, ads, ul, k, rfl, is_sclIn h3 ri.v ri.ok ri.k1 ri.k40 ri.rok, fun p hp => Nat.le_trans (o4.sm p hp) (by decide), fun H1 v s1 hv => ?_⟩
          have e0 : retR (lk ul) (.is x y m) = (scl (lk ul) m).map fun z => .is (mulF (x, y) z).1 (mulF (x, y) z).2 m := rfl
          cases ez : scl (lk ul) m with
          | none =>
            rw [ez] at hv e0
            obtain rfl : v = .non := hv
            refine ⟨_, rfl, rfl, _, rfl, iteT ?_⟩
            refine q _ _ s1 ?_
            rw [e0]
            exact rfl
          | some z =>
            rw [ez] at hv e0
            obtain ⟨p1, rfl, hp1⟩ := hv
            refine ⟨_, rfl, rfl, _, rfl, iteF ?_⟩
            have fz : FrSm (sbits k m) z := by
              have := scl_sm ri.ok ri.k1 m
              unfold scl at ez
              split at ez
              · cases ez
                exact this
              · cases ez
            have fx : FrSm 30 (x, y) := ⟨o1, sm30 o2, sm30 (by have := o1.1; show y.natAbs ≤ _; omega)⟩
            have bt := msin_bits o4 ri.k40
            have g1 := s1 _ _ h1
            have g2 : H1 p = some (.tup [V.int x, V.int y]) := s1 _ _ h2
            have hp1 : H1 p1 = some (.tup [V.int z.1, V.int z.2]) := hp1
            have w1 : CMulW x z.1 := fx.2.1.mulW fz.2.1 (by omega)
            have w2 : CMulW y z.2 := fx.2.2.mulW fz.2.2 (by omega)
            refine ⟨_, rfl, t, _, 1, _, rfl, rfl, SqT.of g1, rfl, p, _, 0, _, rfl, rfl, SqT.of g2, rfl, _, rfl, p1, _, 0, _, rfl, rfl, SqT.of hp1, rfl, _, _, rfl, rfl, w1, ?_⟩
            refine ⟨_, rfl, t, _, 1, _, rfl, rfl, SqT.of g1, rfl, p, _, 1, _, rfl, rfl, SqT.of g2, rfl, _, rfl, p1, _, 1, _, rfl, rfl, SqT.of hp1, rfl, _, _, rfl, rfl, w2, ?_⟩
            refine ⟨_, _, 30 + sbits k m, rfl, Int.mul_ne_zero (Int.ne_of_gt o1.1) (Int.ne_of_gt fz.1.1), fx.2.2.mul fz.2.2, by omega, fun p2 np2 => ?_⟩
            have s2 := same_new (o := .tup [V.int (norm (x * z.1) (y * z.2)).1, V.int (norm (x * z.1) (y * z.2)).2]) np2
            refine ⟨_, rfl, t, _, 2, _, rfl, rfl, SqT.of (s2 _ _ g1), rfl, (by show 3 ≤ sizeLine; decide), fun p3 np3 => ?_⟩
            have s3 := same_new (o := .tup [V.str "is", V.ref p2, V.ref b]) np3
            refine q _ _ (s1.trans (s2.trans s3)) ?_
            rw [e0]
            exact ⟨p3, rfl, p2, b, upd_same, s3 _ _ upd_same, h3.same (s1.trans (s2.trans s3))⟩
        | _ => cases ni
      · have ni : r.isIs = false := Bool.eq_false_iff.mpr ni
        obtain ⟨ps0, zs, hx, hps0⟩ := tr_tup ri.t
        have nk := kind_is ni
        refine ⟨_, rfl, t, _, 0, _, rfl, rfl, SqT.of hx, atI_nat (j := 0) rfl, rfl, _, rfl, ?_⟩
        rw [show decide (V.str r.kind = V.str (Str.ofString "is")) = false from decide_eq_false fun z => nk (V.str.inj z)]
        refine iteF ?_
        by_cases nn : r = .nought
        · subst nn
          refine ⟨_, rfl, t, _, 0, _, rfl, rfl, SqT.of hx, atI_nat (j := 0) rfl, rfl, _, rfl, iteF ?_⟩
          refine ⟨_, rfl, t, _, 0, _, rfl, rfl, SqT.of hx, atI_nat (j := 0) rfl, rfl, _, rfl, iteT ?_⟩
          exact ⟨_, rfl, q _ _ (Same.refl _) ⟨t, rfl, ri.t⟩⟩
        by_cases nz : ∃ z, r = .input z
        · obtain ⟨z, rfl⟩ := nz
          refine ⟨_, rfl, t, _, 0, _, rfl, rfl, SqT.of hx, atI_nat (j := 0) rfl, rfl, _, rfl, iteT (iteT ?_)⟩
          exact ⟨_, rfl, q _ _ (Same.refl _) ⟨t, rfl, ri.t⟩⟩
        obtain ⟨k1, k2⟩ := kind_no ni nn fun z e => nz ⟨z, e⟩
        refine ⟨_, rfl, t, _, 0, _, rfl, rfl, SqT.of hx, atI_nat (j := 0) rfl, rfl, _, rfl, ?_⟩
        rw [str_ne k1]
        refine iteF ?_
        refine ⟨_, rfl, t, _, 0, _, rfl, rfl, SqT.of hx, atI_nat (j := 0) rfl, rfl, _, rfl, ?_⟩
        rw [str_ne k2]
        refine iteF ?_
        refine ⟨_, rfl, t, r, rfl, ri.t, fun H1 l ps s1 nl hps pr => ?_⟩
        have few := parts_few' r
        have pl := pr.length
        refine ⟨l, rfl, ⟨_, SqL.of hps⟩, fun D nD => ?_⟩
        refine lc_list (xs := ps.map V.ref) (fun i H2 => Same H1 H2 ∧ ∃ vs : List V, H2 D = some (.lst vs) ∧ Paired (fun v x => ToldR H2 (retR (lk ul) x) v) vs (r.parts.take i))
          ⟨same_new nD, [], upd_same, .nil⟩ (fun i H2 _ z => SqL.of (z.1 _ _ hps)) ?_ ?_
        · rintro i x H2 hxi ⟨sm, vs, hD, pv⟩
          obtain ⟨q1, hq, rfl⟩ := at_map hxi
          obtain ⟨y, hy, hyt⟩ := paired_ix pr hq
          have ym := List.mem_of_getElem? hy
          have ydp := parts_deep ym
          have pos := y.deep_pos
          obtain ⟨m, rfl⟩ : ∃ m, n = m + 1 := ⟨n - 1, by omega⟩
          have hi : i < r.parts.length := (List.getElem?_eq_some_iff.mp hy).1
          have s12 := s1.trans sm
          have vl := pv.length
          rw [List.length_take] at vl
          refine ⟨rfl, ?_⟩
          refine ⟨_, rfl, _, rfl, q1, ud, y, ads, ul, k, rfl, ⟨hyt.same sm, ri.v.same s12, ri.ok, ri.k1, ri.k40, part_okR' ym ri.rok⟩, by omega, fun H3 v s3 tv => ?_⟩
          refine ⟨vs, s3 _ _ hD, small1000 (by omega), same_upd (sm.trans s3) nD, vs ++ [v], upd_same, ?_⟩
          have hD3 := s3 _ _ hD
          have fx : Fx H3 (upd H3 D (.lst (vs ++ [v]))) := Fx.lst hD3
          rw [take_more hy]
          exact Paired.snoc (Paired.mono (fun _ _ h => toldR_fx fx (h.same s3)) pv) (toldR_fx fx tv)
        · rintro H2 ⟨sm, vs, hD, pv⟩
          rw [List.length_map, pl, List.take_length] at pv
          have vl := pv.length
          refine ⟨D, _, rfl, SqL.of hD, fun l2 o nl2 dn => ?_⟩
          have s3 := same_new (o := .frz o (.tup vs)) nl2
          have s13 := s1.trans (sm.trans s3)
          have tn : TupN (upd H2 l2 (.frz o (.tup vs))) l2 vs := ⟨o, upd_same, dn⟩
          have pv3 := Paired.mono (fun _ _ h => ToldR.same s3 h) pv
          refine ⟨_, rfl, l2, vs, rfl, rfl, TupN.sq tn, fun z hz => ?_, _, rfl, ?_⟩
          · obtain ⟨i, hi⟩ := List.mem_iff_getElem?.mp hz
            obtain ⟨x, hx, tx⟩ := paired_ix pv3 hi
            exact toldR_noneT tx
          rcases toldR_all pv3 with ⟨e, y, ym, en⟩ | ⟨e, cs, rs, rfl, pr2, er⟩
          · rw [e]
            refine iteT (q _ _ s13 ?_)
            rw [retR_none ym en]
            exact rfl
          · rw [e]
            refine iteF ?_
            have rl : rs.length = r.parts.length := by
              have := congrArg List.length er
              rw [List.length_map, List.length_map] at this
              omega
            have fin := re_cat (K := K) (l := l2) (ri.t.same s13) (TupN.sq tn) pr2 rl ni (Q := Q) fun H' p s hp => q H' _ (s13.trans s) (by rw [retR_some er ni]; exact ⟨p, rfl, hp⟩)
            exact ⟨_, rfl, _, rfl, rslA_mono (fun x H1 h => ⟨_, rfl, rcatA_mono (fun y H2 h => ⟨_, rfl, _, rfl, l2, _, rfl, .inr h.1, _, _, rfl, rfl, _, rfl, h.2⟩) h⟩) fin⟩
end
end MK


set_option Elab.async false
set_option linter.all false
set_option maxRecDepth 100000
set_option maxHeartbeats 4000000
namespace L2
open PySem PySem.Spec PyProof.Rows
/-- the same two whole numbers -/
def FrE (K : PySem.W.Frag) (H : Hp) (x y : V) : Prop := ∃ u v : Int, Dp K H x (.tuple [.int u, .int v]) ∧ Dp K H y (.tuple [.int u, .int v])
/-- None == None; two dicts of the same keys with the same fractions -/
def rEqF (K : PySem.W.Frag) : R2 := fun x y H Q => ((x = .non ∧ y = .non) ∨ EqR K H (FrE K H) x y) ∧ Q (.bl true) H
section
variable {X : Cx}
theorem op_eqF (hu : X.A.units + 64 < cLine) : OpR X (compareOp .Eq) (rEqF X.K) := by
  intro pins s σ H x y v u Q I rx ry h
  obtain ⟨h, q⟩ := h
  rcases h with ⟨rfl, rfl⟩ | h
  · exact op_eqD hu pins s σ H .non .non v u Q I rx ry ⟨.none, .none, .non, .non, rfl, rfl, q⟩
  · refine eqR_run I (A := X.A) (by omega) (fun x y v u f rx ry => ?_) h rx ry _ _ ⟨.bl true, H, I, rfl, q⟩
    obtain ⟨a, b, h1, h2⟩ := f
    obtain ⟨as, r1⟩ := Dp.reads I _ x v h1 rx
    obtain ⟨bs, r2⟩ := Dp.reads I _ y u h2 ry
    have e := SeqAt.eqAt_reads _ _ X.A.in1 s v u as bs r1 r2 rfl rfl (by show X.A.units + 1 + min 1 1 < cLine; omega)
    rw [SeqAt.eqv_refl _ (show PyData.canLay0 (.tuple [.int a, .int b]) = true from rfl)] at e
    exact e.eqP
end
end L2
namespace MK
open PySem PySem.Spec PyProof.Rows L2
/-! ### what lies there, over a dict that changes -/
/-- all but dicts stays -/
def Tx (H H' : Hp) : Prop := ∀ c x, (∀ ks, x ≠ .dK ks) → H c = some x → H' c = some x
theorem Tx.refl (H : Hp) : Tx H H := fun _ _ _ e => e
theorem Tx.trans {H H' H'' : Hp} (a : Tx H H') (b : Tx H' H'') : Tx H H'' := fun c x n e => b c x n (a c x n e)
theorem Tx.of {H H' : Hp} (s : Same H H') : Tx H H' := fun c x _ e => s c x e
theorem Tx.upd {H : Hp} {d : Addr} {ks : List (L2.Key × V)} {o : HO} (h : H d = some (.dK ks)) : Tx H (upd H d o) := fun c x n e => by
  rw [upd_ne (ne_of e h (fun z => n _ z))]
  exact e
theorem FracAt.tx {H H' : Hp} {p : Addr} {u v : Int} (s : Tx H H') (h : FracAt H p u v) : FracAt H' p u v := s _ _ (fun _ e => nomatch e) h
theorem MsN.tx {H H' : Hp} {b : Addr} {m : Ms} (s : Tx H H') (h : MsN H b m) : MsN H' b m := by
  obtain ⟨ts, ⟨o, e, d⟩, p⟩ := h
  exact ⟨ts, ⟨o, s _ _ (fun _ e => nomatch e) e, d⟩, Paired.mono (fun (t : Addr) (q : Str × Int) (z : H t = some (.tup [.str q.1, .int q.2])) => (s _ _ (fun _ e => nomatch e) z : H' t = some (.tup [.str q.1, .int q.2]))) p⟩
theorem TrAt.tx {H H' : Hp} (s : Tx H H') : ∀ {r : Rk} {p : Addr}, TrAt H r p → TrAt H' r p
  | .is x y m, p, ⟨q, b, h1, h2, h3⟩ => ⟨q, b, s _ _ (fun _ e => nomatch e) h1, s _ _ (fun _ e => nomatch e) h2, h3.tx s⟩
  | .nought, p, h => s p _ (fun _ e => nomatch e) h
  | .input z, p, h => s p _ (fun _ e => nomatch e) h
  | .bin o a b, p, ⟨q, r, h1, h2, h3⟩ => ⟨q, r, s _ _ (fun _ e => nomatch e) h1, TrAt.tx s h2, TrAt.tx s h3⟩
  | .power a n, p, ⟨q, h1, h2⟩ => ⟨q, s _ _ (fun _ e => nomatch e) h1, TrAt.tx s h2⟩
  | .less a b c d, p, ⟨q, r, u, v, h1, h2, h3, h4, h5⟩ => ⟨q, r, u, v, s _ _ (fun _ e => nomatch e) h1, TrAt.tx s h2, TrAt.tx s h3, TrAt.tx s h4, TrAt.tx s h5⟩
theorem NmsAt.tx {H H' : Hp} {a : Addr} {ws : List Str} (s : Tx H H') (h : NmsAt H a ws) : NmsAt H' a ws := ⟨s _ _ (fun _ e => nomatch e) h.h, h.n, h.l, h.z⟩
theorem seq_tx {K : PySem.W.Frag} {H H' : Hp} {a : Addr} {xs : List V} (s : Tx H H') (h : SqL K H a xs) : SqL K H' a xs := by
  rcases h with (e | ⟨o, e⟩) | h
  · exact .inl (.inl (s _ _ (fun _ e => nomatch e) e))
  · exact .inl (.inr ⟨o, s _ _ (fun _ e => nomatch e) e⟩)
  · exact .inr h
theorem frs_tx {H H' : Hp} (s : Tx H H') {ads : List (Str × Addr)} {vl : List (Str × Fr)} (p : Paired (FrR H) ads vl) : Paired (FrR H') ads vl := Paired.mono (fun x y z => ⟨z.1, s _ _ (fun _ e => nomatch e) z.2⟩) p
theorem nmr_tx {H H' : Hp} (s : Tx H H') {ads : List (Str × Addr)} {nl : List (Str × Ms)} (p : Paired (NmR H) ads nl) : Paired (NmR H') ads nl := Paired.mono (fun x y z => ⟨z.1, z.2.tx s⟩) p
theorem nmr_drp {H : Hp} {l : Str} {ads : List (Str × Addr)} {vl : List (Str × Ms)} (p : Paired (NmR H) ads vl) : Paired (NmR H) (drp ads l) (drp vl l) := by
  induction p with
  | nil => exact .nil
  | @cons x y xs ys h _ ih =>
    have e1 := h.1
    unfold drp at *
    rw [List.filter_cons, List.filter_cons, e1]
    split
    · exact .cons h ih
    · exact ih
theorem nmr_put {H : Hp} {l : Str} {b : Addr} {m : Ms} (h : MsN H b m) {ads : List (Str × Addr)} {fl : List (Str × Ms)} (p : Paired (NmR H) ads fl) : Paired (NmR H) (put ads l b) (put fl l m) := by
  induction p with
  | nil => exact .cons ⟨rfl, h⟩ .nil
  | @cons x y xs ys z _ ih =>
    obtain ⟨h1, h2⟩ := z
    show Paired _ (if x.1 = l then _ else _) (if y.1 = l then _ else _)
    rw [h1]
    split
    · exact .cons ⟨rfl, h⟩ (by assumption)
    · exact .cons ⟨h1, h2⟩ ih
/-- locked while something runs, and unlocked again -/
theorem same_unlock {H H2 : Hp} {na : Addr} {u : HO} {od : Obj} (hn : H na = some u) (s : Same (upd H na (.frz od u)) H2) : Same H (upd H2 na u) := fun c x e => by
  by_cases h : c = na
  · subst h
    rw [hn] at e
    cases e
    exact upd_same
  · rw [upd_ne h]
    exact s _ _ (by rw [upd_ne h]; exact e)
theorem vl_off {H : Hp} {ud na : Addr} {o y : HO} {ads : List (Str × Addr)} {ul : List (Str × Fr)} (hn : H na = some o) (ho : ∀ xs, o ≠ .tup xs) (ne : ud ≠ na) (v : VlAt H ud ads ul) : VlAt (upd H na y) ud ads ul := by
  refine ⟨by rw [upd_ne ne]; exact v.1, Paired.mono (fun a b q => ⟨q.1, ?_⟩) v.2⟩
  show upd H na y a.2 = _
  rw [upd_ne (ne_of q.2 hn (fun e => ho _ e.symm))]
  exact q.2
/-! ### the law's three dicts -/
structure Bk (H0 H : Hp) (ud na vd : Addr) (uads nads vads : List (Str × Addr)) (ul : List (Str × Fr)) (nl : List (Str × Ms)) (vl : List (Str × Fr)) (ws ls : List Str) : Prop where
  tx : Tx H0 H
  u : VlAt H ud uads ul
  n : NmAt H na nads nl
  v : VlAt H vd vads vl
  und : (ul.map (·.1)).Nodup
  nnd : (nl.map (·.1)).Nodup
  vnd : (vl.map (·.1)).Nodup
  us : ∀ p ∈ ul, FrSm 14 p.2 ∧ 0 < p.2.1
  vs : ∀ p ∈ vl, FrSm 30 p.2
  ns : ∀ p ∈ nl, p.1 ∈ ws ∧ p.2.length ≤ 3 ∧ ∀ q ∈ p.2, q.1 ∈ ls ∧ q.2.natAbs ≤ 20
  uf : ul.length ≤ 5
  nf : nl.length ≤ 4
  vf : vl.length ≤ 4
  d1 : ud ≠ na
  d2 : ud ≠ vd
  d3 : na ≠ vd
section
variable {H0 H : Hp} {ud na vd : Addr} {uads nads vads : List (Str × Addr)} {ul : List (Str × Fr)} {nl : List (Str × Ms)} {vl : List (Str × Fr)} {ws ls : List Str}
theorem Bk.same {H' : Hp} (s : Same H H') (h : Bk H0 H ud na vd uads nads vads ul nl vl ws ls) : Bk H0 H' ud na vd uads nads vads ul nl vl ws ls :=
  ⟨h.tx.trans (.of s), h.u.same s, h.n.same s, h.v.same s, h.und, h.nnd, h.vnd, h.us, h.vs, h.ns, h.uf, h.nf, h.vf, h.d1, h.d2, h.d3⟩
theorem Bk.dropU (h : Bk H0 H ud na vd uads nads vads ul nl vl ws ls) (z : Str) : Bk H0 (upd H ud (.dK (encG V.ref (drp uads z)))) ud na vd (drp uads z) nads vads (drp ul z) nl vl ws ls := by
  have t : Tx H (upd H ud (.dK (encG V.ref (drp uads z)))) := .upd h.u.1
  exact ⟨h.tx.trans t, ⟨upd_same, frs_tx t (frs_drp h.u.2)⟩, ⟨by rw [upd_ne h.d1.symm]; exact h.n.1, nmr_tx t h.n.2⟩, ⟨by rw [upd_ne h.d2.symm]; exact h.v.1, frs_tx t h.v.2⟩, drp_nodup h.und, h.nnd, h.vnd, fun p hp => h.us p (drp_mem hp), h.vs, h.ns,
    Nat.le_trans (List.length_filter_le _ _) h.uf, h.nf, h.vf, h.d1, h.d2, h.d3⟩
theorem Bk.dropN (h : Bk H0 H ud na vd uads nads vads ul nl vl ws ls) (z : Str) : Bk H0 (upd H na (.dK (encG V.ref (drp nads z)))) ud na vd uads (drp nads z) vads ul (drp nl z) vl ws ls := by
  have t : Tx H (upd H na (.dK (encG V.ref (drp nads z)))) := .upd h.n.1
  exact ⟨h.tx.trans t, ⟨by rw [upd_ne h.d1]; exact h.u.1, frs_tx t h.u.2⟩, ⟨upd_same, nmr_tx t (nmr_drp h.n.2)⟩, ⟨by rw [upd_ne h.d3.symm]; exact h.v.1, frs_tx t h.v.2⟩, h.und, drp_nodup h.nnd, h.vnd, h.us, h.vs, fun p hp => h.ns p (drp_mem hp),
    h.uf, Nat.le_trans (List.length_filter_le _ _) h.nf, h.vf, h.d1, h.d2, h.d3⟩
theorem Bk.dropV (h : Bk H0 H ud na vd uads nads vads ul nl vl ws ls) (z : Str) : Bk H0 (upd H vd (.dK (encG V.ref (drp vads z)))) ud na vd uads nads (drp vads z) ul nl (drp vl z) ws ls := by
  have t : Tx H (upd H vd (.dK (encG V.ref (drp vads z)))) := .upd h.v.1
  exact ⟨h.tx.trans t, ⟨by rw [upd_ne h.d2]; exact h.u.1, frs_tx t h.u.2⟩, ⟨by rw [upd_ne h.d3]; exact h.n.1, nmr_tx t h.n.2⟩, ⟨upd_same, frs_tx t (frs_drp h.v.2)⟩, h.und, h.nnd, drp_nodup h.vnd, h.us, fun p hp => h.vs p (drp_mem hp), h.ns,
    h.uf, h.nf, Nat.le_trans (List.length_filter_le _ _) h.vf, h.d1, h.d2, h.d3⟩
theorem Bk.un (h : Bk H0 H ud na vd uads nads vads ul nl vl ws ls) : UnOk 14 (lk ul) := fun l x e => h.us _ (mem_of_lk e)
/-- what a scale asks, of a name's measure -/
theorem bk_bits {m : Ms} (h : m.length ≤ 3 ∧ ∀ q ∈ m, q.1 ∈ ls ∧ q.2.natAbs ≤ 20) : sbits 14 m ≤ 6000 := by
  have : ∀ (l : Ms), (∀ p ∈ l, p.2.natAbs ≤ 20) → (l.map fun p => 14 * p.2.natAbs + 1).sum ≤ 281 * l.length := by
    intro l
    induction l with
    | nil => intro _; exact Nat.le_refl _
    | cons p r ih =>
      intro hl
      have h1 := ih fun q hq => hl q (List.mem_cons_of_mem _ hq)
      have h2 := hl p List.mem_cons_self
      rw [List.map_cons, List.sum_cons, List.length_cons]
      omega
  have h1 := this m fun p hp => (h.2 p hp).2
  have := h.1
  unfold sbits
  omega
theorem bk_scl {H' : Hp} {b hd : Addr} {m : Ms} (un : UnOk 14 (lk ul)) (hl : ∀ z ∈ ls, z.length ≤ 1000) (hm : m.length ≤ 3 ∧ ∀ q ∈ m, q.1 ∈ ls ∧ q.2.natAbs ≤ 20) (hb : MsN H' b m) (v : VlAt H' hd uads ul) : SclIn H' b hd m uads ul 14 :=
  ⟨hb, v, un, by decide, by decide, bk_bits hm, fun p hp => Nat.lt_of_le_of_lt (hm.2 p hp).2 (by decide), fun p hp => hl _ (hm.2 p hp).1⟩
theorem vl_copy {H : Hp} {d p : Addr} {ads : List (Str × Addr)} {vl : List (Str × Fr)} (h : VlAt H d ads vl) (hp : H p = none) : VlAt (upd H p (.dK (encG V.ref ads))) p ads vl := ⟨upd_same, frs_same (same_new hp) h.2⟩
theorem nm_copy' {H : Hp} {d p : Addr} {ads : List (Str × Addr)} {fl : List (Str × Ms)} (h : NmAt H d ads fl) (hp : H p = none) : NmAt (upd H p (.dK (encG V.ref ads))) p ads fl :=
  ⟨upd_same, Paired.mono (fun _ _ z => ⟨z.1, z.2.same (same_new hp)⟩) h.2⟩
theorem enc_self' {K : PySem.W.Frag} {H : Hp} {n : Nat} {ads : List (Str × Addr)} (nd : (ads.map (·.1)).Nodup) : ∀ p ∈ encG V.ref ads, ∃ u, valV (encG V.ref ads) p.1 = some u ∧ EqV K H (n + 1) p.2 u := by
  intro p hp
  obtain ⟨y, hy, rfl⟩ := List.mem_map.mp hp
  refine ⟨.ref y.2, ?_, .inr (.inl ⟨y.2, rfl, rfl⟩)⟩
  rw [encG_val, lk_of_mem nd (show (y.1, y.2) ∈ ads from hy)]
  rfl
/-- two dicts of the same fractions are equal -/
theorem frs_eqR {K : PySem.W.Frag} {H : Hp} {a b : Addr} {as bs : List (Str × Addr)} {rl : List (Str × Fr)} (nd : (rl.map (·.1)).Nodup) (ha : VlAt H a as rl) (hb : VlAt H b bs rl) : EqR K H (FrE K H) (.ref a) (.ref b) := by
  have ka := frs_keys ha.2
  have kb := frs_keys hb.2
  have la := ha.2.length
  have lb := hb.2.length
  refine .inr ⟨a, b, _, _, rfl, rfl, ha.1, hb.1, by rw [encG_len, encG_len]; exact la.trans lb.symm, fun p hp => ?_⟩
  obtain ⟨y, hy, rfl⟩ := List.mem_map.mp hp
  have e1 : lk as y.1 = some y.2 := lk_of_mem (by rw [ka]; exact nd) hy
  rcases frs_lk ha.2 y.1 with ⟨e2, _⟩ | ⟨c, u, e2, e3, e4⟩
  · rw [e1] at e2
    cases e2
  · rw [e1] at e2
    cases e2
    rcases frs_lk hb.2 y.1 with ⟨_, e5⟩ | ⟨c', u', e5, e6, e7⟩
    · rw [e3] at e5
      cases e5
    · rw [e3] at e6
      cases e6
      refine ⟨.ref c', by rw [encG_val, e5]; rfl, u.1, u.2, ?_, ?_⟩
      · exact .tup (SqT.of e4) (.cons (.int _) (.cons (.int _) .nil))
      · exact .tup (SqT.of e7) (.cons (.int _) (.cons (.int _) .nil))
end
/-! ### what told and the law's own answer are as data -/
def rkO : Option Rk → PyData
  | none => .none
  | some r => rkD r
def frO : Option Fr → PyData
  | none => .none
  | some x => .tuple [.int x.1, .int x.2]
theorem toldR_dp {K : PySem.W.Frag} {H : Hp} {o : Option Rk} {v : V} (h : ToldR H o v) : Dp K H v (rkO o) := by
  cases o with
  | none =>
    obtain rfl : v = .non := h
    exact .non
  | some r =>
    obtain ⟨p, rfl, t⟩ := h
    exact tr_dp t
theorem told_dp {K : PySem.W.Frag} {H : Hp} {o : Option Fr} {v : V} (h : Told H o v) : Dp K H v (frO o) := by
  cases o with
  | none =>
    obtain rfl : v = .non := h
    exact .non
  | some x =>
    obtain ⟨p, rfl, t⟩ := h
    exact .tup (SqT.of t) (.cons (.int _) (.cons (.int _) .nil))
theorem frO_sh : ∀ o, SeqAt.shaped (frO o) = true
  | none => rfl
  | some _ => rfl
theorem ok_lt : ∀ {r : Rk}, r.Ok → r.Lt
  | .is _ _ m, h => fun p hp => nm_lt (h.2.2.2.nm p hp)
  | .nought, _ => trivial
  | .input z, h => nm_lt h
  | .bin _ a b, h => ⟨ok_lt h.1, ok_lt h.2⟩
  | .power a _, h => ok_lt (r := a) h.1
  | .less a b c d, h => ⟨ok_lt h.1, ok_lt h.2.1, ok_lt h.2.2.1, ok_lt h.2.2.2⟩
theorem retR_keep {u : Str → Option Fr} : ∀ {r r' : Rk}, retR u r = some r' → r.Lt → r'.Lt ∧ r'.deep = r.deep
  | .is x y m, r', h, l => by
    obtain ⟨z, _, rfl⟩ := Option.map_eq_some_iff.mp h
    exact ⟨l, rfl⟩
  | .nought, r', h, l => by cases h; exact ⟨l, rfl⟩
  | .input z, r', h, l => by cases h; exact ⟨l, rfl⟩
  | .bin o a b, r', h, l => by
    obtain ⟨a', ha, h⟩ := Option.bind_eq_some_iff.mp h
    obtain ⟨b', hb, rfl⟩ := Option.map_eq_some_iff.mp h
    obtain ⟨g1, g2⟩ := retR_keep ha l.1
    obtain ⟨g3, g4⟩ := retR_keep hb l.2
    exact ⟨⟨g1, g3⟩, by show 1 + max a'.deep b'.deep = 1 + max a.deep b.deep; rw [g2, g4]⟩
  | .power a n, r', h, l => by
    obtain ⟨a', ha, rfl⟩ := Option.map_eq_some_iff.mp h
    obtain ⟨g1, g2⟩ := retR_keep ha l
    exact ⟨g1, by show 1 + a'.deep = 1 + a.deep; rw [g2]⟩
  | .less a b c d, r', h, l => by
    obtain ⟨a', ha, h⟩ := Option.bind_eq_some_iff.mp h
    obtain ⟨b', hb, h⟩ := Option.bind_eq_some_iff.mp h
    obtain ⟨c', hc, h⟩ := Option.bind_eq_some_iff.mp h
    obtain ⟨d', hd, rfl⟩ := Option.map_eq_some_iff.mp h
    obtain ⟨g1, g2⟩ := retR_keep ha l.1
    obtain ⟨g3, g4⟩ := retR_keep hb l.2.1
    obtain ⟨g5, g6⟩ := retR_keep hc l.2.2.1
    obtain ⟨g7, g8⟩ := retR_keep hd l.2.2.2
    refine ⟨⟨g1, g3, g5, g7⟩, ?_⟩
    simp only [Rk.deep, g2, g4, g6, g8]
theorem rkO_sh {u : Str → Option Fr} {r : Rk} (h : r.Ok) (hd : r.deep ≤ 12) : SeqAt.shaped (rkO (retR u r)) = true := by
  cases e : retR u r with
  | none => rfl
  | some r' =>
    obtain ⟨g1, g2⟩ := retR_keep e (ok_lt h)
    exact rk_shaped g1 (by omega)
end MK


set_option Elab.async false
set_option linter.all false
set_option maxRecDepth 100000
set_option maxHeartbeats 4000000
namespace MK
open PySem PySem.Spec PyProof.Rows L2
/-- what the walk asks of the top -/
structure Txt (K : PySem.W.Frag) (w : World) (mg : Str → Option Value) (M N U Y B pt : Addr) where
  (fX fC fWd fM fSm fS fO fN fL fT fP fTo fUn fLS fLR fSc fRe fRs fPA fxP fxR fxT fxW : Addr)
  (dX dC dWd dM dSm dS dO dN dL dT dP dTo dUn dLS dLR dSc dRe dRs dPA dxP dxR dxT dxW : FuncData)
  FX : Fun K "_law_mix" "_law_mix" sMix fX dX
  FC : Fun K "_law_cell_at" "_law_cell_at" sCell fC dC
  FWd : Fun K "_law_words" "_law_words" sWords fWd dWd
  FM : Fun K "_law_made" "_law_made" sMade fM dM
  FSm : Fun K "_law_small" "_law_small" sSmall fSm dSm
  FS : Fun K "_law_shared" "_law_shared" sShared fS dS
  FO : Fun K "_law_lowest" "_law_lowest" sLowest fO dO
  FN : Fun K "_law_number" "_law_number" sNumber fN dN
  FL : Fun K "_law_leaf" "_law_leaf" sLeaf fL dL
  FT : Fun K "_law_tree" "_law_tree" sTree fT dT
  FP : Fun K "_law_parts" "_law_parts" sParts fP dP
  FTo : Fun K "_law_told" "_law_told" sLTold fTo dTo
  FUn : Fun K "_law_unit" "_law_unit" sUnit fUn dUn
  FLS : Fun K "_law_scale" "_law_scale" sLScale fLS dLS
  FLR : Fun K "_law_retold" "_law_retold" sLRetold fLR dLR
  FSc : Fun K "scale" "scale" sScale fSc dSc
  FRe : Fun K "retold" "retold" sRetold fRe dRe
  FRs : Fun K "rescaled" "rescaled" sRescaled fRs dRs
  FPA : Fun K "parts" "parts" sPaP fPA dPA
  FxP : Fun K "product" "product" sProd fxP dxP
  FxR : Fun K "raised" "raised" sRaised fxR dxR
  FxT : Fun K "_turned" "_turned" sTrn fxT dxT
  FxW : Fun K "_whole_power" "_whole_power" sWholeP fxW dxW
  gX : mg "_law_mix" = some (.ref fX)
  gC : mg "_law_cell_at" = some (.ref fC)
  gWd : mg "_law_words" = some (.ref fWd)
  gM : mg "_law_made" = some (.ref fM)
  gSm : mg "_law_small" = some (.ref fSm)
  gS : mg "_law_shared" = some (.ref fS)
  gO : mg "_law_lowest" = some (.ref fO)
  gN : mg "_law_number" = some (.ref fN)
  gL : mg "_law_leaf" = some (.ref fL)
  gT : mg "_law_tree" = some (.ref fT)
  gP : mg "_law_parts" = some (.ref fP)
  gTo : mg "_law_told" = some (.ref fTo)
  gUn : mg "_law_unit" = some (.ref fUn)
  gLS : mg "_law_scale" = some (.ref fLS)
  gLR : mg "_law_retold" = some (.ref fLR)
  gSc : mg "scale" = some (.ref fSc)
  gRe : mg "retold" = some (.ref fRe)
  gRs : mg "rescaled" = some (.ref fRs)
  gPA : mg "parts" = some (.ref fPA)
  gxP : mg "product" = some (.ref fxP)
  gxR : mg "raised" = some (.ref fxR)
  gxT : mg "_turned" = some (.ref fxT)
  gxW : mg "_whole_power" = some (.ref fxW)
  ml : mg "len" = none
  mr : mg "range" = none
  mv : mg "reversed" = none
  ma : mg "abs" = none
  mt : mg "tuple" = none
  mi : mg "isinstance" = none
  mn : mg "int" = none
  mE : mg "ValueError" = none
  ms : mg "sorted" = none
  mL : mg "list" = none
  md : mg "dict" = none
  k : KY K mg M N U Y B
  mG : mg "gcd" = some (.builtin "math.gcd")
  tp : PTab K w mg pt
  eY : ErrAt K mg "NoValue" Y
  eB : ErrAt K mg "ByNought" B

section
variable {P : Program} {w : World} {K : PySem.W.Frag} {mg : Str → Option Value} {base : Heap} {M N U Y B pt : Addr}
theorem iteN (c : Bool) : (if c = true then (1 : Int) else 0) = ((if c = true then 1 else 0 : Nat) : Int) := by cases c <;> rfl
theorem four_int {a b c d : Int} {i : Int} (h0 : 0 ≤ i) (h1 : i < 4) : ∃ x : Int, atI [V.int a, V.int b, V.int c, V.int d] i = some (.int x) ∧ (x = a ∨ x = b ∨ x = c ∨ x = d) := by
  have : i = 0 ∨ i = 1 ∨ i = 2 ∨ i = 3 := by omega
  rcases this with rfl | rfl | rfl | rfl
  · exact ⟨a, rfl, .inl rfl⟩
  · exact ⟨b, rfl, .inr (.inl rfl)⟩
  · exact ⟨c, rfl, .inr (.inr (.inl rfl))⟩
  · exact ⟨d, rfl, .inr (.inr (.inr rfl))⟩
theorem nth_at {ws : List Str} {i : Int} (h0 : 0 ≤ i) (h1 : i < ws.length) : ∃ z, ws[i.toNat]? = some z ∧ z ∈ ws ∧ atI (ws.map V.str) i = some (.str z) := by
  obtain ⟨n, rfl⟩ := Int.eq_ofNat_of_zero_le h0
  have hn : n < ws.length := by omega
  have e := List.getElem?_eq_getElem hn
  exact ⟨ws[n], e, List.getElem_mem hn, atI_nat (by rw [List.getElem?_map, e]; rfl)⟩
def spLaw (K : PySem.W.Frag) : Sp := fun vs H Q _ => ∃ (a : Addr) (ns : List Int), vs = [.ref a] ∧ SqL K H a (ns.map V.int) ∧ ∀ H', Q (.bl true) H'
abbrev scLawN : List Str := ["_law_script", "_law_words_here", "_law_bases", "_law_letters", "_law_units", "_law_k", "_law_tree_here", "_law_names", "_law_values", "_law_due", "_law_name", "_law_by", "_law_handed", "_law_found"]
theorem scLaw : FnScope scLawN ["_law_script"] (defScope sLaw) := ⟨rfl, rfl, rfl, by decide +kernel, rfl, by decide +kernel, by decide +kernel⟩
/-- what told is asked for, and how it answers -/
structure ToG (K : PySem.W.Frag) (ST : Sp) : Prop where
  ret : ∀ {H : Hp} {Q : VK} {E : XK} {t ud : Addr} {r : Rk} {ads : List (Str × Addr)} {ul : List (Str × Fr)} {k : Nat}, RetIn H t ud r ads ul k → r.deep ≤ 12 → (∀ H' v, Same H H' → ToldR H' (retR (lk ul) r) v → Q v H') → ST [.str "retold", .ref t, .ref ud, .non] H Q E
  scl : ∀ {H : Hp} {Q : VK} {E : XK} {b ud : Addr} {m : Ms} {ads : List (Str × Addr)} {ul : List (Str × Fr)} {k : Nat}, SclIn H b ud m ads ul k → (∀ H' v, Same H H' → Told H' (scl (lk ul) m) v → Q v H') → ST [.str "scale", .ref b, .ref ud, .non] H Q E
  res : ∀ {H : Hp} {Q : VK} {E : XK} {vd na ud : Addr} {od : Obj} {vads nads uads : List (Str × Addr)} {vl : List (Str × Fr)} {nl : List (Str × Ms)} {ul : List (Str × Fr)} {k : Nat}, ResIn H vd na ud od vads nads uads vl nl ul k →
    (∀ H' v, Same H H' → (¬ rescOk (lk vl) (lk ul) nl ∧ v = .non) ∨ (rescOk (lk vl) (lk ul) nl ∧ ∃ d rads, v = .ref d ∧ VlAt H' d rads (resc (lk vl) (lk ul) nl)) → Q v H') → ST [.str "rescaled", .ref vd, .ref na, .ref ud] H Q E
theorem toG {Y : Addr} : ToG K (spTold3 Y 12) where
  ret := fun {H Q E t ud r ads ul k} ri hd q => .inr (.inl ⟨t, ud, rfl, t, ud, r, ads, ul, k, rfl, ri, hd, fun e H1 s1 H2 s2 => q H2 _ (s1.trans s2) (by rw [e]; exact rfl), fun r' e H1 p s1 hp => q H1 _ s1 (by rw [e]; exact ⟨p, rfl, hp⟩)⟩)
  scl := fun {H Q E b ud m ads ul k} si q => .inl ⟨b, ud, rfl, b, ud, m, ads, ul, k, rfl, si, fun e H1 s1 H2 s2 => q H2 _ (s1.trans s2) (by rw [e]; exact rfl), fun r' e H1 p s1 hp => q H1 _ s1 (by rw [e]; exact ⟨p, rfl, hp⟩)⟩
  res := fun {H Q E vd na ud od vads nads uads vl nl ul k} ri q => .inr (.inr ⟨vd, na, ud, rfl, vd, na, ud, od, vads, nads, uads, vl, nl, ul, k, rfl, ri, fun e H1 s1 H2 s2 => q H2 _ (s1.trans s2) (.inl ⟨e, rfl⟩), fun e H1 d rads s1 hd => q H1 _ s1 (.inr ⟨e, d, rads, rfl, hd⟩)⟩)
theorem lrG {H : Hp} {Q : VK} {E : XK} {t ud : Addr} {r : Rk} {ads : List (Str × Addr)} {ul : List (Str × Fr)} {k : Nat} (ri : RetIn H t ud r ads ul k) (hd : r.deep ≤ 12) (q : ∀ H' v, Same H H' → ToldR H' (retR (lk ul) r) v → Q v H') : spLRetold 12 [.ref t, .ref ud] H Q E :=
  ⟨t, ud, r, ads, ul, k, rfl, ri, hd, q⟩
theorem ok_law {f : Addr} {fd : FuncData} (F : Fun K "law" "law" sLaw f fd) (T : Txt K w mg M N U Y B pt) :
    FnOk P w K mg base CX0 18 f fd ["_law_script"] (spLaw K) := by
  have bX := T.FX.binds (ps := ["_law_cell", "_law_k"]) fun _ _ _ _ _ _ us hl => match us, hl with | [_, _], _ => rfl
  have bC := T.FC.binds (ps := ["_law_script", "_law_k"]) fun _ _ _ _ _ _ us hl => match us, hl with | [_, _], _ => rfl
  have bWd := T.FWd.binds (ps := ["_law_cell", "_law_many"]) fun _ _ _ _ _ _ us hl => match us, hl with | [_, _], _ => rfl
  have bM := T.FM.binds (ps := ["_law_powers"]) fun _ _ _ _ _ _ us hl => match us, hl with | [_], _ => rfl
  have bSm := T.FSm.binds (ps := ["_law_cell", "_law_letters"]) fun _ _ _ _ _ _ us hl => match us, hl with | [_, _], _ => rfl
  have bS := T.FS.binds (ps := ["_law_one", "_law_other"]) fun _ _ _ _ _ _ us hl => match us, hl with | [_, _], _ => rfl
  have bO := T.FO.binds (ps := ["_law_above", "_law_below"]) fun _ _ _ _ _ _ us hl => match us, hl with | [_, _], _ => rfl
  have bN := T.FN.binds (ps := ["_law_cell"]) fun _ _ _ _ _ _ us hl => match us, hl with | [_], _ => rfl
  have bL := T.FL.binds (ps := ["_law_cell", "_law_words_here", "_law_bases"]) fun _ _ _ _ _ _ us hl => match us, hl with | [_, _, _], _ => rfl
  have bT := T.FT.binds (ps := ["_law_cell", "_law_depth", "_law_names", "_law_powers"]) fun _ _ _ _ _ _ us hl => match us, hl with | [_, _, _, _], _ => rfl
  have bP := T.FP.binds (ps := ["_law_tree_here"]) fun _ _ _ _ _ _ us hl => match us, hl with | [_], _ => rfl
  have bTo := T.FTo.binds (ps := ["_law_work", "_law_one", "_law_other", "_law_more"]) fun _ _ _ _ _ _ us hl => match us, hl with | [_, _, _, _], _ => rfl
  have bUn := T.FUn.binds (ps := ["_law_cell"]) fun _ _ _ _ _ _ us hl => match us, hl with | [_], _ => rfl
  have bLS := T.FLS.binds (ps := ["_law_measure", "_law_units"]) fun _ _ _ _ _ _ us hl => match us, hl with | [_, _], _ => rfl
  have bLR := T.FLR.binds (ps := ["_law_tree_here", "_law_units"]) fun _ _ _ _ _ _ us hl => match us, hl with | [_, _], _ => rfl
  have bSc := T.FSc.binds (ps := ["measure", "units"]) fun _ _ _ _ _ _ us hl => match us, hl with | [_, _], _ => rfl
  have bRe := T.FRe.binds (ps := ["reckoning", "units"]) fun _ _ _ _ _ _ us hl => match us, hl with | [_, _], _ => rfl
  have bRs := T.FRs.binds (ps := ["values", "names", "units"]) fun _ _ _ _ _ _ us hl => match us, hl with | [_, _, _], _ => rfl
  have bPA := T.FPA.binds (ps := ["reckoning"]) fun _ _ _ _ _ _ us hl => match us, hl with | [_], _ => rfl
  have lf : LfT K mg := ⟨_, _, _, _, _, _, _, _, _, _, _, _, T.FX, T.FM, T.FS, T.FO, T.FN, T.FSm, T.gX, T.gM, T.gS, T.gO, T.gN, T.gSm, T.mr, T.ml, T.mt, T.ms, T.ma⟩
  have GC : FnOk P w K mg base CX0 1 T.fC T.dC ["_law_script", "_law_k"] (spCell K) := ok_cell T.FC T.ml
  have GX : FnOk P w K mg base CX0 1 T.fX T.dX ["_law_cell", "_law_k"] spMix := ok_mix T.FX
  have GWd : FnOk P w K mg base CX0 1 T.fWd T.dWd ["_law_cell", "_law_many"] spWords := ok_words T.FWd T.mr
  have GSm : FnOk P w K mg base CX0 2 T.fSm T.dSm ["_law_cell", "_law_letters"] spSmall := ok_small T.FSm T.FX bX T.gX T.FM bM T.gM T.mr T.ml T.mt T.ms
  have GO : FnOk P w K mg base CX0 2 T.fO T.dO ["_law_above", "_law_below"] spLowest := ok_lowest T.FO T.FS bS T.gS T.ma
  have GN : FnOk P w K mg base CX0 3 T.fN T.dN ["_law_cell"] spNumber := ok_number T.FN T.FO bO T.gO T.FS bS T.gS T.ma
  have GUn : FnOk P w K mg base CX0 3 T.fUn T.dUn ["_law_cell"] spUnit := ok_unit T.FUn T.FO bO T.gO T.FS bS T.gS T.ma
  have GT : FnOk P w K mg base CX0 8 T.fT T.dT ["_law_cell", "_law_depth", "_law_names", "_law_powers"] (spTree 4) := ok_tree T.FT bT T.gT T.FL bL T.gL lf 4
  have GLS : FnOk P w K mg base CX0 3 T.fLS T.dLS ["_law_measure", "_law_units"] spLScale := ok_lscale T.FLS T.FO bO T.gO T.FS bS T.gS T.ma T.mr T.mn
  have GLR0 : FnOk P w K mg base CX0 16 T.fLR T.dLR ["_law_tree_here", "_law_units"] (spLRetold 12) := ok_lretold T.FLR bLR T.gLR T.FP bP T.gP T.mL GLS T.FLS.kp bLS T.gLS GO T.FO.kp bO T.gO T.mt T.ml 12
  have GSc : FnOk P w K mg base (L2N.CX P w) 3 T.fSc T.dSc ["measure", "units"] (spScale Y) := ok_scale T.FSc T.FxP T.gxP T.FxR T.gxR T.FxT T.gxT T.FxW T.gxW T.mG T.mr T.mv T.eB T.eY
  have GRe : FnOk P w K mg base (L2N.CX P w) 16 T.fRe T.dRe ["reckoning", "units"] (spRetold Y 12) := ok_retold T.FRe bRe T.gRe T.FxP T.gxP T.mG GSc T.FSc.kp bSc T.gSc T.FPA bPA T.gPA T.tp T.mt T.ml 12
  have GRs : FnOk P w K mg base (L2N.CX P w) 4 T.fRs T.dRs ["values", "names", "units"] (spResc Y) := ok_resc T.FRs T.FxP T.gxP T.mG GSc T.FSc.kp bSc T.gSc T.eY
  obtain ⟨ST, GTo, tog⟩ : ∃ ST : Sp, FnOk P w K mg base CX0 17 T.fTo T.dTo ["_law_work", "_law_one", "_law_other", "_law_more"] ST ∧ ToG K ST := ⟨_, ok_told3 T.FTo T.k GSc T.FSc.kp bSc T.gSc GRe T.FRe.kp bRe T.gRe GRs T.FRs.kp bRs T.gRs, toG⟩
  obtain ⟨SR, GLR, lrg⟩ : ∃ SR : Sp, FnOk P w K mg base CX0 16 T.fLR T.dLR ["_law_tree_here", "_law_units"] SR ∧ ∀ {H : Hp} {Q : VK} {E : XK} {t ud : Addr} {r : Rk} {ads : List (Str × Addr)} {ul : List (Str × Fr)} {k : Nat}, RetIn H t ud r ads ul k → r.deep ≤ 12 → (∀ H' v, Same H H' → ToldR H' (retR (lk ul) r) v → Q v H') → SR [.ref t, .ref ud] H Q E := ⟨_, GLR0, lrG⟩
  refine F.ok scLaw (fun vs H Q E h => ?_) (fun cdv A outer s H vs Q E hr h => ?_)
  · obtain ⟨a, ns, rfl, _⟩ := h
    rfl
  · obtain ⟨a, ns0, rfl, hS, q⟩ := h
    have nd := scLaw.nd
    have hu := hu_of hr
    have hr1 : Room 1 _ := hr.mono (by omega)
    have hr2 : Room 2 _ := hr.mono (by omega)
    have hr3 : Room 3 _ := hr.mono (by omega)
    have hr8 : Room 8 _ := hr.mono (by omega)
    have hr16 : Room 16 _ := hr.mono (by omega)
    have hun : (A.deeper (envOfC "law" (defScope sLaw) s.heap.objs.size f cdv)).units + 64 < cLine := by have := hr.un; omega
    refine ⟨_, (pss_cons (ps_set (i := 1) nd rfl (.inl rfl) (pe_call GWd hr1 (by rfl) T.gWd T.FWd.kp bWd .nil pass0 (pa_cons (pe_call GC hr1 (by rfl) T.gC T.FC.kp bC .nil pass0 (pa_cons (pv 0) (pa_cons pe_int pa_nil))) (pa_cons pe_int pa_nil))))
      (pss_cons (ps_set (i := 2) nd rfl (.inl rfl) (pe_call GWd hr1 (by rfl) T.gWd T.FWd.kp bWd .nil pass0 (pa_cons (pe_call GC hr1 (by rfl) T.gC T.FC.kp bC .nil pass0 (pa_cons (pv 0) (pa_cons (pe_callTy call_int1 (by rfl) T.mn PyProof.Rows.boot_int (pa_cons (pe_cmpR op_gt (pe_op op_mod (pe_call GC hr1 (by rfl) T.gC T.FC.kp bC .nil pass0 (pa_cons (pv 0) (pa_cons pe_int pa_nil))) pe_int) pe_int (nomark _)) pa_nil)) pa_nil))) (pa_cons pe_int pa_nil))))
      (pss_cons (ps_set (i := 3) nd rfl (.inl rfl) (pe_op op_cat (pv 2) (pe_lst (pa_cons pe_str (pa_cons (pe_op op_add_str pe_str (pe_ix ix_list (pv 1) pe_int (fun _ _ => rfl))) pa_nil)))))
      (pss_cons (ps_set (i := 4) nd rfl (.inl rfl) pe_dnewK)
      (Evl.pss_cut (ps_for PassesOwn.never rfl (pi_range1 rfl T.mr (pa_cons pe_int pa_nil)) (pg_name (i := 5) nd rfl (.inl rfl)) (pss_one (ps_dput hu (pv 4) (pe_ix ix_list (pv 3) (pv 5) (fun _ _ => rfl)) (pe_call GUn hr3 (by rfl) T.gUn T.FUn.kp bUn .nil pass0 (pa_cons (pe_call GC hr1 (by rfl) T.gC T.FC.kp bC .nil pass0 (pa_cons (pv 0) (pa_cons (pe_op op_add pe_int (pv 5)) pa_nil))) pa_nil)) rfl)))
      (pss_cons (ps_set (i := 6) nd rfl (.inl rfl) (pe_call GT hr8 (by rfl) T.gT T.FT.kp bT .nil pass0 (pa_cons (pe_call GC hr1 (by rfl) T.gC T.FC.kp bC .nil pass0 (pa_cons (pv 0) (pa_cons pe_int pa_nil))) (pa_cons (pe_ix ix_list (pe_lst (pa_cons pe_int (pa_cons pe_int (pa_cons pe_int (pa_cons pe_int pa_nil))))) (pe_op op_mod (pe_call GC hr1 (by rfl) T.gC T.FC.kp bC .nil pass0 (pa_cons (pv 0) (pa_cons pe_int pa_nil))) pe_int) (fun _ _ => rfl)) (pa_cons (pe_tup (pa_cons (pv 1) (pa_cons (pv 2) pa_nil))) (pa_cons pe_int pa_nil))))))
      (pss_cons (ps_set (i := 7) nd rfl (.inl rfl) pe_dnewK)
      (pss_cons (ps_set (i := 8) nd rfl (.inl rfl) pe_dnewK)
      (Evl.pss_cut (ps_for PassesOwn.never rfl (pi_range1 rfl T.mr (pa_cons pe_int pa_nil)) (pg_name (i := 5) nd rfl (.inl rfl)) (pss_cons (ps_dput hu (pv 7) (pe_ix ix_list (pv 1) (pv 5) (fun _ _ => rfl)) (pe_call GSm hr2 (by rfl) T.gSm T.FSm.kp bSm .nil pass0 (pa_cons (pe_call GC hr1 (by rfl) T.gC T.FC.kp bC .nil pass0 (pa_cons (pv 0) (pa_cons (pe_op op_add pe_int (pv 5)) pa_nil))) (pa_cons (pv 3) pa_nil))) rfl)
      (pss_one (ps_dput hu (pv 8) (pe_ix ix_list (pv 1) (pv 5) (fun _ _ => rfl)) (pe_call GN hr3 (by rfl) T.gN T.FN.kp bN .nil pass0 (pa_cons (pe_call GX hr1 (by rfl) T.gX T.FX.kp bX .nil pass0 (pa_cons (pe_call GC hr1 (by rfl) T.gC T.FC.kp bC .nil pass0 (pa_cons (pv 0) (pa_cons (pe_op op_add pe_int (pv 5)) pa_nil))) (pa_cons pe_int pa_nil))) pa_nil)) rfl))))
      (pss_cons (ps_if (pt_cmpR (op_neD hun) (pe_call GTo hr (by rfl) T.gTo T.FTo.kp bTo .nil pass0 (pa_cons pe_str (pa_cons (pv 6) (pa_cons (pe_callTy call_dictD (by rfl) T.md (by decide +kernel) (pa_cons (pv 4) pa_nil)) (pa_cons pe_non pa_nil))))) (pe_call GLR hr16 (by rfl) T.gLR T.FLR.kp bLR .nil pass0 (pa_cons (pv 6) (pa_cons (pv 4) pa_nil))) (nomark _)) (pss_one (ps_ret pe_bl)) pss_nil)
      (Evl.pss_cut (ps_if (pt_cmpR op_lt (pe_op op_mod (pe_call GC hr1 (by rfl) T.gC T.FC.kp bC .nil pass0 (pa_cons (pv 0) (pa_cons pe_int pa_nil))) pe_int) pe_int (nomark _)) (pss_one (ps_expr (pe_dpop1 (pv 4) (pe_ix ix_list (pv 3) (pe_op op_mod (pe_op op_fdiv (pe_call GC hr1 (by rfl) T.gC T.FC.kp bC .nil pass0 (pa_cons (pv 0) (pa_cons pe_int pa_nil))) pe_int) (pe_ix ix_list (pe_lst (pa_cons pe_int (pa_cons pe_int pa_nil))) (pe_op op_mod (pe_call GC hr1 (by rfl) T.gC T.FC.kp bC .nil pass0 (pa_cons (pv 0) (pa_cons pe_int pa_nil))) pe_int) (fun _ _ => rfl))) (fun _ _ => rfl)) ⟨rfl, rfl, rfl, rfl⟩))) pss_nil)
      (pss_cons (ps_if (pt_cmpR (op_neD hun) (pe_call GTo hr (by rfl) T.gTo T.FTo.kp bTo .nil pass0 (pa_cons pe_str (pa_cons (pv 6) (pa_cons (pe_callTy call_dictD (by rfl) T.md (by decide +kernel) (pa_cons (pv 4) pa_nil)) (pa_cons pe_non pa_nil))))) (pe_call GLR hr16 (by rfl) T.gLR T.FLR.kp bLR .nil pass0 (pa_cons (pv 6) (pa_cons (pv 4) pa_nil))) (nomark _)) (pss_one (ps_ret pe_bl)) pss_nil)
      (Evl.pss_cut (ps_if (pt_cmpR op_eq (pe_op op_mod (pe_call GC hr1 (by rfl) T.gC T.FC.kp bC .nil pass0 (pa_cons (pv 0) (pa_cons pe_int pa_nil))) pe_int) pe_int (nomark _)) (pss_one (ps_expr (pe_dpop1 (pv 8) (pe_ix ix_list (pv 1) (pe_op op_mod (pe_op op_fdiv (pe_call GC hr1 (by rfl) T.gC T.FC.kp bC .nil pass0 (pa_cons (pv 0) (pa_cons pe_int pa_nil))) pe_int) pe_int) (fun _ _ => rfl)) ⟨rfl, rfl, rfl, rfl⟩))) pss_nil)
      (Evl.pss_cut (ps_if (pt_cmpR op_eq (pe_op op_mod (pe_call GC hr1 (by rfl) T.gC T.FC.kp bC .nil pass0 (pa_cons (pv 0) (pa_cons pe_int pa_nil))) pe_int) pe_int (nomark _)) (pss_one (ps_expr (pe_dpop1 (pv 7) (pe_ix ix_list (pv 1) (pe_op op_mod (pe_op op_fdiv (pe_call GC hr1 (by rfl) T.gC T.FC.kp bC .nil pass0 (pa_cons (pv 0) (pa_cons pe_int pa_nil))) pe_int) pe_int) (fun _ _ => rfl)) ⟨rfl, rfl, rfl, rfl⟩))) pss_nil)
      (pss_cons (ps_set (i := 9) nd rfl (.inl rfl) pe_dnewK)
      (Evl.pss_cut (ps_lock (ps_for PassesOwn.never rfl (pi_keys (pv 7)) (pg_name (i := 10) nd rfl (.inl rfl)) (pss_cons (ps_set (i := 11) nd rfl (.inl rfl) (pe_call GLS hr3 (by rfl) T.gLS T.FLS.kp bLS .nil pass0 (pa_cons (pe_dget hu (pv 7) (pv 10) (fun _ _ => rfl)) (pa_cons (pv 4) pa_nil))))
      (pss_cons (ps_if (pt_cmpR (op_neD hun) (pe_call GTo hr (by rfl) T.gTo T.FTo.kp bTo .nil pass0 (pa_cons pe_str (pa_cons (pe_dget hu (pv 7) (pv 10) (fun _ _ => rfl)) (pa_cons (pe_callTy call_dictD (by rfl) T.md (by decide +kernel) (pa_cons (pv 4) pa_nil)) (pa_cons pe_non pa_nil))))) (pv 11) (nomark _)) (pss_one (ps_ret pe_bl)) pss_nil)
      (pss_one (ps_if (pw_or (pt_cmpR op_isN (pv 11) pe_non (nomark _)) (pw_or1 (pt_cmp (pc_dnotin hu (pv 10) (pv 8))))).pt (pss_one (ps_set (i := 9) nd rfl (.inl rfl) pe_non)) (pss_one (ps_if (pt_cmpR op_notN (pv 9) pe_non (nomark _)) (pss_one (ps_dput hu (pv 9) (pv 10) (pe_call GO hr2 (by rfl) T.gO T.FO.kp bO .nil pass0 (pa_cons (pe_op op_mulW (pe_ix ix_tup (pe_dget hu (pv 8) (pv 10) (fun _ _ => rfl)) pe_int (fun _ _ => rfl)) (pe_ix ix_tup (pv 11) pe_int (fun _ _ => rfl))) (pa_cons (pe_op op_mulW (pe_ix ix_tup (pe_dget hu (pv 8) (pv 10) (fun _ _ => rfl)) pe_int (fun _ _ => rfl)) (pe_ix ix_tup (pv 11) pe_int (fun _ _ => rfl))) pa_nil))) rfl)) pss_nil))))))))
      (pss_cons (ps_set (i := 12) nd rfl (.inl rfl) (pe_tup (pa_cons (pe_callTy call_dictD (by rfl) T.md (by decide +kernel) (pa_cons (pv 8) pa_nil)) (pa_cons (pe_callTy call_dictD (by rfl) T.md (by decide +kernel) (pa_cons (pv 7) pa_nil)) (pa_cons (pe_callTy call_dictD (by rfl) T.md (by decide +kernel) (pa_cons (pv 4) pa_nil)) pa_nil)))))
      (Evl.pss_cut (ps_set (i := 13) nd rfl (.inl rfl) (pe_lock (pe_call GTo hr (by rfl) T.gTo T.FTo.kp bTo .nil pass0 (pa_cons pe_str (pa_cons (pe_ix ix_tup (pv 12) pe_int (fun _ _ => rfl)) (pa_cons (pe_ix ix_tup (pv 12) pe_int (fun _ _ => rfl)) (pa_cons (pe_ix ix_tup (pv 12) pe_int (fun _ _ => rfl)) pa_nil)))))))
      (pss_cons (ps_if (pw_or (pt_cmpR (op_neTV hun) (pv 12) (pe_tup (pa_cons (pv 8) (pa_cons (pv 7) (pa_cons (pv 4) pa_nil)))) (nomark _)) (pw_or1 (pw_and (pt_cmpR op_notN (pv 9) pe_non (nomark _)) (pw_and1 (pt_not (pt_val (pe_callB call_isi (by rfl) T.mi PyProof.Rows.boot_isinstance (pa_cons (pv 13) (pa_cons (pe_bltn (v := .ty "dict") (by rfl) T.md PyProof.Rows.boot_dict rfl) pa_nil))))))).pt)).pt (pss_one (ps_ret pe_bl)) pss_nil)
      (pss_one (ps_ret (pe_cmpR (op_eqF hun) (pv 13) (pv 9) (nomark _))))))))))))))))))))))), ?_⟩
    -- words_here, bases
    refine ⟨_, rfl, a, ns0, 0, rfl, hS, fun c0 c00 c01 => ?_⟩
    refine ⟨c0, 4, rfl, c00, by decide, fun H1 p1 ws s1 np1 hp1 hl1 hw1 => ?_⟩
    have hS1 := s1.seq hS
    refine ⟨_, rfl, ?_⟩
    refine ⟨_, rfl, a, ns0, 1, rfl, hS1, fun c1 c10 c11 => ?_⟩
    refine ⟨_, _, rfl, rfl, (by show (0 : Int) < 3; decide), _, _, rfl, rfl, .inr ⟨_, rfl, ?_⟩⟩
    refine ⟨a, ns0, _, by rw [iteN]; rfl, hS1, fun d1 d10 d11 => ?_⟩
    refine ⟨d1, 3, rfl, d10, by decide, fun H2 p2 bs s2 np2 hp2 hl2 hw2 => ?_⟩
    have hS2 := s2.seq hS1
    have nw : NmsAt H2 p1 ws := ⟨s2 _ _ hp1, (fun e => by rw [e] at hl1; cases hl1), by omega, hw1⟩
    have nb : NmsAt H2 p2 bs := ⟨hp2, (fun e => by rw [e] at hl2; cases hl2), by omega, hw2⟩
    -- letters
    obtain ⟨w0, _, w0m, ew0⟩ := nth_at (ws := ws) (i := 0) (by decide) (by omega)
    have nw0 := hw1 w0 w0m
    refine ⟨_, rfl, _, rfl, p1, _, 0, _, rfl, rfl, SqL.of nw.h, ew0, _, _, rfl, rfl, ?_, (by show 2 ≤ sizeLine; decide), fun l nl => ?_⟩
    · have l1 : (Str.ofString "=").length = 1 := by decide +kernel
      have := sizeLine_eq
      have := nw0.2.1
      show (Str.ofString "=").length + w0.length ≤ _
      rw [l1]
      omega
    have s3 := same_new (o := .lst [V.str "?0", V.str (Str.ofString "=" ++ w0)]) nl
    refine ⟨p2, l, _, _, rfl, rfl, s3 _ _ hp2, upd_same, ?_, fun p3 np3 => ?_⟩
    · rw [List.length_map, hl2]
      exact (by decide : 3 + 2 ≤ sizeLine)
    obtain ⟨ls, els⟩ : ∃ ls : List Str, ls = bs ++ [Str.ofString "?0", Str.ofString "=" ++ w0] := ⟨_, rfl⟩
    have els2 : bs.map V.str ++ [V.str "?0", V.str (Str.ofString "=" ++ w0)] = ls.map V.str := by
      rw [els, List.map_append]
      rfl
    rw [els2]
    have s4 := s3.trans (same_new (o := .lst (ls.map V.str)) np3)
    have hp3 : upd (upd H2 l (.lst [V.str "?0", V.str (Str.ofString "=" ++ w0)])) p3 (.lst (ls.map V.str)) p3 = some (.lst (ls.map V.str)) := upd_same
    generalize upd (upd H2 l (.lst [V.str "?0", V.str (Str.ofString "=" ++ w0)])) p3 (.lst (ls.map V.str)) = H3 at s4 hp3 ⊢
    have lsl : ls.length = 5 := by
      rw [els, List.length_append, hl2]
      rfl
    have lsn : ls ≠ [] := fun e => by rw [e] at lsl; cases lsl
    have lsk : ∀ z ∈ ls, z.length ≤ 1000 := fun z hz => by
      rw [els] at hz
      rcases List.mem_append.mp hz with h | h
      · exact Nat.le_trans (hw2 z h).2.1 (by decide)
      · have h : z = Str.ofString "?0" ∨ z = Str.ofString "=" ++ w0 := by simpa using h
        rcases h with rfl | rfl
        · decide +kernel
        · have l1 : (Str.ofString "=").length = 1 := by decide +kernel
          have := nw0.2.1
          rw [app_len, l1]
          omega
    have hS3 := s4.seq hS2
    have nw3 := nw.same s4
    have nb3 := nb.same s4
    -- units
    refine fun ud nud => ?_
    refine ⟨fun σ' H' => ∃ (v5 : Option V) (uads : List (Str × Addr)) (ul : List (Str × Fr)), σ' = [some (.ref a), some (.ref p1), some (.ref p2), some (.ref p3), some (.ref ud), v5, none, none, none, none, none, none, none, none] ∧ Same H3 H' ∧ VlAt H' ud uads ul ∧ (ul.map (·.1)).Nodup ∧ (∀ p ∈ ul, FrSm 14 p.2 ∧ 0 < p.2.1) ∧ ul.length ≤ 5 ∧ ∀ (j : Nat) (z : Str), ls[j]? = some z → lk ul z ≠ none, ?_, ?_⟩
    · refine ⟨5, rfl, by decide, by decide, for_range (n := 5) (fun i σ H' => ∃ (v5 : Option V) (uads : List (Str × Addr)) (ul : List (Str × Fr)), σ = [some (.ref a), some (.ref p1), some (.ref p2), some (.ref p3), some (.ref ud), v5, none, none, none, none, none, none, none, none] ∧ Same H3 H' ∧ VlAt H' ud uads ul ∧ (ul.map (·.1)).Nodup ∧ (∀ p ∈ ul, FrSm 14 p.2 ∧ 0 < p.2.1) ∧ ul.length ≤ i ∧ ∀ (j : Nat) (z : Str), j < i → ls[j]? = some z → lk ul z ≠ none)
        ⟨none, [], [], rfl, same_new nud, ⟨upd_same, .nil⟩, List.nodup_nil, fun p hp => absurd hp (by simp), Nat.le_refl _, fun j z hj _ => absurd hj (Nat.not_lt_zero _)⟩ ?_ ?_⟩
      · rintro i σ H' hi ⟨v5, uads, ul, rfl, sm, hv, vn, vs, vf, vk⟩
        refine ⟨_, rfl, _, rfl, _, _, rfl, rfl, a, ns0, 2 + i, ?_, sm.seq hS3, fun c g0 g1 => ?_⟩
        · show [V.ref a, V.int (2 + (0 + (i : Int)))] = _
          rw [show (2 : Int) + (0 + (i : Int)) = ((2 + i : Nat) : Int) by omega]
        refine ⟨c, rfl, g0, fun H7 p x sp np hp fx x0 => ?_⟩
        obtain ⟨z, hz, hzm, az⟩ := nth_at (ws := ls) (i := 0 + (i : Int)) (by omega) (by omega)
        have hvp := hv.same sp
        have adn : (uads.map (·.1)).Nodup := by rw [frs_keys hv.2]; exact vn
        have adl : uads.length = ul.length := hv.2.length
        refine ⟨_, rfl, _, rfl, _, rfl, p3, _, _, _, rfl, rfl, SqL.of (sp _ _ (sm _ _ hp3)), az, ?_⟩
        refine ⟨ud, _, rfl, dput_encG hvp.1 adn (small1000 (by omega)), ?_⟩
        refine ⟨_, put uads z p, put ul z x, rfl, same_upd (sm.trans sp) nud, ⟨upd_same, frs_dict hvp.1 (frs_put hp hvp.2)⟩, put_nodup _ _ vn, fun q hq => ?_, Nat.le_trans (put_len _ _ _) (by omega), fun j z' hj hz' => ?_⟩
        · rcases put_mem hq with e | e
          · rw [e]
            exact ⟨fx, x0⟩
          · exact vs q e
        · rw [lk_put]
          by_cases e : z' = z
          · rw [if_pos e]
            exact fun h => nomatch h
          · rw [if_neg e]
            refine vk j z' ?_ hz'
            have : j ≠ i := fun q => by
              rw [q] at hz'
              rw [show (0 + (i : Int)).toNat = i by omega, hz'] at hz
              exact e (Option.some.inj hz)
            omega
      · rintro σ H' ⟨v5, uads, ul, rfl, sm, hv, vn, vs, vf, vk⟩
        exact ⟨v5, uads, ul, rfl, sm, hv, vn, vs, vf, fun j z hz => vk j z (by have := (List.getElem?_eq_some_iff.mp hz).1; omega) hz⟩
    rintro σ' H4 ⟨v5, uads, ul, rfl, s5, hU, und, us, uf, uk⟩
    have hS4 := s5.seq hS3
    have nw4 := nw3.same s5
    have nb4 := nb3.same s5
    have hp34 := s5 _ _ hp3
    -- the tree
    refine ⟨_, rfl, a, ns0, 7, rfl, hS4, fun c7 c70 c71 => ?_⟩
    refine ⟨(by show 4 ≤ sizeLine; decide), fun l2 nl2 => ?_⟩
    have s6 := same_new (o := .lst [V.int 1, V.int 2, V.int 3, V.int 3]) nl2
    refine ⟨_, rfl, a, ns0, 8, rfl, (s6.seq hS4), fun c8 c80 c81 => ?_⟩
    refine ⟨_, _, rfl, rfl, (by show (0 : Int) < 4; decide), ?_⟩
    obtain ⟨d, hd1, hd2⟩ := four_int (a := 1) (b := 2) (c := 3) (d := 3) (i := c8 % 4) (by omega) (by omega)
    have hd3 : d ≤ ((3 : Nat) : Int) ∧ 1 + d.toNat ≤ 4 := by omega
    refine ⟨l2, _, _, _, rfl, rfl, SqL.of upd_same, hd1, ?_⟩
    refine ⟨_, rfl, _, rfl, (by show 2 ≤ sizeLine; decide), fun tu ntu => ?_⟩
    have s7 := s6.trans (same_new (o := .tup [V.ref p1, V.ref p2]) ntu)
    refine ⟨c7, d, 2, tu, p1, p2, ws, bs, rfl, c70, hd3.1, upd_same, nw4.same s7, nb4.same s7, fun H5 tr r s8 np3 ht i3 => ?_⟩
    have s48 := s7.trans s8
    have hS5 := s48.seq hS4
    have nw5 := nw4.same s48
    have hp35 := s48 _ _ hp34
    have hU5 := hU.same s48
    have rok : r.Ok := i3.ok
    have rdp : r.deep ≤ 12 := by have := i3.deep; omega
    clear s6 s7 s8 hd1 hd2 i3
    -- names and values
    refine fun na nna => ?_
    refine fun vd nvd => ?_
    have nvd5 : H5 vd = none := (same_new nna).free nvd
    have dnv : na ≠ vd := ne_of_none upd_same nvd
    have dun : ud ≠ na := ne_of_none hU5.1 nna
    have duv : ud ≠ vd := ne_of_none hU5.1 nvd5
    refine ⟨fun σ' H' => ∃ (v5 : Option V) (nads vads : List (Str × Addr)) (nl : List (Str × Ms)) (vl : List (Str × Fr)), σ' = [some (.ref a), some (.ref p1), some (.ref p2), some (.ref p3), some (.ref ud), v5, some (.ref tr), some (.ref na), some (.ref vd), none, none, none, none, none] ∧ Bk H5 H' ud na vd uads nads vads ul nl vl ws ls ∧ ∀ z ∈ ws, lk nl z ≠ none ∧ lk vl z ≠ none, ?_, ?_⟩
    · refine ⟨4, rfl, by decide, by decide, for_range (n := 4) (fun i σ H' => ∃ (v5 : Option V) (nads vads : List (Str × Addr)) (nl : List (Str × Ms)) (vl : List (Str × Fr)), σ = [some (.ref a), some (.ref p1), some (.ref p2), some (.ref p3), some (.ref ud), v5, some (.ref tr), some (.ref na), some (.ref vd), none, none, none, none, none] ∧ Same H5 H' ∧ NmAt H' na nads nl ∧ VlAt H' vd vads vl ∧ (nl.map (·.1)).Nodup ∧ (vl.map (·.1)).Nodup ∧
          (∀ p ∈ nl, p.1 ∈ ws ∧ p.2.length ≤ 3 ∧ ∀ q ∈ p.2, q.1 ∈ ls ∧ q.2.natAbs ≤ 20) ∧ (∀ p ∈ vl, FrSm 30 p.2) ∧ nl.length ≤ i ∧ vl.length ≤ i ∧ ∀ (j : Nat) (z : Str), j < i → ws[j]? = some z → lk nl z ≠ none ∧ lk vl z ≠ none)
        ⟨v5, [], [], [], [], rfl, (same_new nna).trans (same_new nvd), ⟨by rw [upd_ne dnv]; exact upd_same, .nil⟩, ⟨upd_same, .nil⟩, List.nodup_nil, List.nodup_nil, fun p hp => absurd hp (by simp), fun p hp => absurd hp (by simp), Nat.le_refl _, Nat.le_refl _, fun j z hj _ => absurd hj (Nat.not_lt_zero _)⟩ ?_ ?_⟩
      · rintro i σ H' hi ⟨v5, nads, vads, nl, vl, rfl, sm, hn, hv, nnd, vnd, ns, vs, nf, vf, kk⟩
        refine ⟨_, rfl, _, rfl, _, _, rfl, rfl, a, ns0, 9 + i, ?_, sm.seq hS5, fun x hx0 hx1 => ?_⟩
        · show [V.ref a, V.int (9 + (0 + (i : Int)))] = _
          rw [show (9 : Int) + (0 + (i : Int)) = ((9 + i : Nat) : Int) by omega]
        refine ⟨_, rfl, x, p3, ls, rfl, hx0, sm _ _ hp35, lsn, by omega, fun H7 p m s7 np hpm hc l3 hin => ?_⟩
        obtain ⟨z, hz, hzm, az⟩ := nth_at (ws := ws) (i := 0 + (i : Int)) (by omega) (by omega)
        have hn7 := hn.same s7
        have hka : (nads.map (·.1)).Nodup := by rw [nmr_keys hn.2]; exact nnd
        have hla : nads.length = nl.length := hn.2.length
        have sm7 := sm.trans s7
        refine ⟨_, rfl, _, rfl, _, rfl, p1, _, _, _, rfl, rfl, SqL.of (sm7 _ _ nw5.h), az, na, _, rfl, dput_encG (g := V.ref) hn7.1 hka (small1000 (by omega)), ?_⟩
        have t8 : Tx H7 (upd H7 na (.dK (encG V.ref (put nads z p)))) := .upd hn7.1
        have sm8 : Same H5 (upd H7 na (.dK (encG V.ref (put nads z p)))) := same_upd sm7 nna
        have hn8 : NmAt (upd H7 na (.dK (encG V.ref (put nads z p)))) na (put nads z p) (put nl z m) := ⟨upd_same, nmr_tx t8 (nmr_put hpm hn7.2)⟩
        have hv8 : VlAt (upd H7 na (.dK (encG V.ref (put nads z p)))) vd vads vl := ⟨by rw [upd_ne dnv.symm]; exact s7 _ _ hv.1, frs_tx t8 (frs_same s7 hv.2)⟩
        generalize upd H7 na (.dK (encG V.ref (put nads z p))) = H8 at sm8 hn8 hv8 ⊢
        refine ⟨_, rfl, _, rfl, _, _, rfl, rfl, a, ns0, 9 + i, ?_, sm8.seq hS5, fun y hy0 hy1 => ?_⟩
        · show [V.ref a, V.int (9 + (0 + (i : Int)))] = _
          rw [show (9 : Int) + (0 + (i : Int)) = ((9 + i : Nat) : Int) by omega]
        refine ⟨y, 3, rfl, fun m2 m20 m21 => ⟨m2, rfl, m20, fun H9 p4 u v s9 np4 hp4 red b1 b2 => ?_⟩⟩
        have sm9 := sm8.trans s9
        have hv9 := hv8.same s9
        have hn9 := hn8.same s9
        have hkb : (vads.map (·.1)).Nodup := by rw [frs_keys hv.2]; exact vnd
        have hlb : vads.length = vl.length := hv.2.length
        refine ⟨_, rfl, _, rfl, _, rfl, p1, _, _, _, rfl, rfl, SqL.of (sm9 _ _ nw5.h), az, vd, _, rfl, dput_encG (g := V.ref) hv9.1 hkb (small1000 (by omega)), ?_⟩
        have t10 : Tx H9 (upd H9 vd (.dK (encG V.ref (put vads z p4)))) := .upd hv9.1
        refine ⟨_, put nads z p, put vads z p4, put nl z m, put vl z (u, v), rfl, same_upd sm9 nvd5, ⟨by rw [upd_ne dnv]; exact hn9.1, nmr_tx t10 hn9.2⟩, ⟨upd_same, frs_tx t10 (frs_put hp4 hv9.2)⟩, put_nodup _ _ nnd, put_nodup _ _ vnd, fun q hq => ?_, fun q hq => ?_,
          Nat.le_trans (put_len _ _ _) (by omega), Nat.le_trans (put_len _ _ _) (by omega), fun j z' hj hz' => ?_⟩
        · rcases put_mem hq with e | e
          · rw [e]
            exact ⟨hzm, l3, hin⟩
          · exact ns q e
        · rcases put_mem hq with e | e
          · rw [e]
            exact ⟨red, sm30 b1, sm30 (show v.natAbs ≤ 10 ^ 9 by have := red.1; omega)⟩
          · exact vs q e
        · rw [lk_put, lk_put]
          by_cases e : z' = z
          · rw [if_pos e, if_pos e]
            exact ⟨fun h => (nomatch h), fun h => (nomatch h)⟩
          · rw [if_neg e, if_neg e]
            refine kk j z' ?_ hz'
            have : j ≠ i := fun q => by
              rw [q] at hz'
              rw [show (0 + (i : Int)).toNat = i by omega, hz'] at hz
              exact e (Option.some.inj hz)
            omega
      · rintro σ H' ⟨v5, nads, vads, nl, vl, rfl, sm, hn, hv, nnd, vnd, ns, vs, nf, vf, kk⟩
        refine ⟨v5, nads, vads, nl, vl, rfl, ⟨.of sm, hU5.same sm, hn, hv, und, nnd, vnd, us, vs, ns, uf, nf, vf, dun, duv, dnv⟩, fun z hz => ?_⟩
        obtain ⟨j, hj, e⟩ := List.getElem_of_mem hz
        exact kk j z (by show j < 4; omega) (by rw [List.getElem?_eq_getElem hj, e])
    rintro σ' H6 ⟨v5, nads, vads, nl, vl, rfl, bk, wk⟩
    -- retold
    have rt : ∀ {H' : Hp} {hd : Addr} {uads : List (Str × Addr)} {ul : List (Str × Fr)}, Tx H5 H' → VlAt H' hd uads ul → UnOk 14 (lk ul) → RetIn H' tr hd r uads ul 14 := fun tx v un => ⟨ht.tx tx, v, un, by decide, by decide, rok⟩
    refine ⟨_, rfl, _, rfl, ud, _, rfl, .inl bk.u.1, fun hd nhd => ?_⟩
    have b1 := bk.same (same_new (o := .dK (encG V.ref uads)) nhd)
    refine tog.ret (rt b1.tx (vl_copy bk.u nhd) bk.un) rdp fun H7 w1 t7 tw1 => ?_
    have b7 := b1.same t7
    refine ⟨_, rfl, _, rfl, lrg (rt b7.tx b7.u bk.un) rdp fun H8 w2 t8 tw2 => ?_⟩
    have b8 := b7.same t8
    refine ⟨_, _, toldR_dp (tw1.same t8), toldR_dp tw2, rkO_sh rok rdp, rkO_sh rok rdp, _, rfl, ?_⟩
    rw [SeqAt.eqv_refl _ (SeqAt.canLay_of_shaped (rkO_sh rok rdp))]
    refine iteF ?_
    -- a unit taken out
    refine ⟨fun σ' H' => ∃ (uads : List (Str × Addr)) (ul : List (Str × Fr)), σ' = [some (.ref a), some (.ref p1), some (.ref p2), some (.ref p3), some (.ref ud), v5, some (.ref tr), some (.ref na), some (.ref vd), none, none, none, none, none] ∧ Bk H5 H' ud na vd uads nads vads ul nl vl ws ls, ?_, ?_⟩
    · refine ⟨_, rfl, a, ns0, 13, rfl, seq_tx b8.tx hS5, fun e1 e10 e11 => ?_⟩
      refine ⟨_, _, rfl, rfl, (by show (0 : Int) < 4; decide), _, _, rfl, rfl, _, rfl, ite2 (fun _ => ?_) (fun _ => ⟨uads, ul, rfl, b8⟩)⟩
      refine ⟨_, rfl, ud, rfl, .inl ⟨_, .inl b8.u.1⟩, _, rfl, ?_⟩
      refine ⟨_, rfl, a, ns0, 13, rfl, seq_tx b8.tx hS5, fun e2 e20 e21 => ?_⟩
      refine ⟨_, _, rfl, rfl, ⟨by decide, by decide⟩, (by show 2 ≤ sizeLine; decide), fun l9 nq => ?_⟩
      have b9 := b8.same (same_new (o := .lst [V.int 5, V.int 3]) nq)
      refine ⟨_, rfl, a, ns0, 13, rfl, seq_tx b9.tx hS5, fun e3 e30 e31 => ?_⟩
      refine ⟨_, _, rfl, rfl, (by show (0 : Int) < 2; decide), ?_⟩
      obtain ⟨j, hj1, hj2⟩ := two_int (a := 5) (b := 3) (i := e3 % 2) (by omega) (by omega)
      have j0 : 0 < j ∧ j ≤ 5 := by rcases hj2 with rfl | rfl <;> decide
      refine ⟨l9, _, _, _, rfl, rfl, SqL.of upd_same, hj1, _, _, rfl, rfl, j0.1, ?_⟩
      have g0 := Int.emod_nonneg (e2 / 4) (Int.ne_of_gt j0.1)
      have g1 := Int.emod_lt_of_pos (e2 / 4) j0.1
      obtain ⟨z, hz, hzm, az⟩ := nth_at (ws := ls) (i := e2 / 4 % j) g0 (by omega)
      refine ⟨p3, _, _, _, rfl, rfl, SqL.of (b9.tx _ _ (fun _ e => nomatch e) hp35), az, ?_⟩
      obtain ⟨b', hb'⟩ : ∃ b', lk uads z = some b' := by
        rcases frs_lk b9.u.2 z with ⟨_, e⟩ | ⟨b', _, e, _⟩
        · exact absurd e (uk _ z hz)
        · exact ⟨b', e⟩
      refine ⟨encG V.ref uads, Sum.inr z, .ref b', b9.u.1, rfl, by rw [encG_val, hb']; rfl, ?_⟩
      refine ⟨drp uads z, drp ul z, rfl, ?_⟩
      have e := b9.dropU z
      rw [← drp_enc V.ref z uads] at e
      exact e
    rintro σ' H9 ⟨uads, ul, rfl, bk⟩
    clear hU hU5 b1 b7 b8 tw1 tw2 t7 t8 und us uf uk
    -- retold again
    refine ⟨_, rfl, _, rfl, ud, _, rfl, .inl bk.u.1, fun hd nhd => ?_⟩
    have b1 := bk.same (same_new (o := .dK (encG V.ref uads)) nhd)
    refine tog.ret (rt b1.tx (vl_copy bk.u nhd) bk.un) rdp fun H7 w1 t7 tw1 => ?_
    have b7 := b1.same t7
    refine ⟨_, rfl, _, rfl, lrg (rt b7.tx b7.u bk.un) rdp fun H8 w2 t8 tw2 => ?_⟩
    have b8 := b7.same t8
    refine ⟨_, _, toldR_dp (tw1.same t8), toldR_dp tw2, rkO_sh rok rdp, rkO_sh rok rdp, _, rfl, ?_⟩
    rw [SeqAt.eqv_refl _ (SeqAt.canLay_of_shaped (rkO_sh rok rdp))]
    refine iteF ?_
    clear b1 b7 tw1 tw2 t7 t8 bk
    -- a value taken out
    refine ⟨fun σ' H' => ∃ (vads : List (Str × Addr)) (vl : List (Str × Fr)), σ' = [some (.ref a), some (.ref p1), some (.ref p2), some (.ref p3), some (.ref ud), v5, some (.ref tr), some (.ref na), some (.ref vd), none, none, none, none, none] ∧ Bk H5 H' ud na vd uads nads vads ul nl vl ws ls, ?_, ?_⟩
    · refine ⟨_, rfl, a, ns0, 14, rfl, seq_tx b8.tx hS5, fun e1 e10 e11 => ?_⟩
      refine ⟨_, _, rfl, rfl, (by show (0 : Int) < 4; decide), rfl, _, rfl, ite2 (fun _ => ?_) (fun _ => ⟨vads, vl, rfl, b8⟩)⟩
      refine ⟨_, rfl, vd, rfl, .inl ⟨_, .inl b8.v.1⟩, _, rfl, ?_⟩
      refine ⟨_, rfl, a, ns0, 14, rfl, seq_tx b8.tx hS5, fun e2 e20 e21 => ?_⟩
      obtain ⟨z, hz, hzm, az⟩ := nth_at (ws := ws) (i := e2 / 4 % 4) (by omega) (by omega)
      refine ⟨_, _, rfl, rfl, ⟨by decide, by decide⟩, _, _, rfl, rfl, (by show (0 : Int) < 4; decide), p1, _, _, _, rfl, rfl, SqL.of (nw5.tx b8.tx).h, az, ?_⟩
      obtain ⟨b', hb'⟩ : ∃ b', lk vads z = some b' := by
        rcases frs_lk b8.v.2 z with ⟨_, e⟩ | ⟨b', _, e, _⟩
        · exact absurd e (wk z hzm).2
        · exact ⟨b', e⟩
      refine ⟨encG V.ref vads, Sum.inr z, .ref b', b8.v.1, rfl, by rw [encG_val, hb']; rfl, ?_⟩
      refine ⟨drp vads z, drp vl z, rfl, ?_⟩
      have e := b8.dropV z
      rw [← drp_enc V.ref z vads] at e
      exact e
    replace wk : ∀ z ∈ ws, lk nl z ≠ none := fun z hz => (wk z hz).1
    clear b8
    rintro σ' H8 ⟨vads, vl, rfl, b8⟩
    -- a name taken out
    refine ⟨fun σ' H' => ∃ (nads : List (Str × Addr)) (nl : List (Str × Ms)), σ' = [some (.ref a), some (.ref p1), some (.ref p2), some (.ref p3), some (.ref ud), v5, some (.ref tr), some (.ref na), some (.ref vd), none, none, none, none, none] ∧ Bk H5 H' ud na vd uads nads vads ul nl vl ws ls, ?_, ?_⟩
    · refine ⟨_, rfl, a, ns0, 14, rfl, seq_tx b8.tx hS5, fun e1 e10 e11 => ?_⟩
      refine ⟨_, _, rfl, rfl, (by show (0 : Int) < 4; decide), rfl, _, rfl, ite2 (fun _ => ?_) (fun _ => ⟨nads, nl, rfl, b8⟩)⟩
      refine ⟨_, rfl, na, rfl, .inl ⟨_, .inl b8.n.1⟩, _, rfl, ?_⟩
      refine ⟨_, rfl, a, ns0, 14, rfl, seq_tx b8.tx hS5, fun e2 e20 e21 => ?_⟩
      obtain ⟨z, hz, hzm, az⟩ := nth_at (ws := ws) (i := e2 / 4 % 4) (by omega) (by omega)
      refine ⟨_, _, rfl, rfl, ⟨by decide, by decide⟩, _, _, rfl, rfl, (by show (0 : Int) < 4; decide), p1, _, _, _, rfl, rfl, SqL.of (nw5.tx b8.tx).h, az, ?_⟩
      obtain ⟨b', hb'⟩ : ∃ b', lk nads z = some b' := by
        rcases nm_lk b8.n.2 z with ⟨_, e⟩ | ⟨b', _, e, _⟩
        · exact absurd e (wk z hzm)
        · exact ⟨b', e⟩
      refine ⟨encG V.ref nads, Sum.inr z, .ref b', b8.n.1, rfl, by rw [encG_val, hb']; rfl, ?_⟩
      refine ⟨drp nads z, drp nl z, rfl, ?_⟩
      have e := b8.dropN z
      rw [← drp_enc V.ref z nads] at e
      exact e
    clear b8 wk
    rintro σ' H8 ⟨nads, nl, rfl, b8⟩
    -- due
    refine fun dd ndd => ?_
    have ddn : dd ≠ na := fun e => by rw [e, b8.n.1] at ndd; cases ndd
    refine ⟨fun σ' H' => ∃ (v10 v11 : Option V) (dv : V), σ' = [some (.ref a), some (.ref p1), some (.ref p2), some (.ref p3), some (.ref ud), v5, some (.ref tr), some (.ref na), some (.ref vd), some dv, v10, v11, none, none] ∧ Bk H5 H' ud na vd uads nads vads ul nl vl ws ls ∧ ((¬ rescOk (lk vl) (lk ul) nl ∧ dv = .non) ∨ (rescOk (lk vl) (lk ul) nl ∧ dv = .ref dd ∧ ∃ rads, VlAt H' dd rads (resc (lk vl) (lk ul) nl))), ?_, ?_⟩
    · have hnd : upd H8 dd (.dK []) na = some (.dK (encG V.ref nads)) := by rw [upd_ne ddn.symm]; exact b8.n.1
      refine ⟨na, .dK (encG V.ref nads), hnd, trivial, fun od => ?_⟩
      have pB : Paired (NmR (upd H8 na (.frz od (.dK (encG V.ref nads))))) nads nl := nmr_tx (.upd b8.n.1) b8.n.2
      have uB : VlAt (upd H8 na (.frz od (.dK (encG V.ref nads)))) ud uads ul := vl_off b8.n.1 (fun _ e => nomatch e) b8.d1 b8.u
      have vB : VlAt (upd H8 na (.frz od (.dK (encG V.ref nads)))) vd vads vl := vl_off b8.n.1 (fun _ e => nomatch e) b8.d3.symm b8.v
      have nB : upd H8 na (.frz od (.dK (encG V.ref nads))) na = some (.frz od (.dK (encG V.ref nads))) := upd_same
      have sB : Same (upd H8 na (.frz od (.dK (encG V.ref nads)))) (upd (upd H8 dd (.dK [])) na (.frz od (.dK (encG V.ref nads)))) := fun c x e => by
        by_cases h : c = na
        · rw [h] at e ⊢
          rw [upd_same] at e ⊢
          exact e
        · rw [upd_ne h] at e ⊢
          rw [upd_ne (ne_of_none e ndd)]
          exact e
      have ddB : upd (upd H8 dd (.dK [])) na (.frz od (.dK (encG V.ref nads))) dd = some (.dK []) := by rw [upd_ne ddn]; exact upd_same
      have unl : ∀ {H2 : Hp}, Same (upd H8 na (.frz od (.dK (encG V.ref nads)))) H2 → Bk H5 (upd H2 na (.dK (encG V.ref nads))) ud na vd uads nads vads ul nl vl ws ls := fun s => b8.same (same_unlock b8.n.1 s)
      have ndB : upd H8 na (.frz od (.dK (encG V.ref nads))) dd = none := by rw [upd_ne ddn]; exact ndd
      generalize upd H8 na (.frz od (.dK (encG V.ref nads))) = HB at pB uB vB nB sB unl ndB
      generalize upd (upd H8 dd (.dK [])) na (.frz od (.dK (encG V.ref nads))) = HL at sB ddB ⊢
      have nk : (nads.map (·.1)).Nodup := by rw [nmr_keys pB]; exact b8.nnd
      have pl := pB.length
      have el : (encG V.ref nads).length = nl.length := by rw [encG_len]; exact pl
      refine ⟨_, rfl, na, od, rfl, .inl ⟨_, sB _ _ nB, for_it walk_keys (fun i σ H2 => ∃ (v10 v11 : Option V) (dv : V), σ = [some (.ref a), some (.ref p1), some (.ref p2), some (.ref p3), some (.ref ud), v5, some (.ref tr), some (.ref na), some (.ref vd), some dv, v10, v11, none, none] ∧ Same HB H2 ∧
          ((¬ rescOk (lk vl) (lk ul) (nl.take i) ∧ dv = .non) ∨ (rescOk (lk vl) (lk ul) (nl.take i) ∧ dv = .ref dd ∧ ∃ rads, VlAt H2 dd rads (resc (lk vl) (lk ul) (nl.take i)))))
        ⟨none, none, .ref dd, rfl, sB, .inr ⟨fun p hp => absurd hp (by simp), rfl, [], ddB, .nil⟩⟩ (fun i σ H2 _ z => by obtain ⟨_, _, _, _, s, _⟩ := z; exact s _ _ nB) ?_ ?_⟩⟩
      · rintro i x σ H2 H3 hi ⟨v10, v11, dv, rfl, s2, due⟩ ⟨rfl, kk, vv, hk, rfl⟩
        obtain ⟨z, m, b, hz, rfl, _, hza, hb⟩ := nmr_at pB hk
        have zm := List.mem_of_getElem? hz
        have zn := b8.ns _ zm
        have hg : ∀ {H' : Hp}, Same HB H' → DGet H' na (.str z) (some (.ref b)) := fun s => .inl ⟨encG V.ref nads, Sum.inr z, .inr ⟨od, s _ _ nB⟩, rfl, by rw [encG_val, lk_of_mem nk (List.mem_of_getElem? hza)]; rfl⟩
        refine ⟨_, rfl, _, rfl, na, _, rfl, hg s2, _, rfl, ?_⟩
        refine ⟨b, ud, m, uads, ul, 14, rfl, bk_scl b8.un lsk zn.2 (hb.same s2) (uB.same s2), fun p hp => Nat.le_trans (zn.2.2 p hp).2 (by decide), fun H4 w1 s4 tw1 => ?_⟩
        have s24 := s2.trans s4
        refine ⟨_, rfl, _, rfl, na, _, rfl, hg s24, _, rfl, ud, _, rfl, .inl (uB.same s24).1, fun hd nhd => ?_⟩
        have s5 := same_new (o := .dK (encG V.ref uads)) nhd
        have s25 := s24.trans s5
        refine tog.scl (bk_scl b8.un lsk zn.2 (hb.same s25) (vl_copy (uB.same s24) nhd)) fun H6 w2 s6 tw2 => ?_
        have s26 := s25.trans s6
        have tw16 := tw1.same (s5.trans s6)

        refine ⟨_, rfl, _, _, told_dp tw2, told_dp tw16, frO_sh _, frO_sh _, _, rfl, ?_⟩
        rw [SeqAt.eqv_refl _ (SeqAt.canLay_of_shaped (frO_sh _))]
        refine iteF ?_
        have due6 : (¬ rescOk (lk vl) (lk ul) (nl.take i) ∧ dv = .non) ∨ (rescOk (lk vl) (lk ul) (nl.take i) ∧ dv = .ref dd ∧ ∃ rads, VlAt H6 dd rads (resc (lk vl) (lk ul) (nl.take i))) := by
          rcases due with h | ⟨h1, h2, rads, h3⟩
          · exact .inl h
          · exact .inr ⟨h1, h2, rads, h3.same (s4.trans (s5.trans s6))⟩
        clear due
        have nok : (lk vl z = none ∨ scl (lk ul) m = none) → ¬ rescOk (lk vl) (lk ul) (nl.take (i + 1)) := fun h k => by
          have := k (z, m) (by rw [take_more hz]; simp)
          rcases h with h | h
          · exact this.1 h
          · exact this.2 h
        cases es : scl (lk ul) m with
        | none =>
          rw [es] at tw16
          obtain rfl : w1 = .non := tw16
          refine ⟨_, rfl, rfl, _, rfl, iteT (iteT ?_)⟩
          exact ⟨_, _, _, rfl, s26, .inl ⟨nok (.inr es), rfl⟩⟩
        | some y =>
          rw [es] at tw16
          obtain ⟨p6, rfl, hp6⟩ := tw16
          refine ⟨_, rfl, rfl, _, rfl, iteF ?_⟩
          refine ⟨_, rfl, _, rfl, vd, _, rfl, DGet.k (k := Sum.inr z) (vB.same s26).1, _, rfl, ?_⟩
          rw [encG_val]
          cases ev : lk vads z with
          | none =>
            refine iteT ?_
            have e2 : lk vl z = none := by
              rcases frs_lk vB.2 z with ⟨_, e3⟩ | ⟨_, _, e3, _⟩
              · exact e3
              · rw [ev] at e3
                cases e3
            exact ⟨_, _, _, rfl, s26, .inl ⟨nok (.inl e2), rfl⟩⟩
          | some c0 =>
            refine iteF ?_
            have hpv : lk vl z ≠ none := by
              rcases frs_lk vB.2 z with ⟨e3, _⟩ | ⟨_, _, _, e3, _⟩
              · rw [ev] at e3
                cases e3
              · rw [e3]
                exact fun h => nomatch h
            rcases due6 with ⟨h1, rfl⟩ | ⟨h1, rfl, rads, h3⟩
            · refine ⟨_, rfl, rfl, _, rfl, iteF ?_⟩
              refine ⟨_, _, _, rfl, s26, .inl ⟨fun k => h1 fun p hp => k p ?_, rfl⟩⟩
              rw [take_more hz]
              exact List.mem_append_left _ hp
            · refine ⟨_, rfl, rfl, _, rfl, iteT ?_⟩
              obtain ⟨c, x, e1, e2, e3⟩ := vl_get (vB.same s26) hpv
              have fx := b8.vs _ (mem_of_lk e1)
              have fx : FrSm 30 x := fx
              have fy : FrSm (sbits 14 m) y := by
                have := scl_sm b8.un (by decide) m
                unfold scl at es
                split at es
                · cases es
                  exact this
                · cases es
              have bt := bk_bits zn.2
              have bt : sbits 14 m ≤ 6000 := bt
              have w1 : CMulW x.1 y.1 := fx.2.1.mulW fy.2.1 (by omega)
              have w2 : CMulW x.2 y.2 := fx.2.2.mulW fy.2.2 (by omega)
              refine ⟨_, rfl, _, rfl, vd, _, rfl, e2, c, _, 0, _, rfl, rfl, SqT.of e3, rfl, _, rfl, p6, _, 0, _, rfl, rfl, SqT.of hp6, rfl, _, _, rfl, rfl, w1, ?_⟩
              refine ⟨_, rfl, _, rfl, vd, _, rfl, e2, c, _, 1, _, rfl, rfl, SqT.of e3, rfl, _, rfl, p6, _, 1, _, rfl, rfl, SqT.of hp6, rfl, _, _, rfl, rfl, w2, ?_⟩
              refine ⟨_, _, 30 + sbits 14 m, rfl, Int.mul_ne_zero (Int.ne_of_gt fx.1.1) (Int.ne_of_gt fy.1.1), fx.2.2.mul fy.2.2, by omega, fun p7 np7 => ?_⟩
              have s7 := same_new (o := .tup [V.int (norm (x.1 * y.1) (x.2 * y.2)).1, V.int (norm (x.1 * y.1) (x.2 * y.2)).2]) np7
              have h37 := h3.same s7
              have nt : ((nl.take i).map (·.1)).Nodup := List.Nodup.sublist (List.Sublist.map _ (List.take_sublist _ _)) b8.nnd
              have rk : (resc (lk vl) (lk ul) (nl.take i)).map (·.1) = (nl.take i).map (·.1) := by
                unfold resc
                rw [List.map_map]
                rfl
              have rn : (rads.map (·.1)).Nodup := by rw [frs_keys h37.2, rk]; exact nt
              have rlen : rads.length ≤ 4 := by
                have e4 := h37.2.length
                have := b8.nf
                have e5 := congrArg List.length rk
                rw [List.length_map, List.length_map, List.length_take] at e5
                omega
              refine ⟨_, rfl, _, rfl, dd, _, rfl, dput_encG (g := V.ref) h37.1 rn (small1000 (by omega)), ?_⟩
              refine ⟨_, _, _, rfl, same_upd (s26.trans s7) ndB, .inr ⟨fun p hp => ?_, rfl, put rads z p7, upd_same, ?_⟩⟩
              · rw [take_more hz, List.mem_append, List.mem_singleton] at hp
                rcases hp with hp | rfl
                · exact h1 p hp
                · exact ⟨hpv, by rw [es]; exact fun h => nomatch h⟩
              · have zn2 : z ∉ (resc (lk vl) (lk ul) (nl.take i)).map (·.1) := fun h => by
                  rw [rk] at h
                  have hn := b8.nnd
                  rw [← List.take_append_drop i nl, List.map_append] at hn
                  refine (List.nodup_append.mp hn).2.2 z h z (List.mem_map.mpr ⟨(z, m), List.mem_of_getElem? (i := 0) ?_, rfl⟩) rfl
                  rw [List.getElem?_drop]
                  exact hz
                have e6 : resc (lk vl) (lk ul) (nl.take (i + 1)) = put (resc (lk vl) (lk ul) (nl.take i)) z (norm (x.1 * y.1) (x.2 * y.2)) := by
                  rw [put_new zn2]
                  unfold resc
                  rw [take_more hz, List.map_append]
                  show _ ++ [(z, mulF (un (lk vl) z) ((scl (lk ul) m).getD (1, 1)))] = _
                  have : un (lk vl) z = x := by unfold un; rw [e1]; rfl
                  rw [this, es]
                  rfl
                rw [e6]
                exact frs_dict h37.1 (frs_put upd_same h37.2)
      · rintro σ H2 ⟨v10, v11, dv, rfl, s2, due⟩
        rw [el, List.take_length] at due
        refine ⟨s2 _ _ nB, v10, v11, dv, rfl, unl s2, ?_⟩
        rcases due with h | ⟨h1, h2, rads, h3⟩
        · exact .inl h
        · exact .inr ⟨h1, h2, rads, vl_off (s2 _ _ nB) (fun _ e => nomatch e) ddn h3⟩
    clear b8 ndd
    rintro σ' H9 ⟨v10, v11, dv, rfl, b9, due⟩
    -- handed
    refine ⟨_, rfl, vd, _, rfl, .inl b9.v.1, fun hv nhv => ?_⟩
    have sv := same_new (o := .dK (encG V.ref vads)) nhv
    have cv := vl_copy b9.v nhv
    have b10 := b9.same sv
    refine ⟨_, rfl, na, _, rfl, .inl b10.n.1, fun hn nhn => ?_⟩
    have sn := same_new (o := .dK (encG V.ref nads)) nhn
    have cn := nm_copy' b10.n nhn
    have b11 := b10.same sn
    refine ⟨_, rfl, ud, _, rfl, .inl b11.u.1, fun hu nhu => ?_⟩
    have su := same_new (o := .dK (encG V.ref uads)) nhu
    have cu := vl_copy b11.u nhu
    have b12 := b11.same su
    refine ⟨(by show 3 ≤ sizeLine; decide), fun hh nhh => ?_⟩
    have sh := same_new (o := .tup [V.ref hv, V.ref hn, V.ref hu]) nhh
    have b13 := b12.same sh
    have dvn : hv ≠ hn := ne_of_none cv.1 nhn
    have dnu : hn ≠ hu := ne_of_none cn.1 nhu
    have cv := ((cv.same sn).same su).same sh
    have cn := (cn.same su).same sh
    have cu := cu.same sh
    have hhh : upd (upd (upd (upd H9 hv (.dK (encG V.ref vads))) hn (.dK (encG V.ref nads))) hu (.dK (encG V.ref uads))) hh (.tup [V.ref hv, V.ref hn, V.ref hu]) hh = some (.tup [V.ref hv, V.ref hn, V.ref hu]) := upd_same
    have due13 : (¬ rescOk (lk vl) (lk ul) nl ∧ dv = .non) ∨ (rescOk (lk vl) (lk ul) nl ∧ dv = .ref dd ∧ ∃ rads, VlAt (upd (upd (upd (upd H9 hv (.dK (encG V.ref vads))) hn (.dK (encG V.ref nads))) hu (.dK (encG V.ref uads))) hh (.tup [V.ref hv, V.ref hn, V.ref hu])) dd rads (resc (lk vl) (lk ul) nl)) := by
      rcases due with h | ⟨h1, h2, rads, h3⟩
      · exact .inl h
      · exact .inr ⟨h1, h2, rads, (((h3.same sv).same sn).same su).same sh⟩
    clear due b9 b10 b11 b12
    generalize upd (upd (upd (upd H9 hv (.dK (encG V.ref vads))) hn (.dK (encG V.ref nads))) hu (.dK (encG V.ref uads))) hh (.tup [V.ref hv, V.ref hn, V.ref hu]) = H10 at b13 cv cn cu hhh due13 ⊢
    -- rescaled
    have e0 : atI [V.ref hv, V.ref hn, V.ref hu] 0 = some (.ref hv) := rfl
    have e1 : atI [V.ref hv, V.ref hn, V.ref hu] 1 = some (.ref hn) := rfl
    have e2 : atI [V.ref hv, V.ref hn, V.ref hu] 2 = some (.ref hu) := rfl
    refine ⟨fun σ' H' => ∃ (fv : V), σ' = [some (.ref a), some (.ref p1), some (.ref p2), some (.ref p3), some (.ref ud), v5, some (.ref tr), some (.ref na), some (.ref vd), some dv, v10, v11, some (.ref hh), some fv] ∧ Same H10 H' ∧ ((¬ rescOk (lk vl) (lk ul) nl ∧ fv = .non) ∨ (rescOk (lk vl) (lk ul) nl ∧ ∃ fd rads, fv = .ref fd ∧ VlAt H' fd rads (resc (lk vl) (lk ul) nl))), ?_, ?_⟩
    · refine ⟨hn, .dK (encG V.ref nads), cn.1, trivial, fun od => ?_⟩
      have tl : SqT K (upd H10 hn (.frz od (.dK (encG V.ref nads)))) hh [V.ref hv, V.ref hn, V.ref hu] := SqT.of ((Tx.upd cn.1) _ _ (fun _ e => nomatch e) hhh)
      refine ⟨_, rfl, hh, _, 0, _, rfl, rfl, tl, e0, _, rfl, hh, _, 1, _, rfl, rfl, tl, e1, _, rfl, hh, _, 2, _, rfl, rfl, tl, e2, ?_⟩
      refine tog.res (vads := vads) (nads := nads) (uads := uads) (k := 14) ⟨vl_off cn.1 (fun _ e => nomatch e) dvn cv, upd_same, nmr_tx (.upd cn.1) cn.2, vl_off cn.1 (fun _ e => nomatch e) dnu.symm cu, b13.nnd, Nat.le_trans b13.nf (by decide), fun p hp => Nat.le_trans (hw1 _ (b13.ns p hp).1).2.1 (by decide),
        fun s x e => b13.vs _ (mem_of_lk e), b13.un, by decide, by decide, fun p hp => bk_bits (b13.ns p hp).2, fun p hp q hq => Nat.lt_of_le_of_lt ((b13.ns p hp).2.2 q hq).2 (by decide), fun p hp q hq => lsk _ ((b13.ns p hp).2.2 q hq).1⟩ fun H11 fv s11 ff => ?_
      have hf := s11 _ _ upd_same
      refine ⟨hf, fv, rfl, same_unlock cn.1 s11, ?_⟩
      rcases ff with h | ⟨h1, fd, rads, h2, h3⟩
      · exact .inl h
      · exact .inr ⟨h1, fd, rads, h2, vl_off hf (fun _ e => nomatch e) (fun e => by have := h3.1; rw [e, hf] at this; cases this) h3⟩
    rintro σ' H11 ⟨fv, rfl, s11, ff⟩
    have b14 := b13.same s11
    -- nothing changed
    refine ⟨_, rfl, _, rfl, _, rfl, _, rfl, (by show 3 ≤ sizeLine; decide), fun tt ntt => ?_⟩
    have st := same_new (o := .tup [V.ref vd, V.ref na, V.ref ud]) ntt
    have b15 := b14.same st
    have s15 := s11.trans st
    have cv := cv.same s15
    have cn := cn.same s15
    have cu := cu.same s15
    have kv : (vads.map (·.1)).Nodup := by rw [frs_keys cv.2]; exact b15.vnd
    have kn : (nads.map (·.1)).Nodup := by rw [nmr_keys cn.2]; exact b15.nnd
    have ku : (uads.map (·.1)).Nodup := by rw [frs_keys cu.2]; exact b15.und
    refine ⟨hh, tt, _, _, 3, rfl, rfl, SqT.of (s15 _ _ hhh), SqT.of upd_same, by decide, .cons (.inr (.inr (.inr ⟨hv, vd, _, _, rfl, rfl, cv.1, b15.v.1, rfl, enc_self' (n := 1) kv⟩)))
      (.cons (.inr (.inr (.inr ⟨hn, na, _, _, rfl, rfl, cn.1, b15.n.1, rfl, enc_self' (n := 1) kn⟩))) (.cons (.inr (.inr (.inr ⟨hu, ud, _, _, rfl, rfl, cu.1, b15.u.1, rfl, enc_self' (n := 1) ku⟩))) .nil)), _, rfl, iteF ?_⟩
    have rnd : ((resc (lk vl) (lk ul) nl).map (·.1)).Nodup := by
      have : (resc (lk vl) (lk ul) nl).map (·.1) = nl.map (·.1) := by
        unfold resc
        rw [List.map_map]
        rfl
      rw [this]
      exact b15.nnd
    rcases due13 with ⟨h1, rfl⟩ | ⟨h1, rfl, rads, h3⟩
    · rcases ff with ⟨_, rfl⟩ | ⟨h2, _⟩
      · refine ⟨_, rfl, rfl, _, rfl, iteF (iteF ?_)⟩
        exact ⟨_, rfl, _, rfl, .inl ⟨rfl, rfl⟩, q _⟩
      · exact absurd h2 h1
    · rcases ff with ⟨h2, _⟩ | ⟨_, fd, rads2, rfl, h4⟩
      · exact absurd h1 h2
      · refine ⟨_, rfl, rfl, _, rfl, iteT ?_⟩
        have h4 := h4.same st
        have h3 := h3.same s15
        refine ⟨_, rfl, _, _, _, _, true, rfl, .ty _, .base (.dK h4.1), kit_ty (by decide +kernel), true, rfl, iteF ?_⟩
        exact ⟨_, rfl, _, rfl, .inr (frs_eqR rnd h4 h3), q _⟩
end
end MK


set_option Elab.async false
set_option linter.all false
set_option maxRecDepth 100000
set_option maxHeartbeats 4000000
namespace MK
open PySem PySem.Spec PyProof.Rows L2
/-! ### what the top has written; the law's own head -/
theorem all_mk {l : PySem.W.OpenLaw} {w : World} {K : PySem.W.Frag} {h : Heap} {mg : Str → Option Value} {fa : Addr} (X : K.In h) (G : h.Ns mainGlobals mg) (hfa : mg "law" = some (.ref fa))
    {od0 an0 : Option Addr} {sl0 : Array (Option Value)} {oc0 kV0 dc0 pm0 cd0 ct0 : Value} {f0 : Addr}
    (a0 : PySem.W.nsIn K mainGlobals "_law_mix" = some (some (.ref f0))) (l0 : K.lookup f0 = some ⟨oc0, od0, .func (PySem.W.fnOf "_law_mix" "_law_mix" (defArgs sMix) (defBody sMix) (defScope sMix) .none kV0 dc0 pm0 an0 cd0 ct0), sl0⟩) (c0 : PySem.W.codeIn K cd0 "_law_mix" = true) (k0 : PySem.W.keepIn K (.ref f0) = true)
    {od1 an1 : Option Addr} {sl1 : Array (Option Value)} {oc1 kV1 dc1 pm1 cd1 ct1 : Value} {f1 : Addr}
    (a1 : PySem.W.nsIn K mainGlobals "_law_cell_at" = some (some (.ref f1))) (l1 : K.lookup f1 = some ⟨oc1, od1, .func (PySem.W.fnOf "_law_cell_at" "_law_cell_at" (defArgs sCell) (defBody sCell) (defScope sCell) .none kV1 dc1 pm1 an1 cd1 ct1), sl1⟩) (c1 : PySem.W.codeIn K cd1 "_law_cell_at" = true) (k1 : PySem.W.keepIn K (.ref f1) = true)
    {od2 an2 : Option Addr} {sl2 : Array (Option Value)} {oc2 kV2 dc2 pm2 cd2 ct2 : Value} {f2 : Addr}
    (a2 : PySem.W.nsIn K mainGlobals "_law_words" = some (some (.ref f2))) (l2 : K.lookup f2 = some ⟨oc2, od2, .func (PySem.W.fnOf "_law_words" "_law_words" (defArgs sWords) (defBody sWords) (defScope sWords) .none kV2 dc2 pm2 an2 cd2 ct2), sl2⟩) (c2 : PySem.W.codeIn K cd2 "_law_words" = true) (k2 : PySem.W.keepIn K (.ref f2) = true)
    {od3 an3 : Option Addr} {sl3 : Array (Option Value)} {oc3 kV3 dc3 pm3 cd3 ct3 : Value} {f3 : Addr}
    (a3 : PySem.W.nsIn K mainGlobals "_law_made" = some (some (.ref f3))) (l3 : K.lookup f3 = some ⟨oc3, od3, .func (PySem.W.fnOf "_law_made" "_law_made" (defArgs sMade) (defBody sMade) (defScope sMade) .none kV3 dc3 pm3 an3 cd3 ct3), sl3⟩) (c3 : PySem.W.codeIn K cd3 "_law_made" = true) (k3 : PySem.W.keepIn K (.ref f3) = true)
    {od4 an4 : Option Addr} {sl4 : Array (Option Value)} {oc4 kV4 dc4 pm4 cd4 ct4 : Value} {f4 : Addr}
    (a4 : PySem.W.nsIn K mainGlobals "_law_small" = some (some (.ref f4))) (l4 : K.lookup f4 = some ⟨oc4, od4, .func (PySem.W.fnOf "_law_small" "_law_small" (defArgs sSmall) (defBody sSmall) (defScope sSmall) .none kV4 dc4 pm4 an4 cd4 ct4), sl4⟩) (c4 : PySem.W.codeIn K cd4 "_law_small" = true) (k4 : PySem.W.keepIn K (.ref f4) = true)
    {od5 an5 : Option Addr} {sl5 : Array (Option Value)} {oc5 kV5 dc5 pm5 cd5 ct5 : Value} {f5 : Addr}
    (a5 : PySem.W.nsIn K mainGlobals "_law_shared" = some (some (.ref f5))) (l5 : K.lookup f5 = some ⟨oc5, od5, .func (PySem.W.fnOf "_law_shared" "_law_shared" (defArgs sShared) (defBody sShared) (defScope sShared) .none kV5 dc5 pm5 an5 cd5 ct5), sl5⟩) (c5 : PySem.W.codeIn K cd5 "_law_shared" = true) (k5 : PySem.W.keepIn K (.ref f5) = true)
    {od6 an6 : Option Addr} {sl6 : Array (Option Value)} {oc6 kV6 dc6 pm6 cd6 ct6 : Value} {f6 : Addr}
    (a6 : PySem.W.nsIn K mainGlobals "_law_lowest" = some (some (.ref f6))) (l6 : K.lookup f6 = some ⟨oc6, od6, .func (PySem.W.fnOf "_law_lowest" "_law_lowest" (defArgs sLowest) (defBody sLowest) (defScope sLowest) .none kV6 dc6 pm6 an6 cd6 ct6), sl6⟩) (c6 : PySem.W.codeIn K cd6 "_law_lowest" = true) (k6 : PySem.W.keepIn K (.ref f6) = true)
    {od7 an7 : Option Addr} {sl7 : Array (Option Value)} {oc7 kV7 dc7 pm7 cd7 ct7 : Value} {f7 : Addr}
    (a7 : PySem.W.nsIn K mainGlobals "_law_number" = some (some (.ref f7))) (l7 : K.lookup f7 = some ⟨oc7, od7, .func (PySem.W.fnOf "_law_number" "_law_number" (defArgs sNumber) (defBody sNumber) (defScope sNumber) .none kV7 dc7 pm7 an7 cd7 ct7), sl7⟩) (c7 : PySem.W.codeIn K cd7 "_law_number" = true) (k7 : PySem.W.keepIn K (.ref f7) = true)
    {od8 an8 : Option Addr} {sl8 : Array (Option Value)} {oc8 kV8 dc8 pm8 cd8 ct8 : Value} {f8 : Addr}
    (a8 : PySem.W.nsIn K mainGlobals "_law_leaf" = some (some (.ref f8))) (l8 : K.lookup f8 = some ⟨oc8, od8, .func (PySem.W.fnOf "_law_leaf" "_law_leaf" (defArgs sLeaf) (defBody sLeaf) (defScope sLeaf) .none kV8 dc8 pm8 an8 cd8 ct8), sl8⟩) (c8 : PySem.W.codeIn K cd8 "_law_leaf" = true) (k8 : PySem.W.keepIn K (.ref f8) = true)
    {od9 an9 : Option Addr} {sl9 : Array (Option Value)} {oc9 kV9 dc9 pm9 cd9 ct9 : Value} {f9 : Addr}
    (a9 : PySem.W.nsIn K mainGlobals "_law_tree" = some (some (.ref f9))) (l9 : K.lookup f9 = some ⟨oc9, od9, .func (PySem.W.fnOf "_law_tree" "_law_tree" (defArgs sTree) (defBody sTree) (defScope sTree) .none kV9 dc9 pm9 an9 cd9 ct9), sl9⟩) (c9 : PySem.W.codeIn K cd9 "_law_tree" = true) (k9 : PySem.W.keepIn K (.ref f9) = true)
    {od10 an10 : Option Addr} {sl10 : Array (Option Value)} {oc10 kV10 dc10 pm10 cd10 ct10 : Value} {f10 : Addr}
    (a10 : PySem.W.nsIn K mainGlobals "_law_parts" = some (some (.ref f10))) (l10 : K.lookup f10 = some ⟨oc10, od10, .func (PySem.W.fnOf "_law_parts" "_law_parts" (defArgs sParts) (defBody sParts) (defScope sParts) .none kV10 dc10 pm10 an10 cd10 ct10), sl10⟩) (c10 : PySem.W.codeIn K cd10 "_law_parts" = true) (k10 : PySem.W.keepIn K (.ref f10) = true)
    {od11 an11 : Option Addr} {sl11 : Array (Option Value)} {oc11 kV11 dc11 pm11 cd11 ct11 : Value} {f11 : Addr}
    (a11 : PySem.W.nsIn K mainGlobals "_law_told" = some (some (.ref f11))) (l11 : K.lookup f11 = some ⟨oc11, od11, .func (PySem.W.fnOf "_law_told" "_law_told" (defArgs sLTold) (defBody sLTold) (defScope sLTold) .none kV11 dc11 pm11 an11 cd11 ct11), sl11⟩) (c11 : PySem.W.codeIn K cd11 "_law_told" = true) (k11 : PySem.W.keepIn K (.ref f11) = true)
    {od12 an12 : Option Addr} {sl12 : Array (Option Value)} {oc12 kV12 dc12 pm12 cd12 ct12 : Value} {f12 : Addr}
    (a12 : PySem.W.nsIn K mainGlobals "_law_unit" = some (some (.ref f12))) (l12 : K.lookup f12 = some ⟨oc12, od12, .func (PySem.W.fnOf "_law_unit" "_law_unit" (defArgs sUnit) (defBody sUnit) (defScope sUnit) .none kV12 dc12 pm12 an12 cd12 ct12), sl12⟩) (c12 : PySem.W.codeIn K cd12 "_law_unit" = true) (k12 : PySem.W.keepIn K (.ref f12) = true)
    {od13 an13 : Option Addr} {sl13 : Array (Option Value)} {oc13 kV13 dc13 pm13 cd13 ct13 : Value} {f13 : Addr}
    (a13 : PySem.W.nsIn K mainGlobals "_law_scale" = some (some (.ref f13))) (l13 : K.lookup f13 = some ⟨oc13, od13, .func (PySem.W.fnOf "_law_scale" "_law_scale" (defArgs sLScale) (defBody sLScale) (defScope sLScale) .none kV13 dc13 pm13 an13 cd13 ct13), sl13⟩) (c13 : PySem.W.codeIn K cd13 "_law_scale" = true) (k13 : PySem.W.keepIn K (.ref f13) = true)
    {od14 an14 : Option Addr} {sl14 : Array (Option Value)} {oc14 kV14 dc14 pm14 cd14 ct14 : Value} {f14 : Addr}
    (a14 : PySem.W.nsIn K mainGlobals "_law_retold" = some (some (.ref f14))) (l14 : K.lookup f14 = some ⟨oc14, od14, .func (PySem.W.fnOf "_law_retold" "_law_retold" (defArgs sLRetold) (defBody sLRetold) (defScope sLRetold) .none kV14 dc14 pm14 an14 cd14 ct14), sl14⟩) (c14 : PySem.W.codeIn K cd14 "_law_retold" = true) (k14 : PySem.W.keepIn K (.ref f14) = true)
    {od15 an15 : Option Addr} {sl15 : Array (Option Value)} {oc15 kV15 dc15 pm15 cd15 ct15 : Value} {f15 : Addr}
    (a15 : PySem.W.nsIn K mainGlobals "scale" = some (some (.ref f15))) (l15 : K.lookup f15 = some ⟨oc15, od15, .func (PySem.W.fnOf "scale" "scale" (defArgs sScale) (defBody sScale) (defScope sScale) .none kV15 dc15 pm15 an15 cd15 ct15), sl15⟩) (c15 : PySem.W.codeIn K cd15 "scale" = true) (k15 : PySem.W.keepIn K (.ref f15) = true)
    {od16 an16 : Option Addr} {sl16 : Array (Option Value)} {oc16 kV16 dc16 pm16 cd16 ct16 : Value} {f16 : Addr}
    (a16 : PySem.W.nsIn K mainGlobals "retold" = some (some (.ref f16))) (l16 : K.lookup f16 = some ⟨oc16, od16, .func (PySem.W.fnOf "retold" "retold" (defArgs sRetold) (defBody sRetold) (defScope sRetold) .none kV16 dc16 pm16 an16 cd16 ct16), sl16⟩) (c16 : PySem.W.codeIn K cd16 "retold" = true) (k16 : PySem.W.keepIn K (.ref f16) = true)
    {od17 an17 : Option Addr} {sl17 : Array (Option Value)} {oc17 kV17 dc17 pm17 cd17 ct17 : Value} {f17 : Addr}
    (a17 : PySem.W.nsIn K mainGlobals "rescaled" = some (some (.ref f17))) (l17 : K.lookup f17 = some ⟨oc17, od17, .func (PySem.W.fnOf "rescaled" "rescaled" (defArgs sRescaled) (defBody sRescaled) (defScope sRescaled) .none kV17 dc17 pm17 an17 cd17 ct17), sl17⟩) (c17 : PySem.W.codeIn K cd17 "rescaled" = true) (k17 : PySem.W.keepIn K (.ref f17) = true)
    {od18 an18 : Option Addr} {sl18 : Array (Option Value)} {oc18 kV18 dc18 pm18 cd18 ct18 : Value} {f18 : Addr}
    (a18 : PySem.W.nsIn K mainGlobals "parts" = some (some (.ref f18))) (l18 : K.lookup f18 = some ⟨oc18, od18, .func (PySem.W.fnOf "parts" "parts" (defArgs sPaP) (defBody sPaP) (defScope sPaP) .none kV18 dc18 pm18 an18 cd18 ct18), sl18⟩) (c18 : PySem.W.codeIn K cd18 "parts" = true) (k18 : PySem.W.keepIn K (.ref f18) = true)
    {od19 an19 : Option Addr} {sl19 : Array (Option Value)} {oc19 kV19 dc19 pm19 cd19 ct19 : Value} {f19 : Addr}
    (a19 : PySem.W.nsIn K mainGlobals "product" = some (some (.ref f19))) (l19 : K.lookup f19 = some ⟨oc19, od19, .func (PySem.W.fnOf "product" "product" (defArgs sProd) (defBody sProd) (defScope sProd) .none kV19 dc19 pm19 an19 cd19 ct19), sl19⟩) (c19 : PySem.W.codeIn K cd19 "product" = true) (k19 : PySem.W.keepIn K (.ref f19) = true)
    {od20 an20 : Option Addr} {sl20 : Array (Option Value)} {oc20 kV20 dc20 pm20 cd20 ct20 : Value} {f20 : Addr}
    (a20 : PySem.W.nsIn K mainGlobals "raised" = some (some (.ref f20))) (l20 : K.lookup f20 = some ⟨oc20, od20, .func (PySem.W.fnOf "raised" "raised" (defArgs sRaised) (defBody sRaised) (defScope sRaised) .none kV20 dc20 pm20 an20 cd20 ct20), sl20⟩) (c20 : PySem.W.codeIn K cd20 "raised" = true) (k20 : PySem.W.keepIn K (.ref f20) = true)
    {od21 an21 : Option Addr} {sl21 : Array (Option Value)} {oc21 kV21 dc21 pm21 cd21 ct21 : Value} {f21 : Addr}
    (a21 : PySem.W.nsIn K mainGlobals "_turned" = some (some (.ref f21))) (l21 : K.lookup f21 = some ⟨oc21, od21, .func (PySem.W.fnOf "_turned" "_turned" (defArgs sTrn) (defBody sTrn) (defScope sTrn) .none kV21 dc21 pm21 an21 cd21 ct21), sl21⟩) (c21 : PySem.W.codeIn K cd21 "_turned" = true) (k21 : PySem.W.keepIn K (.ref f21) = true)
    {od22 an22 : Option Addr} {sl22 : Array (Option Value)} {oc22 kV22 dc22 pm22 cd22 ct22 : Value} {f22 : Addr}
    (a22 : PySem.W.nsIn K mainGlobals "_whole_power" = some (some (.ref f22))) (l22 : K.lookup f22 = some ⟨oc22, od22, .func (PySem.W.fnOf "_whole_power" "_whole_power" (defArgs sWholeP) (defBody sWholeP) (defScope sWholeP) .none kV22 dc22 pm22 an22 cd22 ct22), sl22⟩) (c22 : PySem.W.codeIn K cd22 "_whole_power" = true) (k22 : PySem.W.keepIn K (.ref f22) = true)
    {od23 an23 : Option Addr} {sl23 : Array (Option Value)} {oc23 kV23 dc23 pm23 cd23 ct23 : Value} {f23 : Addr}
    (a23 : PySem.W.nsIn K mainGlobals "law" = some (some (.ref f23))) (l23 : K.lookup f23 = some ⟨oc23, od23, .func (PySem.W.fnOf "law" "law" (defArgs sLaw) (defBody sLaw) (defScope sLaw) .none kV23 dc23 pm23 an23 cd23 ct23), sl23⟩) (c23 : PySem.W.codeIn K cd23 "law" = true) (k23 : PySem.W.keepIn K (.ref f23) = true)
    (z0 : PySem.W.nsIn K mainGlobals "len" = some none)
    (z1 : PySem.W.nsIn K mainGlobals "range" = some none)
    (z2 : PySem.W.nsIn K mainGlobals "reversed" = some none)
    (z3 : PySem.W.nsIn K mainGlobals "abs" = some none)
    (z4 : PySem.W.nsIn K mainGlobals "tuple" = some none)
    (z5 : PySem.W.nsIn K mainGlobals "isinstance" = some none)
    (z6 : PySem.W.nsIn K mainGlobals "int" = some none)
    (z7 : PySem.W.nsIn K mainGlobals "ValueError" = some none)
    (z8 : PySem.W.nsIn K mainGlobals "sorted" = some none)
    (z9 : PySem.W.nsIn K mainGlobals "list" = some none)
    (z10 : PySem.W.nsIn K mainGlobals "dict" = some none)
    (gg : PySem.W.nsIn K mainGlobals "gcd" = some (some (.builtin "math.gcd")))
    {M N U Y B : Addr}
    (eM : PySem.W.nsIn K mainGlobals "MeasureError" = some (some (.ref M)))
    (eN : PySem.W.nsIn K mainGlobals "NoFit" = some (some (.ref N)))
    (eU : PySem.W.nsIn K mainGlobals "Unlike" = some (some (.ref U)))
    (eY : PySem.W.nsIn K mainGlobals "NoValue" = some (some (.ref Y)))
    (eB : PySem.W.nsIn K mainGlobals "ByNought" = some (some (.ref B)))
    (y5 : PySem.W.specialIn K (.builtin "object.__class__") "__get__" = some (some (.builtin "getset_descriptor.__get__")))
    (y6 : PySem.W.takesIn K (.builtin "object.__class__") = some true)
    (m1 : PySem.W.subIn K (.ref M) (.type "BaseException") = some true)
    (m2 : PySem.W.hasDictIn K M = true)
    (m3 : PySem.W.typeIn K (.ref M) = some (.type "type"))
    (x1Y : PySem.W.excIn K Y [.type "ValueError", .type "Exception", .type "BaseException", .type "object"] "ValueError.__new__" = true)
    (x2Y : PySem.W.keepIn K (.ref Y) = true)
    (x3Y : PySem.W.subIn K (.ref Y) (.type "BaseException") = some true)
    (x4Y : PySem.W.typeIn K (.ref Y) = some (.type "type"))
    (y1Y : PySem.W.findIn K (.ref Y) "__getattribute__" = some (some (.builtin "BaseException.__getattribute__")))
    (y2Y : PySem.W.findIn K (.ref Y) "__getattr__" = some none)
    (y3Y : PySem.W.hasDictIn K Y = true)
    (y4Y : PySem.W.findIn K (.ref Y) "__class__" = some (some (.builtin "object.__class__")))
    (y7Y : PySem.W.mroIn K Y (.type "object") = some true)
    (qEY : PySem.W.kitOne K (.ref Y) (.type "ValueError") = some true)
    (m4Y : PySem.W.subIn K (.ref Y) (.ref M) = some true)
    (qNY : PySem.W.kitOne K (.ref Y) (.ref N) = some false)
    (qUY : PySem.W.kitOne K (.ref Y) (.ref U) = some false)
    (qYY : PySem.W.kitOne K (.ref Y) (.ref Y) = some true)
    (qBY : PySem.W.kitOne K (.ref Y) (.ref B) = some false)
    (x1B : PySem.W.excIn K B [.type "ValueError", .type "Exception", .type "BaseException", .type "object"] "ValueError.__new__" = true)
    (x2B : PySem.W.keepIn K (.ref B) = true)
    (x3B : PySem.W.subIn K (.ref B) (.type "BaseException") = some true)
    (x4B : PySem.W.typeIn K (.ref B) = some (.type "type"))
    (y1B : PySem.W.findIn K (.ref B) "__getattribute__" = some (some (.builtin "BaseException.__getattribute__")))
    (y2B : PySem.W.findIn K (.ref B) "__getattr__" = some none)
    (y3B : PySem.W.hasDictIn K B = true)
    (y4B : PySem.W.findIn K (.ref B) "__class__" = some (some (.builtin "object.__class__")))
    (y7B : PySem.W.mroIn K B (.type "object") = some true)
    (qEB : PySem.W.kitOne K (.ref B) (.type "ValueError") = some true)
    (m4B : PySem.W.subIn K (.ref B) (.ref M) = some true)
    (qNB : PySem.W.kitOne K (.ref B) (.ref N) = some false)
    (qUB : PySem.W.kitOne K (.ref B) (.ref U) = some false)
    (qYB : PySem.W.kitOne K (.ref B) (.ref Y) = some false)
    (qBB : PySem.W.kitOne K (.ref B) (.ref B) = some true)
    {pt : Addr} {es : Array DictEntry} {nes : Nat} {t1 t2 t3 t4 t5 t6 t7 t8 t9 : Tok}
    (pP : PySem.W.nsIn K mainGlobals "PARTS" = some (some (.ref pt))) (lP : K.lookup pt = some ⟨.type "dict", none, .dict es nes, #[]⟩) (kP : PySem.W.KeysLit w.params es.toList)
    (d1 : PySem.W.nsIn K pt "is" = some (some (.int 0 t1)))
    (d2 : PySem.W.nsIn K pt "nought" = some (some (.int 0 t2)))
    (d3 : PySem.W.nsIn K pt "input" = some (some (.int 0 t3)))
    (d4 : PySem.W.nsIn K pt "plus" = some (some (.int 2 t4)))
    (d5 : PySem.W.nsIn K pt "minus" = some (some (.int 2 t5)))
    (d6 : PySem.W.nsIn K pt "times" = some (some (.int 2 t6)))
    (d7 : PySem.W.nsIn K pt "over" = some (some (.int 2 t7)))
    (d8 : PySem.W.nsIn K pt "power" = some (some (.int 1 t8)))
    (d9 : PySem.W.nsIn K pt "less" = some (some (.int 4 t9))) :
    ∃ fd : FuncData, (∀ (s : Shared) (v : Value), BindsTo s fd ⟨[v], []⟩ [("_law_script", v)]) ∧ ∀ base : Heap, K.In base → base.Ns mainGlobals mg → FnOk l.prog w K mg base CX0 18 fa fd ["_law_script"] (spLaw K) := by
  have e := hfa.symm.trans (PySem.W.mg_of X G a23)
  cases e
  have CY : ExcC K Y := ⟨y1Y, y2Y, x3Y, y3Y, y4Y, y5, y6, y7Y⟩
  have AY : ErrAt K mg "NoValue" Y := ⟨x1Y, PySem.W.mg_of X G eY, x2Y, x3Y, x4Y⟩
  have CB : ExcC K B := ⟨y1B, y2B, x3B, y3B, y4B, y5, y6, y7B⟩
  have AB : ErrAt K mg "ByNought" B := ⟨x1B, PySem.W.mg_of X G eB, x2B, x3B, x4B⟩
  have TP : PTab K w mg pt := PTab.mk' (PySem.W.mg_of X G pP) lP kP d1 d2 d3 d4 d5 d6 d7 d8 d9
  have KK : KY K mg M N U Y B := ⟨CY, qEY, qYY, qNY, qUY, qBY, PySem.W.exm_ref m1 m2 m3 m4Y, PySem.W.mg_of X G eM, PySem.W.mg_of X G eN, PySem.W.mg_of X G eU, PySem.W.mg_of X G eY, PySem.W.mg_of X G eB, PySem.W.mg_none_of X G z7, PySem.W.mg_none_of X G z5, PySem.W.mg_none_of X G z6⟩
  have T : Txt K w mg M N U Y B pt := ⟨f0, f1, f2, f3, f4, f5, f6, f7, f8, f9, f10, f11, f12, f13, f14, f15, f16, f17, f18, f19, f20, f21, f22, _, _, _, _, _, _, _, _, _, _, _, _, _, _, _, _, _, _, _, _, _, _, _, fun_mk l0 c0 k0, fun_mk l1 c1 k1, fun_mk l2 c2 k2, fun_mk l3 c3 k3, fun_mk l4 c4 k4, fun_mk l5 c5 k5, fun_mk l6 c6 k6, fun_mk l7 c7 k7, fun_mk l8 c8 k8, fun_mk l9 c9 k9, fun_mk l10 c10 k10, fun_mk l11 c11 k11, fun_mk l12 c12 k12, fun_mk l13 c13 k13, fun_mk l14 c14 k14, fun_mk l15 c15 k15, fun_mk l16 c16 k16, fun_mk l17 c17 k17, fun_mk l18 c18 k18, fun_mk l19 c19 k19, fun_mk l20 c20 k20, fun_mk l21 c21 k21, fun_mk l22 c22 k22, PySem.W.mg_of X G a0, PySem.W.mg_of X G a1, PySem.W.mg_of X G a2, PySem.W.mg_of X G a3, PySem.W.mg_of X G a4, PySem.W.mg_of X G a5, PySem.W.mg_of X G a6, PySem.W.mg_of X G a7, PySem.W.mg_of X G a8, PySem.W.mg_of X G a9, PySem.W.mg_of X G a10, PySem.W.mg_of X G a11, PySem.W.mg_of X G a12, PySem.W.mg_of X G a13, PySem.W.mg_of X G a14, PySem.W.mg_of X G a15, PySem.W.mg_of X G a16, PySem.W.mg_of X G a17, PySem.W.mg_of X G a18, PySem.W.mg_of X G a19, PySem.W.mg_of X G a20, PySem.W.mg_of X G a21, PySem.W.mg_of X G a22, PySem.W.mg_none_of X G z0, PySem.W.mg_none_of X G z1, PySem.W.mg_none_of X G z2, PySem.W.mg_none_of X G z3, PySem.W.mg_none_of X G z4, PySem.W.mg_none_of X G z5, PySem.W.mg_none_of X G z6, PySem.W.mg_none_of X G z7, PySem.W.mg_none_of X G z8, PySem.W.mg_none_of X G z9, PySem.W.mg_none_of X G z10, KK, PySem.W.mg_of X G gg, TP, AY, AB⟩
  have FL := fun_mk (st := sLaw) l23 c23 k23
  exact ⟨_, fun s v => .of_eq rfl, fun base _ _ => ok_law FL T⟩
end MK
open PySem PySem.W PyProof.Rows
set_option maxHeartbeats 0 in
theorem PySem.Challenge.cw_measurekind_k13_units_changed_holds : PySem.Challenge.rw_measurekind_k13_units_changed.Holds := by
  w_on; o_law; k_head; (case hw => w_witness2)
  k_fill
  refine L2.walk_of (l := PySem.Challenge.rw_measurekind_k13_units_changed) (n := 63) (k := 18) (x := "_law_script") (CX := fun _ => L2.CX0) (sp := fun w => MK.spLaw _) rfl (by decide) rfl ⟨rfl, by decide, by decide⟩ (fun w h Y => PySem.W.kIn_of Y) ?F (fun _ _ a ns hl _ hS => ⟨a, ns, rfl, hS, fun _ => rfl⟩) (fun _ _ _ _ _ h => h)
  case F =>
    intro w mg fa h KX G hmg
    refine' MK.all_mk KX G hmg ?a0 ?l0 ?c0 ?k0 ?a1 ?l1 ?c1 ?k1 ?a2 ?l2 ?c2 ?k2 ?a3 ?l3 ?c3 ?k3 ?a4 ?l4 ?c4 ?k4 ?a5 ?l5 ?c5 ?k5 ?a6 ?l6 ?c6 ?k6 ?a7 ?l7 ?c7 ?k7 ?a8 ?l8 ?c8 ?k8 ?a9 ?l9 ?c9 ?k9 ?a10 ?l10 ?c10 ?k10 ?a11 ?l11 ?c11 ?k11 ?a12 ?l12 ?c12 ?k12 ?a13 ?l13 ?c13 ?k13 ?a14 ?l14 ?c14 ?k14 ?a15 ?l15 ?c15 ?k15 ?a16 ?l16 ?c16 ?k16 ?a17 ?l17 ?c17 ?k17 ?a18 ?l18 ?c18 ?k18 ?a19 ?l19 ?c19 ?k19 ?a20 ?l20 ?c20 ?k20 ?a21 ?l21 ?c21 ?k21 ?a22 ?l22 ?c22 ?k22 ?a23 ?l23 ?c23 ?k23 ?z0 ?z1 ?z2 ?z3 ?z4 ?z5 ?z6 ?z7 ?z8 ?z9 ?z10 ?gg ?eM ?eN ?eU ?eY ?eB ?y5 ?y6 ?m1 ?m2 ?m3 ?x1Y ?x2Y ?x3Y ?x4Y ?y1Y ?y2Y ?y3Y ?y4Y ?y7Y ?qEY ?m4Y ?qNY ?qUY ?qYY ?qBY ?x1B ?x2B ?x3B ?x4B ?y1B ?y2B ?y3B ?y4B ?y7B ?qEB ?m4B ?qNB ?qUB ?qYB ?qBB ?pP ?lP ?kP ?d1 ?d2 ?d3 ?d4 ?d5 ?d6 ?d7 ?d8 ?d9
    (case a0 => k_is)
    (case l0 => k_is)
    (case c0 => k_is)
    (case k0 => k_is)
    (case a1 => k_is)
    (case l1 => k_is)
    (case c1 => k_is)
    (case k1 => k_is)
    (case a2 => k_is)
    (case l2 => k_is)
    (case c2 => k_is)
    (case k2 => k_is)
    (case a3 => k_is)
    (case l3 => k_is)
    (case c3 => k_is)
    (case k3 => k_is)
    (case a4 => k_is)
    (case l4 => k_is)
    (case c4 => k_is)
    (case k4 => k_is)
    (case a5 => k_is)
    (case l5 => k_is)
    (case c5 => k_is)
    (case k5 => k_is)
    (case a6 => k_is)
    (case l6 => k_is)
    (case c6 => k_is)
    (case k6 => k_is)
    (case a7 => k_is)
    (case l7 => k_is)
    (case c7 => k_is)
    (case k7 => k_is)
    (case a8 => k_is)
    (case l8 => k_is)
    (case c8 => k_is)
    (case k8 => k_is)
    (case a9 => k_is)
    (case l9 => k_is)
    (case c9 => k_is)
    (case k9 => k_is)
    (case a10 => k_is)
    (case l10 => k_is)
    (case c10 => k_is)
    (case k10 => k_is)
    (case a11 => k_is)
    (case l11 => k_is)
    (case c11 => k_is)
    (case k11 => k_is)
    (case a12 => k_is)
    (case l12 => k_is)
    (case c12 => k_is)
    (case k12 => k_is)
    (case a13 => k_is)
    (case l13 => k_is)
    (case c13 => k_is)
    (case k13 => k_is)
    (case a14 => k_is)
    (case l14 => k_is)
    (case c14 => k_is)
    (case k14 => k_is)
    (case a15 => k_is)
    (case l15 => k_is)
    (case c15 => k_is)
    (case k15 => k_is)
    (case a16 => k_is)
    (case l16 => k_is)
    (case c16 => k_is)
    (case k16 => k_is)
    (case a17 => k_is)
    (case l17 => k_is)
    (case c17 => k_is)
    (case k17 => k_is)
    (case a18 => k_is)
    (case l18 => k_is)
    (case c18 => k_is)
    (case k18 => k_is)
    (case a19 => k_is)
    (case l19 => k_is)
    (case c19 => k_is)
    (case k19 => k_is)
    (case a20 => k_is)
    (case l20 => k_is)
    (case c20 => k_is)
    (case k20 => k_is)
    (case a21 => k_is)
    (case l21 => k_is)
    (case c21 => k_is)
    (case k21 => k_is)
    (case a22 => k_is)
    (case l22 => k_is)
    (case c22 => k_is)
    (case k22 => k_is)
    (case a23 => k_is)
    (case l23 => k_is)
    (case c23 => k_is)
    (case k23 => k_is)
    (case z0 => k_is)
    (case z1 => k_is)
    (case z2 => k_is)
    (case z3 => k_is)
    (case z4 => k_is)
    (case z5 => k_is)
    (case z6 => k_is)
    (case z7 => k_is)
    (case z8 => k_is)
    (case z9 => k_is)
    (case z10 => k_is)
    (case gg => k_is)
    (case eM => k_is)
    (case eN => k_is)
    (case eU => k_is)
    (case eY => k_is)
    (case eB => k_is)
    (case y5 => k_is)
    (case y6 => k_is)
    (case m1 => k_is)
    (case m2 => k_is)
    (case m3 => k_is)
    (case x1Y => k_exc)
    (case x2Y => k_is)
    (case x3Y => k_is)
    (case x4Y => k_is)
    (case y1Y => k_is)
    (case y2Y => k_is)
    (case y3Y => k_is)
    (case y4Y => k_is)
    (case y7Y => k_is)
    (case qEY => kit_is)
    (case m4Y => k_is)
    (case qNY => kit_is)
    (case qUY => kit_is)
    (case qYY => kit_is)
    (case qBY => kit_is)
    (case x1B => k_exc)
    (case x2B => k_is)
    (case x3B => k_is)
    (case x4B => k_is)
    (case y1B => k_is)
    (case y2B => k_is)
    (case y3B => k_is)
    (case y4B => k_is)
    (case y7B => k_is)
    (case qEB => kit_is)
    (case m4B => k_is)
    (case qNB => kit_is)
    (case qUB => kit_is)
    (case qYB => kit_is)
    (case qBB => kit_is)
    (case pP => k_is)
    (case lP => k_is)
    (case kP => k_keys)
    (case d1 => k_is)
    (case d2 => k_is)
    (case d3 => k_is)
    (case d4 => k_is)
    (case d5 => k_is)
    (case d6 => k_is)
    (case d7 => k_is)
    (case d8 => k_is)
    (case d9 => k_is)


