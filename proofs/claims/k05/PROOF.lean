import PyProof.Rows.All
import Wide.All
import OpenK.AllK
import Wide.FinOn
import HandS.ForMost
import HandS.More
import HandS.Wide
import HandS.WideBits
import HandS.SortRule
import HandS.SortInts
import PyProof.StrOps2
import PyProof.Rows.SortShellAny
import HandS.ForExc
import HandS.ExcCtx
import HandS.HotCalls
import HandS.ExcIs
import HandS.Gcd
import HandS.RevRange
import KE.KDictPairs
import HandS.TupSets
import HandS.SetTxt0
import HandS.SetBool
import HandS.Small
import HandS.FStr
import HandS.DictComp
import HandS.Style
import HandS.FStrTup
import PyProof.ReprNest
import PyProof.FitsInt
import HandS.ListEq
import HandS.DeepEq
import PyProof.NeKinds
import HandS.IsInst
import HandS.Evl
import PySem.Challenge.RW_measurekind_k05_worth_reckoned
set_option Elab.async false
set_option linter.all false
/-! Measures as lists of pairs: association lists, sums by letter, the one sorted list of a sum. Plain Lean. -/
namespace MK
open PySem

/-! ### association lists -/
section
variable {α : Type}
def lk : List (Str × α) → Str → Option α
  | [], _ => none
  | p :: r, l => if p.1 = l then some p.2 else lk r l
def put : List (Str × α) → Str → α → List (Str × α)
  | [], l, v => [(l, v)]
  | p :: r, l, v => if p.1 = l then (p.1, v) :: r else p :: put r l v
theorem lk_put : ∀ (m : List (Str × α)) (l j : Str) (v : α), lk (put m l v) j = if j = l then some v else lk m j
  | [], l, j, v => by
    by_cases e : l = j
    · simp [put, lk, e]
    · have e' : ¬ j = l := fun z => e z.symm
      simp [put, lk, e, e']
  | p :: r, l, j, v => by
    have ih := lk_put r l j v
    unfold put
    by_cases e : p.1 = l
    · rw [if_pos e]
      by_cases e2 : p.1 = j
      · have : j = l := e2.symm.trans e
        simp [lk, e2, this]
      · have : ¬ j = l := fun z => e2 (e.trans z.symm)
        simp [lk, e2, this]
    · rw [if_neg e]
      by_cases e2 : p.1 = j
      · have : ¬ j = l := fun z => e (e2.trans z)
        simp [lk, e2, this]
      · simp [lk, e2, ih]
theorem put_keys : ∀ (m : List (Str × α)) (l : Str) (v : α), (∀ k, k ∈ (put m l v).map (·.1) ↔ (k = l ∨ k ∈ m.map (·.1)))
  | [], l, v, k => by simp [put]
  | p :: r, l, v, k => by
    have ih := put_keys r l v k
    unfold put
    by_cases e : p.1 = l
    · rw [if_pos e]
      simp only [List.map_cons, List.mem_cons]
      rw [e]
      constructor
      · intro h; rcases h with h | h
        · exact .inl h
        · exact .inr (.inr h)
      · intro h; rcases h with h | h | h
        · exact .inl h
        · exact .inl h
        · exact .inr h
    · rw [if_neg e]
      simp only [List.map_cons, List.mem_cons]
      rw [ih]
      constructor
      · intro h; rcases h with h | h | h
        · exact .inr (.inl h)
        · exact .inl h
        · exact .inr (.inr h)
      · intro h; rcases h with h | h | h
        · exact .inr (.inl h)
        · exact .inl h
        · exact .inr (.inr h)
theorem put_nodup : ∀ {m : List (Str × α)} (l : Str) (v : α), (m.map (·.1)).Nodup → ((put m l v).map (·.1)).Nodup
  | [], l, v, _ => by simp [put]
  | p :: r, l, v, h => by
    have h : (p.1 :: r.map (·.1)).Nodup := h
    obtain ⟨h1, h2⟩ := List.nodup_cons.mp h
    unfold put
    by_cases e : p.1 = l
    · rw [if_pos e]
      exact h
    · rw [if_neg e]
      show (p.1 :: (put r l v).map (·.1)).Nodup
      refine List.nodup_cons.mpr ⟨fun q => ?_, put_nodup l v h2⟩
      rcases (put_keys r l v p.1).mp q with z | z
      · exact e z
      · exact h1 z
theorem put_len : ∀ (m : List (Str × α)) (l : Str) (v : α), (put m l v).length ≤ m.length + 1
  | [], l, v => by simp [put]
  | p :: r, l, v => by
    have ih := put_len r l v
    unfold put
    by_cases e : p.1 = l
    · rw [if_pos e]; simp
    · rw [if_neg e]; simp only [List.length_cons]; omega
theorem put_mem : ∀ {m : List (Str × α)} {l : Str} {v : α} {q : Str × α}, q ∈ put m l v → q = (l, v) ∨ q ∈ m
  | [], l, v, q, h => by
    simp [put] at h
    exact .inl h
  | p :: r, l, v, q, h => by
    unfold put at h
    by_cases e : p.1 = l
    · rw [if_pos e] at h
      rcases List.mem_cons.mp h with z | z
      · exact .inl (by rw [z, e])
      · exact .inr (List.mem_cons_of_mem _ z)
    · rw [if_neg e] at h
      rcases List.mem_cons.mp h with z | z
      · exact .inr (by rw [z]; exact List.mem_cons_self)
      · rcases put_mem z with y | y
        · exact .inl y
        · exact .inr (List.mem_cons_of_mem _ y)
theorem lk_of_mem : ∀ {m : List (Str × α)} {l : Str} {v : α}, (m.map (·.1)).Nodup → (l, v) ∈ m → lk m l = some v
  | p :: r, l, v, h, q => by
    have h : (p.1 :: r.map (·.1)).Nodup := h
    obtain ⟨h1, h2⟩ := List.nodup_cons.mp h
    unfold lk
    rcases List.mem_cons.mp q with z | z
    · rw [← z]
      simp
    · have ne : ¬ p.1 = l := fun e => h1 (by rw [e]; exact List.mem_map.mpr ⟨_, z, rfl⟩)
      rw [if_neg ne]
      exact lk_of_mem h2 z
theorem mem_of_lk : ∀ {m : List (Str × α)} {l : Str} {v : α}, lk m l = some v → (l, v) ∈ m
  | [], l, v, h => by simp [lk] at h
  | p :: r, l, v, h => by
    unfold lk at h
    by_cases e : p.1 = l
    · rw [if_pos e] at h
      have : p.2 = v := Option.some.inj h
      rw [← e, ← this]
      exact List.mem_cons_self
    · rw [if_neg e] at h
      exact List.mem_cons_of_mem _ (mem_of_lk h)
theorem lk_none : ∀ {m : List (Str × α)} {l : Str}, lk m l = none ↔ ¬ l ∈ m.map (·.1)
  | [], l => by simp [lk]
  | p :: r, l => by
    have ih := lk_none (m := r) (l := l)
    unfold lk
    by_cases e : p.1 = l
    · simp [e]
    · rw [if_neg e, ih]
      simp only [List.map_cons, List.mem_cons]
      constructor
      · intro h z
        rcases z with z | z
        · exact e z.symm
        · exact h z
      · exact fun h z => h (.inr z)
end

/-! ### powers by letters -/
abbrev Ms := List (Str × Int)
def at0 (m : Ms) (l : Str) : Int := (lk m l).getD 0
theorem at0_nil (l : Str) : at0 [] l = 0 := rfl
theorem at0_put (m : Ms) (l j : Str) (v : Int) : at0 (put m l v) j = if j = l then v else at0 m j := by
  unfold at0
  rw [lk_put]
  by_cases e : j = l
  · rw [if_pos e, if_pos e]; rfl
  · rw [if_neg e, if_neg e]
/-- the sum of what stands at a letter, however often -/
def sumAt : Ms → Str → Int
  | [], _ => 0
  | p :: r, j => (if p.1 = j then p.2 else 0) + sumAt r j
theorem sumAt_append : ∀ (a b : Ms) (j : Str), sumAt (a ++ b) j = sumAt a j + sumAt b j
  | [], b, j => by simp [sumAt]
  | p :: r, b, j => by
    have ih := sumAt_append r b j
    show (if p.1 = j then p.2 else 0) + sumAt (r ++ b) j = (if p.1 = j then p.2 else 0) + sumAt r j + sumAt b j
    omega
theorem sumAt_one (l : Str) (n : Int) (j : Str) : sumAt [(l, n)] j = if l = j then n else 0 := by
  show (if l = j then n else 0) + 0 = _
  omega
theorem sumAt_no : ∀ {m : Ms} {j : Str}, ¬ j ∈ m.map (·.1) → sumAt m j = 0
  | [], _, _ => rfl
  | p :: r, j, h => by
    have h1 : ¬ p.1 = j := fun e => h (by rw [← e]; exact List.mem_cons_self)
    have h2 : ¬ j ∈ r.map (·.1) := fun e => h (List.mem_cons_of_mem _ e)
    show (if p.1 = j then p.2 else 0) + sumAt r j = 0
    rw [if_neg h1, sumAt_no h2]
    rfl
theorem sumAt_at0 : ∀ {m : Ms} (j : Str), (m.map (·.1)).Nodup → sumAt m j = at0 m j
  | [], _, _ => rfl
  | p :: r, j, h => by
    have h : (p.1 :: r.map (·.1)).Nodup := h
    obtain ⟨h1, h2⟩ := List.nodup_cons.mp h
    show (if p.1 = j then p.2 else 0) + sumAt r j = at0 (p :: r) j
    by_cases e : p.1 = j
    · rw [if_pos e, sumAt_no (by rw [← e]; exact h1)]
      unfold at0 lk
      rw [if_pos e]
      show p.2 + 0 = p.2
      omega
    · rw [if_neg e, sumAt_at0 j h2]
      have q : at0 (p :: r) j = at0 r j := by
        show (if p.1 = j then some p.2 else lk r j).getD 0 = _
        rw [if_neg e]
        rfl
      rw [q]
      omega
def scaled (m : Ms) (n : Int) : Ms := m.map fun p => (p.1, p.2 * n)
theorem sumAt_scaled : ∀ (m : Ms) (n : Int) (j : Str), sumAt (scaled m n) j = sumAt m j * n
  | [], n, j => by show (0 : Int) = 0 * n; omega
  | p :: r, n, j => by
    have ih := sumAt_scaled r n j
    show (if p.1 = j then p.2 * n else 0) + sumAt (scaled r n) j = ((if p.1 = j then p.2 else 0) + sumAt r j) * n
    rw [ih, Int.add_mul]
    by_cases e : p.1 = j
    · rw [if_pos e, if_pos e]
    · rw [if_neg e, if_neg e]; omega
theorem nodup_of_map {β γ : Type} {g : β → γ} {l : List β} (h : (l.map g).Nodup) : l.Nodup := (List.pairwise_map.mp h).imp fun q e => q (congrArg g e)
theorem at0_mem {m : Ms} {j : Str} (h : at0 m j ≠ 0) : (j, at0 m j) ∈ m := by
  unfold at0 at h ⊢
  cases e : lk m j with
  | none => rw [e] at h; exact absurd rfl h
  | some v => exact mem_of_lk e
theorem sumAt_mem {m : Ms} {j : Str} (h : sumAt m j ≠ 0) : j ∈ m.map (·.1) := Decidable.byContradiction fun q => h (sumAt_no q)

/-! ### the order of texts -/
abbrev sLt (a b : Str) : Prop := a.cps.toList < b.cps.toList
theorem sLt_irr (a : Str) : ¬ sLt a a := List.lt_irrefl _
theorem sLt_tr {a b c : Str} (h : sLt a b) (h2 : sLt b c) : sLt a c := List.lt_trans h h2
theorem str_ext {a b : Str} (h : a.cps.toList = b.cps.toList) : a = b := by
  cases a; cases b
  simp at h
  rw [h]
theorem sLt_tri {a b : Str} (h : ¬ sLt a b) (h2 : ¬ sLt b a) : a = b := str_ext (List.le_antisymm (List.not_lt.mp h2) (List.not_lt.mp h))

/-! ### the measures in their one form -/
def Ris (m : List (Str × Int)) : Prop := m.Pairwise fun p q => sLt p.1 q.1
structure Can (m : Ms) : Prop where
  ris : Ris m
  nz : ∀ p ∈ m, p.2 ≠ 0
theorem Ris.nodup {m : Ms} (h : Ris m) : (m.map (·.1)).Nodup := by
  refine List.pairwise_map.mpr (h.imp fun {a b} q => ?_)
  intro e
  rw [e] at q
  exact sLt_irr _ q
theorem ris_ext : ∀ {a b : Ms}, Ris a → Ris b → (∀ p, p ∈ a ↔ p ∈ b) → a = b
  | [], [], _, _, _ => rfl
  | [], p :: r, _, _, h => absurd ((h p).mpr List.mem_cons_self) (by simp)
  | p :: r, [], _, _, h => absurd ((h p).mp List.mem_cons_self) (by simp)
  | p :: r, q :: t, ha, hb, h => by
    obtain ⟨a1, a2⟩ := List.pairwise_cons.mp ha
    obtain ⟨b1, b2⟩ := List.pairwise_cons.mp hb
    have e : p = q := by
      rcases List.mem_cons.mp ((h p).mp List.mem_cons_self) with z | z
      · exact z
      · rcases List.mem_cons.mp ((h q).mpr List.mem_cons_self) with y | y
        · exact y.symm
        · exact absurd (sLt_tr (b1 p z) (a1 q y)) (sLt_irr _)
    subst e
    refine congrArg (p :: ·) (ris_ext a2 b2 fun x => ?_)
    constructor
    · intro hx
      rcases List.mem_cons.mp ((h x).mp (List.mem_cons_of_mem _ hx)) with z | z
      · exact absurd (z ▸ a1 x hx) (sLt_irr _)
      · exact z
    · intro hx
      rcases List.mem_cons.mp ((h x).mpr (List.mem_cons_of_mem _ hx)) with z | z
      · exact absurd (z ▸ b1 x hx) (sLt_irr _)
      · exact z
theorem Can.mem {m : Ms} (h : Can m) (l : Str) (n : Int) : (l, n) ∈ m ↔ n ≠ 0 ∧ at0 m l = n := by
  constructor
  · intro q
    refine ⟨h.nz _ q, ?_⟩
    unfold at0
    rw [lk_of_mem h.ris.nodup q]
    rfl
  · rintro ⟨a, b⟩
    rw [← b]
    exact at0_mem (by rw [b]; exact a)
theorem can_ext {a b : Ms} (ha : Can a) (hb : Can b) (h : ∀ j, at0 a j = at0 b j) : a = b :=
  ris_ext ha.ris hb.ris fun p => by
    rw [show p = (p.1, p.2) from rfl, ha.mem, hb.mem, h]
/-- what the program makes of a dict: its pairs that are not nought, in their order -/
theorem made_prog {d r : Ms} (hd : (d.map (·.1)).Nodup) (hr : Ris r) (hp : ∀ p, p ∈ r ↔ p ∈ d ∧ p.2 ≠ 0) : Can r ∧ ∀ j, at0 r j = at0 d j := by
  have hc : Can r := ⟨hr, fun p q => ((hp p).mp q).2⟩
  refine ⟨hc, fun j => ?_⟩
  by_cases e : at0 d j = 0
  · rw [e]
    refine Decidable.byContradiction fun z => ?_
    have q := (hp _).mp (at0_mem z)
    have q2 : at0 d j = at0 r j := by
      show (lk d j).getD 0 = _
      rw [lk_of_mem hd q.1]
      rfl
    rw [e] at q2
    exact z q2.symm
  · have q := (hp (j, at0 d j)).mpr ⟨at0_mem e, e⟩
    exact ((hc.mem j _).mp q).2
theorem can_nil : Can [] := ⟨List.Pairwise.nil, fun _ h => absurd h (by simp)⟩
/-- the law's reckoning of the same: sorted letters, then their numbers -/
def byKeys (d : Ms) (ks : List Str) : Ms := (ks.filter fun k => decide (at0 d k ≠ 0)).map fun k => (k, at0 d k)
theorem made_law {d : Ms} {ks : List Str} (hd : (d.map (·.1)).Nodup) (hk : ks.Perm (d.map (·.1))) (hs : ks.Pairwise fun a b => ¬ sLt b a) : Can (byKeys d ks) ∧ ∀ j, at0 (byKeys d ks) j = at0 d j := by
  have hn : ks.Nodup := hk.nodup_iff.mpr hd
  have hst : ks.Pairwise sLt := by
    refine (hs.and hn).imp ?_
    rintro a b ⟨h1, h2⟩
    refine Decidable.byContradiction fun h3 => h2 (sLt_tri h3 h1)
  refine made_prog hd ?_ fun p => ?_
  · unfold byKeys
    exact List.pairwise_map.mpr (hst.filter _)
  · unfold byKeys
    rw [List.mem_map]
    constructor
    · rintro ⟨k, q, e⟩
      obtain ⟨q1, q2⟩ := List.mem_filter.mp q
      have q3 : at0 d k ≠ 0 := of_decide_eq_true q2
      rw [← e]
      exact ⟨at0_mem q3, q3⟩
    · rintro ⟨a, b⟩
      have e : at0 d p.1 = p.2 := by
        show (lk d p.1).getD 0 = _
        rw [lk_of_mem hd a]
        rfl
      refine ⟨p.1, List.mem_filter.mpr ⟨hk.mem_iff.mpr (List.mem_map.mpr ⟨p, a, rfl⟩), decide_eq_true (by rw [e]; exact b)⟩, by rw [e]⟩

/-! ### bounds, letters -/
/-- a text of signs that there are -/
def Ok (z : Str) : Prop := ∀ c ∈ z.cps.toList, c < 1114112
/-- .. and not empty -/
def LtOk (z : Str) : Prop := z.cps.toList ≠ [] ∧ Ok z
theorem ok_app {a b : Str} (ha : Ok a) (hb : Ok b) : Ok (a ++ b) := fun c hc => by
  have hc : c ∈ (a.cps ++ b.cps).toList := hc
  rw [Array.toList_append] at hc
  rcases List.mem_append.mp hc with h | h
  · exact ha c h
  · exact hb c h
theorem ok_one {c : Nat} (h : c < 1114112) : Ok ⟨#[c]⟩ := fun x hx => by
  have : x = c := by simpa using hx
  rw [this]
  exact h
theorem ok_string (s : String) : Ok (Str.ofString s) := fun c hc => by
  rw [Str.ofString_eq_toList] at hc
  have hc : c ∈ s.toList.map Char.toNat := by simpa using hc
  obtain ⟨d, _, e⟩ := List.mem_map.mp hc
  have v : d.val.toNat < 0xd800 ∨ (0xdfff < d.val.toNat ∧ d.val.toNat < 0x110000) := d.valid
  have e2 : d.val.toNat = c := e
  omega
theorem ok_fold (c : Array Nat) (hc : ∀ x ∈ c.toList, x < 1114112) : ∀ (k : Nat) (acc : Array Nat), (∀ x ∈ acc.toList, x < 1114112) → ∀ x ∈ ((List.replicate k c).foldl (· ++ ·) acc).toList, x < 1114112
  | 0, acc, h => h
  | k + 1, acc, h => by
    rw [List.replicate_succ, List.foldl_cons]
    refine ok_fold c hc k _ fun x hx => ?_
    rw [Array.toList_append] at hx
    rcases List.mem_append.mp hx with q | q
    · exact h x q
    · exact hc x q
/-- a measure as the law hands it over: in its form, letters that are not empty, numbers below 2 ^ b -/
structure Good (b : Nat) (m : Ms) : Prop where
  can : Can m
  ne : ∀ p ∈ m, LtOk p.1
  lt : ∀ p ∈ m, p.2.natAbs < 2 ^ b
  few : m.length ≤ 1000
theorem Good.at0_lt {b : Nat} {m : Ms} (h : Good b m) (j : Str) : (at0 m j).natAbs < 2 ^ b := by
  by_cases e : at0 m j = 0
  · rw [e]; exact Nat.two_pow_pos b
  · exact h.lt _ (at0_mem e)
theorem good_nil (b : Nat) : Good b [] := ⟨can_nil, fun _ h => absurd h (by simp), fun _ h => absurd h (by simp), by simp⟩
theorem nil_lt {a : Str} (h : a.cps.toList ≠ []) : sLt ⟨#[]⟩ a := by
  show ([] : List Nat) < a.cps.toList
  cases e : a.cps.toList with
  | nil => exact absurd e h
  | cons x r => exact List.nil_lt_cons x r
end MK


set_option Elab.async false
set_option linter.all false
set_option maxRecDepth 100000
set_option maxHeartbeats 4000000
/-! Rules that the layer has not: a text times a number; sorted of texts and of pairs (text, number), any number of them. -/
namespace SrtO
open PySem PyProof.Rows Srt
section
variable {prog : Program} {w : World} {A : Around} {E : Value → Shared → Prop} {s : Shared}
def lexS (p q : PySem.Str × Int) : Bool := if p.1 = q.1 then decide (p.2 < q.2) else decide (p.1.cps.toList < q.1.cps.toList)
theorem lexS_no {p q : PySem.Str × Int} : lexS p q = false ↔ ¬ (MK.sLt p.1 q.1 ∨ (p.1 = q.1 ∧ p.2 < q.2)) := by
  unfold lexS
  by_cases e : p.1 = q.1
  · rw [if_pos e]
    constructor
    · intro h z
      rcases z with z | z
      · rw [e] at z; exact MK.sLt_irr _ z
      · exact of_decide_eq_false h z.2
    · intro h
      exact decide_eq_false fun z => h (.inr ⟨e, z⟩)
  · rw [if_neg e]
    constructor
    · intro h z
      rcases z with z | z
      · exact of_decide_eq_false h z
      · exact e z.1
    · intro h
      exact decide_eq_false fun z => h (.inl z)
theorem lexS_yes {p q : PySem.Str × Int} : lexS p q = true ↔ (MK.sLt p.1 q.1 ∨ (p.1 = q.1 ∧ p.2 < q.2)) := by
  constructor
  · intro h
    refine Decidable.byContradiction fun z => ?_
    rw [lexS_no.mpr z] at h
    cases h
  · intro h
    cases e : lexS p q with
    | true => rfl
    | false => exact absurd h (lexS_no.mp e)
theorem swo_lexS : Swo lexS := by
  refine ⟨fun x y h => ?_, fun x y z h1 h2 => ?_⟩
  · have a := lexS_yes.mp h
    refine lexS_no.mpr fun b => ?_
    rcases a with a | a
    · rcases b with b | b
      · exact MK.sLt_irr _ (MK.sLt_tr a b)
      · rw [b.1] at a; exact MK.sLt_irr _ a
    · rcases b with b | b
      · rw [a.1] at b; exact MK.sLt_irr _ b
      · have := a.2; have := b.2; omega
  · have a := lexS_no.mp h1
    have b := lexS_no.mp h2
    refine lexS_no.mpr fun c => ?_
    have tri : MK.sLt x.1 y.1 ∨ x.1 = y.1 := by
      by_cases h : MK.sLt x.1 y.1
      · exact .inl h
      · exact .inr (MK.sLt_tri h fun q => a (.inl q))
    rcases tri with t | t
    · rcases c with c | c
      · exact b (.inl (MK.sLt_tr c t))
      · rw [← c.1] at t; exact b (.inl t)
    · rcases c with c | c
      · rw [t] at c; exact b (.inl c)
      · have h3 : ¬ y.2 < x.2 := fun q => a (.inr ⟨t.symm, q⟩)
        have h4 : ¬ z.2 < y.2 := fun q => b (.inr ⟨c.1.trans t, q⟩)
        have := c.2
        omega
theorem swo_lexSk (k : Value → PySem.Str × Int) : Swo fun v u => lexS (k v) (k u) := ⟨fun x y => swo_lexS.asym _ _, fun x y z => swo_lexS.tr _ _ _⟩
/-- a tuple (text, number) -/
def IsSP (h : Heap) (v : Value) (x : PySem.Str) (y : Int) : Prop := ∃ a o t u n, v = .ref a ∧ h.get? a = some o ∧ o.cls = .type "tuple" ∧ o.data = .seq #[.str x t, .int y u] n
theorem IsSP.keeps {h h' : Heap} {v : Value} {x : PySem.Str} {y : Int} (p : IsSP h v x y) (k : ∀ b o, h.get? b = some o → o.cls = .type "tuple" → h'.get? b = some o) : IsSP h' v x y := by
  obtain ⟨a, o, t, u, n, e, ho, hc, hd⟩ := p
  exact ⟨a, o, t, u, n, e, k _ _ ho hc, hc, hd⟩
theorem firstsS_of {h : Heap} : ∀ {vs : List Value}, (∀ v ∈ vs, ∃ x y, IsSP h v x y) → ∃ fs : List Value, PySem.W.KatTups h vs fs ∧ fs.length = vs.length ∧ ∀ f ∈ fs, ∃ x t, f = Value.str x t
  | [], _ => ⟨[], PySem.W.KatTups.nil, rfl, fun _ hm => by simp at hm⟩
  | v :: vs, hp => by
    obtain ⟨fs, h1, h2, h3⟩ := firstsS_of (vs := vs) fun v' hm => hp v' (List.mem_cons_of_mem _ hm)
    obtain ⟨x, y, a, o, t, u, n, e, ho, hc, hd⟩ := hp v (List.mem_cons_self ..)
    subst e
    refine ⟨.str x t :: fs, PySem.W.KatTups.cons ho hc hd rfl h1, by rw [List.length_cons, List.length_cons, h2], fun f hm => ?_⟩
    rcases List.mem_cons.mp hm with rfl | hm
    · exact ⟨x, t, rfl⟩
    · exact h3 f hm
theorem pairS_cmp {vs : List Value} {k : Value → PySem.Str × Int} (hp : ∀ v ∈ vs, IsSP s.heap v (k v).1 (k v).2) : Cmp prog w A s (tuples' true) (fun p => p.1 ∈ vs) (lt2 fun v u => lexS (k v) (k u)) := by
  intro p q hm hm'
  have h1 := hp _ hm
  have h2 := hp _ hm'
  show wpAny (model prog w) A (keyLt' (tuples' true) p.1 q.1) (fun r s' => s' = s ∧ r = lexS (k p.1) (k q.1)) (fun _ _ => False) s
  unfold lexS
  generalize (k p.1).1 = x at h1 ⊢
  generalize (k p.1).2 = y at h1 ⊢
  generalize (k q.1).1 = x' at h2 ⊢
  generalize (k q.1).2 = y' at h2 ⊢
  obtain ⟨a, o, t, u, n, e, ho, hc, hd⟩ := h1
  obtain ⟨a', o', t', u', n', e', ho', hc', hd'⟩ := h2
  rw [e, e']
  refine PySem.W.kat_lt ho hd ho' hd' ?_
  show PySem.W.KatLex prog w A true (decide (2 < 2)) _ [(.str x t, .str x' t'), (.int y u, .int y' u')] 0 s
  refine PySem.W.kat_cons (SeqAt.EqAt.str_str x t x' t' prog w _ _ ?_)
  refine PySem.W.kat_go (fun e1 => ?_) (fun e1 => ?_)
  · have ex : x = x' := by simpa using e1
    refine PySem.W.kat_yes (PySem.W.kat_cons (SeqAt.EqAt.int_int y u y' u' prog w _ _ ?_))
    refine PySem.W.kat_go (fun e2 => ?_) (fun e2 => ?_)
    · have ey : y = y' := by simpa using e2
      have e3 : (if x = x' then decide (y < y') else decide (x.cps.toList < x'.cps.toList)) = false := by
        rw [if_pos ex, ey]
        exact decide_eq_false (Int.lt_irrefl _)
      exact PySem.W.kat_yes (PySem.W.kat_nil ⟨rfl, e3.symm⟩)
    · have e3 : (if x = x' then decide (y < y') else decide (x.cps.toList < x'.cps.toList)) = decide (y < y') := if_pos ex
      refine PySem.W.kat_no (PySem.W.kat_one _ _ (PyProof.Rows.lt_int ?_))
      exact (show s = s ∧ decide (y < y') = (if x = x' then decide (y < y') else decide (x.cps.toList < x'.cps.toList)) from ⟨rfl, e3.symm⟩)
  · have ex : ¬ x = x' := by simpa using e1
    have e3 : (if x = x' then decide (y < y') else decide (x.cps.toList < x'.cps.toList)) = decide (x.cps.toList < x'.cps.toList) := if_neg ex
    exact PySem.W.kat_no (oneLt_str ⟨rfl, e3.symm⟩)
theorem pairsS_sortableO {a : Addr} {vs : List Value} {k : Value → PySem.Str × Int} (h0 : 0 < vs.length) (hp : ∀ v ∈ vs, IsSP s.heap v (k v).1 (k v).2) (ha : ∀ o, s.heap.get? a = some o → o.cls ≠ .type "tuple") : SortableO prog w A s a vs fun v u => lexS (k v) (k u) := by
  intro h' keep
  have hp' : ∀ v ∈ vs, IsSP h' v (k v).1 (k v).2 := fun v hm => (hp v hm).keeps fun b o e c => keep b o (fun z => by subst z; exact ha o e c) e
  obtain ⟨fs, h1, h2, h3⟩ := firstsS_of fun v hm => ⟨_, _, hp' v hm⟩
  refine ⟨tuples' true, fun Q E hq => ?_, pairS_cmp hp'⟩
  refine PySem.W.kat_kind (T := .type "str") h1 (by omega) (fun f hm => ?_) (by rfl) ?_
  · obtain ⟨x, t, rfl⟩ := h3 f hm
    exact PySem.W.Looks.now
  · have e : (Value.type "str" != Value.type "tuple") = true := by first | decide +kernel | rfl | decide
    rw [e]
    exact hq
/-- sorted(l) of pairs (text, number), any number of them: sorted by k, stable -/
theorem sorted_pairsS {l : Addr} {vs : List Value} {k : Value → PySem.Str × Int} {Q : Value → Shared → Prop} (hl : s.heap.IsList l vs.toArray) (hz : vs.length ≤ sizeLine) (hp : ∀ v ∈ vs, IsSP s.heap v (k v).1 (k v).2)
    (h : ∀ (h' : Heap) (d : Addr) (out : List Value), Srtd (fun v u => lexS (k v) (k u)) out → Stb (fun v u => lexS (k v) (k u)) out vs → (∀ b o, s.heap.get? b = some o → h'.get? b = some o) → s.heap.objs.size ≤ d → (∃ n, h'.get? d = some (seqObj "list" out.toArray n)) → Q (.ref d) { s with heap := h' }) :
    wpAny (model prog w) A (call (.builtin "sorted") [.ref l]) Q E s := by
  refine sorted_ord (swo_lexSk k) hl hz (fun h2 h₁ a ha kk => ?_) fun out hs hb => ?_
  · refine pairsS_sortableO (s := { s with heap := h₁ }) (by omega) (fun v hm => (hp v hm).keeps fun b o e _ => (kk b o e).2) fun o e => ?_
    have e' : some o = some (seqObj "list" vs.toArray 0) := e.symm.trans ha
    cases e'
    intro c
    exact absurd (Value.type.inj c) (by decide)
  · exact h _ _ out hs hb (fun b o e => sortedAll_old e) (Nat.le_succ _) (sortedAll_at s.heap vs out.toArray)
end
end SrtO

namespace L2
open PySem PySem.Spec PyProof.Rows
/-- sorted(xs), xs a list of pairs (text, number), texts that differ: a new list of the same items, their texts rising -/
def rSortedSP (K : PySem.W.Frag) : List V → Hp → VK → Prop := fun vs H Q => ∃ (a : Addr) (xs : List V) (k : V → Str × Int), vs = [V.ref a] ∧ SqL K H a xs ∧ (∀ x ∈ xs, ∃ t, x = V.ref t ∧ H t = some (.tup [.str (k x).1, .int (k x).2])) ∧
  ∀ ys p, ys.Perm xs → ys.Pairwise (fun x y => SrtO.lexS (k y) (k x) = false) → H p = none → Q (.ref p) (upd H p (.lst ys))
section
variable {X : Cx}
theorem cr_sortedSP : CallR X (.builtin "sorted") (rSortedSP X.K) := by
  intro pins s σ H vs us Q I r h
  obtain ⟨a, xs, k, rfl, hs, hx, q⟩ := h
  obtain ⟨its, rv, hl, hz⟩ := I.list hs
  obtain ⟨u, rfl, ru⟩ := vals1 r
  obtain rfl : u = Value.ref a := ru
  obtain ⟨e1, e2⟩ := refs_back rv fun x m => by
    obtain ⟨t, e, _⟩ := hx x m
    exact ⟨t, e⟩
  refine SrtO.sorted_pairsS (k := fun u => k (backV u)) hl.isList (by rw [← rv.length]; exact hz) (fun v hv => ?_) fun h' d out h1 h2 kp hd hn => ?_
  · obtain ⟨t, rfl⟩ := e2 v hv
    have hm : V.ref t ∈ xs := by rw [e1]; exact List.mem_map.mpr ⟨_, hv, rfl⟩
    obtain ⟨t', e, ht⟩ := hx _ hm
    cases e
    obtain ⟨_, its2, r2, o, ho, hc, n, hd⟩ := I.hok _ _ ht
    obtain ⟨u1, u2, rfl, ri, rj⟩ := vals2 r2
    obtain ⟨t1, rfl⟩ := ri
    obtain ⟨t2, rfl⟩ := rj
    exact ⟨t, o, t1, t2, n, rfl, ho, hc, hd⟩
  · have h3 : ∀ u ∈ out, ∃ a, u = Value.ref a := fun u hu => e2 u (h2.perm.mem_iff.mp hu)
    obtain ⟨n, hn⟩ := hn
    have hb : (out.map backV).Perm xs := by
      rw [e1]
      exact h2.perm.map backV
    refine ⟨.ref d, upd H d (.lst (out.map backV)), I.laid (t' := s.toks) kp hd ⟨?_, out, n, vals_back h3, hn⟩, rfl, q _ d hb (List.pairwise_map.mpr h1) (I.hok.fresh hd)⟩
    rw [hb.length_eq]
    exact hz
/-- sorted(d), d a dict whose keys are texts, any number of them -/
theorem call_sortedDA (hcalm : X.calm = true) : CallR X (.builtin "sorted") (fun xs H Q => ∃ (a : Addr) (kvs : List (Key × V)) (ks : List Str), xs = [.ref a] ∧ Rd H a (.dK kvs) ∧ kvs.map (·.1) = ks.map Sum.inr ∧
    ∀ ys p, ys.Perm ks → sortedS ys = true → H p = none → Q (.ref p) (upd H p (.lst (ys.map V.str)))) := by
  intro pins s σ H xs us Q I r q
  obtain ⟨a, kvs, ks, ex, hd, hks, q⟩ := q
  subst ex
  obtain ⟨u, eu, rx⟩ := vals1 r
  subst eu
  cases rx
  obtain ⟨z, lo, vs, rel, dd⟩ := dk_rd I.hok hd
  obtain ⟨ep, hat⟩ := dd.dictAt
  have hkeys : vs.map (·.1) = ks.map Sum.inr := rel.keys.symm.trans hks
  have hl : vs.length = ks.length := by
    have e := congrArg List.length hkeys
    rw [List.length_map, List.length_map] at e
    exact e
  have h16 : vs.length ≤ sizeLine := by rw [← rel.length]; exact z
  have hks16 : ks.length ≤ sizeLine := by rw [← hl]; exact h16
  refine Calls.call_function_entry PyProof.Rows.kind_sorted PyProof.Rows.plain_sorted PyProof.Rows.entry_sorted (PyProof.Rows.args_sorted1 _) ?_
  unfold Builtin.«sorted»
  refine wpAny_bind (m := checkCount "sorted" 1 1 _) (wpAny_pure ?_)
  refine wpAny_bind (PySem.W.kdu_collect (A := X.A.in1) (PySem.W.kdl_dict (knd := mixKind X.prog X.w) (kvs := vs) (ep := ep) lo) (I.ok.hd hcalm) hat h16 fun h' tk acc hk hacc => ?_)
  have hal : acc.toList.length = ks.length := by rw [Array.length_toList, hacc.1, hl]
  have hS : StrsAre acc.toList ks := strs_at hal fun j v e => by
    obtain ⟨k, x, e1, e2⟩ := hacc.2 j v (by rw [← Array.getElem?_toList]; exact e)
    have e3 : (vs.map (·.1))[j]? = some k := by rw [List.getElem?_map, e1]; all_goals rfl
    rw [hkeys, List.getElem?_map] at e3
    cases e4 : ks[j]? with
    | none => rw [e4] at e3; cases e3
    | some y =>
      rw [e4] at e3
      have e5 : Sum.inr y = k := Option.some.inj e3
      subst e5
      obtain ⟨t, ev⟩ := Value.isStrOf_shape (x := y) (v := v) e2
      exact ⟨y, t, rfl, ev⟩
  have I1 : Inv X pins σ H { s with heap := h', toks := tk } := I.kept hk
  refine wpAny_bind (wpAny_newList ?_ (by rw [hal]; exact hks16))
  have hoL : (h'.push (seqObj "list" acc.toList.toArray 0)).get? h'.objs.size = some (seqObj "list" acc.toList.toArray 0) := Heap.get?_push_size _ rfl
  show wpAny _ _ _ _ _ { s with heap := h'.push (seqObj "list" acc.toList.toArray 0), toks := tk }
  refine wpAny_bind (wpAny_holding (wpAny_call_entry PyProof.Rows.slot_list_sort ⟨_, hoL, rfl⟩ PyProof.Rows.entry_list_sort
    (list_sort_treeKAny strKind_oneLt (s := { s with heap := h'.push (seqObj "list" acc.toList.toArray 0), toks := tk }) hoL hS.keysOf (fun v₁ v₂ rest e => keyKind_strs (by rw [← e]; exact hS)) (by rw [hal]; exact hks16) fun st' hp hs => ⟨_, rfl, ?_⟩)
    (PyProof.Rows.args_list_sort _)))
  obtain ⟨ys, g1, g2, g3⟩ := sorted_out_str hS hp hs
  obtain ⟨e', he'⟩ := PyProof.Rows.sortedHeap_at (vs := acc.toList) (out := (arrOf st').map (·.2)) hoL
  have hlen : (ys.map V.str).length ≤ sizeLine := by
    rw [List.length_map, g2.length_eq]
    exact hks16
  refine wpAny_pure ⟨_, rfl, .ref h'.objs.size, upd H h'.objs.size (.lst (ys.map V.str)), I1.laid (t' := tk) (fun b u e => ?_) (Nat.le_refl _)
    (show ObjOk X.prog X.w _ _ _ (.lst (ys.map V.str)) from ⟨hlen, ((arrOf st').map (·.2)).toList, e', vals_of_strs g1, by rw [Array.toArray_toList]; exact he'⟩), rfl, q ys _ g2 g3 (I1.hok.fresh (Nat.le_refl _))⟩
  have hb : b < h'.objs.size := Heap.lt_size e
  rw [PyProof.Rows.sortedHeap_old (Nat.ne_of_lt hb) (by rw [size_push']; exact Nat.lt_succ_of_lt hb)]
  exact Heap.get?_push_of_some _ e
/-- a text, n times -/
def strRep (x : Str) (n : Int) : Str := if n < 1 then Str.empty else if (n == 1 || x.length == 0) = true then x else ⟨(List.replicate n.toNat x.cps).foldl (· ++ ·) #[]⟩
theorem op_mul_str : OpR X (binaryOp .Mult) (fun x y H Q => ∃ (z : Str) (n : Int), x = .str z ∧ y = .int n ∧ (z.length ≤ 1000 ∧ n ≤ 1000 ∧ -1000 ≤ n) ∧ Q (.str (strRep z n)) H) := by
  intro pins s σ H x y v u Q I rx ry h
  obtain ⟨z, n, rfl, rfl, ⟨hz, h1, h2⟩, q⟩ := h
  obtain ⟨t, rfl⟩ := rx
  obtain ⟨t', rfl⟩ := ry
  have hm : ¬ n < 1 → z.length * n.toNat ≤ 1000 * 1000 := fun h => Nat.mul_le_mul hz (by omega)
  have hl : ¬ n < 1 → (n == 1 || z.length == 0) = false → Builtin.Str.tooLong (z.length * n.toNat) = false := fun h _ => by
    have := hm h
    show decide (z.length * n.toNat > sizeLine) = false
    rw [sizeLine_eq]
    exact decide_eq_false (by omega)
  refine P.mul_str ?_ (fun h _ => ?_) hl ?_
  · rw [decide_eq_false (by omega), decide_eq_false (by omega)]
    rfl
  · have e : (1 : Int) ≤ n := by omega
    have h3 : (1000 : Int) ≤ (2 ^ 63 - 1) / n := (Int.le_ediv_iff_mul_le (by omega)).mpr (by omega)
    omega
  · unfold strRep at q
    by_cases c : n < 1
    · rw [if_pos c] at q ⊢
      exact ⟨by decide, .str Str.empty, H, I.tok _, ⟨_, rfl⟩, q⟩
    · rw [if_neg c] at q ⊢
      by_cases d : (n == 1 || z.length == 0) = true
      · rw [if_pos d] at q ⊢
        exact ⟨.str z, H, I, ⟨_, rfl⟩, q⟩
      · rw [if_neg d] at q ⊢
        exact ⟨fits_reps (hl c (by simpa using d)), .str _, H, I.tok _, ⟨_, rfl⟩, q⟩
end
theorem sLe_tr {a b c : Str} (h : ¬ MK.sLt b a) (h2 : ¬ MK.sLt c b) : ¬ MK.sLt c a := fun q => by
  by_cases e : MK.sLt b c
  · exact h (MK.sLt_tr e q)
  · rw [MK.sLt_tri e h2] at h
    exact h q
theorem risingS_all : ∀ {r : List Str} {p : Str}, risingS p r = true → (∀ x ∈ r, ¬ MK.sLt x p) ∧ r.Pairwise fun a b => ¬ MK.sLt b a
  | [], p, _ => ⟨fun x h => absurd h (by simp), List.Pairwise.nil⟩
  | x :: r, p, h => by
    have h : (!ltCps x.cps.toList p.cps.toList && risingS x r) = true := h
    rw [Bool.and_eq_true] at h
    obtain ⟨h1, h2⟩ := h
    have h3 : ¬ MK.sLt x p := by
      rw [ltCps_eq] at h1
      simpa using h1
    obtain ⟨i1, i2⟩ := risingS_all h2
    refine ⟨fun y hy => ?_, List.pairwise_cons.mpr ⟨fun y hy => i1 y hy, i2⟩⟩
    rcases List.mem_cons.mp hy with e | hy
    · rw [e]; exact h3
    · exact sLe_tr h3 (i1 y hy)
theorem sortedS_pw : ∀ {ys : List Str}, sortedS ys = true → ys.Pairwise fun a b => ¬ MK.sLt b a
  | [], _ => List.Pairwise.nil
  | x :: r, h => by
    obtain ⟨i1, i2⟩ := risingS_all (p := x) (r := r) h
    exact List.pairwise_cons.mpr ⟨i1, i2⟩
/-- [.. for k, v in d.items() ..], d locked: by a word of the turn's number and the heap -/
theorem lc_items {d : Addr} {od : Obj} {kvs : List (Key × V)} {g : TG} {tt : TT} {te : TE} {vs : List Nat} {σ : L2.St} {H1 : Hp} {D : Addr} {Qd : Hp → Prop} (Pv : Nat → Hp → Prop) (h0 : Pv 0 (upd H1 D (.lst [])))
    (hl : ∀ i H, i ≤ kvs.length → Pv i H → H d = some (.frz od (.dK kvs)))
    (hs : ∀ i k v T H, kvs[i]? = some (k, v) → Pv i H → H T = none → g (.ref T) (wipe σ vs) (upd H T (.tup [kV k, v])) fun σ2 H2 => wipe σ2 vs = wipe σ vs ∧ tt σ2 H2 fun b H3 =>
      if b = true then te σ2 H3 fun y H4 => ∃ acc, H4 D = some (.lst acc) ∧ acc.length < sizeLine ∧ Pv (i + 1) (upd H4 D (.lst (acc ++ [y]))) else Pv (i + 1) H3)
    (hd : ∀ H, Pv kvs.length H → Qd H) :
    ∃ W : Nat → Nat → Hp → Prop, (∃ m, W 0 m (upd H1 D (.lst []))) ∧ ∀ i m H, W i m H →
      ((Iti d od kvs).stop i H ∧ Qd H) ∨ ((Iti d od kvs).go i H ∧ ∃ Nx : Hp → Prop, (∀ H', Nx H' → ∃ m', m' < m ∧ W (i + 1) m' H') ∧ ∀ x H', (Iti d od kvs).yld i H x H' → g x (wipe σ vs) H' fun σ2 H2 => wipe σ2 vs = wipe σ vs ∧ tt σ2 H2 fun b H3 =>
        if b = true then te σ2 H3 fun y H4 => ∃ acc, H4 D = some (.lst acc) ∧ acc.length < sizeLine ∧ Nx (upd H4 D (.lst (acc ++ [y]))) else Nx H3) := by
  refine ⟨fun i m H => m = kvs.length - i ∧ i ≤ kvs.length ∧ Pv i H, ⟨kvs.length, by simp, Nat.zero_le _, h0⟩, ?_⟩
  intro i m H ⟨e, hi, p⟩
  have q := hl i H hi p
  by_cases hlt : i < kvs.length
  · refine .inr ⟨⟨q, hlt⟩, Pv (i + 1), fun H' p' => ⟨kvs.length - (i + 1), by omega, rfl, hlt, p'⟩, fun x H' y => ?_⟩
    obtain ⟨T, k, v, hk, ex, hT, eH⟩ := y
    rw [ex, eH]
    exact hs i k v T H hk p hT
  · have e2 : i = kvs.length := by omega
    rw [e2] at p
    exact .inl ⟨⟨q, by omega⟩, hd H p⟩
/-- two dicts of the same pairs, their values the very same objects -/
theorem hits_refs {A : Around} {s : Shared} {ls : List (Key × V)} {vb : List (Key × Value)} (rb : KV ls vb) {ks : List (Key × V)} {va : List (Key × Value)} (ra : KV ks va) : (∀ p ∈ ks, ∃ c, p.2 = .ref c ∧ valV ls p.1 = some (.ref c)) → PySem.W.KeqHits A s vb va true := by
  unfold KV at ra
  induction ra with
  | nil => exact fun _ => .nil
  | @cons p q ps qs h t k =>
    intro hp
    obtain ⟨h1, h2⟩ := h
    obtain ⟨c, ec, e⟩ := hp p List.mem_cons_self
    have rr : RelO (some (.ref c)) (valueAt vb p.1) := by
      rw [← e]
      exact rb.val p.1
    obtain ⟨y, hy, ry⟩ := rr.some_of
    obtain ⟨key, v⟩ := q
    have h1' : p.1 = key := h1
    rw [h1'] at hy
    rw [ec] at h2
    have e1 : v = Value.ref c := h2
    have e2 : y = Value.ref c := ry
    subst e1
    subst e2
    show PySem.W.KeqHits A s vb ((key, Value.ref c) :: qs) (true && true)
    exact .hit hy (SeqAt.EqAt.same _) (k fun p' hm => hp p' (List.mem_cons_of_mem _ hm))
theorem op_ne_dictRef {X : Cx} (hu : X.A.units < cLine) : OpR X (compareOp .NotEq) (fun x y H Q => ∃ a b ks, x = .ref a ∧ y = .ref b ∧ H a = some (.dK ks) ∧ H b = some (.dK ks) ∧ (∀ p ∈ ks, ∃ c, p.2 = .ref c ∧ valV ks p.1 = some (.ref c)) ∧ Q (.bl false) H) := by
  intro pins s σ H x y v u Q I rx ry h
  obtain ⟨a, b, ks, rfl, rfl, ea, eb, hp, q⟩ := h
  obtain rfl : v = Value.ref a := rx
  obtain rfl : u = Value.ref b := ry
  obtain ⟨_, ya, va, ra, da⟩ := (show ObjOk X.prog X.w H s.heap a (.dK ks) from I.hok a _ ea)
  obtain ⟨_, yb, vb, rb, db⟩ := (show ObjOk X.prog X.w H s.heap b (.dK ks) from I.hok b _ eb)
  have hl : va.length = vb.length := by rw [← ra.length, ← rb.length]
  refine PySem.W.keq_ne (knd := mixKind X.prog X.w) (r := true) ya yb da db hu (fun _ => hits_refs rb ra hp) ?_
  rw [show (!(va.length == vb.length && true)) = false by simp [hl]]
  exact ⟨.bl false, H, I, rfl, q⟩
end L2


set_option Elab.async false
set_option linter.all false
set_option maxRecDepth 100000
set_option maxHeartbeats 4000000
namespace MK
open PySem PySem.Spec PyProof.Rows L2
/-! ### measures and dicts as they stand in memory -/
/-- a dict whose keys are texts -/
def encG {α : Type} (g : α → V) (m : List (Str × α)) : List (L2.Key × V) := m.map fun p => (Sum.inr p.1, g p.2)
abbrev enc (m : Ms) : List (L2.Key × V) := encG V.int m
theorem encG_val {α : Type} (g : α → V) : ∀ (m : List (Str × α)) (l : Str), valV (encG g m) (Sum.inr l : L2.Key) = (lk m l).map g
  | [], l => rfl
  | p :: r, l => by
    show valV ((Sum.inr p.1, g p.2) :: encG g r) _ = _
    by_cases e : p.1 = l
    · rw [valV_pos (by rw [e])]
      unfold lk
      rw [if_pos e]
      rfl
    · rw [valV_neg (fun z => e (Sum.inr.inj z)), encG_val g r l]
      rw [show lk (p :: r) l = lk r l from if_neg e]
theorem encG_any {α : Type} (g : α → V) (m : List (Str × α)) (l : Str) : ((encG g m).any fun kv => decide (kv.1 = (Sum.inr l : L2.Key))) = (lk m l).isSome := by
  rw [valV_any, encG_val]
  cases lk m l <;> rfl
theorem encG_map_no {α : Type} (g : α → V) (l : Str) (y : V) : ∀ m : List (Str × α), lk m l = none → (encG g m).map (fun kv => if kv.1 = (Sum.inr l : L2.Key) then (kv.1, y) else kv) = encG g m
  | [], _ => rfl
  | p :: r, h => by
    have e : ¬ p.1 = l := fun z => by
      unfold lk at h
      rw [if_pos z] at h
      cases h
    have h2 : lk r l = none := by
      unfold lk at h
      rw [if_neg e] at h
      exact h
    have ih := encG_map_no g l y r h2
    show (if (Sum.inr p.1 : L2.Key) = Sum.inr l then _ else _) :: List.map _ (encG g r) = _
    rw [if_neg (fun z => e (Sum.inr.inj z)), ih]
    rfl
theorem encG_put {α : Type} (g : α → V) (l : Str) (v : α) : ∀ m : List (Str × α), (m.map (·.1)).Nodup → putK (encG g m) (Sum.inr l : L2.Key) (g v) = encG g (put m l v)
  | [], _ => rfl
  | p :: r, hn => by
    have hn : (p.1 :: r.map (·.1)).Nodup := hn
    obtain ⟨h1, h2⟩ := List.nodup_cons.mp hn
    have ih := encG_put g l v r h2
    unfold putK at ih ⊢
    rw [encG_any] at ih ⊢
    by_cases e : p.1 = l
    · have hs : (lk (p :: r) l).isSome = true := by
        unfold lk
        rw [if_pos e]
        rfl
      rw [if_pos hs]
      have hno : lk r l = none := lk_none.mpr (by rw [← e]; exact h1)
      show (if (Sum.inr p.1 : L2.Key) = Sum.inr l then _ else _) :: List.map _ (encG g r) = _
      rw [if_pos (by rw [e]), encG_map_no g l (g v) r hno]
      show _ = encG g (put (p :: r) l v)
      unfold put
      rw [if_pos e]
      rfl
    · have hl : lk (p :: r) l = lk r l := if_neg e
      rw [hl]
      have hp : put (p :: r) l v = p :: put r l v := if_neg e
      rw [hp]
      by_cases hs : (lk r l).isSome = true
      · rw [if_pos hs] at ih ⊢
        show (if (Sum.inr p.1 : L2.Key) = Sum.inr l then _ else _) :: List.map _ (encG g r) = _
        rw [if_neg (fun z => e (Sum.inr.inj z)), ih]
        rfl
      · rw [if_neg hs] at ih ⊢
        show (Sum.inr p.1, g p.2) :: (encG g r ++ _) = _
        rw [ih]
        rfl
theorem encG_len {α : Type} (g : α → V) (m : List (Str × α)) : (encG g m).length = m.length := List.length_map _
theorem encG_keys {α : Type} (g : α → V) (m : List (Str × α)) : (encG g m).map (·.1) = (m.map (·.1)).map Sum.inr := by
  unfold encG
  rw [List.map_map, List.map_map]
  rfl
/-- at t the pair p -/
def PrAt (H : Hp) (t : Addr) (p : Str × Int) : Prop := H t = some (.tup [.str p.1, .int p.2])
/-- at b the measure m -/
def MsAt (H : Hp) (b : Addr) (m : Ms) : Prop := ∃ ts : List Addr, H b = some (.tup (ts.map V.ref)) ∧ Paired (PrAt H) ts m
theorem MsAt.same {H H' : Hp} {b : Addr} {m : Ms} (s : Same H H') (h : MsAt H b m) : MsAt H' b m := by
  obtain ⟨ts, e, p⟩ := h
  exact ⟨ts, s _ _ e, Paired.mono (fun t q z => s _ _ z) p⟩
theorem paired_ix {α β : Type} {G : α → β → Prop} : ∀ {l : List α} {m : List β} {i : Nat} {a : α}, Paired G l m → l[i]? = some a → ∃ b, m[i]? = some b ∧ G a b
  | _, _, _, _, .nil, e => by simp at e
  | _, _, 0, _, .cons r _, e => by
    simp at e
    subst e
    exact ⟨_, rfl, r⟩
  | _, _, i + 1, _, .cons _ t, e => by
    obtain ⟨b, h1, h2⟩ := paired_ix t (by simpa using e)
    exact ⟨b, by simpa using h1, h2⟩
theorem MsAt.dp {K : PySem.W.Frag} {H : Hp} {b : Addr} {m : Ms} (h : MsAt H b m) : Dp K H (.ref b) (.tuple (m.map fun p => .tuple [.str p.1, .int p.2])) := by
  obtain ⟨ts, e, p⟩ := h
  refine .tup (SqT.of e) ?_
  clear e
  induction p with
  | nil => exact .nil
  | @cons t q _ _ r _ ih => exact .cons (.tup (SqT.of r) (.cons (.str _) (.cons (.int _) .nil))) ih
theorem take_more {α : Type} : ∀ {l : List α} {i : Nat} {x : α}, l[i]? = some x → l.take (i + 1) = l.take i ++ [x] := fun {l i x} h => by
  rw [List.take_add_one, h]
  rfl
theorem byKeys_yes {m : Ms} {ys : List Str} {i : Nat} {k : Str} (h : ys[i]? = some k) (e : at0 m k ≠ 0) : byKeys m (ys.take (i + 1)) = byKeys m (ys.take i) ++ [(k, at0 m k)] := by
  unfold byKeys
  rw [take_more h, List.filter_append, List.map_append]
  congr 1
  rw [List.filter_cons, if_pos (decide_eq_true e)]
  rfl
theorem byKeys_no {m : Ms} {ys : List Str} {i : Nat} {k : Str} (h : ys[i]? = some k) (e : at0 m k = 0) : byKeys m (ys.take (i + 1)) = byKeys m (ys.take i) := by
  unfold byKeys
  rw [take_more h, List.filter_append, List.map_append]
  rw [show [k].filter (fun k => decide (at0 m k ≠ 0)) = [] by
    rw [List.filter_cons, if_neg (by simp [e])]
    rfl]
  simp
theorem at_map {α : Type} {g : α → V} {l : List α} {i : Nat} {y : V} (h : (l.map g)[i]? = some y) : ∃ x, l[i]? = some x ∧ y = g x := by
  rw [List.getElem?_map] at h
  cases e : l[i]? with
  | none =>
    rw [e] at h
    cases h
  | some x =>
    rw [e] at h
    exact ⟨x, rfl, (Option.some.inj h).symm⟩
theorem dget_enc {H : Hp} {d : Addr} {m : Ms} {k : Str} (e : H d = some (.dK (enc m))) (h : k ∈ m.map (·.1)) : DGet H d (.str k) (some (.int (at0 m k))) := by
  have q : DGet H d (kV (Sum.inr k)) (valV (enc m) (Sum.inr k : L2.Key)) := DGet.k e
  rw [encG_val] at q
  unfold at0
  cases e2 : lk m k with
  | none => exact absurd h (lk_none.mp e2)
  | some v =>
    rw [e2] at q
    exact q
theorem dget_enc2 {H : Hp} {d : Addr} {m : Ms} (k : Str) (e : H d = some (.dK (enc m))) : ∃ o, DGet H d (.str k) o ∧ o.getD (.int 0) = .int (at0 m k) := by
  refine ⟨_, DGet.k (k := Sum.inr k) e, ?_⟩
  rw [encG_val]
  unfold at0
  cases lk m k <;> rfl
theorem upd_other {H : Hp} {a b : Addr} {o u : HO} (h : H b = some u) (n : H a = none) : upd H a o b = some u := by
  rw [upd_ne (ne_of_none h n)]
  exact h
theorem same_new {H : Hp} {p : Addr} {o : HO} (h : H p = none) : Same H (upd H p o) := fun b x e => upd_other e h
theorem dput_enc {H : Hp} {d : Addr} {m : Ms} {l : Str} {v : Int} (e : H d = some (.dK (enc m))) (hn : (m.map (·.1)).Nodup) (hl : m.length < sizeLine) : DPut H d (.str l) (.int v) (L2.upd H d (.dK (enc (put m l v)))) := by
  have q : DPut H d (kV (Sum.inr l)) (V.int v) _ := DPut.k (k := Sum.inr l) e (by rw [encG_len]; exact hl)
  rw [show putK (enc m) (Sum.inr l) (V.int v) = enc (put m l v) from encG_put V.int l v m hn] at q
  exact q
theorem small1000' {n : Nat} (h : n ≤ 10000) : n < sizeLine := Nat.lt_of_le_of_lt h (by decide)
/-- a step at an object that came later -/
theorem same_upd {H H1 : Hp} {p : Addr} {o : HO} (s : Same H H1) (h : H p = none) : Same H (L2.upd H1 p o) := fun b x e => by
  rw [upd_ne (ne_of_none e h)]
  exact s b x e
/-- a list that changes is no pair -/
theorem pr_list {H : Hp} {D : Addr} {xs : List V} {o : HO} {ts : List Addr} {m : Ms} (h : H D = some (.lst xs)) (p : Paired (PrAt H) ts m) : Paired (PrAt (L2.upd H D o)) ts m := Paired.mono (fun t q z => by
  show L2.upd H D o t = _
  rw [upd_ne (ne_of z h (fun e => nomatch e))]
  exact z) p
theorem pr_dict {H : Hp} {D : Addr} {kvs : List (L2.Key × V)} {o : HO} {ts : List Addr} {m : Ms} (h : H D = some (.dK kvs)) (p : Paired (PrAt H) ts m) : Paired (PrAt (L2.upd H D o)) ts m := Paired.mono (fun t q z => by
  show L2.upd H D o t = _
  rw [upd_ne (ne_of z h (fun e => nomatch e))]
  exact z) p
theorem pr_same {H H' : Hp} {ts : List Addr} {m : Ms} (s : Same H H') (h : Paired (PrAt H) ts m) : Paired (PrAt H') ts m := Paired.mono (fun t q z => s _ _ z) h
/-! ### parts: measures, each to a power -/
def flat (ps : List (Ms × Int)) : Ms := (ps.map fun q => scaled q.1 q.2).flatten
theorem flat_snoc (ps : List (Ms × Int)) (q : Ms × Int) : flat (ps ++ [q]) = flat ps ++ scaled q.1 q.2 := by
  unfold flat
  rw [List.map_append, List.flatten_append]
  simp
theorem flat_take_le : ∀ (ps : List (Ms × Int)) (i : Nat), (flat (ps.take i)).length ≤ (flat ps).length
  | [], i => by simp [flat]
  | q :: r, 0 => by simp [flat]
  | q :: r, i + 1 => by
    have ih := flat_take_le r i
    show (scaled q.1 q.2 ++ flat (r.take i)).length ≤ (scaled q.1 q.2 ++ flat r).length
    rw [List.length_append, List.length_append]
    omega
def PtAt (H : Hp) (t : Addr) (q : Ms × Int) : Prop := ∃ b, H t = some (.tup [.ref b, .int q.2]) ∧ MsAt H b q.1
theorem PtAt.same {H H' : Hp} {t : Addr} {q : Ms × Int} (s : Same H H') (h : PtAt H t q) : PtAt H' t q := by
  obtain ⟨b, e, m⟩ := h
  exact ⟨b, s _ _ e, m.same s⟩
theorem scaled_take (m : Ms) (n : Int) (k : Nat) : (scaled m n).take k = scaled (m.take k) n := by
  unfold scaled
  rw [List.map_take]
theorem scaled_len (m : Ms) (n : Int) : (scaled m n).length = m.length := by
  unfold scaled
  rw [List.length_map]
theorem scaled_more {m : Ms} {n : Int} {k : Nat} {p : Str × Int} (h : m[k]? = some p) : scaled (m.take (k + 1)) n = scaled (m.take k) n ++ [(p.1, p.2 * n)] := by
  rw [take_more h]
  unfold scaled
  rw [List.map_append]
  rfl
/-- what of a dict is not nought -/
def nz (m : Ms) : Ms := m.filter fun p => decide (p.2 ≠ 0)
theorem nz_yes {m : Ms} {i : Nat} {p : Str × Int} (h : m[i]? = some p) (e : p.2 ≠ 0) : nz (m.take (i + 1)) = nz (m.take i) ++ [p] := by
  unfold nz
  rw [take_more h, List.filter_append]
  congr 1
  rw [List.filter_cons, if_pos (decide_eq_true e)]
  rfl
theorem nz_no {m : Ms} {i : Nat} {p : Str × Int} (h : m[i]? = some p) (e : p.2 = 0) : nz (m.take (i + 1)) = nz (m.take i) := by
  unfold nz
  rw [take_more h, List.filter_append]
  rw [show [p].filter (fun p => decide (p.2 ≠ 0)) = [] by
    rw [List.filter_cons, if_neg (by simp [e])]
    rfl]
  simp
theorem enc_at {m : Ms} {i : Nat} {k : L2.Key} {v : V} (h : (enc m)[i]? = some (k, v)) : ∃ l n, m[i]? = some (l, n) ∧ k = Sum.inr l ∧ v = .int n := by
  unfold enc encG at h
  rw [List.getElem?_map] at h
  cases e : m[i]? with
  | none =>
    rw [e] at h
    cases h
  | some p =>
    rw [e] at h
    obtain ⟨e1, e2⟩ := Prod.mk.inj (Option.some.inj h)
    exact ⟨p.1, p.2, rfl, e1.symm, e2.symm⟩
/-- the sorted list of the pairs of a dict -/
theorem sorted_pairs {H : Hp} {ts : List Addr} {m : Ms} (hn : (m.map (·.1)).Nodup) (p : Paired (PrAt H) ts m) (k : V → Str × Int) (hk : ∀ t q, PrAt H t q → k (.ref t) = q) {ys : List V} (hp : ys.Perm (ts.map V.ref))
    (hs : ys.Pairwise (fun x y => SrtO.lexS (k y) (k x) = false)) : ∃ us : List Addr, ys = us.map V.ref ∧ Paired (PrAt H) us (ys.map k) ∧ (ys.map k).Perm m ∧ Ris (ys.map k) := by
  have hm : (ts.map V.ref).map k = m := by
    clear hp hs hn
    induction p with
    | nil => rfl
    | @cons t q _ _ r _ ih =>
      show k (.ref t) :: _ = _
      rw [hk _ _ r, ih]
  have hpm : (ys.map k).Perm m := by
    rw [← hm]
    exact hp.map k
  have hmem : ∀ y ∈ ys, ∃ t, y = .ref t ∧ PrAt H t (k y) := fun y hy => by
    obtain ⟨t, ht, rfl⟩ := List.mem_map.mp (hp.mem_iff.mp hy)
    obtain ⟨i, hi, e⟩ := List.mem_iff_getElem.mp ht
    obtain ⟨q, _, hq⟩ := paired_ix p (List.getElem?_eq_some_iff.mpr ⟨hi, e⟩)
    refine ⟨t, rfl, ?_⟩
    rw [hk _ _ hq]
    exact hq
  have hnd : ((ys.map k).map (·.1)).Nodup := (hpm.map (·.1)).nodup_iff.mpr hn
  have build : ∀ zs : List V, (∀ y ∈ zs, ∃ t, y = .ref t ∧ PrAt H t (k y)) → ∃ us : List Addr, zs = us.map V.ref ∧ Paired (PrAt H) us (zs.map k) := fun zs => by
    induction zs with
    | nil => exact fun _ => ⟨[], rfl, .nil⟩
    | cons z r ih =>
      intro h
      obtain ⟨t, e, q⟩ := h z List.mem_cons_self
      obtain ⟨us, e1, e2⟩ := ih fun y hy => h y (List.mem_cons_of_mem _ hy)
      refine ⟨t :: us, by rw [e, e1]; rfl, .cons q e2⟩
  obtain ⟨us, e1, e2⟩ := build ys hmem
  refine ⟨us, e1, e2, hpm, ?_⟩
  have h1 : (ys.map k).Pairwise fun p q => SrtO.lexS q p = false := List.pairwise_map.mpr hs
  have h2 : (ys.map k).Pairwise fun p q => p.1 ≠ q.1 := List.pairwise_map.mp hnd
  refine (h1.and h2).imp ?_
  intro a b ⟨h3, h4⟩
  have h5 := SrtO.lexS_no.mp h3
  refine Decidable.byContradiction fun h6 => h4 (sLt_tri h6 fun h7 => h5 (.inl h7))
/-- the pair that stands at a value -/
def prOf : Option HO → Str × Int
  | some (.tup [.str l, .int n]) => (l, n)
  | _ => (⟨#[]⟩, 0)
def kH (H : Hp) : V → Str × Int
  | .ref t => prOf (H t)
  | _ => (⟨#[]⟩, 0)
theorem kH_of {H : Hp} {t : Addr} {q : Str × Int} (h : PrAt H t q) : kH H (.ref t) = q := by
  show prOf (H t) = q
  rw [show H t = _ from h]
  rfl
theorem kH_all {H : Hp} {ts : List Addr} {m : Ms} (p : Paired (PrAt H) ts m) : ∀ x ∈ ts.map V.ref, ∃ t, x = V.ref t ∧ H t = some (.tup [.str (kH H x).1, .int (kH H x).2]) := fun x hx => by
  obtain ⟨t, ht, rfl⟩ := List.mem_map.mp hx
  obtain ⟨i, hi, e⟩ := List.mem_iff_getElem.mp ht
  obtain ⟨q, _, hq⟩ := paired_ix p (List.getElem?_eq_some_iff.mpr ⟨hi, e⟩)
  refine ⟨t, rfl, ?_⟩
  rw [kH_of hq]
  exact hq
theorem ms_list {H : Hp} {D b : Addr} {xs : List V} {o : HO} {m : Ms} (h : H D = some (.lst xs)) (q : MsAt H b m) : MsAt (L2.upd H D o) b m := by
  obtain ⟨ts, e, p⟩ := q
  refine ⟨ts, ?_, pr_list h p⟩
  rw [upd_ne (ne_of e h (fun e => nomatch e))]
  exact e
theorem ms_dict {H : Hp} {D b : Addr} {kvs : List (L2.Key × V)} {o : HO} {m : Ms} (h : H D = some (.dK kvs)) (q : MsAt H b m) : MsAt (L2.upd H D o) b m := by
  obtain ⟨ts, e, p⟩ := q
  refine ⟨ts, ?_, pr_dict h p⟩
  rw [upd_ne (ne_of e h (fun e => nomatch e))]
  exact e
/-! ### fillings -/
def fill (fl : List (Str × Ms)) (l : Str) : Ms := (lk fl l).getD [(l, 1)]
def parts (fl : List (Str × Ms)) (m : Ms) : List (Ms × Int) := m.map fun p => (fill fl p.1, p.2)
abbrev FillR (H : Hp) (x : Str × Addr) (y : Str × Ms) : Prop := x.1 = y.1 ∧ MsAt H x.2 y.2
def FillAt (H : Hp) (d : Addr) (ads : List (Str × Addr)) (fl : List (Str × Ms)) : Prop := H d = some (.dK (encG V.ref ads)) ∧ Paired (FillR H) ads fl
theorem fills_same {H H' : Hp} {ads : List (Str × Addr)} {fl : List (Str × Ms)} (s : Same H H') (p : Paired (FillR H) ads fl) : Paired (FillR H') ads fl := Paired.mono (fun x y z => ⟨z.1, z.2.same s⟩) p
theorem FillAt.same {H H' : Hp} {d : Addr} {ads : List (Str × Addr)} {fl : List (Str × Ms)} (s : Same H H') (h : FillAt H d ads fl) : FillAt H' d ads fl := ⟨s _ _ h.1, fills_same s h.2⟩
theorem fills_lk {H : Hp} {ads : List (Str × Addr)} {fl : List (Str × Ms)} (p : Paired (FillR H) ads fl) (l : Str) : (lk ads l = none ∧ lk fl l = none) ∨ ∃ b m, lk ads l = some b ∧ lk fl l = some m ∧ MsAt H b m := by
  induction p with
  | nil => exact .inl ⟨rfl, rfl⟩
  | @cons x y xs ys h _ ih =>
    obtain ⟨h1, h2⟩ := h
    by_cases e : x.1 = l
    · exact .inr ⟨x.2, y.2, if_pos e, if_pos (h1 ▸ e), h2⟩
    · have e' : ¬ y.1 = l := fun z => e (h1.trans z)
      rw [show lk (x :: xs) l = lk xs l from if_neg e, show lk (y :: ys) l = lk ys l from if_neg e']
      exact ih
/-- filling.get(l, d0), d0 the letter itself -/
theorem fill_get {H : Hp} {d e0 : Addr} {ads : List (Str × Addr)} {fl : List (Str × Ms)} (h : FillAt H d ads fl) (l : Str) (h0 : MsAt H e0 [(l, 1)]) : ∃ o b, DGet H d (.str l) o ∧ o.getD (.ref e0) = .ref b ∧ MsAt H b (fill fl l) := by
  rcases fills_lk h.2 l with ⟨a1, a2⟩ | ⟨b, m, a1, a2, a3⟩
  · refine ⟨_, e0, DGet.k (k := Sum.inr l) h.1, ?_, ?_⟩
    · rw [encG_val, a1]
      rfl
    · unfold fill
      rw [a2]
      exact h0
  · refine ⟨_, b, DGet.k (k := Sum.inr l) h.1, ?_, ?_⟩
    · rw [encG_val, a1]
      rfl
    · unfold fill
      rw [a2]
      exact a3
theorem paired_put {H : Hp} {l : Str} {b : Addr} {m : Ms} (h : MsAt H b m) {ads : List (Str × Addr)} {fl : List (Str × Ms)} (p : Paired (FillR H) ads fl) : Paired (FillR H) (put ads l b) (put fl l m) := by
  induction p with
  | nil => exact .cons ⟨rfl, h⟩ .nil
  | @cons x y xs ys q r ih =>
    obtain ⟨q1, q2⟩ := q
    by_cases e : x.1 = l
    · have e' : y.1 = l := q1 ▸ e
      rw [show put (x :: xs) l b = (x.1, b) :: xs from if_pos e, show put (y :: ys) l m = (y.1, m) :: ys from if_pos e']
      exact .cons ⟨q1, h⟩ r
    · have e' : ¬ y.1 = l := fun z => e (q1.trans z)
      rw [show put (x :: xs) l b = x :: put xs l b from if_neg e, show put (y :: ys) l m = y :: put ys l m from if_neg e']
      exact .cons ⟨q1, q2⟩ ih
theorem dput_encG {α : Type} {g : α → V} {H : Hp} {d : Addr} {m : List (Str × α)} {l : Str} {v : α} (e : H d = some (.dK (encG g m))) (hn : (m.map (·.1)).Nodup) (hl : m.length < sizeLine) : DPut H d (.str l) (g v) (L2.upd H d (.dK (encG g (put m l v)))) := by
  have q : DPut H d (kV (Sum.inr l)) (g v) _ := DPut.k (k := Sum.inr l) e (by rw [encG_len]; exact hl)
  rw [encG_put g l v m hn] at q
  exact q
theorem flat_mem {ps : List (Ms × Int)} {j : Str} (h : j ∈ (flat ps).map (·.1)) : ∃ q ∈ ps, ∃ p ∈ q.1, p.1 = j := by
  obtain ⟨x, hx, rfl⟩ := List.mem_map.mp h
  unfold flat at hx
  obtain ⟨y, hy, hxy⟩ := List.mem_flatten.mp hx
  obtain ⟨q, hq, rfl⟩ := List.mem_map.mp hy
  obtain ⟨p, hp, rfl⟩ := List.mem_map.mp hxy
  exact ⟨q, hq, p, hp, rfl⟩
theorem flat_len_le {n : Nat} : ∀ (ps : List (Ms × Int)), (∀ q ∈ ps, q.1.length ≤ n) → (flat ps).length ≤ ps.length * n
  | [], _ => by simp [flat]
  | q :: r, h => by
    have ih := flat_len_le r fun x hx => h x (List.mem_cons_of_mem _ hx)
    have h1 := h q List.mem_cons_self
    show (scaled q.1 q.2 ++ flat r).length ≤ (r.length + 1) * n
    rw [List.length_append, scaled_len, Nat.succ_mul]
    omega
theorem parts_nil : ∀ (m : Ms) (j : Str), sumAt (flat (parts [] m)) j = sumAt m j
  | [], j => rfl
  | p :: r, j => by
    have ih := parts_nil r j
    show sumAt (scaled [(p.1, 1)] p.2 ++ flat (parts [] r)) j = _
    rw [sumAt_append, ih, sumAt_scaled, sumAt_one]
    show _ = (if p.1 = j then p.2 else 0) + sumAt r j
    by_cases e : p.1 = j
    · rw [if_pos e, if_pos e]
      omega
    · rw [if_neg e, if_neg e]
      omega
end MK


set_option Elab.async false
set_option linter.all false
set_option maxRecDepth 100000
set_option maxHeartbeats 4000000
namespace MK
open PySem
/-! ### fractions: plain Lean -/
/-- in lowest terms, below from 1 on -/
def Red (u v : Int) : Prop := 0 < v ∧ Nat.gcd u.natAbs v.natAbs = 1
/-- what both are divided by -/
def cut (x y : Int) : Int := if y < 0 then -((Nat.gcd x.natAbs y.natAbs : Nat) : Int) else ((Nat.gcd x.natAbs y.natAbs : Nat) : Int)
theorem cut_ne {x y : Int} (hy : y ≠ 0) : cut x y ≠ 0 := by
  have h : Nat.gcd x.natAbs y.natAbs ≠ 0 := fun e => hy (by have := Nat.eq_zero_of_gcd_eq_zero_right e; omega)
  unfold cut
  split <;> omega
theorem cut_le {x y : Int} (hy : y ≠ 0) : (cut x y).natAbs ≤ y.natAbs := by
  have h : Nat.gcd x.natAbs y.natAbs ≤ y.natAbs := Nat.gcd_le_right _ (by omega)
  unfold cut
  split <;> omega
theorem cut_ok {x y : Int} (hy : y ≠ 0) : Red (x.fdiv (cut x y)) (y.fdiv (cut x y)) ∧ x.fdiv (cut x y) * y = x * y.fdiv (cut x y) ∧ (x.fdiv (cut x y)).natAbs ≤ x.natAbs ∧ (y.fdiv (cut x y)).natAbs ≤ y.natAbs := by
  have hG : Nat.gcd x.natAbs y.natAbs ≠ 0 := fun e => hy (by have := Nat.eq_zero_of_gcd_eq_zero_right e; omega)
  obtain ⟨x', hx⟩ : ((Nat.gcd x.natAbs y.natAbs : Nat) : Int) ∣ x := Int.ofNat_dvd_left.mpr (Nat.gcd_dvd_left _ _)
  obtain ⟨y', hy'⟩ : ((Nat.gcd x.natAbs y.natAbs : Nat) : Int) ∣ y := Int.ofNat_dvd_left.mpr (Nat.gcd_dvd_right _ _)
  have hc := cut_ne (x := x) hy
  obtain ⟨s, hs, es⟩ : ∃ s : Int, (s = 1 ∨ s = -1) ∧ cut x y = s * ((Nat.gcd x.natAbs y.natAbs : Nat) : Int) ∧ 0 < s * y := by
    unfold cut
    by_cases c : y < 0
    · rw [if_pos c]
      exact ⟨-1, .inr rfl, by omega, by omega⟩
    · rw [if_neg c]
      exact ⟨1, .inl rfl, by omega, by omega⟩
  obtain ⟨es, sy⟩ := es
  generalize hg : Nat.gcd x.natAbs y.natAbs = G at *
  have ss : s * s = 1 := by rcases hs with e | e <;> rw [e] <;> rfl
  have sa : s.natAbs = 1 := by rcases hs with e | e <;> rw [e] <;> rfl
  have ex : x = cut x y * (s * x') := by
    rw [es, show s * (G : Int) * (s * x') = s * s * ((G : Int) * x') by rw [Int.mul_assoc, Int.mul_assoc, Int.mul_left_comm (G : Int) s x'], ss, Int.one_mul]
    exact hx
  have ey : y = cut x y * (s * y') := by
    rw [es, show s * (G : Int) * (s * y') = s * s * ((G : Int) * y') by rw [Int.mul_assoc, Int.mul_assoc, Int.mul_left_comm (G : Int) s y'], ss, Int.one_mul]
    exact hy'
  have ux : x.fdiv (cut x y) = s * x' := by
    generalize hcc : cut x y = cc at *
    rw [ex]
    exact Int.mul_fdiv_cancel_left _ hc
  have uy : y.fdiv (cut x y) = s * y' := by
    generalize hcc : cut x y = cc at *
    rw [ey]
    exact Int.mul_fdiv_cancel_left _ hc
  rw [ux, uy]
  have pos : 0 < s * y' := by
    have h1 : 0 < (G : Int) := by omega
    have h2 : s * y = (G : Int) * (s * y') := by
      rw [Int.mul_left_comm, ← hy']
    rw [h2] at sy
    exact Int.not_le.mp fun c => Int.not_le.mpr sy (Int.mul_nonpos_of_nonneg_of_nonpos (Int.le_of_lt h1) c)
  have ax : (s * x').natAbs = x'.natAbs := by rw [Int.natAbs_mul, sa, Nat.one_mul]
  have ay : (s * y').natAbs = y'.natAbs := by rw [Int.natAbs_mul, sa, Nat.one_mul]
  have nx : x.natAbs = G * x'.natAbs := by
    rw [hx, Int.natAbs_mul]
    rfl
  have ny : y.natAbs = G * y'.natAbs := by
    rw [hy', Int.natAbs_mul]
    rfl
  have G0 : 0 < G := Nat.pos_of_ne_zero hG
  refine ⟨⟨pos, ?_⟩, ?_, ?_, ?_⟩
  · rw [ax, ay]
    have e : Nat.gcd (G * x'.natAbs) (G * y'.natAbs) = G := by rw [← nx, ← ny]; exact hg
    rw [Nat.gcd_mul_left] at e
    have e2 : G * Nat.gcd x'.natAbs y'.natAbs = G * 1 := by rw [e, Nat.mul_one]
    exact Nat.eq_of_mul_eq_mul_left G0 e2
  · rw [show s * x' * y = s * x' * ((G : Int) * y') from congrArg (s * x' * ·) hy', show x * (s * y') = (G : Int) * x' * (s * y') from congrArg (· * (s * y')) hx]
    rw [Int.mul_assoc, Int.mul_assoc, Int.mul_left_comm s x' _, Int.mul_left_comm s (G : Int) y', Int.mul_left_comm x' (G : Int) (s * y')]
  · rw [ax, nx]
    exact Nat.le_mul_of_pos_left _ G0
  · rw [ay, ny]
    exact Nat.le_mul_of_pos_left _ G0
/-- two in lowest terms, of one value, are one -/
theorem red_uniq {a b c d : Int} (h : Red a b) (h' : Red c d) (e : a * d = c * b) : a = c ∧ b = d := by
  obtain ⟨b0, g1⟩ := h
  obtain ⟨d0, g2⟩ := h'
  have en : a.natAbs * d.natAbs = c.natAbs * b.natAbs := by rw [← Int.natAbs_mul, ← Int.natAbs_mul, e]
  have h1 : b.natAbs ∣ d.natAbs := by
    have : b.natAbs ∣ a.natAbs * d.natAbs := ⟨c.natAbs, by rw [en, Nat.mul_comm]⟩
    exact Nat.Coprime.dvd_of_dvd_mul_left (Nat.Coprime.symm g1) this
  have h2 : d.natAbs ∣ b.natAbs := by
    have : d.natAbs ∣ c.natAbs * b.natAbs := ⟨a.natAbs, by rw [← en, Nat.mul_comm]⟩
    exact Nat.Coprime.dvd_of_dvd_mul_left (Nat.Coprime.symm g2) this
  have h3 := Nat.dvd_antisymm h1 h2
  have hb : b = d := by omega
  rw [hb] at e
  exact ⟨Int.eq_of_mul_eq_mul_right (by omega) e, hb⟩
theorem red_pow {a b : Int} (h : Red a b) (n : Nat) : Red (a ^ n) (b ^ n) := by
  obtain ⟨h1, h2⟩ := h
  refine ⟨Int.pow_pos h1, ?_⟩
  rw [Int.natAbs_pow, Int.natAbs_pow]
  exact Nat.Coprime.pow n n h2
end MK

namespace L2
open PySem PySem.Spec PyProof.Rows
/-- // by what is not nought, below 2 ^ 9000 -/
def CDivWN (_ j : Int) : Prop := j ≠ 0 ∧ j.natAbs.log2 < 9000
section
variable {X : Cx}
theorem op_fdivWN : OpR X (binaryOp .FloorDiv) (rI CDivWN fun i j => .int (i.fdiv j)) := opI fun _ _ _ _ _ _ _ hc q => floordiv_int hc.1 q (.inl (PyProof.noPylong_of_log2 hc.2))
end
theorem divWN_ok {i j : Int} (h : j ≠ 0) (hb : j.natAbs < 2 ^ 8000) : CDivWN i j := ⟨h, Nat.lt_of_lt_of_le (PySem.Flt.log2_lt_of (by decide) hb) (by decide)⟩
/-- no error leaves a call that could let one out -/
theorem passN {X : Cx} : Passes (L2N.CX X.prog X.w) X E0 := fun _ _ _ _ _ _ _ h => by
  obtain ⟨_, _, _, _, _, _, _, _, _, _, _, _, z⟩ := h
  exact z.elim
/-- around a body nothing is let out -/
theorem takesN {X : Cx} : L2N.Takes X (fun _ _ _ _ => False) := fun _ _ x => by
  obtain ⟨_, _, _, _, _, _, _, _, _, _, _, _, _, _, _, _, z⟩ := x
  exact z.elim
theorem bootVE : bootBuiltins "ValueError" = some (.type "ValueError") := by decide +kernel
section
variable {P : Program} {w : World} {K : PySem.W.Frag} {mg : Str → Option Value} {base : Heap}
/-- a def that may raise, its errors' context None -/
theorem Fun.okN {x qual : Str} {st : Stmt} {f : Addr} {fd : FuncData} {N ps : List Str} {k : Nat} {sp : Sp} (F : Fun K x qual st f fd) (S : FnScope N ps (defScope st)) (len : ∀ vs H Q E, sp vs H Q E → vs.length = ps.length)
    (hb : ∀ (cdv : Value) (A : Around) (outer : List Env) (s : Shared) (H : Hp) (vs : List V) (Q : VK) (E : XK), Room k (A.deeper (envOfC qual (defScope st) s.heap.objs.size f cdv)) → sp vs H Q E →
      ∃ t, PSs (cxOf (L2N.CX P w) P w K mg base N qual (defScope st) f cdv A outer s H E) (defBody st) t ∧ t { nx := fun _ H' => Q .non H', rt := Q } (L2.start N vs) H) : FnOk P w K mg base (L2N.CX P w) (k + 1) f fd ps sp := by
  obtain ⟨oc, od, kV, doc, pm, an, cdv, ct, osl, rfl, lk, hcd⟩ := F.ex
  exact fn_of lk hcd S len fun A outer s H vs Q E hr hsp => hb cdv A outer s H vs Q E hr hsp
/-! ### a def called within an except suite, of the error that is handled (its class at D) -/
structure FnHE (P : Program) (w : World) (K : PySem.W.Frag) (mg : Str → Option Value) (base : Heap) (D : Addr) (k : Nat) (f : Addr) (fd : FuncData) (ps : List Str) (sp : Addr → Sp) : Prop where
  len : ∀ a vs H Q E, sp a vs H Q E → vs.length = ps.length
  run : ∀ (A : Around) (outer : List Env) (s : Shared) (H : Hp) (args : Args) (us : List Value) (vs : List V) (Q : VK) (E : XK) (p : Addr × Obj), L2H.RoomH k A → L2H.Hot1 A p → p.2.cls = .ref D → p.2.dict = none → L2H.PinOk outer H s p → Env0 P w K mg base A outer s H → BindsTo s fd args (ps.zip us) →
    Vals vs us → sp p.1 vs H Q E → codeAny (model P w) A (.call (.ref f) args) (CR CX0 outer P w H s Q E) s
theorem Fun.okHE {x qual : Str} {st : Stmt} {f D : Addr} {fd : FuncData} {N ps : List Str} {k : Nat} {sp : Addr → Sp} (F : Fun K x qual st f fd) (S : FnScope N ps (defScope st)) (len : ∀ a vs H Q E, sp a vs H Q E → vs.length = ps.length)
    (hbody : ∀ (cdv : Value) (A : Around) (outer : List Env) (s : Shared) (H : Hp) (vs : List V) (Q : VK) (E : XK) (p : Addr × Obj), L2H.Hot1 A p → p.2.cls = .ref D → p.2.dict = none → L2H.RoomH k (A.deeper (envOfC qual (defScope st) s.heap.objs.size f cdv)) → sp p.1 vs H Q E →
      ∃ t, PSs (L2H.cxH CX0 P w K mg base N qual (defScope st) f cdv A outer s H E p) (defBody st) t ∧ t { nx := fun _ H' => Q .non H', rt := Q } (L2.start N vs) H) : FnHE P w K mg base D (k + 1) f fd ps sp := by
  obtain ⟨oc, od, kV, doc, pm, an, cdv, ct, osl, rfl, lk, hcd⟩ := F.ex
  refine ⟨len, fun A outer s H args us vs Q E p hr hot hD hN hpin e0 hb r hsp => ?_⟩
  have hl := len _ _ _ _ _ hsp
  have keepB : ∀ b o, base.get? b = some o → s.heap.get? b = some o := fun b o e => (e0.bs b o e).1
  have KX : K.In s.heap := e0.mod.kin.keeps keepB
  have lim : s.heap.NoLimit := e0.mod.nolimit.keeps keepB
  have kinds : ∀ y ∈ ps.zip us, (defScope st).names.lookup y.1 = some .local ∨ ((defScope st).names.lookup y.1 = some .cell ∧ ((cellsFrom (s.heap.objs.size + 1) (defScope st).names []).lookup y.1).isSome = true) := by
    rintro ⟨n, v⟩ hy
    rcases S.par n (List.of_mem_zip hy).1 with q | q
    · exact .inl q
    · exact .inr ⟨q, PySem.W.cellsFrom_some _ _ _ (.inl q)⟩
  refine codeAny_call_function hr.depth (KX _ _ lk) rfl S.co S.gen rfl (PySem.W.codeRec_of KX hcd) (hb _ _ _ _ ?_)
  refine wpAny_newFunctionEnv_cells S.kind kinds fun env he s1 x => ?_
  subst he
  refine ⟨lim.keeps x.toInCall.keep, codeAny_func ?_⟩
  obtain ⟨t, ht, hq⟩ := hbody cdv A outer s H vs Q E p hot hD hN (hr.deeper _) hsp
  refine wpAny_mono (ht.run [] s1 (L2.start N vs) H _ (L2H.inv_startH S hpin e0 hl r x) hq) (fun fl s' hs => ?_) fun e s' hs => hs
  cases fl with
  | ret u =>
    obtain ⟨v, σ', H', J, rv, q⟩ := hs
    exact ⟨v, H', J.os, J.bare, J.base, J.hok, rv, q⟩
  | next =>
    obtain ⟨σ', H', J, q⟩ := hs
    exact ⟨V.non, H', J.os, J.bare, J.base, J.hok, rfl, q⟩
  | brk =>
    obtain ⟨_, _, _, q⟩ := hs
    exact False.elim q
  | cont =>
    obtain ⟨_, _, _, q⟩ := hs
    exact False.elim q
end
section
variable {X : Cx} {k : Nat} {f D : Addr} {fd : FuncData} {ps : List Str} {sp : Addr → Sp} {x : Str} {q pos : Pos} {e : Expr} {es : List Expr} {t : TA} {a : Addr} {oe : Obj} {cls : Value} {d : Option Addr} {pn : List (Addr × Obj)}
/-- f(e), within the suite that holds the error at a: asks that the error is the class's own, without a dict -/
theorem pe_callHE (F : FnHE X.prog X.w X.K X.mg X.base D k f fd ps sp) (hr : L2H.RoomH k X.A) (hz : L2N.Zn cls d oe) (hf : ∃ vs, oe.data = .fields vs) (hg : Gl X x) (hm : X.mg x = some (.ref f)) (hk : PySem.W.keepIn X.K (.ref f) = true) (hb : Binds X.K fd ps [])
    (ha : PA (X.suite a ((a, oe) :: pn)) (e :: es) t) (hdb : (x == ("__debug__" : Str)) = false := by decide) (he : starEach (e :: es) X.env = (false, eval e X.env) :: starEach es X.env := by rfl) (hpl : (backTo pos (starEach es X.env)).any (·.1) = false := by rfl) :
    PE (X.suite a ((a, oe) :: pn)) (.Call (.Name x q) (e :: es) [] pos) (fun σ H Q => cls = .ref D ∧ d = none ∧ t σ H fun vs H1 => sp a vs H1 Q E0) := by
  refine ⟨fun pins s σ H Q I h => ?_⟩
  obtain ⟨ec, ed, h⟩ := h
  refine wpAny_Call_Name_kw (ld_glob I hg hm ?_ hdb)
  refine PySem.W.callWith_K (h₀ := X.base) I.ok.mod.kin hk (thn (ha.run pos pins s σ H _ I h) fun us s1 hh => ?_) he hpl
  obtain ⟨vs, H1, I1, r, hsp⟩ := hh
  refine ⟨I1.kIn, ?_⟩
  have hl : us.length = ps.length := by rw [← r.length]; exact F.len _ _ _ _ _ hsp
  have b := hb s1 us I1.kIn (by rw [List.append_nil]; exact hl)
  rw [List.append_nil] at b
  have P1 := I1.pin (a, oe) (List.mem_append_left _ List.mem_cons_self)
  have hpin : L2H.PinOk (X.suite a ((a, oe) :: pn)).stack H1 s1 (a, oe) := ⟨P1.1, P1.2.1, fun hm => (List.mem_cons.mp (I1.stkSub a hm)).elim P1.2.2.1 P1.2.2.2.1, P1.2.2.2.2⟩
  have hot : L2H.Hot1 (X.suite a ((a, oe) :: pn)).A (a, oe) := by
    obtain ⟨vs, hv⟩ := hf
    exact ⟨rfl, vs, hv, hz.2.2 vs hv⟩
  refine wpAny_call (codeAny_mono (F.run _ _ s1 H1 ⟨us, []⟩ us vs Q E0 (a, oe) ⟨hr.dp, hr.un⟩ hot (hz.1.trans ec) (hz.2.1.trans ed) hpin I1.env0 b r hsp) fun res s' hq => ?_)
  cases res with
  | error er => exact hq.elim
  | ok fl =>
    cases fl with
    | ret u => exact I1.after hq
    | next => exact False.elim hq
    | brk => exact False.elim hq
    | cont => exact False.elim hq
/-- isinstance of an error that the context bears -/
theorem call_isP {X : Cx} {D : Addr} {p : Addr × Obj} (C : ExcC X.K D) (hp : p ∈ X.pn) (h1 : p.2.cls = .ref D) (h2 : p.2.dict = none) (hf : ∃ vs, p.2.data = .fields vs) : CallR X (.builtin "isinstance") (rIsE X.K D p.1) := by
  intro pins s σ H xs us Q I r h
  obtain ⟨c, cv, b, rfl, hcv, e, q⟩ := h
  obtain ⟨u1, u2, rfl, rx, rt⟩ := vals2 r
  cases rx
  have ec := hcv _ rt
  subst ec
  have hget := (I.pin p (List.mem_append_left _ hp)).1
  obtain ⟨vs, hv⟩ := hf
  have J : PySem.W.InstAt s.heap p.1 p.2 D none := by
    obtain ⟨a, oc, od, oda, osl⟩ := p
    dsimp only at h1 h2 hv
    subst h1 h2 hv
    exact ⟨hget, rfl, rfl, trivial⟩
  exact PySem.W.kia_one (PySem.W.handS_kitx_exc C.hg C.hk C.hs C.hd C.ha C.hn C.ht C.hm) I.kIn J e (fun z => nomatch z) fun tk => ⟨.bl b, H, I.kept (t' := tk) fun _ _ z => z, rfl, q⟩
/-- isinstance of the error that the suite handles, whatever its class -/
theorem call_isS {X : Cx} {a : Addr} {oe : Obj} {cls : Value} {d : Option Addr} {pn : List (Addr × Obj)} (hz : L2N.Zn cls d oe) (hf : ∃ vs, oe.data = .fields vs) :
    CallR (X.suite a ((a, oe) :: pn)) (.builtin "isinstance") (fun xs H Q => ∃ D, cls = .ref D ∧ d = none ∧ ExcC X.K D ∧ rIsE X.K D a xs H Q) := by
  intro pins s σ H xs us Q I r h
  obtain ⟨D, e1, e2, C, h⟩ := h
  exact call_isP (X := X.suite a ((a, oe) :: pn)) (p := (a, oe)) C List.mem_cons_self (hz.1.trans e1) (hz.2.1.trans e2) hf pins s σ H xs us Q I r h
end
end L2


set_option Elab.async false
set_option linter.all false
set_option maxRecDepth 100000
set_option maxHeartbeats 4000000
/-! New tuples told with their very object (it bears no dict); dict(t) of such a tuple of pairs. -/
namespace L2
open PySem PySem.Spec PyProof.Rows
/-- a tuple that bears no dict -/
def TupN (H : Hp) (a : Addr) (xs : List V) : Prop := ∃ o : Obj, H a = some (.frz o (.tup xs)) ∧ o.dict = none
theorem TupN.sq {K : PySem.W.Frag} {H : Hp} {a : Addr} {xs : List V} (h : TupN H a xs) : SqT K H a xs := by
  obtain ⟨o, h, _⟩ := h
  exact .inl (.inr ⟨o, h⟩)
section
variable {X : Cx} {es : List Expr} {t : TA} {pos : Pos}
/-- a written tuple -/
theorem pe_tupN {x1} (h : PA X es t) : PE X (.Tuple es x1 pos) (fun σ H Q => t σ H fun xs H1 => xs.length ≤ sizeLine ∧ ∀ (p : Addr) (o : Obj), H1 p = none → o.dict = none → Q (.ref p) (upd H1 p (.frz o (.tup xs)))) := by
  refine ⟨fun pins s σ H Q I hq => ?_⟩
  refine wpAny_Tuple_spliced (thn (h.run pos pins s σ H _ I hq) fun us u ⟨xs, H1, J, r, z, q⟩ => ⟨by rw [← r.length]; exact z, ?_⟩)
  refine ⟨.ref u.heap.objs.size, _, J.laid (t' := u.toks) (fun b o e => Heap.get?_push_of_some _ e) (Nat.le_refl _) ?_, rfl, q _ { cls := .type "tuple", data := .seq us.toArray } (J.hok.fresh (Nat.le_refl _)) rfl⟩
  exact ⟨Heap.get?_push_size _ rfl, z, us, r, ⟨_, Heap.get?_push_size _ rfl, rfl, _, rfl⟩⟩
/-- tuple(xs) of a list -/
theorem call_tupleN : CallR X (.type "tuple") (fun xs H Q => ∃ p ys, xs = [.ref p] ∧ SqL X.K H p ys ∧ ∀ (l : Addr) (o : Obj), H l = none → o.dict = none → Q (.ref l) (upd H l (.frz o (.tup ys)))) := by
  intro pins s σ H xs us Q I r h
  obtain ⟨p, ys, rfl, hq, q⟩ := h
  obtain ⟨u, rfl, rx⟩ := vals1 r
  cases rx
  obtain ⟨its, rv, pl, hz⟩ := I.list hq
  have hl := rv.length
  refine call_tuple_list pl.isList (fun h' kp => ?_) (by simp only [List.size_toArray] <;> omega)
  have J : Inv X pins σ H { s with heap := h' } := I.kept (t' := s.toks) kp
  exact ⟨.ref h'.objs.size, _, J.laid (t' := s.toks) (fun b o e => Heap.get?_push_of_some _ e) (Nat.le_refl _) (show ObjOk X.prog X.w _ _ _ (.frz { cls := .type "tuple", data := .seq its.toArray } (.tup ys)) from ⟨Heap.get?_push_size _ rfl, hz, its, rv, IsTup.new _ _⟩), rfl, q _ { cls := .type "tuple", data := .seq its.toArray } (J.hok.fresh (Nat.le_refl _)) rfl⟩
/-- the pairs, as values -/
theorem pairs_at {pins : List (Addr × Obj)} {σ : St} {H : Hp} {s : Shared} (I : Inv X pins σ H s) : ∀ {ps : List Addr} {kvs : List (Key × V)}, Paired (fun p kv => SqT X.K H p [kV kv.1, kv.2]) ps kvs →
    ∃ (prs : List (Key × Value)) (vps : List (Value × Value)), KV kvs prs ∧ prs.length = ps.length ∧ vps.length = ps.length ∧
      ∀ (j : Nat) (b : Addr), ps[j]? = some b → ∃ q u, prs[j]? = some q ∧ vps[j]? = some (u, q.2) ∧ IsTup s.heap b #[u, q.2] ∧ keyIs q.1 u = true
  | _, _, .nil => ⟨[], [], .nil, rfl, rfl, fun j q e => by simp at e⟩
  | _, _, .cons (a := p) (b := kv) h t => by
    obtain ⟨prs, vps, r, l1, l2, hp⟩ := pairs_at I t
    obtain ⟨its, rv, ht, _⟩ := I.tuple h
    obtain ⟨u, y, rfl, ru, ry⟩ := vals2 rv
    refine ⟨(kv.1, y) :: prs, (u, y) :: vps, .cons ⟨rfl, ry⟩ r, by simp [l1], by simp [l2], fun j b e => ?_⟩
    cases j with
    | zero =>
      obtain rfl : p = b := Option.some.inj e
      exact ⟨_, u, rfl, rfl, ht, kV_is (P := X.prog) (w := X.w) ru⟩
    | succ j =>
      obtain ⟨q, u', e1, e2, e3⟩ := hp j b (by simpa using e)
      exact ⟨q, u', by simpa using e1, by simpa using e2, e3⟩
/-- dict(t), t a tuple of pairs -/
theorem call_dictPT (hcalm : X.calm = true) : CallR X (.type "dict") (fun xs H Q => ∃ (a : Addr) (ps : List Addr) (kvs : List (Key × V)), xs = [.ref a] ∧ TupN H a (ps.map V.ref) ∧ Paired (fun p kv => SqT X.K H p [kV kv.1, kv.2]) ps kvs ∧
    ∀ p, H p = none → Q (.ref p) (upd H p (.dK (mergeK [] kvs)))) := by
  intro pins s σ H xs us Q I r q
  obtain ⟨a, ps, kvs, rfl, ⟨o, ha, dn⟩, hp, q⟩ := q
  obtain ⟨u, rfl, rx⟩ := vals1 r
  cases rx
  obtain ⟨go, hz, its, rv, ⟨o', ho', hc, n, hdat⟩⟩ := (show ObjOk X.prog X.w H s.heap a (.frz o (.tup (ps.map V.ref))) from I.hok a _ ha)
  obtain rfl : o = o' := Option.some.inj (go.symm.trans ho')
  have ei := refs_at rv
  subst ei
  rw [List.length_map] at hz
  obtain ⟨prs, vps, rel, l1, l2, hpr⟩ := pairs_at I hp
  have pi : PySem.PairItems s.heap (ps.map Value.ref).toArray (fun j => ps.getD j 0) vps := by
    refine ⟨by simp [l2], fun j k v e => ?_⟩
    have hj : j < ps.length := by rw [← l2]; exact (List.getElem?_eq_some_iff.mp e).1
    obtain ⟨q', u, e1, e2, e3, _⟩ := hpr j ps[j] (List.getElem?_eq_getElem hj)
    have ee : (k, v) = (u, q'.2) := Option.some.inj (e.symm.trans e2)
    obtain ⟨rfl, rfl⟩ := Prod.mk.inj ee
    have gd : ps.getD j 0 = ps[j] := by simp [List.getD, hj]
    refine ⟨by simp [hj], ?_⟩
    show PySem.PairAt s.heap (ps.getD j 0) k q'.2
    rw [gd]
    exact .inl e3
  refine PySem.call_dict_pairs (knd := mixKind X.prog X.w) (kvs := prs) (PySem.PairArg.tuple (prog := X.prog) (w := X.w) a (ps.map Value.ref).toArray (fun j => ps.getD j 0) vps) (I.ok.hd hcalm) ⟨⟨o, n, go, hc, dn, hdat⟩, pi⟩ ⟨by rw [l1, l2], fun i key v e => ?_⟩ (by rw [l2]; exact hz) fun h' tk hd' k => ?_
  · have hj : i < ps.length := by rw [← l2]; exact (List.getElem?_eq_some_iff.mp e).1
    obtain ⟨q', u, e1, e2, _, e4⟩ := hpr i ps[i] (List.getElem?_eq_getElem hj)
    have ee : (key, v) = (u, q'.2) := Option.some.inj (e.symm.trans e2)
    obtain ⟨rfl, rfl⟩ := Prod.mk.inj ee
    exact ⟨q'.1, e1, e4⟩
  · have hm : (s.heap.objs.size == sysModules) = false := beq_eq_false_iff_ne.mpr (Nat.ne_of_gt I.big)
    have hlen : (mergeK [] kvs).length ≤ sizeLine := by
      refine Nat.le_trans (length_mergeK kvs []) ?_
      rw [List.length_nil, Nat.zero_add, rel.length, l1]
      exact hz
    exact ⟨.ref s.heap.objs.size, upd H s.heap.objs.size (.dK (mergeK [] kvs)), I.laid (t' := tk) (fun b o e => k b o (fun z => nomatch z) e) (Nat.le_refl _) (show ObjOk X.prog X.w _ _ _ (.dK (mergeK [] kvs)) from ⟨hlen, hm, merged [] prs, KV.merge rel .nil, hd'⟩), rfl, q _ (I.hok.fresh (Nat.le_refl _))⟩
end
end L2


set_option Elab.async false
set_option linter.all false
set_option maxRecDepth 100000
set_option maxHeartbeats 4000000
/-! Reckonings: their form, where they lie in a heap, what they come to. -/
namespace MK
open PySem PySem.Spec PyProof.Rows L2
/-! ### names -/
/-- signs a to z alone -/
def Az (z : Str) : Prop := ∀ c ∈ z.cps.toList, 97 ≤ c ∧ c ≤ 122
/-- a name: 1 to 8 of them -/
def Nm (z : Str) : Prop := 1 ≤ z.length ∧ z.length ≤ 8 ∧ Az z
theorem Az.ok {z : Str} (h : Az z) : Ok z := fun c hc => by
  have := h c hc
  omega
theorem az_app {a b : Str} (ha : Az a) (hb : Az b) : Az (a ++ b) := fun c hc => by
  have hc : c ∈ (a.cps ++ b.cps).toList := hc
  rw [Array.toList_append] at hc
  rcases List.mem_append.mp hc with h | h
  · exact ha c h
  · exact hb c h
theorem az_one {c : Nat} (h : 97 ≤ c ∧ c ≤ 122) : Az ⟨#[c]⟩ := fun x hx => by
  have : x = c := by simpa using hx
  rw [this]
  exact h
theorem az_fold (c : Array Nat) (hc : ∀ x ∈ c.toList, 97 ≤ x ∧ x ≤ 122) : ∀ (k : Nat) (acc : Array Nat), (∀ x ∈ acc.toList, 97 ≤ x ∧ x ≤ 122) → ∀ x ∈ ((List.replicate k c).foldl (· ++ ·) acc).toList, 97 ≤ x ∧ x ≤ 122
  | 0, acc, h => h
  | k + 1, acc, h => by
    rw [List.replicate_succ, List.foldl_cons]
    refine az_fold c hc k _ fun x hx => ?_
    rw [Array.toList_append] at hx
    rcases List.mem_append.mp hx with q | q
    · exact h x q
    · exact hc x q
theorem az_rep {z : Str} (h : Az z) (n : Int) : Az (strRep z n) := by
  unfold strRep
  by_cases c : n < 1
  · rw [if_pos c]
    exact fun x hx => absurd hx (by simp [Str.empty])
  · rw [if_neg c]
    by_cases d : (n == 1 || z.length == 0) = true
    · rw [if_pos d]
      exact h
    · rw [if_neg d]
      exact az_fold _ h _ _ (fun x hx => absurd hx (by simp))
theorem nm_lt {z : Str} (h : Nm z) : LtOk z := ⟨fun e => by
  have h1 : 1 ≤ z.cps.size := h.1
  rw [← Array.length_toList, e] at h1
  exact absurd h1 (by decide), h.2.2.ok⟩
/-! ### numbers -/
/-- below 2 ^ n either way -/
def Sm (n : Nat) (x : Int) : Prop := x.natAbs < 2 ^ n
theorem Sm.mono {a b : Nat} {x : Int} (h : Sm a x) (l : a ≤ b) : Sm b x := Nat.lt_of_lt_of_le h (Nat.pow_le_pow_right (by decide) l)
theorem Sm.le {a : Nat} {x y : Int} (h : Sm a x) (l : y.natAbs ≤ x.natAbs) : Sm a y := Nat.lt_of_le_of_lt l h
theorem Sm.neg {a : Nat} {x : Int} (h : Sm a x) : Sm a (-x) := by
  unfold Sm at *
  omega
theorem Sm.mul {a b : Nat} {x y : Int} (h : Sm a x) (g : Sm b y) : Sm (a + b) (x * y) := by
  unfold Sm at *
  rw [Int.natAbs_mul, Nat.pow_add]
  exact Nat.mul_lt_mul'' h g
theorem Sm.add {a : Nat} {x y : Int} (h : Sm a x) (g : Sm a y) : Sm (a + 1) (x + y) := by
  unfold Sm at *
  rw [Nat.pow_succ]
  omega
theorem Sm.sub {a : Nat} {x y : Int} (h : Sm a x) (g : Sm a y) : Sm (a + 1) (x - y) := by
  unfold Sm at *
  rw [Nat.pow_succ]
  omega
theorem Sm.pow {a : Nat} {x : Int} (h : Sm a x) : ∀ n : Nat, Sm (a * n + 1) (x ^ n)
  | 0 => by
    show (x ^ 0).natAbs < 2 ^ (a * 0 + 1)
    rw [Int.pow_zero, Nat.mul_zero]
    decide
  | n + 1 => by
    have := (Sm.pow h n).mul h
    rw [← Int.pow_succ] at this
    exact this.mono (by rw [Nat.mul_succ]; omega)
theorem Sm.mulW {a b : Nat} {x y : Int} (h : Sm a x) (g : Sm b y) (l : a + b ≤ 100000) : CMulW x y := by
  have h1 := wide_mul (a := a + 1) (b := b + 1) (h.mono (by omega)) (g.mono (by omega)) (by omega) (by omega) (by omega)
  exact h1
theorem Sm.div {a : Nat} {x : Int} (h : Sm a x) (n : x ≠ 0) (l : a ≤ 8000) : CDivWN 0 x := ⟨n, by
  have := PySem.Flt.log2_lt_of (k := a + 1) (by omega) (Nat.lt_of_lt_of_le h (Nat.pow_le_pow_right (by decide) (by omega)))
  omega⟩
theorem divN_any {i i' j : Int} (h : CDivWN i j) : CDivWN i' j := h
/-! ### the form -/
inductive Op4 where
  | plus | minus | times | over
deriving DecidableEq
def Op4.name : Op4 → Str
  | .plus => "plus" | .minus => "minus" | .times => "times" | .over => "over"
inductive Rk where
  | is (x y : Int) (m : Ms)
  | nought
  | input (s : Str)
  | bin (o : Op4) (a b : Rk)
  | power (a : Rk) (n : Int)
  | less (a b c d : Rk)
/-- at b the measure m, a tuple that bears no dict -/
def MsN (H : Hp) (b : Addr) (m : Ms) : Prop := ∃ ts : List Addr, TupN H b (ts.map V.ref) ∧ Paired (PrAt H) ts m
theorem MsN.same {H H' : Hp} {b : Addr} {m : Ms} (s : Same H H') (h : MsN H b m) : MsN H' b m := by
  obtain ⟨ts, ⟨o, e, d⟩, p⟩ := h
  exact ⟨ts, ⟨o, s _ _ e, d⟩, pr_same s p⟩
abbrev FracAt (H : Hp) (p : Addr) (u v : Int) : Prop := H p = some (.tup [.int u, .int v])
/-- a reckoning as it lies there -/
def TrAt (H : Hp) : Rk → Addr → Prop
  | .is x y m, p => ∃ q b, H p = some (.tup [.str "is", .ref q, .ref b]) ∧ FracAt H q x y ∧ MsN H b m
  | .nought, p => H p = some (.tup [.str "nought"])
  | .input s, p => H p = some (.tup [.str "input", .str s])
  | .bin o a b, p => ∃ q r, H p = some (.tup [.str o.name, .ref q, .ref r]) ∧ TrAt H a q ∧ TrAt H b r
  | .power a n, p => ∃ q, H p = some (.tup [.str "power", .ref q, .int n]) ∧ TrAt H a q
  | .less a b c d, p => ∃ q r s t, H p = some (.tup [.str "less", .ref q, .ref r, .ref s, .ref t]) ∧ TrAt H a q ∧ TrAt H b r ∧ TrAt H c s ∧ TrAt H d t
theorem TrAt.same {H H' : Hp} (s : Same H H') : ∀ {r : Rk} {p : Addr}, TrAt H r p → TrAt H' r p
  | .is x y m, p, ⟨q, b, h1, h2, h3⟩ => ⟨q, b, s _ _ h1, s _ _ h2, h3.same s⟩
  | .nought, p, h => s p _ h
  | .input z, p, h => s p _ h
  | .bin o a b, p, ⟨q, r, h1, h2, h3⟩ => ⟨q, r, s _ _ h1, TrAt.same s h2, TrAt.same s h3⟩
  | .power a n, p, ⟨q, h1, h2⟩ => ⟨q, s _ _ h1, TrAt.same s h2⟩
  | .less a b c d, p, ⟨q, r, u, v, h1, h2, h3, h4, h5⟩ => ⟨q, r, u, v, s _ _ h1, TrAt.same s h2, TrAt.same s h3, TrAt.same s h4, TrAt.same s h5⟩
/-- a measure of an is: in its form, few letters, all of them bases, small powers -/
structure MsIn (m : Ms) : Prop where
  can : Can m
  few : m.length ≤ 6
  nm : ∀ p ∈ m, Nm p.1
  sm : ∀ p ∈ m, p.2.natAbs ≤ 20
/-- within the bounds that its parts have -/
def Rk.Ok : Rk → Prop
  | .is x y m => Red x y ∧ x.natAbs ≤ 10 ^ 9 ∧ y ≤ 10 ^ 9 ∧ MsIn m
  | .nought => True
  | .input s => Nm s
  | .bin _ a b => a.Ok ∧ b.Ok
  | .power a n => a.Ok ∧ -4 ≤ n ∧ n ≤ 4
  | .less a b c d => a.Ok ∧ b.Ok ∧ c.Ok ∧ d.Ok
/-- how deep: one without parts is one deep -/
def Rk.deep : Rk → Nat
  | .bin _ a b => 1 + max a.deep b.deep
  | .power a _ => 1 + a.deep
  | .less a b c d => 1 + max (max a.deep b.deep) (max c.deep d.deep)
  | _ => 1
/-- how many reckonings in all -/
def Rk.many : Rk → Nat
  | .bin _ a b => 1 + (a.many + b.many)
  | .power a _ => 1 + a.many
  | .less a b c d => 1 + (a.many + b.many + c.many + d.many)
  | _ => 1
/-- how many powers within one another -/
def Rk.pows : Rk → Nat
  | .bin _ a b => max a.pows b.pows
  | .power a _ => 1 + a.pows
  | .less a b c d => max (max a.pows b.pows) (max c.pows d.pows)
  | _ => 0
/-- how many noughts -/
def Rk.noughts : Rk → Nat
  | .nought => 1
  | .bin _ a b => a.noughts + b.noughts
  | .power a _ => a.noughts
  | .less a b c d => a.noughts + b.noughts + c.noughts + d.noughts
  | _ => 0
/-- the names of its inputs, as they stand -/
def Rk.ins : Rk → List Str
  | .input s => [s]
  | .bin _ a b => a.ins ++ b.ins
  | .power a _ => a.ins
  | .less a b c d => a.ins ++ b.ins ++ c.ins ++ d.ins
  | _ => []
/-- the letters of its numbers -/
def Rk.lts : Rk → List Str
  | .is _ _ m => m.map (·.1)
  | .bin _ a b => a.lts ++ b.lts
  | .power a _ => a.lts
  | .less a b c d => a.lts ++ b.lts ++ c.lts ++ d.lts
  | _ => []
theorem Rk.deep_pos : ∀ r : Rk, 1 ≤ r.deep
  | .is _ _ _ => Nat.le_refl _ | .nought => Nat.le_refl _ | .input _ => Nat.le_refl _
  | .bin _ _ _ => Nat.le_add_right _ _ | .power _ _ => Nat.le_add_right _ _ | .less _ _ _ _ => Nat.le_add_right _ _
/-! ### what it comes to -/
/-- x over y in lowest terms -/
def norm (x y : Int) : Int × Int := (x.fdiv (cut x y), y.fdiv (cut x y))
theorem norm_red {x y : Int} (h : y ≠ 0) : Red (norm x y).1 (norm x y).2 := (cut_ok h).1
theorem norm_val {x y : Int} (h : y ≠ 0) : (norm x y).1 * y = x * (norm x y).2 := (cut_ok h).2.1
theorem norm_sm {x y : Int} {a : Nat} (h : y ≠ 0) (h1 : Sm a x) (h2 : Sm a y) : Sm a (norm x y).1 ∧ Sm a (norm x y).2 := ⟨h1.le (cut_ok h).2.2.1, h2.le (cut_ok h).2.2.2⟩
theorem norm_is {x y u v : Int} (h : y ≠ 0) (r : Red u v) (e : u * y = x * v) : norm x y = (u, v) := by
  have h1 := norm_red (x := x) h
  have h2 := norm_val (x := x) h
  obtain ⟨e1, e2⟩ := red_uniq h1 r (by
    have h3 : (norm x y).1 * v * y = u * (norm x y).2 * y := by
      rw [Int.mul_right_comm, h2, Int.mul_right_comm u, e, Int.mul_right_comm]
    exact Int.eq_of_mul_eq_mul_right h h3)
  exact Prod.ext e1 e2
def valOp : Op4 → Int × Int → Int × Int → Option (Int × Int)
  | .plus, a, b => some (norm (a.1 * b.2 + b.1 * a.2) (a.2 * b.2))
  | .minus, a, b => some (norm (a.1 * b.2 - b.1 * a.2) (a.2 * b.2))
  | .times, a, b => some (norm (a.1 * b.1) (a.2 * b.2))
  | .over, a, b => if b.1 = 0 then none else some (norm (a.1 * b.2) (a.2 * b.1))
def pwA (x y n : Int) : Int := if n < 0 then y ^ n.natAbs else x ^ n.natAbs
def pwB (x y n : Int) : Int := if n < 0 then x ^ n.natAbs else y ^ n.natAbs
def valPow (a : Int × Int) (n : Int) : Option (Int × Int) := if pwB a.1 a.2 n = 0 then none else some (norm (pwA a.1 a.2 n) (pwB a.1 a.2 n))
def val (env : Str → Option (Int × Int)) : Rk → Option (Int × Int)
  | .is x y _ => some (x, y)
  | .nought => some (0, 1)
  | .input s => env s
  | .bin o a b => (val env a).bind fun u => (val env b).bind fun v => valOp o u v
  | .power a n => (val env a).bind fun u => valPow u n
  | .less a b c d => (val env a).bind fun u => (val env b).bind fun v => if u.1 * v.2 < v.1 * u.2 then val env c else val env d
/-- how many signs (in twos) its value may have -/
def Rk.bits : Rk → Nat
  | .bin _ a b => a.bits + b.bits + 1
  | .power a _ => a.bits * 4 + 1
  | .less a b c d => max (max a.bits b.bits) (max c.bits d.bits)
  | _ => 30
/-- a fraction in lowest terms, below 2 ^ n -/
def FrSm (n : Nat) (u : Int × Int) : Prop := Red u.1 u.2 ∧ Sm n u.1 ∧ Sm n u.2
theorem FrSm.mono {a b : Nat} {u : Int × Int} (h : FrSm a u) (l : a ≤ b) : FrSm b u := ⟨h.1, h.2.1.mono l, h.2.2.mono l⟩
theorem valOp_sm {o : Op4} {u v r : Int × Int} {a b : Nat} (hu : FrSm a u) (hv : FrSm b v) (e : valOp o u v = some r) : FrSm (a + b + 1) r := by
  obtain ⟨ru, u1, u2⟩ := hu
  obtain ⟨rv, v1, v2⟩ := hv
  have n0 : u.2 * v.2 ≠ 0 := Int.ne_of_gt (Int.mul_pos ru.1 rv.1)
  have s0 : Sm (a + b + 1) (u.2 * v.2) := (u2.mul v2).mono (by omega)
  have c1 : Sm (a + b) (u.1 * v.2) := u1.mul v2
  have c2 : Sm (a + b) (v.1 * u.2) := (v1.mul u2).mono (by omega)
  cases o with
  | plus =>
    cases e
    exact ⟨norm_red n0, norm_sm n0 (c1.add c2) s0⟩
  | minus =>
    cases e
    exact ⟨norm_red n0, norm_sm n0 (c1.sub c2) s0⟩
  | times =>
    cases e
    exact ⟨norm_red n0, norm_sm n0 ((u1.mul v1).mono (by omega)) s0⟩
  | over =>
    have e : (if v.1 = 0 then none else some (norm (u.1 * v.2) (u.2 * v.1))) = some r := e
    by_cases z : v.1 = 0
    · rw [if_pos z] at e
      cases e
    · rw [if_neg z] at e
      cases e
      have n1 : u.2 * v.1 ≠ 0 := Int.mul_ne_zero (Int.ne_of_gt ru.1) z
      exact ⟨norm_red n1, norm_sm n1 (c1.mono (by omega)) ((u2.mul v1).mono (by omega))⟩
theorem pw_sm {x y n : Int} {a : Nat} (hx : Sm a x) (hy : Sm a y) (h1 : -4 ≤ n) (h2 : n ≤ 4) : Sm (a * 4 + 1) (pwA x y n) ∧ Sm (a * 4 + 1) (pwB x y n) := by
  have l : a * n.natAbs + 1 ≤ a * 4 + 1 := Nat.add_le_add_right (Nat.mul_le_mul_left _ (by omega)) 1
  unfold pwA pwB
  by_cases e : n < 0
  · rw [if_pos e, if_pos e]
    exact ⟨(hy.pow _).mono l, (hx.pow _).mono l⟩
  · rw [if_neg e, if_neg e]
    exact ⟨(hx.pow _).mono l, (hy.pow _).mono l⟩
theorem valPow_sm {u r : Int × Int} {n : Int} {a : Nat} (hu : FrSm a u) (h1 : -4 ≤ n) (h2 : n ≤ 4) (e : valPow u n = some r) : FrSm (a * 4 + 1) r := by
  unfold valPow at e
  by_cases z : pwB u.1 u.2 n = 0
  · rw [if_pos z] at e
    cases e
  · rw [if_neg z] at e
    cases e
    obtain ⟨s1, s2⟩ := pw_sm hu.2.1 hu.2.2 h1 h2
    exact ⟨norm_red z, norm_sm z s1 s2⟩
theorem bind_some {α β : Type} {o : Option α} {f : α → Option β} {r : β} (e : o.bind f = some r) : ∃ u, o = some u ∧ f u = some r := by
  cases o with
  | none => cases e
  | some u => exact ⟨u, rfl, e⟩
theorem sm30 {x : Int} (h : x.natAbs ≤ 10 ^ 9) : Sm 30 x := Nat.lt_of_le_of_lt h (by decide)
theorem val_sm {env : Str → Option (Int × Int)} (he : ∀ s u, env s = some u → FrSm 30 u) : ∀ {r : Rk} {u : Int × Int}, r.Ok → val env r = some u → FrSm r.bits u
  | .is x y m, u, ⟨h1, h2, h3, _⟩, e => by
    cases e
    exact ⟨h1, sm30 h2, sm30 (by have := h1.1; omega)⟩
  | .nought, u, _, e => by
    cases e
    exact ⟨⟨by decide, by decide⟩, by show (0 : Int).natAbs < 2 ^ 30; decide, by show (1 : Int).natAbs < 2 ^ 30; decide⟩
  | .input s, u, _, e => he s u e
  | .bin o a b, u, ⟨h1, h2⟩, e => by
    obtain ⟨x, e1, e⟩ := bind_some e
    obtain ⟨y, e2, e⟩ := bind_some e
    exact valOp_sm (val_sm he h1 e1) (val_sm he h2 e2) e
  | .power a n, u, ⟨h1, h2, h3⟩, e => by
    obtain ⟨x, e1, e⟩ := bind_some e
    exact valPow_sm (val_sm he h1 e1) h2 h3 e
  | .less a b c d, u, ⟨h1, h2, h3, h4⟩, e => by
    obtain ⟨x, e1, e⟩ := bind_some e
    obtain ⟨y, e2, e⟩ := bind_some e
    by_cases z : x.1 * y.2 < y.1 * x.2
    · rw [if_pos z] at e
      exact (val_sm he h3 e).mono (Nat.le_trans (Nat.le_max_left _ _) (Nat.le_max_right _ _))
    · rw [if_neg z] at e
      exact (val_sm he h4 e).mono (Nat.le_trans (Nat.le_max_right _ _) (Nat.le_max_right _ _))
/-- the most signs by depth and powers: for the law's trees -/
theorem bits_by : ∀ {r : Rk}, r.deep ≤ 4 → r.pows ≤ 2 → r.bits ≤ 1000 := by
  have leaf : ∀ r : Rk, r.deep ≤ 1 → r.bits ≤ 30 ∧ r.pows = 0 := fun r h => by
    cases r with
    | bin o a b => have h : 1 + max a.deep b.deep ≤ 1 := h; have := a.deep_pos; omega
    | power a n => have h : 1 + a.deep ≤ 1 := h; have := a.deep_pos; omega
    | less a b c d => have h : 1 + max (max a.deep b.deep) (max c.deep d.deep) ≤ 1 := h; have := a.deep_pos; omega
    | is _ _ _ => exact ⟨Nat.le_refl _, rfl⟩
    | nought => exact ⟨Nat.le_refl _, rfl⟩
    | input _ => exact ⟨Nat.le_refl _, rfl⟩
  have two : ∀ r : Rk, r.deep ≤ 2 → (r.pows = 0 → r.bits ≤ 61) ∧ r.bits ≤ 121 := fun r h => by
    cases r with
    | bin o a b =>
      have h : 1 + max a.deep b.deep ≤ 2 := h
      have := leaf a (by omega); have := leaf b (by omega)
      show (_ → a.bits + b.bits + 1 ≤ 61) ∧ a.bits + b.bits + 1 ≤ 121
      omega
    | power a n =>
      have h : 1 + a.deep ≤ 2 := h
      have := leaf a (by omega)
      show (1 + a.pows = 0 → _) ∧ a.bits * 4 + 1 ≤ 121
      omega
    | less a b c d =>
      have h : 1 + max (max a.deep b.deep) (max c.deep d.deep) ≤ 2 := h
      have := leaf a (by omega); have := leaf b (by omega); have := leaf c (by omega); have := leaf d (by omega)
      show (_ → max (max a.bits b.bits) (max c.bits d.bits) ≤ 61) ∧ max (max a.bits b.bits) (max c.bits d.bits) ≤ 121
      omega
    | is _ _ _ => exact ⟨fun _ => by show 30 ≤ 61; decide, by show 30 ≤ 121; decide⟩
    | nought => exact ⟨fun _ => by show 30 ≤ 61; decide, by show 30 ≤ 121; decide⟩
    | input _ => exact ⟨fun _ => by show 30 ≤ 61; decide, by show 30 ≤ 121; decide⟩
  have three : ∀ r : Rk, r.deep ≤ 3 → (r.pows ≤ 1 → r.bits ≤ 245) ∧ (r.pows ≤ 2 → r.bits ≤ 485) := fun r h => by
    cases r with
    | bin o a b =>
      have h : 1 + max a.deep b.deep ≤ 3 := h
      have := two a (by omega); have := two b (by omega)
      show (max a.pows b.pows ≤ 1 → a.bits + b.bits + 1 ≤ 245) ∧ (max a.pows b.pows ≤ 2 → a.bits + b.bits + 1 ≤ 485)
      omega
    | power a n =>
      have h : 1 + a.deep ≤ 3 := h
      have := two a (by omega)
      show (1 + a.pows ≤ 1 → a.bits * 4 + 1 ≤ 245) ∧ (1 + a.pows ≤ 2 → a.bits * 4 + 1 ≤ 485)
      omega
    | less a b c d =>
      have h : 1 + max (max a.deep b.deep) (max c.deep d.deep) ≤ 3 := h
      have := two a (by omega); have := two b (by omega); have := two c (by omega); have := two d (by omega)
      show (max (max a.pows b.pows) (max c.pows d.pows) ≤ 1 → max (max a.bits b.bits) (max c.bits d.bits) ≤ 245) ∧ (max (max a.pows b.pows) (max c.pows d.pows) ≤ 2 → max (max a.bits b.bits) (max c.bits d.bits) ≤ 485)
      omega
    | is _ _ _ => exact ⟨fun _ => by show 30 ≤ 245; decide, fun _ => by show 30 ≤ 485; decide⟩
    | nought => exact ⟨fun _ => by show 30 ≤ 245; decide, fun _ => by show 30 ≤ 485; decide⟩
    | input _ => exact ⟨fun _ => by show 30 ≤ 245; decide, fun _ => by show 30 ≤ 485; decide⟩
  intro r h p
  cases r with
  | bin o a b =>
    have h : 1 + max a.deep b.deep ≤ 4 := h
    have p : max a.pows b.pows ≤ 2 := p
    have := three a (by omega); have := three b (by omega)
    show a.bits + b.bits + 1 ≤ 1000
    omega
  | power a n =>
    have h : 1 + a.deep ≤ 4 := h
    have p : 1 + a.pows ≤ 2 := p
    have := three a (by omega)
    show a.bits * 4 + 1 ≤ 1000
    omega
  | less a b c d =>
    have h : 1 + max (max a.deep b.deep) (max c.deep d.deep) ≤ 4 := h
    have p : max (max a.pows b.pows) (max c.pows d.pows) ≤ 2 := p
    have := three a (by omega); have := three b (by omega); have := three c (by omega); have := three d (by omega)
    show max (max a.bits b.bits) (max c.bits d.bits) ≤ 1000
    omega
  | is _ _ _ => show 30 ≤ 1000; decide
  | nought => show 30 ≤ 1000; decide
  | input _ => show 30 ≤ 1000; decide
end MK
namespace MK
open PySem PySem.Spec PyProof.Rows L2
/-- what a dict gives when made: of its pairs -/
theorem made_in {m r : Ms} (hc : Can r) (he : ∀ j, at0 r j = at0 m j) : ∀ x ∈ r, x ∈ m := fun x hx => by
  have q := (hc.mem x.1 x.2).mp hx
  have q2 : at0 m x.1 = x.2 := by rw [← he]; exact q.2
  have q3 := at0_mem (m := m) (j := x.1) (by rw [q2]; exact q.1)
  rw [q2] at q3
  exact q3
theorem made_few {m r : Ms} (hc : Can r) (he : ∀ j, at0 r j = at0 m j) : r.length ≤ m.length := List.Nodup.length_le_of_subset (nodup_of_map hc.ris.nodup) (made_in hc he)
theorem two_val {a b : V} {i : Int} (h0 : 0 ≤ i) (h1 : i < 2) : ∃ v, atI [a, b] i = some v ∧ (v = a ∨ v = b) := by
  have : i = 0 ∨ i = 1 := by omega
  rcases this with rfl | rfl
  · exact ⟨a, rfl, .inl rfl⟩
  · exact ⟨b, rfl, .inr rfl⟩
theorem abs_natI (i : Int) : (if i < 0 then -i else i) = ((i.natAbs : Nat) : Int) := by
  split <;> omega
/-- an item of a list of texts at a place modulo its length -/
theorem mod_at {ws : List Str} (h0 : ws ≠ []) (x : Int) : ∃ z ∈ ws, atI (ws.map V.str) (x % ((ws.map V.str).length : Int)) = some (.str z) := by
  have hl : (0 : Int) < ((ws.map V.str).length : Int) := by
    rw [List.length_map]
    have := List.length_pos_iff.mpr h0
    omega
  obtain ⟨j, ej⟩ := Int.eq_ofNat_of_zero_le (Int.emod_nonneg x (show ((ws.map V.str).length : Int) ≠ 0 by omega))
  have hj : j < ws.length := by
    have := Int.emod_lt_of_pos x hl
    rw [List.length_map] at this ej
    omega
  refine ⟨ws[j], List.getElem_mem hj, ?_⟩
  rw [ej]
  exact atI_nat (by rw [List.getElem?_map, List.getElem?_eq_getElem hj]; rfl)
/-- a list of names -/
structure NmsAt (H : Hp) (a : Addr) (ws : List Str) : Prop where
  h : H a = some (.lst (ws.map V.str))
  n : ws ≠ []
  l : ws.length ≤ 1000
  z : ∀ z ∈ ws, Nm z
theorem NmsAt.same {H H' : Hp} {a : Addr} {ws : List Str} (s : Same H H') (h : NmsAt H a ws) : NmsAt H' a ws := ⟨s _ _ h.h, h.n, h.l, h.z⟩
/-- a reckoning of these names and letters, d deep at most, with at most p powers within one another -/
structure RkIn (ws bs : List Str) (d p : Nat) (r : Rk) : Prop where
  ok : r.Ok
  deep : r.deep ≤ d
  pows : r.pows ≤ p
  ins : ∀ s ∈ r.ins, s ∈ ws
  lts : ∀ s ∈ r.lts, s ∈ bs
theorem RkIn.mono {ws bs : List Str} {d p d' p' : Nat} {r : Rk} (h : RkIn ws bs d p r) (hd : d ≤ d') (hp : p ≤ p') : RkIn ws bs d' p' r := ⟨h.ok, Nat.le_trans h.deep hd, Nat.le_trans h.pows hp, h.ins, h.lts⟩
theorem RkIn.bin {ws bs : List Str} {d p : Nat} {a b : Rk} (o : Op4) (h : RkIn ws bs d p a) (g : RkIn ws bs d p b) : RkIn ws bs (1 + d) p (.bin o a b) := by
  refine ⟨⟨h.ok, g.ok⟩, ?_, ?_, fun s hs => ?_, fun s hs => ?_⟩
  · have := h.deep; have := g.deep
    show 1 + max a.deep b.deep ≤ _
    omega
  · have := h.pows; have := g.pows
    show max a.pows b.pows ≤ _
    omega
  · rcases List.mem_append.mp hs with z | z
    · exact h.ins s z
    · exact g.ins s z
  · rcases List.mem_append.mp hs with z | z
    · exact h.lts s z
    · exact g.lts s z
theorem RkIn.power {ws bs : List Str} {d p : Nat} {a : Rk} {n : Int} (h : RkIn ws bs d p a) (h1 : -4 ≤ n) (h2 : n ≤ 4) : RkIn ws bs (1 + d) (1 + p) (.power a n) := by
  refine ⟨⟨h.ok, h1, h2⟩, ?_, ?_, h.ins, h.lts⟩
  · have := h.deep
    show 1 + a.deep ≤ _
    omega
  · have := h.pows
    show 1 + a.pows ≤ _
    omega
theorem RkIn.less {ws bs : List Str} {d p : Nat} {a b c e : Rk} (h : RkIn ws bs d p a) (g : RkIn ws bs d p b) (i : RkIn ws bs d p c) (j : RkIn ws bs d p e) : RkIn ws bs (1 + d) p (.less a b c e) := by
  have ap : ∀ {s : Str} {k l m n : List Str}, s ∈ k ++ l ++ m ++ n → s ∈ k ∨ s ∈ l ∨ s ∈ m ∨ s ∈ n := fun hs => by
    simp only [List.mem_append] at hs
    rcases hs with ((h1 | h1) | h1) | h1
    · exact .inl h1
    · exact .inr (.inl h1)
    · exact .inr (.inr (.inl h1))
    · exact .inr (.inr (.inr h1))
  refine ⟨⟨h.ok, g.ok, i.ok, j.ok⟩, ?_, ?_, fun s hs => ?_, fun s hs => ?_⟩
  · have := h.deep; have := g.deep; have := i.deep; have := j.deep
    show 1 + max (max a.deep b.deep) (max c.deep e.deep) ≤ _
    omega
  · have := h.pows; have := g.pows; have := i.pows; have := j.pows
    show max (max a.pows b.pows) (max c.pows e.pows) ≤ _
    omega
  · rcases ap hs with z | z | z | z
    · exact h.ins s z
    · exact g.ins s z
    · exact i.ins s z
    · exact j.ins s z
  · rcases ap hs with z | z | z | z
    · exact h.lts s z
    · exact g.lts s z
    · exact i.lts s z
    · exact j.lts s z
theorem RkIn.nought {ws bs : List Str} {d p : Nat} (hd : 1 ≤ d) : RkIn ws bs d p .nought := ⟨trivial, hd, Nat.zero_le _, fun s hs => absurd hs (by show s ∉ []; simp), fun s hs => absurd hs (by show s ∉ []; simp)⟩
theorem RkIn.input {ws bs : List Str} {d p : Nat} {z : Str} (hd : 1 ≤ d) (hz : z ∈ ws) (n : Nm z) : RkIn ws bs d p (.input z) := ⟨n, hd, Nat.zero_le _, fun s hs => by
  have : s = z := List.mem_singleton.mp hs
  rw [this]
  exact hz, fun s hs => absurd hs (by show s ∉ []; simp)⟩
theorem RkIn.is {ws bs : List Str} {d p : Nat} {x y : Int} {m : Ms} (hd : 1 ≤ d) (r : Red x y) (h1 : x.natAbs ≤ 10 ^ 9) (h2 : y ≤ 10 ^ 9) (c : Can m) (l : m.length ≤ 6) (hb : ∀ z ∈ bs, Nm z) (hm : ∀ q ∈ m, q.1 ∈ bs ∧ q.2.natAbs ≤ 20) : RkIn ws bs d p (.is x y m) :=
  ⟨⟨r, h1, h2, c, l, fun q hq => hb _ (hm q hq).1, fun q hq => (hm q hq).2⟩, hd, Nat.zero_le _, fun s hs => absurd hs (by show s ∉ []; simp), fun s hs => by
    obtain ⟨q, hq, e⟩ := List.mem_map.mp hs
    rw [← e]
    exact (hm q hq).1⟩
/-- a def that is never called so -/
def spNo : Sp := fun _ _ _ _ => False
theorem fn_no {P : Program} {w : World} {K : PySem.W.Frag} {mg : Str → Option Value} {base : Heap} {CX : CXT} {k : Nat} {f : Addr} {fd : FuncData} {ps : List Str} : FnOk P w K mg base CX k f fd ps spNo :=
  ⟨fun _ _ _ _ h => h.elim, fun _ _ _ _ _ _ _ _ _ _ _ _ _ h => h.elim⟩
theorem four_op {i : Int} (h0 : 0 ≤ i) (h1 : i < 4) : ∃ o : Op4, atI [V.str "plus", V.str "minus", V.str "times", V.str "over"] i = some (.str o.name) := by
  have : i = 0 ∨ i = 1 ∨ i = 2 ∨ i = 3 := by omega
  rcases this with rfl | rfl | rfl | rfl
  · exact ⟨.plus, rfl⟩
  · exact ⟨.minus, rfl⟩
  · exact ⟨.times, rfl⟩
  · exact ⟨.over, rfl⟩
/-! ### the parts; values by name -/
def Rk.parts : Rk → List Rk
  | .bin _ a b => [a, b]
  | .power a _ => [a]
  | .less a b c d => [a, b, c, d]
  | _ => []
abbrev FrR (H : Hp) (x : Str × Addr) (y : Str × (Int × Int)) : Prop := x.1 = y.1 ∧ FracAt H x.2 y.2.1 y.2.2
/-- a dict of names with fractions -/
def VlAt (H : Hp) (d : Addr) (ads : List (Str × Addr)) (vl : List (Str × (Int × Int))) : Prop := H d = some (.dK (encG V.ref ads)) ∧ Paired (FrR H) ads vl
theorem frs_same {H H' : Hp} {ads : List (Str × Addr)} {vl : List (Str × (Int × Int))} (s : Same H H') (p : Paired (FrR H) ads vl) : Paired (FrR H') ads vl := Paired.mono (fun x y z => ⟨z.1, s _ _ z.2⟩) p
theorem VlAt.same {H H' : Hp} {d : Addr} {ads : List (Str × Addr)} {vl : List (Str × (Int × Int))} (s : Same H H') (h : VlAt H d ads vl) : VlAt H' d ads vl := ⟨s _ _ h.1, frs_same s h.2⟩
theorem frs_lk {H : Hp} {ads : List (Str × Addr)} {vl : List (Str × (Int × Int))} (p : Paired (FrR H) ads vl) (l : Str) : (lk ads l = none ∧ lk vl l = none) ∨ ∃ b u, lk ads l = some b ∧ lk vl l = some u ∧ FracAt H b u.1 u.2 := by
  induction p with
  | nil => exact .inl ⟨rfl, rfl⟩
  | @cons x y xs ys h _ ih =>
    obtain ⟨h1, h2⟩ := h
    by_cases e : x.1 = l
    · exact .inr ⟨x.2, y.2, if_pos e, if_pos (h1 ▸ e), h2⟩
    · have e' : ¬ y.1 = l := fun z => e (h1.trans z)
      rw [show lk (x :: xs) l = lk xs l from if_neg e, show lk (y :: ys) l = lk ys l from if_neg e']
      exact ih
theorem frs_put {H : Hp} {l : Str} {b : Addr} {u : Int × Int} (h : FracAt H b u.1 u.2) {ads : List (Str × Addr)} {vl : List (Str × (Int × Int))} (p : Paired (FrR H) ads vl) : Paired (FrR H) (put ads l b) (put vl l u) := by
  induction p with
  | nil => exact .cons ⟨rfl, h⟩ .nil
  | @cons x y xs ys q r ih =>
    obtain ⟨q1, q2⟩ := q
    by_cases e : x.1 = l
    · have e' : y.1 = l := q1 ▸ e
      rw [show put (x :: xs) l b = (x.1, b) :: xs from if_pos e, show put (y :: ys) l u = (y.1, u) :: ys from if_pos e']
      exact .cons ⟨q1, h⟩ r
    · have e' : ¬ y.1 = l := fun z => e (q1.trans z)
      rw [show put (x :: xs) l b = x :: put xs l b from if_neg e, show put (y :: ys) l u = y :: put ys l u from if_neg e']
      exact .cons ⟨q1, q2⟩ ih
theorem vl_get {H : Hp} {d : Addr} {ads : List (Str × Addr)} {vl : List (Str × (Int × Int))} (h : VlAt H d ads vl) {l : Str} (n : lk vl l ≠ none) : ∃ b u, lk vl l = some u ∧ DGet H d (.str l) (some (.ref b)) ∧ FracAt H b u.1 u.2 := by
  rcases frs_lk h.2 l with ⟨_, a2⟩ | ⟨b, u, a1, a2, a3⟩
  · exact absurd a2 n
  · refine ⟨b, u, a2, ?_, a3⟩
    have := DGet.k (k := Sum.inr l) h.1
    rw [encG_val, a1] at this
    exact this
/-- None, or a fraction that lies there -/
def Told (H : Hp) (o : Option (Int × Int)) (v : V) : Prop := match o with
  | none => v = .non
  | some u => ∃ p, v = .ref p ∧ FracAt H p u.1 u.2
theorem Told.same {H H' : Hp} {o : Option (Int × Int)} {v : V} (s : Same H H') (h : Told H o v) : Told H' o v := by
  cases o with
  | none => exact h
  | some u =>
    obtain ⟨p, e, q⟩ := h
    exact ⟨p, e, s _ _ q⟩
theorem parts_deep : ∀ {r x : Rk}, x ∈ r.parts → x.deep + 1 ≤ r.deep
  | .bin _ a b, x, h => by
    show x.deep + 1 ≤ 1 + max a.deep b.deep
    rcases List.mem_cons.mp h with e | h
    · rw [e]; omega
    · rw [List.mem_singleton.mp h]; omega
  | .power a _, x, h => by
    show x.deep + 1 ≤ 1 + a.deep
    rw [List.mem_singleton.mp h]; omega
  | .less a b c d, x, h => by
    show x.deep + 1 ≤ 1 + max (max a.deep b.deep) (max c.deep d.deep)
    rcases List.mem_cons.mp h with e | h
    · rw [e]; omega
    · rcases List.mem_cons.mp h with e | h
      · rw [e]; omega
      · rcases List.mem_cons.mp h with e | h
        · rw [e]; omega
        · rw [List.mem_singleton.mp h]; omega
theorem ins_parts : ∀ {r : Rk}, (∀ z, r ≠ .input z) → r.ins = r.parts.flatMap Rk.ins
  | .is _ _ _, _ => rfl
  | .nought, _ => rfl
  | .input z, h => absurd rfl (h z)
  | .bin _ a b, _ => by
    show a.ins ++ b.ins = a.ins ++ (b.ins ++ [])
    rw [List.append_nil]
  | .power a _, _ => by
    show a.ins = a.ins ++ []
    rw [List.append_nil]
  | .less a b c d, _ => by
    show a.ins ++ b.ins ++ c.ins ++ d.ins = a.ins ++ (b.ins ++ (c.ins ++ (d.ins ++ [])))
    rw [List.append_nil, List.append_assoc, List.append_assoc]
theorem flat_more {α β : Type} {f : α → List β} {l : List α} {i : Nat} {x : α} (h : l[i]? = some x) : (l.take (i + 1)).flatMap f = (l.take i).flatMap f ++ f x := by
  rw [take_more h, List.flatMap_append]
  show _ ++ (f x ++ []) = _
  rw [List.append_nil]
theorem flat_le {α β : Type} {f : α → List β} (l : List α) (i : Nat) : ((l.take i).flatMap f).length ≤ (l.flatMap f).length := by
  conv => rhs; rw [← List.take_append_drop i l, List.flatMap_append, List.length_append]
  exact Nat.le_add_right _ _
/-- different ones, rising or alike: rising -/
theorem ris_of {ks : List Str} (hs : ks.Pairwise fun a b => ¬ sLt b a) (hn : ks.Nodup) : ks.Pairwise sLt := by
  refine (hs.and hn).imp ?_
  rintro a b ⟨h1, h2⟩
  exact Decidable.byContradiction fun h3 => h2 (sLt_tri h3 h1)
/-- the names of ins, rising, each once -/
structure Names (ins ys : List Str) : Prop where
  ris : ys.Pairwise sLt
  mem : ∀ z, z ∈ ys ↔ z ∈ ins
theorem Names.nodup {ins ys : List Str} (h : Names ins ys) : ys.Nodup := h.ris.imp fun q e => by
  rw [e] at q
  exact sLt_irr _ q
theorem Names.few {ins ys : List Str} (h : Names ins ys) : ys.length ≤ ins.length := List.Nodup.length_le_of_subset h.nodup fun z hz => (h.mem z).mp hz
/-! ### a name taken out -/
def drp {α : Type} (m : List (Str × α)) (l : Str) : List (Str × α) := m.filter fun p => decide (p.1 ≠ l)
theorem drp_enc {α : Type} (g : α → V) (l : Str) : ∀ m : List (Str × α), (encG g m).filter (fun kv => decide (kv.1 ≠ (Sum.inr l : L2.Key))) = encG g (drp m l)
  | [] => rfl
  | p :: r => by
    have ih := drp_enc g l r
    unfold encG drp at *
    by_cases e : p.1 = l
    · have e2 : ¬ (Sum.inr p.1 : L2.Key) ≠ Sum.inr l := fun z => z (by rw [e])
      rw [List.map_cons, List.filter_cons, List.filter_cons, if_neg (by simpa using e2), if_neg (by simpa using e)]
      exact ih
    · have e2 : (Sum.inr p.1 : L2.Key) ≠ Sum.inr l := fun z => e (Sum.inr.inj z)
      rw [List.map_cons, List.filter_cons, List.filter_cons, if_pos (by simpa using e2), if_pos (by simpa using e), List.map_cons]
      rw [ih]
theorem drp_nodup {α : Type} {m : List (Str × α)} {l : Str} (h : (m.map (·.1)).Nodup) : ((drp m l).map (·.1)).Nodup := by
  unfold drp
  exact List.Nodup.sublist (List.Sublist.map _ List.filter_sublist) h
theorem drp_mem {α : Type} {m : List (Str × α)} {l : Str} {p : Str × α} (h : p ∈ drp m l) : p ∈ m := (List.mem_filter.mp h).1
theorem frs_drp {H : Hp} {l : Str} {ads : List (Str × Addr)} {vl : List (Str × (Int × Int))} (p : Paired (FrR H) ads vl) : Paired (FrR H) (drp ads l) (drp vl l) := by
  induction p with
  | nil => exact .nil
  | @cons x y xs ys h _ ih =>
    have e1 := h.1
    unfold drp at *
    by_cases e : x.1 = l
    · rw [List.filter_cons, List.filter_cons, if_neg (by simpa using e), if_neg (by rw [e1] at e; simpa using e)]
      exact ih
    · rw [List.filter_cons, List.filter_cons, if_pos (by simpa using e), if_pos (by rw [e1] at e; simpa using e)]
      exact .cons h ih
theorem frs_dict {H : Hp} {D : Addr} {kvs : List (L2.Key × V)} {o : HO} {ads : List (Str × Addr)} {vl : List (Str × (Int × Int))} (h : H D = some (.dK kvs)) (p : Paired (FrR H) ads vl) : Paired (FrR (L2.upd H D o)) ads vl := Paired.mono (fun x y z => by
  refine ⟨z.1, ?_⟩
  show L2.upd H D o x.2 = _
  rw [upd_ne (ne_of z.2 h (fun e => nomatch e))]
  exact z.2) p
theorem frs_keys {H : Hp} {ads : List (Str × Addr)} {vl : List (Str × (Int × Int))} (p : Paired (FrR H) ads vl) : ads.map (·.1) = vl.map (·.1) := by
  induction p with
  | nil => rfl
  | cons h _ ih => rw [List.map_cons, List.map_cons, h.1, ih]
/-- a dict of names with fractions, as the law has it -/
structure VlOk (H : Hp) (d : Addr) (ads : List (Str × Addr)) (vl : List (Str × (Int × Int))) : Prop where
  v : VlAt H d ads vl
  nd : (vl.map (·.1)).Nodup
  sm : ∀ p ∈ vl, FrSm 30 p.2
  few : vl.length ≤ 4
theorem VlOk.lk {H : Hp} {d : Addr} {ads : List (Str × Addr)} {vl : List (Str × (Int × Int))} (h : VlOk H d ads vl) : ∀ s u, lk vl s = some u → FrSm 30 u := fun s u e => h.sm _ (mem_of_lk e)
theorem VlOk.len {H : Hp} {d : Addr} {ads : List (Str × Addr)} {vl : List (Str × (Int × Int))} (h : VlOk H d ads vl) : ads.length = vl.length := by
  have := congrArg List.length (frs_keys h.v.2)
  rw [List.length_map, List.length_map] at this
  exact this
theorem VlOk.same {H H' : Hp} {d : Addr} {ads : List (Str × Addr)} {vl : List (Str × (Int × Int))} (s : Same H H') (h : VlOk H d ads vl) : VlOk H' d ads vl := ⟨h.v.same s, h.nd, h.sm, h.few⟩
/-- at each key its own value -/
theorem VlOk.hits {H : Hp} {d : Addr} {ads : List (Str × Addr)} {vl : List (Str × (Int × Int))} (h : VlOk H d ads vl) : ∀ p ∈ encG V.ref ads, ∃ c, p.2 = .ref c ∧ valV (encG V.ref ads) p.1 = some (.ref c) := fun p hp => by
  obtain ⟨x, hx, rfl⟩ := List.mem_map.mp hp
  refine ⟨x.2, rfl, ?_⟩
  show valV (encG V.ref ads) (Sum.inr x.1) = _
  rw [encG_val, lk_of_mem (l := x.1) (v := x.2) (by rw [frs_keys h.v.2]; exact h.nd) hx]
  rfl
/-! ### dict of a measure -/
theorem put_new {α : Type} : ∀ {m : List (Str × α)} {l : Str} {v : α}, l ∉ m.map (·.1) → put m l v = m ++ [(l, v)]
  | [], _, _, _ => rfl
  | p :: r, l, v, h => by
    have e : ¬ p.1 = l := fun z => h (by rw [List.map_cons, z]; exact List.mem_cons_self)
    rw [show put (p :: r) l v = p :: put r l v from if_neg e, put_new (m := r) fun z => h (by rw [List.map_cons]; exact List.mem_cons_of_mem _ z)]
    rfl
theorem merge_enc {α : Type} (g : α → V) : ∀ (b a : List (Str × α)), ((a ++ b).map (·.1)).Nodup → mergeK (encG g a) (encG g b) = encG g (a ++ b)
  | [], a, _ => by
    rw [List.append_nil]
    rfl
  | p :: r, a, h => by
    have e : a ++ p :: r = (a ++ [p]) ++ r := by rw [List.append_assoc]; rfl
    have nd : (a.map (·.1)).Nodup := by
      rw [List.map_append] at h
      exact (List.nodup_append.mp h).1
    have np : p.1 ∉ a.map (·.1) := fun z => by
      rw [List.map_append] at h
      exact (List.nodup_append.mp h).2.2 _ z _ (by rw [List.map_cons]; exact List.mem_cons_self) rfl
    have ih := merge_enc g r (a ++ [p]) (by rw [← e]; exact h)
    rw [e, ← ih]
    show mergeK (putK (encG g a) (Sum.inr p.1 : L2.Key) (g p.2)) (encG g r) = _
    rw [encG_put g p.1 p.2 a nd, put_new np]
/-- the pairs of a measure, as dict() reads them -/
theorem ms_pairs {K : PySem.W.Frag} {H : Hp} : ∀ {ts : List Addr} {m : Ms}, Paired (PrAt H) ts m → Paired (fun p kv => SqT K H p [kV kv.1, kv.2]) ts (enc m)
  | _, _, .nil => .nil
  | _, _, .cons h t => .cons (SqT.of h) (ms_pairs t)
end MK


set_option Elab.async false
set_option linter.all false
set_option maxRecDepth 100000
set_option maxHeartbeats 4000000
/-! sorted(set(xs)), xs a list of texts. -/
namespace MKS
open PySem PySem.Spec PyProof.Rows PySem.Froz
variable {P : Program} {w : World} {A : Around} {E : Value → Shared → Prop} {s : Shared}
/-- the texts l lie in the set at a, in an order that can be walked -/
def TxAt (P : Program) (w : World) (h : Heap) (a : Addr) (l : List Str) : Prop :=
  ∃ D : SD, h.get? a = some (sObj "set" D) ∧ TxOk P w D l ∧ l.Nodup ∧ L2.Ris D.2.2.place.toList ∧ (w.params.followText "set-order" = true ∨ D.2.2.led = true)
theorem TxAt.keep {h h' : Heap} {a : Addr} {l : List Str} (x : TxAt P w h a l) (k : ∀ o, h.get? a = some o → h'.get? a = some o) : TxAt P w h' a l := by
  obtain ⟨D, h1, r⟩ := x
  exact ⟨D, k _ h1, r⟩
theorem tail_ris {ep : Nat} {es1 : Array (Int × Value)} {t2 : SetTable} {b : Bool} (r : L2.Ris t2.place.toList) : L2.Ris (tailTx ep es1 t2 b).2.2.place.toList ∧ (tailTx ep es1 t2 b).2.2.led = t2.led := by
  unfold tailTx
  split
  · exact ⟨L2.relayAll_ris _ _ _, L2.relayAll_led _ _ _⟩
  · exact ⟨r, rfl⟩
theorem add_ris {D : SD} {h : Int} {v : Value} (r : L2.Ris D.2.2.place.toList) : L2.Ris (addTx h v D).2.2.place.toList ∧ (addTx h v D).2.2.led = D.2.2.led := by
  unfold addTx
  have h1 := L2.layNew_ris D.2.2 D.1 h v r
  have h2 := L2.layNew_led D.2.2 D.1 h v
  by_cases c : (layNew D.2.2 D.1 h v).2.1.plain = true
  · rw [if_pos c]
    obtain ⟨q1, q2⟩ := tail_ris (ep := D.2.1) (es1 := (layNew D.2.2 D.1 h v).1) (b := (layNew D.2.2 D.1 h v).2.2.1) (t2 := { (layNew D.2.2 D.1 h v).2.1 with plain := false }) h1
    exact ⟨q1, q2.trans h2⟩
  · rw [if_neg c]
    obtain ⟨q1, q2⟩ := tail_ris (ep := D.2.1) (es1 := (layNew D.2.2 D.1 h v).1) (b := (layNew D.2.2 D.1 h v).2.2.1) h1
    exact ⟨q1, q2.trans h2⟩
/-- a text that is there already -/
theorem add_old {a : Addr} {D : SD} {l : List Str} {k : Str} {u : Tok} {Q : Bool → Shared → Prop} (ho : s.heap.get? a = some (sObj "set" D)) (F : TxOk P w D l) (hk : k ∈ l) (hb : l.length < scanBound) (q : Q false s) :
    wpAny (model P w) A (setAddHashed a (.str k u) (hashStr w k)) Q E s := by
  obtain ⟨es, ep, t⟩ := D
  have dd : (sObj "set" (es, ep, t)).data = .set es ep t := rfl
  have ff : t.fits es.size = true := F.fit
  have ee : ElemsOf (strKind P w) es.toList := F.el
  have zz : es.size = l.length := F.sz
  obtain ⟨e, he, hz⟩ := (F.mem k).mp hk
  cases hr : List.findIdx? (fun e => (strKind P w).is k e.2) es.toList with
  | none =>
    have := List.findIdx?_eq_none_iff.mp hr e he
    rw [hz] at this
    cases this
  | some j =>
    unfold setAddHashed setAddHashedIn
    refine wpAny_holding (wpAny_bind (wpAny_setState_of ho dd ff ?_))
    dsimp only
    rw [byScan_of rfl (show es.size < scanBound by omega) ee, if_pos rfl]
    unfold setAddByScan
    refine wpAny_bind (wpAny_bind (wpAny_rule (wpAny_bind (wpAny_setScan_of (knd := strKind P w) (k := k) (is_str k u) ho dd ff ee ?_))))
    rw [hr]
    exact wpAny_pure (wpAny_pure q)
/-- setAdd of a text -/
theorem add_any {a : Addr} {l : List Str} {k : Str} {u : Tok} {Q : Bool → Shared → Prop} (T : TxAt P w s.heap a l) (hb : l.length + 1 < scanBound)
    (q : ∀ b h' l', (∀ c, c ≠ a → h'.get? c = s.heap.get? c) → TxAt P w h' a l' → (∀ z, z ∈ l' ↔ z = k ∨ z ∈ l) → l'.length ≤ l.length + 1 → Q b { s with heap := h' }) :
    wpAny (model P w) A (setAddHashed a (.str k u) (hashStr w k)) Q E s := by
  obtain ⟨D, h1, F, nd, r, ld⟩ := T
  by_cases hk : k ∈ l
  · refine add_old h1 F hk (by omega) ?_
    exact q false s.heap l (fun _ _ => rfl) ⟨D, h1, F, nd, r, ld⟩ (fun z => ⟨.inr, fun y => y.elim (fun e => by rw [e]; exact hk) id⟩) (Nat.le_succ _)
  · refine add_x h1 F hk hb ?_
    obtain ⟨r1, r2⟩ := add_ris (h := hashStr w k) (v := .str k u) r
    refine q true _ (k :: l) (fun c hc => Heap.get?_update_other _ _ (Ne.symm hc)) ⟨_, get_upd _ h1 rfl, add_ok u F, List.nodup_cons.mpr ⟨hk, nd⟩, r1, ld.imp id fun z => by rw [r2]; exact z⟩ (fun z => List.mem_cons) (Nat.le_refl _)
/-- what the loop has made of the first i texts -/
def Mid (P : Program) (w : World) (S : Addr) (xs : List Str) (i : Nat) (h : Heap) : Prop := ∃ l, TxAt P w h S l ∧ (∀ z, z ∈ l ↔ z ∈ xs.take i) ∧ l.length ≤ i
/-- the loop of set.update over a list of texts -/
theorem loop_txt {I : Addr} {fp wr : List Addr} {G : Array GenState → Array GenState → Prop} {n : Nat} {Pv : Nat → Value → Prop} {St : Nat → Shared → Prop} {R : Result → Shared → Prop} (W : WalksS P w A.in1 I fp wr G n Pv St) (S : Addr) (sf : S ∉ fp)
    (xs : List Str) (hn : n = xs.length) (hb : n + 1 < scanBound) (hv : ∀ i v, Pv i v → ∃ x t, xs[i]? = some x ∧ v = .str x t) : ∀ (m i : Nat) (s : Shared), n - i = m → i ≤ n → St i s → Mid P w S xs i s.heap →
      (∀ s', Moved (S :: wr) G s s' → Mid P w S xs n s'.heap → R (.ok (.ret .none)) s') → codeAny (model P w) A (.builtin "set.update.loop" ⟨[.ref S, .ref I], []⟩) R s := by
  have sw : S ∉ wr := fun z => sf (W.sub _ z)
  have up : ∀ b ∈ wr, b ∈ S :: wr := fun b z => .tail _ z
  have keep : ∀ {u v : Shared} {i : Nat}, Moved wr G u v → Mid P w S xs i u.heap → Mid P w S xs i v.heap := fun mv ⟨l, t, e, z⟩ => ⟨l, t.keep fun o q => mv.heap S o sw q, e, z⟩
  intro m
  induction m with
  | zero =>
    intro i s e1 e2 st md fin
    obtain rfl : i = n := by omega
    refine codeAny_builtin F.entry_set_update_loop ?_
    rw [Around.under_plainId F.plain_set_update_loop _]
    exact wpAny_bind (m := pyNext (.ref I)) (W.done s _ _ st fun u mv => wpAny_pure (fin u (mv.mono up) (keep mv md)))
  | succ m ih =>
    intro i s e1 e2 st md fin
    refine codeAny_builtin F.entry_set_update_loop ?_
    rw [Around.under_plainId F.plain_set_update_loop _]
    refine wpAny_bind (m := pyNext (.ref I)) (W.item i s _ _ (by omega) st fun v u pv st1 mv => ?_)
    obtain ⟨x, t, hx, rfl⟩ := hv i v pv
    obtain ⟨l, tx, mem, len⟩ := keep mv md
    refine wpAny_bind (m := holding [Value.str x t] (setAdd S (.str x t))) (wpAny_holding ?_)
    unfold setAdd
    refine wpAny_holding (wpAny_bind ((strKind P w).pyHash (k := x) (is_str x t) ?_))
    refine add_any (s := { u with toks := u.toks + 1 }) tx (by omega) fun b h' l' oth tx' mem' len' => ?_
    refine wpAny_pure ⟨plainId_quiet F.plain_set_update_loop _, ih (i + 1) _ (by omega) (by omega) (W.frame _ u _ _ st1 (Nat.le_succ _) fun c hc o q => ?_) ⟨l', tx', fun z => ?_, by omega⟩ fun r mv2 md2 => ?_⟩
    · rw [oth c fun z => sf (z ▸ hc)]
      exact q
    · rw [mem' z, mem z, MK.take_more hx, List.mem_append, List.mem_singleton]
      exact Or.comm
    · refine fin r (Moved.trans W.gtrans ((mv.mono up).then_heap (Nat.le_succ _) fun c o hc q => ?_) mv2) md2
      rw [oth c fun z => hc (z ▸ .head _)]
      exact q
/-- a new set, empty -/
abbrev newO (w : World) : Obj := { cls := .type "set", dict := none, data := .set #[] 0 (.fresh 0 0 (!w.params.followText "set-order")) }
theorem new_tx {h : Heap} {a : Addr} (e : h.get? a = some (newO w)) : TxAt P w h a [] :=
  ⟨(#[], 0, .fresh 0 0 (!w.params.followText "set-order")), e, TxOk.nil rfl, List.nodup_nil, List.Pairwise.nil, by
    cases c : w.params.followText "set-order"
    · exact .inr rfl
    · exact .inl rfl⟩
theorem txt_item {us : List Value} {xs : List Str} (h : StrsAre us xs) : ∀ {i : Nat} {v : Value}, us[i]? = some v → ∃ x t, xs[i]? = some x ∧ v = .str x t := by
  induction h with
  | nil => exact fun q => by simp at q
  | cons n t _ ih =>
    intro i v q
    cases i with
    | zero => exact ⟨n, t, rfl, (Option.some.inj q).symm⟩
    | succ i => exact ih (by simpa using q)
set_option maxHeartbeats 8000000 in
/-- set(xs), xs a list of texts -/
theorem set_of {l : Addr} {items : Array Value} {xs : List Str} {Q : Value → Shared → Prop} (hh : A.handled = none) (hl : s.heap.IsList l items) (hx : StrsAre items.toList xs) (hb : xs.length + 1 < scanBound)
    (q : ∀ (h' : Heap) (tk : Nat) (ys : List Str), TxAt P w h' s.heap.objs.size ys → (∀ z, z ∈ ys ↔ z ∈ xs) → ys.length ≤ xs.length → (∀ b o, s.heap.get? b = some o → h'.get? b = some o) → Q (.ref s.heap.objs.size) { s with heap := h', toks := tk }) :
    wpAny (model P w) A (call (.type "set") [.ref l]) Q E s := by
  have hn : items.size = xs.length := by rw [← StrsAre.len_eq hx, Array.length_toList]
  obtain ⟨c, tl, hmro⟩ := F.called_set.mro
  have h1 := F.called_set.notType
  have h2 := F.called_set.canCreate
  have h3 := F.called_set.made
  have h4 := F.called_set.sub
  have h5 := F.typeCall_set_1 (.ref l)
  refine wpAny_call (codeAny_of_tree (wpAny_pure ⟨Code.quiet_builtin _ (by decide +kernel), codeAny_builtin F.entry_type_call ?_⟩))
  rw [Around.under_plain (weight_type_call_type "set" [.ref l] []) rfl]
  repeat (any_goals (first | assumption | wp_step))
  refine codeAny_mono (L2.code_set_led1 (.ref l) (E := E) (Q₁ := fun v u => v = .ref s.heap.objs.size ∧ u = { s with heap := s.heap.push (newO w) }) ⟨rfl, rfl⟩) fun r u hr => ?_
  cases r with
  | error e => exact hr
  | ok fl =>
    cases fl with
    | ret v =>
      obtain ⟨rfl, rfl⟩ := hr
      have hS : (s.heap.push (newO w)).get? s.heap.objs.size = some (newO w) := Heap.get?_push_size _ rfl
      have hT : Shared.TypeIs { s with heap := s.heap.push (newO w) } (.ref s.heap.objs.size) "set" := ⟨_, hS, rfl⟩
      have h6 := F.called_set.init.lookup
      have h7 := F.called_set.init.bind (.ref s.heap.objs.size)
      repeat (any_goals (first | assumption | wp_step))
      refine codeAny_mono (codeAny_call_builtin (R := wants (fun v u => v = .none ∧ ∃ h' tk, u = { s with heap := h', toks := tk } ∧ Mid P w s.heap.objs.size xs xs.length h' ∧ (∀ b o, s.heap.get? b = some o → h'.get? b = some o)) E) F.called_set.init.plain F.entry_set_init (check_set_init_1 hT ?_)) fun r u hr => ?_
      · obtain ⟨⟨oc, od, oda, os⟩, e1, e2, nl, e3⟩ := hl
        dsimp only at e2 e3
        subst e2 e3
        have g1 : (s.heap.push (newO w)).get? l = some ⟨.type "list", od, .seq items nl, os⟩ := Heap.get?_push_of_some _ e1
        have g2 : (s.heap.push (newO w)).IsList l items := ⟨_, g1, rfl, nl, rfl⟩
        have g3 := F.sub_list_set
        have g4 := F.sub_list_frozenset
        have g5 : (Value.type "list" == Value.type "dict") = false := by decide
        unfold Builtin.«set.__init__» noKeywords Builtin.Frozenset.updateFrom
        generalize hPI : pyIter = PI
        wp_walk
        subst hPI
        have lt : l < s.heap.objs.size := Heap.lt_size e1
        have sz : (s.heap.push (newO w)).objs.size = s.heap.objs.size + 1 := Heap.size_push ..
        have ne : l ≠ (s.heap.push (newO w)).objs.size := by
          rw [sz]
          exact Nat.ne_of_lt (Nat.lt_succ_of_lt lt)
        refine wpAny_pyIter_list g2 (wpAny_bind (wpAny_runValue ?_))
        refine loop_txt (A := A.in1.in1) ((Walks.list (show A.in1.in1.in1.handled = none by simp [hh]) _ l ne items).toS) s.heap.objs.size (fun z => ?_) xs hn (by omega) (fun i v z => txt_item hx (by rw [Array.getElem?_toList]; exact z)) (items.size - 0) 0 _ rfl (Nat.zero_le _) ⟨⟨_, Heap.get?_push_size _ rfl, rfl, rfl⟩, g2.push _⟩
          ⟨[], new_tx (Heap.get?_push_of_some _ hS), fun z => by simp, Nat.le_refl _⟩ fun u mv md => ?_
        · rcases List.mem_cons.mp z with z | z
          · rw [sz] at z
            exact absurd z (Nat.ne_of_lt (Nat.lt_succ_self _))
          · exact absurd lt (by rw [← List.mem_singleton.mp z]; exact Nat.lt_irrefl _)
        · obtain ⟨h', g', d', tk', os'⟩ := u
          obtain rfl : g' = s.gens := mv.gens
          obtain rfl : d' = s.drawn := mv.drawn
          obtain rfl : os' = s.os := mv.os
          rw [hn] at md
          refine wpAny_pure (wpAny_pure ⟨rfl, h', tk', rfl, md, fun b o z => mv.heap b o (fun y => ?_) (Heap.get?_push_of_some _ (Heap.get?_push_of_some _ z))⟩)
          have := Heap.lt_size z
          rcases List.mem_cons.mp y with y | y
          · exact absurd this (by rw [y]; exact Nat.lt_irrefl _)
          · rw [List.mem_singleton.mp y, sz] at this
            exact absurd this (Nat.not_lt_of_le (Nat.le_succ _))
      · cases r with
        | error e => exact hr
        | ok fl =>
          cases fl with
          | ret v =>
            obtain ⟨rfl, h', tk, rfl, ⟨ys, t, mem, len⟩, kp⟩ := hr
            repeat (any_goals (first | assumption | wp_step))
            exact q h' tk ys t (fun z => by rw [mem z, List.take_length]) len kp
          | _ => exact hr.elim
    | _ => exact hr.elim
/-- as many different ones as the other list has items: the same items -/
theorem perm_few : ∀ {l m : List Str}, l.Nodup → (∀ x ∈ l, x ∈ m) → m.length ≤ l.length → l.Perm m
  | [], m, _, _, h => by
    have : m = [] := List.length_eq_zero_iff.mp (by simpa using h)
    rw [this]
  | x :: r, m, nd, sub, h => by
    obtain ⟨n1, n2⟩ := List.nodup_cons.mp nd
    have hx := sub x (.head _)
    have e := List.length_erase_of_mem hx
    have h' : m.length ≤ r.length + 1 := h
    have p := perm_few (m := m.erase x) n2 (fun y hy => (List.mem_erase_of_ne fun z : y = x => n1 (by rw [← z]; exact hy)).mpr (sub y (.tail _ hy))) (by omega)
    exact (p.cons x).trans (List.perm_cons_erase hx).symm
def keyS (v : Value) : Str := match v with | .str x _ => x | _ => Str.empty
theorem strs_all : ∀ vs : List Value, (∀ v ∈ vs, ∃ x t, v = Value.str x t) → StrsAre vs (vs.map keyS)
  | [], _ => .nil
  | v :: r, h => by
    obtain ⟨x, t, rfl⟩ := h v (.head _)
    exact .cons x t (strs_all r fun u hu => h u (.tail _ hu))
/-- sorted(set) of texts -/
theorem sorted_txt {a : Addr} {l : List Str} {Q : Value → Shared → Prop} (T : TxAt P w s.heap a l) (hh : A.handled = none) (hb : l.length < scanBound)
    (q : ∀ s' p (out : Array Value) (c : Nat) (ys : List Str), (∀ b o, s.heap.get? b = some o → s'.heap.get? b = some o) → s'.gens = s.gens → s'.os = s.os → s.heap.objs.size ≤ p → s'.heap.get? p = some (seqObj "list" out c) → StrsAre out.toList ys → ys.Perm l → sortedS ys = true → Q (.ref p) s') :
    wpAny (model P w) A (call (.builtin "sorted") [.ref a]) Q E s := by
  obtain ⟨⟨es, ep, t⟩, h1, F, nd, r, ld⟩ := T
  have zz : es.size = l.length := F.sz
  have fit : t.fits es.size = true := F.fit
  refine Calls.call_function_entry PyProof.Rows.kind_sorted PyProof.Rows.plain_sorted PyProof.Rows.entry_sorted (PyProof.Rows.args_sorted1 _) ?_
  unfold Builtin.«sorted»
  refine wpAny_bind (m := checkCount "sorted" 1 1 _) (wpAny_pure (wpAny_bind (L2.collect_set (A := A.in1) hh ⟨_, h1, rfl, rfl⟩ fit (show es.size < scanBound by omega) r ld fun u vs k1 sz g1 o1 pm => ?_)))
  have dv : (sObj "set" (es, ep, t)).data = .set es ep t := rfl
  have el : ElemsOf (strKind P w) es.toList := F.el
  have vl : vs.length = l.length := by rw [pm.length_eq, List.length_map, Array.length_toList, zz]
  obtain ⟨ks, hk, pk⟩ : ∃ ks : List Str, StrsAre vs ks ∧ ks.Perm l := by
    have st : ∀ e ∈ es.toList, ∃ x t, e.2 = Value.str x t := fun e he => by
      obtain ⟨⟨x, hx, _⟩, _⟩ := el e he
      obtain ⟨t, ht⟩ := Value.isStrOf_shape (show Value.isStrOf x e.2 = true from hx)
      exact ⟨x, t, ht⟩
    refine ⟨vs.map keyS, strs_all vs fun v hv => ?_, ?_⟩
    · obtain ⟨e, he, rfl⟩ := List.mem_map.mp (pm.mem_iff.mp hv)
      exact st e he
    · have p2 : (vs.map keyS).Perm ((es.toList.map (·.2)).map keyS) := pm.map keyS
      refine p2.trans (perm_few nd (fun x hx => ?_) ?_).symm
      · obtain ⟨e, he, hz⟩ := (F.mem x).mp hx
        obtain ⟨t, ht⟩ := Value.isStrOf_shape (show Value.isStrOf x e.2 = true from hz)
        refine List.mem_map.mpr ⟨e.2, List.mem_map.mpr ⟨e, he, rfl⟩, ?_⟩
        rw [ht]
        rfl
      · rw [List.length_map, List.length_map, Array.length_toList]
        omega
  have lz : vs.length ≤ sizeLine := by rw [vl]; exact Nat.le_trans (Nat.le_of_lt hb) (by decide)
  refine wpAny_bind (wpAny_newList ?_ lz)
  have hoL : (u.heap.push (seqObj "list" vs.toArray 0)).get? u.heap.objs.size = some (seqObj "list" vs.toArray 0) := Heap.get?_push_size _ rfl
  refine wpAny_bind (wpAny_holding (wpAny_call_entry PyProof.Rows.slot_list_sort ⟨_, hoL, rfl⟩ PyProof.Rows.entry_list_sort
    (list_sort_treeKAny strKind_oneLt (s := { u with heap := u.heap.push (seqObj "list" vs.toArray 0) }) hoL hk.keysOf (fun v₁ v₂ rest e => keyKind_strs (by rw [← e]; exact hk)) lz fun st' hp hs => ⟨_, rfl, ?_⟩)
    (PyProof.Rows.args_list_sort _)))
  obtain ⟨ys, y1, y2, y3⟩ := sorted_out_str hk hp hs
  obtain ⟨c, hc⟩ := PyProof.Rows.sortedHeap_at (vs := vs) (out := (arrOf st').map (·.2)) hoL
  refine wpAny_pure ⟨_, rfl, q _ u.heap.objs.size _ c ys (fun b o e => ?_) g1 o1 sz hc y1 (y2.trans pk) y3⟩
  have lt := Heap.lt_size (k1 b o e)
  rw [PyProof.Rows.sortedHeap_old (Nat.ne_of_lt lt) (by rw [size_push']; exact Nat.lt_succ_of_lt lt)]
  exact Heap.get?_push_of_some _ (k1 b o e)
end MKS
namespace L2
open PySem PySem.Spec PyProof.Rows
/-- a set of texts, as it lies there -/
def TxO (P : Program) (w : World) (a : Addr) (l : List Str) : HO := .ext fun h => MKS.TxAt P w h a l
theorem txO_new {P : Program} {w : World} {H : Hp} {h : Heap} {a : Addr} {l : List Str} (t : MKS.TxAt P w h a l) : ObjOk P w H h a (TxO P w a l) := by
  obtain ⟨D, h1, r⟩ := id t
  refine ⟨t, ⟨_, h1⟩, fun h1 h2 p k => ?_⟩
  exact MKS.TxAt.keep p fun o e => k o e
section
variable {X : Cx}
/-- set(xs), xs a list of texts -/
def rSetTx (K : PySem.W.Frag) (P : Program) (w : World) : List V → Hp → VK → Prop := fun xs H Q => ∃ (l : Addr) (zs : List Str), xs = [V.ref l] ∧ SqL K H l (zs.map V.str) ∧ zs.length ≤ 1000 ∧
  ∀ a ys, H a = none → (∀ z, z ∈ ys ↔ z ∈ zs) → ys.length ≤ zs.length → Q (.ref a) (upd H a (TxO P w a ys))
theorem strs_vals : ∀ {zs : List Str} {us : List Value}, Vals (zs.map V.str) us → StrsAre us zs
  | [], _, .nil => .nil
  | z :: zs, _, .cons r t => by
    obtain ⟨k, rfl⟩ := r
    exact .cons z k (strs_vals t)
theorem cr_setTx (hc : X.calm = true) : CallR X (.type "set") (rSetTx X.K X.prog X.w) := by
  intro pins s σ H xs us Q I r h
  obtain ⟨l, zs, rfl, hl, hf, q⟩ := h
  rw [Vals.ref1 r]
  obtain ⟨its, rv, pl, hz⟩ := I.list hl
  refine MKS.set_of (P := X.prog) (w := X.w) (I.ok.hd hc) pl.isList (by simpa using strs_vals rv) (Nat.lt_of_le_of_lt (Nat.add_le_add_right hf 1) (by decide)) fun h' tk ys t mem len k => ?_
  exact ⟨.ref s.heap.objs.size, upd H s.heap.objs.size (TxO X.prog X.w s.heap.objs.size ys), I.laid (t' := tk) k (Nat.le_refl _) (txO_new t), rfl, q _ ys (I.hok.fresh (Nat.le_refl _)) mem len⟩
/-- sorted(s), s a set of texts: a new list of these, rising -/
def rSortedTx (P : Program) (w : World) : List V → Hp → VK → Prop := fun xs H Q => ∃ (a : Addr) (l : List Str), xs = [V.ref a] ∧ H a = some (TxO P w a l) ∧ l.length ≤ 1000 ∧
  ∀ ys p, ys.Perm l → ys.Nodup → sortedS ys = true → H p = none → Q (.ref p) (upd H p (.lst (ys.map V.str)))
theorem vals_txt : ∀ {us : List Value} {ys : List Str}, StrsAre us ys → Vals (ys.map V.str) us := fun h => by
  induction h with
  | nil => exact .nil
  | cons n t _ ih => exact .cons ⟨t, rfl⟩ ih
theorem cr_sortedTx (hc : X.calm = true) : CallR X (.builtin "sorted") (rSortedTx X.prog X.w) := by
  intro pins s σ H xs us Q I r h
  obtain ⟨a, l, rfl, ha, hf, q⟩ := h
  have t : MKS.TxAt X.prog X.w s.heap a l := (I.hok a _ ha).1
  rw [Vals.ref1 r]
  have nd : l.Nodup := by
    obtain ⟨_, _, _, z, _⟩ := id t
    exact z
  refine MKS.sorted_txt t (I.ok.hd hc) (Nat.lt_of_le_of_lt hf (by decide)) fun s' p out c ys k g o hp hg hy pm so => ?_
  have hn : H p = none := I.hok.fresh hp
  have lz : (ys.map V.str).length ≤ sizeLine := by
    rw [List.length_map, pm.length_eq]
    exact Nat.le_trans hf (by decide)
  have J : Inv X pins σ (upd H p (.lst (ys.map V.str))) { s with heap := s'.heap, gens := s'.gens, drawn := s'.drawn, toks := s'.toks } :=
    I.call (ch := []) (Un.laid k hp hn) (I.hok.laid k hp ⟨lz, out.toList, c, vals_txt hy, hg⟩) (by rw [g]; exact I.bare) (fun _ z => nomatch z)
  have e : s' = { s with heap := s'.heap, gens := s'.gens, drawn := s'.drawn, toks := s'.toks } := by
    obtain ⟨_, _, _, _, _⟩ := s'
    obtain ⟨_, _, _, _, _⟩ := s
    obtain rfl := o
    rfl
  rw [e]
  exact ⟨.ref p, _, J, rfl, q ys p pm (pm.nodup_iff.mpr nd) so hn⟩
end
end L2


set_option Elab.async false
set_option linter.all false
set_option maxRecDepth 100000
set_option maxHeartbeats 4000000
/-! What a reckoning's measure is by a choice, part by part, and what has to be alike. -/
namespace MK
open PySem PySem.Spec PyProof.Rows L2
/-- one's powers, and x times the other's -/
def IsTms (m n : Ms) (x : Int) (r : Ms) : Prop := Can r ∧ ∀ j, at0 r j = at0 m j + at0 n j * x
open Classical in
/-- the one measure of these powers -/
noncomputable def mulC (m n : Ms) (x : Int) : Ms := if h : ∃ r, IsTms m n x r then h.choose else []
theorem mulC_is {m n r : Ms} {x : Int} (h : IsTms m n x r) : mulC m n x = r := by
  have e : ∃ r, IsTms m n x r := ⟨r, h⟩
  unfold mulC
  rw [dif_pos e]
  have c := e.choose_spec
  exact can_ext c.1 h.1 fun j => (c.2 j).trans (h.2 j).symm
/-- a measure of at most l letters, powers below 2 ^ b -/
structure MsB (l b : Nat) (m : Ms) : Prop where
  can : Can m
  few : m.length ≤ l
  sm : ∀ p ∈ m, p.2.natAbs < 2 ^ b
theorem MsB.mono {l b l' b' : Nat} {m : Ms} (h : MsB l b m) (hl : l ≤ l') (hb : b ≤ b') : MsB l' b' m := ⟨h.can, Nat.le_trans h.few hl, fun p hp => Nat.lt_of_lt_of_le (h.sm p hp) (Nat.pow_le_pow_right (by decide) hb)⟩
theorem MsB.nil {l b : Nat} : MsB l b [] := ⟨can_nil, Nat.zero_le _, fun p hp => absurd hp (by simp)⟩
theorem MsB.at {l b : Nat} {m : Ms} (h : MsB l b m) (j : Str) : (at0 m j).natAbs < 2 ^ b := by
  by_cases e : at0 m j = 0
  · rw [e]
    exact Nat.two_pow_pos b
  · exact h.sm _ (at0_mem e)
theorem MsB.tms {l k b : Nat} {m n r : Ms} {x : Int} (h : MsB l b m) (g : MsB k b n) (hx : x.natAbs ≤ 4) (t : IsTms m n x r) : MsB (l + k) (b + 3) r := by
  obtain ⟨c, e⟩ := t
  refine ⟨c, ?_, fun p hp => ?_⟩
  · have sub : ∀ z ∈ r.map (·.1), z ∈ m.map (·.1) ++ n.map (·.1) := fun z hz => by
      obtain ⟨p, hp, rfl⟩ := List.mem_map.mp hz
      have q := (c.mem p.1 p.2).mp hp
      by_cases z1 : at0 m p.1 = 0
      · refine List.mem_append_right _ (List.mem_map.mpr ⟨_, at0_mem (m := n) (j := p.1) fun z2 => q.1 ?_, rfl⟩)
        rw [← q.2, e, z1, z2]
        omega
      · exact List.mem_append_left _ (List.mem_map.mpr ⟨_, at0_mem z1, rfl⟩)
    have := List.Nodup.length_le_of_subset c.ris.nodup sub
    rw [List.length_map, List.length_append, List.length_map, List.length_map] at this
    have := h.few
    have := g.few
    omega
  · have q := (c.mem p.1 p.2).mp hp
    have a1 := h.at p.1
    have a2 := g.at p.1
    rw [← q.2, e]
    have a3 : (at0 n p.1 * x).natAbs ≤ (at0 n p.1).natAbs * 4 := by
      rw [Int.natAbs_mul]
      exact Nat.mul_le_mul_left _ hx
    have e8 : 2 ^ (b + 3) = 2 ^ b * 8 := Nat.pow_add 2 b 3
    omega
/-- how many leaves -/
def Rk.lvs : Rk → Nat
  | .bin _ a b => a.lvs + b.lvs
  | .power a _ => a.lvs
  | .less a b c d => a.lvs + b.lvs + c.lvs + d.lvs
  | _ => 1
/-- its measure, and what has to be alike, by a choice -/
noncomputable def walk (env : Str → Ms) : Rk → List Ms → Ms × List Ms
  | .is _ _ m, _ => (m, [])
  | .nought, g => (g.headD [], [])
  | .input s, _ => (env s, [])
  | .bin o a b, g => match o with
    | .times => (mulC (walk env a g).1 (walk env b (g.drop a.noughts)).1 1, (walk env a g).2 ++ (walk env b (g.drop a.noughts)).2)
    | .over => (mulC (walk env a g).1 (walk env b (g.drop a.noughts)).1 (-1), (walk env a g).2 ++ (walk env b (g.drop a.noughts)).2)
    | _ => ((walk env a g).1, (walk env a g).2 ++ (walk env b (g.drop a.noughts)).2 ++ [mulC (walk env a g).1 (walk env b (g.drop a.noughts)).1 (-1)])
  | .power a n, g => (mulC [] (walk env a g).1 n, (walk env a g).2)
  | .less a b c d, g => ((walk env c (g.drop (a.noughts + b.noughts))).1,
      (walk env a g).2 ++ (walk env b (g.drop a.noughts)).2 ++ (walk env c (g.drop (a.noughts + b.noughts))).2 ++ (walk env d (g.drop (a.noughts + b.noughts + c.noughts))).2 ++
        [mulC (walk env a g).1 (walk env b (g.drop a.noughts)).1 (-1)] ++ [mulC (walk env c (g.drop (a.noughts + b.noughts))).1 (walk env d (g.drop (a.noughts + b.noughts + c.noughts))).1 (-1)])
/-- the parts, each by what is left of the noughts -/
noncomputable def walks (env : Str → Ms) : List Rk → List Ms → List (Ms × List Ms)
  | [], _ => []
  | x :: r, g => walk env x g :: walks env r (g.drop x.noughts)
theorem walks_len (env : Str → Ms) : ∀ (l : List Rk) (g : List Ms), (walks env l g).length = l.length
  | [], _ => rfl
  | x :: r, g => congrArg (· + 1) (walks_len env r (g.drop x.noughts))
def nsum (l : List Rk) : Nat := (l.map Rk.noughts).sum
theorem walks_at (env : Str → Ms) : ∀ (l : List Rk) (g : List Ms) {i : Nat} {x : Rk}, l[i]? = some x → (walks env l g)[i]? = some (walk env x (g.drop (nsum (l.take i))))
  | [], g, i, x, h => by simp at h
  | y :: r, g, 0, x, h => by
    obtain rfl : y = x := Option.some.inj h
    show some (walk env y g) = _
    rw [List.take_zero]
    rfl
  | y :: r, g, i + 1, x, h => by
    have e := walks_at env r (g.drop y.noughts) (i := i) (x := x) (by simpa using h)
    show (walks env r (g.drop y.noughts))[i]? = _
    rw [e, List.drop_drop]
    rfl
theorem nsum_more {l : List Rk} {i : Nat} {x : Rk} (h : l[i]? = some x) : nsum (l.take (i + 1)) = nsum (l.take i) + x.noughts := by
  unfold nsum
  rw [take_more h, List.map_append, List.sum_append]
  show _ + (x.noughts + 0) = _
  omega
theorem mulC_b {l k b : Nat} {m n : Ms} {x : Int} (h : MsB l b m) (g : MsB k b n) (hx : x.natAbs ≤ 4) : MsB (l + k) (b + 3) (mulC m n x) := by
  by_cases e : ∃ r, IsTms m n x r
  · obtain ⟨r, t⟩ := e
    rw [mulC_is t]
    exact h.tms g hx t
  · unfold mulC
    rw [dif_neg e]
    exact .nil
/-! ### in the heap -/
theorem fne {H : Hp} {D p : Addr} {xs : List V} {o : HO} {u : HO} (h : H D = some (.lst xs)) (e : H p = some u) (n : u ≠ .lst xs) : L2.upd H D o p = some u := by
  rw [upd_ne (fun z => n (by rw [z, h] at e; exact (Option.some.inj e).symm))]
  exact e
theorem MsN.lst {H : Hp} {D b : Addr} {xs : List V} {o : HO} {m : Ms} (h : H D = some (.lst xs)) (q : MsN H b m) : MsN (L2.upd H D o) b m := by
  obtain ⟨ts, ⟨ob, e, d⟩, p⟩ := q
  exact ⟨ts, ⟨ob, fne h e (fun z => nomatch z), d⟩, pr_list h p⟩
theorem tr_list {H : Hp} {D : Addr} {xs : List V} {o : HO} (h : H D = some (.lst xs)) : ∀ {r : Rk} {p : Addr}, TrAt H r p → TrAt (L2.upd H D o) r p
  | .is x y m, p, ⟨q, b, h1, h2, h3⟩ => ⟨q, b, fne h h1 (fun z => nomatch z), fne h h2 (fun z => nomatch z), h3.lst h⟩
  | .nought, p, e => fne h e (fun z => nomatch z)
  | .input z, p, e => fne h e (fun z => nomatch z)
  | .bin op a b, p, ⟨q, r, h1, h2, h3⟩ => ⟨q, r, fne h h1 (fun z => nomatch z), tr_list h h2, tr_list h h3⟩
  | .power a n, p, ⟨q, h1, h2⟩ => ⟨q, fne h h1 (fun z => nomatch z), tr_list h h2⟩
  | .less a b c d, p, ⟨q, r, u, v, h1, h2, h3, h4, h5⟩ => ⟨q, r, u, v, fne h h1 (fun z => nomatch z), tr_list h h2, tr_list h h3, tr_list h h4, tr_list h h5⟩
abbrev NmR (H : Hp) (x : Str × Addr) (y : Str × Ms) : Prop := x.1 = y.1 ∧ MsN H x.2 y.2
/-- a dict of names with measures -/
def NmAt (H : Hp) (d : Addr) (ads : List (Str × Addr)) (fl : List (Str × Ms)) : Prop := H d = some (.dK (encG V.ref ads)) ∧ Paired (NmR H) ads fl
theorem NmAt.same {H H' : Hp} {d : Addr} {ads : List (Str × Addr)} {fl : List (Str × Ms)} (s : Same H H') (h : NmAt H d ads fl) : NmAt H' d ads fl := ⟨s _ _ h.1, Paired.mono (fun x y z => ⟨z.1, z.2.same s⟩) h.2⟩
theorem nm_lk {H : Hp} {ads : List (Str × Addr)} {fl : List (Str × Ms)} (p : Paired (NmR H) ads fl) (l : Str) : (lk ads l = none ∧ lk fl l = none) ∨ ∃ b m, lk ads l = some b ∧ lk fl l = some m ∧ MsN H b m := by
  induction p with
  | nil => exact .inl ⟨rfl, rfl⟩
  | @cons x y xs ys h _ ih =>
    obtain ⟨h1, h2⟩ := h
    by_cases e : x.1 = l
    · exact .inr ⟨x.2, y.2, if_pos e, if_pos (h1 ▸ e), h2⟩
    · have e' : ¬ y.1 = l := fun z => e (h1.trans z)
      rw [show lk (x :: xs) l = lk xs l from if_neg e, show lk (y :: ys) l = lk ys l from if_neg e']
      exact ih
theorem nm_get {H : Hp} {d : Addr} {ads : List (Str × Addr)} {fl : List (Str × Ms)} (h : NmAt H d ads fl) {l : Str} (n : lk fl l ≠ none) : ∃ b m, lk fl l = some m ∧ DGet H d (.str l) (some (.ref b)) ∧ MsN H b m := by
  rcases nm_lk h.2 l with ⟨_, a2⟩ | ⟨b, m, a1, a2, a3⟩
  · exact absurd a2 n
  · refine ⟨b, m, a2, ?_, a3⟩
    have := DGet.k (k := Sum.inr l) h.1
    rw [encG_val, a1] at this
    exact this
theorem cut_drop {xs : List V} {k : Nat} (h : k ≤ xs.length) : cutV xs (some (k : Int)) none = xs.drop k := by
  unfold cutV
  rw [HT.sIx_nat, HT.sIx_none, Nat.min_eq_left h, List.take_of_length_le (by rw [List.length_drop]; exact Nat.le_refl _)]
theorem paired_drop {α β : Type} {G : α → β → Prop} : ∀ (k : Nat) {l : List α} {m : List β}, Paired G l m → Paired G (l.drop k) (m.drop k)
  | 0, _, _, p => p
  | _ + 1, _, _, .nil => .nil
  | k + 1, _, _, .cons _ t => paired_drop k t
/-! ### of the parts -/
theorem part_of {r x : Rk} (h : x ∈ r.parts) (ok : r.Ok) : x.Ok ∧ (∀ s ∈ x.ins, s ∈ r.ins) ∧ x.lvs ≤ r.lvs := by
  cases r with
  | is _ _ _ => exact absurd h (by show x ∉ []; simp)
  | nought => exact absurd h (by show x ∉ []; simp)
  | input _ => exact absurd h (by show x ∉ []; simp)
  | bin o a b =>
    obtain ⟨o1, o2⟩ := ok
    rcases List.mem_cons.mp h with e | h
    · rw [e]; exact ⟨o1, fun s hs => List.mem_append_left _ hs, Nat.le_add_right _ _⟩
    · rw [List.mem_singleton.mp h]; exact ⟨o2, fun s hs => List.mem_append_right _ hs, Nat.le_add_left _ _⟩
  | power a n =>
    rw [List.mem_singleton.mp h]
    exact ⟨ok.1, fun s hs => hs, Nat.le_refl _⟩
  | less a b c d =>
    obtain ⟨o1, o2, o3, o4⟩ := ok
    have e : (Rk.less a b c d).lvs = a.lvs + b.lvs + c.lvs + d.lvs := rfl
    rcases List.mem_cons.mp h with q | h
    · rw [q]; exact ⟨o1, fun s hs => List.mem_append_left _ (List.mem_append_left _ (List.mem_append_left _ hs)), by omega⟩
    · rcases List.mem_cons.mp h with q | h
      · rw [q]; exact ⟨o2, fun s hs => List.mem_append_left _ (List.mem_append_left _ (List.mem_append_right _ hs)), by omega⟩
      · rcases List.mem_cons.mp h with q | h
        · rw [q]; exact ⟨o3, fun s hs => List.mem_append_left _ (List.mem_append_right _ hs), by omega⟩
        · rw [List.mem_singleton.mp h]; exact ⟨o4, fun s hs => List.mem_append_right _ hs, by omega⟩
theorem nsum_parts (r : Rk) : nsum r.parts ≤ r.noughts := by
  cases r with
  | is _ _ _ => exact Nat.zero_le _
  | nought => exact Nat.zero_le _
  | input _ => exact Nat.zero_le _
  | bin o a b =>
    show a.noughts + (b.noughts + 0) ≤ a.noughts + b.noughts
    omega
  | power a n =>
    show a.noughts + 0 ≤ a.noughts
    omega
  | less a b c d =>
    show a.noughts + (b.noughts + (c.noughts + (d.noughts + 0))) ≤ a.noughts + b.noughts + c.noughts + d.noughts
    omega
theorem nsum_le : ∀ (l : List Rk) (i : Nat), nsum (l.take i) ≤ nsum l
  | [], i => by rw [List.take_nil]; exact Nat.le_refl _
  | x :: r, 0 => Nat.zero_le _
  | x :: r, i + 1 => by
    have := nsum_le r i
    show x.noughts + nsum (r.take i) ≤ x.noughts + nsum r
    omega
theorem walk_len (env : Str → Ms) : ∀ (r : Rk) (g : List Ms), (walk env r g).2.length + 1 ≤ r.lvs
  | .is _ _ _, _ => Nat.le_refl _
  | .nought, _ => Nat.le_refl _
  | .input _, _ => Nat.le_refl _
  | .bin o a b, g => by
    have h1 := walk_len env a g
    have h2 := walk_len env b (g.drop a.noughts)
    have e : (Rk.bin o a b).lvs = a.lvs + b.lvs := rfl
    cases o with
    | times =>
      show ((walk env a g).2 ++ (walk env b (g.drop a.noughts)).2).length + 1 ≤ _
      rw [List.length_append]; omega
    | over =>
      show ((walk env a g).2 ++ (walk env b (g.drop a.noughts)).2).length + 1 ≤ _
      rw [List.length_append]; omega
    | plus =>
      show ((walk env a g).2 ++ (walk env b (g.drop a.noughts)).2 ++ [_]).length + 1 ≤ _
      rw [List.length_append, List.length_append, List.length_singleton]; omega
    | minus =>
      show ((walk env a g).2 ++ (walk env b (g.drop a.noughts)).2 ++ [_]).length + 1 ≤ _
      rw [List.length_append, List.length_append, List.length_singleton]; omega
  | .power a n, g => walk_len env a g
  | .less a b c d, g => by
    have h1 := walk_len env a g
    have h2 := walk_len env b (g.drop a.noughts)
    have h3 := walk_len env c (g.drop (a.noughts + b.noughts))
    have h4 := walk_len env d (g.drop (a.noughts + b.noughts + c.noughts))
    have e : (Rk.less a b c d).lvs = a.lvs + b.lvs + c.lvs + d.lvs := rfl
    show ((walk env a g).2 ++ (walk env b (g.drop a.noughts)).2 ++ (walk env c (g.drop (a.noughts + b.noughts))).2 ++ (walk env d (g.drop (a.noughts + b.noughts + c.noughts))).2 ++ [_] ++ [_]).length + 1 ≤ _
    rw [List.length_append, List.length_append, List.length_append, List.length_append, List.length_append, List.length_singleton, List.length_singleton]; omega
theorem walks_flat (env : Str → Ms) : ∀ (l : List Rk) (g : List Ms), ((walks env l g).flatMap (·.2)).length ≤ (l.map Rk.lvs).sum
  | [], _ => Nat.zero_le _
  | x :: r, g => by
    have h1 := walk_len env x g
    have h2 := walks_flat env r (g.drop x.noughts)
    show ((walk env x g).2 ++ (walks env r (g.drop x.noughts)).flatMap (·.2)).length ≤ x.lvs + (r.map Rk.lvs).sum
    rw [List.length_append]
    omega
theorem lvs_parts (r : Rk) : (r.parts.map Rk.lvs).sum ≤ r.lvs := by
  cases r with
  | is _ _ _ => exact Nat.zero_le _
  | nought => exact Nat.zero_le _
  | input _ => exact Nat.zero_le _
  | bin o a b =>
    show a.lvs + (b.lvs + 0) ≤ a.lvs + b.lvs
    omega
  | power a n =>
    show a.lvs + 0 ≤ a.lvs
    omega
  | less a b c d =>
    show a.lvs + (b.lvs + (c.lvs + (d.lvs + 0))) ≤ a.lvs + b.lvs + c.lvs + d.lvs
    omega
theorem TupN.lst {H : Hp} {D p : Addr} {xs ys : List V} {o : HO} (h : H D = some (.lst xs)) (q : TupN H p ys) : TupN (L2.upd H D o) p ys := by
  obtain ⟨ob, e, d⟩ := q
  exact ⟨ob, fne h e (fun z => nomatch z), d⟩
theorem TupN.same {H H' : Hp} {p : Addr} {ys : List V} (s : Same H H') (q : TupN H p ys) : TupN H' p ys := by
  obtain ⟨ob, e, d⟩ := q
  exact ⟨ob, s _ _ e, d⟩
theorem paired_app {α β : Type} {G : α → β → Prop} : ∀ {l : List α} {m : List β} {l' : List α} {m' : List β}, Paired G l m → Paired G l' m' → Paired G (l ++ l') (m ++ m')
  | _, _, _, _, .nil, q => q
  | _, _, _, _, .cons h t, q => .cons h (paired_app t q)
/-- how great a reckoning's measure may be -/
theorem walk_b {env : Str → Ms} {l b : Nat} (he : ∀ s, MsB l b (env s)) (l6 : 6 ≤ l) (b5 : 5 ≤ b) : ∀ {r : Rk} {g : List Ms}, r.Ok → (∀ m ∈ g, MsB l b m) → MsB (l * r.lvs) (b + 3 * r.deep) (walk env r g).1
  | .is x y m, g, ⟨_, _, _, h⟩, _ => ⟨h.can, Nat.le_trans h.few (by show 6 ≤ l * 1; omega), fun p hp => Nat.lt_of_le_of_lt (h.sm p hp) (Nat.lt_of_lt_of_le (show 20 < 2 ^ 5 by decide) (Nat.pow_le_pow_right (by decide) (by omega)))⟩
  | .nought, g, _, hg => by
    cases g with
    | nil => exact .nil
    | cons m g => exact (hg m List.mem_cons_self).mono (by show l ≤ l * 1; omega) (by omega)
  | .input s, g, _, _ => (he s).mono (by show l ≤ l * 1; omega) (by omega)
  | .bin o a c, g, ⟨o1, o2⟩, hg => by
    have h1 := walk_b he l6 b5 (g := g) o1 hg
    have h2 := walk_b he l6 b5 (g := g.drop a.noughts) o2 fun m hm => hg m (List.mem_of_mem_drop hm)
    have e : (Rk.bin o a c).deep = 1 + max a.deep c.deep := rfl
    have e2 : l * (Rk.bin o a c).lvs = l * a.lvs + l * c.lvs := Nat.mul_add l a.lvs c.lvs
    have k1 := h1.mono (l' := l * a.lvs) (b' := b + 3 * max a.deep c.deep) (Nat.le_refl _) (by omega)
    have k2 := h2.mono (l' := l * c.lvs) (b' := b + 3 * max a.deep c.deep) (Nat.le_refl _) (by omega)
    cases o with
    | times => exact (mulC_b k1 k2 (by decide)).mono (by omega) (by omega)
    | over => exact (mulC_b k1 k2 (by decide)).mono (by omega) (by omega)
    | plus => exact h1.mono (by omega) (by omega)
    | minus => exact h1.mono (by omega) (by omega)
  | .power a n, g, ⟨o1, n1, n2⟩, hg => by
    have h1 := walk_b he l6 b5 (g := g) o1 hg
    have e : (Rk.power a n).deep = 1 + a.deep := rfl
    have e2 : (Rk.power a n).lvs = a.lvs := rfl
    exact (mulC_b (MsB.nil (l := 0) (b := b + 3 * a.deep)) h1 (by omega)).mono (by rw [e2]; omega) (by omega)
  | .less a c d f, g, ⟨o1, o2, o3, o4⟩, hg => by
    have h3 := walk_b he l6 b5 (g := g.drop (a.noughts + c.noughts)) o3 fun m hm => hg m (List.mem_of_mem_drop hm)
    have e : (Rk.less a c d f).deep = 1 + max (max a.deep c.deep) (max d.deep f.deep) := rfl
    have e2 : l * d.lvs ≤ l * (Rk.less a c d f).lvs := Nat.mul_le_mul_left _ (by show d.lvs ≤ a.lvs + c.lvs + d.lvs + f.lvs; omega)
    exact h3.mono e2 (by omega)
end MK


set_option Elab.async false
set_option linter.all false
set_option maxRecDepth 100000
set_option maxHeartbeats 4000000
/-! All the reckonings within one, from left to right; what a reckoning's tuple holds; how many there are by depth. -/
namespace MK
open PySem PySem.Spec PyProof.Rows L2
/-- the first text -/
def Rk.kind : Rk → Str
  | .is _ _ _ => "is" | .nought => "nought" | .input _ => "input" | .bin o _ _ => o.name | .power _ _ => "power" | .less _ _ _ _ => "less"
/-- itself and all within, from left to right -/
def Rk.all : Rk → List Rk
  | .bin o a b => .bin o a b :: (a.all ++ b.all)
  | .power a n => .power a n :: a.all
  | .less a b c d => .less a b c d :: (a.all ++ b.all ++ c.all ++ d.all)
  | .is x y m => [.is x y m]
  | .nought => [.nought]
  | .input s => [.input s]
theorem all_eq : ∀ r : Rk, r.all = r :: r.parts.flatMap Rk.all
  | .is _ _ _ => rfl
  | .nought => rfl
  | .input _ => rfl
  | .bin o a b => by
    show _ :: (a.all ++ b.all) = _ :: (a.all ++ (b.all ++ []))
    rw [List.append_nil]
  | .power a n => by
    show _ :: a.all = _ :: (a.all ++ [])
    rw [List.append_nil]
  | .less a b c d => by
    show _ :: (a.all ++ b.all ++ c.all ++ d.all) = _ :: (a.all ++ (b.all ++ (c.all ++ (d.all ++ []))))
    rw [List.append_nil, List.append_assoc, List.append_assoc]
theorem all_len : ∀ r : Rk, r.all.length = r.many
  | .is _ _ _ => rfl
  | .nought => rfl
  | .input _ => rfl
  | .bin o a b => by
    have := all_len a; have := all_len b
    show (a.all ++ b.all).length + 1 = 1 + (a.many + b.many)
    rw [List.length_append]
    omega
  | .power a n => by
    have := all_len a
    show a.all.length + 1 = 1 + a.many
    omega
  | .less a b c d => by
    have := all_len a; have := all_len b; have := all_len c; have := all_len d
    show (a.all ++ b.all ++ c.all ++ d.all).length + 1 = 1 + (a.many + b.many + c.many + d.many)
    rw [List.length_append, List.length_append, List.length_append]
    omega
def inpName : Rk → Option Str
  | .input s => some s
  | _ => none
def isNou : Rk → Bool
  | .nought => true
  | _ => false
theorem all_ins : ∀ r : Rk, r.all.filterMap inpName = r.ins
  | .is _ _ _ => rfl
  | .nought => rfl
  | .input _ => rfl
  | .bin o a b => by
    show (a.all ++ b.all).filterMap inpName = _
    rw [List.filterMap_append, all_ins a, all_ins b]
    rfl
  | .power a n => all_ins a
  | .less a b c d => by
    show (a.all ++ b.all ++ c.all ++ d.all).filterMap inpName = _
    rw [List.filterMap_append, List.filterMap_append, List.filterMap_append, all_ins a, all_ins b, all_ins c, all_ins d]
    rfl
theorem all_nou : ∀ r : Rk, (r.all.filter isNou).length = r.noughts
  | .is _ _ _ => rfl
  | .nought => rfl
  | .input _ => rfl
  | .bin o a b => by
    have := all_nou a; have := all_nou b
    show ((a.all ++ b.all).filter isNou).length = a.noughts + b.noughts
    rw [List.filter_append, List.length_append]
    omega
  | .power a n => all_nou a
  | .less a b c d => by
    have := all_nou a; have := all_nou b; have := all_nou c; have := all_nou d
    show ((a.all ++ b.all ++ c.all ++ d.all).filter isNou).length = a.noughts + b.noughts + c.noughts + d.noughts
    rw [List.filter_append, List.filter_append, List.filter_append, List.length_append, List.length_append, List.length_append]
    omega
/-- a reckoning's tuple: its kind, its parts, what stands behind -/
theorem tr_tup {H : Hp} : ∀ {r : Rk} {t : Addr}, TrAt H r t → ∃ (ps : List Addr) (zs : List V), H t = some (.tup (V.str r.kind :: (ps.map V.ref ++ zs))) ∧ Paired (fun q x => TrAt H x q) ps r.parts
  | .is x y m, t, ⟨q, b, h1, _⟩ => ⟨[], _, h1, .nil⟩
  | .nought, t, h => ⟨[], _, h, .nil⟩
  | .input z, t, h => ⟨[], _, h, .nil⟩
  | .bin o a b, t, ⟨q, r, h1, h2, h3⟩ => ⟨[q, r], [], h1, .cons h2 (.cons h3 .nil)⟩
  | .power a n, t, ⟨q, h1, h2⟩ => ⟨[q], _, h1, .cons h2 .nil⟩
  | .less a b c d, t, ⟨q, r, u, v, h1, h2, h3, h4, h5⟩ => ⟨[q, r, u, v], [], h1, .cons h2 (.cons h3 (.cons h4 (.cons h5 .nil)))⟩
theorem cut_parts (x : V) (us zs : List V) : cutV (x :: (us ++ zs)) (some 1) (some (1 + (us.length : Int))) = us := by
  have h1 : HT.sIx (x :: (us ++ zs)).length 0 (some 1) = 1 := by
    rw [show (1 : Int) = ((1 : Nat) : Int) from rfl, HT.sIx_nat]
    simp only [List.length_cons]
    omega
  have h2 : HT.sIx (x :: (us ++ zs)).length (x :: (us ++ zs)).length (some (1 + (us.length : Int))) = 1 + us.length := by
    rw [show (1 : Int) + (us.length : Int) = ((1 + us.length : Nat) : Int) by omega, HT.sIx_nat]
    simp only [List.length_cons, List.length_append]
    omega
  unfold cutV
  rw [h1, h2]
  show ((us ++ zs).take (1 + us.length - 1)) = us
  rw [Nat.add_sub_cancel_left, List.take_left]
theorem cut_some (x : V) (us zs : List V) {j : Option Int} : ¬ (HT.sIx (x :: (us ++ zs)).length 0 (some 1) = 0 ∧ HT.sIx (x :: (us ++ zs)).length (x :: (us ++ zs)).length j = (x :: (us ++ zs)).length) := by
  rintro ⟨h, _⟩
  rw [show (1 : Int) = ((1 : Nat) : Int) from rfl, HT.sIx_nat] at h
  simp only [List.length_cons] at h
  omega
theorem many_by : ∀ (n : Nat) (r : Rk), r.deep ≤ n → 3 * r.many + 1 ≤ 4 ^ n := by
  intro n
  induction n with
  | zero =>
    intro r h
    have := r.deep_pos
    omega
  | succ n ih =>
    intro r h
    have e : 4 ^ (n + 1) = 4 ^ n * 4 := Nat.pow_succ ..
    have p1 : 1 ≤ 4 ^ n := Nat.one_le_pow n 4 (by decide)
    cases r with
    | bin o a b =>
      have h : 1 + max a.deep b.deep ≤ n + 1 := h
      have := ih a (by omega); have := ih b (by omega)
      show 3 * (1 + (a.many + b.many)) + 1 ≤ _
      omega
    | power a m =>
      have h : 1 + a.deep ≤ n + 1 := h
      have := ih a (by omega)
      show 3 * (1 + a.many) + 1 ≤ _
      omega
    | less a b c d =>
      have h : 1 + max (max a.deep b.deep) (max c.deep d.deep) ≤ n + 1 := h
      have := ih a (by omega); have := ih b (by omega); have := ih c (by omega); have := ih d (by omega)
      show 3 * (1 + (a.many + b.many + c.many + d.many)) + 1 ≤ _
      omega
    | is _ _ _ =>
      show 3 * 1 + 1 ≤ _
      omega
    | nought =>
      show 3 * 1 + 1 ≤ _
      omega
    | input _ =>
      show 3 * 1 + 1 ≤ _
      omega
theorem many_pos : ∀ r : Rk, 1 ≤ r.many
  | .is _ _ _ => Nat.le_refl _ | .nought => Nat.le_refl _ | .input _ => Nat.le_refl _
  | .bin _ _ _ => Nat.le_add_right _ _ | .power _ _ => Nat.le_add_right _ _ | .less _ _ _ _ => Nat.le_add_right _ _
theorem parts_many : ∀ {r x : Rk}, x ∈ r.parts → x.many < r.many
  | .bin _ a b, x, h => by
    show x.many < 1 + (a.many + b.many)
    rcases List.mem_cons.mp h with e | h
    · rw [e]; omega
    · rw [List.mem_singleton.mp h]; omega
  | .power a _, x, h => by
    show x.many < 1 + a.many
    rw [List.mem_singleton.mp h]; omega
  | .less a b c d, x, h => by
    show x.many < 1 + (a.many + b.many + c.many + d.many)
    rcases List.mem_cons.mp h with e | h
    · rw [e]; omega
    · rcases List.mem_cons.mp h with e | h
      · rw [e]; omega
      · rcases List.mem_cons.mp h with e | h
        · rw [e]; omega
        · rw [List.mem_singleton.mp h]; omega
theorem ins_nm : ∀ {r : Rk}, r.Ok → ∀ {z : Str}, z ∈ r.ins → Nm z
  | .is _ _ _, _, _, h => absurd (show _ ∈ [] from h) (by simp)
  | .nought, _, _, h => absurd (show _ ∈ [] from h) (by simp)
  | .input s, ok, z, h => by
    rw [List.mem_singleton.mp (show z ∈ [s] from h)]
    exact ok
  | .bin _ a b, ⟨h1, h2⟩, z, h => (List.mem_append.mp (show z ∈ a.ins ++ b.ins from h)).elim (ins_nm h1) (ins_nm h2)
  | .power a _, ⟨h1, _⟩, z, h => ins_nm h1 (show z ∈ a.ins from h)
  | .less a b c d, ⟨h1, h2, h3, h4⟩, z, h => (List.mem_append.mp (show z ∈ a.ins ++ b.ins ++ c.ins ++ d.ins from h)).elim (fun h => (List.mem_append.mp h).elim (fun h => (List.mem_append.mp h).elim (ins_nm h1) (ins_nm h2)) (ins_nm h3)) (ins_nm h4)
theorem kind_inp : ∀ {r : Rk}, (∀ z, r ≠ .input z) → decide (V.str r.kind = V.str "input") = false
  | .is _ _ _, _ => (by decide +kernel : decide (V.str "is" = V.str "input") = false)
  | .nought, _ => (by decide +kernel : decide (V.str "nought" = V.str "input") = false)
  | .input z, h => absurd rfl (h z)
  | .bin .plus _ _, _ => (by decide +kernel : decide (V.str "plus" = V.str "input") = false)
  | .bin .minus _ _, _ => (by decide +kernel : decide (V.str "minus" = V.str "input") = false)
  | .bin .times _ _, _ => (by decide +kernel : decide (V.str "times" = V.str "input") = false)
  | .bin .over _ _, _ => (by decide +kernel : decide (V.str "over" = V.str "input") = false)
  | .power _ _, _ => (by decide +kernel : decide (V.str "power" = V.str "input") = false)
  | .less _ _ _ _, _ => (by decide +kernel : decide (V.str "less" = V.str "input") = false)
theorem kind_nou : ∀ {r : Rk}, isNou r = false → decide (V.str r.kind = V.str "nought") = false
  | .is _ _ _, _ => (by decide +kernel : decide (V.str "is" = V.str "nought") = false)
  | .nought, h => nomatch h
  | .input z, h => (by decide +kernel : decide (V.str "input" = V.str "nought") = false)
  | .bin .plus _ _, _ => (by decide +kernel : decide (V.str "plus" = V.str "nought") = false)
  | .bin .minus _ _, _ => (by decide +kernel : decide (V.str "minus" = V.str "nought") = false)
  | .bin .times _ _, _ => (by decide +kernel : decide (V.str "times" = V.str "nought") = false)
  | .bin .over _ _, _ => (by decide +kernel : decide (V.str "over" = V.str "nought") = false)
  | .power _ _, _ => (by decide +kernel : decide (V.str "power" = V.str "nought") = false)
  | .less _ _ _ _, _ => (by decide +kernel : decide (V.str "less" = V.str "nought") = false)
/-- the table of how many parts a form has -/
structure PTab (K : PySem.W.Frag) (w : World) (mg : Str → Option Value) (pt : Addr) : Prop where
  g : mg "PARTS" = some (.ref pt)
  k : ∀ r : Rk, KDct K w pt r.kind (.int (r.parts.length : Nat))
theorem PTab.mk' {K : PySem.W.Frag} {w : World} {mg : Str → Option Value} {pt : Addr} {es : Array DictEntry} {n : Nat} {t1 t2 t3 t4 t5 t6 t7 t8 t9 : Tok}
    (g : mg "PARTS" = some (.ref pt)) (l : K.lookup pt = some ⟨.type "dict", none, .dict es n, #[]⟩) (kl : PySem.W.KeysLit w.params es.toList)
    (e1 : PySem.W.nsIn K pt "is" = some (some (.int 0 t1))) (e2 : PySem.W.nsIn K pt "nought" = some (some (.int 0 t2))) (e3 : PySem.W.nsIn K pt "input" = some (some (.int 0 t3)))
    (e4 : PySem.W.nsIn K pt "plus" = some (some (.int 2 t4))) (e5 : PySem.W.nsIn K pt "minus" = some (some (.int 2 t5))) (e6 : PySem.W.nsIn K pt "times" = some (some (.int 2 t6)))
    (e7 : PySem.W.nsIn K pt "over" = some (some (.int 2 t7))) (e8 : PySem.W.nsIn K pt "power" = some (some (.int 1 t8))) (e9 : PySem.W.nsIn K pt "less" = some (some (.int 4 t9))) : PTab K w mg pt :=
  ⟨g, fun r => match r with
    | .is _ _ _ => ⟨es, n, _, l, kl, e1, _, rfl⟩
    | .nought => ⟨es, n, _, l, kl, e2, _, rfl⟩
    | .input _ => ⟨es, n, _, l, kl, e3, _, rfl⟩
    | .bin .plus _ _ => ⟨es, n, _, l, kl, e4, _, rfl⟩
    | .bin .minus _ _ => ⟨es, n, _, l, kl, e5, _, rfl⟩
    | .bin .times _ _ => ⟨es, n, _, l, kl, e6, _, rfl⟩
    | .bin .over _ _ => ⟨es, n, _, l, kl, e7, _, rfl⟩
    | .power _ _ => ⟨es, n, _, l, kl, e8, _, rfl⟩
    | .less _ _ _ _ => ⟨es, n, _, l, kl, e9, _, rfl⟩⟩
end MK


set_option Elab.async false
set_option linter.all false
set_option maxRecDepth 100000
set_option maxHeartbeats 4000000
/-! {elt for target in iter if ..}, elt a text. An own error of any arguments, its context None. -/
namespace L2
open PySem PySem.Spec PyProof.Rows PpSet PySem.Froz
section
variable {X : Cx}
/-- set.add of a text -/
theorem addTx_ok {pins : List (Addr × Obj)} {σ : L2.St} {H : Hp} {s : Shared} {E : Value → Shared → Prop} {D : Addr} {l : List Str} {y : Str} {t : Tok} {Q : Value → Shared → Prop} (I : Inv X pins σ H s) (hD : H D = some (TxO X.prog X.w D l)) (room : l.length + 1 < scanBound)
    (h : ∀ s' l', (∀ z, z ∈ l' ↔ z = y ∨ z ∈ l) → l'.length ≤ l.length + 1 → Inv X pins σ (upd H D (TxO X.prog X.w D l')) s' → Q .none s') : wpAny (model X.prog X.w) X.A (call (.builtin "set.add") [.ref D, .str y t]) Q E s := by
  have R : MKS.TxAt X.prog X.w s.heap D l := (I.hok D _ hD).1
  have hT : Shared.TypeIs s (.ref D) "set" := by
    obtain ⟨d, e, _⟩ := id R
    exact ⟨_, e, rfl⟩
  refine wpAny_call_entry F.slot_set_add hT F.entry_set_add ?_ (F.args_set_add_2 _ _)
  unfold Builtin.«set.add» Builtin.Frozenset.oneOther
  simp only [List.isEmpty_nil, bind_assoc]
  unfold Builtin.Frozenset.addrOf setAdd
  refine wpAny_bind (wpAny_pure ?_)
  try dsimp only
  refine wpAny_bind (wpAny_pure ?_)
  try dsimp only
  refine wpAny_bind ?_
  refine wpAny_holding ?_
  refine wpAny_bind ((strKind X.prog X.w).pyHash (k := y) (is_str y t) ?_)
  refine MKS.add_any (s := { s with toks := s.toks + 1 }) R room fun b h' l' oth tx' mem' len' => ?_
  show wpAny _ _ (ret Value.none) _ _ _
  have he : ∃ u, h'.get? D = some u := by
    obtain ⟨d, e, _⟩ := id tx'
    exact ⟨_, e⟩
  exact wpAny_pure ⟨_, rfl, h _ l' mem' len' (I.write (e := D) (t' := s.toks + 1) (by rw [hD]; trivial) (.inl rfl) (fun b u hb hu => (oth b hb).trans hu) he (txO_new tx'))⟩
/-- {elt for target in iter if ..}, elt a text: D the new set -/
def tScT (P : Program) (w : World) (wi : TI) (g : TG) (tt : TT) (te : TE) (vs : List Nat) : TE := fun σ H Q => wi σ H fun J H1 => ∀ D, H1 D = none → ∃ W : Nat → Nat → Hp → Prop, (∃ m, W 0 m (upd H1 D (TxO P w D []))) ∧ ∀ i m H, W i m H →
  (J.stop i H ∧ Q (.ref D) H) ∨ (J.go i H ∧ ∃ Nx : Hp → Prop, (∀ H', Nx H' → ∃ m', m' < m ∧ W (i + 1) m' H') ∧ ∀ x H', J.yld i H x H' → g x (wipe σ vs) H' fun σ2 H2 => wipe σ2 vs = wipe σ vs ∧ tt σ2 H2 fun b H3 =>
    if b = true then te σ2 H3 fun y H4 => ∃ (z : Str) (l : List Str), y = .str z ∧ H4 D = some (TxO P w D l) ∧ l.length + 1 < scanBound ∧ ∀ l', (∀ u, u ∈ l' ↔ u = z ∨ u ∈ l) → l'.length ≤ l.length + 1 → Nx (upd H4 D (TxO P w D l')) else Nx H3)
theorem scT_core {pins : List (Addr × Obj)} {s : Shared} {σ : L2.St} {H : Hp} {Q : VK} {elt tg iter : Expr} {ifs : List Expr} {scope : Scope} {own : List (PySem.Str × Nat)} {pos pos' : Pos} {wi : TI} {g : TG} {tt : TT} {te : TE} {use : Option (Value → Sem Unit)} {Qf : Value → Shared → Prop}
    (hc : X.calm = true) (hN : X.N.Nodup) (I : Inv X pins σ H s) (hi : PI X tg iter wi) (ok : BlkOk X.N X.env.scope scope own)
    (hg : ∀ (s : Shared) (H : Hp) (C : Addr) (cl : List (PySem.Str × Addr)) (fp : List Addr), PG (X.blk s H scope (compEnvC scope cl C X.env) fp) tg g) (ht : ∀ (s : Shared) (H : Hp) (C : Addr) (cl : List (PySem.Str × Addr)) (fp : List Addr), PTs (X.blk s H scope (compEnvC scope cl C X.env) fp) ifs tt)
    (he : ∀ (s : Shared) (H : Hp) (C : Addr) (cl : List (PySem.Str × Addr)) (fp : List Addr), PE (X.blk s H scope (compEnvC scope cl C X.env) fp) elt te) (hs : ∀ x, foldedSetIterable iter X.env x = pure x)
    (h : tScT X.prog X.w wi g tt te (own.map (·.2)) σ H Q)
    (hRR : ∀ D C s' m H', Inv X pins σ H' s' → Q (.ref D) H' → s'.heap.Ns C m → FpOk X pins H' C → compPost (model X.prog X.w) X.A X.xe use Qf (.ref D) C (.ok .next) s') :
    wpAny (model X.prog X.w) X.A (comprehension (.SetComp elt [⟨tg, iter, ifs, 0⟩] scope pos) scope X.env pos' (newSet (.type "set")) false (eval iter X.env) use) Qf X.xe s := by
  have hfree : ∀ y ∈ scope.names, y.2 = .free → ∃ c, X.env.cells.lookup y.1 = some c := fun y hy e => by
    rcases ok.free y hy e with k | k
    · exact I.ok.has _ (.inl k)
    · exact I.ok.has _ (.inr k)
  refine wpAny_comprehension_free (use := use) rfl hs (closure_ok hfree) ok.kind (fun y hy e => by rw [ok.uniq y hy, e])
    (thn (hi.run pins s σ H _ I h) fun xv s1 hx => thn hx fun itv s2 h2 => ?_)
  obtain ⟨it, fp, tn, J, H2, e, I2, T, st2, f2, q⟩ := h2
  subst e
  refine newSet_ok (newEnv_comp ?_)
  generalize hD : s2.heap.objs.size = D
  have hDn : H2 D = none := I2.hok.fresh (Nat.le_of_eq hD)
  obtain ⟨W, ⟨m0, w0⟩, turn⟩ := q D hDn
  generalize hs3 : ({ s2 with heap := s2.heap.push { cls := .type "set", dict := none, data := .set #[] 0 (.fresh 0 0 (!X.w.params.followText "set-order")) } } : Shared) = s3
  have I3 : Inv X pins σ (upd H2 D (TxO X.prog X.w D [])) s3 := by
    rw [← hs3]
    refine I2.laid (t' := s2.toks) (fun b o e => Heap.get?_push_of_some _ e) (Nat.le_of_eq hD) ?_
    rw [← hD]
    exact txO_new (MKS.new_tx (Heap.get?_push_size _ rfl))
  have h3 : s3.heap = s2.heap.push { cls := .type "set", dict := none, data := .set #[] 0 (.fresh 0 0 (!X.w.params.followText "set-order")) } := by rw [← hs3]
  have sz : ∀ b ∈ fp, b < s2.heap.objs.size := fun b hb => by
    obtain ⟨o, e, _⟩ := T.obj _ _ st2 b hb
    exact Heap.lt_size e
  have f3 : ∀ b ∈ fp, FpOk X pins (upd H2 D (TxO X.prog X.w D [])) b ∧ b < s3.heap.objs.size := fun b hb => by
    have hlt := sz b hb
    refine ⟨⟨?_, (f2 b hb).2⟩, by rw [h3, Heap.size_push]; exact Nat.lt_succ_of_lt hlt⟩
    rw [upd_ne (by rw [← hD]; exact Nat.ne_of_lt hlt)]
    exact (f2 b hb).1
  have st3 : tn 0 s3.heap := T.keep _ _ _ st2 fun b _ o e => by rw [h3]; exact Heap.get?_push_of_some _ e
  have I4 := block_start I3 ok hN f3
  have pg := hg s3 (upd H2 D (TxO X.prog X.w D [])) s3.heap.objs.size (cellsFrom (s3.heap.objs.size + 1) scope.names (cloFrom X.env.cells scope.names [])) fp
  have pt := ht s3 (upd H2 D (TxO X.prog X.w D [])) s3.heap.objs.size (cellsFrom (s3.heap.objs.size + 1) scope.names (cloFrom X.env.cells scope.names [])) fp
  have pe := he s3 (upd H2 D (TxO X.prog X.w D [])) s3.heap.objs.size (cellsFrom (s3.heap.objs.size + 1) scope.names (cloFrom X.env.cells scope.names [])) fp
  show codeAny _ _ (.compStart (.SetComp elt [⟨tg, iter, ifs, 0⟩] scope pos) 0 (.ref it) (.ref D) (compEnvC scope (cellsFrom (s3.heap.objs.size + 1) scope.names (cloFrom X.env.cells scope.names [])) s3.heap.objs.size X.env)) (compPost (model X.prog X.w) X.A X.xe use Qf (.ref D) s3.heap.objs.size) { s3 with heap := pushCells (s3.heap.push { cls := .type "dict", data := .dict #[] }) scope.names }
  have nfp : ∀ b ∈ fp, (upd H2 D (TxO X.prog X.w D [])) b = none := fun b hb => (f3 b hb).1.1
  generalize hce : compEnvC scope (cellsFrom (s3.heap.objs.size + 1) scope.names (cloFrom X.env.cells scope.names [])) s3.heap.objs.size X.env = ce at I4 pg pt pe ⊢
  have cL : ce.locals = s3.heap.objs.size := by subst hce; rfl
  generalize hH3 : upd H2 D (TxO X.prog X.w D []) = H3 at I3 I4 pg pt pe w0 nfp f3
  generalize hs4 : ({ s3 with heap := pushCells (s3.heap.push { cls := .type "dict", data := .dict #[] }) scope.names } : Shared) = s4 at I4 ⊢
  have st4 : tn 0 s4.heap := T.keep _ _ _ st3 fun b _ o e => by rw [← hs4]; exact pushCells_keeps _ _ _ _ (Heap.get?_push_of_some _ e)
  have stat : ∀ {σ' : L2.St} {H' : Hp} {s' : Shared}, Inv (X.blk s3 H3 scope ce fp) [] σ' H' s' → (∀ b ∈ fp, H' b = none) → ∀ b ∈ fp, FpOk (X.blk s3 H3 scope ce fp) [] H' b := fun {σ' H' s'} I' hn b hb =>
    ⟨hn b hb, (I'.ok.exf b hb).1, I'.ok.exfs b hb, .inl hb, fun x c e => (I'.ok.exf b hb).2 x c e, fun p hp => absurd (show p ∈ ([] : List (Addr × Obj)) ++ [] from hp) (by simp)⟩
  have loop : codeAny (model X.prog X.w) X.A (.compLoop (.SetComp elt [⟨tg, iter, ifs, 0⟩] scope pos) 0 (.ref it) (.ref D) ce) (compPost (model X.prog X.w) X.A X.xe use Qf (.ref D) s3.heap.objs.size) s4 := by
    refine compLoopS_any (fun n s' => ∃ i H', Inv (X.blk s3 H3 scope ce fp) [] (wipe σ (own.map (·.2))) H' s' ∧ tn i s'.heap ∧ (∀ b ∈ fp, H' b = none) ∧ W i n H') ?_ m0 ⟨0, H3, I4, st4, nfp, w0⟩
    rintro n s5 ⟨i, H5, I5, st5, n5, w5⟩
    rcases turn i n H5 w5 with ⟨stop, qq⟩ | ⟨go, Nx, hNx, step⟩
    · have td := T.done (X.blk s3 H3 scope ce fp) rfl rfl rfl hc i [] s5 _ H5 (fun _ _ => False) I5 (stat I5 n5) st5 stop
      refine thnF td fun r s6 ⟨hr, I6⟩ => ?_
      subst hr
      have I7 : Inv X pins σ H5 s6 := I3.call' (ch := fp) I6.os I6.base I6.hok I6.bare fun b hb => ⟨(f3 b hb).1.2.2.2.1, (f3 b hb).1.2.1, (f3 b hb).1.2.2.2.2.1, (f3 b hb).1.2.2.2.2.2⟩
      have nC : H5 s3.heap.objs.size = none := by
        have z : H5 ce.locals = none := I6.free
        rw [cL] at z
        exact z
      obtain ⟨m, hn, _⟩ := I6.loc
      have hn : s6.heap.Ns ce.locals m := hn
      rw [cL] at hn
      exact hRR D s3.heap.objs.size s6 m H5 I7 qq hn (I3.fpOk (Nat.le_refl _) nC)
    · have ti := T.item (X.blk s3 H3 scope ce fp) rfl rfl rfl hc i [] s5 _ H5 (fun _ _ => False) I5 (stat I5 n5) st5 go
      refine thnF ti fun r s6 ⟨u, hr, h6⟩ => ?_
      subst hr
      refine thnF h6 fun _ s7 ⟨x, H7, I7, r7, y7, st7, n7⟩ => ?_
      have I7' := I7.pinned (stat I7 n7) (T.obj _ _ st7)
      refine thnF (pg.run _ s7 _ H7 x u _ I7' r7 (step x H7 y7)) fun _ s8 ⟨σ8, H8, I8, hw8, q8⟩ => ?_
      refine thnF (pt.run _ s8 σ8 H8 _ I8 q8) fun b s9 ⟨H9, I9, q9⟩ => ?_
      have fin : ∀ {s' : Shared} {H' : Hp}, Inv (X.blk s3 H3 scope ce fp) ([] ++ pinsAt fp s7.heap) σ8 H' s' → Nx H' → ∃ m, m < n ∧ ∃ i H', Inv (X.blk s3 H3 scope ce fp) [] (wipe σ (own.map (·.2))) H' s' ∧ tn i s'.heap ∧ (∀ b ∈ fp, H' b = none) ∧ W i m H' := fun {s' H'} I' nx => by
        obtain ⟨m', hm, w'⟩ := hNx H' nx
        have pin' : ∀ b ∈ fp, ∀ o, s7.heap.get? b = some o → s'.heap.get? b = some o ∧ H' b = none := fun b hb o e =>
          let z := I'.pin (b, o) (List.mem_append_right _ (List.mem_append_right _ (mem_pinsAt hb e)))
          ⟨z.1, z.2.1⟩
        have hl : (wipe σ (own.map (·.2))).length = σ8.length := by rw [← hw8, wipe_length]
        refine ⟨m', hm, i + 1, H', (I'.unpinned (pins := [])).weak hl (fun j v e => ?_), T.keep _ _ _ st7 fun b hb o e => (pin' b hb o e).1, fun b hb => ?_, w'⟩
        · rw [← hw8] at e
          exact (wipe_some e).1
        · obtain ⟨o, e, _⟩ := T.obj _ _ st7 b hb
          exact (pin' b hb o e).2
      cases b with
      | false =>
        simp only [Bool.false_eq_true, if_false] at q9 ⊢
        exact fin I9 q9
      | true =>
        simp only [if_true] at q9 ⊢
        refine thnF (pe.run _ s9 σ8 H9 _ I9 q9) fun z s10 ⟨yv, H10, I10, r10, zb, l0, ey, hD10, hz10, nx⟩ => ?_
        subst ey
        obtain ⟨t10, ez⟩ := (show ∃ t, z = Value.str zb t from r10)
        subst ez
        exact addTx_ok (X := X.blk s3 H3 scope ce fp) I10 hD10 hz10 fun s11 l' hm hl I11 => fin I11 (nx l' hm hl)
  exact codeAny_compStart_set loop (T.self X.A 0 _ _ _ st4 loop)
/-- as a value -/
theorem pe_scT {elt tg iter : Expr} {ifs : List Expr} {scope : Scope} {own : List (PySem.Str × Nat)} {pos : Pos} {wi : TI} {g : TG} {tt : TT} {te : TE} (hc : X.calm = true) (hN : X.N.Nodup) (hi : PI X tg iter wi) (ok : BlkOk X.N X.env.scope scope own)
    (hg : ∀ (s : Shared) (H : Hp) (C : Addr) (cl : List (PySem.Str × Addr)) (fp : List Addr), PG (X.blk s H scope (compEnvC scope cl C X.env) fp) tg g) (ht : ∀ (s : Shared) (H : Hp) (C : Addr) (cl : List (PySem.Str × Addr)) (fp : List Addr), PTs (X.blk s H scope (compEnvC scope cl C X.env) fp) ifs tt)
    (he : ∀ (s : Shared) (H : Hp) (C : Addr) (cl : List (PySem.Str × Addr)) (fp : List Addr), PE (X.blk s H scope (compEnvC scope cl C X.env) fp) elt te) (hs : ∀ x, foldedSetIterable iter X.env x = pure x := by intro _; rfl) :
    PE X (.SetComp elt [⟨tg, iter, ifs, 0⟩] scope pos) (tScT X.prog X.w wi g tt te (own.map (·.2))) := by
  refine ⟨fun pins s σ H Q I h => ?_⟩
  rw [eval_SetComp]
  refine scT_core hc hN I hi ok hg ht he hs h fun D C s' m H' I' q hn f => ⟨m, hn, fun h'' sb => ?_⟩
  obtain ⟨f0, f1, f2, f3, f4, f5⟩ := f
  exact ⟨.ref D, H', I'.turned (t' := s'.toks) (fun b o hb e => (sb.2 b hb).trans e) f0 f1 f3 f4 f5, rfl, q⟩
end
/-- over a list that the block leaves as it is -/
theorem scT_list {P : Program} {w : World} {K : PySem.W.Frag} {a : Addr} {xs : List V} {g : TG} {tt : TT} {te : TE} {vs : List Nat} {σ : L2.St} {H1 : Hp} {D : Addr} {Qd : Hp → Prop} (Pv : Nat → Hp → Prop) (h0 : Pv 0 (upd H1 D (TxO P w D []))) (hl : ∀ i H, i ≤ xs.length → Pv i H → SqL K H a xs)
    (hs : ∀ i x H, xs[i]? = some x → Pv i H → g x (wipe σ vs) H fun σ2 H2 => wipe σ2 vs = wipe σ vs ∧ tt σ2 H2 fun b H3 =>
      if b = true then te σ2 H3 fun y H4 => ∃ (z : Str) (l : List Str), y = .str z ∧ H4 D = some (TxO P w D l) ∧ l.length + 1 < scanBound ∧ ∀ l', (∀ u, u ∈ l' ↔ u = z ∨ u ∈ l) → l'.length ≤ l.length + 1 → Pv (i + 1) (upd H4 D (TxO P w D l')) else Pv (i + 1) H3) (hd : ∀ H, Pv xs.length H → Qd H) :
    ∃ W : Nat → Nat → Hp → Prop, (∃ m, W 0 m (upd H1 D (TxO P w D []))) ∧ ∀ i m H, W i m H →
      ((Itl K a).stop i H ∧ Qd H) ∨ ((Itl K a).go i H ∧ ∃ Nx : Hp → Prop, (∀ H', Nx H' → ∃ m', m' < m ∧ W (i + 1) m' H') ∧ ∀ x H', (Itl K a).yld i H x H' → g x (wipe σ vs) H' fun σ2 H2 => wipe σ2 vs = wipe σ vs ∧ tt σ2 H2 fun b H3 =>
        if b = true then te σ2 H3 fun y H4 => ∃ (z : Str) (l : List Str), y = .str z ∧ H4 D = some (TxO P w D l) ∧ l.length + 1 < scanBound ∧ ∀ l', (∀ u, u ∈ l' ↔ u = z ∨ u ∈ l) → l'.length ≤ l.length + 1 → Nx (upd H4 D (TxO P w D l')) else Nx H3) := by
  refine ⟨fun i m H => m = xs.length - i ∧ i ≤ xs.length ∧ Pv i H, ⟨xs.length, by simp, Nat.zero_le _, h0⟩, ?_⟩
  rintro i m H ⟨rfl, hi, p⟩
  have q := hl i H hi p
  by_cases hlt : i < xs.length
  · refine .inr ⟨⟨xs, xs[i], q, by simp [hlt]⟩, Pv (i + 1), fun H' p' => ⟨xs.length - (i + 1), by omega, rfl, hlt, p'⟩, fun x H' y => ?_⟩
    obtain ⟨e, y⟩ := y
    subst e
    exact hs i x _ (y xs q) p
  · have e : i = xs.length := by omega
    subst e
    exact .inl ⟨⟨xs, q, Nat.le_refl _⟩, hd H p⟩
end L2
namespace L2N
open PySem PySem.Spec PyProof.Rows L2
/-- X(e, ..), X an own error class without own __init__ -/
theorem pmk_ownA {X : Cx} {pos : Pos} {C : Addr} {bmB : List Value} {B newId initId : String} {x : Str} {p : Pos} {e : Expr} {es : List Expr} {t : TA} (F : ExcBaseFacts B newId initId bmB) (q : PySem.W.excIn X.K C bmB newId = true) (gC : X.mg x = some (.ref C))
    (kC : PySem.W.keepIn X.K (.ref C) = true) (r : Raises X (.ref C)) (hg : Gl X x) (ha : PA X (e :: es) t) (hdb : (x == ("__debug__" : Str)) = false := by decide)
    (he : starEach (e :: es) X.env = (false, eval e X.env) :: starEach es X.env := by rfl) (hpl : (backTo pos (starEach es X.env)).any (·.1) = false := by rfl) :
    PMk X (.Call (.Name x p) (e :: es) [] pos) (fun σ H Q => t σ H fun vs H1 => vs.length ≤ sizeLine ∧ Q (.ref C) none H1) := by
  intro pins s σ H Q I h
  refine wpAny_Call_Name_kw (ld_glob I hg gC ?_ hdb)
  refine PySem.W.callWith_K (h₀ := X.base) I.ok.mod.kin kC (thn (ha.run pos pins s σ H _ I h) fun us s1 ⟨vs, H1, I1, r1, hz, q1⟩ => ⟨I1.kIn, ?_⟩) he hpl
  show wpAny _ _ (call (.ref C) us) _ _ _
  obtain ⟨bm, N, nm, qn, bs, hdct, sn, sub, ab, col, dd, k0, k1, k2, k3, k5, mN, hC, hN, hni, T⟩ := exc_obj I1.kIn q
  refine wpAny_call_exc_subT F T hC hN hni (fun h' e hm => ?_) (by rw [← r1.length]; exact hz)
  exact mk_of I1 hm r q1 (I1.hok.gone hm.new)
end L2N


set_option Elab.async false
set_option linter.all false
set_option maxRecDepth 100000
set_option maxHeartbeats 4000000
/-! The pairs that have to be alike; heaps that are alike but at two lists. -/
namespace MK
open PySem PySem.Spec PyProof.Rows L2
/-- the pairs of measures that have to be alike, from left to right -/
noncomputable def prs (env : Str → Ms) : Rk → List Ms → List (Ms × Ms)
  | .is _ _ _, _ => []
  | .nought, _ => []
  | .input _, _ => []
  | .bin o a b, g => match o with
    | .times => prs env a g ++ prs env b (g.drop a.noughts)
    | .over => prs env a g ++ prs env b (g.drop a.noughts)
    | _ => prs env a g ++ prs env b (g.drop a.noughts) ++ [((walk env a g).1, (walk env b (g.drop a.noughts)).1)]
  | .power a _, g => prs env a g
  | .less a b c d, g => prs env a g ++ prs env b (g.drop a.noughts) ++ prs env c (g.drop (a.noughts + b.noughts)) ++ prs env d (g.drop (a.noughts + b.noughts + c.noughts)) ++
      [((walk env a g).1, (walk env b (g.drop a.noughts)).1)] ++ [((walk env c (g.drop (a.noughts + b.noughts))).1, (walk env d (g.drop (a.noughts + b.noughts + c.noughts))).1)]
/-- one over the other -/
noncomputable def ovr (p : Ms × Ms) : Ms := mulC p.1 p.2 (-1)
theorem prs_rows (env : Str → Ms) : ∀ (r : Rk) (g : List Ms), (walk env r g).2 = (prs env r g).map ovr
  | .is _ _ _, _ => rfl
  | .nought, _ => rfl
  | .input _, _ => rfl
  | .bin .times a b, g => by
    show (walk env a g).2 ++ (walk env b (g.drop a.noughts)).2 = (prs env a g ++ prs env b (g.drop a.noughts)).map ovr
    rw [List.map_append, prs_rows env a, prs_rows env b]
  | .bin .over a b, g => by
    show (walk env a g).2 ++ (walk env b (g.drop a.noughts)).2 = (prs env a g ++ prs env b (g.drop a.noughts)).map ovr
    rw [List.map_append, prs_rows env a, prs_rows env b]
  | .bin .plus a b, g => by
    show (walk env a g).2 ++ (walk env b (g.drop a.noughts)).2 ++ [_] = (prs env a g ++ prs env b (g.drop a.noughts) ++ [_]).map ovr
    rw [List.map_append, List.map_append, prs_rows env a, prs_rows env b]
    rfl
  | .bin .minus a b, g => by
    show (walk env a g).2 ++ (walk env b (g.drop a.noughts)).2 ++ [_] = (prs env a g ++ prs env b (g.drop a.noughts) ++ [_]).map ovr
    rw [List.map_append, List.map_append, prs_rows env a, prs_rows env b]
    rfl
  | .power a n, g => prs_rows env a g
  | .less a b c d, g => by
    show (walk env a g).2 ++ (walk env b (g.drop a.noughts)).2 ++ (walk env c (g.drop (a.noughts + b.noughts))).2 ++ (walk env d (g.drop (a.noughts + b.noughts + c.noughts))).2 ++ [_] ++ [_] =
      (prs env a g ++ prs env b (g.drop a.noughts) ++ prs env c (g.drop (a.noughts + b.noughts)) ++ prs env d (g.drop (a.noughts + b.noughts + c.noughts)) ++ [_] ++ [_]).map ovr
    rw [List.map_append, List.map_append, List.map_append, List.map_append, List.map_append, prs_rows env a, prs_rows env b, prs_rows env c, prs_rows env d]
    rfl
theorem prs_len (env : Str → Ms) (r : Rk) (g : List Ms) : (prs env r g).length + 1 ≤ r.lvs := by
  have h := walk_len env r g
  rw [prs_rows, List.length_map] at h
  exact h
noncomputable def prss (env : Str → Ms) : List Rk → List Ms → List (List (Ms × Ms))
  | [], _ => []
  | x :: r, g => prs env x g :: prss env r (g.drop x.noughts)
theorem prss_len (env : Str → Ms) : ∀ (l : List Rk) (g : List Ms), (prss env l g).length = l.length
  | [], _ => rfl
  | x :: r, g => congrArg (· + 1) (prss_len env r (g.drop x.noughts))
theorem prss_at (env : Str → Ms) : ∀ (l : List Rk) (g : List Ms) {i : Nat} {x : Rk}, l[i]? = some x → (prss env l g)[i]? = some (prs env x (g.drop (nsum (l.take i))))
  | [], g, i, x, h => by simp at h
  | y :: r, g, 0, x, h => by
    obtain rfl : y = x := Option.some.inj h
    show some (prs env y g) = _
    rw [List.take_zero]
    rfl
  | y :: r, g, i + 1, x, h => by
    have e := prss_at env r (g.drop y.noughts) (i := i) (x := x) (by simpa using h)
    show (prss env r (g.drop y.noughts))[i]? = _
    rw [e, List.drop_drop]
    rfl
theorem prss_flat (env : Str → Ms) : ∀ (l : List Rk) (g : List Ms), (prss env l g).flatten.length ≤ (l.map Rk.lvs).sum
  | [], _ => Nat.zero_le _
  | x :: r, g => by
    have h1 := prs_len env x g
    have h2 := prss_flat env r (g.drop x.noughts)
    show (prs env x g ++ (prss env r (g.drop x.noughts)).flatten).length ≤ x.lvs + (r.map Rk.lvs).sum
    rw [List.length_append]
    omega
theorem prss_take (env : Str → Ms) : ∀ (l : List Rk) (g : List Ms) (i : Nat), (prss env l g).take i = prss env (l.take i) g
  | [], _, i => by
    rw [List.take_nil]
    exact List.take_nil
  | x :: r, g, 0 => rfl
  | x :: r, g, i + 1 => congrArg (_ :: ·) (prss_take env r (g.drop x.noughts) i)
theorem lvs_take : ∀ {l : List Rk} {i : Nat} {x : Rk}, l[i]? = some x → ((l.take i).map Rk.lvs).sum + x.lvs ≤ (l.map Rk.lvs).sum
  | [], i, x, h => by simp at h
  | y :: r, 0, x, h => by
    obtain rfl : y = x := Option.some.inj h
    show 0 + y.lvs ≤ y.lvs + (r.map Rk.lvs).sum
    omega
  | y :: r, i + 1, x, h => by
    have := lvs_take (l := r) (i := i) (x := x) (by simpa using h)
    show y.lvs + ((r.take i).map Rk.lvs).sum + x.lvs ≤ y.lvs + (r.map Rk.lvs).sum
    omega
theorem flatten_more {α : Type} {l : List (List α)} {i : Nat} {x : List α} (h : l[i]? = some x) : (l.take (i + 1)).flatten = (l.take i).flatten ++ x := by
  rw [take_more h, List.flatten_append]
  show _ ++ (x ++ []) = _
  rw [List.append_nil]
theorem flatten_le {α : Type} (l : List (List α)) (i : Nat) : (l.take i).flatten.length ≤ l.flatten.length := by
  conv => rhs; rw [← List.take_append_drop i l, List.flatten_append, List.length_append]
  exact Nat.le_add_right _ _
/-- each pair's measures are small -/
theorem prs_b {env : Str → Ms} {l b : Nat} (he : ∀ s, MsB l b (env s)) (l6 : 6 ≤ l) (b5 : 5 ≤ b) : ∀ {r : Rk} {g : List Ms}, r.Ok → (∀ m ∈ g, MsB l b m) → ∀ p ∈ prs env r g, MsB (l * r.lvs) (b + 3 * r.deep) p.1 ∧ MsB (l * r.lvs) (b + 3 * r.deep) p.2
  | .is _ _ _, g, _, _, p, hp => absurd (show p ∈ [] from hp) (by simp)
  | .nought, g, _, _, p, hp => absurd (show p ∈ [] from hp) (by simp)
  | .input _, g, _, _, p, hp => absurd (show p ∈ [] from hp) (by simp)
  | .bin o a c, g, ⟨o1, o2⟩, hg, p, hp => by
    have hd : ∀ m ∈ g.drop a.noughts, MsB l b m := fun m hm => hg m (List.mem_of_mem_drop hm)
    have w1 := walk_b he l6 b5 (g := g) o1 hg
    have w2 := walk_b he l6 b5 (g := g.drop a.noughts) o2 hd
    have e : (Rk.bin o a c).deep = 1 + max a.deep c.deep := rfl
    have e2 : l * (Rk.bin o a c).lvs = l * a.lvs + l * c.lvs := Nat.mul_add l a.lvs c.lvs
    have h1 : p ∈ prs env a g → MsB (l * (Rk.bin o a c).lvs) (b + 3 * (Rk.bin o a c).deep) p.1 ∧ MsB (l * (Rk.bin o a c).lvs) (b + 3 * (Rk.bin o a c).deep) p.2 := fun h =>
      ⟨(prs_b he l6 b5 o1 hg p h).1.mono (by omega) (by omega), (prs_b he l6 b5 o1 hg p h).2.mono (by omega) (by omega)⟩
    have h2 : p ∈ prs env c (g.drop a.noughts) → MsB (l * (Rk.bin o a c).lvs) (b + 3 * (Rk.bin o a c).deep) p.1 ∧ MsB (l * (Rk.bin o a c).lvs) (b + 3 * (Rk.bin o a c).deep) p.2 := fun h =>
      ⟨(prs_b he l6 b5 o2 hd p h).1.mono (by omega) (by omega), (prs_b he l6 b5 o2 hd p h).2.mono (by omega) (by omega)⟩
    have h3 : p = ((walk env a g).1, (walk env c (g.drop a.noughts)).1) → MsB (l * (Rk.bin o a c).lvs) (b + 3 * (Rk.bin o a c).deep) p.1 ∧ MsB (l * (Rk.bin o a c).lvs) (b + 3 * (Rk.bin o a c).deep) p.2 := fun h => by
      rw [h]
      exact ⟨w1.mono (by omega) (by omega), w2.mono (by omega) (by omega)⟩
    cases o with
    | times => exact (List.mem_append.mp (show p ∈ prs env a g ++ prs env c (g.drop a.noughts) from hp)).elim h1 h2
    | over => exact (List.mem_append.mp (show p ∈ prs env a g ++ prs env c (g.drop a.noughts) from hp)).elim h1 h2
    | plus => exact (List.mem_append.mp (show p ∈ prs env a g ++ prs env c (g.drop a.noughts) ++ [_] from hp)).elim (fun h => (List.mem_append.mp h).elim h1 h2) fun h => h3 (List.mem_singleton.mp h)
    | minus => exact (List.mem_append.mp (show p ∈ prs env a g ++ prs env c (g.drop a.noughts) ++ [_] from hp)).elim (fun h => (List.mem_append.mp h).elim h1 h2) fun h => h3 (List.mem_singleton.mp h)
  | .power a n, g, ⟨o1, _, _⟩, hg, p, hp => by
    have e : (Rk.power a n).deep = 1 + a.deep := rfl
    have e2 : (Rk.power a n).lvs = a.lvs := rfl
    have h := prs_b he l6 b5 o1 hg p hp
    rw [e2]
    exact ⟨h.1.mono (Nat.le_refl _) (by omega), h.2.mono (Nat.le_refl _) (by omega)⟩
  | .less a c d f, g, ⟨o1, o2, o3, o4⟩, hg, p, hp => by
    have hd : ∀ k, ∀ m ∈ g.drop k, MsB l b m := fun k m hm => hg m (List.mem_of_mem_drop hm)
    have e : (Rk.less a c d f).deep = 1 + max (max a.deep c.deep) (max d.deep f.deep) := rfl
    have e2 : l * (Rk.less a c d f).lvs = l * a.lvs + l * c.lvs + l * d.lvs + l * f.lvs := by
      show l * (a.lvs + c.lvs + d.lvs + f.lvs) = _
      rw [Nat.mul_add, Nat.mul_add, Nat.mul_add]
    have up : ∀ {x : Rk} {k : Nat}, x.Ok → x.deep < (Rk.less a c d f).deep → l * x.lvs ≤ l * (Rk.less a c d f).lvs → p ∈ prs env x (g.drop k) → MsB (l * (Rk.less a c d f).lvs) (b + 3 * (Rk.less a c d f).deep) p.1 ∧ MsB (l * (Rk.less a c d f).lvs) (b + 3 * (Rk.less a c d f).deep) p.2 → True := fun _ _ _ _ _ => trivial
    have w1 := walk_b he l6 b5 (g := g) o1 hg
    have w2 := walk_b he l6 b5 (g := g.drop a.noughts) o2 (hd _)
    have w3 := walk_b he l6 b5 (g := g.drop (a.noughts + c.noughts)) o3 (hd _)
    have w4 := walk_b he l6 b5 (g := g.drop (a.noughts + c.noughts + d.noughts)) o4 (hd _)
    have hp : p ∈ prs env a g ++ prs env c (g.drop a.noughts) ++ prs env d (g.drop (a.noughts + c.noughts)) ++ prs env f (g.drop (a.noughts + c.noughts + d.noughts)) ++
      [((walk env a g).1, (walk env c (g.drop a.noughts)).1)] ++ [((walk env d (g.drop (a.noughts + c.noughts))).1, (walk env f (g.drop (a.noughts + c.noughts + d.noughts))).1)] := hp
    simp only [List.mem_append, List.mem_singleton] at hp
    rcases hp with ((((h | h) | h) | h) | h) | h
    · exact ⟨(prs_b he l6 b5 o1 hg p h).1.mono (by omega) (by omega), (prs_b he l6 b5 o1 hg p h).2.mono (by omega) (by omega)⟩
    · exact ⟨(prs_b he l6 b5 o2 (hd _) p h).1.mono (by omega) (by omega), (prs_b he l6 b5 o2 (hd _) p h).2.mono (by omega) (by omega)⟩
    · exact ⟨(prs_b he l6 b5 o3 (hd _) p h).1.mono (by omega) (by omega), (prs_b he l6 b5 o3 (hd _) p h).2.mono (by omega) (by omega)⟩
    · exact ⟨(prs_b he l6 b5 o4 (hd _) p h).1.mono (by omega) (by omega), (prs_b he l6 b5 o4 (hd _) p h).2.mono (by omega) (by omega)⟩
    · rw [h]
      exact ⟨w1.mono (by omega) (by omega), w2.mono (by omega) (by omega)⟩
    · rw [h]
      exact ⟨w3.mono (by omega) (by omega), w4.mono (by omega) (by omega)⟩
/-! ### letters -/
theorem mulC_in {m n : Ms} {x : Int} {G : Str → Prop} (hm : ∀ p ∈ m, G p.1) (hn : ∀ p ∈ n, G p.1) : ∀ p ∈ mulC m n x, G p.1 := fun p hp => by
  by_cases e : ∃ r, IsTms m n x r
  · obtain ⟨r, t⟩ := e
    rw [mulC_is t] at hp
    obtain ⟨c, eq⟩ := t
    have q := (c.mem p.1 p.2).mp hp
    by_cases z1 : at0 m p.1 = 0
    · refine hn (p.1, at0 n p.1) (at0_mem fun z2 => q.1 ?_)
      rw [← q.2, eq, z1, z2]
      omega
    · exact hm (p.1, at0 m p.1) (at0_mem z1)
  · unfold mulC at hp
    rw [dif_neg e] at hp
    exact absurd hp (by simp)
theorem walk_in {env : Str → Ms} {G : Str → Prop} (he : ∀ s, ∀ p ∈ env s, G p.1) (hG : ∀ z, Nm z → G z) : ∀ {r : Rk} {g : List Ms}, r.Ok → (∀ m ∈ g, ∀ p ∈ m, G p.1) → ∀ p ∈ (walk env r g).1, G p.1
  | .is x y m, g, ⟨_, _, _, h⟩, _ => fun p hp => hG _ (h.nm p hp)
  | .nought, g, _, hg => fun p hp => by
    cases g with
    | nil => exact absurd (show p ∈ [] from hp) (by simp)
    | cons m g => exact hg m List.mem_cons_self p hp
  | .input s, g, _, _ => he s
  | .bin o a c, g, ⟨o1, o2⟩, hg => by
    have h1 := walk_in he hG (g := g) o1 hg
    have h2 := walk_in he hG (g := g.drop a.noughts) o2 fun m hm => hg m (List.mem_of_mem_drop hm)
    cases o with
    | times => exact mulC_in h1 h2
    | over => exact mulC_in h1 h2
    | plus => exact h1
    | minus => exact h1
  | .power a n, g, ⟨o1, _, _⟩, hg => mulC_in (fun p hp => absurd hp (by simp)) (walk_in he hG (g := g) o1 hg)
  | .less a c d f, g, ⟨_, _, o3, _⟩, hg => walk_in he hG (g := g.drop (a.noughts + c.noughts)) o3 fun m hm => hg m (List.mem_of_mem_drop hm)
theorem prs_in {env : Str → Ms} {G : Str → Prop} (he : ∀ s, ∀ p ∈ env s, G p.1) (hG : ∀ z, Nm z → G z) : ∀ {r : Rk} {g : List Ms}, r.Ok → (∀ m ∈ g, ∀ p ∈ m, G p.1) → ∀ q ∈ prs env r g, (∀ p ∈ q.1, G p.1) ∧ ∀ p ∈ q.2, G p.1
  | .is _ _ _, g, _, _, q, hq => absurd (show q ∈ [] from hq) (by simp)
  | .nought, g, _, _, q, hq => absurd (show q ∈ [] from hq) (by simp)
  | .input _, g, _, _, q, hq => absurd (show q ∈ [] from hq) (by simp)
  | .bin o a c, g, ⟨o1, o2⟩, hg, q, hq => by
    have hd : ∀ m ∈ g.drop a.noughts, ∀ p ∈ m, G p.1 := fun m hm => hg m (List.mem_of_mem_drop hm)
    have w1 := walk_in he hG (g := g) o1 hg
    have w2 := walk_in he hG (g := g.drop a.noughts) o2 hd
    have h1 := prs_in he hG (g := g) o1 hg q
    have h2 := prs_in he hG (g := g.drop a.noughts) o2 hd q
    have h3 : q = ((walk env a g).1, (walk env c (g.drop a.noughts)).1) → (∀ p ∈ q.1, G p.1) ∧ ∀ p ∈ q.2, G p.1 := fun h => by
      rw [h]
      exact ⟨w1, w2⟩
    cases o with
    | times => exact (List.mem_append.mp (show q ∈ prs env a g ++ prs env c (g.drop a.noughts) from hq)).elim h1 h2
    | over => exact (List.mem_append.mp (show q ∈ prs env a g ++ prs env c (g.drop a.noughts) from hq)).elim h1 h2
    | plus => exact (List.mem_append.mp (show q ∈ prs env a g ++ prs env c (g.drop a.noughts) ++ [_] from hq)).elim (fun h => (List.mem_append.mp h).elim h1 h2) fun h => h3 (List.mem_singleton.mp h)
    | minus => exact (List.mem_append.mp (show q ∈ prs env a g ++ prs env c (g.drop a.noughts) ++ [_] from hq)).elim (fun h => (List.mem_append.mp h).elim h1 h2) fun h => h3 (List.mem_singleton.mp h)
  | .power a n, g, ⟨o1, _, _⟩, hg, q, hq => prs_in he hG o1 hg q hq
  | .less a c d f, g, ⟨o1, o2, o3, o4⟩, hg, q, hq => by
    have hd : ∀ k, ∀ m ∈ g.drop k, ∀ p ∈ m, G p.1 := fun k m hm => hg m (List.mem_of_mem_drop hm)
    have hq : q ∈ prs env a g ++ prs env c (g.drop a.noughts) ++ prs env d (g.drop (a.noughts + c.noughts)) ++ prs env f (g.drop (a.noughts + c.noughts + d.noughts)) ++
      [((walk env a g).1, (walk env c (g.drop a.noughts)).1)] ++ [((walk env d (g.drop (a.noughts + c.noughts))).1, (walk env f (g.drop (a.noughts + c.noughts + d.noughts))).1)] := hq
    simp only [List.mem_append, List.mem_singleton] at hq
    rcases hq with ((((h | h) | h) | h) | h) | h
    · exact prs_in he hG o1 hg q h
    · exact prs_in he hG o2 (hd _) q h
    · exact prs_in he hG o3 (hd _) q h
    · exact prs_in he hG o4 (hd _) q h
    · rw [h]
      exact ⟨walk_in he hG o1 hg, walk_in he hG o2 (hd _)⟩
    · rw [h]
      exact ⟨walk_in he hG o3 (hd _), walk_in he hG o4 (hd _)⟩
/-! ### heaps -/
/-- what stands there stays, but at a and b -/
def But (a b : Addr) (H H' : Hp) : Prop := ∀ c x, c ≠ a → c ≠ b → H c = some x → H' c = some x
theorem But.of {a b : Addr} {H H' : Hp} (s : Same H H') : But a b H H' := fun c x _ _ h => s c x h
theorem But.trans {a b : Addr} {H H1 H2 : Hp} (h : But a b H H1) (g : But a b H1 H2) : But a b H H2 := fun c x n1 n2 e => g c x n1 n2 (h c x n1 n2 e)
theorem But.upd1 {a b : Addr} {H H' : Hp} {o : HO} (h : But a b H H') : But a b H (L2.upd H' a o) := fun c x n1 n2 e => by
  rw [upd_ne n1]
  exact h c x n1 n2 e
theorem But.upd2 {a b : Addr} {H H' : Hp} {o : HO} (h : But a b H H') : But a b H (L2.upd H' b o) := fun c x n1 n2 e => by
  rw [upd_ne n2]
  exact h c x n1 n2 e
theorem But.updN {a b d : Addr} {H H' : Hp} {o : HO} (h : But a b H H') (n : H d = none) : But a b H (L2.upd H' d o) := fun c x n1 n2 e => by
  rw [upd_ne (fun z => by rw [z, n] at e; cases e)]
  exact h c x n1 n2 e
/-- what is no list stays -/
def Fx (H H' : Hp) : Prop := ∀ c x, (∀ zs, x ≠ .lst zs) → H c = some x → H' c = some x
theorem Fx.of {H H' : Hp} (s : Same H H') : Fx H H' := fun c x _ h => s c x h
theorem Fx.trans {H H1 H2 : Hp} (h : Fx H H1) (g : Fx H1 H2) : Fx H H2 := fun c x n e => g c x n (h c x n e)
theorem Fx.lst {H : Hp} {d : Addr} {xs : List V} {o : HO} (h : H d = some (.lst xs)) : Fx H (L2.upd H d o) := fun c x n e => fne h e fun z => n _ z
theorem But.fx {a b : Addr} {H H' : Hp} {xs ys : List V} (h : But a b H H') (ha : H a = some (.lst xs)) (hb : H b = some (.lst ys)) : Fx H H' := fun c x n e =>
  h c x (fun z => n _ (by rw [z, ha] at e; exact (Option.some.inj e).symm)) (fun z => n _ (by rw [z, hb] at e; exact (Option.some.inj e).symm)) e
theorem pr_fx {H H' : Hp} {ts : List Addr} {m : Ms} (s : Fx H H') (p : Paired (PrAt H) ts m) : Paired (PrAt H') ts m := Paired.mono (fun _ q z => s _ (.tup [.str q.1, .int q.2]) (fun _ e => nomatch e) z) p
theorem MsN.fx {H H' : Hp} {b : Addr} {m : Ms} (s : Fx H H') (h : MsN H b m) : MsN H' b m := by
  obtain ⟨ts, ⟨o, e, d⟩, p⟩ := h
  exact ⟨ts, ⟨o, s _ _ (fun _ e => nomatch e) e, d⟩, pr_fx s p⟩
theorem TrAt.fx {H H' : Hp} (s : Fx H H') : ∀ {r : Rk} {p : Addr}, TrAt H r p → TrAt H' r p
  | .is x y m, p, ⟨q, b, h1, h2, h3⟩ => ⟨q, b, s _ _ (fun _ e => nomatch e) h1, s _ _ (fun _ e => nomatch e) h2, h3.fx s⟩
  | .nought, p, h => s p _ (fun _ e => nomatch e) h
  | .input z, p, h => s p _ (fun _ e => nomatch e) h
  | .bin o a b, p, ⟨q, r, h1, h2, h3⟩ => ⟨q, r, s _ _ (fun _ e => nomatch e) h1, TrAt.fx s h2, TrAt.fx s h3⟩
  | .power a n, p, ⟨q, h1, h2⟩ => ⟨q, s _ _ (fun _ e => nomatch e) h1, TrAt.fx s h2⟩
  | .less a b c d, p, ⟨q, r, u, v, h1, h2, h3, h4, h5⟩ => ⟨q, r, u, v, s _ _ (fun _ e => nomatch e) h1, TrAt.fx s h2, TrAt.fx s h3, TrAt.fx s h4, TrAt.fx s h5⟩
theorem NmAt.fx {H H' : Hp} {d : Addr} {ads : List (Str × Addr)} {fl : List (Str × Ms)} (s : Fx H H') (h : NmAt H d ads fl) : NmAt H' d ads fl := ⟨s _ _ (fun _ e => nomatch e) h.1, Paired.mono (fun x y z => ⟨z.1, z.2.fx s⟩) h.2⟩
/-- at q the pair of two measures -/
def PrMs (H : Hp) (q : Addr) (p : Ms × Ms) : Prop := ∃ a b, H q = some (.tup [.ref a, .ref b]) ∧ MsN H a p.1 ∧ MsN H b p.2
theorem PrMs.fx {H H' : Hp} {q : Addr} {p : Ms × Ms} (s : Fx H H') (h : PrMs H q p) : PrMs H' q p := by
  obtain ⟨a, b, h1, h2, h3⟩ := h
  exact ⟨a, b, s _ _ (fun _ e => nomatch e) h1, h2.fx s, h3.fx s⟩
theorem nmr_keys {H : Hp} {ads : List (Str × Addr)} {fl : List (Str × Ms)} (p : Paired (NmR H) ads fl) : ads.map (·.1) = fl.map (·.1) := by
  induction p with
  | nil => rfl
  | cons h _ ih => rw [List.map_cons, List.map_cons, h.1, ih]
theorem msN_dict {H : Hp} {D b : Addr} {kvs : List (L2.Key × V)} {o : HO} {m : Ms} (h : MsN H b m) (hD : H D = some (.dK kvs)) : MsN (L2.upd H D o) b m := by
  obtain ⟨ts, ⟨ob, e, d⟩, p⟩ := h
  refine ⟨ts, ⟨ob, ?_, d⟩, Paired.mono (fun t q z => ?_) p⟩
  · rw [upd_ne (ne_of e hD (fun e => nomatch e))]
    exact e
  · show L2.upd H D o t = _
    rw [upd_ne (ne_of z hD (fun e => nomatch e))]
    exact z
end MK


set_option Elab.async false
set_option linter.all false
set_option maxRecDepth 100000
set_option maxHeartbeats 4000000
/-! Dict comprehensions: over a list, over a dict's items, stored in a name; a new dict locked from here on. -/
namespace L2
open PySem PySem.Spec PyProof.Rows
section
variable {X : Cx}
/-- the object that e tells, locked from here on -/
def tFrz (t : TE) : TE := fun σ H Q => t σ H fun x H1 => ∃ d u, x = .ref d ∧ H1 d = some u ∧ Mut (some u) ∧ ∀ od, Q (.ref d) (upd H1 d (.frz od u))
theorem pe_frz {e : Expr} {t : TE} (h : PE X e t) : PE X e (tFrz t) := by
  refine ⟨fun pins s σ H Q I hw => ?_⟩
  refine thn (h.run pins s σ H _ I hw) fun v s1 ⟨x, H1, I1, r, d, u, ex, hd, mu, q⟩ => ?_
  subst ex
  obtain ⟨od, I2⟩ := I1.lock hd mu
  exact ⟨_, _, I2, r, q od⟩
/-- a written tuple that bears no dict, under a name -/
def tTupN (t : TA) : TE := fun σ H Q => t σ H fun xs H1 => xs.length ≤ sizeLine ∧ ∀ (p : Addr) (o : Obj), H1 p = none → o.dict = none → Q (.ref p) (upd H1 p (.frz o (.tup xs)))
theorem pe_tupM {es : List Expr} {t : TA} {pos : Pos} {x1 : Nat} (h : PA X es t) : PE X (.Tuple es x1 pos) (tTupN t) := pe_tupN h
/-- a dict comprehension, as it is stored in a name -/
theorem sw_trueD {kx vx : Expr} {gs : List Comprehension} {scope : Scope} {pos py : Pos} {y : Str} {l : Nat} {env : Env} (hk : env.scope.kind = .function) (hy : env.scope.names.lookup y = some .local) (hl : (py.line == pos.line) = true)
    (ha : (scope.names.any fun (n, k) => n == y && (k == .local || k == .cell)) = false) : swapsWith (.DictComp kx vx gs scope pos) (some (.Name y py)) l env = pure true := by
  have ky : env.kindOf y = some .local := hy
  have hb : env.blockKind = .function := by unfold Env.blockKind; rw [hk]; rfl
  unfold swapsWith
  simp only [hb, ky, ha, Expr.pos, hl]
  rfl
theorem ps_setDc {i : Nat} {y : Str} {py : Pos} {kx vx tg iter : Expr} {ifs : List Expr} {scope : Scope} {own : List (Str × Nat)} {pos spos : Pos} {wi : TI} {g : TG} {tt : TT} {tk tv : TE} (hc : X.calm = true) (hN : X.N.Nodup) (hy : X.N[i]? = some y) (hyl : X.env.scope.names.lookup y = some .local)
    (hsw : swapsWith (.DictComp kx vx [⟨tg, iter, ifs, 0⟩] scope pos) (some (.Name y py)) spos.line X.env = pure true) (hi : PI X tg iter wi) (ok : BlkOk X.N X.env.scope scope own)
    (hg : ∀ (s : Shared) (H : Hp) (C : Addr) (cl : List (Str × Addr)) (fp : List Addr), PG (X.blk s H scope (compEnvC scope cl C X.env) fp) tg g) (ht : ∀ (s : Shared) (H : Hp) (C : Addr) (cl : List (Str × Addr)) (fp : List Addr), PTs (X.blk s H scope (compEnvC scope cl C X.env) fp) ifs tt)
    (hk : ∀ (s : Shared) (H : Hp) (C : Addr) (cl : List (Str × Addr)) (fp : List Addr), PE (X.blk s H scope (compEnvC scope cl C X.env) fp) kx tk)
    (he : ∀ (s : Shared) (H : Hp) (C : Addr) (cl : List (Str × Addr)) (fp : List Addr), PE (X.blk s H scope (compEnvC scope cl C X.env) fp) vx tv) (hs : ∀ x, foldedSetIterable iter X.env x = pure x := by intro _; rfl) :
    PS X (.Assign [.Name y py] (.DictComp kx vx [⟨tg, iter, ifs, 0⟩] scope pos) spos) (tAsg (tDc wi g tt tk tv (own.map (·.2))) (gName i)) := by
  refine ⟨fun pins s σ H D I h => ?_⟩
  rw [exec_Assign_Name_used _ _ _ _ hsw]
  refine wpAny_bind (wpAny_standAt (wpAny_bind ?_))
  show wpAny _ X.A (do let _ ← comprehension (.DictComp kx vx [⟨tg, iter, ifs, 0⟩] scope pos) scope X.env (firstIterPos [⟨tg, iter, ifs, 0⟩] pos) newDict false (eval iter X.env) (some (assign (.Name y py) X.env))) _ _ s
  have h : tDc wi g tt tk tv (own.map (·.2)) σ H (fun x H1 => gName i x σ H1 D.nx) := h
  refine wpAny_bind (thn (dc_core (Qf := fun _ s' => SP X pins D .next s') hc hN I hi ok hg ht hk he hs h fun L C s' m H' I' q hn f => ?_) fun _ s' hq => wpAny_pure (wpAny_pure hq))
  show wpAny _ _ (assign (.Name y py) X.env (.ref L)) _ _ _
  refine wpAny_assign_Name (store_ok2 (v := V.ref L) I' hN hy (.inl hyl) rfl (fun s2 I2 ⟨a, sb, ha⟩ => ?_) (.inr hyl))
  obtain ⟨f0, f1, f2, f3, f4, f5⟩ := f
  have haC : C ≠ a := by
    rcases ha with z | z
    · rw [z]; exact f1
    · exact fun e => f4 y a z e.symm
  refine ⟨m, hn.sameBut sb haC, fun h3 sb3 => ?_⟩
  exact ⟨_, H', I2.turned (t' := s2.toks) (fun b o hb e => (sb3.2 b hb).trans e) f0 f1 f3 f4 f5, q⟩
end
/-- over a list that the block leaves as it is -/
theorem dc_list {K : PySem.W.Frag} {a : Addr} {xs : List V} {g : TG} {tt : TT} {tk tv : TE} {vs : List Nat} {σ : L2.St} {H1 : Hp} {D : Addr} {Qd : Hp → Prop} (Pv : Nat → Hp → Prop) (h0 : Pv 0 (upd H1 D (.dK []))) (hl : ∀ i H, i ≤ xs.length → Pv i H → SqL K H a xs)
    (hs : ∀ i x H, xs[i]? = some x → Pv i H → g x (wipe σ vs) H fun σ2 H2 => wipe σ2 vs = wipe σ vs ∧ tt σ2 H2 fun b H3 =>
      if b = true then tk σ2 H3 fun y H4 => tv σ2 H4 fun z H5 => ∃ kvs k, y = kV k ∧ H5 D = some (.dK kvs) ∧ kvs.length < sizeLine ∧ Pv (i + 1) (upd H5 D (.dK (putK kvs k z))) else Pv (i + 1) H3) (hd : ∀ H, Pv xs.length H → Qd H) :
    ∃ W : Nat → Nat → Hp → Prop, (∃ m, W 0 m (upd H1 D (.dK []))) ∧ ∀ i m H, W i m H →
      ((Itl K a).stop i H ∧ Qd H) ∨ ((Itl K a).go i H ∧ ∃ Nx : Hp → Prop, (∀ H', Nx H' → ∃ m', m' < m ∧ W (i + 1) m' H') ∧ ∀ x H', (Itl K a).yld i H x H' → g x (wipe σ vs) H' fun σ2 H2 => wipe σ2 vs = wipe σ vs ∧ tt σ2 H2 fun b H3 =>
        if b = true then tk σ2 H3 fun y H4 => tv σ2 H4 fun z H5 => ∃ kvs k, y = kV k ∧ H5 D = some (.dK kvs) ∧ kvs.length < sizeLine ∧ Nx (upd H5 D (.dK (putK kvs k z))) else Nx H3) := by
  refine ⟨fun i m H => m = xs.length - i ∧ i ≤ xs.length ∧ Pv i H, ⟨xs.length, by simp, Nat.zero_le _, h0⟩, ?_⟩
  rintro i m H ⟨rfl, hi, p⟩
  have q := hl i H hi p
  by_cases hlt : i < xs.length
  · refine .inr ⟨⟨xs, xs[i], q, by simp [hlt]⟩, Pv (i + 1), fun H' p' => ⟨xs.length - (i + 1), by omega, rfl, hlt, p'⟩, fun x H' y => ?_⟩
    obtain ⟨e, y⟩ := y
    subst e
    exact hs i x _ (y xs q) p
  · have e : i = xs.length := by omega
    subst e
    exact .inl ⟨⟨xs, q, Nat.le_refl _⟩, hd H p⟩
/-- over the items of a locked dict -/
theorem dc_items {d : Addr} {od : Obj} {kvs : List (Key × V)} {g : TG} {tt : TT} {tk tv : TE} {vs : List Nat} {σ : L2.St} {H1 : Hp} {D : Addr} {Qd : Hp → Prop} (Pv : Nat → Hp → Prop) (h0 : Pv 0 (upd H1 D (.dK [])))
    (hl : ∀ i H, i ≤ kvs.length → Pv i H → H d = some (.frz od (.dK kvs)))
    (hs : ∀ i k v T H, kvs[i]? = some (k, v) → Pv i H → H T = none → g (.ref T) (wipe σ vs) (upd H T (.tup [kV k, v])) fun σ2 H2 => wipe σ2 vs = wipe σ vs ∧ tt σ2 H2 fun b H3 =>
      if b = true then tk σ2 H3 fun y H4 => tv σ2 H4 fun z H5 => ∃ kv k, y = kV k ∧ H5 D = some (.dK kv) ∧ kv.length < sizeLine ∧ Pv (i + 1) (upd H5 D (.dK (putK kv k z))) else Pv (i + 1) H3)
    (hd : ∀ H, Pv kvs.length H → Qd H) :
    ∃ W : Nat → Nat → Hp → Prop, (∃ m, W 0 m (upd H1 D (.dK []))) ∧ ∀ i m H, W i m H →
      ((Iti d od kvs).stop i H ∧ Qd H) ∨ ((Iti d od kvs).go i H ∧ ∃ Nx : Hp → Prop, (∀ H', Nx H' → ∃ m', m' < m ∧ W (i + 1) m' H') ∧ ∀ x H', (Iti d od kvs).yld i H x H' → g x (wipe σ vs) H' fun σ2 H2 => wipe σ2 vs = wipe σ vs ∧ tt σ2 H2 fun b H3 =>
        if b = true then tk σ2 H3 fun y H4 => tv σ2 H4 fun z H5 => ∃ kv k, y = kV k ∧ H5 D = some (.dK kv) ∧ kv.length < sizeLine ∧ Nx (upd H5 D (.dK (putK kv k z))) else Nx H3) := by
  refine ⟨fun i m H => m = kvs.length - i ∧ i ≤ kvs.length ∧ Pv i H, ⟨kvs.length, by simp, Nat.zero_le _, h0⟩, ?_⟩
  intro i m H ⟨e, hi, p⟩
  have q := hl i H hi p
  by_cases hlt : i < kvs.length
  · refine .inr ⟨⟨q, hlt⟩, Pv (i + 1), fun H' p' => ⟨kvs.length - (i + 1), by omega, rfl, hlt, p'⟩, fun x H' y => ?_⟩
    obtain ⟨T, k, v, hk, ex, hT, eH⟩ := y
    rw [ex, eH]
    exact hs i k v T H hk p hT
  · have e2 : i = kvs.length := by omega
    rw [e2] at p
    exact .inl ⟨⟨q, by omega⟩, hd H p⟩
end L2


set_option Elab.async false
set_option linter.all false
set_option maxRecDepth 100000
set_option maxHeartbeats 4000000
/-! Measures, and lists of them, as plain data. -/
namespace MK
open PySem PySem.Spec PyProof.Rows L2
def msD (m : Ms) : PyData := .tuple (m.map fun p => .tuple [.str p.1, .int p.2])
theorem strOkN {z : Str} (h : Ok z) : PyData.strOk z = true := by
  unfold PyData.strOk
  rw [← Array.all_toList, List.all_eq_true]
  exact fun c hc => decide_eq_true (h c hc)
theorem msD_lay : ∀ {m : Ms}, (∀ p ∈ m, LtOk p.1) → PyData.canLayAll0 (m.map fun p => PyData.tuple [.str p.1, .int p.2]) = true
  | [], _ => rfl
  | p :: r, h => by
    have ih := msD_lay (m := r) fun q hq => h q (List.mem_cons_of_mem _ hq)
    simp only [List.map_cons, PyData.canLayAll0, PyData.canLay0, ih, Bool.and_true]
    exact strOkN (h p List.mem_cons_self).2
theorem msD_depth (m : Ms) : PyData.depthAll (m.map fun p => PyData.tuple [.str p.1, .int p.2]) ≤ 1 := by
  induction m with
  | nil => simp [PyData.depthAll]
  | cons p r ih =>
    simp only [List.map_cons, PyData.depthAll, PyData.depth]
    omega
theorem msD_shaped {m : Ms} (h : ∀ p ∈ m, LtOk p.1) : SeqAt.shaped (msD m) = true := by
  unfold SeqAt.shaped msD
  rw [Bool.and_eq_true, decide_eq_true_eq]
  constructor
  · simp only [PyData.canLay0]
    exact msD_lay h
  · have := msD_depth m
    simp only [PyData.depth]
    omega
theorem msD_eqv {m : Ms} (h : ∀ p ∈ m, LtOk p.1) : PyData.eqv (msD m) (msD m) = true := SeqAt.eqv_refl _ (SeqAt.canLay_of_shaped (msD_shaped h))
theorem MsN.dp {K : PySem.W.Frag} {H : Hp} {b : Addr} {m : Ms} (h : MsN H b m) : Dp K H (.ref b) (msD m) := by
  obtain ⟨ts, e, p⟩ := h
  refine .tup (TupN.sq e) ?_
  clear e
  induction p with
  | nil => exact .nil
  | @cons t q _ _ r _ ih => exact .cons (.tup (SqT.of r) (.cons (.str _) (.cons (.int _) .nil))) ih
/-- a list of measures -/
def rowsD (rs : List Ms) : PyData := .list (rs.map msD)
theorem rowsD_dp {K : PySem.W.Frag} {H : Hp} {a : Addr} {us : List Addr} {rs : List Ms} (h : H a = some (.lst (us.map V.ref))) (p : Paired (MsN H) us rs) : Dp K H (.ref a) (rowsD rs) := by
  refine .lst (SqL.of h) ?_
  clear h
  induction p with
  | nil => exact .nil
  | cons q _ ih => exact .cons q.dp ih
theorem rowsD_lay : ∀ {rs : List Ms}, (∀ m ∈ rs, ∀ p ∈ m, LtOk p.1) → PyData.canLayAll0 (rs.map msD) = true
  | [], _ => rfl
  | m :: r, h => by
    have ih := rowsD_lay (rs := r) fun q hq => h q (List.mem_cons_of_mem _ hq)
    have h1 : PyData.canLay0 (msD m) = true := by
      unfold msD
      simp only [PyData.canLay0]
      exact msD_lay (h m List.mem_cons_self)
    simp only [List.map_cons, PyData.canLayAll0, ih, h1, Bool.and_true]
theorem rowsD_depth (rs : List Ms) : PyData.depthAll (rs.map msD) ≤ 2 := by
  induction rs with
  | nil => simp [PyData.depthAll]
  | cons m r ih =>
    have := msD_depth m
    have e : PyData.depth (msD m) ≤ 2 := by
      unfold msD
      simp only [PyData.depth]
      omega
    simp only [List.map_cons, PyData.depthAll]
    omega
theorem rowsD_shaped {rs : List Ms} (h : ∀ m ∈ rs, ∀ p ∈ m, LtOk p.1) : SeqAt.shaped (rowsD rs) = true := by
  unfold SeqAt.shaped rowsD
  rw [Bool.and_eq_true, decide_eq_true_eq]
  constructor
  · simp only [PyData.canLay0]
    exact rowsD_lay h
  · have := rowsD_depth rs
    simp only [PyData.depth]
    omega
theorem rowsD_eqv {rs : List Ms} (h : ∀ m ∈ rs, ∀ p ∈ m, LtOk p.1) : PyData.eqv (rowsD rs) (rowsD rs) = true := SeqAt.eqv_refl _ (SeqAt.canLay_of_shaped (rowsD_shaped h))
/-- what a product's letters are -/
theorem mulC_can (m n : Ms) (x : Int) : Can (mulC m n x) := by
  by_cases e : ∃ r, IsTms m n x r
  · obtain ⟨r, t⟩ := e
    rw [mulC_is t]
    exact t.1
  · unfold mulC
    rw [dif_neg e]
    exact can_nil
theorem lvs_many : ∀ r : Rk, r.lvs ≤ r.many
  | .is _ _ _ => Nat.le_refl _
  | .nought => Nat.le_refl _
  | .input _ => Nat.le_refl _
  | .bin _ a b => by
    have := lvs_many a; have := lvs_many b
    show a.lvs + b.lvs ≤ 1 + (a.many + b.many)
    omega
  | .power a _ => by
    have := lvs_many a
    show a.lvs ≤ 1 + a.many
    omega
  | .less a b c d => by
    have := lvs_many a; have := lvs_many b; have := lvs_many c; have := lvs_many d
    show a.lvs + b.lvs + c.lvs + d.lvs ≤ 1 + (a.many + b.many + c.many + d.many)
    omega
theorem nm_ltok {z : Str} (h : Nm z) : LtOk z := nm_lt h
end MK


set_option Elab.async false
set_option linter.all false
set_option maxRecDepth 100000
set_option maxHeartbeats 4000000
/-! {m}, m a measure, in an f-string: some text, not too long. -/
namespace PySem
open PySem.Spec PyProof.Rows
section
variable {prog : Program} {w : World}
/-- x's text, whatever it is, has at most N signs -/
def ReprB (prog : Program) (w : World) (h₀ : Heap) (d : Nat) (x : Value) (N : Nat) : Prop :=
  ∀ (b : Nat), b + N ≤ sizeLine → ∀ (A : Around) (E : Value → Shared → Prop) (s : Shared) (Q : Str → Shared → Prop), s.heap = h₀ → A.units + d < cLine → (∀ t tk, t.length ≤ N → Q t { s with toks := tk }) → wpAny (model prog w) A (pyReprUnder b x) Q E s
theorem rb_tuple {h₀ : Heap} {a : Addr} {o : Obj} {items : Array Value} {n N : Nat} {ts : List Str} (ha : h₀.get? a = some o) (hc : o.cls = .type "tuple") (hd : o.data = .seq items n) (hT : ReprAll prog w items.toList ts) (hN : (tupleText ts).length + 5 ≤ N) :
    ReprB prog w h₀ 1 (.ref a) N := by
  intro b hb A E s Q hh hu hQ
  subst hh
  refine wpAny_pyReprUnder_ref (by omega) (wpAny_pyReprObjUnder_twin (twin := "tuple.__repr__.under") ⟨o, ha, hc⟩ F.slot_tuple_repr rfl (by omega) ?_)
  refine call_twin_own (F.quiet_tuple_repr_under _) F.entry_tuple_repr_under F.check_tuple_repr_under ⟨o, ha, hc⟩ F.slot_tuple_repr (F.args_tuple_repr_1 _) (wpOwn_of_wpAny ?_)
  show wpAny _ _ (Builtin.tupleReprAt b ⟨[.ref a], []⟩) _ _ s
  rw [tuple_repr_tree]
  refine wpAny_bind (fmt_underWay fun c => ?_)
  cases c with
  | true =>
    refine PySem.W.KFB.if_so rfl ?_
    refine wpAny_bind (wpAny_rule ?_)
    refine wpAny_bind (wpAny_mkStr (wpAny_pure ?_) (by decide +kernel))
    exact ⟨⟨_, _, rfl⟩, _, _, rfl, hQ "(...)" _ (Nat.le_trans fmt_way (by omega))⟩
  | false =>
    refine PySem.W.KFB.if_not rfl ?_
    refine wpAny_tupleReprRest ha hd hT (fun u tk => ?_) (by omega)
    exact ⟨⟨_, _, rfl⟩, _, _, rfl, hQ (tupleText ts) tk (by omega)⟩
theorem fold_rb {A : Around} {E : Value → Shared → Prop} {N d : Nat} {h₀ : Heap} (hu : A.units + d < cLine) : ∀ (l : List Value) (acc : Array Str) (n : Nat) (s : Shared) (Q : (Array Str × Nat) → Shared → Prop), (∀ x ∈ l, ReprB prog w h₀ d x N) → n + l.length * (N + 2) ≤ sizeLine → s.heap = h₀ →
    (∀ (ts : List Str) k tk, ts.length = l.length → (∀ t ∈ ts, t.length ≤ N) → Q ⟨acc ++ ts.toArray, k⟩ { s with toks := tk }) → wpAny (model prog w) A (forIn l (⟨acc, n⟩ : (Array Str × Nat)) tupBody) Q E s := by
  intro l
  induction l with
  | nil =>
    intro acc n s Q hT hn hh h
    have h0 := h [] n s.toks rfl fun _ h => absurd h (by simp)
    simp only [List.forIn_nil]
    exact wpAny_pure (by simpa using h0)
  | cons x l ih =>
    intro acc n s Q hT hn hh h
    rw [List.length_cons, Nat.succ_mul] at hn
    rw [List.forIn_cons]
    refine wpAny_bind (wpAny_bind (hT x List.mem_cons_self (n + 1) (by omega) _ _ _ _ hh hu fun t tk ht => wpAny_pure ?_))
    refine ih (acc.push t) (n + (t.length + 2)) _ Q (fun y hy => hT y (List.mem_cons_of_mem _ hy)) (by omega) hh fun ts k tk' h1 h2 => ?_
    have h3 := h (t :: ts) k tk' (by rw [List.length_cons, h1, List.length_cons]) fun y hy => by
      rcases List.mem_cons.mp hy with e | e
      · rw [e]; exact ht
      · exact h2 y e
    simpa using h3
theorem piled_le {N : Nat} : ∀ {ts : List Str}, (∀ t ∈ ts, t.length ≤ N) → piled ts ≤ ts.length * (N + 2)
  | [], _ => Nat.zero_le _
  | t :: r, h => by
    have h1 := h t List.mem_cons_self
    have h2 := piled_le (ts := r) fun y hy => h y (List.mem_cons_of_mem _ hy)
    rw [piled_cons, List.length_cons, Nat.succ_mul]
    omega
/-- {t} -/
theorem fmt_rb {A : Around} {E : Value → Shared → Prop} {s : Shared} {a : Addr} {o : Obj} {items : Array Value} {n N : Nat} {Q : Value → Shared → Prop} (hu : A.units + 8 < cLine) (ha : s.heap.get? a = some o) (hc : o.cls = .type "tuple") (hd : o.data = .seq items n)
    (hT : ∀ x ∈ items.toList, ReprB prog w s.heap 1 x N) (hsz : items.size * (N + 2) + 8 ≤ sizeLine)
    (h : ∀ (m : Str) (u tk : Tok), m.length ≤ items.size * (N + 2) + 8 → Q (.str m u) { s with toks := tk }) : wpAny (model prog w) A (formatField (.ref a) Str.empty) Q E s := by
  refine wpAny_formatField_slot (fun _ _ => nofun) (by omega) ⟨o, ha, hc⟩ F.slot_tuple_format F.slot_tuple_str F.slot_tuple_repr ?_
  refine wpAny_call (codeAny_call_builtin_own (Code.quiet_builtin _ (by decide +kernel)) F.entry_tuple_repr (F.slot_tuple_repr.check _ _ _ _ _ _ _ _ ⟨o, ha, hc⟩ (F.args_tuple_repr_1 _) (wpOwn_of_wpAny ?_)))
  show wpAny _ _ (Builtin.tupleReprAt 0 ⟨[.ref a], []⟩) _ _ { s with toks := s.toks + 1 }
  rw [tuple_repr_tree]
  refine wpAny_bind (fmt_underWay fun b => ?_)
  cases b with
  | true =>
    refine PySem.W.KFB.if_so rfl ?_
    refine wpAny_bind (wpAny_rule ?_)
    refine wpAny_bind (wpAny_mkStr (wpAny_pure ?_) (by decide +kernel))
    exact ⟨_, _, rfl, h "(...)" _ _ (Nat.le_trans fmt_way (by omega))⟩
  | false =>
    refine PySem.W.KFB.if_not rfl ?_
    unfold tupleReprRest Builtin.Tuple.tupleItemsOf
    refine wpAny_bind (wpAny_bind (wpAny_seqItems (s := { s with toks := s.toks + 1 }) ha hd (wpAny_pure ?_)))
    rw [← Array.forIn_toList]
    have hl : items.toList.length = items.size := Array.length_toList
    refine wpAny_bind (fold_rb (N := N) (d := 1) (h₀ := s.heap) (by simp only [units_under_tuple_repr, Around.in1_units]; omega) items.toList #[] 0 _ _ hT (by rw [hl]; omega) rfl fun ts k tk h1 h2 => ?_)
    have hp := piled_le h2
    rw [h1, hl] at hp
    have ht := fmt_text ts
    have e : tupleText ts = (("(" : Str) ++ Str.join ", " (#[] ++ ts.toArray).toList ++ (if items.size == 1 then ",)" else ")" : String)) := by
      unfold tupleText
      rw [h1, hl]
      simp
    rw [← e]
    refine wpAny_bind (wpAny_mkStr (wpAny_pure ?_) (by omega))
    exact ⟨_, _, rfl, h (tupleText ts) _ _ (by omega)⟩
end
end PySem
namespace L2
open PySem PySem.Spec PyProof.Rows MK
section
variable {X : Cx}
/-- {m}, m a measure of few letters: some text -/
def tFmtM (te : TE) : TE := fun σ H Q => te σ H fun x H1 => ∃ (a : Addr) (m : Ms), x = .ref a ∧ MsN H1 a m ∧ (∀ p ∈ m, Ok p.1 ∧ p.1.length ≤ 20 ∧ p.2.natAbs < 2 ^ 250) ∧ m.length ≤ 1000 ∧ ∀ t : Str, t.length ≤ 2000000 → Q (.str t) H1
theorem pe_fmtM {e : Expr} {te : TE} {pos : Pos} (hu : X.A.units + 8 < cLine) (he : PE X e te) : PE X (.FormattedValue e (-1) none pos) (tFmtM te) := by
  refine ⟨fun pins s σ H Q I h => ?_⟩
  refine wpAny_FormattedValue_plain (thn (he.run pins s σ H _ I h) fun v s1 hv => ?_)
  obtain ⟨x, H1, I1, r1, a, m, rfl, ⟨ts, htu, pr⟩, hb, hl, q⟩ := hv
  cases r1
  obtain ⟨its, rv, ⟨o, ho, hcl, n, hd⟩, _⟩ := I1.tuple (TupN.sq htu)
  have sz : its.length = m.length := by rw [← rv.length, List.length_map, pr.length]
  have sl := sizeLine_eq
  refine fmt_rb (N := 900) hu ho hcl hd (fun y hy => ?_) ?_ fun t u tk ht => ⟨.str t, H1, I1.tok _, ⟨u, rfl⟩, q t ?_⟩
  · have hy : y ∈ its := by simpa using hy
    obtain ⟨i, hi⟩ := List.getElem?_of_mem hy
    obtain ⟨k, hk⟩ : ∃ k, ts[i]? = some k := by
      have h1 : i < its.length := (List.getElem?_eq_some_iff.mp hi).1
      have h2 := rv.length
      rw [List.length_map] at h2
      exact ⟨ts[i]'(by omega), List.getElem?_eq_getElem _⟩
    obtain ⟨p, hp, hpk⟩ := paired_ix pr hk
    obtain ⟨u, hu2, ru⟩ := Vals.get rv (show (ts.map V.ref)[i]? = some (V.ref k) by rw [List.getElem?_map, hk]; rfl)
    rw [hi] at hu2
    obtain rfl : y = u := Option.some.inj hu2
    obtain rfl : y = Value.ref k := ru
    obtain ⟨_, its2, r2, o2, ho2, hc2, n2, hd2⟩ := I1.hok _ _ (show H1 k = some (.tup [.str p.1, .int p.2]) from hpk)
    obtain ⟨u1, u2, rfl, ri, rj⟩ := vals2 r2
    obtain ⟨t1, rfl⟩ := ri
    obtain ⟨t2, rfl⟩ := rj
    obtain ⟨b1, b2, b3⟩ := hb p (List.mem_of_getElem? hp)
    have l1 := StrLaws.reprText_len p.1 (fun c hc => Nat.lt_trans (b1 c hc) (by decide))
    have lg : p.2.natAbs.log2 < 251 := PySem.Flt.log2_lt_of (by decide) (Nat.lt_trans b3 (by decide))
    have l2 := int_text_length_le (k := 251) (by decide) lg
    have l2' : (Str.ofString (toString p.2)).length ≤ 252 := by rw [PySem.ofString_length]; exact l2
    refine rb_tuple (ts := [reprText p.1, Str.ofString (toString p.2)]) ho2 hc2 hd2 ?_ ?_
    · exact .cons (ReprIs.str p.1 t1 (by omega)) (.cons (ReprIs.int t2 (by omega)) .nil)
    · have := fmt_text [reprText p.1, Str.ofString (toString p.2)]
      rw [piled_cons, piled_cons, piled_nil] at this
      omega
  · show its.toArray.size * (900 + 2) + 8 ≤ _
    rw [List.size_toArray, sz]
    have : m.length * 902 ≤ 1000 * 902 := Nat.mul_le_mul_right _ hl
    omega
  · have ht : t.length ≤ its.toArray.size * (900 + 2) + 8 := ht
    rw [List.size_toArray, sz] at ht
    have : m.length * 902 ≤ 1000 * 902 := Nat.mul_le_mul_right _ hl
    omega
end
end L2


set_option Elab.async false
set_option linter.all false
set_option maxRecDepth 100000
set_option maxHeartbeats 4000000
/-! Each two measures have a product; a quotient is () just where both are alike; measures compared. -/
namespace MK
open PySem PySem.Spec PyProof.Rows L2
/-- v more at l -/
def insM : Ms → Str → Int → Ms
  | [], l, v => if v = 0 then [] else [(l, v)]
  | p :: r, l, v => if p.1 = l then (if p.2 + v = 0 then r else (l, p.2 + v) :: r) else if l.cps.toList < p.1.cps.toList then (if v = 0 then p :: r else (l, v) :: p :: r) else p :: insM r l v
theorem insM_keys : ∀ {m : Ms} {l : Str} {v : Int} {q : Str × Int}, q ∈ insM m l v → q.1 = l ∨ q ∈ m
  | [], l, v, q, h => by
    unfold insM at h
    by_cases e : v = 0
    · rw [if_pos e] at h
      exact absurd h (by simp)
    · rw [if_neg e] at h
      exact .inl (by rw [List.mem_singleton.mp h])
  | p :: r, l, v, q, h => by
    unfold insM at h
    by_cases e : p.1 = l
    · rw [if_pos e] at h
      by_cases e2 : p.2 + v = 0
      · rw [if_pos e2] at h
        exact .inr (List.mem_cons_of_mem _ h)
      · rw [if_neg e2] at h
        rcases List.mem_cons.mp h with z | z
        · exact .inl (by rw [z])
        · exact .inr (List.mem_cons_of_mem _ z)
    · rw [if_neg e] at h
      by_cases e2 : l.cps.toList < p.1.cps.toList
      · rw [if_pos e2] at h
        by_cases e3 : v = 0
        · rw [if_pos e3] at h
          exact .inr h
        · rw [if_neg e3] at h
          rcases List.mem_cons.mp h with z | z
          · exact .inl (by rw [z])
          · exact .inr z
      · rw [if_neg e2] at h
        rcases List.mem_cons.mp h with z | z
        · exact .inr (by rw [z]; exact List.mem_cons_self)
        · exact (insM_keys z).imp id (List.mem_cons_of_mem _)
theorem can_cons {p : Str × Int} {r : Ms} (h : Can (p :: r)) : Can r ∧ p.2 ≠ 0 ∧ ∀ q ∈ r, sLt p.1 q.1 := by
  obtain ⟨h1, h2⟩ := List.pairwise_cons.mp h.ris
  exact ⟨⟨h2, fun q hq => h.nz q (List.mem_cons_of_mem _ hq)⟩, h.nz p List.mem_cons_self, h1⟩
theorem at0_cons (p : Str × Int) (r : Ms) (j : Str) : at0 (p :: r) j = if p.1 = j then p.2 else at0 r j := by
  show (if p.1 = j then some p.2 else lk r j).getD 0 = _
  by_cases e : p.1 = j
  · rw [if_pos e, if_pos e]; rfl
  · rw [if_neg e, if_neg e]; rfl
theorem at0_none {m : Ms} {j : Str} (h : ∀ q ∈ m, q.1 ≠ j) : at0 m j = 0 := by
  unfold at0
  rw [lk_none.mpr fun z => by
    obtain ⟨q, hq, e⟩ := List.mem_map.mp z
    exact h q hq e]
  rfl
theorem insM_ok : ∀ {m : Ms} (l : Str) (v : Int), Can m → Can (insM m l v) ∧ ∀ j, at0 (insM m l v) j = at0 m j + if j = l then v else 0
  | [], l, v, _ => by
    unfold insM
    by_cases e : v = 0
    · rw [if_pos e]
      refine ⟨can_nil, fun j => ?_⟩
      rw [e, at0_nil]
      split <;> rfl
    · rw [if_neg e]
      refine ⟨⟨List.pairwise_singleton _ _, fun p hp => by rw [List.mem_singleton.mp hp]; exact e⟩, fun j => ?_⟩
      rw [at0_cons, at0_nil]
      by_cases e2 : j = l
      · rw [if_pos e2, if_pos e2.symm]; omega
      · rw [if_neg e2, if_neg (fun z => e2 z.symm)]; rfl
  | p :: r, l, v, h => by
    obtain ⟨hr, hp, hlt⟩ := can_cons h
    unfold insM
    by_cases e : p.1 = l
    · rw [if_pos e]
      have no : at0 r l = 0 := at0_none fun q hq z => by
        have := hlt q hq
        rw [z, e] at this
        exact sLt_irr _ this
      by_cases e2 : p.2 + v = 0
      · rw [if_pos e2]
        refine ⟨hr, fun j => ?_⟩
        rw [at0_cons]
        by_cases e3 : j = l
        · rw [if_pos e3, if_pos (by rw [e3]; exact e), e3, no]; omega
        · rw [if_neg e3, if_neg (by rw [e]; exact fun z => e3 z.symm)]; omega
      · rw [if_neg e2]
        refine ⟨⟨List.pairwise_cons.mpr ⟨fun q hq => by rw [← e]; exact hlt q hq, hr.ris⟩, fun q hq => ?_⟩, fun j => ?_⟩
        · rcases List.mem_cons.mp hq with z | z
          · rw [z]; exact e2
          · exact hr.nz q z
        · rw [at0_cons, at0_cons]
          by_cases e3 : j = l
          · rw [if_pos e3, if_pos e3.symm, if_pos (by rw [e3]; exact e)]
          · rw [if_neg e3, if_neg (fun z => e3 z.symm), if_neg (by rw [e]; exact fun z => e3 z.symm)]; omega
    · rw [if_neg e]
      by_cases e2 : l.cps.toList < p.1.cps.toList
      · rw [if_pos e2]
        have nol : at0 (p :: r) l = 0 := at0_none fun q hq z => by
          rcases List.mem_cons.mp hq with y | y
          · exact e (by rw [← y]; exact z)
          · have h1 := hlt q y
            rw [z] at h1
            exact sLt_irr _ (sLt_tr e2 h1)
        by_cases e3 : v = 0
        · rw [if_pos e3]
          refine ⟨h, fun j => ?_⟩
          rw [e3]
          split <;> omega
        · rw [if_neg e3]
          refine ⟨⟨List.pairwise_cons.mpr ⟨fun q hq => ?_, h.ris⟩, fun q hq => ?_⟩, fun j => ?_⟩
          · rcases List.mem_cons.mp hq with y | y
            · rw [y]; exact e2
            · exact sLt_tr e2 (hlt q y)
          · rcases List.mem_cons.mp hq with y | y
            · rw [y]; exact e3
            · exact h.nz q y
          · rw [at0_cons (l, v)]
            by_cases e4 : j = l
            · rw [if_pos e4, if_pos e4.symm, e4, nol]; omega
            · rw [if_neg e4, if_neg (fun z => e4 z.symm)]; omega
      · rw [if_neg e2]
        obtain ⟨c1, c2⟩ := insM_ok l v hr
        have pl : sLt p.1 l := Decidable.byContradiction fun z => e (sLt_tri z e2)
        refine ⟨⟨List.pairwise_cons.mpr ⟨fun q hq => ?_, c1.ris⟩, fun q hq => ?_⟩, fun j => ?_⟩
        · rcases insM_keys hq with y | y
          · rw [y]; exact pl
          · exact hlt q y
        · rcases List.mem_cons.mp hq with y | y
          · rw [y]; exact hp
          · exact c1.nz q y
        · rw [at0_cons, at0_cons, c2]
          by_cases e3 : p.1 = j
          · rw [if_pos e3, if_pos e3, if_neg (by rw [← e3]; exact e)]; omega
          · rw [if_neg e3, if_neg e3]
theorem tms_ex : ∀ (n : Ms) {m : Ms} (x : Int), Can m → Can n → ∃ r, IsTms m n x r
  | [], m, x, hm, _ => ⟨m, hm, fun j => by rw [at0_nil]; omega⟩
  | p :: n, m, x, hm, hn => by
    obtain ⟨hr, hp, hlt⟩ := can_cons hn
    obtain ⟨c1, c2⟩ := insM_ok p.1 (p.2 * x) hm
    obtain ⟨r, r1, r2⟩ := tms_ex n x c1 hr
    refine ⟨r, r1, fun j => ?_⟩
    rw [r2, c2, at0_cons]
    by_cases e : p.1 = j
    · have no : at0 n j = 0 := at0_none fun q hq z => by
        have h1 := hlt q hq
        rw [z, e] at h1
        exact sLt_irr _ h1
      rw [if_pos e, if_pos e.symm, no]; omega
    · rw [if_neg e, if_neg (fun z => e z.symm)]; omega
theorem mulC_ok {m n : Ms} (x : Int) (hm : Can m) (hn : Can n) : IsTms m n x (mulC m n x) := by
  obtain ⟨r, h⟩ := tms_ex n x hm hn
  rw [mulC_is h]
  exact h
theorem mulC_nil {m n : Ms} (hm : Can m) (hn : Can n) : mulC m n (-1) = [] ↔ m = n := by
  constructor
  · intro h
    have t := mulC_ok (-1) hm hn
    rw [h] at t
    refine can_ext hm hn fun j => ?_
    have := t.2 j
    rw [at0_nil] at this
    omega
  · rintro rfl
    exact mulC_is ⟨can_nil, fun j => by rw [at0_nil]; omega⟩
/-! ### compared -/
theorem msD_all : ∀ {m n : Ms}, PyData.eqvAll (m.map fun p => PyData.tuple [.str p.1, .int p.2]) (n.map fun p => PyData.tuple [.str p.1, .int p.2]) = decide (m = n)
  | [], [] => rfl
  | [], q :: n => by
    simp [PyData.eqvAll]
  | p :: m, [] => by
    simp [PyData.eqvAll]
  | p :: m, q :: n => by
    have ih := msD_all (m := m) (n := n)
    simp only [List.map_cons, PyData.eqvAll, PyData.eqv, ih]
    obtain ⟨a, b⟩ := p
    obtain ⟨c, d⟩ := q
    by_cases e1 : a = c <;> by_cases e2 : b = d <;> by_cases e3 : m = n <;> simp [e1, e2, e3]
theorem msD_dec (m n : Ms) : PyData.eqv (msD m) (msD n) = decide (m = n) := by
  unfold msD
  simp only [PyData.eqv]
  exact msD_all
end MK


set_option Elab.async false
set_option linter.all false
set_option maxRecDepth 100000
set_option maxHeartbeats 4000000
/-! a != b of two tuples whose items are equal, a dict among them. -/
namespace PySem.SeqAt
open AutoSeq1 (wpAny_loadPart')
open MeetsSeq MeetsSeq2 MeetsSeq3 SeqRoads2
section
variable {prog : Program} {w : World}
theorem mk_tuple_ne (l b : Addr) (xs ys : Array Value) (n m : Nat) (d1 d2 : Option Addr) (s1 s2 : Array (Option Value)) (sz : xs.size = ys.size) :
    MeetsIn prog w (Builtin.«tuple.__ne__» ⟨[.ref l, .ref b], []⟩)
      (fun A R s => s.heap.get? l = some ⟨.type "tuple", d1, .seq xs n, s1⟩ ∧ s.heap.get? b = some ⟨.type "tuple", d2, .seq ys m, s2⟩ ∧
        (∀ j (h1 : j < xs.size) (h2 : j < ys.size), EqP prog w A.in1 s xs[j] ys[j] true) ∧ R (.ok (.ret (.bool false))) s) := by
  intro A R s h
  obtain ⟨hp, g, d, tk, os⟩ := s
  obtain ⟨hl, hb, he, h⟩ := h
  have f2 := AutoSeq1.sub_tuple_tuple
  have hZ : (xs.toList.zip ys.toList).length = xs.size := by simp [sz]
  wp_walk using wpAny_loadPart' hl, wpAny_loadPart' hb, wpAny_forIn_list _ (fun rest b s' => b.1 = none ∧ s' = ⟨hp, g, d, tk, os⟩ ∧ ∃ i, rest = (xs.toList.zip ys.toList).drop i) _
  case turn =>
    rintro ⟨y, x⟩ rest b s' ⟨hb', rfl, i, hz⟩
    have hlt : i < (xs.toList.zip ys.toList).length := by
      rcases Nat.lt_or_ge i (xs.toList.zip ys.toList).length with q | q
      · exact q
      · rw [List.drop_of_length_le q] at hz
        cases hz
    have h1 : i < xs.size := hZ ▸ hlt
    have h2 : i < ys.size := sz ▸ h1
    rw [List.drop_eq_getElem_cons hlt] at hz
    injection hz with e1 e2
    obtain rfl : y = xs[i] := by simpa using congrArg Prod.fst e1
    obtain rfl : x = ys[i] := by simpa using congrArg Prod.snd e1
    refine wpAny_bind (he i h1 h2 _ _ ?_)
    wp_walk
    exact ⟨rfl, rfl, i + 1, e2⟩
  case fin =>
    rintro ⟨b1, b2⟩ s' ⟨hb', rfl, i, hz⟩
    simp only at hb'
    subst hb'
    wp_walk
    simpa [Builtin.Tuple.tupleCompareSizes, bne, sz] using h
  case h => exact ⟨rfl, rfl, 0, rfl⟩
theorem mk_ne_tuples {A : Around} {s : Shared} {l b : Addr} {xs ys : Array Value} (hl : s.heap.IsTuple l xs) (hb : s.heap.IsTuple b ys) (sz : xs.size = ys.size) (hu : A.units < cLine)
    (he : ∀ j (h1 : j < xs.size) (h2 : j < ys.size), EqP prog w A.in1 s xs[j] ys[j] true) (E Q : Value → Shared → Prop) (h : Q (.bool false) s) : wpAny (model prog w) A (compareOp .NotEq (.ref l) (.ref b)) Q E s := by
  obtain ⟨⟨c1, d1, t1, s1⟩, ho, hc, n, hd⟩ := id hl
  obtain ⟨⟨c2, d2, t2, s2⟩, ho2, hc2, m, hd2⟩ := id hb
  simp only at hc hd hc2 hd2
  subst hc hd hc2 hd2
  have ta : s.TypeIs (.ref l) "tuple" := ⟨_, ho, rfl⟩
  have tb : s.TypeIs (.ref b) "tuple" := ⟨_, ho2, rfl⟩
  exact wpAny_richCompare_same_room (op := .NotEq) ta tb F.slot_tuple_ne (call_meetsIn F.slot_tuple_ne ta F.entry_tuple_ne (F.args_tuple_ne_2 _ _) (mk_tuple_ne l b xs ys n m d1 d2 s1 s2 sz)
    ⟨ho, ho2, he, show Value.bool false ≠ Value.notImplemented ∧ Q (.bool false) s from ⟨(fun x => nomatch x), h⟩⟩) hu
end
end PySem.SeqAt
namespace L2
open PySem PySem.Spec PyProof.Rows
section
variable {X : Cx}
/-- x != y, two tuples whose items are equal, of nesting below 60: False -/
def rNeTV (K : PySem.W.Frag) : R2 := fun x y H Q => ∃ a b xs ys n, x = .ref a ∧ y = .ref b ∧ SqT K H a xs ∧ SqT K H b ys ∧ n ≤ 60 ∧ Paired (EqV K H n) xs ys ∧ Q (.bl false) H
theorem op_neTV (hu : X.A.units + 64 < cLine) : OpR X (compareOp .NotEq) (rNeTV X.K) := by
  intro pins s σ H x y v u Q I rx ry h
  obtain ⟨a, b, xs, ys, n, rfl, rfl, ha, hb, hn, hp, q⟩ := h
  cases (show v = Value.ref a from rx)
  cases (show u = Value.ref b from ry)
  obtain ⟨us, r1, p1, _⟩ := I.tuple ha
  obtain ⟨ws, r2, p2, _⟩ := I.tuple hb
  have sz : us.toArray.size = ws.toArray.size := by
    rw [List.size_toArray, List.size_toArray, ← r1.length, ← r2.length]
    exact Paired.length hp
  refine SeqAt.mk_ne_tuples p1 p2 sz (by omega) (fun j h1 h2 => ?_) _ _ ⟨.bl false, H, I, rfl, q⟩
  have k := items_run (fun x y v u e rx ry => eqV_run I n X.A.in1 (by show X.A.units + 1 + n < cLine; omega) x y v u e rx ry) hp r1 r2 j (by simpa using h1) (by simpa using h2)
  simpa using k
end
end L2


set_option Elab.async false
set_option linter.all false
set_option maxRecDepth 100000
set_option maxHeartbeats 4000000
namespace MK
/-! ### sums and products of fractions by what they share: plain Lean -/
/-- what both are divided by, from nought on -/
abbrev gc (x y : Int) : Int := ((Nat.gcd x.natAbs y.natAbs : Nat) : Int)
theorem gc_dl (x y : Int) : gc x y ∣ x := Int.ofNat_dvd_left.mpr (Nat.gcd_dvd_left _ _)
theorem gc_dr (x y : Int) : gc x y ∣ y := Int.ofNat_dvd_left.mpr (Nat.gcd_dvd_right _ _)
theorem gc_pos {x y : Int} (h : y ≠ 0) : 0 < gc x y := by
  have : Nat.gcd x.natAbs y.natAbs ≠ 0 := fun e => h (by have := Nat.eq_zero_of_gcd_eq_zero_right e; omega)
  show 0 < ((Nat.gcd x.natAbs y.natAbs : Nat) : Int)
  omega
/-- both are what is shared times two that share nothing -/
theorem gc_split {x y : Int} (h : y ≠ 0) : ∃ x' y', x = gc x y * x' ∧ y = gc x y * y' ∧ Nat.gcd x'.natAbs y'.natAbs = 1 ∧ x.fdiv (gc x y) = x' ∧ y.fdiv (gc x y) = y' := by
  obtain ⟨x', hx⟩ := gc_dl x y
  obtain ⟨y', hy⟩ := gc_dr x y
  have p := gc_pos (x := x) h
  refine ⟨x', y', hx, hy, ?_, ?_, ?_⟩
  · have nx : x.natAbs = Nat.gcd x.natAbs y.natAbs * x'.natAbs := by
      have := congrArg Int.natAbs hx
      rw [Int.natAbs_mul] at this
      exact this
    have ny : y.natAbs = Nat.gcd x.natAbs y.natAbs * y'.natAbs := by
      have := congrArg Int.natAbs hy
      rw [Int.natAbs_mul] at this
      exact this
    have p' : 0 < Nat.gcd x.natAbs y.natAbs := by
      have : 0 < ((Nat.gcd x.natAbs y.natAbs : Nat) : Int) := p
      omega
    generalize hg : Nat.gcd x.natAbs y.natAbs = G at *
    have e : Nat.gcd (G * x'.natAbs) (G * y'.natAbs) = G := by rw [← nx, ← ny]; exact hg
    rw [Nat.gcd_mul_left] at e
    exact Nat.eq_of_mul_eq_mul_left p' (by rw [e, Nat.mul_one])
  · generalize gc x y = g at *
    rw [hx]
    exact Int.mul_fdiv_cancel_left _ (by omega)
  · generalize gc x y = g at *
    rw [hy]
    exact Int.mul_fdiv_cancel_left _ (by omega)
theorem fdiv_le {x g : Int} (hg : 0 < g) (hd : g ∣ x) : (x.fdiv g).natAbs ≤ x.natAbs := by
  obtain ⟨z, rfl⟩ := hd
  rw [Int.mul_fdiv_cancel_left _ (by omega), Int.natAbs_mul]
  exact Nat.le_mul_of_pos_left _ (by omega)
theorem pos_of {g x : Int} (hg : 0 < g) (h : 0 < g * x) : 0 < x := Int.not_le.mp fun c => Int.not_le.mpr h (Int.mul_nonpos_of_nonneg_of_nonpos (Int.le_of_lt hg) c)
theorem cop_mulr {x y z : Nat} (h : Nat.gcd x y = 1) (h' : Nat.gcd x z = 1) : Nat.gcd x (y * z) = 1 := Nat.Coprime.mul_right h h'
theorem cop_mull {x y z : Nat} (h : Nat.gcd x z = 1) (h' : Nat.gcd y z = 1) : Nat.gcd (x * y) z = 1 := Nat.Coprime.mul_left h h'
theorem cop_dl {x y z : Nat} (h : Nat.gcd x z = 1) (d : y ∣ x) : Nat.gcd y z = 1 := Nat.Coprime.coprime_dvd_left d h
theorem cop_dr {x y z : Nat} (h : Nat.gcd x z = 1) (d : y ∣ z) : Nat.gcd x y = 1 := Nat.Coprime.coprime_dvd_right d h
theorem abs_dl (x y : Int) : x.natAbs ∣ (x * y).natAbs := by rw [Int.natAbs_mul]; exact ⟨_, rfl⟩
theorem abs_dr (x y : Int) : y.natAbs ∣ (x * y).natAbs := by rw [Int.natAbs_mul]; exact ⟨_, Nat.mul_comm _ _⟩
/-- what sums of two share with one part is shared by the other -/
theorem cop_sum {p q m : Int} (h : Nat.gcd p.natAbs m.natAbs = 1) : Nat.gcd (p + m * q).natAbs m.natAbs = 1 := by
  have e := Int.gcd_add_mul_left_right m p q
  rw [Int.gcd_comm m p, show p.gcd m = 1 from h, Int.gcd_comm] at e
  exact e
/-- one and another fraction, together, as it is worked out -/
def togA (a b c d : Int) : Int := (a * d.fdiv (gc b d) + c * b.fdiv (gc b d)).fdiv (gc (a * d.fdiv (gc b d) + c * b.fdiv (gc b d)) (gc b d))
def togB (a b c d : Int) : Int := b.fdiv (gc b d) * d.fdiv (gc (a * d.fdiv (gc b d) + c * b.fdiv (gc b d)) (gc b d))
theorem tog_ok {a b c d : Int} (h : Red a b) (h' : Red c d) : Red (togA a b c d) (togB a b c d) ∧ togA a b c d * (b * d) = (a * d + c * b) * togB a b c d := by
  obtain ⟨b0, g1⟩ := h
  obtain ⟨d0, g2⟩ := h'
  have dn : d ≠ 0 := by omega
  have sp := gc_pos (x := b) dn
  unfold togA togB
  obtain ⟨b', d', eb, ed, cbd, fb, fd⟩ := gc_split (x := b) dn
  rw [fb, fd]
  generalize gc b d = s at *
  generalize hw : a * d' + c * b' = whole at *
  obtain ⟨w', s', ew, es, cws, fw, fs⟩ := gc_split (x := whole) (y := s) (by omega)
  have gp := gc_pos (x := whole) (y := s) (by omega)
  rw [fw]
  generalize gc whole s = g at *
  have dd : d = g * (s' * d') := by rw [ed, ← Int.mul_assoc, ← es]
  have fdd : d.fdiv g = s' * d' := by
    rw [dd]
    exact Int.mul_fdiv_cancel_left _ (by omega)
  rw [fdd]
  have cwb : Nat.gcd whole.natAbs b'.natAbs = 1 := by
    have h1 : Nat.gcd (a * d').natAbs b'.natAbs = 1 := by
      rw [Int.natAbs_mul]
      refine cop_mull (cop_dr g1 ?_) (by rw [Nat.gcd_comm]; exact cbd)
      rw [eb]
      exact abs_dr _ _
    rw [← hw, Int.mul_comm c b']
    exact cop_sum h1
  have cwd : Nat.gcd whole.natAbs d'.natAbs = 1 := by
    have h1 : Nat.gcd (c * b').natAbs d'.natAbs = 1 := by
      rw [Int.natAbs_mul]
      refine cop_mull (cop_dr g2 ?_) cbd
      rw [ed]
      exact abs_dr _ _
    rw [← hw, Int.add_comm, Int.mul_comm a d']
    exact cop_sum h1
  have ww : w'.natAbs ∣ whole.natAbs := by
    rw [ew]
    exact abs_dr _ _
  refine ⟨⟨?_, ?_⟩, ?_⟩
  · have p1 : 0 < b' := pos_of sp (by rw [← eb]; exact b0)
    have p2 : 0 < s' * d' := pos_of gp (by rw [← dd]; exact d0)
    exact Int.mul_pos p1 p2
  · rw [Int.natAbs_mul, Int.natAbs_mul]
    exact cop_mulr (cop_dl cwb ww) (cop_mulr cws (cop_dl cwd ww))
  · have e1 : a * d + c * b = s * whole := by
      rw [ed, eb, ← hw, Int.mul_add, Int.mul_left_comm a s d', Int.mul_left_comm c s b']
    rw [e1, dd, ew, eb]
    simp only [Int.mul_assoc, Int.mul_comm, Int.mul_left_comm]
/-- their product, as it is worked out -/
def proA (a b c d : Int) : Int := a.fdiv (gc a d) * c.fdiv (gc c b)
def proB (a b c d : Int) : Int := b.fdiv (gc c b) * d.fdiv (gc a d)
theorem pro_ok {a b c d : Int} (h : Red a b) (h' : Red c d) : Red (proA a b c d) (proB a b c d) ∧ proA a b c d * (b * d) = a * c * proB a b c d := by
  obtain ⟨b0, g1⟩ := h
  obtain ⟨d0, g2⟩ := h'
  obtain ⟨a', d', ea, ed, cad, fa, fd⟩ := gc_split (x := a) (y := d) (by omega)
  obtain ⟨c', b', ec, eb, ccb, fc, fb⟩ := gc_split (x := c) (y := b) (by omega)
  have p1 := gc_pos (x := a) (y := d) (by omega)
  have p2 := gc_pos (x := c) (y := b) (by omega)
  unfold proA proB
  rw [fa, fd, fc, fb]
  generalize gc a d = g at *
  generalize gc c b = k at *
  refine ⟨⟨Int.mul_pos (pos_of p2 (by rw [← eb]; exact b0)) (pos_of p1 (by rw [← ed]; exact d0)), ?_⟩, ?_⟩
  · have da : a'.natAbs ∣ a.natAbs := by rw [ea]; exact abs_dr _ _
    have dc : c'.natAbs ∣ c.natAbs := by rw [ec]; exact abs_dr _ _
    have db : b'.natAbs ∣ b.natAbs := by rw [eb]; exact abs_dr _ _
    have dd : d'.natAbs ∣ d.natAbs := by rw [ed]; exact abs_dr _ _
    rw [Int.natAbs_mul, Int.natAbs_mul]
    exact cop_mull (cop_mulr (cop_dl (cop_dr g1 db) da) cad) (cop_mulr ccb (cop_dl (cop_dr g2 dd) dc))
  · rw [ea, ed, ec, eb]
    simp only [Int.mul_assoc, Int.mul_comm, Int.mul_left_comm]
/-- one over it, as it is worked out -/
def trnA (a b : Int) : Int := if a < 0 then -b else b
def trnB (a b : Int) : Int := if a < 0 then -a else a
theorem trn_ok {a b : Int} (h : Red a b) (n : a ≠ 0) : Red (trnA a b) (trnB a b) ∧ trnA a b * a = b * trnB a b := by
  obtain ⟨b0, g⟩ := h
  unfold trnA trnB
  split
  · refine ⟨⟨by omega, ?_⟩, ?_⟩
    · rw [Int.natAbs_neg, Int.natAbs_neg, Nat.gcd_comm]
      exact g
    · rw [Int.neg_mul, Int.mul_neg]
  · exact ⟨⟨by omega, by rw [Nat.gcd_comm]; exact g⟩, rfl⟩
theorem trn_le (a b : Int) : (trnA a b).natAbs = b.natAbs ∧ (trnB a b).natAbs = a.natAbs := by
  unfold trnA trnB
  split <;> constructor <;> omega
end MK


set_option Elab.async false
set_option linter.all false
set_option maxRecDepth 100000
set_option maxHeartbeats 4000000
namespace MK
open PySem PySem.Spec PyProof.Rows L2
def topS (i : Nat) : Stmt := PySem.Challenge.pw_measurekind_k05_worth_reckoned.main.body.getD i (.Pass ⟨0, 0, 0, 0⟩)
abbrev sAdd : Stmt := topS 8
abbrev sLess : Stmt := topS 9
abbrev sProd : Stmt := topS 10
abbrev sQuo : Stmt := topS 11
abbrev sRaised : Stmt := topS 12
abbrev sIsLess : Stmt := topS 13
abbrev sTog : Stmt := topS 14
abbrev sTrn : Stmt := topS 15
abbrev sWholeP : Stmt := topS 16
abbrev sInp : Stmt := topS 19
abbrev sPaP : Stmt := topS 20
abbrev sAll : Stmt := topS 21
abbrev sWorth : Stmt := topS 23
abbrev sWorked : Stmt := topS 24
abbrev sOfTwo : Stmt := topS 25
abbrev sCell : Stmt := topS 27
abbrev sMix : Stmt := topS 28
abbrev sWords : Stmt := topS 29
abbrev sMade : Stmt := topS 30
abbrev sSmall : Stmt := topS 31
abbrev sShared : Stmt := topS 32
abbrev sLowest : Stmt := topS 33
abbrev sNumber : Stmt := topS 34
abbrev sLeaf : Stmt := topS 35
abbrev sTree : Stmt := topS 36
abbrev sParts : Stmt := topS 37
abbrev sLInputs : Stmt := topS 38
abbrev sLTold : Stmt := topS 39
abbrev sLRaised : Stmt := topS 40
abbrev sLWorth : Stmt := topS 41
abbrev sLaw : Stmt := topS 42
end MK


set_option Elab.async false
set_option linter.all false
set_option maxRecDepth 100000
set_option maxHeartbeats 4000000
namespace MK
open PySem PySem.Spec PyProof.Rows L2
section
variable {P : Program} {w : World} {K : PySem.W.Frag} {mg : Str → Option Value} {base : Heap}
/-! ### _law_cell_at -/
def spCell (K : PySem.W.Frag) : Sp := fun vs H Q _ => ∃ (a : Addr) (ns : List Int) (k : Nat), vs = [.ref a, .int k] ∧ SqL K H a (ns.map V.int) ∧
  ∀ c : Int, 0 ≤ c → c < 1000000000000000003 → Q (.int c) H
theorem scCell : FnScope ["_law_script", "_law_k"] ["_law_script", "_law_k"] (defScope sCell) := ⟨rfl, rfl, rfl, by decide +kernel, rfl, by decide +kernel, by decide +kernel⟩
theorem ok_cell {f : Addr} {fd : FuncData} (F : Fun K "_law_cell_at" "_law_cell_at" sCell f fd) (ml : mg "len" = none) : FnOk P w K mg base CX0 1 f fd ["_law_script", "_law_k"] (spCell K) := by
  refine F.ok scCell (fun vs H Q E h => ?_) (fun cdv A outer s H vs Q E hr h => ?_)
  · obtain ⟨a, ns, k, rfl, _⟩ := h
    rfl
  · obtain ⟨a, ns, k, rfl, hS, q⟩ := h
    refine ⟨_, pss_cons (ps_if (pt_cmpR op_lt (pv 1) (pe_callB call_len_seq (by rfl) ml PySem.boot_len (pa_cons (pv 0) pa_nil)) (nomark _))
        (pss_one (ps_ret (pe_op op_mod (pe_ix ix_list (pv 0) (pv 1) (fun _ _ => rfl)) pe_int))) pss_nil)
      (pss_one (ps_ret pe_int)), ?_⟩
    refine ⟨_, rfl, _, rfl, a, ns.map V.int, rfl, .inl hS, _, _, rfl, rfl, _, rfl, ite2 (fun e => ?_) (fun e => ?_)⟩
    · have hk : k < ns.length := by
        have := of_decide_eq_true e
        rw [List.length_map] at this
        omega
      refine ⟨_, rfl, _, rfl, a, ns.map V.int, (k : Int), .int ns[k], rfl, rfl, hS, atI_nat (by rw [List.getElem?_map, List.getElem?_eq_getElem hk]; rfl), _, _, rfl, rfl, (by show (0 : Int) < 1000000000000000003; decide), ?_⟩
      exact q _ (Int.emod_nonneg _ (by decide)) (Int.emod_lt_of_pos _ (by decide))
    · exact q 0 (by decide) (by decide)
/-! ### _law_mix -/
def spMix : Sp := fun vs H Q _ => ∃ (c k : Int), vs = [.int c, .int k] ∧ ∀ m : Int, 0 ≤ m → m < 2147483629 → Q (.int m) H
theorem scMix : FnScope ["_law_cell", "_law_k", "_law_number_here"] ["_law_cell", "_law_k"] (defScope sMix) := ⟨rfl, rfl, rfl, by decide +kernel, rfl, by decide +kernel, by decide +kernel⟩
theorem ok_mix {f : Addr} {fd : FuncData} (F : Fun K "_law_mix" "_law_mix" sMix f fd) : FnOk P w K mg base CX0 1 f fd ["_law_cell", "_law_k"] spMix := by
  refine F.ok scMix (fun vs H Q E h => ?_) (fun cdv A outer s H vs Q E hr h => ?_)
  · obtain ⟨c, k, rfl, _⟩ := h
    rfl
  · obtain ⟨c, k, rfl, q⟩ := h
    refine ⟨_, pss_cons (ps_set (i := 2) scMix.nd rfl (.inl rfl) (pe_op op_mod (pe_op op_add (pe_op op_add (pe_op op_mul (pv 0) pe_int) (pe_op op_mul (pv 1) pe_int)) pe_int) pe_int))
      (pss_one (ps_ret (pe_op op_mod (pe_op op_add (pe_op op_add (pe_op op_mul (pv 2) (pv 2)) (pe_op op_mul pe_int (pv 2))) (pv 1)) pe_int))), ?_⟩
    refine ⟨_, rfl, _, _, rfl, rfl, .inr (by decide), _, rfl, _, _, rfl, rfl, .inr (by decide), _, _, rfl, rfl, _, _, rfl, rfl, _, _, rfl, rfl, (by show (0 : Int) < 2147483647; decide), ?_⟩
    have h1 : 0 ≤ (c * 48271 + k * 69621 + 11) % 2147483647 := Int.emod_nonneg _ (by decide)
    have h2 : (c * 48271 + k * 69621 + 11) % 2147483647 < 2147483647 := Int.emod_lt_of_pos _ (by decide)
    refine ⟨_, rfl, _, rfl, _, _, rfl, rfl, .inl ⟨by omega, by omega⟩, _, rfl, _, _, rfl, rfl, .inl (by decide), _, _, rfl, rfl, _, rfl, _, _, rfl, rfl, _, _, rfl, rfl, (by show (0 : Int) < 2147483629; decide), ?_⟩
    exact q _ (Int.emod_nonneg _ (by decide)) (Int.emod_lt_of_pos _ (by decide))
end
end MK


set_option Elab.async false
set_option linter.all false
set_option maxRecDepth 100000
set_option maxHeartbeats 4000000
namespace MK
open PySem PySem.Spec PyProof.Rows L2
section
variable {P : Program} {w : World} {K : PySem.W.Frag} {mg : Str → Option Value} {base : Heap}
/-! ### _law_words -/
theorem strRep_len (z : Str) (n : Int) : (strRep z n).length = z.length * n.toNat := by
  unfold strRep
  by_cases c : n < 1
  · rw [if_pos c]
    have : n.toNat = 0 := by omega
    rw [this]
    rfl
  · rw [if_neg c]
    by_cases d : (n == 1 || z.length == 0) = true
    · rw [if_pos d]
      rw [Bool.or_eq_true] at d
      rcases d with d | d
      · have : n = 1 := by simpa using d
        subst this
        show z.length = z.length * 1
        omega
      · have : z.length = 0 := by simpa using d
        rw [this]
        omega
    · rw [if_neg d]
      show ((List.replicate n.toNat z.cps).foldl (· ++ ·) #[]).size = _
      rw [size_reps]
      show 0 + n.toNat * z.length = _
      rw [Nat.mul_comm]
      omega
abbrev alphabet : Str := "abcdefghijklmnopqrstuvwxyz"
theorem sign_at (i : Int) (h0 : 0 ≤ i) (h1 : i < 26) : ∃ c, atI alphabet.cps.toList i = some c ∧ (97 ≤ c ∧ c ≤ 122) := by
  have hl : alphabet.cps.toList.length = 26 := by decide +kernel
  obtain ⟨n, rfl⟩ := Int.eq_ofNat_of_zero_le h0
  have hn : n < alphabet.cps.toList.length := by omega
  exact ⟨_, atI_nat (List.getElem?_eq_getElem hn), (by decide +kernel : ∀ c ∈ alphabet.cps.toList, 97 ≤ c ∧ c ≤ 122) _ (List.getElem_mem hn)⟩
theorem len_one (c : Nat) : (⟨#[c]⟩ : Str).length = 1 := rfl
theorem len1000 (c : Nat) : (⟨#[c]⟩ : Str).length ≤ 1000 := by
  rw [len_one]
  decide
theorem szl {n : Nat} (h : n ≤ 1000) : n ≤ sizeLine := Nat.le_trans h (by decide)
theorem app_len (a b : Str) : (a ++ b).length = a.length + b.length := by
  show (a.cps ++ b.cps).size = _
  rw [Array.size_append]
  rfl
def spWords : Sp := fun vs H Q _ => ∃ (c : Int) (n : Nat), vs = [.int c, .int n] ∧ 0 ≤ c ∧ n ≤ 1000 ∧
  ∀ (H' : Hp) (p : Addr) (ws : List Str), Same H H' → H p = none → H' p = some (.lst (ws.map V.str)) → ws.length = n → (∀ z ∈ ws, Nm z) → Q (.ref p) H'
theorem scWords : FnScope ["_law_cell", "_law_many", "_law_signs", "_law_size", "_law_place", "_law_base", "_law_way", "_law_found", "_law_k", "_law_sign", "_law_word"] ["_law_cell", "_law_many"] (defScope sWords) := ⟨rfl, rfl, rfl, by decide +kernel, rfl, by decide +kernel, by decide +kernel⟩
theorem ok_words {f : Addr} {fd : FuncData} (F : Fun K "_law_words" "_law_words" sWords f fd) (mr : mg "range" = none) : FnOk P w K mg base CX0 1 f fd ["_law_cell", "_law_many"] spWords := by
  refine F.ok scWords (fun vs H Q E h => ?_) (fun cdv A outer s H vs Q E hr h => ?_)
  · obtain ⟨c, n, rfl, _⟩ := h
    rfl
  · obtain ⟨c, n, rfl, h0, hn, q⟩ := h
    have nd := scWords.nd
    refine ⟨_, pss_cons (ps_set (i := 2) nd rfl (.inl rfl) pe_str)
      (pss_cons (ps_set (i := 3) nd rfl (.inl rfl) (pe_op op_add pe_int (pe_op op_mod (pv 0) pe_int)))
      (pss_cons (ps_set (i := 4) nd rfl (.inl rfl) (pe_op op_mod (pe_op op_fdiv (pv 0) pe_int) (pv 3)))
      (pss_cons (ps_set (i := 5) nd rfl (.inl rfl) (pe_ix ix_str (pv 2) (pe_op op_mod (pe_op op_fdiv (pv 0) pe_int) pe_int) (fun _ _ => rfl)))
      (pss_cons (ps_set (i := 6) nd rfl (.inl rfl) (pe_op op_mod (pe_op op_fdiv (pv 0) pe_int) pe_int))
      (pss_cons (ps_set (i := 7) nd rfl (.inl rfl) (pe_lst pa_nil))
      (pss_cons (ps_for PassesOwn.never rfl (pi_range1 rfl mr (pa_cons (pv 1) pa_nil)) (pg_name (i := 8) nd rfl (.inl rfl))
        (pss_cons (ps_set (i := 9) nd rfl (.inl rfl) (pe_ix ix_str (pv 2) (pe_op op_mod (pe_op op_add (pe_op op_fdiv (pv 0) pe_int) (pe_op op_mul pe_int (pv 8))) pe_int) (fun _ _ => rfl)))
        (pss_cons (ps_set (i := 10) nd rfl (.inl rfl) (pe_op op_add_str (pe_op op_add_str (pe_op op_mul_str (pv 5) (pv 4)) (pv 9)) (pe_op op_mul_str (pv 5) (pe_op op_sub (pe_op op_sub (pv 3) pe_int) (pv 4)))))
        (Evl.pss_cut (ps_if (pt_cmpR op_eq (pv 6) pe_int (nomark _)) (pss_one (ps_set (i := 10) nd rfl (.inl rfl) (pe_op op_add_str (pv 9) (pe_op op_mul_str (pv 5) (pe_op op_mod (pe_op op_add (pe_op op_mul pe_int (pv 8)) (pe_op op_fdiv (pv 0) pe_int)) pe_int))))) pss_nil)
        (Evl.pss_cut (ps_if (pw_and (pt_cmpR op_eq (pv 6) pe_int (nomark _)) (pw_and1 (pt_cmpR op_lt (pv 8) pe_int (nomark _)))).pt (pss_one (ps_set (i := 10) nd rfl (.inl rfl) (pe_op op_mul_str (pv 5) (pe_op op_add pe_int (pe_op op_mod (pe_op op_add (pe_op op_mul pe_int (pv 8)) (pe_op op_fdiv (pv 0) pe_int)) pe_int))))) pss_nil)
        (Evl.pss_cut (ps_if (pw_and (pt_cmpR op_eq (pv 6) pe_int (nomark _)) (pw_and1 (pt_cmpR op_gt (pv 8) pe_int (nomark _)))).pt (pss_one (ps_set (i := 10) nd rfl (.inl rfl) (pe_op op_add_str (pe_ix ix_str (pv 2) (pe_op op_mod (pe_op op_sub (pe_op op_add (pe_op op_fdiv (pv 0) pe_int) (pv 8)) pe_int) pe_int) (fun _ _ => rfl)) (pe_op op_mul_str (pv 5) (pe_op op_mod (pv 8) pe_int))))) pss_nil)
        (pss_one (ps_expr (pe_bm PySem.F.plainAttrs_list PySem.F.slot_list_append PySem.F.type_list_append mt_append (pv 7) (pa_cons (pv 10) pa_nil))))))))))
      (pss_one (ps_ret (pv 7))))))))), ?_⟩
    -- the sizes
    have hs1 : 0 ≤ c % 8 := Int.emod_nonneg _ (by decide)
    have hs2 : c % 8 < 8 := Int.emod_lt_of_pos _ (by decide)
    have hp1 : 0 ≤ c / 8 % (1 + c % 8) := Int.emod_nonneg _ (by omega)
    have hp2 : c / 8 % (1 + c % 8) < 1 + c % 8 := Int.emod_lt_of_pos _ (by omega)
    (repeat (first | refine ⟨_, rfl, ?_⟩ | refine ⟨_, _, rfl, rfl, ?_⟩ | refine ⟨(by show (0 : Int) < _; decide), ?_⟩ | refine ⟨⟨by decide, by decide⟩, ?_⟩ | refine ⟨.inr (by decide), ?_⟩ | refine ⟨.inl (by decide), ?_⟩ | refine ⟨rfl, ?_⟩))
    refine ⟨(by show (0 : Int) < 1 + c % 8; omega), ?_⟩
    (repeat (first | refine ⟨_, rfl, ?_⟩ | refine ⟨_, _, rfl, rfl, ?_⟩ | refine ⟨(by show (0 : Int) < _; decide), ?_⟩ | refine ⟨⟨by decide, by decide⟩, ?_⟩ | refine ⟨.inr (by decide), ?_⟩ | refine ⟨.inl (by decide), ?_⟩ | refine ⟨rfl, ?_⟩))
    obtain ⟨sb, hsb, hsbO⟩ := sign_at (c / 64 % 26) (Int.emod_nonneg _ (by decide)) (Int.emod_lt_of_pos _ (by decide))
    refine ⟨_, _, sb, rfl, rfl, (by decide +kernel), hsb, ?_⟩
    (repeat (first | refine ⟨_, rfl, ?_⟩ | refine ⟨_, _, rfl, rfl, ?_⟩ | refine ⟨(by show (0 : Int) < _; decide), ?_⟩ | refine ⟨⟨by decide, by decide⟩, ?_⟩ | refine ⟨.inr (by decide), ?_⟩ | refine ⟨.inl (by decide), ?_⟩ | refine ⟨rfl, ?_⟩))
    refine ⟨Nat.zero_le _, fun o no => ?_⟩
    (repeat (first | refine ⟨_, rfl, ?_⟩ | refine ⟨_, _, rfl, rfl, ?_⟩ | refine ⟨(by show (0 : Int) < _; decide), ?_⟩ | refine ⟨⟨by decide, by decide⟩, ?_⟩ | refine ⟨.inr (by decide), ?_⟩ | refine ⟨.inl (by decide), ?_⟩ | refine ⟨rfl, ?_⟩))
    refine ⟨(by omega), (by omega), ?_⟩
    refine for_range (n := (n : Int).toNat) (fun i σ H2 => ∃ (v8 v9 v10 : Option V) (ws : List Str), σ = [some (.int c), some (.int n), some (.str alphabet), some (.int (1 + c % 8)), some (.int (c / 8 % (1 + c % 8))), some (.str ⟨#[sb]⟩), some (.int (c / 3 % 4)), some (.ref o), v8, v9, v10] ∧
        ws.length = i ∧ (∀ z ∈ ws, Nm z) ∧ Same H H2 ∧ H2 o = some (.lst (ws.map V.str)))
      ⟨none, none, none, [], rfl, rfl, (fun z hz => absurd hz (by simp)), same_new no, upd_same⟩ ?_ ?_
    · rintro i σ H2 hi ⟨v8, v9, v10, ws, rfl, hl, hw, sm, ho⟩
      obtain ⟨s1, hs1', hs1O⟩ := sign_at ((c / 1664 + 5 * (0 + (i : Int))) % 26) (Int.emod_nonneg _ (by decide)) (Int.emod_lt_of_pos _ (by decide))
      (repeat (first | refine ⟨_, rfl, ?_⟩ | refine ⟨_, _, rfl, rfl, ?_⟩ | refine ⟨(by show (0 : Int) < _; decide), ?_⟩ | refine ⟨⟨by decide, by decide⟩, ?_⟩ | refine ⟨.inr (by decide), ?_⟩ | refine ⟨.inl (by decide), ?_⟩ | refine ⟨rfl, ?_⟩))
      refine ⟨_, _, s1, rfl, rfl, (by decide +kernel), hs1', ?_⟩
      (repeat (first | refine ⟨_, rfl, ?_⟩ | refine ⟨_, _, rfl, rfl, ?_⟩ | refine ⟨(by show (0 : Int) < _; decide), ?_⟩ | refine ⟨⟨by decide, by decide⟩, ?_⟩ | refine ⟨.inr (by decide), ?_⟩ | refine ⟨.inl (by decide), ?_⟩ | refine ⟨rfl, ?_⟩))
      -- word = base * place + sign + base * (size - 1 - place)
      refine ⟨⟨len1000 _, by omega, by omega⟩, ?_⟩
      (repeat (first | refine ⟨_, rfl, ?_⟩ | refine ⟨_, _, rfl, rfl, ?_⟩ | refine ⟨(by show (0 : Int) < _; decide), ?_⟩ | refine ⟨⟨by decide, by decide⟩, ?_⟩ | refine ⟨.inr (by decide), ?_⟩ | refine ⟨.inl (by decide), ?_⟩ | refine ⟨rfl, ?_⟩))
      refine ⟨szl (by rw [strRep_len, len_one, len_one]; omega), ?_⟩
      (repeat (first | refine ⟨_, rfl, ?_⟩ | refine ⟨_, _, rfl, rfl, ?_⟩ | refine ⟨(by show (0 : Int) < _; decide), ?_⟩ | refine ⟨⟨by decide, by decide⟩, ?_⟩ | refine ⟨.inr (by decide), ?_⟩ | refine ⟨.inl (by decide), ?_⟩ | refine ⟨rfl, ?_⟩))
      refine ⟨⟨len1000 _, by omega, by omega⟩, ?_⟩
      (repeat (first | refine ⟨_, rfl, ?_⟩ | refine ⟨_, _, rfl, rfl, ?_⟩ | refine ⟨(by show (0 : Int) < _; decide), ?_⟩ | refine ⟨⟨by decide, by decide⟩, ?_⟩ | refine ⟨.inr (by decide), ?_⟩ | refine ⟨.inl (by decide), ?_⟩ | refine ⟨rfl, ?_⟩))
      refine ⟨szl (by rw [app_len, strRep_len, strRep_len, len_one, len_one]; omega), ?_⟩
      have w0 : Nm (strRep ⟨#[sb]⟩ (c / 8 % (1 + c % 8)) ++ ⟨#[s1]⟩ ++ strRep ⟨#[sb]⟩ (1 + c % 8 - 1 - c / 8 % (1 + c % 8))) := by
        refine ⟨?_, ?_, az_app (az_app (az_rep (az_one hsbO) _) (az_one hs1O)) (az_rep (az_one hsbO) _)⟩
        · rw [app_len, app_len, strRep_len, strRep_len, len_one, len_one]
          omega
        · rw [app_len, app_len, strRep_len, strRep_len, len_one, len_one]
          omega
      -- between the ifs: some word of one to twenty signs
      let Mid : L2.St → Hp → Prop := fun σ' H' => H' = H2 ∧ ∃ wd : Str, Nm wd ∧ σ' = [some (V.int c), some (V.int n), some (V.str alphabet), some (V.int (1 + c % 8)), some (V.int (c / 8 % (1 + c % 8))), some (V.str ⟨#[sb]⟩), some (V.int (c / 3 % 4)), some (V.ref o), some (V.int (0 + (i : Int))), some (V.str ⟨#[s1]⟩), some (V.str wd)]
      have hm0 : ∀ x : Int, 0 ≤ x % 8 ∧ x % 8 < 8 := fun x => ⟨Int.emod_nonneg _ (by decide), Int.emod_lt_of_pos _ (by decide)⟩
      refine ⟨Mid, ?_, ?_⟩
      · (repeat (first | refine ⟨_, rfl, ?_⟩ | refine ⟨_, _, rfl, rfl, ?_⟩ | refine ⟨(by show (0 : Int) < _; decide), ?_⟩ | refine ⟨⟨by decide, by decide⟩, ?_⟩ | refine ⟨.inr (by decide), ?_⟩ | refine ⟨.inl (by decide), ?_⟩ | refine ⟨rfl, ?_⟩))
        refine ite2 (fun _ => ?_) (fun _ => ⟨rfl, _, w0, rfl⟩)
        (repeat (first | refine ⟨_, rfl, ?_⟩ | refine ⟨_, _, rfl, rfl, ?_⟩ | refine ⟨(by show (0 : Int) < _; decide), ?_⟩ | refine ⟨⟨by decide, by decide⟩, ?_⟩ | refine ⟨.inr (by decide), ?_⟩ | refine ⟨.inl (by decide), ?_⟩ | refine ⟨rfl, ?_⟩))
        have := hm0 (3 * (0 + (i : Int)) + c / 9)
        refine ⟨⟨len1000 _, by omega, by omega⟩, ?_⟩
        (repeat (first | refine ⟨_, rfl, ?_⟩ | refine ⟨_, _, rfl, rfl, ?_⟩ | refine ⟨(by show (0 : Int) < _; decide), ?_⟩ | refine ⟨⟨by decide, by decide⟩, ?_⟩ | refine ⟨.inr (by decide), ?_⟩ | refine ⟨.inl (by decide), ?_⟩ | refine ⟨rfl, ?_⟩))
        refine ⟨szl (by rw [strRep_len, len_one, len_one]; omega), ?_⟩
        exact ⟨rfl, _, ⟨by rw [app_len, strRep_len, len_one, len_one]; omega, by rw [app_len, strRep_len, len_one, len_one]; omega, az_app (az_one hs1O) (az_rep (az_one hsbO) _)⟩, rfl⟩
      rintro σ' H' ⟨rfl, wd, hwd, rfl⟩
      refine ⟨Mid, ?_, ?_⟩
      · (repeat (first | refine ⟨_, rfl, ?_⟩ | refine ⟨_, _, rfl, rfl, ?_⟩ | refine ⟨(by show (0 : Int) < _; decide), ?_⟩ | refine ⟨⟨by decide, by decide⟩, ?_⟩ | refine ⟨.inr (by decide), ?_⟩ | refine ⟨.inl (by decide), ?_⟩ | refine ⟨rfl, ?_⟩))
        refine ite2 (fun _ => ?_) (fun _ => iteF ⟨rfl, _, hwd, rfl⟩)
        (repeat (first | refine ⟨_, rfl, ?_⟩ | refine ⟨_, _, rfl, rfl, ?_⟩ | refine ⟨(by show (0 : Int) < _; decide), ?_⟩ | refine ⟨⟨by decide, by decide⟩, ?_⟩ | refine ⟨.inr (by decide), ?_⟩ | refine ⟨.inl (by decide), ?_⟩ | refine ⟨rfl, ?_⟩))
        refine ite2 (fun _ => ?_) (fun _ => ⟨rfl, _, hwd, rfl⟩)
        (repeat (first | refine ⟨_, rfl, ?_⟩ | refine ⟨_, _, rfl, rfl, ?_⟩ | refine ⟨(by show (0 : Int) < _; decide), ?_⟩ | refine ⟨⟨by decide, by decide⟩, ?_⟩ | refine ⟨.inr (by decide), ?_⟩ | refine ⟨.inl (by decide), ?_⟩ | refine ⟨rfl, ?_⟩))
        have := hm0 (3 * (0 + (i : Int)) + c / 9)
        refine ⟨⟨len1000 _, by omega, by omega⟩, ?_⟩
        exact ⟨rfl, _, ⟨by rw [strRep_len, len_one]; omega, by rw [strRep_len, len_one]; omega, az_rep (az_one hsbO) _⟩, rfl⟩
      rintro σ' H' ⟨rfl, wd, hwd, rfl⟩
      refine ⟨Mid, ?_, ?_⟩
      · (repeat (first | refine ⟨_, rfl, ?_⟩ | refine ⟨_, _, rfl, rfl, ?_⟩ | refine ⟨(by show (0 : Int) < _; decide), ?_⟩ | refine ⟨⟨by decide, by decide⟩, ?_⟩ | refine ⟨.inr (by decide), ?_⟩ | refine ⟨.inl (by decide), ?_⟩ | refine ⟨rfl, ?_⟩))
        refine ite2 (fun _ => ?_) (fun _ => iteF ⟨rfl, _, hwd, rfl⟩)
        (repeat (first | refine ⟨_, rfl, ?_⟩ | refine ⟨_, _, rfl, rfl, ?_⟩ | refine ⟨(by show (0 : Int) < _; decide), ?_⟩ | refine ⟨⟨by decide, by decide⟩, ?_⟩ | refine ⟨.inr (by decide), ?_⟩ | refine ⟨.inl (by decide), ?_⟩ | refine ⟨rfl, ?_⟩))
        refine ite2 (fun _ => ?_) (fun _ => ⟨rfl, _, hwd, rfl⟩)
        obtain ⟨s3, hs3, hs3O⟩ := sign_at ((c / 64 + (0 + (i : Int)) - 7) % 26) (Int.emod_nonneg _ (by decide)) (Int.emod_lt_of_pos _ (by decide))
        (repeat (first | refine ⟨_, rfl, ?_⟩ | refine ⟨_, _, rfl, rfl, ?_⟩ | refine ⟨(by show (0 : Int) < _; decide), ?_⟩ | refine ⟨⟨by decide, by decide⟩, ?_⟩ | refine ⟨.inr (by decide), ?_⟩ | refine ⟨.inl (by decide), ?_⟩ | refine ⟨rfl, ?_⟩))
        refine ⟨_, _, s3, rfl, rfl, (by decide +kernel), hs3, ?_⟩
        (repeat (first | refine ⟨_, rfl, ?_⟩ | refine ⟨_, _, rfl, rfl, ?_⟩ | refine ⟨(by show (0 : Int) < _; decide), ?_⟩ | refine ⟨⟨by decide, by decide⟩, ?_⟩ | refine ⟨.inr (by decide), ?_⟩ | refine ⟨.inl (by decide), ?_⟩ | refine ⟨rfl, ?_⟩))
        have := hm0 (0 + (i : Int))
        refine ⟨⟨len1000 _, by omega, by omega⟩, ?_⟩
        (repeat (first | refine ⟨_, rfl, ?_⟩ | refine ⟨_, _, rfl, rfl, ?_⟩ | refine ⟨(by show (0 : Int) < _; decide), ?_⟩ | refine ⟨⟨by decide, by decide⟩, ?_⟩ | refine ⟨.inr (by decide), ?_⟩ | refine ⟨.inl (by decide), ?_⟩ | refine ⟨rfl, ?_⟩))
        refine ⟨szl (by rw [strRep_len, len_one, len_one]; omega), ?_⟩
        exact ⟨rfl, _, ⟨by rw [app_len, strRep_len, len_one, len_one]; omega, by rw [app_len, strRep_len, len_one, len_one]; omega, az_app (az_one hs3O) (az_rep (az_one hsbO) _)⟩, rfl⟩
      rintro σ' H' ⟨rfl, wd, hwd, rfl⟩
      -- found.append(word)
      (repeat (first | refine ⟨_, rfl, ?_⟩ | refine ⟨_, _, rfl, rfl, ?_⟩ | refine ⟨(by show (0 : Int) < _; decide), ?_⟩ | refine ⟨⟨by decide, by decide⟩, ?_⟩ | refine ⟨.inr (by decide), ?_⟩ | refine ⟨.inl (by decide), ?_⟩ | refine ⟨rfl, ?_⟩))
      refine ⟨.inl ⟨rfl, _, .inl (.inl ho)⟩, ?_⟩
      (repeat (first | refine ⟨_, rfl, ?_⟩ | refine ⟨_, _, rfl, rfl, ?_⟩ | refine ⟨(by show (0 : Int) < _; decide), ?_⟩ | refine ⟨⟨by decide, by decide⟩, ?_⟩ | refine ⟨.inr (by decide), ?_⟩ | refine ⟨.inl (by decide), ?_⟩ | refine ⟨rfl, ?_⟩))
      refine ⟨o, _, _, rfl, rfl, ho, (by rw [List.length_map]; exact small1000 (by omega)), ?_⟩
      refine ⟨_, _, _, ws ++ [wd], rfl, ?_, ?_, ?_, ?_⟩
      · rw [List.length_append, hl]
        rfl
      · intro z hz
        rcases List.mem_append.mp hz with z1 | z1
        · exact hw z z1
        · rw [List.mem_singleton.mp z1]
          exact hwd
      · exact fun b x e => by
          rw [upd_ne (ne_of_none e no)]
          exact sm b x e
      · rw [upd_same, List.map_append]
        rfl
    · rintro σ H2 ⟨v8, v9, v10, ws, rfl, hl, hw, sm, ho⟩
      (repeat (first | refine ⟨_, rfl, ?_⟩ | refine ⟨_, _, rfl, rfl, ?_⟩ | refine ⟨(by show (0 : Int) < _; decide), ?_⟩ | refine ⟨⟨by decide, by decide⟩, ?_⟩ | refine ⟨.inr (by decide), ?_⟩ | refine ⟨.inl (by decide), ?_⟩ | refine ⟨rfl, ?_⟩))
      exact q H2 o ws sm no ho (by rw [hl]; rfl) hw
end
end MK


set_option Elab.async false
set_option linter.all false
set_option maxRecDepth 100000
set_option maxHeartbeats 4000000
namespace MK
open PySem PySem.Spec PyProof.Rows L2
section
variable {P : Program} {w : World} {K : PySem.W.Frag} {mg : Str → Option Value} {base : Heap}
/-! ### _law_made -/
def spMade : Sp := fun vs H Q _ => ∃ (d : Addr) (m : Ms), vs = [.ref d] ∧ H d = some (.dK (enc m)) ∧ (m.map (·.1)).Nodup ∧ m.length ≤ 10000 ∧
  ∀ (H' : Hp) (p : Addr) (r : Ms), Same H H' → H p = none → MsN H' p r → Can r → (∀ j, at0 r j = at0 m j) → Q (.ref p) H'
theorem scMade : FnScope ["_law_powers", "_law_letter"] ["_law_powers"] (defScope sMade) := ⟨rfl, rfl, rfl, by decide +kernel, rfl, by decide +kernel, by decide +kernel⟩
theorem ok_made {f : Addr} {fd : FuncData} (F : Fun K "_law_made" "_law_made" sMade f fd) (mt : mg "tuple" = none) (ms : mg "sorted" = none) : FnOk P w K mg base CX0 1 f fd ["_law_powers"] spMade := by
  refine F.ok scMade (fun vs H Q E h => ?_) (fun cdv A outer s H vs Q E hr h => ?_)
  · obtain ⟨d, m, rfl, _⟩ := h
    rfl
  · obtain ⟨d, m, rfl, hd, hn, hl, q⟩ := h
    have nd := scMade.nd
    have hu := hu_of hr
    refine ⟨_, pss_one (ps_ret (pe_callTy call_tupleN rfl mt boot_tuple (pa_cons
      (pe_lc (own := [("_law_letter", 1)]) (g := gName 1) rfl nd (pi_list (pe_callB (call_sortedDA rfl) rfl ms boot_sorted (pa_cons (pv 0) pa_nil)))
        (blkOk_by (N := ["_law_powers", "_law_letter"]) (sc := defScope sMade) (by decide +kernel)) (fun _ _ _ _ _ => pg_name (i := 1) nd rfl (Or.inl rfl))
        (fun _ _ _ _ _ => pts_one (pt_cmpR op_ne (pe_dget hu (pv 0) (pv 1) (fun _ _ => rfl)) pe_int (nomark _)))
        (fun _ _ _ _ _ => pe_tup (pa_cons (pv 1) (pa_cons (pe_dget hu (pv 0) (pv 1) (fun _ _ => rfl)) pa_nil)))) pa_nil))), ?_⟩
    (repeat (first | refine ⟨_, rfl, ?_⟩ | refine ⟨_, _, rfl, rfl, ?_⟩ | refine ⟨(by show (0 : Int) < _; decide), ?_⟩ | refine ⟨⟨by decide, by decide⟩, ?_⟩ | refine ⟨.inr (by decide), ?_⟩ | refine ⟨.inl (by decide), ?_⟩ | refine ⟨rfl, ?_⟩))
    refine ⟨d, enc m, m.map (·.1), rfl, .inl hd, encG_keys _ _, fun ys p hp hso np => ?_⟩
    have sp : Same H (upd H p (.lst (ys.map V.str))) := same_new np
    have hlen : ys.length = m.length := by rw [hp.length_eq, List.length_map]
    have fin := made_law hn hp (sortedS_pw hso)
    refine ⟨p, rfl, ⟨_, SqL.of upd_same⟩, fun D nD => ?_⟩
    have nDH : H D = none := sp.free nD
    have nDp : p ≠ D := ne_of_none upd_same nD
    refine lc_list (xs := ys.map V.str) (fun i H2 => Same H H2 ∧ H2 p = some (.lst (ys.map V.str)) ∧ ∃ ts : List Addr, H2 D = some (.lst (ts.map V.ref)) ∧ Paired (PrAt H2) ts (byKeys m (ys.take i)) ∧ ts.length ≤ i)
      ⟨sp.trans (same_new nD), upd_other upd_same nD, [], upd_same, .nil, Nat.le_refl _⟩ (fun i H2 _ z => SqL.of z.2.1) ?_ ?_
    · rintro i x H2 hx ⟨s2, hp2, ts, hD, pr, hts⟩
      obtain ⟨k, hk, rfl⟩ := at_map hx
      have hi : i < ys.length := (List.getElem?_eq_some_iff.mp hk).1
      have hm : k ∈ m.map (·.1) := hp.mem_iff.mp (List.mem_of_getElem? hk)
      refine ⟨rfl, ?_⟩
      (repeat (first | refine ⟨_, rfl, ?_⟩ | refine ⟨_, _, rfl, rfl, ?_⟩ | refine ⟨(by show (0 : Int) < _; decide), ?_⟩ | refine ⟨⟨by decide, by decide⟩, ?_⟩ | refine ⟨.inr (by decide), ?_⟩ | refine ⟨.inl (by decide), ?_⟩ | refine ⟨rfl, ?_⟩))
      refine ⟨d, _, rfl, dget_enc (s2 _ _ hd) hm, ?_⟩
      (repeat (first | refine ⟨_, rfl, ?_⟩ | refine ⟨_, _, rfl, rfl, ?_⟩ | refine ⟨(by show (0 : Int) < _; decide), ?_⟩ | refine ⟨⟨by decide, by decide⟩, ?_⟩ | refine ⟨.inr (by decide), ?_⟩ | refine ⟨.inl (by decide), ?_⟩ | refine ⟨rfl, ?_⟩))
      refine ite2 (fun e => ?_) (fun e => ?_)
      · have e1 : at0 m k ≠ 0 := by simpa using e
        (repeat (first | refine ⟨_, rfl, ?_⟩ | refine ⟨_, _, rfl, rfl, ?_⟩ | refine ⟨(by show (0 : Int) < _; decide), ?_⟩ | refine ⟨⟨by decide, by decide⟩, ?_⟩ | refine ⟨.inr (by decide), ?_⟩ | refine ⟨.inl (by decide), ?_⟩ | refine ⟨rfl, ?_⟩))
        refine ⟨d, _, rfl, dget_enc (s2 _ _ hd) hm, ?_⟩
        refine ⟨(by show 2 ≤ sizeLine; decide), fun t nt => ?_⟩
        have ntD : D ≠ t := ne_of_none hD nt
        refine ⟨_, upd_other hD nt, ?_, same_upd (s2.trans (same_new nt)) nDH, ?_, ts ++ [t], ?_, ?_, ?_⟩
        · rw [List.length_map]
          exact Nat.lt_of_le_of_lt (Nat.le_trans hts (by omega : i ≤ 10000)) (by decide)
        · rw [upd_ne nDp]
          exact upd_other hp2 nt
        · rw [upd_same, List.map_append]
          rfl
        · rw [byKeys_yes hk e1]
          exact pr_list (upd_other hD nt) (Paired.snoc (pr_same (same_new nt) pr) upd_same)
        · rw [List.length_append]
          exact Nat.add_le_add_right hts 1
      · have e1 : at0 m k = 0 := by simpa using e
        refine ⟨s2, hp2, ts, hD, ?_, by omega⟩
        rw [byKeys_no hk e1]
        exact pr
    · rintro H2 ⟨s2, hp2, ts, hD, pr, hts⟩
      (repeat (first | refine ⟨_, rfl, ?_⟩ | refine ⟨_, _, rfl, rfl, ?_⟩ | refine ⟨(by show (0 : Int) < _; decide), ?_⟩ | refine ⟨⟨by decide, by decide⟩, ?_⟩ | refine ⟨.inr (by decide), ?_⟩ | refine ⟨.inl (by decide), ?_⟩ | refine ⟨rfl, ?_⟩))
      refine ⟨D, ts.map V.ref, rfl, SqL.of hD, fun l o nl dn => ?_⟩
      rw [List.length_map, List.take_length] at pr
      exact q _ l _ (s2.trans (same_new nl)) (s2.free nl) ⟨ts, ⟨o, upd_same, dn⟩, pr_same (same_new nl) pr⟩ fin.1 fin.2
end
end MK


set_option Elab.async false
set_option linter.all false
set_option maxRecDepth 100000
set_option maxHeartbeats 4000000
namespace MK
open PySem PySem.Spec PyProof.Rows L2
section
variable {P : Program} {w : World} {K : PySem.W.Frag} {mg : Str → Option Value} {base : Heap}
/-! ### _law_small -/
def spSmall : Sp := fun vs H Q _ => ∃ (c : Int) (a : Addr) (ws : List Str), vs = [.int c, .ref a] ∧ 0 ≤ c ∧ H a = some (.lst (ws.map V.str)) ∧ ws ≠ [] ∧ ws.length ≤ 1000 ∧
  ∀ (H' : Hp) (p : Addr) (r : Ms), Same H H' → H p = none → MsN H' p r → Can r → r.length ≤ 3 → (∀ x ∈ r, x.1 ∈ ws ∧ x.2.natAbs ≤ 20) → Q (.ref p) H'
theorem scSmall : FnScope ["_law_cell", "_law_letters", "_law_powers", "_law_k", "_law_more", "_law_many"] ["_law_cell", "_law_letters"] (defScope sSmall) := ⟨rfl, rfl, rfl, by decide +kernel, rfl, by decide +kernel, by decide +kernel⟩
theorem ok_small {f fX fM : Addr} {fd fdX fdM : FuncData} (F : Fun K "_law_small" "_law_small" sSmall f fd) (FX : Fun K "_law_mix" "_law_mix" sMix fX fdX) (bX : Binds K fdX ["_law_cell", "_law_k"] []) (gX : mg "_law_mix" = some (.ref fX))
    (FM : Fun K "_law_made" "_law_made" sMade fM fdM) (bM : Binds K fdM ["_law_powers"] []) (gM : mg "_law_made" = some (.ref fM))
    (mr : mg "range" = none) (ml : mg "len" = none) (mt : mg "tuple" = none) (ms : mg "sorted" = none) : FnOk P w K mg base CX0 2 f fd ["_law_cell", "_law_letters"] spSmall := by
  have GX : FnOk P w K mg base CX0 1 fX fdX ["_law_cell", "_law_k"] spMix := ok_mix FX
  have GM : FnOk P w K mg base CX0 1 fM fdM ["_law_powers"] spMade := ok_made FM mt ms
  refine F.ok scSmall (fun vs H Q E h => ?_) (fun cdv A outer s H vs Q E hr h => ?_)
  · obtain ⟨c, a, ws, rfl, _⟩ := h
    rfl
  · obtain ⟨c, a, ws, rfl, h0, ha, hw0, hwl, q⟩ := h
    have nd := scSmall.nd
    have hu := hu_of hr
    refine ⟨_, pss_cons (ps_set (i := 2) nd rfl (.inl rfl) pe_dnewK)
      (pss_cons (ps_for PassesOwn.never rfl (pi_range1 rfl mr (pa_cons (pe_op op_mod (pv 0) pe_int) pa_nil)) (pg_name (i := 3) nd rfl (.inl rfl))
        (pss_cons (ps_set (i := 4) nd rfl (.inl rfl) (pe_call GX hr (by rfl) gX FX.kp bX .nil pass0 (pa_cons (pv 0) (pa_cons (pv 3) pa_nil))))
        (pss_cons (ps_set (i := 5) nd rfl (.inl rfl) (pe_ix ix_list (pe_lst (pa_cons (pe_op op_sub (pe_op op_mod (pe_op op_fdiv (pv 4) (pe_callB call_len_seq (by rfl) ml PySem.boot_len (pa_cons (pv 1) pa_nil))) pe_int) pe_int)
            (pa_cons (pe_op op_sub (pe_op op_mod (pe_op op_fdiv (pv 4) pe_int) pe_int) pe_int) pa_nil))) (pe_op op_fdiv (pe_op op_mod (pe_op op_fdiv (pv 4) pe_int) pe_int) pe_int) (fun _ _ => rfl)))
        (pss_one (ps_dput hu (pv 2) (pe_ix ix_list (pv 1) (pe_op op_mod (pv 4) (pe_callB call_len_seq (by rfl) ml PySem.boot_len (pa_cons (pv 1) pa_nil))) (fun _ _ => rfl)) (pv 5) rfl)))))
      (pss_one (ps_ret (pe_call GM hr (by rfl) gM FM.kp bM .nil pass0 (pa_cons (pv 2) pa_nil))))), ?_⟩
    intro d nd0
    have hc4 : 0 ≤ c % 4 ∧ c % 4 < 4 := ⟨Int.emod_nonneg _ (by decide), Int.emod_lt_of_pos _ (by decide)⟩
    refine ⟨_, rfl, _, _, rfl, rfl, (by show (0 : Int) < 4; decide), _, rfl, by omega, by omega, ?_⟩
    have hwlen : (0 : Int) < ((ws.map V.str).length : Int) := by
      rw [List.length_map]
      have := List.length_pos_iff.mpr hw0
      omega
    have hwlen2 : ((ws.map V.str).length : Int) ≤ 1000 := by
      rw [List.length_map]
      omega
    refine for_range (n := (c % 4).toNat) (fun i σ H2 => ∃ (v3 v4 v5 : Option V) (m : Ms), σ = [some (.int c), some (.ref a), some (.ref d), v3, v4, v5] ∧ Same H H2 ∧ H2 d = some (.dK (enc m)) ∧ (m.map (·.1)).Nodup ∧ m.length ≤ i ∧ ∀ p ∈ m, p.1 ∈ ws ∧ p.2.natAbs ≤ 20)
      ⟨none, none, none, [], rfl, same_new nd0, upd_same, List.nodup_nil, Nat.le_refl _, (fun p hp => absurd hp (by simp))⟩ ?_ ?_
    · rintro i σ H2 hi ⟨v3, v4, v5, m, rfl, sm, hd, hn, hml, hmw⟩
      refine ⟨_, rfl, _, rfl, c, 0 + (i : Int), rfl, fun x hx0 hx1 => ?_⟩
      have haH := sm _ _ ha
      refine ⟨_, rfl, _, rfl, a, _, rfl, .inl (SqL.of haH), _, _, rfl, rfl, ⟨hwlen, by omega⟩, _, _, rfl, rfl, (by show (0 : Int) < 5; decide), _, _, rfl, rfl, ?_⟩
      refine ⟨_, rfl, _, _, rfl, rfl, ⟨by decide, by decide⟩, _, _, rfl, rfl, (by show (0 : Int) < 41; decide), _, _, rfl, rfl, (by show 2 ≤ sizeLine; decide), fun l nl => ?_⟩
      refine ⟨_, rfl, _, _, rfl, rfl, ⟨by decide, by decide⟩, _, _, rfl, rfl, (by show (0 : Int) < 9; decide), _, _, rfl, rfl, ⟨by decide, by decide⟩, ?_⟩
      obtain ⟨u, hu1, hu2⟩ := two_val (a := V.int (x / ((ws.map V.str).length : Int) % 5 - 2)) (b := V.int (x / 256 % 41 - 20)) (i := x / 16 % 9 / 8) (by omega) (by omega)
      obtain ⟨y, rfl, hy⟩ : ∃ y : Int, u = .int y ∧ y.natAbs ≤ 20 := by
        have h1 : 0 ≤ x / ((ws.map V.str).length : Int) % 5 := Int.emod_nonneg _ (by decide)
        have h2 : x / ((ws.map V.str).length : Int) % 5 < 5 := Int.emod_lt_of_pos _ (by decide)
        rcases hu2 with e | e
        · refine ⟨_, e, ?_⟩
          generalize x / ((ws.map V.str).length : Int) % 5 = t at h1 h2
          omega
        · exact ⟨_, e, by omega⟩
      have s2 : Same H2 (upd H2 l (.lst [V.int (x / ((ws.map V.str).length : Int) % 5 - 2), V.int (x / 256 % 41 - 20)])) := same_new nl
      have haL := s2 _ _ haH
      have hdL := s2 _ _ hd
      refine ⟨l, _, _, _, rfl, rfl, SqL.of upd_same, hu1, ?_⟩
      obtain ⟨z, hz, ez⟩ := mod_at hw0 x
      refine ⟨_, rfl, _, rfl, _, rfl, _, rfl, _, rfl, a, _, rfl, .inl (SqL.of haL), _, _, rfl, rfl, hwlen, a, _, _, _, rfl, rfl, SqL.of haL, ez, ?_⟩
      refine ⟨d, _, rfl, dput_enc hdL hn (small1000 (by omega)), ?_⟩
      refine ⟨_, _, _, put m z y, rfl, same_upd (sm.trans s2) nd0, upd_same, put_nodup _ _ hn, Nat.le_trans (put_len _ _ _) (by omega), ?_⟩
      intro p hp
      rcases put_mem hp with e | e
      · rw [e]; exact ⟨hz, hy⟩
      · exact hmw p e
    · rintro σ H2 ⟨v3, v4, v5, m, rfl, sm, hd, hn, hml, hmw⟩
      refine ⟨_, rfl, d, m, rfl, hd, hn, by omega, fun H3 p r s3 np hp hc he => ?_⟩
      exact q H3 p r (sm.trans s3) (sm.free np) hp hc (Nat.le_trans (made_few hc he) (by omega)) (fun x hx => hmw x (made_in hc he x hx))
end
end MK


set_option Elab.async false
set_option linter.all false
set_option maxRecDepth 100000
set_option maxHeartbeats 4000000
namespace MK
open PySem PySem.Spec PyProof.Rows L2
section
variable {P : Program} {w : World} {K : PySem.W.Frag} {mg : Str → Option Value} {base : Heap}
/-! ### _law_shared, _law_lowest, _law_number -/
theorem scShared : FnScope ["_law_one", "_law_other", "_law_rest"] ["_law_one", "_law_other"] (defScope sShared) := ⟨rfl, rfl, rfl, by decide +kernel, rfl, by decide +kernel, by decide +kernel⟩
theorem scLowest : FnScope ["_law_above", "_law_below", "_law_most"] ["_law_above", "_law_below"] (defScope sLowest) := ⟨rfl, rfl, rfl, by decide +kernel, rfl, by decide +kernel, by decide +kernel⟩
theorem scNumber : FnScope ["_law_cell"] ["_law_cell"] (defScope sNumber) := ⟨rfl, rfl, rfl, by decide +kernel, rfl, by decide +kernel, by decide +kernel⟩
def spShared : Sp := fun vs H Q _ => ∃ a b : Nat, vs = [.int a, .int b] ∧ Q (.int ((Nat.gcd a b : Nat) : Int)) H
theorem ok_shared {f : Addr} {fd : FuncData} (F : Fun K "_law_shared" "_law_shared" sShared f fd) : FnOk P w K mg base CX0 1 f fd ["_law_one", "_law_other"] spShared := by
  refine F.ok scShared (fun vs H Q E h => ?_) (fun cdv A outer s H vs Q E hr h => ?_)
  · obtain ⟨a, b, rfl, _⟩ := h
    rfl
  · obtain ⟨a, b, rfl, q⟩ := h
    have nd := scShared.nd
    refine ⟨_, pss_cons (ps_while PassesOwn.never (pt_cmpR op_ne (pv 1) pe_int (nomark _)) (pss_cons (ps_set (i := 2) nd rfl (.inl rfl) (pe_op op_mod (pv 0) (pv 1)))
      (pss_cons (ps_set (i := 0) nd rfl (.inl rfl) (pv 1)) (pss_one (ps_set (i := 1) nd rfl (.inl rfl) (pv 2)))))) (pss_one (ps_ret (pv 0))), ?_⟩
    refine ⟨fun m σ H' => ∃ (u v : Nat) (r : Option V), m = v ∧ σ = [some (.int u), some (.int v), r] ∧ H' = H ∧ Nat.gcd u v = Nat.gcd a b, ⟨_, a, b, none, rfl, rfl, rfl, rfl⟩, ?_⟩
    rintro m σ H' ⟨u, v, r, em, rfl, rfl, g⟩
    refine ⟨_, rfl, rfl, _, rfl, ?_⟩
    by_cases v0 : v = 0
    · have e : (!decide (V.int (v : Int) = V.int 0)) = false := by rw [v0]; rfl
      rw [e]
      rw [v0, Nat.gcd_zero_right] at g
      refine ⟨_, rfl, ?_⟩
      rw [g]
      exact q
    · have e : (!decide (V.int (v : Int) = V.int 0)) = true := by
        rw [decide_eq_false (fun z => v0 (by have := V.int.inj z; omega))]
        rfl
      rw [e]
      refine ⟨fun σ' H'' => ∃ (u' v' : Nat) (r : Option V), v' < v ∧ σ' = [some (.int u'), some (.int v'), r] ∧ H'' = H' ∧ Nat.gcd u' v' = Nat.gcd a b, fun σ' H'' ⟨u', v', r, h1, h2, h3, h4⟩ => ⟨_, by rw [em]; exact h1, u', v', r, rfl, h2, h3, h4⟩, ?_⟩
      refine ⟨_, rfl, _, rfl, _, _, rfl, rfl, (by omega), _, rfl, _, rfl, ?_⟩
      refine ⟨v, u % v, _, Nat.mod_lt _ (by omega), rfl, rfl, ?_⟩
      rw [← g, Nat.gcd_comm v, ← Nat.gcd_rec, Nat.gcd_comm]
/-- x over y, divided by what both have: a new pair -/
def spLowest : Sp := fun vs H Q _ => ∃ (x y : Int) (k : Nat), vs = [.int x, .int y] ∧ y ≠ 0 ∧ Sm k y ∧ k ≤ 8000 ∧ ∀ p, H p = none → Q (.ref p) (upd H p (.tup [.int (norm x y).1, .int (norm x y).2]))
theorem ok_lowest {f fS : Addr} {fd fdS : FuncData} (F : Fun K "_law_lowest" "_law_lowest" sLowest f fd) (FS : Fun K "_law_shared" "_law_shared" sShared fS fdS) (bS : Binds K fdS ["_law_one", "_law_other"] []) (gS : mg "_law_shared" = some (.ref fS)) (ma : mg "abs" = none) :
    FnOk P w K mg base CX0 2 f fd ["_law_above", "_law_below"] spLowest := by
  have GS : FnOk P w K mg base CX0 1 fS fdS ["_law_one", "_law_other"] spShared := ok_shared FS
  refine F.ok scLowest (fun vs H Q E h => ?_) (fun cdv A outer s H vs Q E hr h => ?_)
  · obtain ⟨x, y, _, rfl, _⟩ := h
    rfl
  · obtain ⟨x, y, k, rfl, y0, by', hk, q⟩ := h
    have nd := scLowest.nd
    refine ⟨_, pss_cons (ps_set (i := 2) nd rfl (.inl rfl) (pe_call GS hr (by rfl) gS FS.kp bS .nil pass0 (pa_cons (pe_callB call_abs (by rfl) ma PyProof.Rows.boot_abs (pa_cons (pv 0) pa_nil)) (pa_cons (pe_callB call_abs (by rfl) ma PyProof.Rows.boot_abs (pa_cons (pv 1) pa_nil)) pa_nil))))
      (Evl.pss_cut (ps_if (pt_cmpR op_lt (pv 1) pe_int (nomark _)) (pss_one (ps_set (i := 2) nd rfl (.inl rfl) (pe_op op_sub pe_int (pv 2)))) pss_nil)
      (pss_one (ps_ret (pe_tup (pa_cons (pe_op op_fdivWN (pv 0) (pv 2)) (pa_cons (pe_op op_fdivWN (pv 1) (pv 2)) pa_nil)))))), ?_⟩
    refine ⟨_, rfl, _, rfl, _, rfl, _, rfl, x.natAbs, y.natAbs, by rw [abs_natI, abs_natI]; rfl, ?_⟩
    refine ⟨fun σ' H' => σ' = [some (.int x), some (.int y), some (.int (cut x y))] ∧ H' = H, ?_, ?_⟩
    · refine ⟨_, rfl, _, _, rfl, rfl, _, rfl, ite2 (fun e => ?_) (fun e => ?_)⟩
      · have e1 : y < 0 := of_decide_eq_true e
        refine ⟨_, rfl, _, _, rfl, rfl, ?_, rfl⟩
        unfold cut
        rw [if_pos e1, ← Int.zero_sub]
        rfl
      · have e1 : ¬ y < 0 := fun z => e (decide_eq_true z)
        refine ⟨?_, rfl⟩
        unfold cut
        rw [if_neg e1]
        rfl
    · rintro σ' H' ⟨rfl, rfl⟩
      have c0 := cut_ne (x := x) y0
      have cd : CDivWN 0 (cut x y) := (by'.le (cut_le (x := x) y0)).div c0 hk
      refine ⟨_, rfl, _, rfl, _, _, rfl, rfl, divN_any cd, _, rfl, _, rfl, _, _, rfl, rfl, divN_any cd, (by show 2 ≤ sizeLine; decide), fun p np => ?_⟩
      exact q p np
/-- a drawn number: its place is new or not told -/
def spNumber : Sp := fun vs H Q _ => ∃ c : Int, vs = [.int c] ∧ 0 ≤ c ∧ ∀ (H' : Hp) (p : Addr) (u v : Int), Same H H' → H p = none → FracAt H' p u v → Red u v → u.natAbs ≤ 10 ^ 9 → v ≤ 10 ^ 9 → Q (.ref p) H'
theorem ok_number {f fO fS : Addr} {fd fdO fdS : FuncData} (F : Fun K "_law_number" "_law_number" sNumber f fd) (FO : Fun K "_law_lowest" "_law_lowest" sLowest fO fdO) (bO : Binds K fdO ["_law_above", "_law_below"] []) (gO : mg "_law_lowest" = some (.ref fO))
    (FS : Fun K "_law_shared" "_law_shared" sShared fS fdS) (bS : Binds K fdS ["_law_one", "_law_other"] []) (gS : mg "_law_shared" = some (.ref fS)) (ma : mg "abs" = none) : FnOk P w K mg base CX0 3 f fd ["_law_cell"] spNumber := by
  have GO : FnOk P w K mg base CX0 2 fO fdO ["_law_above", "_law_below"] spLowest := ok_lowest FO FS bS gS ma
  refine F.ok scNumber (fun vs H Q E h => ?_) (fun cdv A outer s H vs Q E hr h => ?_)
  · obtain ⟨c, rfl, _⟩ := h
    rfl
  · obtain ⟨c, rfl, c0, q⟩ := h
    have end_ : ∀ (x y : Int), y ≠ 0 → x.natAbs ≤ 10 ^ 9 → y.natAbs ≤ 10 ^ 9 → spLowest [.int x, .int y] H Q E := fun x y y0 hx hy =>
      ⟨x, y, 30, rfl, y0, sm30 hy, by decide, fun p np => by
        have l1 := (cut_ok (x := x) y0).2.2.1
        have l2 := (cut_ok (x := x) y0).2.2.2
        have r := norm_red (x := x) y0
        refine q _ p _ _ (same_new np) np upd_same r (Nat.le_trans l1 hx) ?_
        have l3 : (norm x y).2.natAbs ≤ 10 ^ 9 := Nat.le_trans l2 hy
        have := r.1
        omega⟩
    refine ⟨_, pss_cons (ps_if (pt_cmpR op_lt (pe_op op_mod (pv 0) pe_int) pe_int (nomark _)) (pss_one (ps_ret (pe_call GO hr (by rfl) gO FO.kp bO .nil pass0 (pa_cons (pe_op op_sub (pe_op op_mod (pe_op op_fdiv (pv 0) pe_int) pe_int) pe_int) (pa_cons (pe_op op_add pe_int (pe_op op_mod (pe_op op_fdiv (pv 0) pe_int) pe_int)) pa_nil))))) pss_nil)
      (pss_cons (ps_if (pt_cmpR op_eq (pe_op op_mod (pv 0) pe_int) pe_int (nomark _)) (pss_one (ps_ret (pe_tup (pa_cons pe_int (pa_cons pe_int pa_nil))))) pss_nil)
      (pss_one (ps_ret (pe_call GO hr (by rfl) gO FO.kp bO .nil pass0 (pa_cons
        (pe_op op_sub (pe_op op_mod (pe_op op_mul (pe_op op_fdiv (pv 0) (pe_op op_pow pe_int pe_int)) pe_int) (pe_op op_add (pe_op op_mul pe_int (pe_op op_pow pe_int pe_int)) pe_int)) (pe_op op_pow pe_int pe_int))
        (pa_cons (pe_op op_add pe_int (pe_op op_mod (pe_op op_fdiv (pv 0) pe_int) (pe_op op_pow pe_int pe_int))) pa_nil)))))), ?_⟩
    refine ⟨_, rfl, _, _, rfl, rfl, (by show (0 : Int) < 6; decide), _, _, rfl, rfl, _, rfl, ite2 (fun _ => ?_) (fun _ => ?_)⟩
    · refine ⟨_, rfl, _, _, rfl, rfl, ⟨by decide, by decide⟩, _, _, rfl, rfl, (by show (0 : Int) < 41; decide), _, _, rfl, rfl, ?_⟩
      refine ⟨_, rfl, _, _, rfl, rfl, ⟨by decide, by decide⟩, _, _, rfl, rfl, (by show (0 : Int) < 5; decide), _, _, rfl, rfl, ?_⟩
      have h1 : 0 ≤ c / 6 % 41 := Int.emod_nonneg _ (by decide)
      have h2 : c / 6 % 41 < 41 := Int.emod_lt_of_pos _ (by decide)
      have h3 : 0 ≤ c / 246 % 5 := Int.emod_nonneg _ (by decide)
      have h4 : c / 246 % 5 < 5 := Int.emod_lt_of_pos _ (by decide)
      exact end_ _ _ (by omega) (by omega) (by omega)
    · refine ⟨_, rfl, _, _, rfl, rfl, (by show (0 : Int) < 6; decide), rfl, _, rfl, ite2 (fun _ => ?_) (fun _ => ?_)⟩
      · exact ⟨(by show 2 ≤ sizeLine; decide), fun p np => q _ p 0 1 (same_new np) np upd_same ⟨by decide, by decide⟩ (by decide) (by decide)⟩
      · refine ⟨_, rfl, _, _, rfl, rfl, ⟨by decide, by decide, by decide⟩, _, _, rfl, rfl, ⟨by decide, by decide⟩, _, _, rfl, rfl, .inr (by decide), _, _, rfl, rfl, ⟨by decide, by decide, by decide⟩, _, _, rfl, rfl, .inl (by decide), _, _, rfl, rfl, _, _, rfl, rfl, (by show (0 : Int) < 2 * 10 ^ 9 + 1; decide), _, _, rfl, rfl, ⟨by decide, by decide, by decide⟩, _, _, rfl, rfl, ?_⟩
        refine ⟨_, rfl, _, _, rfl, rfl, ⟨by decide, by decide⟩, _, _, rfl, rfl, ⟨by decide, by decide, by decide⟩, _, _, rfl, rfl, (by show (0 : Int) < 10 ^ 9; decide), _, _, rfl, rfl, ?_⟩
        have h1 : 0 ≤ c / 6 ^ 3 * 7 % (2 * 10 ^ 9 + 1) := Int.emod_nonneg _ (by decide)
        have h2 : c / 6 ^ 3 * 7 % (2 * 10 ^ 9 + 1) < 2 * 10 ^ 9 + 1 := Int.emod_lt_of_pos _ (by decide)
        have h3 : 0 ≤ c / 6 % 10 ^ 9 := Int.emod_nonneg _ (by decide)
        have h4 : c / 6 % 10 ^ 9 < 10 ^ 9 := Int.emod_lt_of_pos _ (by decide)
        have e1 : (c / 6 ^ 3 * 7 % (2 * 10 ^ 9 + 1) - 10 ^ 9).natAbs ≤ 10 ^ 9 := by
          generalize c / 6 ^ 3 * 7 % (2 * 10 ^ 9 + 1) = y at h1 h2
          omega
        have e2 : 1 + c / 6 % 10 ^ 9 ≠ 0 ∧ (1 + c / 6 % 10 ^ 9).natAbs ≤ 10 ^ 9 := by
          generalize c / 6 % 10 ^ 9 = y at h3 h4
          omega
        exact end_ _ _ e2.1 e1 e2.2
end
end MK


set_option Elab.async false
set_option linter.all false
set_option maxRecDepth 100000
set_option maxHeartbeats 4000000
namespace MK
open PySem PySem.Spec PyProof.Rows L2
section
variable {P : Program} {w : World} {K : PySem.W.Frag} {mg : Str → Option Value} {base : Heap}
/-! ### _law_leaf -/
theorem scLeaf : FnScope ["_law_cell", "_law_words_here", "_law_bases", "_law_more"] ["_law_cell", "_law_words_here", "_law_bases"] (defScope sLeaf) := ⟨rfl, rfl, rfl, by decide +kernel, rfl, by decide +kernel, by decide +kernel⟩
def spLeaf : Sp := fun vs H Q _ => ∃ (c : Int) (a b : Addr) (ws bs : List Str), vs = [.int c, .ref a, .ref b] ∧ 0 ≤ c ∧ NmsAt H a ws ∧ NmsAt H b bs ∧
  ∀ (H' : Hp) (p : Addr) (r : Rk), Same H H' → H p = none → TrAt H' r p → RkIn ws bs 1 0 r → Q (.ref p) H'
/-- what the leaf calls -/
structure LfT (K : PySem.W.Frag) (mg : Str → Option Value) where
  (fX fM fS fO fN fSm : Addr)
  (dX dM dS dO dN dSm : FuncData)
  FX : Fun K "_law_mix" "_law_mix" sMix fX dX
  FM : Fun K "_law_made" "_law_made" sMade fM dM
  FS : Fun K "_law_shared" "_law_shared" sShared fS dS
  FO : Fun K "_law_lowest" "_law_lowest" sLowest fO dO
  FN : Fun K "_law_number" "_law_number" sNumber fN dN
  FSm : Fun K "_law_small" "_law_small" sSmall fSm dSm
  gX : mg "_law_mix" = some (.ref fX)
  gM : mg "_law_made" = some (.ref fM)
  gS : mg "_law_shared" = some (.ref fS)
  gO : mg "_law_lowest" = some (.ref fO)
  gN : mg "_law_number" = some (.ref fN)
  gSm : mg "_law_small" = some (.ref fSm)
  mr : mg "range" = none
  ml : mg "len" = none
  mt : mg "tuple" = none
  ms : mg "sorted" = none
  ma : mg "abs" = none
theorem LfT.bX (T : LfT K mg) : Binds K T.dX ["_law_cell", "_law_k"] [] := T.FX.binds (ps := ["_law_cell", "_law_k"]) fun _ _ _ _ _ _ us hl => match us, hl with | [_, _], _ => rfl
theorem LfT.bM (T : LfT K mg) : Binds K T.dM ["_law_powers"] [] := T.FM.binds (ps := ["_law_powers"]) fun _ _ _ _ _ _ us hl => match us, hl with | [_], _ => rfl
theorem LfT.bS (T : LfT K mg) : Binds K T.dS ["_law_one", "_law_other"] [] := T.FS.binds (ps := ["_law_one", "_law_other"]) fun _ _ _ _ _ _ us hl => match us, hl with | [_, _], _ => rfl
theorem LfT.bO (T : LfT K mg) : Binds K T.dO ["_law_above", "_law_below"] [] := T.FO.binds (ps := ["_law_above", "_law_below"]) fun _ _ _ _ _ _ us hl => match us, hl with | [_, _], _ => rfl
theorem LfT.bN (T : LfT K mg) : Binds K T.dN ["_law_cell"] [] := T.FN.binds (ps := ["_law_cell"]) fun _ _ _ _ _ _ us hl => match us, hl with | [_], _ => rfl
theorem LfT.bSm (T : LfT K mg) : Binds K T.dSm ["_law_cell", "_law_letters"] [] := T.FSm.binds (ps := ["_law_cell", "_law_letters"]) fun _ _ _ _ _ _ us hl => match us, hl with | [_, _], _ => rfl
theorem ok_leaf {f : Addr} {fd : FuncData} (F : Fun K "_law_leaf" "_law_leaf" sLeaf f fd) (T : LfT K mg) : FnOk P w K mg base CX0 4 f fd ["_law_cell", "_law_words_here", "_law_bases"] spLeaf := by
  have GX : FnOk P w K mg base CX0 1 T.fX T.dX ["_law_cell", "_law_k"] spMix := ok_mix T.FX
  have GN : FnOk P w K mg base CX0 3 T.fN T.dN ["_law_cell"] spNumber := ok_number T.FN T.FO T.bO T.gO T.FS T.bS T.gS T.ma
  have GSm : FnOk P w K mg base CX0 2 T.fSm T.dSm ["_law_cell", "_law_letters"] spSmall := ok_small T.FSm T.FX T.bX T.gX T.FM T.bM T.gM T.mr T.ml T.mt T.ms
  refine F.ok scLeaf (fun vs H Q E h => ?_) (fun cdv A outer s H vs Q E hr h => ?_)
  · obtain ⟨c, a, b, ws, bs, rfl, _⟩ := h
    rfl
  · obtain ⟨c, a, b, ws, bs, rfl, h0, hw, hb, q⟩ := h
    have nd := scLeaf.nd
    have hr1 : Room 1 _ := hr.mono (by decide)
    have hr2 : Room 2 _ := hr.mono (by decide)
    refine ⟨_, pss_cons (ps_set (i := 3) nd rfl (.inl rfl) (pe_op op_fdiv (pv 0) pe_int))
      (pss_cons (ps_if (pt_cmpR op_lt (pe_op op_mod (pv 0) pe_int) pe_int (nomark _)) (pss_one (ps_ret (pe_tup (pa_cons pe_str (pa_cons (pe_ix ix_list (pv 1) (pe_op op_mod (pv 3) (pe_callB call_len_seq (by rfl) T.ml PySem.boot_len (pa_cons (pv 1) pa_nil))) (fun _ _ => rfl)) pa_nil))))) pss_nil)
      (pss_cons (ps_if (pt_cmpR op_eq (pe_op op_mod (pv 0) pe_int) pe_int (nomark _)) (pss_one (ps_ret (pe_tup (pa_cons pe_str pa_nil)))) pss_nil)
      (pss_one (ps_ret (pe_tup (pa_cons pe_str (pa_cons (pe_call GN hr (by rfl) T.gN T.FN.kp T.bN .nil pass0 (pa_cons (pe_call GX hr1 (by rfl) T.gX T.FX.kp T.bX .nil pass0 (pa_cons (pv 3) (pa_cons pe_int pa_nil))) pa_nil))
        (pa_cons (pe_call GSm hr2 (by rfl) T.gSm T.FSm.kp T.bSm .nil pass0 (pa_cons (pv 3) (pa_cons (pv 2) pa_nil))) pa_nil)))))))), ?_⟩
    have h6 : 0 ≤ c / 6 := by omega
    refine ⟨_, rfl, _, _, rfl, rfl, ⟨by decide, by decide⟩, _, rfl, _, _, rfl, rfl, (by show (0 : Int) < 6; decide), _, _, rfl, rfl, _, rfl, ite2 (fun _ => ?_) (fun _ => ?_)⟩
    · obtain ⟨z, hz, ez⟩ := mod_at hw.n (c / 6)
      have hl : (0 : Int) < ((ws.map V.str).length : Int) := by
        rw [List.length_map]
        have := List.length_pos_iff.mpr hw.n
        omega
      refine ⟨_, rfl, _, rfl, _, rfl, a, _, rfl, .inl (SqL.of hw.h), _, _, rfl, rfl, hl, a, _, _, _, rfl, rfl, SqL.of hw.h, ez, (by show 2 ≤ sizeLine; decide), fun p np => ?_⟩
      exact q _ p (.input z) (same_new np) np upd_same (.input (Nat.le_refl _) hz (hw.z z hz))
    · refine ⟨_, rfl, _, _, rfl, rfl, (by show (0 : Int) < 6; decide), rfl, _, rfl, ite2 (fun _ => ?_) (fun _ => ?_)⟩
      · exact ⟨(by show 1 ≤ sizeLine; decide), fun p np => q _ p .nought (same_new np) np upd_same (.nought (Nat.le_refl _))⟩
      · refine ⟨_, rfl, c / 6, 9, rfl, fun m m0 m1 => ⟨m, rfl, m0, fun H1 p1 x y s1 np1 hp1 red b1 b2 => ?_⟩⟩
        refine ⟨_, rfl, _, rfl, c / 6, b, bs, rfl, h6, s1 _ _ hb.h, hb.n, hb.l, fun H2 p2 mm s2 np2 hp2 hc hl2 hm => ?_⟩
        refine ⟨(by show 3 ≤ sizeLine; decide), fun p np => ?_⟩
        have s3 := same_new (o := .tup [.str "is", .ref p1, .ref p2]) np
        exact q _ p (.is x y mm) ((s1.trans s2).trans s3) ((s1.trans s2).free np) ⟨p1, p2, upd_same, s3 _ _ (s2 _ _ hp1), hp2.same s3⟩ (.is (Nat.le_refl _) red b1 b2 hc (by omega) hb.z hm)
/-! ### _law_tree -/
theorem scTree : FnScope ["_law_cell", "_law_depth", "_law_names", "_law_powers", "_law_way", "_law_one", "_law_two", "_law_three"] ["_law_cell", "_law_depth", "_law_names", "_law_powers"] (defScope sTree) := ⟨rfl, rfl, rfl, by decide +kernel, rfl, by decide +kernel, by decide +kernel⟩
/-- of n more levels -/
def spTree : Nat → Sp
  | 0 => spNo
  | n + 1 => fun vs H Q _ => ∃ (c d pw : Int) (t a b : Addr) (ws bs : List Str), vs = [.int c, .int d, .ref t, .int pw] ∧ 0 ≤ c ∧ d ≤ n ∧ H t = some (.tup [.ref a, .ref b]) ∧ NmsAt H a ws ∧ NmsAt H b bs ∧
    ∀ (H' : Hp) (p : Addr) (r : Rk), Same H H' → H p = none → TrAt H' r p → RkIn ws bs (1 + d.toNat) pw.toNat r → Q (.ref p) H'
theorem ok_tree {f fL : Addr} {fd fdL : FuncData} (F : Fun K "_law_tree" "_law_tree" sTree f fd) (bT : Binds K fd ["_law_cell", "_law_depth", "_law_names", "_law_powers"] []) (gT : mg "_law_tree" = some (.ref f))
    (FL : Fun K "_law_leaf" "_law_leaf" sLeaf fL fdL) (bL : Binds K fdL ["_law_cell", "_law_words_here", "_law_bases"] []) (gL : mg "_law_leaf" = some (.ref fL)) (T : LfT K mg) :
    ∀ n : Nat, FnOk P w K mg base CX0 (n + 4) f fd ["_law_cell", "_law_depth", "_law_names", "_law_powers"] (spTree n)
  | 0 => fn_no
  | n + 1 => by
    have GX : FnOk P w K mg base CX0 1 T.fX T.dX ["_law_cell", "_law_k"] spMix := ok_mix T.FX
    have GL : FnOk P w K mg base CX0 4 fL fdL ["_law_cell", "_law_words_here", "_law_bases"] spLeaf := ok_leaf FL T
    have GT := ok_tree F bT gT FL bL gL T n
    refine F.ok scTree (fun vs H Q E h => ?_) (fun cdv A outer s H vs Q E hr h => ?_)
    · obtain ⟨c, d, pw, t, a, b, ws, bs, rfl, _⟩ := h
      rfl
    · obtain ⟨c, d, pw, t, a, b, ws, bs, rfl, c0, hd, ht, hw, hb, q⟩ := h
      have nd := scTree.nd
      have hr1 : Room 1 _ := hr.mono (by omega)
      have hr4 : Room 4 _ := hr.mono (by omega)
      refine ⟨_, pss_cons (ps_set (i := 4) nd rfl (.inl rfl) (pe_op op_mod (pv 0) pe_int))
        (pss_cons (ps_if (pw_or (pt_cmpR op_lt (pv 1) pe_int (nomark _)) (pw_or1 (pt_cmpR op_lt (pv 4) pe_int (nomark _)))).pt
          (pss_one (ps_ret (pe_call GL hr4 (by rfl) gL FL.kp bL .nil pass0 (pa_cons (pe_op op_fdiv (pv 0) pe_int) (pa_cons (pe_ix ix_tup (pv 2) pe_int (fun _ _ => rfl)) (pa_cons (pe_ix ix_tup (pv 2) pe_int (fun _ _ => rfl)) pa_nil)))))) pss_nil)
        (pss_cons (ps_set (i := 5) nd rfl (.inl rfl) (pe_call GT hr (by rfl) gT F.kp bT .nil pass0 (pa_cons (pe_call GX hr1 (by rfl) T.gX T.FX.kp T.bX .nil pass0 (pa_cons (pv 0) (pa_cons pe_int pa_nil)))
          (pa_cons (pe_op op_sub (pv 1) pe_int) (pa_cons (pv 2) (pa_cons (pe_op op_sub (pv 3) (pe_op op_fdiv (pv 4) pe_int)) pa_nil))))))
        (pss_cons (ps_if (pw_and (pt_cmpR op_eq (pv 4) pe_int (nomark _)) (pw_and1 (pt_cmpR op_gt (pv 3) pe_int (nomark _)))).pt
          (pss_one (ps_ret (pe_tup (pa_cons pe_str (pa_cons (pv 5) (pa_cons (pe_op op_sub (pe_op op_mod (pe_op op_fdiv (pv 0) pe_int) pe_int) pe_int) pa_nil)))))) pss_nil)
        (pss_cons (ps_set (i := 6) nd rfl (.inl rfl) (pe_call GT hr (by rfl) gT F.kp bT .nil pass0 (pa_cons (pe_call GX hr1 (by rfl) T.gX T.FX.kp T.bX .nil pass0 (pa_cons (pv 0) (pa_cons pe_int pa_nil)))
          (pa_cons (pe_op op_sub (pv 1) pe_int) (pa_cons (pv 2) (pa_cons (pv 3) pa_nil))))))
        (pss_cons (ps_if (pt_cmpR op_eq (pv 4) pe_int (nomark _))
          (pss_cons (ps_set (i := 7) nd rfl (.inl rfl) (pe_call GT hr (by rfl) gT F.kp bT .nil pass0 (pa_cons (pe_call GX hr1 (by rfl) T.gX T.FX.kp T.bX .nil pass0 (pa_cons (pv 0) (pa_cons pe_int pa_nil)))
            (pa_cons (pe_op op_sub (pv 1) pe_int) (pa_cons (pv 2) (pa_cons (pv 3) pa_nil))))))
          (pss_one (ps_ret (pe_tup (pa_cons pe_str (pa_cons (pv 5) (pa_cons (pv 6) (pa_cons (pv 7) (pa_cons (pe_call GT hr (by rfl) gT F.kp bT .nil pass0 (pa_cons (pe_call GX hr1 (by rfl) T.gX T.FX.kp T.bX .nil pass0 (pa_cons (pv 0) (pa_cons pe_int pa_nil)))
            (pa_cons (pe_op op_sub (pv 1) pe_int) (pa_cons (pv 2) (pa_cons (pv 3) pa_nil))))) pa_nil))))))))) pss_nil)
        (pss_one (ps_ret (pe_tup (pa_cons (pe_ix ix_list (pe_lst (pa_cons pe_str (pa_cons pe_str (pa_cons pe_str (pa_cons pe_str pa_nil))))) (pe_op op_mod (pe_op op_fdiv (pv 0) pe_int) pe_int) (fun _ _ => rfl)) (pa_cons (pv 5) (pa_cons (pv 6) pa_nil))))))))))), ?_⟩
      have t0 : atI [V.ref a, V.ref b] 0 = some (.ref a) := rfl
      have t1 : atI [V.ref a, V.ref b] 1 = some (.ref b) := rfl
      refine ⟨_, rfl, _, _, rfl, rfl, (by show (0 : Int) < 9; decide), ?_⟩
      have fin : 0 ≤ c / 9 → spLeaf [.int (c / 9), .ref a, .ref b] H Q E := fun h9 => ⟨c / 9, a, b, ws, bs, rfl, h9, hw, hb, fun H' p r s np h i => q H' p r s np h (i.mono (by omega) (by omega))⟩
      have leafy : ∀ m : Prop, m → m := fun _ h => h
      refine ⟨_, rfl, _, _, rfl, rfl, _, rfl, ite2 (fun e => ?_) (fun e => ?_)⟩
      · refine iteT ?_
        refine ⟨_, rfl, _, _, rfl, rfl, ⟨by decide, by decide⟩, _, rfl, t, _, 0, _, rfl, rfl, SqT.of ht, t0, _, rfl, t, _, 1, _, rfl, rfl, SqT.of ht, t1, ?_⟩
        exact fin (by omega)
      refine ⟨_, rfl, _, _, rfl, rfl, _, rfl, ite2 (fun e2 => ?_) (fun e2 => ?_)⟩
      · refine ⟨_, rfl, _, _, rfl, rfl, ⟨by decide, by decide⟩, _, rfl, t, _, 0, _, rfl, rfl, SqT.of ht, t0, _, rfl, t, _, 1, _, rfl, rfl, SqT.of ht, t1, ?_⟩
        exact fin (by omega)
      have d1 : 1 ≤ d := by
        have : ¬ d < 1 := fun z => e (decide_eq_true z)
        omega
      obtain ⟨k, rfl⟩ : ∃ k, n = k + 1 := ⟨n - 1, by omega⟩
      -- one
      refine ⟨_, rfl, c, 1, rfl, fun m1 m10 m11 => ?_⟩
      refine ⟨_, rfl, _, _, rfl, rfl, _, rfl, _, rfl, _, rfl, _, _, rfl, rfl, ⟨by decide, by decide⟩, _, _, rfl, rfl, ?_⟩
      refine ⟨m1, d - 1, pw - c % 9 / 8, t, a, b, ws, bs, rfl, m10, by omega, ht, hw, hb, fun H1 p1 r1 s1 np1 h1 i1 => ?_⟩
      refine ⟨_, rfl, rfl, _, rfl, ?_⟩
      by_cases e8 : c % 9 = 8
      · rw [decide_eq_true (congrArg V.int e8)]
        refine iteT ?_
        refine ⟨_, rfl, _, _, rfl, rfl, _, rfl, ite2 (fun e3 => ?_) (fun e3 => ?_)⟩
        · have pw0 : 0 < pw := of_decide_eq_true e3
          refine ⟨_, rfl, _, rfl, _, _, rfl, rfl, ⟨by decide, by decide⟩, _, _, rfl, rfl, (by show (0 : Int) < 9; decide), _, _, rfl, rfl, (by show 3 ≤ sizeLine; decide), fun p np => ?_⟩
          have s2 := same_new (o := .tup [.str "power", .ref p1, .int (c / 9 % 9 - 4)]) np
          exact q _ p (.power r1 (c / 9 % 9 - 4)) (s1.trans s2) (s1.free np) ⟨p1, upd_same, h1.same s2⟩ ((i1.power (by omega) (by omega)).mono (by omega) (by omega))
        · have pw0 : pw ≤ 0 := by
            have : ¬ 0 < pw := fun z => e3 (decide_eq_true z)
            omega
          have i1' : RkIn ws bs (1 + (d - 1).toNat) pw.toNat r1 := i1.mono (Nat.le_refl _) (by omega)
          refine ⟨_, rfl, c, 2, rfl, fun m2 m20 m21 => ?_⟩
          refine ⟨_, rfl, _, _, rfl, rfl, _, rfl, _, rfl, m2, d - 1, pw, t, a, b, ws, bs, rfl, m20, by omega, s1 _ _ ht, hw.same s1, hb.same s1, fun H2 p2 r2 s2 np2 h2 i2 => ?_⟩
          refine ⟨_, rfl, rfl, _, rfl, ?_⟩
          rw [show decide (V.int (c % 9) = V.int 7) = false from decide_eq_false fun z => by have := V.int.inj z; omega]
          refine iteF ?_
          obtain ⟨o, ho⟩ := four_op (i := c / 9 % 4) (by omega) (by omega)
          refine ⟨(by show 4 ≤ sizeLine; decide), fun l nl => ?_⟩
          refine ⟨_, rfl, _, _, rfl, rfl, ⟨by decide, by decide⟩, _, _, rfl, rfl, (by show (0 : Int) < 4; decide), l, _, _, _, rfl, rfl, SqL.of upd_same, ho, _, rfl, _, rfl, (by show 3 ≤ sizeLine; decide), fun p np => ?_⟩
          have s3 := (same_new (o := .lst [V.str "plus", V.str "minus", V.str "times", V.str "over"]) nl).trans (same_new (o := .tup [.str o.name, .ref p1, .ref p2]) np)
          exact q _ p (.bin o r1 r2) ((s1.trans s2).trans s3) ((s1.trans (s2.trans (same_new nl))).free np) ⟨p1, p2, upd_same, h1.same (s2.trans s3), h2.same s3⟩ ((i1'.bin o i2).mono (by omega) (by omega))
      · rw [decide_eq_false (fun z => e8 (V.int.inj z))]
        refine iteF ?_
        have i1' : RkIn ws bs (1 + (d - 1).toNat) pw.toNat r1 := i1.mono (Nat.le_refl _) (by omega)
        refine ⟨_, rfl, c, 2, rfl, fun m2 m20 m21 => ?_⟩
        refine ⟨_, rfl, _, _, rfl, rfl, _, rfl, _, rfl, m2, d - 1, pw, t, a, b, ws, bs, rfl, m20, by omega, s1 _ _ ht, hw.same s1, hb.same s1, fun H2 p2 r2 s2 np2 h2 i2 => ?_⟩
        have s12 := s1.trans s2
        refine ⟨_, rfl, rfl, _, rfl, ite2 (fun e7 => ?_) (fun e7 => ?_)⟩
        · refine ⟨_, rfl, c, 3, rfl, fun m3 m30 m31 => ?_⟩
          refine ⟨_, rfl, _, _, rfl, rfl, _, rfl, _, rfl, m3, d - 2, pw, t, a, b, ws, bs, rfl, m30, by omega, s12 _ _ ht, hw.same s12, hb.same s12, fun H3 p3 r3 s3 np3 h3 i3 => ?_⟩
          have s13 := s12.trans s3
          refine ⟨_, rfl, _, rfl, _, rfl, _, rfl, c, 4, rfl, fun m4 m40 m41 => ?_⟩
          refine ⟨_, rfl, _, _, rfl, rfl, _, rfl, _, rfl, m4, d - 2, pw, t, a, b, ws, bs, rfl, m40, by omega, s13 _ _ ht, hw.same s13, hb.same s13, fun H4 p4 r4 s4 np4 h4 i4 => ?_⟩
          refine ⟨(by show 5 ≤ sizeLine; decide), fun p np => ?_⟩
          have s5 := same_new (o := .tup [.str "less", .ref p1, .ref p2, .ref p3, .ref p4]) np
          exact q _ p (.less r1 r2 r3 r4) ((s13.trans s4).trans s5) ((s13.trans s4).free np) ⟨p1, p2, p3, p4, upd_same, h1.same ((s2.trans s3).trans (s4.trans s5)), h2.same (s3.trans (s4.trans s5)), h3.same (s4.trans s5), h4.same s5⟩
            ((RkIn.less i1' i2 (i3.mono (d' := 1 + (d - 1).toNat) (by omega) (Nat.le_refl _)) (i4.mono (by omega) (Nat.le_refl _))).mono (by omega) (by omega))
        · obtain ⟨o, ho⟩ := four_op (i := c / 9 % 4) (by omega) (by omega)
          refine ⟨(by show 4 ≤ sizeLine; decide), fun l nl => ?_⟩
          refine ⟨_, rfl, _, _, rfl, rfl, ⟨by decide, by decide⟩, _, _, rfl, rfl, (by show (0 : Int) < 4; decide), l, _, _, _, rfl, rfl, SqL.of upd_same, ho, _, rfl, _, rfl, (by show 3 ≤ sizeLine; decide), fun p np => ?_⟩
          have s3 := (same_new (o := .lst [V.str "plus", V.str "minus", V.str "times", V.str "over"]) nl).trans (same_new (o := .tup [.str o.name, .ref p1, .ref p2]) np)
          exact q _ p (.bin o r1 r2) (s12.trans s3) ((s12.trans (same_new nl)).free np) ⟨p1, p2, upd_same, h1.same (s2.trans s3), h2.same s3⟩ ((i1'.bin o i2).mono (by omega) (by omega))
end
end MK


set_option Elab.async false
set_option linter.all false
set_option maxRecDepth 100000
set_option maxHeartbeats 4000000
namespace MK
open PySem PySem.Spec PyProof.Rows L2
section
variable {P : Program} {w : World} {K : PySem.W.Frag} {mg : Str → Option Value} {base : Heap}
/-! ### _law_parts -/
theorem scParts : FnScope ["_law_tree_here"] ["_law_tree_here"] (defScope sParts) := ⟨rfl, rfl, rfl, by decide +kernel, rfl, by decide +kernel, by decide +kernel⟩
def spParts : Sp := fun vs H Q _ => ∃ (t : Addr) (r : Rk), vs = [.ref t] ∧ TrAt H r t ∧ ∀ (H' : Hp) (p : Addr) (ps : List Addr), Same H H' → H p = none → H' p = some (.lst (ps.map V.ref)) → Paired (fun q x => TrAt H' x q) ps r.parts → Q (.ref p) H'
theorem ok_parts {f : Addr} {fd : FuncData} (F : Fun K "_law_parts" "_law_parts" sParts f fd) (mL : mg "list" = none) : FnOk P w K mg base CX0 1 f fd ["_law_tree_here"] spParts := by
  refine F.ok scParts (fun vs H Q E h => ?_) (fun cdv A outer s H vs Q E hr h => ?_)
  · obtain ⟨t, r, rfl, _⟩ := h
    rfl
  · obtain ⟨t, r, rfl, ht, q⟩ := h
    refine ⟨_, pss_cons (ps_if (pw_or (pt_cmpR op_eq (pe_ix ix_tup (pv 0) pe_int (fun _ _ => rfl)) pe_str (nomark _)) (pw_or1 (pt_cmpR op_eq (pe_ix ix_tup (pv 0) pe_int (fun _ _ => rfl)) pe_str (nomark _)))).pt (pss_one (ps_ret (pe_lst pa_nil))) pss_nil)
      (pss_cons (ps_if (pt_cmpR op_eq (pe_ix ix_tup (pv 0) pe_int (fun _ _ => rfl)) pe_str (nomark _)) (pss_one (ps_ret (pe_lst (pa_cons (pe_ix ix_tup (pv 0) pe_int (fun _ _ => rfl)) pa_nil)))) pss_nil)
      (pss_one (ps_ret (pe_callTy call_list_of (by rfl) mL PyProof.Rows.boot_list (pa_cons (pe_slice sl_tup (pv 0) (po_some pe_int) po_none) pa_nil))))), ?_⟩
    have mty : ∀ ps : List Addr, (∀ p, H p = none → Q (.ref p) (upd H p (.lst (ps.map V.ref)))) → ∀ p, H p = none → Q (.ref p) (upd H p (.lst (ps.map V.ref))) := fun _ h => h
    cases r with
    | is x y m =>
      obtain ⟨p, b, h1, h2, h3⟩ := ht
      refine ⟨_, rfl, t, _, 0, _, rfl, rfl, SqT.of h1, rfl, rfl, _, rfl, iteT (iteT ?_)⟩
      exact ⟨Nat.zero_le _, fun l nl => q _ l [] (same_new nl) nl upd_same .nil⟩
    | input z =>
      have h1 : H t = some (.tup [.str "input", .str z]) := ht
      refine ⟨_, rfl, t, _, 0, _, rfl, rfl, SqT.of h1, rfl, rfl, _, rfl, iteF ?_⟩
      refine ⟨_, rfl, t, _, 0, _, rfl, rfl, SqT.of h1, rfl, rfl, _, rfl, iteT ?_⟩
      exact ⟨Nat.zero_le _, fun l nl => q _ l [] (same_new nl) nl upd_same .nil⟩
    | nought =>
      have h1 : H t = some (.tup [.str "nought"]) := ht
      refine ⟨_, rfl, t, _, 0, _, rfl, rfl, SqT.of h1, rfl, rfl, _, rfl, iteF ?_⟩
      refine ⟨_, rfl, t, _, 0, _, rfl, rfl, SqT.of h1, rfl, rfl, _, rfl, iteF ?_⟩
      refine ⟨_, rfl, t, _, 0, _, rfl, rfl, SqT.of h1, rfl, rfl, _, rfl, iteF ?_⟩
      refine ⟨_, rfl, 1, rfl, t, _, rfl, SqT.of h1, (by decide), fun e ne => ?_⟩
      refine ⟨e, _, rfl, .inr (SqT.of upd_same), fun l nl => ?_⟩
      exact q _ l [] ((same_new ne).trans (same_new nl)) ((same_new ne).free nl) upd_same .nil
    | power a n =>
      obtain ⟨p, h1, h2⟩ := ht
      refine ⟨_, rfl, t, _, 0, _, rfl, rfl, SqT.of h1, rfl, rfl, _, rfl, iteF ?_⟩
      refine ⟨_, rfl, t, _, 0, _, rfl, rfl, SqT.of h1, rfl, rfl, _, rfl, iteF ?_⟩
      refine ⟨_, rfl, t, _, 0, _, rfl, rfl, SqT.of h1, rfl, rfl, _, rfl, iteT ?_⟩
      refine ⟨_, rfl, t, _, 1, _, rfl, rfl, SqT.of h1, rfl, (by show 1 ≤ sizeLine; decide), fun l nl => ?_⟩
      exact q _ l [p] (same_new nl) nl upd_same (.cons (h2.same (same_new nl)) .nil)
    | bin o a b =>
      obtain ⟨p1, p2, h1, h2, h3⟩ := ht
      refine ⟨_, rfl, t, _, 0, _, rfl, rfl, SqT.of h1, rfl, (by cases o <;> rfl), _, rfl, ?_⟩
      rw [show decide (V.str o.name = V.str "is") = false by cases o <;> decide +kernel]
      refine iteF ?_
      refine ⟨_, rfl, t, _, 0, _, rfl, rfl, SqT.of h1, rfl, (by cases o <;> rfl), _, rfl, ?_⟩
      rw [show decide (V.str o.name = V.str "input") = false by cases o <;> decide +kernel]
      refine iteF ?_
      refine ⟨_, rfl, t, _, 0, _, rfl, rfl, SqT.of h1, rfl, (by cases o <;> rfl), _, rfl, ?_⟩
      rw [show decide (V.str o.name = V.str "power") = false by cases o <;> decide +kernel]
      refine iteF ?_
      refine ⟨_, rfl, 1, rfl, t, _, rfl, SqT.of h1, (by show ¬ (HT.sIx 3 0 (some 1) = 0 ∧ HT.sIx 3 3 none = 3); decide), fun e ne => ?_⟩
      refine ⟨e, _, rfl, .inr (SqT.of upd_same), fun l nl => ?_⟩
      have s1 := (same_new (o := .tup [V.ref p1, V.ref p2]) ne).trans (same_new (o := .lst [V.ref p1, V.ref p2]) nl)
      exact q _ l [p1, p2] s1 ((same_new ne).free nl) upd_same (.cons (h2.same s1) (.cons (h3.same s1) .nil))
    | less a b c d =>
      obtain ⟨p1, p2, p3, p4, h1, h2, h3, h4, h5⟩ := ht
      refine ⟨_, rfl, t, _, 0, _, rfl, rfl, SqT.of h1, rfl, rfl, _, rfl, iteF ?_⟩
      refine ⟨_, rfl, t, _, 0, _, rfl, rfl, SqT.of h1, rfl, rfl, _, rfl, iteF ?_⟩
      refine ⟨_, rfl, t, _, 0, _, rfl, rfl, SqT.of h1, rfl, rfl, _, rfl, iteF ?_⟩
      refine ⟨_, rfl, 1, rfl, t, _, rfl, SqT.of h1, (by show ¬ (HT.sIx 5 0 (some 1) = 0 ∧ HT.sIx 5 5 none = 5); decide), fun e ne => ?_⟩
      refine ⟨e, _, rfl, .inr (SqT.of upd_same), fun l nl => ?_⟩
      have s1 := (same_new (o := .tup [V.ref p1, V.ref p2, V.ref p3, V.ref p4]) ne).trans (same_new (o := .lst [V.ref p1, V.ref p2, V.ref p3, V.ref p4]) nl)
      exact q _ l [p1, p2, p3, p4] s1 ((same_new ne).free nl) upd_same (.cons (h2.same s1) (.cons (h3.same s1) (.cons (h4.same s1) (.cons (h5.same s1) .nil))))
end
end MK


set_option Elab.async false
set_option linter.all false
set_option maxRecDepth 100000
set_option maxHeartbeats 4000000
namespace MK
open PySem PySem.Spec PyProof.Rows L2
section
variable {P : Program} {w : World} {K : PySem.W.Frag} {mg : Str → Option Value} {base : Heap}
/-! ### _law_inputs -/
theorem scLInputs : FnScope ["_law_tree_here", "_law_found", "_law_part"] ["_law_tree_here"] (defScope sLInputs) := ⟨rfl, rfl, rfl, by decide +kernel, rfl, by decide +kernel, by decide +kernel⟩
def spLInputs : Nat → Sp
  | 0 => spNo
  | n + 1 => fun vs H Q _ => ∃ (t : Addr) (r : Rk), vs = [.ref t] ∧ TrAt H r t ∧ r.deep ≤ n + 1 ∧ r.ins.length ≤ 1000 ∧
    ∀ (H' : Hp) (p : Addr) (ys : List Str), Same H H' → H p = none → H' p = some (.lst (ys.map V.str)) → Names r.ins ys → Q (.ref p) H'
theorem ok_linputs {f fP : Addr} {fd fdP : FuncData} (F : Fun K "_law_inputs" "_law_inputs" sLInputs f fd) (bI : Binds K fd ["_law_tree_here"] []) (gI : mg "_law_inputs" = some (.ref f))
    (FP : Fun K "_law_parts" "_law_parts" sParts fP fdP) (bP : Binds K fdP ["_law_tree_here"] []) (gP : mg "_law_parts" = some (.ref fP)) (mL : mg "list" = none) (mS : mg "set" = none) (ms : mg "sorted" = none) :
    ∀ n : Nat, FnOk P w K mg base CX0 (n + 2) f fd ["_law_tree_here"] (spLInputs n)
  | 0 => fn_no
  | n + 1 => by
    have GP : FnOk P w K mg base CX0 1 fP fdP ["_law_tree_here"] spParts := ok_parts FP mL
    have GI := ok_linputs F bI gI FP bP gP mL mS ms n
    refine F.ok scLInputs (fun vs H Q E h => ?_) (fun cdv A outer s H vs Q E hr h => ?_)
    · obtain ⟨t, r, rfl, _⟩ := h
      rfl
    · obtain ⟨t, r, rfl, ht, hd, hl, q⟩ := h
      have nd := scLInputs.nd
      have hr1 : Room 1 _ := hr.mono (by omega)
      refine ⟨_, pss_cons (ps_if (pt_cmpR op_eq (pe_ix ix_tup (pv 0) pe_int (fun _ _ => rfl)) pe_str (nomark _)) (pss_one (ps_ret (pe_lst (pa_cons (pe_ix ix_tup (pv 0) pe_int (fun _ _ => rfl)) pa_nil)))) pss_nil)
        (pss_cons (ps_set (i := 1) nd rfl (.inl rfl) (pe_lst pa_nil))
        (pss_cons (ps_for PassesOwn.never rfl (pi_list (pe_call GP hr1 (by rfl) gP FP.kp bP .nil pass0 (pa_cons (pv 0) pa_nil))) (pg_name (i := 2) nd rfl (.inl rfl))
          (pss_one (ps_set (i := 1) nd rfl (.inl rfl) (pe_op op_cat (pv 1) (pe_call GI hr (by rfl) gI F.kp bI .nil pass0 (pa_cons (pv 2) pa_nil))))))
        (pss_one (ps_ret (pe_callB (cr_sortedTx rfl) (by rfl) ms boot_sorted (pa_cons (pe_callTy (cr_setTx rfl) (by rfl) mS PyProof.Rows.boot_set (pa_cons (pv 1) pa_nil)) pa_nil)))))), ?_⟩
      by_cases hz : ∃ z, r = .input z
      · obtain ⟨z, rfl⟩ := hz
        have h1 : H t = some (.tup [.str "input", .str z]) := ht
        refine ⟨_, rfl, t, _, 0, _, rfl, rfl, SqT.of h1, rfl, rfl, _, rfl, iteT ?_⟩
        refine ⟨_, rfl, t, _, 1, _, rfl, rfl, SqT.of h1, rfl, (by show 1 ≤ sizeLine; decide), fun l nl => ?_⟩
        exact q _ l [z] (same_new nl) nl upd_same ⟨List.pairwise_singleton _ _, fun y => Iff.rfl⟩
      · have hz' : ∀ z, r ≠ .input z := fun z e => hz ⟨z, e⟩
        have ei := ins_parts hz'
        obtain ⟨xs, h1, h2⟩ : ∃ xs, H t = some (.tup xs) ∧ ∃ y, xs.head? = some (V.str y) ∧ y ≠ "input" := by
          cases r with
          | is x y m =>
            obtain ⟨p, b, h1, _⟩ := ht
            exact ⟨_, h1, _, rfl, by decide +kernel⟩
          | nought => exact ⟨_, ht, _, rfl, by decide +kernel⟩
          | input z => exact absurd rfl (hz' z)
          | power a m =>
            obtain ⟨p, h1, _⟩ := ht
            exact ⟨_, h1, _, rfl, by decide +kernel⟩
          | bin o a b =>
            obtain ⟨p, b, h1, _⟩ := ht
            exact ⟨_, h1, _, rfl, by cases o <;> decide +kernel⟩
          | less a b c d =>
            obtain ⟨p1, p2, p3, p4, h1, _⟩ := ht
            exact ⟨_, h1, _, rfl, by decide +kernel⟩
        obtain ⟨y, hy, hne⟩ := h2
        obtain ⟨xs', rfl⟩ : ∃ xs', xs = V.str y :: xs' := by
          cases xs with
          | nil => cases hy
          | cons a b => exact ⟨b, by rw [Option.some.inj hy]⟩
        have a0 : atI (V.str y :: xs') 0 = some (V.str y) := atI_nat (j := 0) rfl
        refine ⟨_, rfl, t, _, 0, V.str y, rfl, rfl, SqT.of h1, a0, rfl, _, rfl, ?_⟩
        rw [decide_eq_false (fun e => hne (V.str.inj e))]
        refine iteF ?_
        refine ⟨Nat.zero_le _, fun f0 nf0 => ?_⟩
        have s0 := same_new (o := .lst []) nf0
        refine ⟨_, rfl, t, r, rfl, ht.same s0, fun H1 l ps s1 nl hps pr => ?_⟩
        have s01 := s0.trans s1
        refine ⟨l, rfl, ⟨_, SqL.of hps⟩, for_list (xs := ps.map V.ref) (fun i σ H2 => ∃ (v2 : Option V) (fa : Addr) (zs : List Str), σ = [some (.ref t), some (.ref fa), v2] ∧ Same H1 H2 ∧ H2 fa = some (.lst (zs.map V.str)) ∧
            (∀ z, z ∈ zs ↔ z ∈ (r.parts.take i).flatMap Rk.ins) ∧ zs.length ≤ ((r.parts.take i).flatMap Rk.ins).length)
          ⟨none, f0, [], rfl, Same.refl _, s1 _ _ upd_same, fun z => Iff.rfl, Nat.le_refl _⟩ (fun i σ H2 _ z => ?_) ?_ ?_⟩
        · obtain ⟨_, _, _, _, z, _⟩ := z
          exact SqL.of (z _ _ hps)
        · rintro i x σ H2 hx ⟨v2, fa, zs, rfl, s2, hfa, mem, len⟩
          obtain ⟨p, hp, rfl⟩ := at_map hx
          obtain ⟨x, hx2, hxt⟩ := paired_ix pr hp
          have hxm := List.mem_of_getElem? hx2
          have hdx := parts_deep hxm
          have pos := x.deep_pos
          obtain ⟨m, rfl⟩ : ∃ m, n = m + 1 := ⟨n - 1, by omega⟩
          have le1 : ((r.parts.take (i + 1)).flatMap Rk.ins).length ≤ r.ins.length := by
            rw [ei]
            exact flat_le _ _
          rw [flat_more hx2, List.length_append] at le1
          refine ⟨_, rfl, _, rfl, p, x, rfl, hxt.same s2, by omega, by omega, fun H3 p3 ys s3 np3 hp3 nm => ?_⟩
          have few := nm.few
          refine ⟨fa, p3, _, _, rfl, rfl, s3 _ _ hfa, hp3, ?_, fun d nd0 => ?_⟩
          · rw [List.length_map, List.length_map]
            exact Nat.le_trans (show zs.length + ys.length ≤ 10000 by omega) (by decide)
          · refine ⟨_, d, zs ++ ys, rfl, (s2.trans s3).trans (same_new nd0), ?_, fun z => ?_, ?_⟩
            · rw [upd_same, List.map_append]
            · rw [flat_more hx2, List.mem_append, List.mem_append, mem z, nm.mem z]
            · rw [flat_more hx2, List.length_append, List.length_append]
              omega
        · rintro σ H2 ⟨v2, fa, zs, rfl, s2, hfa, mem, len⟩
          have e1 : r.parts.take (ps.map V.ref).length = r.parts := by
            rw [List.length_map, pr.length, List.take_length]
          rw [e1, ← ei] at mem len
          refine ⟨_, rfl, fa, zs, rfl, SqL.of hfa, by omega, fun a ys na my ly => ?_⟩
          refine ⟨a, ys, rfl, upd_same, by omega, fun us p pm un so np => ?_⟩
          have s3 := (same_new (o := TxO P w a ys) na).trans (same_new (o := .lst (us.map V.str)) np)
          refine q _ p us ((s01.trans s2).trans s3) (((s01.trans s2).trans (same_new na)).free np) upd_same ⟨ris_of (sortedS_pw so) un, fun z => ?_⟩
          rw [pm.mem_iff, my z, mem z]
end
end MK


set_option Elab.async false
set_option linter.all false
set_option maxRecDepth 100000
set_option maxHeartbeats 4000000
namespace MK
open PySem PySem.Spec PyProof.Rows L2
/-- what isinstance tells of an error of the class at D -/
structure KD (K : PySem.W.Frag) (M N U Y B D : Addr) (bY bB : Bool) : Prop where
  c : ExcC K D
  kE : PySem.W.kitOne K (.ref D) (.type "ValueError") = some true
  kN : PySem.W.kitOne K (.ref D) (.ref N) = some false
  kU : PySem.W.kitOne K (.ref D) (.ref U) = some false
  kY : PySem.W.kitOne K (.ref D) (.ref Y) = some bY
  kB : PySem.W.kitOne K (.ref D) (.ref B) = some bB
  em : PySem.W.exmOne K (.ref D) (.ref M) = some true
structure KDs (K : PySem.W.Frag) (mg : Str → Option Value) (M N U Y B : Addr) : Prop where
  y : KD K M N U Y B Y true false
  b : KD K M N U Y B B false true
  gM : mg "MeasureError" = some (.ref M)
  gN : mg "NoFit" = some (.ref N)
  gU : mg "Unlike" = some (.ref U)
  gY : mg "NoValue" = some (.ref Y)
  gB : mg "ByNought" = some (.ref B)
  mE : mg "ValueError" = none
  mi : mg "isinstance" = none
  mn : mg "int" = none
section
variable {P : Program} {w : World} {K : PySem.W.Frag} {mg : Str → Option Value} {base : Heap} {M N U Y B : Addr}
/-- what is asked of a worth: its reckoning and its values as they lie there -/
structure WorIn (H : Hp) (t vd : Addr) (r : Rk) (ads : List (Str × Addr)) (vl : List (Str × (Int × Int))) : Prop where
  t : TrAt H r t
  v : VlAt H vd ads vl
  nd : (vl.map (·.1)).Nodup
  sm : ∀ s u, lk vl s = some u → FrSm 30 u
  ok : r.Ok
  deep : r.deep ≤ 20
  bits : r.bits ≤ 1500
  few : r.ins.length ≤ 900
  mny : r.many ≤ 1000
theorem WorIn.same {H H' : Hp} {t vd : Addr} {r : Rk} {ads : List (Str × Addr)} {vl : List (Str × (Int × Int))} (s : Same H H') (h : WorIn H t vd r ads vl) : WorIn H' t vd r ads vl := ⟨h.t.same s, h.v.same s, h.nd, h.sm, h.ok, h.deep, h.bits, h.few, h.mny⟩
/-- worth: one of its inputs has no value; nought divides; its value -/
def spWor (Y B : Addr) : Sp := fun vs H Q E => ∃ (t vd : Addr) (r : Rk) (ads : List (Str × Addr)) (vl : List (Str × (Int × Int))), vs = [.ref t, .ref vd] ∧ WorIn H t vd r ads vl ∧
  ((∃ s ∈ r.ins, lk vl s = none) → ∀ H', Same H H' → E (.ref Y) none H') ∧
  ((∀ s ∈ r.ins, lk vl s ≠ none) → val (lk vl) r = none → ∀ H', Same H H' → E (.ref B) none H') ∧
  ((∀ s ∈ r.ins, lk vl s ≠ none) → ∀ u, val (lk vl) r = some u → ∀ H' p, Same H H' → FracAt H' p u.1 u.2 → Q (.ref p) H')
theorem scLTold : FnScope ["_law_tree_here", "_law_values", "e"] ["_law_tree_here", "_law_values"] (defScope sLTold) := ⟨rfl, rfl, rfl, by decide +kernel, rfl, by decide +kernel, by decide +kernel⟩
def spLTold : Sp := fun vs H Q _ => ∃ (t vd : Addr) (r : Rk) (ads : List (Str × Addr)) (vl : List (Str × (Int × Int))), vs = [.ref t, .ref vd] ∧ WorIn H t vd r ads vl ∧
  ((∃ s ∈ r.ins, lk vl s = none) → ∀ H', Same H H' → Q (.str "value") H') ∧
  ((∀ s ∈ r.ins, lk vl s ≠ none) → val (lk vl) r = none → ∀ H', Same H H' → Q (.str "nought") H') ∧
  ((∀ s ∈ r.ins, lk vl s ≠ none) → ∀ u, val (lk vl) r = some u → ∀ H' p, Same H H' → FracAt H' p u.1 u.2 → Q (.ref p) H')
theorem ok_ltold {n : Nat} {f fW : Addr} {fd fdW : FuncData} (F : Fun K "_law_told" "_law_told" sLTold f fd) (k : KDs K mg M N U Y B)
    (GW : FnOk P w K mg base (L2N.CX P w) n fW fdW ["reckoning", "values"] (spWor Y B)) (kW : PySem.W.keepIn K (.ref fW) = true) (bW : Binds K fdW ["reckoning", "values"] []) (gW : mg "worth" = some (.ref fW)) : FnOk P w K mg base CX0 (n + 1) f fd ["_law_tree_here", "_law_values"] spLTold := by
  refine F.ok scLTold (fun vs H Q E h => ?_) (fun cdv A outer s H vs Q E hr h => ?_)
  · obtain ⟨t, vd, r, ads, vl, rfl, _⟩ := h
    rfl
  · obtain ⟨t, vd, r, ads, vl, rfl, wi, q1, q2, q3⟩ := h
    have nd := scLTold.nd
    refine ⟨_, pss_one (L2N.ps_try_as (i := 2) rfl rfl nd rfl rfl ⟨rfl, by decide, .inl k.gM⟩ takesN
      (fun W pn xe tk _ => pss_one (ps_ret (pe_callS GW hr (by rfl) gW kW bW (fun σ => L2N.passAt tk σ) (pa_cons (pv 0) (pa_cons (pv 1) pa_nil)))))
      (fun a oe cls d pn hz hf => pss_cons (ps_if (pw_or (pt_not (pt_val (pe_callB (call_isS hz hf) (by rfl) k.mi PyProof.Rows.boot_isinstance (pa_cons (pv 2) (pa_cons (pe_bltn (v := .ty "ValueError") (by rfl) k.mE L2.bootVE rfl) pa_nil)))))
          (pw_or (pt_val (pe_callB (call_isS hz hf) (by rfl) k.mi PyProof.Rows.boot_isinstance (pa_cons (pv 2) (pa_cons (pe_glob (v := .ref N) (by rfl) k.gN rfl) pa_nil))))
          (pw_or1 (pt_val (pe_callB (call_isS hz hf) (by rfl) k.mi PyProof.Rows.boot_isinstance (pa_cons (pv 2) (pa_cons (pe_glob (v := .ref U) (by rfl) k.gU rfl) pa_nil))))))).pt (pss_one (ps_ret pe_str)) pss_nil)
        (pss_one (ps_ret (pe_ix (show IxR _ (rIxL K) from ix_list) (pe_lst (pa_cons pe_str (pa_cons pe_str (pa_cons pe_str (pa_cons pe_str pa_nil)))))
          (pe_op op_add (pe_callTy call_int1 (by rfl) k.mn PyProof.Rows.boot_int (pa_cons (pe_callB (call_isS hz hf) (by rfl) k.mi PyProof.Rows.boot_isinstance (pa_cons (pv 2) (pa_cons (pe_glob (v := .ref Y) (by rfl) k.gY rfl) pa_nil))) pa_nil))
            (pe_op op_mul pe_int (pe_callTy call_int1 (by rfl) k.mn PyProof.Rows.boot_int (pa_cons (pe_callB (call_isS hz hf) (by rfl) k.mi PyProof.Rows.boot_isinstance (pa_cons (pv 2) (pa_cons (pe_glob (v := .ref B) (by rfl) k.gB rfl) pa_nil))) pa_nil)))) (fun _ _ => rfl)))))), ?_⟩
    refine ⟨_, rfl, _, rfl, t, vd, r, ads, vl, rfl, wi, fun h0 H1 s1 => ?_, fun h0 h1 H1 s1 => ?_, fun h0 u hu H1 p s1 hp => ?_⟩
    · refine ⟨true, k.y.em, fun _ a na => ?_, fun z => nomatch z⟩
      refine ⟨_, rfl, Y, rfl, rfl, k.y.c, _, _, true, rfl, fun u e => e, k.y.kE, true, rfl, iteF ?_⟩
      refine ⟨_, rfl, Y, rfl, rfl, k.y.c, _, _, false, rfl, fun u e => e, k.y.kN, false, rfl, iteF ?_⟩
      refine ⟨_, rfl, Y, rfl, rfl, k.y.c, _, _, false, rfl, fun u e => e, k.y.kU, false, rfl, iteF ?_⟩
      refine ⟨(by show 4 ≤ sizeLine; decide), fun l nl => ?_⟩
      refine ⟨_, rfl, Y, rfl, rfl, k.y.c, _, _, true, rfl, fun u e => e, k.y.kY, .inr ⟨_, rfl, _, rfl, Y, rfl, rfl, k.y.c, _, _, false, rfl, fun u e => e, k.y.kB, .inr ⟨_, rfl, ?_⟩⟩⟩
      refine ⟨_, _, rfl, rfl, .inl (by decide), _, _, rfl, rfl, l, _, 1, _, rfl, rfl, SqL.of upd_same, rfl, ?_⟩
      exact q1 h0 _ (s1.trans (same_new nl))
    · refine ⟨true, k.b.em, fun _ a na => ?_, fun z => nomatch z⟩
      refine ⟨_, rfl, B, rfl, rfl, k.b.c, _, _, true, rfl, fun u e => e, k.b.kE, true, rfl, iteF ?_⟩
      refine ⟨_, rfl, B, rfl, rfl, k.b.c, _, _, false, rfl, fun u e => e, k.b.kN, false, rfl, iteF ?_⟩
      refine ⟨_, rfl, B, rfl, rfl, k.b.c, _, _, false, rfl, fun u e => e, k.b.kU, false, rfl, iteF ?_⟩
      refine ⟨(by show 4 ≤ sizeLine; decide), fun l nl => ?_⟩
      refine ⟨_, rfl, B, rfl, rfl, k.b.c, _, _, false, rfl, fun u e => e, k.b.kY, .inr ⟨_, rfl, _, rfl, B, rfl, rfl, k.b.c, _, _, true, rfl, fun u e => e, k.b.kB, .inr ⟨_, rfl, ?_⟩⟩⟩
      refine ⟨_, _, rfl, rfl, .inl (by decide), _, _, rfl, rfl, l, _, 2, _, rfl, rfl, SqL.of upd_same, rfl, ?_⟩
      exact q2 h0 h1 _ (s1.trans (same_new nl))
    · exact q3 h0 u hu H1 p s1 hp
end
end MK


set_option Elab.async false
set_option linter.all false
set_option maxRecDepth 100000
set_option maxHeartbeats 4000000
namespace MK
open PySem PySem.Spec PyProof.Rows L2
/-! ### lists of texts as plain data -/
def txD (ys : List Str) : PyData := .list (ys.map PyData.str)
theorem strOk_of {z : Str} (h : Ok z) : PyData.strOk z = true := by
  unfold PyData.strOk
  rw [← Array.all_toList, List.all_eq_true]
  exact fun c hc => decide_eq_true (h c hc)
theorem txD_lay : ∀ {ys : List Str}, (∀ z ∈ ys, Ok z) → PyData.canLayAll0 (ys.map PyData.str) = true
  | [], _ => rfl
  | z :: r, h => by
    have ih := txD_lay (ys := r) fun q hq => h q (List.mem_cons_of_mem _ hq)
    simp only [List.map_cons, PyData.canLayAll0, PyData.canLay0, ih, Bool.and_true]
    exact strOk_of (h z List.mem_cons_self)
theorem txD_depth (ys : List Str) : PyData.depthAll (ys.map PyData.str) ≤ 1 := by
  induction ys with
  | nil => simp [PyData.depthAll]
  | cons z r ih =>
    simp only [List.map_cons, PyData.depthAll, PyData.depth]
    omega
theorem txD_shaped {ys : List Str} (h : ∀ z ∈ ys, Ok z) : SeqAt.shaped (txD ys) = true := by
  unfold SeqAt.shaped txD
  rw [Bool.and_eq_true, decide_eq_true_eq]
  constructor
  · simp only [PyData.canLay0]
    exact txD_lay h
  · have := txD_depth ys
    simp only [PyData.depth]
    omega
theorem txD_eqv {ys : List Str} (h : ∀ z ∈ ys, Ok z) : PyData.eqv (txD ys) (txD ys) = true := SeqAt.eqv_refl _ (SeqAt.canLay_of_shaped (txD_shaped h))
theorem txD_all {K : PySem.W.Frag} {H : Hp} : ∀ ys : List Str, DpAll K H (ys.map V.str) (ys.map PyData.str)
  | [] => .nil
  | z :: r => .cons (.str z) (txD_all r)
theorem txD_at {K : PySem.W.Frag} {H : Hp} {a : Addr} {ys : List Str} (h : H a = some (.lst (ys.map V.str))) : Dp K H (.ref a) (txD ys) := .lst (SqL.of h) (txD_all ys)
theorem txD_nil {ys : List Str} : PyData.eqv (txD ys) (txD []) = ys.isEmpty := by
  cases ys with
  | nil => rfl
  | cons z r => rfl
theorem ris_uniq : ∀ {ys zs : List Str}, ys.Pairwise sLt → zs.Pairwise sLt → (∀ z, z ∈ ys ↔ z ∈ zs) → ys = zs
  | [], [], _, _, _ => rfl
  | [], z :: zs, _, _, h => absurd ((h z).mpr List.mem_cons_self) (by simp)
  | y :: ys, [], _, _, h => absurd ((h y).mp List.mem_cons_self) (by simp)
  | y :: ys, z :: zs, h1, h2, h => by
    obtain ⟨a1, a2⟩ := List.pairwise_cons.mp h1
    obtain ⟨b1, b2⟩ := List.pairwise_cons.mp h2
    have e : y = z := by
      rcases List.mem_cons.mp ((h y).mp List.mem_cons_self) with e | m
      · exact e
      · rcases List.mem_cons.mp ((h z).mpr List.mem_cons_self) with e | m'
        · exact e.symm
        · exact absurd (sLt_tr (b1 y m) (a1 z m')) (sLt_irr _)
    subst e
    rw [ris_uniq a2 b2 fun x => ⟨fun hx => ?_, fun hx => ?_⟩]
    · rcases List.mem_cons.mp ((h x).mp (List.mem_cons_of_mem _ hx)) with e | m
      · exact absurd (a1 x hx) (by rw [e]; exact sLt_irr _)
      · exact m
    · rcases List.mem_cons.mp ((h x).mpr (List.mem_cons_of_mem _ hx)) with e | m
      · exact absurd (b1 x hx) (by rw [e]; exact sLt_irr _)
      · exact m
theorem Names.uniq {ins ys zs : List Str} (h : Names ins ys) (g : Names ins zs) : ys = zs := ris_uniq h.ris g.ris fun z => (h.mem z).trans (g.mem z).symm
theorem ins_by : ∀ (n : Nat) (r : Rk), r.deep ≤ n + 1 → r.ins.length ≤ 4 ^ n := by
  have one : ∀ n : Nat, 1 ≤ 4 ^ n := fun n => Nat.one_le_pow n 4 (by decide)
  intro n
  induction n with
  | zero =>
    intro r h
    cases r with
    | bin o a b => have h : 1 + max a.deep b.deep ≤ 1 := h; have := a.deep_pos; omega
    | power a m => have h : 1 + a.deep ≤ 1 := h; have := a.deep_pos; omega
    | less a b c d => have h : 1 + max (max a.deep b.deep) (max c.deep d.deep) ≤ 1 := h; have := a.deep_pos; omega
    | is _ _ _ => exact Nat.zero_le _
    | nought => exact Nat.zero_le _
    | input _ => exact Nat.le_refl _
  | succ n ih =>
    intro r h
    have e : 4 ^ (n + 1) = 4 ^ n * 4 := Nat.pow_succ ..
    have := one n
    cases r with
    | bin o a b =>
      have h : 1 + max a.deep b.deep ≤ n + 1 + 1 := h
      have := ih a (by omega); have := ih b (by omega)
      show (a.ins ++ b.ins).length ≤ _
      rw [List.length_append]
      omega
    | power a m =>
      have h : 1 + a.deep ≤ n + 1 + 1 := h
      have := ih a (by omega)
      show a.ins.length ≤ _
      omega
    | less a b c d =>
      have h : 1 + max (max a.deep b.deep) (max c.deep d.deep) ≤ n + 1 + 1 := h
      have := ih a (by omega); have := ih b (by omega); have := ih c (by omega); have := ih d (by omega)
      show (a.ins ++ b.ins ++ c.ins ++ d.ins).length ≤ _
      rw [List.length_append, List.length_append, List.length_append]
      omega
    | is _ _ _ => exact Nat.zero_le _
    | nought => exact Nat.zero_le _
    | input _ =>
      show 1 ≤ _
      omega
/-- the law's reckoning, k more around it -/
structure LawR (ws : List Str) (k : Nat) (r : Rk) : Prop where
  ok : r.Ok
  deep : r.deep ≤ 4 + k
  bits : r.bits ≤ 1000 + 31 * k
  few : r.ins.length ≤ 64 + k
  sub : ∀ s ∈ r.ins, s ∈ ws
  mny : r.many ≤ 100 + 2 * k
theorem LawR.mono {ws : List Str} {k k' : Nat} {r : Rk} (h : LawR ws k r) (l : k ≤ k') : LawR ws k' r := ⟨h.ok, by have := h.deep; omega, by have := h.bits; omega, by have := h.few; omega, h.sub, by have := h.mny; omega⟩
theorem LawR.of {ws bs : List Str} {r : Rk} (h : RkIn ws bs 4 2 r) : LawR ws 0 r := ⟨h.ok, h.deep, bits_by h.deep h.pows, ins_by 3 r h.deep, h.ins, by have := many_by 4 r h.deep; omega⟩
theorem leaf_small {ws bs : List Str} {p : Nat} {r : Rk} (h : RkIn ws bs 1 p r) : r.bits = 30 ∧ r.deep = 1 ∧ r.ins.length ≤ 1 ∧ r.many = 1 := by
  have hd := h.deep
  cases r with
  | bin o a b => have hd : 1 + max a.deep b.deep ≤ 1 := hd; have := a.deep_pos; omega
  | power a m => have hd : 1 + a.deep ≤ 1 := hd; have := a.deep_pos; omega
  | less a b c d => have hd : 1 + max (max a.deep b.deep) (max c.deep d.deep) ≤ 1 := hd; have := a.deep_pos; omega
  | is _ _ _ => exact ⟨rfl, rfl, Nat.zero_le _, rfl⟩
  | nought => exact ⟨rfl, rfl, Nat.zero_le _, rfl⟩
  | input _ => exact ⟨rfl, rfl, Nat.le_refl _, rfl⟩
theorem LawR.more {ws bs : List Str} {k : Nat} {r x : Rk} (o : Op4) (h : LawR ws k r) (g : RkIn ws bs 1 0 x) : LawR ws (k + 1) (.bin o x r) := by
  obtain ⟨e1, e2, e3, e4⟩ := leaf_small g
  refine ⟨⟨g.ok, h.ok⟩, ?_, ?_, ?_, fun s hs => ?_, ?_⟩
  · have := h.deep
    show 1 + max x.deep r.deep ≤ _
    omega
  · have := h.bits
    show x.bits + r.bits + 1 ≤ _
    omega
  · have := h.few
    show (x.ins ++ r.ins).length ≤ _
    rw [List.length_append]
    omega
  · rcases List.mem_append.mp hs with z | z
    · exact g.ins s z
    · exact h.sub s z
  · have := h.mny
    show 1 + (x.many + r.many) ≤ _
    omega
theorem LawR.pick {ws bs : List Str} {k : Nat} {x y c d : Rk} (hc : LawR ws k c) (hd : LawR ws k d) (hx : RkIn ws bs 1 0 x) (hy : RkIn ws bs 1 0 y) (few : c.ins.length + d.ins.length ≤ 64 + k) (mm : c.many + d.many ≤ 100 + 2 * k) : LawR ws (k + 2) (.less x y c d) := by
  obtain ⟨e1, e2, e3, e4⟩ := leaf_small hx
  obtain ⟨f1, f2, f3, f4⟩ := leaf_small hy
  refine ⟨⟨hx.ok, hy.ok, hc.ok, hd.ok⟩, ?_, ?_, ?_, fun s hs => ?_, ?_⟩
  · have := hc.deep; have := hd.deep
    show 1 + max (max x.deep y.deep) (max c.deep d.deep) ≤ _
    omega
  · have := hc.bits; have := hd.bits
    show max (max x.bits y.bits) (max c.bits d.bits) ≤ _
    omega
  · show (x.ins ++ y.ins ++ c.ins ++ d.ins).length ≤ _
    rw [List.length_append, List.length_append, List.length_append]
    omega
  · have hs : s ∈ x.ins ++ y.ins ++ c.ins ++ d.ins := hs
    simp only [List.mem_append] at hs
    rcases hs with ((z | z) | z) | z
    · exact hx.ins s z
    · exact hy.ins s z
    · exact hc.sub s z
    · exact hd.sub s z
  · show 1 + (x.many + y.many + c.many + d.many) ≤ _
    omega
end MK


set_option Elab.async false
set_option linter.all false
set_option maxRecDepth 100000
set_option maxHeartbeats 4000000
namespace MK
open PySem PySem.Spec PyProof.Rows L2
section
variable {P : Program} {w : World} {K : PySem.W.Frag} {mg : Str → Option Value} {base : Heap} {pt : Addr}
/-! ### parts -/
theorem scPaP : FnScope ["reckoning"] ["reckoning"] (defScope sPaP) := ⟨rfl, rfl, rfl, by decide +kernel, rfl, by decide +kernel, by decide +kernel⟩
def spPaP : Sp := fun vs H Q _ => ∃ (t : Addr) (r : Rk), vs = [.ref t] ∧ TrAt H r t ∧ ∀ (p : Addr) (ps : List Addr), H p = none → Paired (fun q x => TrAt H x q) ps r.parts → Q (.ref p) (upd H p (.tup (ps.map V.ref)))
theorem ok_paP {f : Addr} {fd : FuncData} (F : Fun K "parts" "parts" sPaP f fd) (T : PTab K w mg pt) : FnOk P w K mg base CX0 1 f fd ["reckoning"] spPaP := by
  refine F.ok scPaP (fun vs H Q E h => ?_) (fun cdv A outer s H vs Q E hr h => ?_)
  · obtain ⟨t, r, rfl, _⟩ := h
    rfl
  · obtain ⟨t, r, rfl, ht, q⟩ := h
    refine ⟨_, pss_one (ps_ret (pe_slice sl_tup (pv 0) (po_some pe_int) (po_some (pe_op op_add pe_int (pe_ix ix_kdict (pe_glob (v := .ref pt) (by rfl) T.g rfl) (pe_ix ix_tup (pv 0) pe_int (fun _ _ => rfl)) (fun _ _ => rfl)))))), ?_⟩
    obtain ⟨ps, zs, h1, hps⟩ := tr_tup ht
    have el : (ps.map V.ref).length = r.parts.length := by rw [List.length_map]; exact hps.length
    refine ⟨_, rfl, 1, rfl, _, rfl, t, _, 0, _, rfl, rfl, SqT.of h1, atI_nat (j := 0) rfl, pt, _, _, rfl, rfl, T.k r, _, _, rfl, rfl, ?_⟩
    rw [← el]
    refine ⟨_, rfl, t, _, rfl, SqT.of h1, cut_some _ _ _, fun p np => ?_⟩
    rw [cut_parts]
    exact q p ps np hps
/-! ### all_parts -/
theorem scAll : FnScope ["reckoning", "told", "part"] ["reckoning"] (defScope sAll) := ⟨rfl, rfl, rfl, by decide +kernel, rfl, by decide +kernel, by decide +kernel⟩
def spAll : Nat → Sp
  | 0 => spNo
  | n + 1 => fun vs H Q _ => ∃ (t : Addr) (r : Rk), vs = [.ref t] ∧ TrAt H r t ∧ r.deep ≤ n + 1 ∧ r.many ≤ 1000 ∧
    ∀ (H' : Hp) (p : Addr) (qs : List Addr), Same H H' → H p = none → H' p = some (.lst (qs.map V.ref)) → Paired (fun q x => TrAt H' x q) qs r.all → Q (.ref p) H'
theorem flat_all_le {r : Rk} (i : Nat) : ((r.parts.take i).flatMap Rk.all).length < r.many := by
  have := flat_le (f := Rk.all) r.parts i
  have e := congrArg List.length (all_eq r)
  rw [all_len, List.length_cons] at e
  omega
theorem ok_allP {f fP : Addr} {fd fdP : FuncData} (F : Fun K "all_parts" "all_parts" sAll f fd) (bA : Binds K fd ["reckoning"] []) (gA : mg "all_parts" = some (.ref f))
    (FP : Fun K "parts" "parts" sPaP fP fdP) (bP : Binds K fdP ["reckoning"] []) (gP : mg "parts" = some (.ref fP)) (T : PTab K w mg pt) :
    ∀ n : Nat, FnOk P w K mg base CX0 (n + 2) f fd ["reckoning"] (spAll n)
  | 0 => fn_no
  | n + 1 => by
    have GP : FnOk P w K mg base CX0 1 fP fdP ["reckoning"] spPaP := ok_paP FP T
    have GA := ok_allP F bA gA FP bP gP T n
    refine F.ok scAll (fun vs H Q E h => ?_) (fun cdv A outer s H vs Q E hr h => ?_)
    · obtain ⟨t, r, rfl, _⟩ := h
      rfl
    · obtain ⟨t, r, rfl, ht, hd, hm, q⟩ := h
      have nd := scAll.nd
      have hr1 : Room 1 _ := hr.mono (by omega)
      refine ⟨_, pss_cons (ps_set (i := 1) nd rfl (.inl rfl) (pe_lst (pa_cons (pv 0) pa_nil)))
        (pss_cons (ps_for PassesOwn.never rfl (pi_tup (pe_call GP hr1 (by rfl) gP FP.kp bP .nil pass0 (pa_cons (pv 0) pa_nil))) (pg_name (i := 2) nd rfl (.inl rfl))
          (pss_one (ps_expr (pe_bm PySem.F.plainAttrs_list PySem.F.slot_list_extend PySem.F.type_list_extend mt_extend (pv 1) (pa_cons (pe_call GA hr (by rfl) gA F.kp bA .nil pass0 (pa_cons (pv 2) pa_nil)) pa_nil)))))
        (pss_one (ps_ret (pv 1)))), ?_⟩
      refine ⟨_, rfl, (by show 1 ≤ sizeLine; decide), fun l nl => ?_⟩
      have s0 := same_new (o := .lst [V.ref t]) nl
      refine ⟨_, rfl, t, r, rfl, ht.same s0, fun p ps np pr => ?_⟩
      have s1 := same_new (o := .tup (ps.map V.ref)) np
      have hl1 : upd (upd H l (.lst [V.ref t])) p (.tup (ps.map V.ref)) l = some (.lst [V.ref t]) := s1 _ _ upd_same
      have s01 := s0.trans s1
      have hp1 : upd (upd H l (.lst [V.ref t])) p (.tup (ps.map V.ref)) p = some (.tup (ps.map V.ref)) := upd_same
      have pr1 : Paired (fun q x => TrAt (upd (upd H l (.lst [V.ref t])) p (.tup (ps.map V.ref))) x q) ps r.parts := Paired.mono (fun _ _ z => TrAt.same s1 z) pr
      generalize upd (upd H l (.lst [V.ref t])) p (.tup (ps.map V.ref)) = H1 at s1 hl1 s01 hp1 pr1 ⊢
      have nlp : H l = none := nl
      refine ⟨p, rfl, ⟨_, SqT.of hp1⟩, for_tup (xs := ps.map V.ref) (fun i σ H2 => ∃ (v2 : Option V) (qs : List Addr), σ = [some (.ref t), some (.ref l), v2] ∧ Same H H2 ∧ H2 p = some (.tup (ps.map V.ref)) ∧ Paired (fun q x => TrAt H2 x q) ps r.parts ∧ H2 l = some (.lst (qs.map V.ref)) ∧
          Paired (fun q x => TrAt H2 x q) qs (r :: (r.parts.take i).flatMap Rk.all))
        ⟨none, [t], rfl, s01, hp1, pr1, hl1, .cons (ht.same s01) .nil⟩ (fun i σ H2 _ z => ?_) ?_ ?_⟩
      · obtain ⟨_, _, _, _, z, _⟩ := z
        exact SqT.of z
      · rintro i x σ H2 hx ⟨v2, qs, rfl, s2, hp2, pr2, hl2, al⟩
        obtain ⟨u, hu, rfl⟩ := at_map hx
        obtain ⟨y, hy, hyt⟩ := paired_ix pr2 hu
        have hym := List.mem_of_getElem? hy
        have hdy := parts_deep hym
        have hmy := parts_many hym
        have pos := y.deep_pos
        obtain ⟨m, rfl⟩ : ∃ m, n = m + 1 := ⟨n - 1, by omega⟩
        have lm := flat_all_le (r := r) (i + 1)
        rw [flat_more hy, List.length_append] at lm
        have ql : qs.length = ((r.parts.take i).flatMap Rk.all).length + 1 := al.length
        refine ⟨_, rfl, .inl ⟨rfl, _, SqL.of hl2⟩, _, rfl, u, y, rfl, hyt, by omega, by omega, fun H3 b bs s3 nb hb pb => ?_⟩
        have bl : bs.length = y.all.length := pb.length
        refine ⟨l, b, _, _, rfl, rfl, s3 _ _ hl2, hb, ?_, ?_⟩
        · rw [List.length_map, List.length_map]
          exact Nat.le_trans (show qs.length + bs.length ≤ 10000 by omega) (by decide)
        · have s4 : ∀ {r' : Rk} {q' : Addr}, TrAt H3 r' q' → TrAt (upd H3 l (.lst (qs.map V.ref ++ bs.map V.ref))) r' q' := fun z => tr_list (s3 _ _ hl2) z
          refine ⟨_, qs ++ bs, rfl, ?_, ?_, Paired.mono (fun _ _ z => s4 (TrAt.same s3 z)) pr2, ?_, ?_⟩
          · exact same_upd (s2.trans s3) nlp
          · rw [upd_ne (ne_of (s3 _ _ hp2) (s3 _ _ hl2) (fun e => nomatch e))]
            exact s3 _ _ hp2
          · rw [upd_same, List.map_append]
          · rw [flat_more hy, ← List.cons_append]
            exact paired_app (Paired.mono (fun _ _ z => s4 (TrAt.same s3 z)) al) (Paired.mono (fun _ _ z => s4 z) pb)
      · rintro σ H2 ⟨v2, qs, rfl, s2, hp2, pr2, hl2, al⟩
        rw [List.length_map, pr1.length, List.take_length, ← all_eq] at al
        exact ⟨_, rfl, q H2 l qs s2 nlp hl2 al⟩
/-! ### inputs -/
theorem scInp : FnScope ["reckoning", "part"] ["reckoning"] (defScope sInp) := ⟨rfl, rfl, rfl, by decide +kernel, rfl, by decide +kernel, by decide +kernel⟩
/-- inputs: the names, rising, each once, in a new list -/
def spInp : Sp := fun vs H Q _ => ∃ (t : Addr) (r : Rk), vs = [.ref t] ∧ TrAt H r t ∧ r.deep ≤ 20 ∧ r.many ≤ 1000 ∧
  ∀ (H' : Hp) (p : Addr) (ys : List Str), Same H H' → H p = none → H' p = some (.lst (ys.map V.str)) → Names r.ins ys → Q (.ref p) H'
theorem ok_inpP {f fP fA : Addr} {fd fdP fdA : FuncData} (F : Fun K "inputs" "inputs" sInp f fd)
    (FA : Fun K "all_parts" "all_parts" sAll fA fdA) (bA : Binds K fdA ["reckoning"] []) (gA : mg "all_parts" = some (.ref fA))
    (FP : Fun K "parts" "parts" sPaP fP fdP) (bP : Binds K fdP ["reckoning"] []) (gP : mg "parts" = some (.ref fP)) (T : PTab K w mg pt) (ms : mg "sorted" = none) :
    FnOk P w K mg base CX0 23 f fd ["reckoning"] spInp := by
  have GA : FnOk P w K mg base CX0 22 fA fdA ["reckoning"] (spAll 20) := ok_allP FA bA gA FP bP gP T 20
  refine F.ok scInp (fun vs H Q E h => ?_) (fun cdv A outer s H vs Q E hr h => ?_)
  · obtain ⟨t, r, rfl, _⟩ := h
    rfl
  · obtain ⟨t, r, rfl, ht, hd, hm, q⟩ := h
    have nd := scInp.nd
    refine ⟨_, pss_one (ps_ret (pe_callB (cr_sortedTx rfl) (by rfl) ms boot_sorted (pa_cons
      (pe_scT (own := [("part", 1)]) (g := gName 1) rfl nd (pi_list (pe_call GA hr (by rfl) gA FA.kp bA .nil pass0 (pa_cons (pv 0) pa_nil)))
        (blkOk_by (N := ["reckoning", "part"]) (sc := defScope sInp) (by decide +kernel)) (fun _ _ _ _ _ => pg_name (i := 1) nd rfl (Or.inl rfl))
        (fun _ _ _ _ _ => pts_one (pt_cmpR op_eq (pe_ix (show IxR _ (rIxT K) from ix_tup) (pv 1) pe_int (fun _ _ => rfl)) pe_str (nomark _)))
        (fun _ _ _ _ _ => pe_ix (show IxR _ (rIxT K) from ix_tup) (pv 1) pe_int (fun _ _ => rfl))) pa_nil))), ?_⟩
    refine ⟨_, rfl, t, r, rfl, ht, (show r.deep ≤ 19 + 1 by omega), hm, fun H1 l qs s1 nl hl pq => ?_⟩
    refine ⟨l, rfl, ⟨_, SqL.of hl⟩, fun D nD => ?_⟩
    have nDH : H D = none := s1.free nD
    have nl2 : qs.length = r.many := by rw [pq.length, all_len]
    have fl : r.ins.length ≤ r.many := by
      rw [← all_ins, ← all_len]
      exact List.length_filterMap_le _ _
    refine scT_list (xs := qs.map V.ref) (fun i H2 => Same H1 H2 ∧ ∃ zs : List Str, H2 D = some (TxO P w D zs) ∧ (∀ z, z ∈ zs ↔ z ∈ (r.all.take i).filterMap inpName) ∧ zs.length ≤ i)
      ⟨same_new nD, [], upd_same, fun z => Iff.rfl, Nat.le_refl _⟩ (fun i H2 _ z => SqL.of (z.1 _ _ hl)) ?_ ?_
    · rintro i x H2 hx ⟨s2, zs, hD, mem, len⟩
      obtain ⟨u, hu, rfl⟩ := at_map hx
      have hi : i < qs.length := (List.getElem?_eq_some_iff.mp hu).1
      obtain ⟨y, hy, hyt⟩ := paired_ix pq hu
      have hyt := TrAt.same s2 hyt
      have tk : (r.all.take (i + 1)).filterMap inpName = (r.all.take i).filterMap inpName ++ [y].filterMap inpName := by rw [take_more hy, List.filterMap_append]
      refine ⟨rfl, ?_⟩
      by_cases hz : ∃ z, y = .input z
      · obtain ⟨z, rfl⟩ := hz
        have h1 : H2 u = some (.tup [.str "input", .str z]) := hyt
        refine ⟨_, rfl, u, _, 0, _, rfl, rfl, SqT.of h1, rfl, rfl, _, rfl, ?_⟩
        refine ⟨_, rfl, u, _, 1, _, rfl, rfl, SqT.of h1, rfl, z, zs, rfl, hD, Nat.lt_of_le_of_lt (show zs.length + 1 ≤ 1001 by omega) (by decide), fun zs' mem' len' => ?_⟩
        refine ⟨same_upd s2 nD, zs', upd_same, fun x => ?_, by omega⟩
        rw [mem' x, mem x, tk, List.mem_append]
        show _ ↔ _ ∨ x ∈ [z]
        rw [List.mem_singleton]
        exact Or.comm
      · obtain ⟨ps, ws, h1, _⟩ := tr_tup hyt
        have ne := kind_inp (r := y) fun z e => hz ⟨z, e⟩
        have no : [y].filterMap inpName = [] := by
          cases y with
          | input z => exact absurd ⟨z, rfl⟩ hz
          | _ => rfl
        have a0 : atI (V.str y.kind :: (ps.map V.ref ++ ws)) 0 = some (V.str y.kind) := atI_nat (j := 0) rfl
        refine ⟨_, rfl, u, _, 0, V.str y.kind, rfl, rfl, SqT.of h1, a0, rfl, _, rfl, ?_⟩
        rw [ne]
        refine ⟨s2, zs, hD, fun x => ?_, by omega⟩
        rw [mem x, tk, no, List.append_nil]
    · rintro H2 ⟨s2, zs, hD, mem, len⟩
      rw [List.length_map, pq.length, List.take_length, all_ins] at mem
      rw [List.length_map] at len
      refine ⟨D, zs, rfl, hD, by omega, fun us p pm un so np => ?_⟩
      have s3 := same_new (o := .lst (us.map V.str)) np
      refine q _ p us ((s1.trans s2).trans s3) ((s1.trans s2).free np) upd_same ⟨ris_of (sortedS_pw so) un, fun z => ?_⟩
      rw [pm.mem_iff, mem z]
end
end MK


set_option Elab.async false
set_option linter.all false
set_option maxRecDepth 100000
set_option maxHeartbeats 4000000
namespace MK
open PySem PySem.Spec PyProof.Rows L2
/-- what the class of an error of the program's own is known by -/
structure ErrAt (K : PySem.W.Frag) (mg : Str → Option Value) (x : Str) (B : Addr) : Prop where
  x1 : PySem.W.excIn K B [.type "ValueError", .type "Exception", .type "BaseException", .type "object"] "ValueError.__new__" = true
  g : mg x = some (.ref B)
  k : PySem.W.keepIn K (.ref B) = true
  b : PySem.W.subIn K (.ref B) (.type "BaseException") = some true
  t : PySem.W.typeIn K (.ref B) = some (.type "type")
theorem at2_0 (x y : V) : atI [x, y] 0 = some x := rfl
theorem at2_1 (x y : V) : atI [x, y] 1 = some y := rfl
/-- two fractions handed in, what comes of them -/
def spTwoF (B : Addr) (o : Op4) : Sp := fun vs H Q E => ∃ (a b : Addr) (u v : Int × Int) (i j : Nat), vs = [.ref a, .ref b] ∧ FracAt H a u.1 u.2 ∧ FracAt H b v.1 v.2 ∧ FrSm i u ∧ FrSm j v ∧ i + j ≤ 7000 ∧ (valOp o u v = none → E (.ref B) none H) ∧
  ∀ x, valOp o u v = some x → ∀ (H' : Hp) (p : Addr), Same H H' → FracAt H' p x.1 x.2 → Q (.ref p) H'
theorem gc_sm {j : Nat} {x y : Int} (n : y ≠ 0) (h : Sm j y) : Sm j (gc x y) := h.le (by
  have : Nat.gcd x.natAbs y.natAbs ≤ y.natAbs := Nat.gcd_le_right _ (by omega)
  show ((Nat.gcd x.natAbs y.natAbs : Nat) : Int).natAbs ≤ _
  omega)
theorem gc_div {j : Nat} {x y z : Int} (n : y ≠ 0) (h : Sm j y) (l : j ≤ 8000) : CDivWN z (gc x y) := divN_any ((gc_sm n h).div (Int.ne_of_gt (gc_pos n)) l)
theorem fd_sm {j : Nat} {x y : Int} (hx : Sm j x) (n : y ≠ 0) (d : ∀ g, g = gc x y → g ∣ x) : Sm j (x.fdiv (gc x y)) := hx.le (fdiv_le (gc_pos n) (d _ rfl))
end MK


set_option Elab.async false
set_option linter.all false
set_option maxRecDepth 100000
set_option maxHeartbeats 4000000
namespace MK
open PySem PySem.Spec PyProof.Rows L2
section
variable {P : Program} {w : World} {K : PySem.W.Frag} {mg : Str → Option Value} {base : Heap} {B : Addr}
theorem scTog : FnScope ["one", "above", "below", "shared", "rest", "whole", "left"] ["one", "above", "below"] (defScope sTog) := ⟨rfl, rfl, rfl, by decide +kernel, rfl, by decide +kernel, by decide +kernel⟩
def spTog : Sp := fun vs H Q _ => ∃ (a : Addr) (u v : Int × Int) (i j : Nat), vs = [.ref a, .int v.1, .int v.2] ∧ FracAt H a u.1 u.2 ∧ FrSm i u ∧ FrSm j v ∧ i + j ≤ 7000 ∧
  ∀ p, H p = none → Q (.ref p) (upd H p (.tup [.int (togA u.1 u.2 v.1 v.2), .int (togB u.1 u.2 v.1 v.2)]))
theorem ok_tog {f : Addr} {fd : FuncData} (F : Fun K "_together" "_together" sTog f fd) (mG : mg "gcd" = some (.builtin "math.gcd")) : FnOk P w K mg base CX0 1 f fd ["one", "above", "below"] spTog := by
  refine F.ok scTog (fun vs H Q E h => ?_) (fun cdv A outer s H vs Q E hr h => ?_)
  · obtain ⟨a, u, v, i, j, rfl, _⟩ := h
    rfl
  · obtain ⟨a, ⟨x, y⟩, ⟨z, t⟩, i, j, rfl, ha, ⟨⟨y0, g1⟩, sx, sy⟩, ⟨⟨t0, g2⟩, sz, st⟩, hij, q⟩ := h
    dsimp only at ha y0 g1 sx sy t0 g2 sz st q
    have nd := scTog.nd
    refine ⟨_, pss_cons (ps_set (i := 3) nd rfl (.inl rfl) (pe_callBfun cr_gcd (by rfl) mG (pa_cons (pe_ix ix_tup (pv 0) pe_int (fun _ _ => rfl)) (pa_cons (pv 2) pa_nil))))
      (pss_cons (ps_set (i := 4) nd rfl (.inl rfl) (pe_op op_fdivWN (pe_ix ix_tup (pv 0) pe_int (fun _ _ => rfl)) (pv 3)))
      (pss_cons (ps_set (i := 5) nd rfl (.inl rfl) (pe_op op_add (pe_op op_mulW (pe_ix ix_tup (pv 0) pe_int (fun _ _ => rfl)) (pe_op op_fdivWN (pv 2) (pv 3))) (pe_op op_mulW (pv 1) (pv 4))))
      (pss_cons (ps_set (i := 6) nd rfl (.inl rfl) (pe_callBfun cr_gcd (by rfl) mG (pa_cons (pv 5) (pa_cons (pv 3) pa_nil))))
      (pss_one (ps_ret (pe_tup (pa_cons (pe_op op_fdivWN (pv 5) (pv 6)) (pa_cons (pe_op op_mulW (pv 4) (pe_op op_fdivWN (pv 2) (pv 6))) pa_nil)))))))), ?_⟩
    have tn : t ≠ 0 := Int.ne_of_gt t0
    have s1 : ∀ z', CDivWN z' (gc y t) := fun _ => gc_div tn st (by omega)
    have sr : Sm i (y.fdiv (gc y t)) := sy.le (fdiv_le (gc_pos tn) (gc_dl y t))
    have sd : Sm j (t.fdiv (gc y t)) := st.le (fdiv_le (gc_pos tn) (gc_dr y t))
    have gn : gc y t ≠ 0 := Int.ne_of_gt (gc_pos tn)
    have s2 : ∀ z', CDivWN z' (gc (x * t.fdiv (gc y t) + z * y.fdiv (gc y t)) (gc y t)) := fun _ => gc_div gn (gc_sm tn st) (by omega)
    have gt : gc (x * t.fdiv (gc y t) + z * y.fdiv (gc y t)) (gc y t) ∣ t := Int.dvd_trans (gc_dr _ _) (gc_dr _ _)
    have sl : Sm j (t.fdiv (gc (x * t.fdiv (gc y t) + z * y.fdiv (gc y t)) (gc y t))) := st.le (fdiv_le (gc_pos gn) gt)
    refine ⟨_, rfl, a, _, 1, _, rfl, rfl, SqT.of ha, at2_1 _ _, _, rfl, _, _, rfl, ?_⟩
    refine ⟨_, rfl, a, _, 1, _, rfl, rfl, SqT.of ha, at2_1 _ _, _, rfl, _, _, rfl, rfl, s1 _, ?_⟩
    refine ⟨_, rfl, a, _, 0, _, rfl, rfl, SqT.of ha, at2_0 _ _, _, rfl, _, rfl, _, _, rfl, rfl, s1 _, _, _, rfl, rfl, sx.mulW sd (by omega), ?_⟩
    refine ⟨_, rfl, _, rfl, _, _, rfl, rfl, sz.mulW sr (by omega), _, _, rfl, rfl, ?_⟩
    refine ⟨_, rfl, _, rfl, _, _, rfl, ?_⟩
    refine ⟨_, rfl, _, rfl, _, _, rfl, rfl, s2 _, ?_⟩
    refine ⟨_, rfl, _, rfl, _, rfl, _, _, rfl, rfl, s2 _, _, _, rfl, rfl, sr.mulW sl (by omega), (by show 2 ≤ sizeLine; decide), fun p np => ?_⟩
    exact q p np
theorem norm_tog {u v : Int × Int} (hu : Red u.1 u.2) (hv : Red v.1 v.2) : valOp .plus u v = some (togA u.1 u.2 v.1 v.2, togB u.1 u.2 v.1 v.2) := by
  show some (norm (u.1 * v.2 + v.1 * u.2) (u.2 * v.2)) = _
  obtain ⟨h1, h2⟩ := tog_ok hu hv
  rw [norm_is (Int.ne_of_gt (Int.mul_pos hu.1 hv.1)) h1 h2]
end
end MK


set_option Elab.async false
set_option linter.all false
set_option maxRecDepth 100000
set_option maxHeartbeats 4000000
namespace MK
open PySem PySem.Spec PyProof.Rows L2
section
variable {P : Program} {w : World} {K : PySem.W.Frag} {mg : Str → Option Value} {base : Heap} {B : Addr}
theorem scAdd : FnScope ["one", "other"] ["one", "other"] (defScope sAdd) := ⟨rfl, rfl, rfl, by decide +kernel, rfl, by decide +kernel, by decide +kernel⟩
theorem ok_add {f fT : Addr} {fd fdT : FuncData} (F : Fun K "added" "added" sAdd f fd) (FT : Fun K "_together" "_together" sTog fT fdT) (gT : mg "_together" = some (.ref fT)) (mG : mg "gcd" = some (.builtin "math.gcd")) : FnOk P w K mg base CX0 2 f fd ["one", "other"] (spTwoF B .plus) := by
  have GT : FnOk P w K mg base CX0 1 fT fdT ["one", "above", "below"] spTog := ok_tog FT mG
  have bT := FT.binds (ps := ["one", "above", "below"]) fun _ _ _ _ _ _ us hl => match us, hl with | [_, _, _], _ => rfl
  refine F.ok scAdd (fun vs H Q E h => ?_) (fun cdv A outer s H vs Q E hr h => ?_)
  · obtain ⟨a, b, u, v, i, j, rfl, _⟩ := h
    rfl
  · obtain ⟨a, b, u, v, i, j, rfl, ha, hb, hu, hv, hij, _, q⟩ := h
    refine ⟨_, pss_one (ps_ret (pe_call GT hr (by rfl) gT FT.kp bT .nil pass0 (pa_cons (pv 0) (pa_cons (pe_ix ix_tup (pv 1) pe_int (fun _ _ => rfl)) (pa_cons (pe_ix ix_tup (pv 1) pe_int (fun _ _ => rfl)) pa_nil))))), ?_⟩
    refine ⟨_, rfl, _, rfl, b, _, 0, _, rfl, rfl, SqT.of hb, at2_0 _ _, _, rfl, b, _, 1, _, rfl, rfl, SqT.of hb, at2_1 _ _, ?_⟩
    exact ⟨a, u, v, i, j, rfl, ha, hu, hv, hij, fun p np => q _ (norm_tog hu.1 hv.1) _ p (same_new np) upd_same⟩
end
end MK


set_option Elab.async false
set_option linter.all false
set_option maxRecDepth 100000
set_option maxHeartbeats 4000000
namespace MK
open PySem PySem.Spec PyProof.Rows L2
section
variable {P : Program} {w : World} {K : PySem.W.Frag} {mg : Str → Option Value} {base : Heap} {B : Addr}
theorem scLess : FnScope ["one", "other"] ["one", "other"] (defScope sLess) := ⟨rfl, rfl, rfl, by decide +kernel, rfl, by decide +kernel, by decide +kernel⟩
theorem red_neg {x y : Int} (h : Red x y) : Red (-x) y := ⟨h.1, by rw [Int.natAbs_neg]; exact h.2⟩
theorem norm_tog' {u v : Int × Int} (hu : Red u.1 u.2) (hv : Red v.1 v.2) : valOp .minus u v = some (togA u.1 u.2 (-v.1) v.2, togB u.1 u.2 (-v.1) v.2) := by
  show some (norm (u.1 * v.2 - v.1 * u.2) (u.2 * v.2)) = _
  obtain ⟨h1, h2⟩ := tog_ok hu (red_neg hv)
  rw [norm_is (Int.ne_of_gt (Int.mul_pos hu.1 hv.1)) h1 (by rw [h2, Int.neg_mul, Int.sub_eq_add_neg])]
theorem ok_less {f fT : Addr} {fd fdT : FuncData} (F : Fun K "lessened" "lessened" sLess f fd) (FT : Fun K "_together" "_together" sTog fT fdT) (gT : mg "_together" = some (.ref fT)) (mG : mg "gcd" = some (.builtin "math.gcd")) : FnOk P w K mg base CX0 2 f fd ["one", "other"] (spTwoF B .minus) := by
  have GT : FnOk P w K mg base CX0 1 fT fdT ["one", "above", "below"] spTog := ok_tog FT mG
  have bT := FT.binds (ps := ["one", "above", "below"]) fun _ _ _ _ _ _ us hl => match us, hl with | [_, _, _], _ => rfl
  refine F.ok scLess (fun vs H Q E h => ?_) (fun cdv A outer s H vs Q E hr h => ?_)
  · obtain ⟨a, b, u, v, i, j, rfl, _⟩ := h
    rfl
  · obtain ⟨a, b, u, v, i, j, rfl, ha, hb, hu, hv, hij, _, q⟩ := h
    refine ⟨_, pss_one (ps_ret (pe_call GT hr (by rfl) gT FT.kp bT .nil pass0 (pa_cons (pv 0) (pa_cons (pe_un un_neg (pe_ix ix_tup (pv 1) pe_int (fun _ _ => rfl))) (pa_cons (pe_ix ix_tup (pv 1) pe_int (fun _ _ => rfl)) pa_nil))))), ?_⟩
    refine ⟨_, rfl, _, rfl, b, _, 0, _, rfl, rfl, SqT.of hb, at2_0 _ _, _, rfl, _, rfl, b, _, 1, _, rfl, rfl, SqT.of hb, at2_1 _ _, ?_⟩
    exact ⟨a, u, (-v.1, v.2), i, j, rfl, ha, hu, ⟨red_neg hv.1, hv.2.1.neg, hv.2.2⟩, hij, fun p np => q _ (norm_tog' hu.1 hv.1) _ p (same_new np) upd_same⟩
end
end MK


set_option Elab.async false
set_option linter.all false
set_option maxRecDepth 100000
set_option maxHeartbeats 4000000
namespace MK
open PySem PySem.Spec PyProof.Rows L2
section
variable {P : Program} {w : World} {K : PySem.W.Frag} {mg : Str → Option Value} {base : Heap} {B : Addr}
theorem scProd : FnScope ["one", "other", "falling", "rising"] ["one", "other"] (defScope sProd) := ⟨rfl, rfl, rfl, by decide +kernel, rfl, by decide +kernel, by decide +kernel⟩
theorem norm_pro {u v : Int × Int} (hu : Red u.1 u.2) (hv : Red v.1 v.2) : valOp .times u v = some (proA u.1 u.2 v.1 v.2, proB u.1 u.2 v.1 v.2) := by
  show some (norm (u.1 * v.1) (u.2 * v.2)) = _
  obtain ⟨h1, h2⟩ := pro_ok hu hv
  rw [norm_is (Int.ne_of_gt (Int.mul_pos hu.1 hv.1)) h1 h2]
theorem ok_prod {f : Addr} {fd : FuncData} (F : Fun K "product" "product" sProd f fd) (mG : mg "gcd" = some (.builtin "math.gcd")) : FnOk P w K mg base CX0 1 f fd ["one", "other"] (spTwoF B .times) := by
  refine F.ok scProd (fun vs H Q E h => ?_) (fun cdv A outer s H vs Q E hr h => ?_)
  · obtain ⟨a, b, u, v, i, j, rfl, _⟩ := h
    rfl
  · obtain ⟨a, b, ⟨x, y⟩, ⟨z, t⟩, i, j, rfl, ha, hb, ⟨⟨y0, g1⟩, sx, sy⟩, ⟨⟨t0, g2⟩, sz, st⟩, hij, _, q⟩ := h
    dsimp only at ha hb y0 g1 sx sy t0 g2 sz st
    have nd := scProd.nd
    have tn : t ≠ 0 := Int.ne_of_gt t0
    have yn : y ≠ 0 := Int.ne_of_gt y0
    refine ⟨_, pss_cons (ps_set (i := 2) nd rfl (.inl rfl) (pe_callBfun cr_gcd (by rfl) mG (pa_cons (pe_ix ix_tup (pv 0) pe_int (fun _ _ => rfl)) (pa_cons (pe_ix ix_tup (pv 1) pe_int (fun _ _ => rfl)) pa_nil))))
      (pss_cons (ps_set (i := 3) nd rfl (.inl rfl) (pe_callBfun cr_gcd (by rfl) mG (pa_cons (pe_ix ix_tup (pv 1) pe_int (fun _ _ => rfl)) (pa_cons (pe_ix ix_tup (pv 0) pe_int (fun _ _ => rfl)) pa_nil))))
      (pss_one (ps_ret (pe_tup (pa_cons (pe_op op_mulW (pe_op op_fdivWN (pe_ix ix_tup (pv 0) pe_int (fun _ _ => rfl)) (pv 2)) (pe_op op_fdivWN (pe_ix ix_tup (pv 1) pe_int (fun _ _ => rfl)) (pv 3))) (pa_cons (pe_op op_mulW (pe_op op_fdivWN (pe_ix ix_tup (pv 0) pe_int (fun _ _ => rfl)) (pv 3)) (pe_op op_fdivWN (pe_ix ix_tup (pv 1) pe_int (fun _ _ => rfl)) (pv 2))) pa_nil)))))), ?_⟩
    have s1 : ∀ z', CDivWN z' (gc x t) := fun _ => gc_div tn st (by omega)
    have s2 : ∀ z', CDivWN z' (gc z y) := fun _ => gc_div yn sy (by omega)
    have b1 : Sm i (x.fdiv (gc x t)) := sx.le (fdiv_le (gc_pos tn) (gc_dl _ _))
    have b2 : Sm j (z.fdiv (gc z y)) := sz.le (fdiv_le (gc_pos yn) (gc_dl _ _))
    have b3 : Sm i (y.fdiv (gc z y)) := sy.le (fdiv_le (gc_pos yn) (gc_dr _ _))
    have b4 : Sm j (t.fdiv (gc x t)) := st.le (fdiv_le (gc_pos tn) (gc_dr _ _))
    refine ⟨_, rfl, a, _, 0, _, rfl, rfl, SqT.of ha, at2_0 _ _, _, rfl, b, _, 1, _, rfl, rfl, SqT.of hb, at2_1 _ _, _, _, rfl, ?_⟩
    refine ⟨_, rfl, b, _, 0, _, rfl, rfl, SqT.of hb, at2_0 _ _, _, rfl, a, _, 1, _, rfl, rfl, SqT.of ha, at2_1 _ _, _, _, rfl, ?_⟩
    refine ⟨_, rfl, a, _, 0, _, rfl, rfl, SqT.of ha, at2_0 _ _, _, rfl, _, _, rfl, rfl, s1 _, _, rfl, b, _, 0, _, rfl, rfl, SqT.of hb, at2_0 _ _, _, rfl, _, _, rfl, rfl, s2 _, _, _, rfl, rfl, b1.mulW b2 (by omega), ?_⟩
    refine ⟨_, rfl, a, _, 1, _, rfl, rfl, SqT.of ha, at2_1 _ _, _, rfl, _, _, rfl, rfl, s2 _, _, rfl, b, _, 1, _, rfl, rfl, SqT.of hb, at2_1 _ _, _, rfl, _, _, rfl, rfl, s1 _, _, _, rfl, rfl, b3.mulW b4 (by omega), (by show 2 ≤ sizeLine; decide), fun p np => ?_⟩
    exact q _ (norm_pro (u := (x, y)) (v := (z, t)) ⟨y0, g1⟩ ⟨t0, g2⟩) _ p (same_new np) upd_same
end
end MK


set_option Elab.async false
set_option linter.all false
set_option maxRecDepth 100000
set_option maxHeartbeats 4000000
namespace MK
open PySem PySem.Spec PyProof.Rows L2
section
variable {P : Program} {w : World} {K : PySem.W.Frag} {mg : Str → Option Value} {base : Heap} {B : Addr}
theorem scTrn : FnScope ["one", "above", "below"] ["one"] (defScope sTrn) := ⟨rfl, rfl, rfl, by decide +kernel, rfl, by decide +kernel, by decide +kernel⟩
def spTrn (B : Addr) : Sp := fun vs H Q E => ∃ (a : Addr) (x y : Int), vs = [.ref a] ∧ FracAt H a x y ∧ (x = 0 → E (.ref B) none H) ∧ (x ≠ 0 → ∀ p, H p = none → Q (.ref p) (upd H p (.tup [.int (trnA x y), .int (trnB x y)])))
theorem ok_trn {f : Addr} {fd : FuncData} (F : Fun K "_turned" "_turned" sTrn f fd) (eB : ErrAt K mg "ByNought" B) : FnOk P w K mg base (L2N.CX P w) 1 f fd ["one"] (spTrn B) := by
  refine F.okN scTrn (fun vs H Q E h => ?_) (fun cdv A outer s H vs Q E hr h => ?_)
  · obtain ⟨a, x, y, rfl, _⟩ := h
    rfl
  · obtain ⟨a, x, y, rfl, ha, qE, qQ⟩ := h
    have nd := scTrn.nd
    refine ⟨_, pss_cons (ps_asg (pv 0) (pg_tup rfl (pgs_cons (pg_name (i := 1) nd rfl (.inl rfl)) (pgs_cons (pg_name (i := 2) nd rfl (.inl rfl)) pgs_nil))))
      (pss_cons (ps_if (pt_cmpR op_eq (pv 1) pe_int (nomark _)) (pss_one (L2N.ps_raise rfl (L2N.takes_of rfl rfl rfl rfl) (L2N.pmk_own PySem.F.excBase_ValueError eB.x1 eB.g eB.k (raises_own eB.b eB.t) rfl))) pss_nil)
      (pss_cons (ps_if (pt_cmpR op_lt (pv 1) pe_int (nomark _)) (pss_one (ps_ret (pe_tup (pa_cons (pe_un un_neg (pv 2)) (pa_cons (pe_un un_neg (pv 1)) pa_nil))))) pss_nil)
      (pss_one (ps_ret (pe_tup (pa_cons (pv 2) (pa_cons (pv 1) pa_nil))))))), ?_⟩
    refine ⟨_, rfl, a, _, rfl, SqT.of ha, rfl, _, _, rfl, _, _, rfl, rfl, ?_⟩
    refine ⟨_, rfl, rfl, _, rfl, ite2 (fun e => ?_) (fun e => ?_)⟩
    · exact qE (by simpa using e)
    · have x0 : x ≠ 0 := fun z => e (by rw [z]; rfl)
      have q := qQ x0
      unfold trnA trnB at q
      refine ⟨_, rfl, _, _, rfl, rfl, _, rfl, ite2 (fun e => ?_) (fun e => ?_)⟩
      · rw [if_pos (of_decide_eq_true e), if_pos (of_decide_eq_true e)] at q
        exact ⟨_, rfl, _, rfl, _, rfl, _, rfl, (by show 2 ≤ sizeLine; decide), fun p np => q p np⟩
      · rw [if_neg fun z => e (decide_eq_true z), if_neg fun z => e (decide_eq_true z)] at q
        exact ⟨_, rfl, _, rfl, (by show 2 ≤ sizeLine; decide), fun p np => q p np⟩
end
end MK


set_option Elab.async false
set_option linter.all false
set_option maxRecDepth 100000
set_option maxHeartbeats 4000000
namespace MK
open PySem PySem.Spec PyProof.Rows L2
section
variable {P : Program} {w : World} {K : PySem.W.Frag} {mg : Str → Option Value} {base : Heap} {B : Addr}
theorem scQuo : FnScope ["one", "other"] ["one", "other"] (defScope sQuo) := ⟨rfl, rfl, rfl, by decide +kernel, rfl, by decide +kernel, by decide +kernel⟩
theorem norm_neg {x y : Int} (h : y ≠ 0) : norm (-x) (-y) = norm x y := norm_is (by omega) (norm_red h) (by
  have e := norm_val (x := x) h
  rw [Int.mul_neg, Int.neg_mul]
  exact congrArg (fun z : Int => -z) e)
theorem trn_quo {u v : Int × Int} (hu : Red u.1 u.2) (hv : Red v.1 v.2) (n : v.1 ≠ 0) : valOp .over u v = valOp .times u (trnA v.1 v.2, trnB v.1 v.2) := by
  show (if v.1 = 0 then none else some (norm (u.1 * v.2) (u.2 * v.1))) = some (norm (u.1 * trnA v.1 v.2) (u.2 * trnB v.1 v.2))
  rw [if_neg n]
  unfold trnA trnB
  split
  · rw [Int.mul_neg, Int.mul_neg, norm_neg (Int.mul_ne_zero (Int.ne_of_gt hu.1) n)]
  · rfl
theorem ok_quo {f fP fT : Addr} {fd fdP fdT : FuncData} (F : Fun K "quotient" "quotient" sQuo f fd) (FP : Fun K "product" "product" sProd fP fdP) (gP : mg "product" = some (.ref fP)) (FT : Fun K "_turned" "_turned" sTrn fT fdT) (gT : mg "_turned" = some (.ref fT)) (mG : mg "gcd" = some (.builtin "math.gcd"))
    (eB : ErrAt K mg "ByNought" B) : FnOk P w K mg base (L2N.CX P w) 2 f fd ["one", "other"] (spTwoF B .over) := by
  have GP : FnOk P w K mg base CX0 1 fP fdP ["one", "other"] (spTwoF B .times) := ok_prod FP mG
  have GT : FnOk P w K mg base (L2N.CX P w) 1 fT fdT ["one"] (spTrn B) := ok_trn FT eB
  have bP := FP.binds (ps := ["one", "other"]) fun _ _ _ _ _ _ us hl => match us, hl with | [_, _], _ => rfl
  have bT := FT.binds (ps := ["one"]) fun _ _ _ _ _ _ us hl => match us, hl with | [_], _ => rfl
  refine F.okN scQuo (fun vs H Q E h => ?_) (fun cdv A outer s H vs Q E hr h => ?_)
  · obtain ⟨a, b, u, v, i, j, rfl, _⟩ := h
    rfl
  · obtain ⟨a, b, u, v, i, j, rfl, ha, hb, hu, hv, hij, qE, q⟩ := h
    refine ⟨_, pss_one (ps_ret (pe_call GP hr (by rfl) gP FP.kp bP .nil pass0 (pa_cons (pv 0) (pa_cons
      (pe_callS GT hr (by rfl) gT FT.kp bT (fun σ => L2N.passAt (L2N.takes_of rfl rfl rfl rfl) σ) (pa_cons (pv 1) pa_nil)) pa_nil)))), ?_⟩
    refine ⟨_, rfl, _, rfl, b, _, _, rfl, hb, fun z => qE ?_, fun n0 p np => ?_⟩
    · show (if v.1 = 0 then none else _) = _
      rw [if_pos z]
    · have r := trn_ok hv.1 n0
      have l := trn_le v.1 v.2
      refine ⟨a, p, u, (trnA v.1 v.2, trnB v.1 v.2), i, j, rfl, same_new np _ _ ha, upd_same, hu, ⟨r.1, hv.2.2.le (Nat.le_of_eq l.1), hv.2.1.le (Nat.le_of_eq l.2)⟩, hij, (fun z => nomatch z), fun x hx H' p' s hp => ?_⟩
      exact q x ((trn_quo hu.1 hv.1 n0).trans hx) H' p' ((same_new np).trans s) hp
end
end MK


set_option Elab.async false
set_option linter.all false
set_option maxRecDepth 100000
set_option maxHeartbeats 4000000
namespace MK
open PySem PySem.Spec PyProof.Rows L2
theorem half_step (n k : Nat) : n / 2 ^ (k + 1) = n / 2 ^ k / 2 := by rw [Nat.pow_succ, Nat.div_div_eq_div_mul]
theorem pow_odd {x : Int} {m : Nat} (h : m % 2 = 1) : x ^ (m / 2) * x ^ (m / 2) * x = x ^ m := by
  rw [← Int.pow_add, ← Int.pow_succ]
  congr 1
  omega
theorem pow_even {x : Int} {m : Nat} (h : m % 2 = 0) : x ^ (m / 2) * x ^ (m / 2) = x ^ m := by
  rw [← Int.pow_add]
  congr 1
  omega
section
variable {P : Program} {w : World} {K : PySem.W.Frag} {mg : Str → Option Value} {base : Heap} {B : Addr}
theorem scWholeP : FnScope ["number", "n", "answer", "place"] ["number", "n"] (defScope sWholeP) := ⟨rfl, rfl, rfl, by decide +kernel, rfl, by decide +kernel, by decide +kernel⟩
theorem scRaised : FnScope ["one", "n", "above", "below"] ["one", "n"] (defScope sRaised) := ⟨rfl, rfl, rfl, by decide +kernel, rfl, by decide +kernel, by decide +kernel⟩
def spWP : Sp := fun vs H Q _ => ∃ (x : Int) (n k : Nat), vs = [.int x, .int n] ∧ Sm k x ∧ k ≤ 1500 ∧ n ≤ 4 ∧ Q (.int (x ^ n)) H
theorem ok_wholeP {f : Addr} {fd : FuncData} (F : Fun K "_whole_power" "_whole_power" sWholeP f fd) (mr : mg "range" = none) (mv : mg "reversed" = none) : FnOk P w K mg base CX0 1 f fd ["number", "n"] spWP := by
  refine F.ok scWholeP (fun vs H Q E h => ?_) (fun cdv A outer s H vs Q E hr h => ?_)
  · obtain ⟨x, n, _, rfl, _⟩ := h
    rfl
  · obtain ⟨x, n, k0, rfl, bx, hk0, bn, q⟩ := h
    have nd := scWholeP.nd
    refine ⟨_, pss_cons (ps_set (i := 2) nd rfl (.inl rfl) pe_int)
      (pss_cons (ps_for PassesOwn.never rfl (pi_revR (by rfl) mv (prg_1 (by rfl) mr (pe_bits (pv 1)))) (pg_name (i := 3) nd rfl (.inl rfl))
        (pss_cons (ps_set (i := 2) nd rfl (.inl rfl) (pe_op op_mulW (pv 2) (pv 2)))
        (pss_one (ps_if (pt_truth (pe_op op_odd (pe_op op_shrN (pv 1) (pv 3)) pe_int) (fun _ => rfl)) (pss_one (ps_set (i := 2) nd rfl (.inl rfl) (pe_op op_mulW (pv 2) (pv 0)))) pss_nil))))
      (pss_one (ps_ret (pv 2)))), ?_⟩
    have hL : n < 2 ^ Builtin.Int.intBits (n : Int) := by
      have := PySem.intBits_le_iff.mp (Nat.le_refl (Builtin.Int.intBits (n : Int)))
      rw [Int.natAbs_natCast] at this
      exact this
    have hL2 : Builtin.Int.intBits (n : Int) ≤ 3 := PySem.intBits_le_iff.mpr (by rw [Int.natAbs_natCast]; omega)
    refine ⟨_, rfl, _, rfl, _, rfl, ?_⟩
    generalize Builtin.Int.intBits (n : Int) = L at hL hL2 ⊢
    refine ⟨by omega, by omega, by omega, by omega, ?_⟩
    rw [show ((L : Int) - 0).toNat = L by omega]
    have pw : ∀ i : Nat, i ≤ 8 → Sm 12001 (x ^ i) := fun i hi => (bx.pow i).mono (by
      have : k0 * i ≤ 1500 * 8 := Nat.mul_le_mul hk0 hi
      omega)
    refine for_rangeC (n := L) (fun i σ H' => H' = H ∧ ∃ v3 : Option V, σ = [some (.int x), some (.int n), some (.int (x ^ (n / 2 ^ (L - i)))), v3]) ⟨rfl, none, ?_⟩ ?_ ?_
    · rw [Nat.sub_zero, Nat.div_eq_of_lt hL, Int.pow_zero]
      rfl
    · rintro i σ H' hi ⟨rfl, v3, rfl⟩
      obtain ⟨k, hk⟩ : ∃ k : Nat, L = i + (k + 1) := ⟨L - i - 1, by omega⟩
      rw [show (0 : Int) + (L : Int) - 1 + (i : Int) * (-1) = (k : Int) by omega, show L - i = k + 1 by omega, show L - (i + 1) = k by omega, half_step]
      have hm : n / 2 ^ k ≤ 4 := Nat.le_trans (Nat.div_le_self _ _) bn
      have e0 : ((n : Int) / 2 ^ k) = ((n / 2 ^ k : Nat) : Int) := by
        rw [Int.natCast_ediv, Int.natCast_pow]
        rfl
      generalize n / 2 ^ k = m at hm e0
      have hb := pw (m / 2) (by omega)
      refine ⟨_, rfl, _, rfl, _, _, rfl, rfl, hb.mulW hb (by decide), _, rfl, _, rfl, _, _, rfl, rfl, ?_⟩
      rw [e0]
      refine ⟨_, rfl, rfl, ?_⟩
      have b2 : Sm 12001 (x ^ (m / 2) * x ^ (m / 2)) := by
        rw [← Int.pow_add]
        exact pw _ (by omega)
      rcases Nat.mod_two_eq_zero_or_one m with e | e
      · refine ⟨false, by rw [e]; rfl, iteF ?_⟩
        refine ⟨rfl, some (.int (k : Int)), ?_⟩
        rw [← pow_even e]
        rfl
      · refine ⟨true, by rw [e]; rfl, iteT ?_⟩
        refine ⟨_, rfl, _, rfl, _, _, rfl, rfl, b2.mulW bx (by omega), ?_⟩
        refine ⟨rfl, some (.int (k : Int)), ?_⟩
        rw [← pow_odd e]
        rfl
    · rintro σ H' ⟨rfl, v3, rfl⟩
      rw [Nat.sub_self, Nat.pow_zero, Nat.div_one]
      exact ⟨_, rfl, q⟩
def spRaised (B : Addr) : Sp := fun vs H Q E => ∃ (a : Addr) (u : Int × Int) (n : Int) (k : Nat), vs = [.ref a, .int n] ∧ FracAt H a u.1 u.2 ∧ FrSm k u ∧ k ≤ 1500 ∧ -4 ≤ n ∧ n ≤ 4 ∧ (valPow u n = none → E (.ref B) none H) ∧
  ∀ x, valPow u n = some x → ∀ (H' : Hp) (p : Addr), Same H H' → FracAt H' p x.1 x.2 → Q (.ref p) H'
theorem ok_raised {f fT fW : Addr} {fd fdT fdW : FuncData} (F : Fun K "raised" "raised" sRaised f fd) (FT : Fun K "_turned" "_turned" sTrn fT fdT) (gT : mg "_turned" = some (.ref fT)) (FW : Fun K "_whole_power" "_whole_power" sWholeP fW fdW) (gW : mg "_whole_power" = some (.ref fW))
    (eB : ErrAt K mg "ByNought" B) (mr : mg "range" = none) (mv : mg "reversed" = none) : FnOk P w K mg base (L2N.CX P w) 2 f fd ["one", "n"] (spRaised B) := by
  have GT : FnOk P w K mg base (L2N.CX P w) 1 fT fdT ["one"] (spTrn B) := ok_trn FT eB
  have GW : FnOk P w K mg base CX0 1 fW fdW ["number", "n"] spWP := ok_wholeP FW mr mv
  have bT := FT.binds (ps := ["one"]) fun _ _ _ _ _ _ us hl => match us, hl with | [_], _ => rfl
  have bW := FW.binds (ps := ["number", "n"]) fun _ _ _ _ _ _ us hl => match us, hl with | [_, _], _ => rfl
  refine F.okN scRaised (fun vs H Q E h => ?_) (fun cdv A outer s H vs Q E hr h => ?_)
  · obtain ⟨a, u, n, k, rfl, _⟩ := h
    rfl
  · obtain ⟨a, ⟨x, y⟩, n, k, rfl, ha, ⟨red, bx, by'⟩, hk, n1, n2, qE, qQ⟩ := h
    dsimp only at ha red bx by'
    have nd := scRaised.nd
    refine ⟨_, pss_cons (ps_asg (pv 0) (pg_tup rfl (pgs_cons (pg_name (i := 2) nd rfl (.inl rfl)) (pgs_cons (pg_name (i := 3) nd rfl (.inl rfl)) pgs_nil))))
      (Evl.pss_cut (ps_if (pt_cmpR op_lt (pv 1) pe_int (nomark _))
        (pss_cons (ps_asg (pe_callS GT hr (by rfl) gT FT.kp bT (fun σ => L2N.passAt (L2N.takes_of rfl rfl rfl rfl) σ) (pa_cons (pv 0) pa_nil)) (pg_tup rfl (pgs_cons (pg_name (i := 2) nd rfl (.inl rfl)) (pgs_cons (pg_name (i := 3) nd rfl (.inl rfl)) pgs_nil))))
        (pss_one (ps_set (i := 1) nd rfl (.inl rfl) (pe_un un_neg (pv 1))))) pss_nil)
      (pss_one (ps_ret (pe_tup (pa_cons (pe_call GW hr (by rfl) gW FW.kp bW .nil pass0 (pa_cons (pv 2) (pa_cons (pv 1) pa_nil))) (pa_cons (pe_call GW hr (by rfl) gW FW.kp bW .nil pass0 (pa_cons (pv 3) (pa_cons (pv 1) pa_nil))) pa_nil)))))), ?_⟩
    refine ⟨_, rfl, a, _, rfl, SqT.of ha, rfl, _, _, rfl, _, _, rfl, rfl, ?_⟩
    refine ⟨fun σ' H' => ∃ (u v : Int) (m : Nat), σ' = [some (.ref a), some (.int m), some (.int u), some (.int v)] ∧ Same H H' ∧ Red u v ∧ Sm k u ∧ Sm k v ∧ m ≤ 4 ∧ pwB x y n ≠ 0 ∧ u ^ m * pwB x y n = pwA x y n * v ^ m, ?_, ?_⟩
    · refine ⟨_, rfl, _, _, rfl, rfl, _, rfl, ite2 (fun e => ?_) (fun e => ?_)⟩
      · have e1 : n < 0 := of_decide_eq_true e
        have dB : pwB x y n = x ^ n.natAbs := if_pos e1
        have dA : pwA x y n = y ^ n.natAbs := if_pos e1
        refine ⟨_, rfl, a, x, y, rfl, ha, fun z => qE ?_, fun x0 p np => ?_⟩
        · show (if pwB x y n = 0 then none else _) = none
          rw [if_pos]
          rw [dB, z]
          exact Int.zero_pow (by omega)
        · obtain ⟨nr, nv⟩ := trn_ok red x0
          have nl := trn_le x y
          have ns : Sm k (trnA x y) ∧ Sm k (trnB x y) := ⟨by'.le (Nat.le_of_eq nl.1), bx.le (Nat.le_of_eq nl.2)⟩
          refine ⟨p, _, rfl, SqT.of upd_same, rfl, _, _, rfl, _, _, rfl, rfl, ?_⟩
          refine ⟨_, rfl, _, rfl, ?_⟩
          obtain ⟨m, hm⟩ : ∃ m : Nat, -n = (m : Int) := ⟨(-n).toNat, by omega⟩
          have hm2 : n.natAbs = m := by omega
          refine ⟨_, _, m, by rw [← hm]; rfl, same_new np, nr, ns.1, ns.2, by omega, ?_, ?_⟩
          · rw [dB]
            exact Int.pow_ne_zero x0
          · rw [dB, dA, hm2, ← Int.mul_pow, ← Int.mul_pow, nv]
      · have e1 : ¬ n < 0 := fun z => e (decide_eq_true z)
        have dB : pwB x y n = y ^ n.natAbs := if_neg e1
        have dA : pwA x y n = x ^ n.natAbs := if_neg e1
        obtain ⟨m, hm⟩ : ∃ m : Nat, n = (m : Int) := ⟨n.toNat, by omega⟩
        refine ⟨x, y, m, by rw [hm]; rfl, Same.refl _, red, bx, by', by omega, ?_, ?_⟩
        · rw [dB]
          exact Int.pow_ne_zero (Int.ne_of_gt red.1)
        · rw [dB, dA, show n.natAbs = m by omega]
    · rintro σ' H' ⟨u, v, m, rfl, sm, ru, b1, b2, hm, d0, e⟩
      refine ⟨_, rfl, _, rfl, u, m, k, rfl, b1, hk, hm, _, rfl, _, rfl, v, m, k, rfl, b2, hk, hm, (by show 2 ≤ sizeLine; decide), fun p np => ?_⟩
      have nn : norm (pwA x y n) (pwB x y n) = (u ^ m, v ^ m) := norm_is d0 (red_pow ru m) e
      refine qQ (u ^ m, v ^ m) ?_ _ p (sm.trans (same_new np)) upd_same
      show (if pwB x y n = 0 then none else some (norm (pwA x y n) (pwB x y n))) = _
      rw [if_neg d0, nn]
end
end MK


set_option Elab.async false
set_option linter.all false
set_option maxRecDepth 100000
set_option maxHeartbeats 4000000
namespace MK
open PySem PySem.Spec PyProof.Rows L2
section
variable {P : Program} {w : World} {K : PySem.W.Frag} {mg : Str → Option Value} {base : Heap} {B : Addr}
theorem scIsLess : FnScope ["one", "other"] ["one", "other"] (defScope sIsLess) := ⟨rfl, rfl, rfl, by decide +kernel, rfl, by decide +kernel, by decide +kernel⟩
def spIsLess : Sp := fun vs H Q _ => ∃ (a b : Addr) (u v : Int × Int) (i j : Nat), vs = [.ref a, .ref b] ∧ FracAt H a u.1 u.2 ∧ FracAt H b v.1 v.2 ∧ FrSm i u ∧ FrSm j v ∧ i + j ≤ 7000 ∧ Q (.bl (decide (u.1 * v.2 < v.1 * u.2))) H
theorem ok_isLess {f : Addr} {fd : FuncData} (F : Fun K "is_less" "is_less" sIsLess f fd) : FnOk P w K mg base CX0 1 f fd ["one", "other"] spIsLess := by
  refine F.ok scIsLess (fun vs H Q E h => ?_) (fun cdv A outer s H vs Q E hr h => ?_)
  · obtain ⟨a, b, u, v, i, j, rfl, _⟩ := h
    rfl
  · obtain ⟨a, b, u, v, i, j, rfl, ha, hb, hu, hv, hij, q⟩ := h
    refine ⟨_, pss_one (ps_ret (pe_cmpR op_lt (pe_op op_mulW (pe_ix ix_tup (pv 0) pe_int (fun _ _ => rfl)) (pe_ix ix_tup (pv 1) pe_int (fun _ _ => rfl))) (pe_op op_mulW (pe_ix ix_tup (pv 1) pe_int (fun _ _ => rfl)) (pe_ix ix_tup (pv 0) pe_int (fun _ _ => rfl))) (nomark _))), ?_⟩
    refine ⟨_, rfl, a, _, 0, _, rfl, rfl, SqT.of ha, at2_0 _ _, _, rfl, b, _, 1, _, rfl, rfl, SqT.of hb, at2_1 _ _, _, _, rfl, rfl, hu.2.1.mulW hv.2.2 (by omega), ?_⟩
    refine ⟨_, rfl, b, _, 0, _, rfl, rfl, SqT.of hb, at2_0 _ _, _, rfl, a, _, 1, _, rfl, rfl, SqT.of ha, at2_1 _ _, _, _, rfl, rfl, hv.2.1.mulW hu.2.2 (by omega), _, _, rfl, rfl, ?_⟩
    exact q
end
end MK


set_option Elab.async false
set_option linter.all false
set_option maxRecDepth 100000
set_option maxHeartbeats 4000000
namespace MK
open PySem PySem.Spec PyProof.Rows L2
/-- what fractions.py has -/
structure FcT (K : PySem.W.Frag) (mg : Str → Option Value) (B : Addr) where
  (fA fL fP fQ fR fI fG fT fW : Addr)
  (dA dL dP dQ dR dI dG dT dW : FuncData)
  FA : Fun K "added" "added" sAdd fA dA
  FL : Fun K "lessened" "lessened" sLess fL dL
  FP : Fun K "product" "product" sProd fP dP
  FQ : Fun K "quotient" "quotient" sQuo fQ dQ
  FR : Fun K "raised" "raised" sRaised fR dR
  FI : Fun K "is_less" "is_less" sIsLess fI dI
  FG : Fun K "_together" "_together" sTog fG dG
  FT : Fun K "_turned" "_turned" sTrn fT dT
  FW : Fun K "_whole_power" "_whole_power" sWholeP fW dW
  gA : mg "added" = some (.ref fA)
  gL : mg "lessened" = some (.ref fL)
  gP : mg "product" = some (.ref fP)
  gQ : mg "quotient" = some (.ref fQ)
  gR : mg "raised" = some (.ref fR)
  gI : mg "is_less" = some (.ref fI)
  gG : mg "_together" = some (.ref fG)
  gT : mg "_turned" = some (.ref fT)
  gW : mg "_whole_power" = some (.ref fW)
  mG : mg "gcd" = some (.builtin "math.gcd")
  mr : mg "range" = none
  mv : mg "reversed" = none
  eB : ErrAt K mg "ByNought" B
section
variable {P : Program} {w : World} {K : PySem.W.Frag} {mg : Str → Option Value} {base : Heap} {B : Addr}
theorem FcT.bA (T : FcT K mg B) : Binds K T.dA ["one", "other"] [] := T.FA.binds (ps := ["one", "other"]) fun _ _ _ _ _ _ us hl => match us, hl with | [_, _], _ => rfl
theorem FcT.bL (T : FcT K mg B) : Binds K T.dL ["one", "other"] [] := T.FL.binds (ps := ["one", "other"]) fun _ _ _ _ _ _ us hl => match us, hl with | [_, _], _ => rfl
theorem FcT.bP (T : FcT K mg B) : Binds K T.dP ["one", "other"] [] := T.FP.binds (ps := ["one", "other"]) fun _ _ _ _ _ _ us hl => match us, hl with | [_, _], _ => rfl
theorem FcT.bQ (T : FcT K mg B) : Binds K T.dQ ["one", "other"] [] := T.FQ.binds (ps := ["one", "other"]) fun _ _ _ _ _ _ us hl => match us, hl with | [_, _], _ => rfl
theorem FcT.bR (T : FcT K mg B) : Binds K T.dR ["one", "n"] [] := T.FR.binds (ps := ["one", "n"]) fun _ _ _ _ _ _ us hl => match us, hl with | [_, _], _ => rfl
theorem FcT.bI (T : FcT K mg B) : Binds K T.dI ["one", "other"] [] := T.FI.binds (ps := ["one", "other"]) fun _ _ _ _ _ _ us hl => match us, hl with | [_, _], _ => rfl
theorem FcT.bG (T : FcT K mg B) : Binds K T.dG ["one", "above", "below"] [] := T.FG.binds (ps := ["one", "above", "below"]) fun _ _ _ _ _ _ us hl => match us, hl with | [_, _, _], _ => rfl
theorem FcT.bT (T : FcT K mg B) : Binds K T.dT ["one"] [] := T.FT.binds (ps := ["one"]) fun _ _ _ _ _ _ us hl => match us, hl with | [_], _ => rfl
theorem FcT.bW (T : FcT K mg B) : Binds K T.dW ["number", "n"] [] := T.FW.binds (ps := ["number", "n"]) fun _ _ _ _ _ _ us hl => match us, hl with | [_, _], _ => rfl
theorem okA (T : FcT K mg B) : FnOk P w K mg base CX0 2 T.fA T.dA ["one", "other"] (spTwoF B .plus) := ok_add T.FA T.FG T.gG T.mG
theorem okL (T : FcT K mg B) : FnOk P w K mg base CX0 2 T.fL T.dL ["one", "other"] (spTwoF B .minus) := ok_less T.FL T.FG T.gG T.mG
theorem okP (T : FcT K mg B) : FnOk P w K mg base CX0 1 T.fP T.dP ["one", "other"] (spTwoF B .times) := ok_prod T.FP T.mG
theorem okQ (T : FcT K mg B) : FnOk P w K mg base (L2N.CX P w) 2 T.fQ T.dQ ["one", "other"] (spTwoF B .over) := ok_quo T.FQ T.FP T.gP T.FT T.gT T.mG T.eB
theorem okR (T : FcT K mg B) : FnOk P w K mg base (L2N.CX P w) 2 T.fR T.dR ["one", "n"] (spRaised B) := ok_raised T.FR T.FT T.gT T.FW T.gW T.eB T.mr T.mv
theorem okI (T : FcT K mg B) : FnOk P w K mg base CX0 1 T.fI T.dI ["one", "other"] spIsLess := ok_isLess T.FI
end
end MK


set_option Elab.async false
set_option linter.all false
set_option maxRecDepth 100000
set_option maxHeartbeats 4000000
namespace MK
open PySem PySem.Spec PyProof.Rows L2
section
variable {P : Program} {w : World} {K : PySem.W.Frag} {mg : Str → Option Value} {base : Heap}
/-! ### _law_raised -/
theorem scLRaised : FnScope ["_law_one", "_law_n", "_law_above", "_law_below", "_law_turn"] ["_law_one", "_law_n"] (defScope sLRaised) := ⟨rfl, rfl, rfl, by decide +kernel, rfl, by decide +kernel, by decide +kernel⟩
def spLRaised : Sp := fun vs H Q _ => ∃ (a : Addr) (u : Int × Int) (n : Int) (k : Nat), vs = [.ref a, .int n] ∧ FracAt H a u.1 u.2 ∧ FrSm k u ∧ k ≤ 1500 ∧ -4 ≤ n ∧ n ≤ 4 ∧ ∀ H' v, Same H H' → Told H' (valPow u n) v → Q v H'
theorem ok_lraised {f fO fS : Addr} {fd fdO fdS : FuncData} (F : Fun K "_law_raised" "_law_raised" sLRaised f fd) (FO : Fun K "_law_lowest" "_law_lowest" sLowest fO fdO) (bO : Binds K fdO ["_law_above", "_law_below"] []) (gO : mg "_law_lowest" = some (.ref fO))
    (FS : Fun K "_law_shared" "_law_shared" sShared fS fdS) (bS : Binds K fdS ["_law_one", "_law_other"] []) (gS : mg "_law_shared" = some (.ref fS)) (ma : mg "abs" = none) (mr : mg "range" = none) : FnOk P w K mg base CX0 3 f fd ["_law_one", "_law_n"] spLRaised := by
  have GO : FnOk P w K mg base CX0 2 fO fdO ["_law_above", "_law_below"] spLowest := ok_lowest FO FS bS gS ma
  refine F.ok scLRaised (fun vs H Q E h => ?_) (fun cdv A outer s H vs Q E hr h => ?_)
  · obtain ⟨a, u, n, k, rfl, _⟩ := h
    rfl
  · obtain ⟨a, u, n, k, rfl, ha, hu, hk, n1, n2, q⟩ := h
    have nd := scLRaised.nd
    refine ⟨_, pss_cons (ps_asg (pe_tup (pa_cons pe_int (pa_cons pe_int pa_nil))) (pg_tup rfl (pgs_cons (pg_name (i := 2) nd rfl (.inl rfl)) (pgs_cons (pg_name (i := 3) nd rfl (.inl rfl)) pgs_nil))))
      (pss_cons (ps_for PassesOwn.never rfl (pi_range1 (by rfl) mr (pa_cons (pe_callB call_abs (by rfl) ma PyProof.Rows.boot_abs (pa_cons (pv 1) pa_nil)) pa_nil)) (pg_name (i := 4) nd rfl (.inl rfl))
        (pss_one (ps_par (i := 2) (j := 3) rfl nd rfl rfl (by decide) rfl rfl (pa_cons (pe_op op_mulW (pv 2) (pe_ix ix_tup (pv 0) pe_int (fun _ _ => rfl))) (pa_cons (pe_op op_mulW (pv 3) (pe_ix ix_tup (pv 0) pe_int (fun _ _ => rfl))) pa_nil)) (by rfl))))
      (Evl.pss_cut (ps_if (pt_cmpR op_lt (pv 1) pe_int (nomark _)) (pss_one (ps_par (i := 2) (j := 3) rfl nd rfl rfl (by decide) rfl rfl (pa_cons (pv 3) (pa_cons (pv 2) pa_nil)) (by rfl))) pss_nil)
      (pss_cons (ps_if (pt_cmpR op_eq (pv 3) pe_int (nomark _)) (pss_one (ps_ret pe_non)) pss_nil)
      (pss_one (ps_ret (pe_call GO hr (by rfl) gO FO.kp bO .nil pass0 (pa_cons (pv 2) (pa_cons (pv 3) pa_nil)))))))), ?_⟩
    refine ⟨(by show 2 ≤ sizeLine; decide), fun p0 np0 => ?_⟩
    have s0 := same_new (o := .tup [V.int 1, V.int 1]) np0
    refine ⟨p0, _, rfl, SqT.of upd_same, rfl, _, _, rfl, _, _, rfl, rfl, ?_⟩
    refine ⟨_, rfl, _, rfl, (if n < 0 then -n else n), rfl, ?_⟩
    rw [abs_natI]
    refine ⟨by omega, by omega, ?_⟩
    generalize hH : upd H p0 (HO.tup [V.int 1, V.int 1]) = H1 at s0 ⊢
    have t0 : atI [V.int u.1, V.int u.2] 0 = some (.int u.1) := rfl
    have t1 : atI [V.int u.1, V.int u.2] 1 = some (.int u.2) := rfl
    have ha1 : FracAt H1 a u.1 u.2 := s0 _ _ ha
    refine for_range (n := ((n.natAbs : Nat) : Int).toNat) (fun i σ H' => i ≤ n.natAbs ∧ H' = H1 ∧ ∃ v4 : Option V, σ = [some (.ref a), some (.int n), some (.int (u.1 ^ i)), some (.int (u.2 ^ i)), v4]) ⟨Nat.zero_le _, rfl, none, by rw [Int.pow_zero, Int.pow_zero]; rfl⟩ ?_ ?_
    · rintro i σ H' hi ⟨hi2, rfl, v4, rfl⟩
      have hi3 : i < n.natAbs := by omega
      have lk : k * i + 1 + k ≤ 100000 := by
        have : k * i ≤ k * 4 := Nat.mul_le_mul_left _ (by omega)
        omega
      refine ⟨_, rfl, _, rfl, a, _, 0, _, rfl, rfl, SqT.of ha1, t0, _, _, rfl, rfl, (hu.2.1.pow i).mulW hu.2.1 lk, _, rfl, _, rfl, a, _, 1, _, rfl, rfl, SqT.of ha1, t1, _, _, rfl, rfl, (hu.2.2.pow i).mulW hu.2.2 lk, _, _, rfl, ?_⟩
      exact ⟨hi3, rfl, some (.int (0 + (i : Int))), by rw [Int.pow_succ, Int.pow_succ]; rfl⟩
    · rintro σ H' ⟨_, rfl, v4, rfl⟩
      rw [show ((n.natAbs : Nat) : Int).toNat = n.natAbs from Int.toNat_natCast _]
      refine ⟨fun σ' H2 => H2 = H' ∧ σ' = [some (.ref a), some (.int n), some (.int (pwA u.1 u.2 n)), some (.int (pwB u.1 u.2 n)), v4], ?_, ?_⟩
      · refine ⟨_, rfl, _, _, rfl, rfl, _, rfl, ite2 (fun e => ?_) (fun e => ?_)⟩
        · have e1 : n < 0 := of_decide_eq_true e
          refine ⟨_, rfl, _, rfl, _, _, rfl, rfl, ?_⟩
          unfold pwA pwB
          rw [if_pos e1, if_pos e1]
          rfl
        · have e1 : ¬ n < 0 := fun z => e (decide_eq_true z)
          refine ⟨rfl, ?_⟩
          unfold pwA pwB
          rw [if_neg e1, if_neg e1]
      · rintro σ' H2 ⟨rfl, rfl⟩
        have sm := pw_sm hu.2.1 hu.2.2 n1 n2
        refine ⟨_, rfl, rfl, _, rfl, ite2 (fun e => ?_) (fun e => ?_)⟩
        · have e1 : pwB u.1 u.2 n = 0 := by simpa using e
          refine q _ _ s0 ?_
          unfold valPow
          rw [if_pos e1]
          exact rfl
        · have e1 : pwB u.1 u.2 n ≠ 0 := fun z => e (by rw [z]; rfl)
          refine ⟨_, rfl, _, rfl, _, _, k * 4 + 1, rfl, e1, sm.2, by omega, fun p np => q _ _ (s0.trans (same_new np)) ?_⟩
          unfold valPow
          rw [if_neg e1]
          exact ⟨p, rfl, upd_same⟩
end
end MK


set_option Elab.async false
set_option linter.all false
set_option maxRecDepth 100000
set_option maxHeartbeats 4000000
namespace MK
open PySem PySem.Spec PyProof.Rows L2
theorem two_pick {a b : V} {i : Int} {c : Prop} [Decidable c] (h : i = if decide c = true then 1 else 0) : atI [a, b] i = some (if c then b else a) := by
  by_cases e : c
  · rw [decide_eq_true e] at h
    rw [if_pos e, h]
    rfl
  · rw [decide_eq_false e] at h
    rw [if_neg e, h]
    rfl
section
variable {P : Program} {w : World} {K : PySem.W.Frag} {mg : Str → Option Value} {base : Heap}
/-! ### _law_worth -/
theorem scLWorth : FnScope ["_law_tree_here", "_law_values", "_law_one", "_law_other", "_law_a", "_law_b", "_law_c", "_law_d"] ["_law_tree_here", "_law_values"] (defScope sLWorth) := ⟨rfl, rfl, rfl, by decide +kernel, rfl, by decide +kernel, by decide +kernel⟩
def spLWorth : Nat → Sp
  | 0 => spNo
  | n + 1 => fun vs H Q _ => ∃ (t vd : Addr) (r : Rk) (ads : List (Str × Addr)) (vl : List (Str × (Int × Int))), vs = [.ref t, .ref vd] ∧ TrAt H r t ∧ VlAt H vd ads vl ∧ (∀ s u, lk vl s = some u → FrSm 30 u) ∧ r.Ok ∧ r.deep ≤ n + 1 ∧ r.bits ≤ 1500 ∧ (∀ s ∈ r.ins, lk vl s ≠ none) ∧
    ∀ H' v, Same H H' → Told H' (val (lk vl) r) v → Q v H'
theorem ok_lworth {f fR fO fS : Addr} {fd fdR fdO fdS : FuncData} (F : Fun K "_law_worth" "_law_worth" sLWorth f fd) (bW : Binds K fd ["_law_tree_here", "_law_values"] []) (gW : mg "_law_worth" = some (.ref f))
    (FR : Fun K "_law_raised" "_law_raised" sLRaised fR fdR) (bR : Binds K fdR ["_law_one", "_law_n"] []) (gR : mg "_law_raised" = some (.ref fR))
    (FO : Fun K "_law_lowest" "_law_lowest" sLowest fO fdO) (bO : Binds K fdO ["_law_above", "_law_below"] []) (gO : mg "_law_lowest" = some (.ref fO))
    (FS : Fun K "_law_shared" "_law_shared" sShared fS fdS) (bS : Binds K fdS ["_law_one", "_law_other"] []) (gS : mg "_law_shared" = some (.ref fS)) (ma : mg "abs" = none) (mr : mg "range" = none) (mn : mg "int" = none) :
    ∀ n : Nat, FnOk P w K mg base CX0 (n + 4) f fd ["_law_tree_here", "_law_values"] (spLWorth n)
  | 0 => fn_no
  | n + 1 => by
    have GO : FnOk P w K mg base CX0 2 fO fdO ["_law_above", "_law_below"] spLowest := ok_lowest FO FS bS gS ma
    have GR : FnOk P w K mg base CX0 3 fR fdR ["_law_one", "_law_n"] spLRaised := ok_lraised FR FO bO gO FS bS gS ma mr
    have GW := ok_lworth F bW gW FR bR gR FO bO gO FS bS gS ma mr mn n
    refine F.ok scLWorth (fun vs H Q E h => ?_) (fun cdv A outer s H vs Q E hr h => ?_)
    · obtain ⟨t, vd, r, ads, vl, rfl, _⟩ := h
      rfl
    · obtain ⟨t, vd, r, ads, vl, rfl, ht, hv, hvl, hok, hdp, hbt, hin, q⟩ := h
      have nd := scLWorth.nd
      have hu := hu_of hr
      have hr2 : Room 2 _ := hr.mono (by omega)
      have hr3 : Room 3 _ := hr.mono (by omega)
      refine ⟨_, pss_cons (ps_if (pt_cmpR op_eq (pe_ix ix_tup (pv 0) pe_int (fun _ _ => rfl)) pe_str (nomark _)) (pss_one (ps_ret (pe_ix ix_tup (pv 0) pe_int (fun _ _ => rfl)))) pss_nil)
        (pss_cons (ps_if (pt_cmpR op_eq (pe_ix ix_tup (pv 0) pe_int (fun _ _ => rfl)) pe_str (nomark _)) (pss_one (ps_ret (pe_tup (pa_cons pe_int (pa_cons pe_int pa_nil))))) pss_nil)
        (pss_cons (ps_if (pt_cmpR op_eq (pe_ix ix_tup (pv 0) pe_int (fun _ _ => rfl)) pe_str (nomark _)) (pss_one (ps_ret (pe_dget hu (pv 1) (pe_ix ix_tup (pv 0) pe_int (fun _ _ => rfl)) (fun _ _ => rfl)))) pss_nil)
        (pss_cons (ps_set (i := 2) nd rfl (.inl rfl) (pe_call GW hr (by rfl) gW F.kp bW .nil pass0 (pa_cons (pe_ix ix_tup (pv 0) pe_int (fun _ _ => rfl)) (pa_cons (pv 1) pa_nil))))
        (pss_cons (ps_if (pt_cmpR op_isN (pv 2) pe_non (nomark _)) (pss_one (ps_ret pe_non)) pss_nil)
        (pss_cons (ps_if (pt_cmpR op_eq (pe_ix ix_tup (pv 0) pe_int (fun _ _ => rfl)) pe_str (nomark _)) (pss_one (ps_ret (pe_call GR hr3 (by rfl) gR FR.kp bR .nil pass0 (pa_cons (pv 2) (pa_cons (pe_ix ix_tup (pv 0) pe_int (fun _ _ => rfl)) pa_nil))))) pss_nil)
        (pss_cons (ps_set (i := 3) nd rfl (.inl rfl) (pe_call GW hr (by rfl) gW F.kp bW .nil pass0 (pa_cons (pe_ix ix_tup (pv 0) pe_int (fun _ _ => rfl)) (pa_cons (pv 1) pa_nil))))
        (pss_cons (ps_if (pt_cmpR op_isN (pv 3) pe_non (nomark _)) (pss_one (ps_ret pe_non)) pss_nil)
        (pss_cons (ps_asg (pv 2) (pg_tup rfl (pgs_cons (pg_name (i := 4) nd rfl (.inl rfl)) (pgs_cons (pg_name (i := 5) nd rfl (.inl rfl)) pgs_nil))))
        (pss_cons (ps_asg (pv 3) (pg_tup rfl (pgs_cons (pg_name (i := 6) nd rfl (.inl rfl)) (pgs_cons (pg_name (i := 7) nd rfl (.inl rfl)) pgs_nil))))
        (pss_cons (ps_if (pt_cmpR op_eq (pe_ix ix_tup (pv 0) pe_int (fun _ _ => rfl)) pe_str (nomark _)) (pss_one (ps_ret (pe_call GW hr (by rfl) gW F.kp bW .nil pass0
          (pa_cons (pe_ix ix_tup (pv 0) (pe_ix ix_list (pe_lst (pa_cons pe_int (pa_cons pe_int pa_nil))) (pe_callTy call_int1 (by rfl) mn PyProof.Rows.boot_int (pa_cons (pe_cmpR op_lt (pe_op op_mulW (pv 4) (pv 7)) (pe_op op_mulW (pv 6) (pv 5)) (nomark _)) pa_nil)) (fun _ _ => rfl)) (fun _ _ => rfl)) (pa_cons (pv 1) pa_nil))))) pss_nil)
        (pss_cons (ps_if (pt_cmpR op_eq (pe_ix ix_tup (pv 0) pe_int (fun _ _ => rfl)) pe_str (nomark _)) (pss_one (ps_ret (pe_call GO hr2 (by rfl) gO FO.kp bO .nil pass0 (pa_cons (pe_op op_mulW (pv 4) (pv 6)) (pa_cons (pe_op op_mulW (pv 5) (pv 7)) pa_nil))))) pss_nil)
        (pss_cons (ps_if (pt_cmpR op_eq (pe_ix ix_tup (pv 0) pe_int (fun _ _ => rfl)) pe_str (nomark _)) (pss_cons (ps_if (pt_cmpR op_eq (pv 6) pe_int (nomark _)) (pss_one (ps_ret pe_non)) pss_nil)
          (pss_one (ps_ret (pe_call GO hr2 (by rfl) gO FO.kp bO .nil pass0 (pa_cons (pe_op op_mulW (pv 4) (pv 7)) (pa_cons (pe_op op_mulW (pv 5) (pv 6)) pa_nil)))))) pss_nil)
        (pss_one (ps_ret (pe_call GO hr2 (by rfl) gO FO.kp bO .nil pass0 (pa_cons (pe_op op_add (pe_op op_mulW (pv 4) (pv 7)) (pe_op op_mulW (pe_ix ix_list (pe_lst (pa_cons (pv 6) (pa_cons (pe_op op_sub pe_int (pv 6)) pa_nil)))
          (pe_callTy call_int1 (by rfl) mn PyProof.Rows.boot_int (pa_cons (pe_cmpR op_eq (pe_ix ix_tup (pv 0) pe_int (fun _ _ => rfl)) pe_str (nomark _)) pa_nil)) (fun _ _ => rfl)) (pv 5))) (pa_cons (pe_op op_mulW (pv 5) (pv 7)) pa_nil))))))))))))))))), ?_⟩
      -- a leaf
      have rec_ : ∀ {r' : Rk} {t' : Addr} {H1 : Hp} {Q' : VK} {E' : XK}, Same H H1 → TrAt H1 r' t' → r'.Ok → r'.deep ≤ n → r'.bits ≤ 1500 → (∀ s ∈ r'.ins, lk vl s ≠ none) → (∀ H' v, Same H1 H' → Told H' (val (lk vl) r') v → Q' v H') → spLWorth n [.ref t', .ref vd] H1 Q' E' := by
        intro r' t' H1 Q' E' s1 h1 h2 h3 h4 h5 h6
        have := r'.deep_pos
        obtain ⟨m, rfl⟩ : ∃ m, n = m + 1 := ⟨n - 1, by omega⟩
        exact ⟨t', vd, r', ads, vl, rfl, h1, hv.same s1, hvl, h2, h3, h4, h5, h6⟩
      -- two parts: what stands behind
      have two : ∀ (x y : Rk), True := fun _ _ => trivial
      cases r with
      | is x y m =>
        obtain ⟨p, b, h1, h2, h3⟩ := ht
        refine ⟨_, rfl, t, _, 0, _, rfl, rfl, SqT.of h1, rfl, rfl, _, rfl, iteT ?_⟩
        refine ⟨_, rfl, t, _, 1, _, rfl, rfl, SqT.of h1, rfl, ?_⟩
        exact q _ _ (Same.refl _) ⟨p, rfl, h2⟩
      | nought =>
        have h1 : H t = some (.tup [.str "nought"]) := ht
        refine ⟨_, rfl, t, _, 0, _, rfl, rfl, SqT.of h1, rfl, rfl, _, rfl, iteF ?_⟩
        refine ⟨_, rfl, t, _, 0, _, rfl, rfl, SqT.of h1, rfl, rfl, _, rfl, iteT ?_⟩
        refine ⟨(by show 2 ≤ sizeLine; decide), fun p np => ?_⟩
        exact q _ _ (same_new np) ⟨p, rfl, upd_same⟩
      | input z =>
        have h1 : H t = some (.tup [.str "input", .str z]) := ht
        refine ⟨_, rfl, t, _, 0, _, rfl, rfl, SqT.of h1, rfl, rfl, _, rfl, iteF ?_⟩
        refine ⟨_, rfl, t, _, 0, _, rfl, rfl, SqT.of h1, rfl, rfl, _, rfl, iteF ?_⟩
        refine ⟨_, rfl, t, _, 0, _, rfl, rfl, SqT.of h1, rfl, rfl, _, rfl, iteT ?_⟩
        obtain ⟨b, u, e1, e2, e3⟩ := vl_get hv (hin z (List.mem_singleton.mpr rfl))
        refine ⟨_, rfl, _, rfl, t, _, 1, _, rfl, rfl, SqT.of h1, rfl, vd, _, rfl, e2, ?_⟩
        refine q _ _ (Same.refl _) ?_
        show Told H (lk vl z) _
        rw [e1]
        exact ⟨b, rfl, e3⟩
      | power a m =>
        obtain ⟨p, h1, h2⟩ := ht
        have hb : a.bits * 4 + 1 ≤ 1500 := hbt
        have hd : 1 + a.deep ≤ n + 1 := hdp
        obtain ⟨o1, o2, o3⟩ := hok
        refine ⟨_, rfl, t, _, 0, _, rfl, rfl, SqT.of h1, rfl, rfl, _, rfl, iteF ?_⟩
        refine ⟨_, rfl, t, _, 0, _, rfl, rfl, SqT.of h1, rfl, rfl, _, rfl, iteF ?_⟩
        refine ⟨_, rfl, t, _, 0, _, rfl, rfl, SqT.of h1, rfl, rfl, _, rfl, iteF ?_⟩
        refine ⟨_, rfl, t, _, 1, _, rfl, rfl, SqT.of h1, rfl, _, rfl, rec_ (Same.refl _) h2 o1 (by omega) (by omega) hin fun H1 v s1 tv => ?_⟩
        have e0 : val (lk vl) (.power a m) = (val (lk vl) a).bind fun u => valPow u m := rfl
        cases hva : val (lk vl) a with
        | none =>
          rw [hva] at tv e0
          obtain rfl : v = .non := tv
          refine ⟨_, rfl, rfl, _, rfl, iteT ?_⟩
          refine q _ _ s1 ?_
          rw [e0]
          exact rfl
        | some u =>
          rw [hva] at tv e0
          obtain ⟨p1, rfl, hp1⟩ := tv
          refine ⟨_, rfl, rfl, _, rfl, iteF ?_⟩
          refine ⟨_, rfl, t, _, 0, _, rfl, rfl, SqT.of (s1 _ _ h1), rfl, rfl, _, rfl, iteT ?_⟩
          refine ⟨_, rfl, _, rfl, t, _, 2, _, rfl, rfl, SqT.of (s1 _ _ h1), rfl, p1, u, m, a.bits, rfl, hp1, val_sm hvl o1 hva, by omega, o2, o3, fun H2 v s2 tv => ?_⟩
          refine q _ _ (s1.trans s2) ?_
          rw [e0]
          exact tv
      | less a b c d =>
        obtain ⟨p1, p2, p3, p4, h1, h2, h3, h4, h5⟩ := ht
        have hb : max (max a.bits b.bits) (max c.bits d.bits) ≤ 1500 := hbt
        have hd : 1 + max (max a.deep b.deep) (max c.deep d.deep) ≤ n + 1 := hdp
        obtain ⟨o1, o2, o3, o4⟩ := hok
        have hin' : ∀ s ∈ a.ins ++ b.ins ++ c.ins ++ d.ins, lk vl s ≠ none := hin
        have i1 : ∀ s ∈ a.ins, lk vl s ≠ none := fun s hs => hin' s (List.mem_append_left _ (List.mem_append_left _ (List.mem_append_left _ hs)))
        have i2 : ∀ s ∈ b.ins, lk vl s ≠ none := fun s hs => hin' s (List.mem_append_left _ (List.mem_append_left _ (List.mem_append_right _ hs)))
        have i3 : ∀ s ∈ c.ins, lk vl s ≠ none := fun s hs => hin' s (List.mem_append_left _ (List.mem_append_right _ hs))
        have i4 : ∀ s ∈ d.ins, lk vl s ≠ none := fun s hs => hin' s (List.mem_append_right _ hs)
        refine ⟨_, rfl, t, _, 0, _, rfl, rfl, SqT.of h1, rfl, rfl, _, rfl, iteF ?_⟩
        refine ⟨_, rfl, t, _, 0, _, rfl, rfl, SqT.of h1, rfl, rfl, _, rfl, iteF ?_⟩
        refine ⟨_, rfl, t, _, 0, _, rfl, rfl, SqT.of h1, rfl, rfl, _, rfl, iteF ?_⟩
        refine ⟨_, rfl, t, _, 1, _, rfl, rfl, SqT.of h1, rfl, _, rfl, rec_ (Same.refl _) h2 o1 (by omega) (by omega) i1 fun H1 v s1 tv => ?_⟩
        have e0 : val (lk vl) (.less a b c d) = (val (lk vl) a).bind fun u => (val (lk vl) b).bind fun v => if u.1 * v.2 < v.1 * u.2 then val (lk vl) c else val (lk vl) d := rfl
        cases hva : val (lk vl) a with
        | none =>
          rw [hva] at tv e0
          obtain rfl : v = .non := tv
          refine ⟨_, rfl, rfl, _, rfl, iteT ?_⟩
          refine q _ _ s1 ?_
          rw [e0]
          exact rfl
        | some u =>
          rw [hva] at tv e0
          obtain ⟨q1, rfl, hq1⟩ := tv
          refine ⟨_, rfl, rfl, _, rfl, iteF ?_⟩
          refine ⟨_, rfl, t, _, 0, _, rfl, rfl, SqT.of (s1 _ _ h1), rfl, rfl, _, rfl, iteF ?_⟩
          refine ⟨_, rfl, t, _, 2, _, rfl, rfl, SqT.of (s1 _ _ h1), rfl, _, rfl, rec_ s1 (h3.same s1) o2 (by omega) (by omega) i2 fun H2 v s2 tv => ?_⟩
          have s12 := s1.trans s2
          cases hvb : val (lk vl) b with
          | none =>
            rw [hvb] at tv e0
            obtain rfl : v = .non := tv
            refine ⟨_, rfl, rfl, _, rfl, iteT ?_⟩
            refine q _ _ s12 ?_
            rw [e0]
            exact rfl
          | some x =>
            rw [hvb] at tv e0
            obtain ⟨q2, rfl, hq2⟩ := tv
            have fu := val_sm hvl o1 hva
            have fx := val_sm hvl o2 hvb
            refine ⟨_, rfl, rfl, _, rfl, iteF ?_⟩
            refine ⟨_, rfl, q1, _, rfl, SqT.of (s2 _ _ hq1), rfl, _, _, rfl, _, _, rfl, rfl, ?_⟩
            refine ⟨_, rfl, q2, _, rfl, SqT.of hq2, rfl, _, _, rfl, _, _, rfl, rfl, ?_⟩
            refine ⟨_, rfl, t, _, 0, _, rfl, rfl, SqT.of (s12 _ _ h1), rfl, rfl, _, rfl, iteT ?_⟩
            refine ⟨_, rfl, (by show 2 ≤ sizeLine; decide), fun l nl => ?_⟩
            have s3 := same_new (o := .lst [V.int 4, V.int 3]) nl
            refine ⟨_, rfl, _, rfl, _, _, rfl, rfl, fu.2.1.mulW fx.2.2 (by omega), _, rfl, _, rfl, _, _, rfl, rfl, fx.2.1.mulW fu.2.2 (by omega), _, _, rfl, rfl, .inr ⟨_, rfl, l, _, _, _, rfl, rfl, SqL.of upd_same, two_pick rfl, ?_⟩⟩
            by_cases hlt : u.1 * x.2 < x.1 * u.2
            · rw [if_pos hlt]
              refine ⟨t, _, 3, _, rfl, rfl, SqT.of (s3 _ _ (s12 _ _ h1)), rfl, _, rfl, rec_ (s12.trans s3) (h4.same (s12.trans s3)) o3 (by omega) (by omega) i3 fun H3 v s4 tv => ?_⟩
              refine q _ _ ((s12.trans s3).trans s4) ?_
              rw [e0]
              show Told H3 (if u.1 * x.2 < x.1 * u.2 then val (lk vl) c else val (lk vl) d) v
              rw [if_pos hlt]
              exact tv
            · rw [if_neg hlt]
              refine ⟨t, _, 4, _, rfl, rfl, SqT.of (s3 _ _ (s12 _ _ h1)), rfl, _, rfl, rec_ (s12.trans s3) (h5.same (s12.trans s3)) o4 (by omega) (by omega) i4 fun H3 v s4 tv => ?_⟩
              refine q _ _ ((s12.trans s3).trans s4) ?_
              rw [e0]
              show Told H3 (if u.1 * x.2 < x.1 * u.2 then val (lk vl) c else val (lk vl) d) v
              rw [if_neg hlt]
              exact tv
      | bin o a b =>
        obtain ⟨p1, p2, h1, h2, h3⟩ := ht
        have hb : a.bits + b.bits + 1 ≤ 1500 := hbt
        have hd : 1 + max a.deep b.deep ≤ n + 1 := hdp
        obtain ⟨o1, o2⟩ := hok
        have hin' : ∀ s ∈ a.ins ++ b.ins, lk vl s ≠ none := hin
        have i1 : ∀ s ∈ a.ins, lk vl s ≠ none := fun s hs => hin' s (List.mem_append_left _ hs)
        have i2 : ∀ s ∈ b.ins, lk vl s ≠ none := fun s hs => hin' s (List.mem_append_right _ hs)
        have e0 : val (lk vl) (.bin o a b) = (val (lk vl) a).bind fun u => (val (lk vl) b).bind fun v => valOp o u v := rfl
        refine ⟨_, rfl, t, _, 0, _, rfl, rfl, SqT.of h1, rfl, (by cases o <;> rfl), _, rfl, ?_⟩
        rw [show decide (V.str o.name = V.str "is") = false by cases o <;> decide +kernel]
        refine iteF ?_
        refine ⟨_, rfl, t, _, 0, _, rfl, rfl, SqT.of h1, rfl, (by cases o <;> rfl), _, rfl, ?_⟩
        rw [show decide (V.str o.name = V.str "nought") = false by cases o <;> decide +kernel]
        refine iteF ?_
        refine ⟨_, rfl, t, _, 0, _, rfl, rfl, SqT.of h1, rfl, (by cases o <;> rfl), _, rfl, ?_⟩
        rw [show decide (V.str o.name = V.str "input") = false by cases o <;> decide +kernel]
        refine iteF ?_
        refine ⟨_, rfl, t, _, 1, _, rfl, rfl, SqT.of h1, rfl, _, rfl, rec_ (Same.refl _) h2 o1 (by omega) (by omega) i1 fun H1 v s1 tv => ?_⟩
        cases hva : val (lk vl) a with
        | none =>
          rw [hva] at tv e0
          obtain rfl : v = .non := tv
          refine ⟨_, rfl, rfl, _, rfl, iteT ?_⟩
          refine q _ _ s1 ?_
          rw [e0]
          exact rfl
        | some u =>
          rw [hva] at tv e0
          obtain ⟨q1, rfl, hq1⟩ := tv
          refine ⟨_, rfl, rfl, _, rfl, iteF ?_⟩
          refine ⟨_, rfl, t, _, 0, _, rfl, rfl, SqT.of (s1 _ _ h1), rfl, (by cases o <;> rfl), _, rfl, ?_⟩
          rw [show decide (V.str o.name = V.str "power") = false by cases o <;> decide +kernel]
          refine iteF ?_
          refine ⟨_, rfl, t, _, 2, _, rfl, rfl, SqT.of (s1 _ _ h1), rfl, _, rfl, rec_ s1 (h3.same s1) o2 (by omega) (by omega) i2 fun H2 v s2 tv => ?_⟩
          have s12 := s1.trans s2
          cases hvb : val (lk vl) b with
          | none =>
            rw [hvb] at tv e0
            obtain rfl : v = .non := tv
            refine ⟨_, rfl, rfl, _, rfl, iteT ?_⟩
            refine q _ _ s12 ?_
            rw [e0]
            exact rfl
          | some x =>
            rw [hvb] at tv e0
            obtain ⟨q2, rfl, hq2⟩ := tv
            have fu := val_sm hvl o1 hva
            have fx := val_sm hvl o2 hvb
            have n0 : u.2 * x.2 ≠ 0 := Int.ne_of_gt (Int.mul_pos fu.1.1 fx.1.1)
            have fin : ∀ (H' : Hp) (y z : Int), Same H2 H' → valOp o u x = some (norm y z) → ∀ p, H' p = none → Q (.ref p) (upd H' p (.tup [.int (norm y z).1, .int (norm y z).2])) := fun H' y z s' e p np => by
              refine q _ _ ((s12.trans s').trans (same_new np)) ?_
              rw [e0]
              show Told _ (valOp o u x) _
              rw [e]
              exact ⟨p, rfl, upd_same⟩
            refine ⟨_, rfl, rfl, _, rfl, iteF ?_⟩
            refine ⟨_, rfl, q1, _, rfl, SqT.of (s2 _ _ hq1), rfl, _, _, rfl, _, _, rfl, rfl, ?_⟩
            refine ⟨_, rfl, q2, _, rfl, SqT.of hq2, rfl, _, _, rfl, _, _, rfl, rfl, ?_⟩
            have h12 := s12 _ _ h1
            have l1 := fu.2.1.mulW fx.2.2 (by omega)
            have l2 := fx.2.1.mulW fu.2.2 (by omega)
            have l3 := fu.2.2.mulW fx.2.2 (by omega)
            have m3 := fu.2.2.mul fx.2.2
            refine ⟨_, rfl, t, _, 0, _, rfl, rfl, SqT.of h12, rfl, (by cases o <;> rfl), _, rfl, ?_⟩
            rw [show decide (V.str o.name = V.str "less") = false by cases o <;> decide +kernel]
            refine iteF ?_
            cases o with
            | times =>
              refine ⟨_, rfl, t, _, 0, _, rfl, rfl, SqT.of h12, rfl, rfl, _, rfl, iteT ?_⟩
              exact ⟨_, rfl, _, rfl, _, _, rfl, rfl, fu.2.1.mulW fx.2.1 (by omega), _, rfl, _, rfl, _, _, rfl, rfl, l3, _, _, a.bits + b.bits, rfl, n0, m3, by omega, fin H2 _ _ (Same.refl _) rfl⟩
            | over =>
              refine ⟨_, rfl, t, _, 0, _, rfl, rfl, SqT.of h12, rfl, rfl, _, rfl, iteF ?_⟩
              refine ⟨_, rfl, t, _, 0, _, rfl, rfl, SqT.of h12, rfl, rfl, _, rfl, iteT ?_⟩
              refine ⟨_, rfl, rfl, _, rfl, ite2 (fun e => ?_) (fun e => ?_)⟩
              · have z0 : x.1 = 0 := by simpa using e
                refine q _ _ s12 ?_
                rw [e0]
                show Told H2 (if x.1 = 0 then none else _) _
                rw [if_pos z0]
                exact rfl
              · have z0 : x.1 ≠ 0 := fun z => e (by rw [z]; rfl)
                refine ⟨_, rfl, _, rfl, _, _, rfl, rfl, l1, _, rfl, _, rfl, _, _, rfl, rfl, fu.2.2.mulW fx.2.1 (by omega), _, _, a.bits + b.bits, rfl, Int.mul_ne_zero (Int.ne_of_gt fu.1.1) z0, fu.2.2.mul fx.2.1, by omega, fin H2 _ _ (Same.refl _) ?_⟩
                show (if x.1 = 0 then none else _) = _
                rw [if_neg z0]
            | plus =>
              refine ⟨_, rfl, t, _, 0, _, rfl, rfl, SqT.of h12, rfl, rfl, _, rfl, iteF ?_⟩
              refine ⟨_, rfl, t, _, 0, _, rfl, rfl, SqT.of h12, rfl, rfl, _, rfl, iteF ?_⟩
              refine ⟨_, rfl, _, rfl, _, _, rfl, rfl, l1, _, rfl, _, rfl, _, _, rfl, rfl, (by show 2 ≤ sizeLine; decide), fun l nl => ?_⟩
              have s3 := same_new (o := .lst [V.int x.1, V.int (0 - x.1)]) nl
              refine ⟨_, rfl, t, _, 0, _, rfl, rfl, SqT.of (s3 _ _ h12), rfl, rfl, .inr ⟨_, rfl, l, _, 0, _, rfl, rfl, SqL.of upd_same, rfl, ?_⟩⟩
              exact ⟨_, rfl, _, _, rfl, rfl, l2, _, _, rfl, rfl, _, rfl, _, rfl, _, _, rfl, rfl, l3, _, _, a.bits + b.bits, rfl, n0, m3, by omega, fin _ _ _ s3 rfl⟩
            | minus =>
              refine ⟨_, rfl, t, _, 0, _, rfl, rfl, SqT.of h12, rfl, rfl, _, rfl, iteF ?_⟩
              refine ⟨_, rfl, t, _, 0, _, rfl, rfl, SqT.of h12, rfl, rfl, _, rfl, iteF ?_⟩
              refine ⟨_, rfl, _, rfl, _, _, rfl, rfl, l1, _, rfl, _, rfl, _, _, rfl, rfl, (by show 2 ≤ sizeLine; decide), fun l nl => ?_⟩
              have s3 := same_new (o := .lst [V.int x.1, V.int (0 - x.1)]) nl
              refine ⟨_, rfl, t, _, 0, _, rfl, rfl, SqT.of (s3 _ _ h12), rfl, rfl, .inr ⟨_, rfl, l, _, 1, _, rfl, rfl, SqL.of upd_same, rfl, ?_⟩⟩
              refine ⟨_, rfl, _, _, rfl, rfl, ?_, _, _, rfl, rfl, _, rfl, _, rfl, _, _, rfl, rfl, l3, _, _, a.bits + b.bits, rfl, n0, m3, by omega, fin _ _ _ s3 ?_⟩
              · rw [Int.zero_sub]
                exact fx.2.1.neg.mulW fu.2.2 (by omega)
              · show some (norm (u.1 * x.2 - x.1 * u.2) (u.2 * x.2)) = some (norm (u.1 * x.2 + (0 - x.1) * u.2) (u.2 * x.2))
                rw [Int.zero_sub, Int.neg_mul, ← Int.sub_eq_add_neg]
end
end MK


set_option Elab.async false
set_option linter.all false
set_option maxRecDepth 100000
set_option maxHeartbeats 4000000
namespace MK
open PySem PySem.Spec PyProof.Rows L2
section
variable {P : Program} {w : World} {K : PySem.W.Frag} {mg : Str → Option Value} {base : Heap} {M N U Y B : Addr} {pt : Addr}
/-! ### _of_two -/
theorem scOfTwo : FnScope ["kind", "one", "other"] ["kind", "one", "other"] (defScope sOfTwo) := ⟨rfl, rfl, rfl, by decide +kernel, rfl, by decide +kernel, by decide +kernel⟩
def spOfTwo (B : Addr) : Sp := fun vs H Q E => ∃ (a b : Addr) (o : Op4) (u v : Int × Int) (i j : Nat), vs = [.str o.name, .ref a, .ref b] ∧ FracAt H a u.1 u.2 ∧ FracAt H b v.1 v.2 ∧ FrSm i u ∧ FrSm j v ∧ i + j ≤ 7000 ∧ (valOp o u v = none → E (.ref B) none H) ∧
  ∀ x, valOp o u v = some x → ∀ (H' : Hp) (p : Addr), Same H H' → FracAt H' p x.1 x.2 → Q (.ref p) H'
theorem ok_ofTwo {f : Addr} {fd : FuncData} (F : Fun K "_of_two" "_of_two" sOfTwo f fd) (T : FcT K mg B) : FnOk P w K mg base (L2N.CX P w) 3 f fd ["kind", "one", "other"] (spOfTwo B) := by
  have GA : FnOk P w K mg base CX0 2 T.fA T.dA ["one", "other"] (spTwoF B .plus) := okA T
  have GL : FnOk P w K mg base CX0 2 T.fL T.dL ["one", "other"] (spTwoF B .minus) := okL T
  have GP : FnOk P w K mg base CX0 1 T.fP T.dP ["one", "other"] (spTwoF B .times) := okP T
  have GQ : FnOk P w K mg base (L2N.CX P w) 2 T.fQ T.dQ ["one", "other"] (spTwoF B .over) := okQ T
  refine F.okN scOfTwo (fun vs H Q E h => ?_) (fun cdv A outer s H vs Q E hr h => ?_)
  · obtain ⟨a, b, o, u, v, i, j, rfl, _⟩ := h
    rfl
  · obtain ⟨a, b, o, u, v, i, j, rfl, ha, hb, hu, hv, hij, qE, q⟩ := h
    refine ⟨_, pss_cons (ps_if (pt_cmpR op_eq (pv 0) pe_str (nomark _)) (pss_one (ps_ret (pe_call GA hr (by rfl) T.gA T.FA.kp T.bA .nil pass0 (pa_cons (pv 1) (pa_cons (pv 2) pa_nil))))) pss_nil)
      (pss_cons (ps_if (pt_cmpR op_eq (pv 0) pe_str (nomark _)) (pss_one (ps_ret (pe_call GL hr (by rfl) T.gL T.FL.kp T.bL .nil pass0 (pa_cons (pv 1) (pa_cons (pv 2) pa_nil))))) pss_nil)
      (pss_cons (ps_if (pt_cmpR op_eq (pv 0) pe_str (nomark _)) (pss_one (ps_ret (pe_call GP (hr.mono (by omega)) (by rfl) T.gP T.FP.kp T.bP .nil pass0 (pa_cons (pv 1) (pa_cons (pv 2) pa_nil))))) pss_nil)
      (pss_one (ps_ret (pe_callS GQ hr (by rfl) T.gQ T.FQ.kp T.bQ (fun σ => L2N.passAt (L2N.takes_of rfl rfl rfl rfl) σ) (pa_cons (pv 1) (pa_cons (pv 2) pa_nil))))))), ?_⟩
    cases o with
    | plus =>
      refine ⟨_, rfl, rfl, _, rfl, iteT ?_⟩
      exact ⟨_, rfl, _, rfl, a, b, u, v, i, j, rfl, ha, hb, hu, hv, hij, (fun z => nomatch z), q⟩
    | minus =>
      refine ⟨_, rfl, rfl, _, rfl, iteF ?_⟩
      refine ⟨_, rfl, rfl, _, rfl, iteT ?_⟩
      exact ⟨_, rfl, _, rfl, a, b, u, v, i, j, rfl, ha, hb, hu, hv, hij, (fun z => nomatch z), q⟩
    | times =>
      refine ⟨_, rfl, rfl, _, rfl, iteF ?_⟩
      refine ⟨_, rfl, rfl, _, rfl, iteF ?_⟩
      refine ⟨_, rfl, rfl, _, rfl, iteT ?_⟩
      exact ⟨_, rfl, _, rfl, a, b, u, v, i, j, rfl, ha, hb, hu, hv, hij, (fun z => nomatch z), q⟩
    | over =>
      refine ⟨_, rfl, rfl, _, rfl, iteF ?_⟩
      refine ⟨_, rfl, rfl, _, rfl, iteF ?_⟩
      refine ⟨_, rfl, rfl, _, rfl, iteF ?_⟩
      exact ⟨_, rfl, _, rfl, a, b, u, v, i, j, rfl, ha, hb, hu, hv, hij, qE, q⟩
/-! ### _worked_out -/
theorem scWorked : FnScope ["reckoning", "values", "kind", "one", "other"] ["reckoning", "values"] (defScope sWorked) := ⟨rfl, rfl, rfl, by decide +kernel, rfl, by decide +kernel, by decide +kernel⟩
def spWorked (B : Addr) : Nat → Sp
  | 0 => spNo
  | n + 1 => fun vs H Q E => ∃ (t vd : Addr) (r : Rk) (ads : List (Str × Addr)) (vl : List (Str × (Int × Int))), vs = [.ref t, .ref vd] ∧ TrAt H r t ∧ VlAt H vd ads vl ∧ (∀ s u, lk vl s = some u → FrSm 30 u) ∧ r.Ok ∧ r.deep ≤ n + 1 ∧ r.bits ≤ 1500 ∧ (∀ s ∈ r.ins, lk vl s ≠ none) ∧
    (val (lk vl) r = none → ∀ H', Same H H' → E (.ref B) none H') ∧ ∀ u, val (lk vl) r = some u → ∀ H' p, Same H H' → FracAt H' p u.1 u.2 → Q (.ref p) H'
theorem ok_worked {f fT : Addr} {fd fdT : FuncData} (F : Fun K "_worked_out" "_worked_out" sWorked f fd) (bW : Binds K fd ["reckoning", "values"] []) (gW : mg "_worked_out" = some (.ref f))
    (FT : Fun K "_of_two" "_of_two" sOfTwo fT fdT) (bT : Binds K fdT ["kind", "one", "other"] []) (gT : mg "_of_two" = some (.ref fT)) (T : FcT K mg B) :
    ∀ n : Nat, FnOk P w K mg base (L2N.CX P w) (n + 4) f fd ["reckoning", "values"] (spWorked B n)
  | 0 => fn_no
  | n + 1 => by
    have GR : FnOk P w K mg base (L2N.CX P w) 2 T.fR T.dR ["one", "n"] (spRaised B) := okR T
    have GI : FnOk P w K mg base CX0 1 T.fI T.dI ["one", "other"] spIsLess := okI T
    have GT : FnOk P w K mg base (L2N.CX P w) 3 fT fdT ["kind", "one", "other"] (spOfTwo B) := ok_ofTwo FT T
    have GW := ok_worked F bW gW FT bT gT T n
    refine F.okN scWorked (fun vs H Q E h => ?_) (fun cdv A outer s H vs Q E hr h => ?_)
    · obtain ⟨t, vd, r, ads, vl, rfl, _⟩ := h
      rfl
    · obtain ⟨t, vd, r, ads, vl, rfl, ht, hv, hvl, hok, hdp, hbt, hin, qE, q⟩ := h
      have nd := scWorked.nd
      have hu := hu_of hr
      have hr1 : Room 1 _ := hr.mono (by omega)
      have hr2 : Room 2 _ := hr.mono (by omega)
      have hr3 : Room 3 _ := hr.mono (by omega)
      refine ⟨_, pss_cons (ps_set (i := 2) nd rfl (.inl rfl) (pe_ix ix_tup (pv 0) pe_int (fun _ _ => rfl)))
        (pss_cons (ps_if (pt_cmpR op_eq (pv 2) pe_str (nomark _)) (pss_one (ps_ret (pe_ix ix_tup (pv 0) pe_int (fun _ _ => rfl)))) pss_nil)
        (pss_cons (ps_if (pt_cmpR op_eq (pv 2) pe_str (nomark _)) (pss_one (ps_ret (pe_tup (pa_cons pe_int (pa_cons pe_int pa_nil))))) pss_nil)
        (pss_cons (ps_if (pt_cmpR op_eq (pv 2) pe_str (nomark _)) (pss_one (ps_ret (pe_dget hu (pv 1) (pe_ix ix_tup (pv 0) pe_int (fun _ _ => rfl)) (fun _ _ => rfl)))) pss_nil)
        (pss_cons (ps_set (i := 3) nd rfl (.inl rfl) (pe_callS GW hr (by rfl) gW F.kp bW (fun σ => L2N.passAt (L2N.takes_of rfl rfl rfl rfl) σ) (pa_cons (pe_ix ix_tup (pv 0) pe_int (fun _ _ => rfl)) (pa_cons (pv 1) pa_nil))))
        (pss_cons (ps_if (pt_cmpR op_eq (pv 2) pe_str (nomark _)) (pss_one (ps_ret (pe_callS GR hr2 (by rfl) T.gR T.FR.kp T.bR (fun σ => L2N.passAt (L2N.takes_of rfl rfl rfl rfl) σ) (pa_cons (pv 3) (pa_cons (pe_ix ix_tup (pv 0) pe_int (fun _ _ => rfl)) pa_nil))))) pss_nil)
        (pss_cons (ps_set (i := 4) nd rfl (.inl rfl) (pe_callS GW hr (by rfl) gW F.kp bW (fun σ => L2N.passAt (L2N.takes_of rfl rfl rfl rfl) σ) (pa_cons (pe_ix ix_tup (pv 0) pe_int (fun _ _ => rfl)) (pa_cons (pv 1) pa_nil))))
        (pss_cons (ps_if (pt_cmpR op_eq (pv 2) pe_str (nomark _)) (pss_one (ps_ret (pe_callS GW hr (by rfl) gW F.kp bW (fun σ => L2N.passAt (L2N.takes_of rfl rfl rfl rfl) σ)
          (pa_cons (pe_ifExp (pt_val (pe_call GI hr1 (by rfl) T.gI T.FI.kp T.bI .nil pass0 (pa_cons (pv 3) (pa_cons (pv 4) pa_nil)))) (pe_ix ix_tup (pv 0) pe_int (fun _ _ => rfl)) (pe_ix ix_tup (pv 0) pe_int (fun _ _ => rfl))) (pa_cons (pv 1) pa_nil))))) pss_nil)
        (pss_one (ps_ret (pe_callS GT hr3 (by rfl) gT FT.kp bT (fun σ => L2N.passAt (L2N.takes_of rfl rfl rfl rfl) σ) (pa_cons (pv 2) (pa_cons (pv 3) (pa_cons (pv 4) pa_nil))))))))))))), ?_⟩
      have rec_ : ∀ {r' : Rk} {t' : Addr} {H1 : Hp} {Q' : VK} {E' : XK}, Same H H1 → TrAt H1 r' t' → r'.Ok → r'.deep ≤ n → r'.bits ≤ 1500 → (∀ s ∈ r'.ins, lk vl s ≠ none) → (val (lk vl) r' = none → ∀ H', Same H1 H' → E' (.ref B) none H') → (∀ u, val (lk vl) r' = some u → ∀ H' p, Same H1 H' → FracAt H' p u.1 u.2 → Q' (.ref p) H') → spWorked B n [.ref t', .ref vd] H1 Q' E' := by
        intro r' t' H1 Q' E' s1 h1 h2 h3 h4 h5 h6 h7
        have := r'.deep_pos
        obtain ⟨m, rfl⟩ : ∃ m, n = m + 1 := ⟨n - 1, by omega⟩
        exact ⟨t', vd, r', ads, vl, rfl, h1, hv.same s1, hvl, h2, h3, h4, h5, h6, h7⟩
      cases r with
      | is x y m =>
        obtain ⟨p, b, h1, h2, h3⟩ := ht
        refine ⟨_, rfl, t, _, 0, _, rfl, rfl, SqT.of h1, rfl, ?_⟩
        refine ⟨_, rfl, rfl, _, rfl, iteT ?_⟩
        refine ⟨_, rfl, t, _, 1, _, rfl, rfl, SqT.of h1, rfl, ?_⟩
        exact q (x, y) rfl _ p (Same.refl _) h2
      | nought =>
        have h1 : H t = some (.tup [.str "nought"]) := ht
        refine ⟨_, rfl, t, _, 0, _, rfl, rfl, SqT.of h1, rfl, ?_⟩
        refine ⟨_, rfl, rfl, _, rfl, iteF ?_⟩
        refine ⟨_, rfl, rfl, _, rfl, iteT ?_⟩
        refine ⟨(by show 2 ≤ sizeLine; decide), fun p np => ?_⟩
        exact q (0, 1) rfl _ p (same_new np) upd_same
      | input z =>
        have h1 : H t = some (.tup [.str "input", .str z]) := ht
        refine ⟨_, rfl, t, _, 0, _, rfl, rfl, SqT.of h1, rfl, ?_⟩
        refine ⟨_, rfl, rfl, _, rfl, iteF ?_⟩
        refine ⟨_, rfl, rfl, _, rfl, iteF ?_⟩
        refine ⟨_, rfl, rfl, _, rfl, iteT ?_⟩
        obtain ⟨b, u, e1, e2, e3⟩ := vl_get hv (hin z (List.mem_singleton.mpr rfl))
        refine ⟨_, rfl, _, rfl, t, _, 1, _, rfl, rfl, SqT.of h1, rfl, vd, _, rfl, e2, ?_⟩
        exact q u e1 _ b (Same.refl _) e3
      | power a m =>
        obtain ⟨p, h1, h2⟩ := ht
        have hb : a.bits * 4 + 1 ≤ 1500 := hbt
        have hd : 1 + a.deep ≤ n + 1 := hdp
        obtain ⟨o1, o2, o3⟩ := hok
        have e0 : val (lk vl) (.power a m) = (val (lk vl) a).bind fun u => valPow u m := rfl
        refine ⟨_, rfl, t, _, 0, _, rfl, rfl, SqT.of h1, rfl, ?_⟩
        refine ⟨_, rfl, rfl, _, rfl, iteF ?_⟩
        refine ⟨_, rfl, rfl, _, rfl, iteF ?_⟩
        refine ⟨_, rfl, rfl, _, rfl, iteF ?_⟩
        refine ⟨_, rfl, t, _, 1, _, rfl, rfl, SqT.of h1, rfl, _, rfl, rec_ (Same.refl _) h2 o1 (by omega) (by omega) hin (fun ev H1 s1 => ?_) fun u ev H1 p1 s1 hp1 => ?_⟩
        · exact qE (by rw [e0, ev]; rfl) _ s1
        · rw [ev] at e0
          have e0 : val (lk vl) (.power a m) = valPow u m := e0
          refine ⟨_, rfl, rfl, _, rfl, iteT ?_⟩
          refine ⟨_, rfl, _, rfl, t, _, 2, _, rfl, rfl, SqT.of (s1 _ _ h1), rfl, p1, u, m, a.bits, rfl, hp1, val_sm hvl o1 ev, by omega, o2, o3, fun z => ?_, fun x ex H2 p2 s2 hp2 => ?_⟩
          · exact qE (by rw [e0, z]) _ s1
          · exact q x (by rw [e0, ex]) _ p2 (s1.trans s2) hp2
      | less a b c d =>
        obtain ⟨p1, p2, p3, p4, h1, h2, h3, h4, h5⟩ := ht
        have hb : max (max a.bits b.bits) (max c.bits d.bits) ≤ 1500 := hbt
        have hd : 1 + max (max a.deep b.deep) (max c.deep d.deep) ≤ n + 1 := hdp
        obtain ⟨o1, o2, o3, o4⟩ := hok
        have hin' : ∀ s ∈ a.ins ++ b.ins ++ c.ins ++ d.ins, lk vl s ≠ none := hin
        have i1 : ∀ s ∈ a.ins, lk vl s ≠ none := fun s hs => hin' s (List.mem_append_left _ (List.mem_append_left _ (List.mem_append_left _ hs)))
        have i2 : ∀ s ∈ b.ins, lk vl s ≠ none := fun s hs => hin' s (List.mem_append_left _ (List.mem_append_left _ (List.mem_append_right _ hs)))
        have i3 : ∀ s ∈ c.ins, lk vl s ≠ none := fun s hs => hin' s (List.mem_append_left _ (List.mem_append_right _ hs))
        have i4 : ∀ s ∈ d.ins, lk vl s ≠ none := fun s hs => hin' s (List.mem_append_right _ hs)
        have e0 : val (lk vl) (.less a b c d) = (val (lk vl) a).bind fun u => (val (lk vl) b).bind fun v => if u.1 * v.2 < v.1 * u.2 then val (lk vl) c else val (lk vl) d := rfl
        refine ⟨_, rfl, t, _, 0, _, rfl, rfl, SqT.of h1, rfl, ?_⟩
        refine ⟨_, rfl, rfl, _, rfl, iteF ?_⟩
        refine ⟨_, rfl, rfl, _, rfl, iteF ?_⟩
        refine ⟨_, rfl, rfl, _, rfl, iteF ?_⟩
        refine ⟨_, rfl, t, _, 1, _, rfl, rfl, SqT.of h1, rfl, _, rfl, rec_ (Same.refl _) h2 o1 (by omega) (by omega) i1 (fun ev H1 s1 => ?_) fun u ev H1 q1 s1 hq1 => ?_⟩
        · exact qE (by rw [e0, ev]; rfl) _ s1
        · rw [ev] at e0
          have e0 : val (lk vl) (.less a b c d) = (val (lk vl) b).bind fun v => if u.1 * v.2 < v.1 * u.2 then val (lk vl) c else val (lk vl) d := e0
          refine ⟨_, rfl, rfl, _, rfl, iteF ?_⟩
          refine ⟨_, rfl, t, _, 2, _, rfl, rfl, SqT.of (s1 _ _ h1), rfl, _, rfl, rec_ s1 (h3.same s1) o2 (by omega) (by omega) i2 (fun ev2 H2 s2 => ?_) fun x ev2 H2 q2 s2 hq2 => ?_⟩
          · exact qE (by rw [e0, ev2]; rfl) _ (s1.trans s2)
          · rw [ev2] at e0
            have e0 : val (lk vl) (.less a b c d) = if u.1 * x.2 < x.1 * u.2 then val (lk vl) c else val (lk vl) d := e0
            have s12 := s1.trans s2
            have fu := val_sm hvl o1 ev
            have fx := val_sm hvl o2 ev2
            refine ⟨_, rfl, rfl, _, rfl, iteT ?_⟩
            refine ⟨_, rfl, _, rfl, q1, q2, u, x, a.bits, b.bits, rfl, s2 _ _ hq1, hq2, fu, fx, by omega, _, rfl, ?_⟩
            by_cases hlt : u.1 * x.2 < x.1 * u.2
            · rw [if_pos hlt] at e0
              rw [decide_eq_true hlt]
              refine iteT ?_
              refine ⟨_, rfl, t, _, 3, _, rfl, rfl, SqT.of (s12 _ _ h1), rfl, _, rfl, rec_ s12 (h4.same s12) o3 (by omega) (by omega) i3 (fun ev3 H3 s3 => ?_) fun y ev3 H3 q3 s3 hq3 => ?_⟩
              · exact qE (by rw [e0, ev3]) _ (s12.trans s3)
              · exact q y (by rw [e0, ev3]) _ q3 (s12.trans s3) hq3
            · rw [if_neg hlt] at e0
              rw [decide_eq_false hlt]
              refine iteF ?_
              refine ⟨_, rfl, t, _, 4, _, rfl, rfl, SqT.of (s12 _ _ h1), rfl, _, rfl, rec_ s12 (h5.same s12) o4 (by omega) (by omega) i4 (fun ev3 H3 s3 => ?_) fun y ev3 H3 q3 s3 hq3 => ?_⟩
              · exact qE (by rw [e0, ev3]) _ (s12.trans s3)
              · exact q y (by rw [e0, ev3]) _ q3 (s12.trans s3) hq3
      | bin o a b =>
        obtain ⟨p1, p2, h1, h2, h3⟩ := ht
        have hb : a.bits + b.bits + 1 ≤ 1500 := hbt
        have hd : 1 + max a.deep b.deep ≤ n + 1 := hdp
        obtain ⟨o1, o2⟩ := hok
        have hin' : ∀ s ∈ a.ins ++ b.ins, lk vl s ≠ none := hin
        have i1 : ∀ s ∈ a.ins, lk vl s ≠ none := fun s hs => hin' s (List.mem_append_left _ hs)
        have i2 : ∀ s ∈ b.ins, lk vl s ≠ none := fun s hs => hin' s (List.mem_append_right _ hs)
        have e0 : val (lk vl) (.bin o a b) = (val (lk vl) a).bind fun u => (val (lk vl) b).bind fun v => valOp o u v := rfl
        refine ⟨_, rfl, t, _, 0, _, rfl, rfl, SqT.of h1, rfl, ?_⟩
        refine ⟨_, rfl, (by cases o <;> rfl), _, rfl, ?_⟩
        rw [show decide (V.str o.name = V.str "is") = false by cases o <;> decide +kernel]
        refine iteF ?_
        refine ⟨_, rfl, (by cases o <;> rfl), _, rfl, ?_⟩
        rw [show decide (V.str o.name = V.str "nought") = false by cases o <;> decide +kernel]
        refine iteF ?_
        refine ⟨_, rfl, (by cases o <;> rfl), _, rfl, ?_⟩
        rw [show decide (V.str o.name = V.str "input") = false by cases o <;> decide +kernel]
        refine iteF ?_
        refine ⟨_, rfl, t, _, 1, _, rfl, rfl, SqT.of h1, rfl, _, rfl, rec_ (Same.refl _) h2 o1 (by omega) (by omega) i1 (fun ev H1 s1 => ?_) fun u ev H1 q1 s1 hq1 => ?_⟩
        · exact qE (by rw [e0, ev]; rfl) _ s1
        · rw [ev] at e0
          have e0 : val (lk vl) (.bin o a b) = (val (lk vl) b).bind fun v => valOp o u v := e0
          refine ⟨_, rfl, (by cases o <;> rfl), _, rfl, ?_⟩
          rw [show decide (V.str o.name = V.str "power") = false by cases o <;> decide +kernel]
          refine iteF ?_
          refine ⟨_, rfl, t, _, 2, _, rfl, rfl, SqT.of (s1 _ _ h1), rfl, _, rfl, rec_ s1 (h3.same s1) o2 (by omega) (by omega) i2 (fun ev2 H2 s2 => ?_) fun x ev2 H2 q2 s2 hq2 => ?_⟩
          · exact qE (by rw [e0, ev2]; rfl) _ (s1.trans s2)
          · rw [ev2] at e0
            have e0 : val (lk vl) (.bin o a b) = valOp o u x := e0
            have s12 := s1.trans s2
            have fu := val_sm hvl o1 ev
            have fx := val_sm hvl o2 ev2
            refine ⟨_, rfl, (by cases o <;> rfl), _, rfl, ?_⟩
            rw [show decide (V.str o.name = V.str "less") = false by cases o <;> decide +kernel]
            refine iteF ?_
            refine ⟨_, rfl, _, rfl, _, rfl, q1, q2, o, u, x, a.bits, b.bits, rfl, s2 _ _ hq1, hq2, fu, fx, by omega, fun z => ?_, fun y ey H3 p s3 hp3 => ?_⟩
            · exact qE (by rw [e0, z]) _ s12
            · exact q y (by rw [e0, ey]) _ p (s12.trans s3) hp3
/-! ### worth -/
theorem scWorth : FnScope ["reckoning", "values", "name"] ["reckoning", "values"] (defScope sWorth) := ⟨rfl, rfl, rfl, by decide +kernel, rfl, by decide +kernel, by decide +kernel⟩
theorem ok_worth {f fI fA fP fK fT : Addr} {fd fdI fdA fdP fdK fdT : FuncData} (F : Fun K "worth" "worth" sWorth f fd)
    (FI : Fun K "inputs" "inputs" sInp fI fdI) (bI : Binds K fdI ["reckoning"] []) (gI : mg "inputs" = some (.ref fI))
    (FA : Fun K "all_parts" "all_parts" sAll fA fdA) (bA : Binds K fdA ["reckoning"] []) (gA : mg "all_parts" = some (.ref fA))
    (FP : Fun K "parts" "parts" sPaP fP fdP) (bP : Binds K fdP ["reckoning"] []) (gP : mg "parts" = some (.ref fP)) (TP : PTab K w mg pt) (ms : mg "sorted" = none)
    (FK : Fun K "_worked_out" "_worked_out" sWorked fK fdK) (bK : Binds K fdK ["reckoning", "values"] []) (gK : mg "_worked_out" = some (.ref fK))
    (FT : Fun K "_of_two" "_of_two" sOfTwo fT fdT) (bT : Binds K fdT ["kind", "one", "other"] []) (gT : mg "_of_two" = some (.ref fT)) (T : FcT K mg B) (eY : ErrAt K mg "NoValue" Y) :
    FnOk P w K mg base (L2N.CX P w) 25 f fd ["reckoning", "values"] (spWor Y B) := by
  have GI : FnOk P w K mg base CX0 23 fI fdI ["reckoning"] spInp := ok_inpP FI FA bA gA FP bP gP TP ms
  have GK : FnOk P w K mg base (L2N.CX P w) 24 fK fdK ["reckoning", "values"] (spWorked B 20) := ok_worked FK bK gK FT bT gT T 20
  refine F.okN scWorth (fun vs H Q E h => ?_) (fun cdv A outer s H vs Q E hr h => ?_)
  · obtain ⟨t, vd, r, ads, vl, rfl, _⟩ := h
    rfl
  · obtain ⟨t, vd, r, ads, vl, rfl, wi, q1, q2, q3⟩ := h
    have nd := scWorth.nd
    have hu := hu_of hr
    have hr23 : Room 23 _ := hr.mono (by omega)
    refine ⟨_, pss_cons (ps_for (passes_of rfl) rfl (pi_list (pe_call GI hr23 (by rfl) gI FI.kp bI .nil pass0 (pa_cons (pv 0) pa_nil))) (pg_name (i := 2) nd rfl (.inl rfl))
        (pss_one (ps_if (pt_cmp (pc_dnotin hu (pv 2) (pv 1))) (pss_one (L2N.ps_raise rfl (L2N.takes_of rfl rfl rfl rfl) (L2N.pmk_ownA PySem.F.excBase_ValueError eY.x1 eY.g eY.k (raises_own eY.b eY.t) rfl
          (pa_cons (pe_joined (.cons pe_str (.cons (pe_fmt (pv 2)) (.cons pe_str .nil)))) pa_nil)))) pss_nil)))
      (pss_one (ps_ret (pe_callS GK hr (by rfl) gK FK.kp bK (fun σ => L2N.passAt (L2N.takes_of rfl rfl rfl rfl) σ) (pa_cons (pv 0) (pa_cons (pv 1) pa_nil))))), ?_⟩
    refine ⟨_, rfl, t, r, rfl, wi.t, wi.deep, wi.mny, fun H1 l ys s1 nl hl nm => ?_⟩
    refine ⟨l, rfl, ⟨_, SqL.of hl⟩, for_list (xs := ys.map V.str) (fun i σ H2 => ∃ v2 : Option V, σ = [some (.ref t), some (.ref vd), v2] ∧ H2 = H1 ∧ ∀ z ∈ ys.take i, lk vl z ≠ none)
      ⟨none, rfl, rfl, fun z hz => absurd hz (by simp)⟩ (fun i σ H2 _ z => ?_) ?_ ?_⟩
    · obtain ⟨_, _, rfl, _⟩ := z
      exact SqL.of hl
    · rintro i x σ H2 hx ⟨v2, rfl, rfl, all⟩
      obtain ⟨z, hz, rfl⟩ := at_map hx
      have zm : z ∈ r.ins := (nm.mem z).mp (List.mem_of_getElem? hz)
      have hv := wi.v.same s1
      refine ⟨_, rfl, _, rfl, vd, _, rfl, DGet.k (k := Sum.inr z) hv.1, _, rfl, ?_⟩
      rw [encG_val]
      cases e : lk ads z with
      | some b =>
        refine iteF ?_
        refine ⟨_, rfl, rfl, fun y hy => ?_⟩
        rw [take_more hz, List.mem_append, List.mem_singleton] at hy
        rcases hy with hy | rfl
        · exact all y hy
        · rcases frs_lk hv.2 y with ⟨e3, _⟩ | ⟨_, _, _, e3, _⟩
          · rw [e] at e3
            cases e3
          · rw [e3]
            exact fun h => nomatch h
      | none =>
        refine iteT ?_
        have e2 : lk vl z = none := by
          rcases frs_lk hv.2 z with ⟨_, e3⟩ | ⟨_, _, e3, _⟩
          · exact e3
          · rw [e] at e3
            cases e3
        have zl : z.length ≤ 8 := (ins_nm wi.ok zm).2.1
        have l1 : (Str.empty ++ Str.ofString "the input ").length = 10 := by decide +kernel
        have l3 : (Str.ofString " has no value").length = 13 := by decide +kernel
        have sz : sizeLine = 16777216 := sizeLine_eq
        refine ⟨_, rfl, ?_, _, rfl, .inl ⟨z, rfl, ?_, _, rfl, ?_, _, rfl, ?_, ?_⟩⟩
        · omega
        · omega
        · rw [app_len, l1]
          omega
        · rw [app_len, app_len, l1, l3]
          omega
        · exact ⟨by show 1 ≤ sizeLine; omega, q1 ⟨z, zm, e2⟩ _ s1⟩
    · rintro σ H2 ⟨v2, rfl, rfl, all⟩
      rw [List.length_map, List.take_length] at all
      have h0 : ∀ s ∈ r.ins, lk vl s ≠ none := fun s hs => all s ((nm.mem s).mpr hs)
      refine ⟨_, rfl, _, rfl, t, vd, r, ads, vl, rfl, wi.t.same s1, wi.v.same s1, wi.sm, wi.ok, (show r.deep ≤ 19 + 1 from wi.deep), wi.bits, h0, fun ev H3 s3 => ?_, fun u ev H3 p s3 hp => ?_⟩
      · exact q2 h0 ev _ (s1.trans s3)
      · exact q3 h0 u ev _ p (s1.trans s3) hp
end
end MK


set_option Elab.async false
set_option linter.all false
set_option maxRecDepth 100000
set_option maxHeartbeats 4000000
namespace MK
open PySem PySem.Spec PyProof.Rows L2
/-- what the walk asks of the top -/
structure Txt (K : PySem.W.Frag) (w : World) (mg : Str → Option Value) (M N U Y B pt : Addr) where
  (fX fC fWd fM fSm fS fO fN fL fT fP fLI fTo fR fLW fIn fPA fAP fWo fK fOT fxA fxL fxP fxQ fxR fxI fxG fxT fxW : Addr)
  (dX dC dWd dM dSm dS dO dN dL dT dP dLI dTo dR dLW dIn dPA dAP dWo dK dOT dxA dxL dxP dxQ dxR dxI dxG dxT dxW : FuncData)
  FX : Fun K "_law_mix" "_law_mix" sMix fX dX
  FC : Fun K "_law_cell_at" "_law_cell_at" sCell fC dC
  FWd : Fun K "_law_words" "_law_words" sWords fWd dWd
  FM : Fun K "_law_made" "_law_made" sMade fM dM
  FSm : Fun K "_law_small" "_law_small" sSmall fSm dSm
  FS : Fun K "_law_shared" "_law_shared" sShared fS dS
  FO : Fun K "_law_lowest" "_law_lowest" sLowest fO dO
  FN : Fun K "_law_number" "_law_number" sNumber fN dN
  FL : Fun K "_law_leaf" "_law_leaf" sLeaf fL dL
  FT : Fun K "_law_tree" "_law_tree" sTree fT dT
  FP : Fun K "_law_parts" "_law_parts" sParts fP dP
  FLI : Fun K "_law_inputs" "_law_inputs" sLInputs fLI dLI
  FTo : Fun K "_law_told" "_law_told" sLTold fTo dTo
  FR : Fun K "_law_raised" "_law_raised" sLRaised fR dR
  FLW : Fun K "_law_worth" "_law_worth" sLWorth fLW dLW
  FIn : Fun K "inputs" "inputs" sInp fIn dIn
  FPA : Fun K "parts" "parts" sPaP fPA dPA
  FAP : Fun K "all_parts" "all_parts" sAll fAP dAP
  FWo : Fun K "worth" "worth" sWorth fWo dWo
  FK : Fun K "_worked_out" "_worked_out" sWorked fK dK
  FOT : Fun K "_of_two" "_of_two" sOfTwo fOT dOT
  FxA : Fun K "added" "added" sAdd fxA dxA
  FxL : Fun K "lessened" "lessened" sLess fxL dxL
  FxP : Fun K "product" "product" sProd fxP dxP
  FxQ : Fun K "quotient" "quotient" sQuo fxQ dxQ
  FxR : Fun K "raised" "raised" sRaised fxR dxR
  FxI : Fun K "is_less" "is_less" sIsLess fxI dxI
  FxG : Fun K "_together" "_together" sTog fxG dxG
  FxT : Fun K "_turned" "_turned" sTrn fxT dxT
  FxW : Fun K "_whole_power" "_whole_power" sWholeP fxW dxW
  gX : mg "_law_mix" = some (.ref fX)
  gC : mg "_law_cell_at" = some (.ref fC)
  gWd : mg "_law_words" = some (.ref fWd)
  gM : mg "_law_made" = some (.ref fM)
  gSm : mg "_law_small" = some (.ref fSm)
  gS : mg "_law_shared" = some (.ref fS)
  gO : mg "_law_lowest" = some (.ref fO)
  gN : mg "_law_number" = some (.ref fN)
  gL : mg "_law_leaf" = some (.ref fL)
  gT : mg "_law_tree" = some (.ref fT)
  gP : mg "_law_parts" = some (.ref fP)
  gLI : mg "_law_inputs" = some (.ref fLI)
  gTo : mg "_law_told" = some (.ref fTo)
  gR : mg "_law_raised" = some (.ref fR)
  gLW : mg "_law_worth" = some (.ref fLW)
  gIn : mg "inputs" = some (.ref fIn)
  gPA : mg "parts" = some (.ref fPA)
  gAP : mg "all_parts" = some (.ref fAP)
  gWo : mg "worth" = some (.ref fWo)
  gK : mg "_worked_out" = some (.ref fK)
  gOT : mg "_of_two" = some (.ref fOT)
  gxA : mg "added" = some (.ref fxA)
  gxL : mg "lessened" = some (.ref fxL)
  gxP : mg "product" = some (.ref fxP)
  gxQ : mg "quotient" = some (.ref fxQ)
  gxR : mg "raised" = some (.ref fxR)
  gxI : mg "is_less" = some (.ref fxI)
  gxG : mg "_together" = some (.ref fxG)
  gxT : mg "_turned" = some (.ref fxT)
  gxW : mg "_whole_power" = some (.ref fxW)
  ml : mg "len" = none
  mr : mg "range" = none
  mv : mg "reversed" = none
  ma : mg "abs" = none
  mt : mg "tuple" = none
  mi : mg "isinstance" = none
  mn : mg "int" = none
  mE : mg "ValueError" = none
  ms : mg "sorted" = none
  mS : mg "set" = none
  mL : mg "list" = none
  mm : mg "min" = none
  md : mg "dict" = none
  k : KDs K mg M N U Y B
  fc : FcT K mg B
  tp : PTab K w mg pt
  eY : ErrAt K mg "NoValue" Y

section
variable {P : Program} {w : World} {K : PySem.W.Frag} {mg : Str → Option Value} {base : Heap} {M N U Y B pt : Addr}
theorem iteN (c : Bool) : (if c = true then (1 : Int) else 0) = ((if c = true then 1 else 0 : Nat) : Int) := by cases c <;> rfl
theorem four_int {a b c d : Int} {i : Int} (h0 : 0 ≤ i) (h1 : i < 4) : ∃ x : Int, atI [V.int a, V.int b, V.int c, V.int d] i = some (.int x) ∧ (x = a ∨ x = b ∨ x = c ∨ x = d) := by
  have : i = 0 ∨ i = 1 ∨ i = 2 ∨ i = 3 := by omega
  rcases this with rfl | rfl | rfl | rfl
  · exact ⟨a, rfl, .inl rfl⟩
  · exact ⟨b, rfl, .inr (.inl rfl)⟩
  · exact ⟨c, rfl, .inr (.inr (.inl rfl))⟩
  · exact ⟨d, rfl, .inr (.inr (.inr rfl))⟩
theorem two_i {a b : Int} {i : Int} (h0 : 0 ≤ i) (h1 : i < 2) : ∃ x : Int, atI [V.int a, V.int b] i = some (.int x) ∧ (x = a ∨ x = b) := by
  have : i = 0 ∨ i = 1 := by omega
  rcases this with rfl | rfl
  · exact ⟨a, rfl, .inl rfl⟩
  · exact ⟨b, rfl, .inr rfl⟩
theorem ints_snoc {cs : List Int} {c : Int} : cs.map V.int ++ [V.int c] = (cs ++ [c]).map V.int := by
  rw [List.map_append]
  rfl
theorem at_k {ws : List Str} {k : Nat} (h : k < ws.length) : ∃ z ∈ ws, atI (ws.map V.str) (k : Int) = some (.str z) :=
  ⟨ws[k], List.getElem_mem h, atI_nat (by rw [List.getElem?_map, List.getElem?_eq_getElem h]; rfl)⟩
theorem lawR_nought {ws : List Str} {k : Nat} : LawR ws k .nought := ⟨trivial, by show 1 ≤ 4 + k; omega, by show 30 ≤ 1000 + 31 * k; omega, Nat.zero_le _, fun s hs => absurd hs (by show s ∉ []; simp), by show 1 ≤ 100 + 2 * k; omega⟩
theorem lawR_bad1 {ws : List Str} : LawR ws 0 (.power .nought (-1)) := ⟨⟨trivial, by decide, by decide⟩, by show 1 + 1 ≤ 4 + 0; decide, by show 30 * 4 + 1 ≤ 1000 + 31 * 0; decide, Nat.zero_le _, fun s hs => absurd hs (by show s ∉ []; simp), by show 1 + 1 ≤ 100 + 2 * 0; decide⟩
theorem lawR_bad2 {ws : List Str} : LawR ws 0 (.bin .over .nought .nought) := ⟨⟨trivial, trivial⟩, by show 1 + max 1 1 ≤ 4 + 0; decide, by show 30 + 30 + 1 ≤ 1000 + 31 * 0; decide, Nat.zero_le _, fun s hs => absurd hs (by show s ∉ [] ++ []; simp), by show 1 + (1 + 1) ≤ 100 + 2 * 0; decide⟩
theorem lawR_bad3 {ws : List Str} {z : Str} (hz : z ∈ ws) (n : Nm z) : LawR ws 0 (.bin .over (.input z) .nought) := ⟨⟨n, trivial⟩, by show 1 + max 1 1 ≤ 4 + 0; decide, by show 30 + 30 + 1 ≤ 1000 + 31 * 0; decide, by show 1 ≤ 64 + 0; decide, fun s hs => by
  have : s = z := List.mem_singleton.mp (show s ∈ [z] from hs)
  rw [this]
  exact hz, by show 1 + (1 + 1) ≤ 100 + 2 * 0; decide⟩
def spLaw (K : PySem.W.Frag) : Sp := fun vs H Q _ => ∃ (a : Addr) (ns : List Int), vs = [.ref a] ∧ SqL K H a (ns.map V.int) ∧ ∀ H', Q (.bl true) H'
abbrev scLawN : List Str := ["_law_script", "_law_words_here", "_law_bases", "_law_tree_here", "_law_upto", "_law_cell", "_law_kind", "_law_more", "_law_bad", "_law_pair", "_law_one", "_law_values", "_law_k", "_law_some", "_law_due", "_law_handed", "_law_found", "_law_name"]
theorem scLaw : FnScope scLawN ["_law_script"] (defScope sLaw) := ⟨rfl, rfl, rfl, by decide +kernel, rfl, by decide +kernel, by decide +kernel⟩
theorem ok_law {f : Addr} {fd : FuncData} (F : Fun K "law" "law" sLaw f fd) (T : Txt K w mg M N U Y B pt) :
    FnOk P w K mg base CX0 27 f fd ["_law_script"] (spLaw K) := by
  have bX := T.FX.binds (ps := ["_law_cell", "_law_k"]) fun _ _ _ _ _ _ us hl => match us, hl with | [_, _], _ => rfl
  have bC := T.FC.binds (ps := ["_law_script", "_law_k"]) fun _ _ _ _ _ _ us hl => match us, hl with | [_, _], _ => rfl
  have bWd := T.FWd.binds (ps := ["_law_cell", "_law_many"]) fun _ _ _ _ _ _ us hl => match us, hl with | [_, _], _ => rfl
  have bM := T.FM.binds (ps := ["_law_powers"]) fun _ _ _ _ _ _ us hl => match us, hl with | [_], _ => rfl
  have bSm := T.FSm.binds (ps := ["_law_cell", "_law_letters"]) fun _ _ _ _ _ _ us hl => match us, hl with | [_, _], _ => rfl
  have bS := T.FS.binds (ps := ["_law_one", "_law_other"]) fun _ _ _ _ _ _ us hl => match us, hl with | [_, _], _ => rfl
  have bO := T.FO.binds (ps := ["_law_above", "_law_below"]) fun _ _ _ _ _ _ us hl => match us, hl with | [_, _], _ => rfl
  have bN := T.FN.binds (ps := ["_law_cell"]) fun _ _ _ _ _ _ us hl => match us, hl with | [_], _ => rfl
  have bL := T.FL.binds (ps := ["_law_cell", "_law_words_here", "_law_bases"]) fun _ _ _ _ _ _ us hl => match us, hl with | [_, _, _], _ => rfl
  have bT := T.FT.binds (ps := ["_law_cell", "_law_depth", "_law_names", "_law_powers"]) fun _ _ _ _ _ _ us hl => match us, hl with | [_, _, _, _], _ => rfl
  have bP := T.FP.binds (ps := ["_law_tree_here"]) fun _ _ _ _ _ _ us hl => match us, hl with | [_], _ => rfl
  have bLI := T.FLI.binds (ps := ["_law_tree_here"]) fun _ _ _ _ _ _ us hl => match us, hl with | [_], _ => rfl
  have bTo := T.FTo.binds (ps := ["_law_tree_here", "_law_values"]) fun _ _ _ _ _ _ us hl => match us, hl with | [_, _], _ => rfl
  have bR := T.FR.binds (ps := ["_law_one", "_law_n"]) fun _ _ _ _ _ _ us hl => match us, hl with | [_, _], _ => rfl
  have bLW := T.FLW.binds (ps := ["_law_tree_here", "_law_values"]) fun _ _ _ _ _ _ us hl => match us, hl with | [_, _], _ => rfl
  have bIn := T.FIn.binds (ps := ["reckoning"]) fun _ _ _ _ _ _ us hl => match us, hl with | [_], _ => rfl
  have bPA := T.FPA.binds (ps := ["reckoning"]) fun _ _ _ _ _ _ us hl => match us, hl with | [_], _ => rfl
  have bAP := T.FAP.binds (ps := ["reckoning"]) fun _ _ _ _ _ _ us hl => match us, hl with | [_], _ => rfl
  have bWo := T.FWo.binds (ps := ["reckoning", "values"]) fun _ _ _ _ _ _ us hl => match us, hl with | [_, _], _ => rfl
  have bK := T.FK.binds (ps := ["reckoning", "values"]) fun _ _ _ _ _ _ us hl => match us, hl with | [_, _], _ => rfl
  have bOT := T.FOT.binds (ps := ["kind", "one", "other"]) fun _ _ _ _ _ _ us hl => match us, hl with | [_, _, _], _ => rfl
  have lf : LfT K mg := ⟨_, _, _, _, _, _, _, _, _, _, _, _, T.FX, T.FM, T.FS, T.FO, T.FN, T.FSm, T.gX, T.gM, T.gS, T.gO, T.gN, T.gSm, T.mr, T.ml, T.mt, T.ms, T.ma⟩
  have GC : FnOk P w K mg base CX0 1 T.fC T.dC ["_law_script", "_law_k"] (spCell K) := ok_cell T.FC T.ml
  have GX : FnOk P w K mg base CX0 1 T.fX T.dX ["_law_cell", "_law_k"] spMix := ok_mix T.FX
  have GWd : FnOk P w K mg base CX0 1 T.fWd T.dWd ["_law_cell", "_law_many"] spWords := ok_words T.FWd T.mr
  have GN : FnOk P w K mg base CX0 3 T.fN T.dN ["_law_cell"] spNumber := ok_number T.FN T.FO bO T.gO T.FS bS T.gS T.ma
  have GL : FnOk P w K mg base CX0 4 T.fL T.dL ["_law_cell", "_law_words_here", "_law_bases"] spLeaf := ok_leaf T.FL lf
  have GT : FnOk P w K mg base CX0 8 T.fT T.dT ["_law_cell", "_law_depth", "_law_names", "_law_powers"] (spTree 4) := ok_tree T.FT bT T.gT T.FL bL T.gL lf 4
  have GLI : FnOk P w K mg base CX0 22 T.fLI T.dLI ["_law_tree_here"] (spLInputs 20) := ok_linputs T.FLI bLI T.gLI T.FP bP T.gP T.mL T.mS T.ms 20
  have GLW : FnOk P w K mg base CX0 24 T.fLW T.dLW ["_law_tree_here", "_law_values"] (spLWorth 20) := ok_lworth T.FLW bLW T.gLW T.FR bR T.gR T.FO bO T.gO T.FS bS T.gS T.ma T.mr T.mn 20
  have GIn : FnOk P w K mg base CX0 23 T.fIn T.dIn ["reckoning"] spInp := ok_inpP T.FIn T.FAP bAP T.gAP T.FPA bPA T.gPA T.tp T.ms
  have GWo : FnOk P w K mg base (L2N.CX P w) 25 T.fWo T.dWo ["reckoning", "values"] (spWor Y B) := ok_worth T.FWo T.FIn bIn T.gIn T.FAP bAP T.gAP T.FPA bPA T.gPA T.tp T.ms T.FK bK T.gK T.FOT bOT T.gOT T.fc T.eY
  have GTo : FnOk P w K mg base CX0 26 T.fTo T.dTo ["_law_tree_here", "_law_values"] spLTold := ok_ltold T.FTo T.k GWo T.FWo.kp bWo T.gWo
  refine F.ok scLaw (fun vs H Q E h => ?_) (fun cdv A outer s H vs Q E hr h => ?_)
  · obtain ⟨a, ns, rfl, _⟩ := h
    rfl
  · obtain ⟨a, ns, rfl, hS, q⟩ := h
    have nd := scLaw.nd
    have hu := hu_of hr
    have hr1 : Room 1 _ := hr.mono (by omega)
    have hr3 : Room 3 _ := hr.mono (by omega)
    have hr4 : Room 4 _ := hr.mono (by omega)
    have hr8 : Room 8 _ := hr.mono (by omega)
    have hr24 : Room 24 _ := hr.mono (by omega)
    have hr22 : Room 22 _ := hr.mono (by omega)
    have hrp : Room 23 _ := hr.mono (by omega)
    have hrt : Room 26 _ := hr.mono (by omega)
    have hun : (A.deeper (envOfC "law" (defScope sLaw) s.heap.objs.size f cdv)).units + 64 < cLine := by have := hr.un; omega
    have hu0 : (A.deeper (envOfC "law" (defScope sLaw) s.heap.objs.size f cdv)).units < cLine := by omega
    refine ⟨_, (pss_cons (ps_set (i := 1) nd rfl (.inl rfl) (pe_call GWd hr1 (by rfl) T.gWd T.FWd.kp bWd .nil pass0 (pa_cons (pe_call GC hr1 (by rfl) T.gC T.FC.kp bC .nil pass0 (pa_cons (pv 0) (pa_cons pe_int pa_nil))) (pa_cons pe_int pa_nil))))
      (pss_cons (ps_set (i := 2) nd rfl (.inl rfl) (pe_call GWd hr1 (by rfl) T.gWd T.FWd.kp bWd .nil pass0 (pa_cons (pe_call GC hr1 (by rfl) T.gC T.FC.kp bC .nil pass0 (pa_cons (pv 0) (pa_cons (pe_callTy call_int1 (by rfl) T.mn PyProof.Rows.boot_int (pa_cons (pe_cmpR op_gt (pe_op op_mod (pe_call GC hr1 (by rfl) T.gC T.FC.kp bC .nil pass0 (pa_cons (pv 0) (pa_cons pe_int pa_nil))) pe_int) pe_int (nomark _)) pa_nil)) pa_nil))) (pa_cons pe_int pa_nil))))
      (pss_cons (ps_set (i := 3) nd rfl (.inl rfl) (pe_call GT hr8 (by rfl) T.gT T.FT.kp bT .nil pass0 (pa_cons (pe_call GC hr1 (by rfl) T.gC T.FC.kp bC .nil pass0 (pa_cons (pv 0) (pa_cons pe_int pa_nil))) (pa_cons (pe_ix ix_list (pe_lst (pa_cons pe_int (pa_cons pe_int (pa_cons pe_int (pa_cons pe_int pa_nil))))) (pe_op op_mod (pe_call GC hr1 (by rfl) T.gC T.FC.kp bC .nil pass0 (pa_cons (pv 0) (pa_cons pe_int pa_nil))) pe_int) (fun _ _ => rfl)) (pa_cons (pe_tup (pa_cons (pv 1) (pa_cons (pv 2) pa_nil))) (pa_cons pe_int pa_nil))))))
      (pss_cons (ps_set (i := 4) nd rfl (.inl rfl) (pe_callB (call_min2 rfl) (by rfl) T.mm PyProof.Rows.boot_min (pa_cons (pe_callB call_len_seq (by rfl) T.ml PySem.boot_len (pa_cons (pv 0) pa_nil)) (pa_cons (pe_ix ix_list (pe_lst (pa_cons pe_int (pa_cons pe_int pa_nil))) (pe_op op_mod (pe_op op_fdiv (pe_call GC hr1 (by rfl) T.gC T.FC.kp bC .nil pass0 (pa_cons (pv 0) (pa_cons pe_int pa_nil))) pe_int) pe_int) (fun _ _ => rfl)) pa_nil))))
      (Evl.pss_cut (ps_for PassesOwn.never rfl (pi_list (pe_lc (own := [("_law_k", 12)]) (g := gName 12) (tt := tYes) rfl nd (pi_range2 rfl T.mr (pa_cons pe_int (pa_cons (pv 4) pa_nil))) (blkOk_by (N := scLawN) (sc := defScope sLaw) (by decide +kernel)) (fun _ _ _ _ _ => pg_name (i := 12) nd rfl (Or.inl rfl)) (fun _ _ _ _ _ => pts_nil) (fun _ _ _ _ _ => (pe_call GC hr1 (by rfl) T.gC T.FC.kp bC .nil pass0 (pa_cons (pv 0) (pa_cons (pv 12) pa_nil)))))) (pg_name (i := 5) nd rfl (.inl rfl)) (pss_cons (ps_set (i := 6) nd rfl (.inl rfl) (pe_ix ix_list (pe_lst (pa_cons pe_str (pa_cons pe_str (pa_cons pe_str (pa_cons pe_str pa_nil))))) (pe_op op_mod (pv 5) pe_int) (fun _ _ => rfl)))
      (pss_one (ps_set (i := 3) nd rfl (.inl rfl) (pe_tup (pa_cons (pv 6) (pa_cons (pe_call GL hr4 (by rfl) T.gL T.FL.kp bL .nil pass0 (pa_cons (pe_op op_fdiv (pv 5) pe_int) (pa_cons (pv 1) (pa_cons (pv 2) pa_nil)))) (pa_cons (pv 3) pa_nil))))))))
      (Evl.pss_cut (ps_if (pt_cmpR op_eq (pe_op op_mod (pe_op op_fdiv (pe_call GC hr1 (by rfl) T.gC T.FC.kp bC .nil pass0 (pa_cons (pv 0) (pa_cons pe_int pa_nil))) pe_int) pe_int) pe_int (nomark _)) (pss_cons (ps_set (i := 7) nd rfl (.inl rfl) (pe_call GC hr1 (by rfl) T.gC T.FC.kp bC .nil pass0 (pa_cons (pv 0) (pa_cons pe_int pa_nil))))
      (pss_cons (ps_set (i := 8) nd rfl (.inl rfl) (pe_tup (pa_cons pe_str (pa_cons (pe_tup (pa_cons pe_str pa_nil)) (pa_cons (pe_un un_neg pe_int) pa_nil)))))
      (Evl.pss_cut (ps_if (pt_cmpR op_gt (pe_op op_mod (pv 7) pe_int) pe_int (nomark _)) (pss_one (ps_set (i := 8) nd rfl (.inl rfl) (pe_tup (pa_cons pe_str (pa_cons (pe_ix ix_list (pe_lst (pa_cons (pe_tup (pa_cons pe_str pa_nil)) (pa_cons (pe_tup (pa_cons pe_str (pa_cons (pe_ix ix_list (pv 1) pe_int (fun _ _ => rfl)) pa_nil))) pa_nil))) (pe_op op_sub (pe_op op_mod (pv 7) pe_int) pe_int) (fun _ _ => rfl)) (pa_cons (pe_tup (pa_cons pe_str pa_nil)) pa_nil)))))) pss_nil)
      (pss_cons (ps_set (i := 9) nd rfl (.inl rfl) (pe_ix ix_list (pe_lst (pa_cons (pe_tup (pa_cons (pv 8) (pa_cons (pv 3) pa_nil))) (pa_cons (pe_tup (pa_cons (pv 3) (pa_cons (pv 8) pa_nil))) pa_nil))) (pe_op op_mod (pe_op op_fdiv (pv 7) pe_int) pe_int) (fun _ _ => rfl)))
      (pss_cons (ps_set (i := 10) nd rfl (.inl rfl) (pe_call GL hr4 (by rfl) T.gL T.FL.kp bL .nil pass0 (pa_cons (pe_call GX hr1 (by rfl) T.gX T.FX.kp bX .nil pass0 (pa_cons (pv 7) (pa_cons pe_int pa_nil))) (pa_cons (pv 1) (pa_cons (pv 2) pa_nil)))))
      (pss_one (ps_set (i := 3) nd rfl (.inl rfl) (pe_tup (pa_cons pe_str (pa_cons (pv 10) (pa_cons (pe_call GL hr4 (by rfl) T.gL T.FL.kp bL .nil pass0 (pa_cons (pe_call GX hr1 (by rfl) T.gX T.FX.kp bX .nil pass0 (pa_cons (pv 7) (pa_cons pe_int pa_nil))) (pa_cons (pv 1) (pa_cons (pv 2) pa_nil)))) (pa_cons (pe_ix ix_tup (pv 9) pe_int (fun _ _ => rfl)) (pa_cons (pe_ix ix_tup (pv 9) pe_int (fun _ _ => rfl)) pa_nil))))))))))))) pss_nil)
      (pss_cons (ps_set (i := 11) nd rfl (.inr rfl) pe_dnewK)
      (Evl.pss_cut (ps_for PassesOwn.never rfl (pi_range1 rfl T.mr (pa_cons pe_int pa_nil)) (pg_name (i := 12) nd rfl (.inl rfl)) (pss_one (ps_dput hu (pv 11) (pe_ix ix_list (pv 1) (pv 12) (fun _ _ => rfl)) (pe_call GN hr3 (by rfl) T.gN T.FN.kp bN .nil pass0 (pa_cons (pe_call GC hr1 (by rfl) T.gC T.FC.kp bC .nil pass0 (pa_cons (pv 0) (pa_cons (pe_op op_add pe_int (pv 12)) pa_nil))) pa_nil)) rfl)))
      (Evl.pss_cut (ps_if (pt_cmpR op_eq (pe_op op_mod (pe_call GC hr1 (by rfl) T.gC T.FC.kp bC .nil pass0 (pa_cons (pv 0) (pa_cons pe_int pa_nil))) pe_int) pe_int (nomark _)) (pss_one (ps_expr (pe_dpop1 (pv 11) (pe_ix ix_list (pv 1) (pe_op op_mod (pe_op op_fdiv (pe_call GC hr1 (by rfl) T.gC T.FC.kp bC .nil pass0 (pa_cons (pv 0) (pa_cons pe_int pa_nil))) pe_int) pe_int) (fun _ _ => rfl)) ⟨rfl, rfl, rfl, rfl⟩))) pss_nil)
      (pss_cons (ps_set (i := 13) nd rfl (.inl rfl) (pe_call GIn hrp (by rfl) T.gIn T.FIn.kp bIn .nil pass0 (pa_cons (pv 3) pa_nil)))
      (pss_cons (ps_set (i := 14) nd rfl (.inl rfl) (pe_call GLI hr22 (by rfl) T.gLI T.FLI.kp bLI .nil pass0 (pa_cons (pv 3) pa_nil)))
      (pss_cons (ps_if (pw_or (pt_not (pt_val (pe_callB call_isi (by rfl) T.mi PyProof.Rows.boot_isinstance (pa_cons (pv 13) (pa_cons (pe_bltn (v := .ty "list") (by rfl) T.mL PyProof.Rows.boot_list rfl) pa_nil))))) (pw_or1 (pt_cmpR (op_neD hun) (pv 13) (pv 14) (nomark _)))).pt (pss_one (ps_ret pe_bl)) pss_nil)
      (pss_cons (ps_set (i := 15) nd rfl (.inl rfl) (pe_callTy call_dictD (by rfl) T.md (by decide +kernel) (pa_cons (pv 11) pa_nil)))
      (Evl.pss_cut (ps_set (i := 16) nd rfl (.inl rfl) (pe_call GTo hrt (by rfl) T.gTo T.FTo.kp bTo .nil pass0 (pa_cons (pv 3) (pa_cons (pv 15) pa_nil))))
      (pss_cons (ps_if (pt_cmpR (op_ne_dictRef hu0) (pv 15) (pv 11) (nomark _)) (pss_one (ps_ret pe_bl)) pss_nil)
      (Evl.pss_cut (ps_if (pt_cmpR (op_neD hun) (pe_lc (own := [("_law_name", 17)]) (g := gName 17) rfl nd (pi_list (pv 14)) (blkOk_by (N := scLawN) (sc := defScope sLaw) (by decide +kernel)) (fun _ _ _ _ _ => pg_name (i := 17) nd rfl (Or.inl rfl)) (fun _ _ _ _ _ => pts_one (pt_cmp (pc_dnotin hu (pv 17) (pv 11)))) (fun _ _ _ _ _ => (pv 17))) (pe_lst pa_nil) (nomark _)) (pss_one (ps_ret (pe_cmpR op_eq (pv 16) pe_str (nomark _)))) pss_nil)
      (pss_cons (ps_set (i := 14) nd rfl (.inl rfl) (pe_call GLW hr24 (by rfl) T.gLW T.FLW.kp bLW .nil pass0 (pa_cons (pv 3) (pa_cons (pv 11) pa_nil))))
      (pss_cons (ps_if (pt_cmpR op_isN (pv 14) pe_non (nomark _)) (pss_one (ps_ret (pe_cmpR op_eq (pv 16) pe_str (nomark _)))) pss_nil)
      (pss_cons (ps_if (pw_or (pt_not (pt_val (pe_callB call_isi (by rfl) T.mi PyProof.Rows.boot_isinstance (pa_cons (pv 16) (pa_cons (pe_bltn (v := .ty "tuple") (by rfl) T.mt PyProof.Rows.boot_tuple rfl) pa_nil))))) (pw_or1 (pt_cmpR (op_neD hun) (pv 16) (pv 14) (nomark _)))).pt (pss_one (ps_ret pe_bl)) pss_nil)
      (pss_one (ps_ret (pe_and (pe_callB call_isi (by rfl) T.mi PyProof.Rows.boot_isinstance (pa_cons (pe_ix ix_tup (pv 16) pe_int (fun _ _ => rfl)) (pa_cons (pe_bltn (v := .ty "int") (by rfl) T.mn PyProof.Rows.boot_int rfl) pa_nil))) (pe_one (pe_callB call_isi (by rfl) T.mi PyProof.Rows.boot_isinstance (pa_cons (pe_ix ix_tup (pv 16) pe_int (fun _ _ => rfl)) (pa_cons (pe_bltn (v := .ty "int") (by rfl) T.mn PyProof.Rows.boot_int rfl) pa_nil)))))))))))))))))))))))))), ?_⟩
    -- words_here, bases
    refine ⟨_, rfl, a, ns, 0, rfl, hS, fun c0 c00 c01 => ?_⟩
    refine ⟨c0, 4, rfl, c00, by decide, fun H1 p1 ws s1 np1 hp1 hl1 hw1 => ?_⟩
    have hS1 := s1.seq hS
    refine ⟨_, rfl, ?_⟩
    refine ⟨_, rfl, a, ns, 1, rfl, hS1, fun c1 c10 c11 => ?_⟩
    refine ⟨_, _, rfl, rfl, (by show (0 : Int) < 3; decide), _, _, rfl, rfl, .inr ⟨_, rfl, ?_⟩⟩
    refine ⟨a, ns, _, by rw [iteN]; rfl, hS1, fun d1 d10 d11 => ?_⟩
    refine ⟨d1, 3, rfl, d10, by decide, fun H2 p2 bs s2 np2 hp2 hl2 hw2 => ?_⟩
    have hS2 := s2.seq hS1
    have nw : NmsAt H2 p1 ws := ⟨s2 _ _ hp1, (fun e => by rw [e] at hl1; cases hl1), by omega, hw1⟩
    have nb : NmsAt H2 p2 bs := ⟨hp2, (fun e => by rw [e] at hl2; cases hl2), by omega, hw2⟩
    -- the tree
    refine ⟨_, rfl, a, ns, 2, rfl, hS2, fun c2 c20 c21 => ?_⟩
    refine ⟨(by show 4 ≤ sizeLine; decide), fun l nl => ?_⟩
    have s3 := same_new (o := .lst [V.int 1, V.int 2, V.int 3, V.int 3]) nl
    refine ⟨_, rfl, a, ns, 3, rfl, (s3.seq hS2), fun c3 c30 c31 => ?_⟩
    refine ⟨_, _, rfl, rfl, (by show (0 : Int) < 4; decide), ?_⟩
    obtain ⟨d, hd1, hd2⟩ := four_int (a := 1) (b := 2) (c := 3) (d := 3) (i := c3 % 4) (by omega) (by omega)
    have hd3 : d ≤ ((3 : Nat) : Int) ∧ 1 + d.toNat ≤ 4 := by omega
    refine ⟨l, _, _, _, rfl, rfl, SqL.of upd_same, hd1, ?_⟩
    refine ⟨_, rfl, _, rfl, (by show 2 ≤ sizeLine; decide), fun tu ntu => ?_⟩
    have s4 := s3.trans (same_new (o := .tup [V.ref p1, V.ref p2]) ntu)
    refine ⟨c2, d, 2, tu, p1, p2, ws, bs, rfl, c20, hd3.1, upd_same, nw.same s4, nb.same s4, fun H3 p3 r s5 np3 h3 i3 => ?_⟩
    have s25 := s4.trans s5
    have hS3 := s25.seq hS2
    have nw3 := nw.same s25
    have nb3 := nb.same s25
    have lr : LawR ws 0 r := .of (i3.mono hd3.2 (by decide))
    -- upto
    refine ⟨_, rfl, a, _, rfl, .inl hS3, (by show 2 ≤ sizeLine; decide), fun l2 nl2 => ?_⟩
    have s6 := same_new (o := .lst [V.int 9, V.int 16]) nl2
    refine ⟨_, rfl, a, ns, 3, rfl, (s6.seq hS3), fun e3 e30 e31 => ?_⟩
    refine ⟨_, _, rfl, rfl, ⟨by decide, by decide⟩, _, _, rfl, rfl, (by show (0 : Int) < 2; decide), ?_⟩
    obtain ⟨j, hj1, hj2⟩ := two_i (a := 9) (b := 16) (i := e3 / 4 % 2) (by omega) (by omega)
    refine ⟨l2, _, _, _, rfl, rfl, SqL.of upd_same, hj1, _, j, rfl, ?_⟩
    obtain ⟨u, hu1, hu2, hu3⟩ : ∃ u : Int, (if j < ((ns.map V.int).length : Int) then j else ((ns.map V.int).length : Int)) = u ∧ u ≤ 16 ∧ 0 ≤ u := by
      refine ⟨_, rfl, ?_⟩
      split <;> omega
    rw [hu1]
    generalize hH4 : upd H3 l2 (HO.lst [V.int 9, V.int 16]) = H4 at s6 ⊢
    have hS4 := s6.seq hS3
    have nw4 := nw3.same s6
    have nb4 := nb3.same s6
    -- up to seven more around it
    refine ⟨fun σ' H' => ∃ (k : Nat) (p : Addr) (r : Rk) (v5 v6 : Option V), σ' = [some (.ref a), some (.ref p1), some (.ref p2), some (.ref p), some (.int u), v5, v6, none, none, none, none, none, none, none, none, none, none, none] ∧ k ≤ 7 ∧ Same H4 H' ∧ TrAt H' r p ∧ LawR ws k r, ?_, ?_⟩
    · refine ⟨_, rfl, 9, u, rfl, ⟨by decide, by decide, by omega, by omega⟩, fun D nD => ?_⟩
      refine lc_range (lo := 9) (n := (u - 9).toNat) (fun i H' => Same H4 H' ∧ ∃ cs : List Int, H' D = some (.lst (cs.map V.int)) ∧ cs.length = i ∧ ∀ c ∈ cs, 0 ≤ c) ⟨same_new nD, [], upd_same, rfl, fun c hc => absurd hc (by simp)⟩ ?_ ?_
      · rintro i H' hi ⟨sm, cs, hD, hcl, hc⟩
        refine ⟨rfl, ?_⟩
        refine ⟨_, rfl, _, rfl, a, ns, 9 + i, rfl, sm.seq hS4, fun c g0 g1 => ?_⟩
        refine ⟨cs.map V.int, hD, ?_, same_upd sm nD, cs ++ [c], ?_, ?_, fun y hy => ?_⟩
        · rw [List.length_map]
          exact small1000 (by omega)
        · rw [upd_same, ints_snoc]
        · rw [List.length_append, hcl]
          rfl
        · rcases List.mem_append.mp hy with z | z
          · exact hc y z
          · rw [List.mem_singleton.mp z]
            exact g0
      · rintro H' ⟨sm, cs, hD, hcl, hc⟩
        refine ⟨D, rfl, ⟨_, SqL.of hD⟩, for_list (xs := cs.map V.int) (fun i σ H2 => ∃ (p : Addr) (r : Rk) (v5 v6 : Option V), σ = [some (.ref a), some (.ref p1), some (.ref p2), some (.ref p), some (.int u), v5, v6, none, none, none, none, none, none, none, none, none, none, none] ∧ Same H' H2 ∧ TrAt H2 r p ∧ LawR ws i r)
          ⟨p3, r, none, none, rfl, Same.refl _, h3.same (s6.trans sm), lr⟩ (fun i σ H2 _ z => ?_) ?_ ?_⟩
        · obtain ⟨_, _, _, _, _, z, _⟩ := z
          exact SqL.of (z _ _ hD)
        · rintro i x σ H2 hx ⟨p, r, v5, v6, rfl, sr, ht, lr⟩
          obtain ⟨c, hcx, rfl⟩ := at_map hx
          have hc0 := hc c (List.mem_of_getElem? hcx)
          have s46 := sm.trans sr
          refine ⟨(by show 4 ≤ sizeLine; decide), fun l nl => ?_⟩
          have s7 := same_new (o := .lst [V.str "plus", V.str "minus", V.str "times", V.str "over"]) nl
          obtain ⟨o, ho⟩ := four_op (i := c % 4) (by omega) (by omega)
          refine ⟨_, rfl, _, _, rfl, rfl, (by show (0 : Int) < 4; decide), l, _, _, _, rfl, rfl, SqL.of upd_same, ho, ?_⟩
          refine ⟨_, rfl, _, rfl, _, _, rfl, rfl, ⟨by decide, by decide⟩, _, rfl, _, rfl, c / 4, p1, p2, ws, bs, rfl, by omega, nw4.same (s46.trans s7), nb4.same (s46.trans s7), fun H7 p7 r7 s8 np7 h7 i7 => ?_⟩
          refine ⟨_, rfl, (by show 3 ≤ sizeLine; decide), fun t nt => ?_⟩
          have s9 := same_new (o := .tup [V.str o.name, V.ref p7, V.ref p]) nt
          exact ⟨t, .bin o r7 r, some (.int c), some (.str o.name), rfl, sr.trans (s7.trans (s8.trans s9)), ⟨p7, p, upd_same, h7.same s9, ht.same (s7.trans (s8.trans s9))⟩, lr.more o i7⟩
        · rintro σ H2 ⟨p, r, v5, v6, rfl, sr, ht, lr⟩
          rw [List.length_map, hcl] at lr
          exact ⟨_, p, r, v5, v6, rfl, by omega, sm.trans sr, ht, lr⟩
    rintro σ' H5 ⟨k, p4, r4, v5, v6, rfl, hk, s7, h4, lr4⟩
    have hS5 := s7.seq hS4
    have nw5 := nw4.same s7
    have nb5 := nb4.same s7
    -- a less around it
    refine ⟨fun σ' H' => ∃ (p : Addr) (r : Rk) (v5 v6 v7 v8 v9 v10 : Option V), σ' = [some (.ref a), some (.ref p1), some (.ref p2), some (.ref p), some (.int u), v5, v6, v7, v8, v9, v10, none, none, none, none, none, none, none] ∧ Same H5 H' ∧ TrAt H' r p ∧ LawR ws 12 r, ?_, ?_⟩
    · refine ⟨_, rfl, a, ns, 3, rfl, hS5, fun g3 g30 g31 => ?_⟩
      refine ⟨_, _, rfl, rfl, ⟨by decide, by decide⟩, _, _, rfl, rfl, (by show (0 : Int) < 2; decide), rfl, _, rfl, ite2 (fun _ => ?_) (fun _ => ⟨p4, r4, v5, v6, _, _, _, _, rfl, Same.refl _, h4, lr4.mono (by omega)⟩)⟩
      refine ⟨_, rfl, a, ns, 1, rfl, hS5, fun g1 g10 g11 => ?_⟩
      refine ⟨(by show 1 ≤ sizeLine; decide), fun e1 ne1 => ⟨1, rfl, (by show 3 ≤ sizeLine; decide), fun b1 nb1 => ?_⟩⟩
      have t1 := (same_new (o := .tup [V.str "nought"]) ne1).trans (same_new (o := .tup [V.str "power", V.ref e1, V.int (-1)]) nb1)
      have hb1 : TrAt (upd (upd H5 e1 (.tup [V.str "nought"])) b1 (.tup [V.str "power", V.ref e1, V.int (-1)])) (.power .nought (-1)) b1 := ⟨e1, upd_same, upd_other upd_same nb1⟩
      generalize upd (upd H5 e1 (.tup [V.str "nought"])) b1 (.tup [V.str "power", V.ref e1, V.int (-1)]) = H6 at t1 hb1 ⊢
      have nw6 := nw5.same t1
      -- what divides by nought
      refine ⟨fun σ' H' => ∃ (pb : Addr) (rb : Rk), σ' = [some (.ref a), some (.ref p1), some (.ref p2), some (.ref p4), some (.int u), v5, v6, some (.int g1), some (.ref pb), none, none, none, none, none, none, none, none, none] ∧ Same H6 H' ∧ TrAt H' rb pb ∧ LawR ws 0 rb ∧ rb.ins.length ≤ 1 ∧ rb.many ≤ 3, ?_, ?_⟩
      · refine ⟨_, rfl, _, _, rfl, rfl, (by show (0 : Int) < 3; decide), _, _, rfl, rfl, _, rfl, ite2 (fun e => ?_) (fun _ => ⟨b1, _, rfl, Same.refl _, hb1, lawR_bad1, Nat.zero_le _, (by show 1 + 1 ≤ 3; decide)⟩)⟩
        have g3 : 0 < g1 % 3 := of_decide_eq_true e
        obtain ⟨w0, hw0, aw0⟩ := at_k (ws := ws) (k := 0) (by omega)
        refine ⟨(by show 1 ≤ sizeLine; decide), fun e2 ne2 => ?_⟩
        have t2 := same_new (o := .tup [V.str "nought"]) ne2
        refine ⟨_, rfl, p1, _, 0, _, rfl, rfl, SqL.of (nw6.same t2).h, aw0, (by show 2 ≤ sizeLine; decide), fun e3 ne3 => ⟨(by show 2 ≤ sizeLine; decide), fun l nl => ?_⟩⟩
        obtain ⟨v, hv1, hv2⟩ := two_val (a := V.ref e2) (b := V.ref e3) (i := g1 % 3 - 1) (by omega) (by omega)
        refine ⟨_, rfl, _, _, rfl, rfl, (by show (0 : Int) < 3; decide), _, _, rfl, rfl, l, _, _, _, rfl, rfl, SqL.of upd_same, hv1, ?_⟩
        refine ⟨(by show 1 ≤ sizeLine; decide), fun e4 ne4 => ⟨(by show 3 ≤ sizeLine; decide), fun b nb => ?_⟩⟩
        have t3 := same_new (o := .tup [V.str "input", V.str w0]) ne3
        have t4 := same_new (o := .lst [V.ref e2, V.ref e3]) nl
        have t5 := same_new (o := .tup [V.str "nought"]) ne4
        have t6 := same_new (o := .tup [V.str "over", v, V.ref e4]) nb
        have tt := (t2.trans (t3.trans (t4.trans t5))).trans t6
        rcases hv2 with rfl | rfl
        · exact ⟨b, .bin .over .nought .nought, rfl, tt, ⟨e2, e4, upd_same, (t3.trans (t4.trans (t5.trans t6))) _ _ upd_same, t6 _ _ upd_same⟩, lawR_bad2, Nat.zero_le _, (by show 1 + (1 + 1) ≤ 3; decide)⟩
        · exact ⟨b, .bin .over (.input w0) .nought, rfl, tt, ⟨e3, e4, upd_same, (t4.trans (t5.trans t6)) _ _ upd_same, t6 _ _ upd_same⟩, lawR_bad3 hw0 (hw1 w0 hw0), Nat.le_refl _, (by show 1 + (1 + 1) ≤ 3; decide)⟩
      rintro σ' H7 ⟨pb, rb, rfl, t7, hb, lb, fb, mb⟩
      have t57 := t1.trans t7
      have h47 := h4.same t57
      -- the two to choose from
      refine ⟨_, rfl, _, rfl, (by show 2 ≤ sizeLine; decide), fun x1 nx1 => ⟨_, rfl, _, rfl, (by show 2 ≤ sizeLine; decide), fun x2 nx2 => ⟨(by show 2 ≤ sizeLine; decide), fun l nl => ?_⟩⟩⟩
      have y1 := same_new (o := .tup [V.ref pb, V.ref p4]) nx1
      have y2 := same_new (o := .tup [V.ref p4, V.ref pb]) nx2
      have y3 := same_new (o := .lst [V.ref x1, V.ref x2]) nl
      obtain ⟨v, hv1, hv2⟩ := two_val (a := V.ref x1) (b := V.ref x2) (i := g1 / 3 % 2) (by omega) (by omega)
      refine ⟨_, rfl, _, _, rfl, rfl, ⟨by decide, by decide⟩, _, _, rfl, rfl, (by show (0 : Int) < 2; decide), l, _, _, _, rfl, rfl, SqL.of upd_same, hv1, ?_⟩
      obtain ⟨tp, z1, z2, q1, q2, rfl, htp, hz1, hz2, lz1, lz2, few, mm⟩ : ∃ (tp z1 z2 : Addr) (q1 q2 : Rk), v = .ref tp ∧ upd (upd (upd H7 x1 (.tup [V.ref pb, V.ref p4])) x2 (.tup [V.ref p4, V.ref pb])) l (.lst [V.ref x1, V.ref x2]) tp = some (.tup [V.ref z1, V.ref z2]) ∧ TrAt H7 q1 z1 ∧ TrAt H7 q2 z2 ∧ LawR ws 10 q1 ∧ LawR ws 10 q2 ∧ q1.ins.length + q2.ins.length ≤ 64 + 10 ∧ q1.many + q2.many ≤ 100 + 2 * 10 := by
        have f4 := lr4.few
        have m4 := lr4.mny
        rcases hv2 with rfl | rfl
        · exact ⟨x1, pb, p4, rb, r4, rfl, (y2.trans y3) _ _ upd_same, hb, h47, lb.mono (by omega), lr4.mono (by omega), by omega, by omega⟩
        · exact ⟨x2, p4, pb, r4, rb, rfl, y3 _ _ upd_same, h47, hb, lr4.mono (by omega), lb.mono (by omega), by omega, by omega⟩
      have yy := y1.trans (y2.trans y3)
      generalize upd (upd (upd H7 x1 (.tup [V.ref pb, V.ref p4])) x2 (.tup [V.ref p4, V.ref pb])) l (.lst [V.ref x1, V.ref x2]) = H8 at htp yy ⊢
      have nw8 := nw6.same (t7.trans yy)
      have nb8 := nb5.same (t57.trans yy)
      refine ⟨_, rfl, g1, 1, rfl, fun m1 m10 m11 => ?_⟩
      refine ⟨_, rfl, _, rfl, m1, p1, p2, ws, bs, rfl, m10, nw8, nb8, fun H9 pa ra s9 npa ha ia => ?_⟩
      refine ⟨_, rfl, _, rfl, g1, 2, rfl, fun m2 m20 m21 => ?_⟩
      refine ⟨_, rfl, _, rfl, m2, p1, p2, ws, bs, rfl, m20, nw8.same s9, nb8.same s9, fun H10 pc rc s10 npc hc ic => ?_⟩
      have s910 := s9.trans s10
      refine ⟨_, rfl, tp, _, 0, _, rfl, rfl, SqT.of (s910 _ _ htp), rfl, _, rfl, tp, _, 1, _, rfl, rfl, SqT.of (s910 _ _ htp), rfl, (by show 5 ≤ sizeLine; decide), fun t nt => ?_⟩
      have sl := same_new (o := .tup [V.str "less", V.ref pa, V.ref pc, V.ref z1, V.ref z2]) nt
      exact ⟨t, .less ra rc q1 q2, _, _, _, _, _, _, rfl, t57.trans (yy.trans (s910.trans sl)), ⟨pa, pc, z1, z2, upd_same, ha.same (s10.trans sl), hc.same sl, hz1.same (yy.trans (s910.trans sl)), hz2.same (yy.trans (s910.trans sl))⟩, LawR.pick lz1 lz2 ia ic few mm⟩
    rintro σ' H6 ⟨p5, r5, w5, w6, w7, w8, w9, w10, rfl, s8, h5, lr5⟩
    have hS6 := s8.seq hS5
    have nw6 := nw5.same s8
    -- the values
    refine fun vd nvd => ?_
    refine ⟨fun σ' H' => ∃ (v12 : Option V) (ads : List (Str × Addr)) (vl : List (Str × (Int × Int))), σ' = [some (.ref a), some (.ref p1), some (.ref p2), some (.ref p5), some (.int u), w5, w6, w7, w8, w9, w10, some (.ref vd), v12, none, none, none, none, none] ∧ Same H6 H' ∧ VlOk H' vd ads vl ∧ ∀ (j : Nat) (z : Str), ws[j]? = some z → lk vl z ≠ none, ?_, ?_⟩
    · refine ⟨4, rfl, by decide, by decide, for_range (n := 4) (fun i σ H' => ∃ (v12 : Option V) (ads : List (Str × Addr)) (vl : List (Str × (Int × Int))), σ = [some (.ref a), some (.ref p1), some (.ref p2), some (.ref p5), some (.int u), w5, w6, w7, w8, w9, w10, some (.ref vd), v12, none, none, none, none, none] ∧ Same H6 H' ∧ VlAt H' vd ads vl ∧ (vl.map (·.1)).Nodup ∧ (∀ p ∈ vl, FrSm 30 p.2) ∧ vl.length ≤ i ∧ ∀ (j : Nat) (z : Str), j < i → ws[j]? = some z → lk vl z ≠ none)
        ⟨none, [], [], rfl, same_new nvd, ⟨upd_same, .nil⟩, List.nodup_nil, fun p hp => absurd hp (by simp), Nat.le_refl _, fun j z hj _ => absurd hj (Nat.not_lt_zero _)⟩ ?_ ?_⟩
      · rintro i σ H' hi ⟨v12, ads, vl, rfl, sm, hv, vn, vs, vf, vk⟩
        refine ⟨_, rfl, _, rfl, _, _, rfl, rfl, a, ns, 4 + i, ?_, sm.seq hS6, fun c g0 g1 => ?_⟩
        · show [V.ref a, V.int (4 + (0 + (i : Int)))] = _
          rw [show (4 : Int) + (0 + (i : Int)) = ((4 + i : Nat) : Int) by omega]
        refine ⟨c, rfl, g0, fun H7 p x y sp np hp red b1 b2 => ?_⟩
        obtain ⟨z, hz, az⟩ := at_k (ws := ws) (k := i) (by omega)
        obtain ⟨jj, hjj, ejj⟩ : ∃ jj, ws[jj]? = some z ∧ jj = i := by
          have h1 : i < ws.length := by omega
          refine ⟨i, ?_, rfl⟩
          have e1 := az
          rw [atI_nat (j := i) (v := V.str ws[i]) (by rw [List.getElem?_map, List.getElem?_eq_getElem h1]; rfl)] at e1
          rw [List.getElem?_eq_getElem h1]
          exact congrArg some (V.str.inj (Option.some.inj e1))
        subst ejj
        have hvp := hv.same sp
        have adn : (ads.map (·.1)).Nodup := by rw [frs_keys hv.2]; exact vn
        have adl : ads.length = vl.length := by
          have := congrArg List.length (frs_keys hv.2)
          rw [List.length_map, List.length_map] at this
          exact this
        refine ⟨_, rfl, _, rfl, _, rfl, p1, _, _, _, rfl, rfl, SqL.of ((nw6.same sm).same sp).h, (by rw [Int.zero_add]; exact az), ?_⟩
        refine ⟨vd, _, rfl, dput_encG hvp.1 adn (small1000 (by omega)), ?_⟩
        refine ⟨_, put ads z p, put vl z (x, y), rfl, same_upd (sm.trans sp) nvd, ⟨upd_same, frs_dict hvp.1 (frs_put hp hvp.2)⟩, put_nodup _ _ vn, fun q hq => ?_, Nat.le_trans (put_len _ _ _) (by omega), fun j z' hj hz' => ?_⟩
        · rcases put_mem hq with e | e
          · rw [e]
            exact ⟨red, sm30 b1, sm30 (show y.natAbs ≤ 10 ^ 9 by have := red.1; omega)⟩
          · exact vs q e
        · rw [lk_put]
          by_cases e : z' = z
          · rw [if_pos e]
            exact fun h => nomatch h
          · rw [if_neg e]
            refine vk j z' ?_ hz'
            have : j ≠ jj := fun q => by
              rw [q, hjj] at hz'
              exact e (Option.some.inj hz').symm
            omega
      · rintro σ H' ⟨v12, ads, vl, rfl, sm, hv, vn, vs, vf, vk⟩
        exact ⟨v12, ads, vl, rfl, sm, ⟨hv, vn, vs, vf⟩, fun j z hz => vk j z (by have := (List.getElem?_eq_some_iff.mp hz).1; omega) hz⟩
    rintro σ' H7 ⟨v12, ads, vl, rfl, s9, ho, hk⟩
    have hS7 := s9.seq hS6
    have nw7 := nw6.same s9
    -- one of them taken out
    refine ⟨fun σ' H' => ∃ (ads : List (Str × Addr)) (vl : List (Str × (Int × Int))), σ' = [some (.ref a), some (.ref p1), some (.ref p2), some (.ref p5), some (.int u), w5, w6, w7, w8, w9, w10, some (.ref vd), v12, none, none, none, none, none] ∧ Same H6 H' ∧ VlOk H' vd ads vl, ?_, ?_⟩
    · refine ⟨_, rfl, a, ns, 8, rfl, hS7, fun k8 k80 k81 => ?_⟩
      refine ⟨_, _, rfl, rfl, (by show (0 : Int) < 6; decide), rfl, _, rfl, ite2 (fun _ => ?_) (fun _ => ⟨ads, vl, rfl, s9, ho⟩)⟩
      refine ⟨_, rfl, vd, rfl, .inl ⟨_, .inl ho.v.1⟩, _, rfl, ?_⟩
      refine ⟨_, rfl, a, ns, 8, rfl, hS7, fun j8 j80 j81 => ?_⟩
      obtain ⟨jn, ejn⟩ := Int.eq_ofNat_of_zero_le (show 0 ≤ j8 / 6 % 4 by omega)
      have hjn : jn < ws.length := by omega
      have az : atI (ws.map V.str) (j8 / 6 % 4) = some (.str ws[jn]) := by
        rw [ejn]
        exact atI_nat (by rw [List.getElem?_map, List.getElem?_eq_getElem hjn]; rfl)
      refine ⟨_, _, rfl, rfl, ⟨by decide, by decide⟩, _, _, rfl, rfl, (by show (0 : Int) < 4; decide), p1, _, _, _, rfl, rfl, SqL.of nw7.h, az, ?_⟩
      have hkn := hk jn _ (List.getElem?_eq_getElem hjn)
      obtain ⟨b, x, e1, e2, e3⟩ := vl_get ho.v hkn
      obtain ⟨b', hb'⟩ : ∃ b', lk ads ws[jn] = some b' := by
        rcases frs_lk ho.v.2 ws[jn] with ⟨_, z⟩ | ⟨b', _, z, _⟩
        · exact absurd z hkn
        · exact ⟨b', z⟩
      refine ⟨encG V.ref ads, Sum.inr ws[jn], .ref b', ho.v.1, rfl, by rw [encG_val, hb']; rfl, ?_⟩
      refine ⟨drp ads ws[jn], drp vl ws[jn], rfl, same_upd s9 nvd, ⟨⟨?_, frs_dict ho.v.1 (frs_drp ho.v.2)⟩, drp_nodup ho.nd, fun p hp => ho.sm p (drp_mem hp), Nat.le_trans (List.length_filter_le _ _) ho.few⟩⟩
      rw [upd_same]
      exact congrArg (fun z => some (HO.dK z)) (drp_enc V.ref ws[jn] ads)
    rintro σ' H8 ⟨ads, vl, rfl, s10, ho⟩
    have h58 := h5.same s10
    have b5 := lr5.bits
    have d5 := lr5.deep
    have f5 := lr5.few
    have m5 := lr5.mny
    have okn : ∀ z ∈ r5.ins, Ok z := fun z hz => (hw1 z (lr5.sub z hz)).2.2.ok
    -- the names
    refine ⟨_, rfl, p5, r5, rfl, h58, by omega, by omega, fun H9 q1 ys t1 nq1 hq1 nm1 => ?_⟩
    refine ⟨_, rfl, p5, r5, rfl, h58.same t1, (show r5.deep ≤ 19 + 1 by omega), by omega, fun H10 q2 zs t2 nq2 hq2 nm2 => ?_⟩
    obtain rfl : ys = zs := nm1.uniq nm2
    have oky : ∀ z ∈ ys, Ok z := fun z hz => okn z ((nm1.mem z).mp hz)
    have hq1' := t2 _ _ hq1
    refine ⟨_, rfl, _, _, _, _, true, rfl, .ty _, .base (.lst hq1'), kit_ty (by decide +kernel), true, rfl, iteF ?_⟩
    refine ⟨_, rfl, _, rfl, txD ys, txD ys, txD_at hq1', txD_at hq2, txD_shaped oky, txD_shaped oky, _, rfl, ?_⟩
    rw [txD_eqv oky]
    refine iteF ?_
    -- told
    have ho10 := (ho.same t1).same t2
    refine ⟨_, rfl, vd, _, rfl, .inl ho10.v.1, fun hd nhd => ?_⟩
    have t3 := same_new (o := .dK (encG V.ref ads)) nhd
    have hhd : VlAt (upd H10 hd (.dK (encG V.ref ads))) hd ads vl := ⟨upd_same, frs_same t3 ho10.v.2⟩
    generalize hH11 : upd H10 hd (HO.dK (encG V.ref ads)) = H11 at t3 hhd ⊢
    have ho11 := ho10.same t3
    have h511 := (h58.same t1).same (t2.trans t3)
    refine ⟨fun σ' H' => ∃ v : V, σ' = [some (.ref a), some (.ref p1), some (.ref p2), some (.ref p5), some (.int u), w5, w6, w7, w8, w9, w10, some (.ref vd), v12, some (.ref q1), some (.ref q2), some (.ref hd), some v, none] ∧ Same H11 H' ∧ ((∃ s ∈ r5.ins, lk vl s = none) → v = .str "value") ∧
      ((∀ s ∈ r5.ins, lk vl s ≠ none) → (val (lk vl) r5 = none → v = .str "nought") ∧ ∀ x, val (lk vl) r5 = some x → ∃ p, v = .ref p ∧ FracAt H' p x.1 x.2), ?_, ?_⟩
    · refine ⟨_, rfl, _, rfl, p5, hd, r5, ads, vl, rfl, ⟨h511, hhd, ho.nd, ho.lk, lr5.ok, by omega, by omega, by omega, by omega⟩, fun h0 H' sm => ?_, fun h0 h1 H' sm => ?_, fun h0 x hx H' p sm hp => ?_⟩
      · exact ⟨_, rfl, sm, fun _ => rfl, fun z => by
          obtain ⟨s, m1, m2⟩ := h0
          exact absurd m2 (z s m1)⟩
      · exact ⟨_, rfl, sm, fun ⟨s, m1, m2⟩ => absurd m2 (h0 s m1), fun _ => ⟨fun _ => rfl, fun x hx => by rw [h1] at hx; cases hx⟩⟩
      · exact ⟨_, rfl, sm, fun ⟨s, m1, m2⟩ => absurd m2 (h0 s m1), fun _ => ⟨fun z => by (rw [hx] at z; cases z), fun y hy => by
          rw [hx] at hy
          cases hy
          exact ⟨p, rfl, hp⟩⟩⟩
    rintro σ' H12 ⟨v, rfl, t4, fm, fa⟩
    have ho12 := ho11.same t4
    have hhd12 := hhd.same t4
    have h512 := h511.same t4
    have hq12 : H12 q2 = some (.lst (ys.map V.str)) := t4 _ _ (t3 _ _ hq2)
    refine ⟨_, rfl, _, rfl, hd, vd, encG V.ref ads, rfl, rfl, hhd12.1, ho12.v.1, ho12.hits, _, rfl, iteF ?_⟩
    -- which names have no value
    refine ⟨fun σ' H' => σ' = [some (.ref a), some (.ref p1), some (.ref p2), some (.ref p5), some (.int u), w5, w6, w7, w8, w9, w10, some (.ref vd), v12, some (.ref q1), some (.ref q2), some (.ref hd), some v, none] ∧ Same H12 H' ∧ ∀ s ∈ r5.ins, lk vl s ≠ none, ?_, ?_⟩
    · refine ⟨_, rfl, q2, rfl, ⟨_, SqL.of hq12⟩, fun D nD => ?_⟩
      refine lc_list (xs := ys.map V.str) (fun i H' => Same H12 H' ∧ ∃ us : List Str, H' D = some (.lst (us.map V.str)) ∧ (∀ z, z ∈ us ↔ z ∈ ys.take i ∧ lk vl z = none) ∧ us.length ≤ i)
        ⟨same_new nD, [], upd_same, fun z => by simp, Nat.le_refl _⟩ (fun i H' _ z => SqL.of (z.1 _ _ hq12)) ?_ ?_
      · rintro i x H' hx ⟨sm, us, hD, mem, len⟩
        obtain ⟨z, hz, rfl⟩ := at_map hx
        have hi : i < ys.length := (List.getElem?_eq_some_iff.mp hz).1
        have few := nm1.few
        refine ⟨rfl, _, rfl, _, rfl, vd, _, rfl, DGet.k (k := Sum.inr z) (sm _ _ ho12.v.1), _, rfl, ?_⟩
        rw [encG_val]
        cases e : lk ads z with
        | some b =>
          refine ⟨sm, us, hD, fun y => ?_, by omega⟩
          have e2 : lk vl z ≠ none := by
            rcases frs_lk ho12.v.2 z with ⟨e3, _⟩ | ⟨_, _, _, e3, _⟩
            · rw [e] at e3
              cases e3
            · rw [e3]
              exact fun h => nomatch h
          rw [mem y, take_more hz, List.mem_append, List.mem_singleton]
          exact ⟨fun q => ⟨.inl q.1, q.2⟩, fun q => ⟨q.1.resolve_right fun r => e2 (by rw [← r]; exact q.2), q.2⟩⟩
        | none =>
          have e2 : lk vl z = none := by
            rcases frs_lk ho12.v.2 z with ⟨_, e3⟩ | ⟨_, _, e3, _⟩
            · exact e3
            · rw [e] at e3
              cases e3
          refine ⟨_, rfl, us.map V.str, hD, ?_, same_upd sm nD, us ++ [z], ?_, fun y => ?_, ?_⟩
          · rw [List.length_map]
            exact small1000 (by omega)
          · rw [upd_same, List.map_append]
            rfl
          · rw [List.mem_append, mem y, take_more hz, List.mem_append, List.mem_singleton]
            exact ⟨fun q => q.elim (fun q => ⟨.inl q.1, q.2⟩) fun q => ⟨.inr q, by rw [q]; exact e2⟩, fun q => q.1.elim (fun r => .inl ⟨r, q.2⟩) .inr⟩
          · rw [List.length_append]
            exact Nat.add_le_add_right len 1
      · rintro H' ⟨sm, us, hD, mem, len⟩
        rw [List.length_map, List.take_length] at mem
        have oku : ∀ z ∈ us, Ok z := fun z hz => oky z ((mem z).mp hz).1
        refine ⟨Nat.zero_le _, fun l nl => ?_⟩
        have sl := same_new (o := .lst []) nl
        refine ⟨txD us, txD [], txD_at (sl _ _ hD), .lst (SqL.of upd_same) .nil, txD_shaped oku, txD_shaped (fun z hz => absurd hz (by simp)), _, rfl, ?_⟩
        rw [txD_nil]
        cases us with
        | nil =>
          refine iteF ?_
          refine ⟨rfl, sm.trans sl, fun s hs e => ?_⟩
          exact absurd ((mem s).mpr ⟨(nm1.mem s).mpr hs, e⟩) (by simp)
        | cons z us =>
          refine iteT ?_
          obtain ⟨z1, z2⟩ := (mem z).mp List.mem_cons_self
          have hv := fm ⟨z, (nm1.mem z).mp z1, z2⟩
          subst hv
          exact ⟨_, rfl, rfl, q _⟩
    rintro σ' H13 ⟨rfl, t5, all⟩
    have ho13 := ho12.same t5
    have h513 := h512.same t5
    obtain ⟨f1, f2⟩ := fa all
    refine ⟨_, rfl, _, rfl, p5, vd, r5, ads, vl, rfl, h513, ho13.v, ho.lk, lr5.ok, (show r5.deep ≤ 19 + 1 by omega), by omega, all, fun H14 y t6 ty => ?_⟩
    cases hx : val (lk vl) r5 with
    | none =>
      rw [hx] at ty
      obtain rfl : y = .non := ty
      obtain rfl := f1 hx
      refine ⟨_, rfl, rfl, _, rfl, iteT ?_⟩
      exact ⟨_, rfl, rfl, q _⟩
    | some x =>
      rw [hx] at ty
      obtain ⟨py, rfl, hpy⟩ := ty
      obtain ⟨pf, rfl, hpf⟩ := f2 x hx
      have hpf' : FracAt H14 pf x.1 x.2 := t6 _ _ (t5 _ _ hpf)
      refine ⟨_, rfl, rfl, _, rfl, iteF ?_⟩
      refine ⟨_, rfl, _, _, _, _, true, rfl, .ty _, .base (.tup hpf'), kit_ty (by decide +kernel), true, rfl, iteF ?_⟩
      have sh : SeqAt.shaped (.tuple [.int x.1, .int x.2]) = true := rfl
      have dp : ∀ b, FracAt H14 b x.1 x.2 → Dp K H14 (.ref b) (.tuple [.int x.1, .int x.2]) := fun b hb => .tup (SqT.of hb) (.cons (.int _) (.cons (.int _) .nil))
      refine ⟨_, rfl, _, rfl, .tuple [.int x.1, .int x.2], .tuple [.int x.1, .int x.2], dp _ hpf', dp _ hpy, sh, sh, _, rfl, ?_⟩
      rw [SeqAt.eqv_refl _ (SeqAt.canLay_of_shaped sh)]
      refine iteF ?_
      refine ⟨_, rfl, pf, _, 0, _, rfl, rfl, SqT.of hpf', rfl, _, _, _, _, true, rfl, .ty _, .base (.int _), kit_ty (by decide +kernel), true, rfl, iteT ?_⟩
      refine ⟨_, rfl, pf, _, 1, _, rfl, rfl, SqT.of hpf', rfl, _, _, _, _, true, rfl, .ty _, .base (.int _), kit_ty (by decide +kernel), ?_⟩
      exact q _
end
/-! ### what the top has written; the law's own head -/
theorem all_mk {l : PySem.W.OpenLaw} {w : World} {K : PySem.W.Frag} {h : Heap} {mg : Str → Option Value} {fa : Addr} (X : K.In h) (G : h.Ns mainGlobals mg) (hfa : mg "law" = some (.ref fa))
    {od0 an0 : Option Addr} {sl0 : Array (Option Value)} {oc0 kV0 dc0 pm0 cd0 ct0 : Value} {f0 : Addr}
    (a0 : PySem.W.nsIn K mainGlobals "_law_mix" = some (some (.ref f0))) (l0 : K.lookup f0 = some ⟨oc0, od0, .func (PySem.W.fnOf "_law_mix" "_law_mix" (defArgs sMix) (defBody sMix) (defScope sMix) .none kV0 dc0 pm0 an0 cd0 ct0), sl0⟩) (c0 : PySem.W.codeIn K cd0 "_law_mix" = true) (k0 : PySem.W.keepIn K (.ref f0) = true)
    {od1 an1 : Option Addr} {sl1 : Array (Option Value)} {oc1 kV1 dc1 pm1 cd1 ct1 : Value} {f1 : Addr}
    (a1 : PySem.W.nsIn K mainGlobals "_law_cell_at" = some (some (.ref f1))) (l1 : K.lookup f1 = some ⟨oc1, od1, .func (PySem.W.fnOf "_law_cell_at" "_law_cell_at" (defArgs sCell) (defBody sCell) (defScope sCell) .none kV1 dc1 pm1 an1 cd1 ct1), sl1⟩) (c1 : PySem.W.codeIn K cd1 "_law_cell_at" = true) (k1 : PySem.W.keepIn K (.ref f1) = true)
    {od2 an2 : Option Addr} {sl2 : Array (Option Value)} {oc2 kV2 dc2 pm2 cd2 ct2 : Value} {f2 : Addr}
    (a2 : PySem.W.nsIn K mainGlobals "_law_words" = some (some (.ref f2))) (l2 : K.lookup f2 = some ⟨oc2, od2, .func (PySem.W.fnOf "_law_words" "_law_words" (defArgs sWords) (defBody sWords) (defScope sWords) .none kV2 dc2 pm2 an2 cd2 ct2), sl2⟩) (c2 : PySem.W.codeIn K cd2 "_law_words" = true) (k2 : PySem.W.keepIn K (.ref f2) = true)
    {od3 an3 : Option Addr} {sl3 : Array (Option Value)} {oc3 kV3 dc3 pm3 cd3 ct3 : Value} {f3 : Addr}
    (a3 : PySem.W.nsIn K mainGlobals "_law_made" = some (some (.ref f3))) (l3 : K.lookup f3 = some ⟨oc3, od3, .func (PySem.W.fnOf "_law_made" "_law_made" (defArgs sMade) (defBody sMade) (defScope sMade) .none kV3 dc3 pm3 an3 cd3 ct3), sl3⟩) (c3 : PySem.W.codeIn K cd3 "_law_made" = true) (k3 : PySem.W.keepIn K (.ref f3) = true)
    {od4 an4 : Option Addr} {sl4 : Array (Option Value)} {oc4 kV4 dc4 pm4 cd4 ct4 : Value} {f4 : Addr}
    (a4 : PySem.W.nsIn K mainGlobals "_law_small" = some (some (.ref f4))) (l4 : K.lookup f4 = some ⟨oc4, od4, .func (PySem.W.fnOf "_law_small" "_law_small" (defArgs sSmall) (defBody sSmall) (defScope sSmall) .none kV4 dc4 pm4 an4 cd4 ct4), sl4⟩) (c4 : PySem.W.codeIn K cd4 "_law_small" = true) (k4 : PySem.W.keepIn K (.ref f4) = true)
    {od5 an5 : Option Addr} {sl5 : Array (Option Value)} {oc5 kV5 dc5 pm5 cd5 ct5 : Value} {f5 : Addr}
    (a5 : PySem.W.nsIn K mainGlobals "_law_shared" = some (some (.ref f5))) (l5 : K.lookup f5 = some ⟨oc5, od5, .func (PySem.W.fnOf "_law_shared" "_law_shared" (defArgs sShared) (defBody sShared) (defScope sShared) .none kV5 dc5 pm5 an5 cd5 ct5), sl5⟩) (c5 : PySem.W.codeIn K cd5 "_law_shared" = true) (k5 : PySem.W.keepIn K (.ref f5) = true)
    {od6 an6 : Option Addr} {sl6 : Array (Option Value)} {oc6 kV6 dc6 pm6 cd6 ct6 : Value} {f6 : Addr}
    (a6 : PySem.W.nsIn K mainGlobals "_law_lowest" = some (some (.ref f6))) (l6 : K.lookup f6 = some ⟨oc6, od6, .func (PySem.W.fnOf "_law_lowest" "_law_lowest" (defArgs sLowest) (defBody sLowest) (defScope sLowest) .none kV6 dc6 pm6 an6 cd6 ct6), sl6⟩) (c6 : PySem.W.codeIn K cd6 "_law_lowest" = true) (k6 : PySem.W.keepIn K (.ref f6) = true)
    {od7 an7 : Option Addr} {sl7 : Array (Option Value)} {oc7 kV7 dc7 pm7 cd7 ct7 : Value} {f7 : Addr}
    (a7 : PySem.W.nsIn K mainGlobals "_law_number" = some (some (.ref f7))) (l7 : K.lookup f7 = some ⟨oc7, od7, .func (PySem.W.fnOf "_law_number" "_law_number" (defArgs sNumber) (defBody sNumber) (defScope sNumber) .none kV7 dc7 pm7 an7 cd7 ct7), sl7⟩) (c7 : PySem.W.codeIn K cd7 "_law_number" = true) (k7 : PySem.W.keepIn K (.ref f7) = true)
    {od8 an8 : Option Addr} {sl8 : Array (Option Value)} {oc8 kV8 dc8 pm8 cd8 ct8 : Value} {f8 : Addr}
    (a8 : PySem.W.nsIn K mainGlobals "_law_leaf" = some (some (.ref f8))) (l8 : K.lookup f8 = some ⟨oc8, od8, .func (PySem.W.fnOf "_law_leaf" "_law_leaf" (defArgs sLeaf) (defBody sLeaf) (defScope sLeaf) .none kV8 dc8 pm8 an8 cd8 ct8), sl8⟩) (c8 : PySem.W.codeIn K cd8 "_law_leaf" = true) (k8 : PySem.W.keepIn K (.ref f8) = true)
    {od9 an9 : Option Addr} {sl9 : Array (Option Value)} {oc9 kV9 dc9 pm9 cd9 ct9 : Value} {f9 : Addr}
    (a9 : PySem.W.nsIn K mainGlobals "_law_tree" = some (some (.ref f9))) (l9 : K.lookup f9 = some ⟨oc9, od9, .func (PySem.W.fnOf "_law_tree" "_law_tree" (defArgs sTree) (defBody sTree) (defScope sTree) .none kV9 dc9 pm9 an9 cd9 ct9), sl9⟩) (c9 : PySem.W.codeIn K cd9 "_law_tree" = true) (k9 : PySem.W.keepIn K (.ref f9) = true)
    {od10 an10 : Option Addr} {sl10 : Array (Option Value)} {oc10 kV10 dc10 pm10 cd10 ct10 : Value} {f10 : Addr}
    (a10 : PySem.W.nsIn K mainGlobals "_law_parts" = some (some (.ref f10))) (l10 : K.lookup f10 = some ⟨oc10, od10, .func (PySem.W.fnOf "_law_parts" "_law_parts" (defArgs sParts) (defBody sParts) (defScope sParts) .none kV10 dc10 pm10 an10 cd10 ct10), sl10⟩) (c10 : PySem.W.codeIn K cd10 "_law_parts" = true) (k10 : PySem.W.keepIn K (.ref f10) = true)
    {od11 an11 : Option Addr} {sl11 : Array (Option Value)} {oc11 kV11 dc11 pm11 cd11 ct11 : Value} {f11 : Addr}
    (a11 : PySem.W.nsIn K mainGlobals "_law_inputs" = some (some (.ref f11))) (l11 : K.lookup f11 = some ⟨oc11, od11, .func (PySem.W.fnOf "_law_inputs" "_law_inputs" (defArgs sLInputs) (defBody sLInputs) (defScope sLInputs) .none kV11 dc11 pm11 an11 cd11 ct11), sl11⟩) (c11 : PySem.W.codeIn K cd11 "_law_inputs" = true) (k11 : PySem.W.keepIn K (.ref f11) = true)
    {od12 an12 : Option Addr} {sl12 : Array (Option Value)} {oc12 kV12 dc12 pm12 cd12 ct12 : Value} {f12 : Addr}
    (a12 : PySem.W.nsIn K mainGlobals "_law_told" = some (some (.ref f12))) (l12 : K.lookup f12 = some ⟨oc12, od12, .func (PySem.W.fnOf "_law_told" "_law_told" (defArgs sLTold) (defBody sLTold) (defScope sLTold) .none kV12 dc12 pm12 an12 cd12 ct12), sl12⟩) (c12 : PySem.W.codeIn K cd12 "_law_told" = true) (k12 : PySem.W.keepIn K (.ref f12) = true)
    {od13 an13 : Option Addr} {sl13 : Array (Option Value)} {oc13 kV13 dc13 pm13 cd13 ct13 : Value} {f13 : Addr}
    (a13 : PySem.W.nsIn K mainGlobals "_law_raised" = some (some (.ref f13))) (l13 : K.lookup f13 = some ⟨oc13, od13, .func (PySem.W.fnOf "_law_raised" "_law_raised" (defArgs sLRaised) (defBody sLRaised) (defScope sLRaised) .none kV13 dc13 pm13 an13 cd13 ct13), sl13⟩) (c13 : PySem.W.codeIn K cd13 "_law_raised" = true) (k13 : PySem.W.keepIn K (.ref f13) = true)
    {od14 an14 : Option Addr} {sl14 : Array (Option Value)} {oc14 kV14 dc14 pm14 cd14 ct14 : Value} {f14 : Addr}
    (a14 : PySem.W.nsIn K mainGlobals "_law_worth" = some (some (.ref f14))) (l14 : K.lookup f14 = some ⟨oc14, od14, .func (PySem.W.fnOf "_law_worth" "_law_worth" (defArgs sLWorth) (defBody sLWorth) (defScope sLWorth) .none kV14 dc14 pm14 an14 cd14 ct14), sl14⟩) (c14 : PySem.W.codeIn K cd14 "_law_worth" = true) (k14 : PySem.W.keepIn K (.ref f14) = true)
    {od15 an15 : Option Addr} {sl15 : Array (Option Value)} {oc15 kV15 dc15 pm15 cd15 ct15 : Value} {f15 : Addr}
    (a15 : PySem.W.nsIn K mainGlobals "inputs" = some (some (.ref f15))) (l15 : K.lookup f15 = some ⟨oc15, od15, .func (PySem.W.fnOf "inputs" "inputs" (defArgs sInp) (defBody sInp) (defScope sInp) .none kV15 dc15 pm15 an15 cd15 ct15), sl15⟩) (c15 : PySem.W.codeIn K cd15 "inputs" = true) (k15 : PySem.W.keepIn K (.ref f15) = true)
    {od16 an16 : Option Addr} {sl16 : Array (Option Value)} {oc16 kV16 dc16 pm16 cd16 ct16 : Value} {f16 : Addr}
    (a16 : PySem.W.nsIn K mainGlobals "parts" = some (some (.ref f16))) (l16 : K.lookup f16 = some ⟨oc16, od16, .func (PySem.W.fnOf "parts" "parts" (defArgs sPaP) (defBody sPaP) (defScope sPaP) .none kV16 dc16 pm16 an16 cd16 ct16), sl16⟩) (c16 : PySem.W.codeIn K cd16 "parts" = true) (k16 : PySem.W.keepIn K (.ref f16) = true)
    {od17 an17 : Option Addr} {sl17 : Array (Option Value)} {oc17 kV17 dc17 pm17 cd17 ct17 : Value} {f17 : Addr}
    (a17 : PySem.W.nsIn K mainGlobals "all_parts" = some (some (.ref f17))) (l17 : K.lookup f17 = some ⟨oc17, od17, .func (PySem.W.fnOf "all_parts" "all_parts" (defArgs sAll) (defBody sAll) (defScope sAll) .none kV17 dc17 pm17 an17 cd17 ct17), sl17⟩) (c17 : PySem.W.codeIn K cd17 "all_parts" = true) (k17 : PySem.W.keepIn K (.ref f17) = true)
    {od18 an18 : Option Addr} {sl18 : Array (Option Value)} {oc18 kV18 dc18 pm18 cd18 ct18 : Value} {f18 : Addr}
    (a18 : PySem.W.nsIn K mainGlobals "worth" = some (some (.ref f18))) (l18 : K.lookup f18 = some ⟨oc18, od18, .func (PySem.W.fnOf "worth" "worth" (defArgs sWorth) (defBody sWorth) (defScope sWorth) .none kV18 dc18 pm18 an18 cd18 ct18), sl18⟩) (c18 : PySem.W.codeIn K cd18 "worth" = true) (k18 : PySem.W.keepIn K (.ref f18) = true)
    {od19 an19 : Option Addr} {sl19 : Array (Option Value)} {oc19 kV19 dc19 pm19 cd19 ct19 : Value} {f19 : Addr}
    (a19 : PySem.W.nsIn K mainGlobals "_worked_out" = some (some (.ref f19))) (l19 : K.lookup f19 = some ⟨oc19, od19, .func (PySem.W.fnOf "_worked_out" "_worked_out" (defArgs sWorked) (defBody sWorked) (defScope sWorked) .none kV19 dc19 pm19 an19 cd19 ct19), sl19⟩) (c19 : PySem.W.codeIn K cd19 "_worked_out" = true) (k19 : PySem.W.keepIn K (.ref f19) = true)
    {od20 an20 : Option Addr} {sl20 : Array (Option Value)} {oc20 kV20 dc20 pm20 cd20 ct20 : Value} {f20 : Addr}
    (a20 : PySem.W.nsIn K mainGlobals "_of_two" = some (some (.ref f20))) (l20 : K.lookup f20 = some ⟨oc20, od20, .func (PySem.W.fnOf "_of_two" "_of_two" (defArgs sOfTwo) (defBody sOfTwo) (defScope sOfTwo) .none kV20 dc20 pm20 an20 cd20 ct20), sl20⟩) (c20 : PySem.W.codeIn K cd20 "_of_two" = true) (k20 : PySem.W.keepIn K (.ref f20) = true)
    {od21 an21 : Option Addr} {sl21 : Array (Option Value)} {oc21 kV21 dc21 pm21 cd21 ct21 : Value} {f21 : Addr}
    (a21 : PySem.W.nsIn K mainGlobals "added" = some (some (.ref f21))) (l21 : K.lookup f21 = some ⟨oc21, od21, .func (PySem.W.fnOf "added" "added" (defArgs sAdd) (defBody sAdd) (defScope sAdd) .none kV21 dc21 pm21 an21 cd21 ct21), sl21⟩) (c21 : PySem.W.codeIn K cd21 "added" = true) (k21 : PySem.W.keepIn K (.ref f21) = true)
    {od22 an22 : Option Addr} {sl22 : Array (Option Value)} {oc22 kV22 dc22 pm22 cd22 ct22 : Value} {f22 : Addr}
    (a22 : PySem.W.nsIn K mainGlobals "lessened" = some (some (.ref f22))) (l22 : K.lookup f22 = some ⟨oc22, od22, .func (PySem.W.fnOf "lessened" "lessened" (defArgs sLess) (defBody sLess) (defScope sLess) .none kV22 dc22 pm22 an22 cd22 ct22), sl22⟩) (c22 : PySem.W.codeIn K cd22 "lessened" = true) (k22 : PySem.W.keepIn K (.ref f22) = true)
    {od23 an23 : Option Addr} {sl23 : Array (Option Value)} {oc23 kV23 dc23 pm23 cd23 ct23 : Value} {f23 : Addr}
    (a23 : PySem.W.nsIn K mainGlobals "product" = some (some (.ref f23))) (l23 : K.lookup f23 = some ⟨oc23, od23, .func (PySem.W.fnOf "product" "product" (defArgs sProd) (defBody sProd) (defScope sProd) .none kV23 dc23 pm23 an23 cd23 ct23), sl23⟩) (c23 : PySem.W.codeIn K cd23 "product" = true) (k23 : PySem.W.keepIn K (.ref f23) = true)
    {od24 an24 : Option Addr} {sl24 : Array (Option Value)} {oc24 kV24 dc24 pm24 cd24 ct24 : Value} {f24 : Addr}
    (a24 : PySem.W.nsIn K mainGlobals "quotient" = some (some (.ref f24))) (l24 : K.lookup f24 = some ⟨oc24, od24, .func (PySem.W.fnOf "quotient" "quotient" (defArgs sQuo) (defBody sQuo) (defScope sQuo) .none kV24 dc24 pm24 an24 cd24 ct24), sl24⟩) (c24 : PySem.W.codeIn K cd24 "quotient" = true) (k24 : PySem.W.keepIn K (.ref f24) = true)
    {od25 an25 : Option Addr} {sl25 : Array (Option Value)} {oc25 kV25 dc25 pm25 cd25 ct25 : Value} {f25 : Addr}
    (a25 : PySem.W.nsIn K mainGlobals "raised" = some (some (.ref f25))) (l25 : K.lookup f25 = some ⟨oc25, od25, .func (PySem.W.fnOf "raised" "raised" (defArgs sRaised) (defBody sRaised) (defScope sRaised) .none kV25 dc25 pm25 an25 cd25 ct25), sl25⟩) (c25 : PySem.W.codeIn K cd25 "raised" = true) (k25 : PySem.W.keepIn K (.ref f25) = true)
    {od26 an26 : Option Addr} {sl26 : Array (Option Value)} {oc26 kV26 dc26 pm26 cd26 ct26 : Value} {f26 : Addr}
    (a26 : PySem.W.nsIn K mainGlobals "is_less" = some (some (.ref f26))) (l26 : K.lookup f26 = some ⟨oc26, od26, .func (PySem.W.fnOf "is_less" "is_less" (defArgs sIsLess) (defBody sIsLess) (defScope sIsLess) .none kV26 dc26 pm26 an26 cd26 ct26), sl26⟩) (c26 : PySem.W.codeIn K cd26 "is_less" = true) (k26 : PySem.W.keepIn K (.ref f26) = true)
    {od27 an27 : Option Addr} {sl27 : Array (Option Value)} {oc27 kV27 dc27 pm27 cd27 ct27 : Value} {f27 : Addr}
    (a27 : PySem.W.nsIn K mainGlobals "_together" = some (some (.ref f27))) (l27 : K.lookup f27 = some ⟨oc27, od27, .func (PySem.W.fnOf "_together" "_together" (defArgs sTog) (defBody sTog) (defScope sTog) .none kV27 dc27 pm27 an27 cd27 ct27), sl27⟩) (c27 : PySem.W.codeIn K cd27 "_together" = true) (k27 : PySem.W.keepIn K (.ref f27) = true)
    {od28 an28 : Option Addr} {sl28 : Array (Option Value)} {oc28 kV28 dc28 pm28 cd28 ct28 : Value} {f28 : Addr}
    (a28 : PySem.W.nsIn K mainGlobals "_turned" = some (some (.ref f28))) (l28 : K.lookup f28 = some ⟨oc28, od28, .func (PySem.W.fnOf "_turned" "_turned" (defArgs sTrn) (defBody sTrn) (defScope sTrn) .none kV28 dc28 pm28 an28 cd28 ct28), sl28⟩) (c28 : PySem.W.codeIn K cd28 "_turned" = true) (k28 : PySem.W.keepIn K (.ref f28) = true)
    {od29 an29 : Option Addr} {sl29 : Array (Option Value)} {oc29 kV29 dc29 pm29 cd29 ct29 : Value} {f29 : Addr}
    (a29 : PySem.W.nsIn K mainGlobals "_whole_power" = some (some (.ref f29))) (l29 : K.lookup f29 = some ⟨oc29, od29, .func (PySem.W.fnOf "_whole_power" "_whole_power" (defArgs sWholeP) (defBody sWholeP) (defScope sWholeP) .none kV29 dc29 pm29 an29 cd29 ct29), sl29⟩) (c29 : PySem.W.codeIn K cd29 "_whole_power" = true) (k29 : PySem.W.keepIn K (.ref f29) = true)
    {od30 an30 : Option Addr} {sl30 : Array (Option Value)} {oc30 kV30 dc30 pm30 cd30 ct30 : Value} {f30 : Addr}
    (a30 : PySem.W.nsIn K mainGlobals "law" = some (some (.ref f30))) (l30 : K.lookup f30 = some ⟨oc30, od30, .func (PySem.W.fnOf "law" "law" (defArgs sLaw) (defBody sLaw) (defScope sLaw) .none kV30 dc30 pm30 an30 cd30 ct30), sl30⟩) (c30 : PySem.W.codeIn K cd30 "law" = true) (k30 : PySem.W.keepIn K (.ref f30) = true)
    (z0 : PySem.W.nsIn K mainGlobals "len" = some none)
    (z1 : PySem.W.nsIn K mainGlobals "range" = some none)
    (z2 : PySem.W.nsIn K mainGlobals "reversed" = some none)
    (z3 : PySem.W.nsIn K mainGlobals "abs" = some none)
    (z4 : PySem.W.nsIn K mainGlobals "tuple" = some none)
    (z5 : PySem.W.nsIn K mainGlobals "isinstance" = some none)
    (z6 : PySem.W.nsIn K mainGlobals "int" = some none)
    (z7 : PySem.W.nsIn K mainGlobals "ValueError" = some none)
    (z8 : PySem.W.nsIn K mainGlobals "sorted" = some none)
    (z9 : PySem.W.nsIn K mainGlobals "set" = some none)
    (z10 : PySem.W.nsIn K mainGlobals "list" = some none)
    (z11 : PySem.W.nsIn K mainGlobals "min" = some none)
    (z12 : PySem.W.nsIn K mainGlobals "dict" = some none)
    (gg : PySem.W.nsIn K mainGlobals "gcd" = some (some (.builtin "math.gcd")))
    {M N U Y B : Addr}
    (eM : PySem.W.nsIn K mainGlobals "MeasureError" = some (some (.ref M)))
    (eN : PySem.W.nsIn K mainGlobals "NoFit" = some (some (.ref N)))
    (eU : PySem.W.nsIn K mainGlobals "Unlike" = some (some (.ref U)))
    (eY : PySem.W.nsIn K mainGlobals "NoValue" = some (some (.ref Y)))
    (eB : PySem.W.nsIn K mainGlobals "ByNought" = some (some (.ref B)))
    (y5 : PySem.W.specialIn K (.builtin "object.__class__") "__get__" = some (some (.builtin "getset_descriptor.__get__")))
    (y6 : PySem.W.takesIn K (.builtin "object.__class__") = some true)
    (m1 : PySem.W.subIn K (.ref M) (.type "BaseException") = some true)
    (m2 : PySem.W.hasDictIn K M = true)
    (m3 : PySem.W.typeIn K (.ref M) = some (.type "type"))
    (x1Y : PySem.W.excIn K Y [.type "ValueError", .type "Exception", .type "BaseException", .type "object"] "ValueError.__new__" = true)
    (x2Y : PySem.W.keepIn K (.ref Y) = true)
    (x3Y : PySem.W.subIn K (.ref Y) (.type "BaseException") = some true)
    (x4Y : PySem.W.typeIn K (.ref Y) = some (.type "type"))
    (y1Y : PySem.W.findIn K (.ref Y) "__getattribute__" = some (some (.builtin "BaseException.__getattribute__")))
    (y2Y : PySem.W.findIn K (.ref Y) "__getattr__" = some none)
    (y3Y : PySem.W.hasDictIn K Y = true)
    (y4Y : PySem.W.findIn K (.ref Y) "__class__" = some (some (.builtin "object.__class__")))
    (y7Y : PySem.W.mroIn K Y (.type "object") = some true)
    (qEY : PySem.W.kitOne K (.ref Y) (.type "ValueError") = some true)
    (m4Y : PySem.W.subIn K (.ref Y) (.ref M) = some true)
    (qNY : PySem.W.kitOne K (.ref Y) (.ref N) = some false)
    (qUY : PySem.W.kitOne K (.ref Y) (.ref U) = some false)
    (qYY : PySem.W.kitOne K (.ref Y) (.ref Y) = some true)
    (qBY : PySem.W.kitOne K (.ref Y) (.ref B) = some false)
    (x1B : PySem.W.excIn K B [.type "ValueError", .type "Exception", .type "BaseException", .type "object"] "ValueError.__new__" = true)
    (x2B : PySem.W.keepIn K (.ref B) = true)
    (x3B : PySem.W.subIn K (.ref B) (.type "BaseException") = some true)
    (x4B : PySem.W.typeIn K (.ref B) = some (.type "type"))
    (y1B : PySem.W.findIn K (.ref B) "__getattribute__" = some (some (.builtin "BaseException.__getattribute__")))
    (y2B : PySem.W.findIn K (.ref B) "__getattr__" = some none)
    (y3B : PySem.W.hasDictIn K B = true)
    (y4B : PySem.W.findIn K (.ref B) "__class__" = some (some (.builtin "object.__class__")))
    (y7B : PySem.W.mroIn K B (.type "object") = some true)
    (qEB : PySem.W.kitOne K (.ref B) (.type "ValueError") = some true)
    (m4B : PySem.W.subIn K (.ref B) (.ref M) = some true)
    (qNB : PySem.W.kitOne K (.ref B) (.ref N) = some false)
    (qUB : PySem.W.kitOne K (.ref B) (.ref U) = some false)
    (qYB : PySem.W.kitOne K (.ref B) (.ref Y) = some false)
    (qBB : PySem.W.kitOne K (.ref B) (.ref B) = some true)
    {pt : Addr} {es : Array DictEntry} {nes : Nat} {t1 t2 t3 t4 t5 t6 t7 t8 t9 : Tok}
    (pP : PySem.W.nsIn K mainGlobals "PARTS" = some (some (.ref pt))) (lP : K.lookup pt = some ⟨.type "dict", none, .dict es nes, #[]⟩) (kP : PySem.W.KeysLit w.params es.toList)
    (d1 : PySem.W.nsIn K pt "is" = some (some (.int 0 t1)))
    (d2 : PySem.W.nsIn K pt "nought" = some (some (.int 0 t2)))
    (d3 : PySem.W.nsIn K pt "input" = some (some (.int 0 t3)))
    (d4 : PySem.W.nsIn K pt "plus" = some (some (.int 2 t4)))
    (d5 : PySem.W.nsIn K pt "minus" = some (some (.int 2 t5)))
    (d6 : PySem.W.nsIn K pt "times" = some (some (.int 2 t6)))
    (d7 : PySem.W.nsIn K pt "over" = some (some (.int 2 t7)))
    (d8 : PySem.W.nsIn K pt "power" = some (some (.int 1 t8)))
    (d9 : PySem.W.nsIn K pt "less" = some (some (.int 4 t9))) :
    ∃ fd : FuncData, (∀ (s : Shared) (v : Value), BindsTo s fd ⟨[v], []⟩ [("_law_script", v)]) ∧ ∀ base : Heap, K.In base → base.Ns mainGlobals mg → FnOk l.prog w K mg base CX0 27 fa fd ["_law_script"] (spLaw K) := by
  have e := hfa.symm.trans (PySem.W.mg_of X G a30)
  cases e
  have CY : ExcC K Y := ⟨y1Y, y2Y, x3Y, y3Y, y4Y, y5, y6, y7Y⟩
  have AY : ErrAt K mg "NoValue" Y := ⟨x1Y, PySem.W.mg_of X G eY, x2Y, x3Y, x4Y⟩
  have CB : ExcC K B := ⟨y1B, y2B, x3B, y3B, y4B, y5, y6, y7B⟩
  have AB : ErrAt K mg "ByNought" B := ⟨x1B, PySem.W.mg_of X G eB, x2B, x3B, x4B⟩
  have TP : PTab K w mg pt := PTab.mk' (PySem.W.mg_of X G pP) lP kP d1 d2 d3 d4 d5 d6 d7 d8 d9
  have FC : FcT K mg B := ⟨f21, f22, f23, f24, f25, f26, f27, f28, f29, _, _, _, _, _, _, _, _, _, fun_mk l21 c21 k21, fun_mk l22 c22 k22, fun_mk l23 c23 k23, fun_mk l24 c24 k24, fun_mk l25 c25 k25, fun_mk l26 c26 k26, fun_mk l27 c27 k27, fun_mk l28 c28 k28, fun_mk l29 c29 k29, PySem.W.mg_of X G a21, PySem.W.mg_of X G a22, PySem.W.mg_of X G a23, PySem.W.mg_of X G a24, PySem.W.mg_of X G a25, PySem.W.mg_of X G a26, PySem.W.mg_of X G a27, PySem.W.mg_of X G a28, PySem.W.mg_of X G a29, PySem.W.mg_of X G gg, PySem.W.mg_none_of X G z1, PySem.W.mg_none_of X G z2, AB⟩
  have DY : KD K M N U Y B Y true false := ⟨CY, qEY, qNY, qUY, qYY, qBY, PySem.W.exm_ref m1 m2 m3 m4Y⟩
  have DB : KD K M N U Y B B false true := ⟨CB, qEB, qNB, qUB, qYB, qBB, PySem.W.exm_ref m1 m2 m3 m4B⟩
  have KK : KDs K mg M N U Y B := ⟨DY, DB, PySem.W.mg_of X G eM, PySem.W.mg_of X G eN, PySem.W.mg_of X G eU, PySem.W.mg_of X G eY, PySem.W.mg_of X G eB, PySem.W.mg_none_of X G z7, PySem.W.mg_none_of X G z5, PySem.W.mg_none_of X G z6⟩
  have T : Txt K w mg M N U Y B pt := ⟨f0, f1, f2, f3, f4, f5, f6, f7, f8, f9, f10, f11, f12, f13, f14, f15, f16, f17, f18, f19, f20, f21, f22, f23, f24, f25, f26, f27, f28, f29, _, _, _, _, _, _, _, _, _, _, _, _, _, _, _, _, _, _, _, _, _, _, _, _, _, _, _, _, _, _, fun_mk l0 c0 k0, fun_mk l1 c1 k1, fun_mk l2 c2 k2, fun_mk l3 c3 k3, fun_mk l4 c4 k4, fun_mk l5 c5 k5, fun_mk l6 c6 k6, fun_mk l7 c7 k7, fun_mk l8 c8 k8, fun_mk l9 c9 k9, fun_mk l10 c10 k10, fun_mk l11 c11 k11, fun_mk l12 c12 k12, fun_mk l13 c13 k13, fun_mk l14 c14 k14, fun_mk l15 c15 k15, fun_mk l16 c16 k16, fun_mk l17 c17 k17, fun_mk l18 c18 k18, fun_mk l19 c19 k19, fun_mk l20 c20 k20, fun_mk l21 c21 k21, fun_mk l22 c22 k22, fun_mk l23 c23 k23, fun_mk l24 c24 k24, fun_mk l25 c25 k25, fun_mk l26 c26 k26, fun_mk l27 c27 k27, fun_mk l28 c28 k28, fun_mk l29 c29 k29, PySem.W.mg_of X G a0, PySem.W.mg_of X G a1, PySem.W.mg_of X G a2, PySem.W.mg_of X G a3, PySem.W.mg_of X G a4, PySem.W.mg_of X G a5, PySem.W.mg_of X G a6, PySem.W.mg_of X G a7, PySem.W.mg_of X G a8, PySem.W.mg_of X G a9, PySem.W.mg_of X G a10, PySem.W.mg_of X G a11, PySem.W.mg_of X G a12, PySem.W.mg_of X G a13, PySem.W.mg_of X G a14, PySem.W.mg_of X G a15, PySem.W.mg_of X G a16, PySem.W.mg_of X G a17, PySem.W.mg_of X G a18, PySem.W.mg_of X G a19, PySem.W.mg_of X G a20, PySem.W.mg_of X G a21, PySem.W.mg_of X G a22, PySem.W.mg_of X G a23, PySem.W.mg_of X G a24, PySem.W.mg_of X G a25, PySem.W.mg_of X G a26, PySem.W.mg_of X G a27, PySem.W.mg_of X G a28, PySem.W.mg_of X G a29, PySem.W.mg_none_of X G z0, PySem.W.mg_none_of X G z1, PySem.W.mg_none_of X G z2, PySem.W.mg_none_of X G z3, PySem.W.mg_none_of X G z4, PySem.W.mg_none_of X G z5, PySem.W.mg_none_of X G z6, PySem.W.mg_none_of X G z7, PySem.W.mg_none_of X G z8, PySem.W.mg_none_of X G z9, PySem.W.mg_none_of X G z10, PySem.W.mg_none_of X G z11, PySem.W.mg_none_of X G z12, KK, FC, TP, AY⟩
  have FL := fun_mk (st := sLaw) l30 c30 k30
  exact ⟨_, fun s v => .of_eq rfl, fun base _ _ => ok_law FL T⟩
end MK
open PySem PySem.W PyProof.Rows
set_option maxHeartbeats 0 in
theorem PySem.Challenge.cw_measurekind_k05_worth_reckoned_holds : PySem.Challenge.rw_measurekind_k05_worth_reckoned.Holds := by
  w_on; o_law; k_head; (case hw => w_witness2)
  k_fill
  refine L2.walk_of (l := PySem.Challenge.rw_measurekind_k05_worth_reckoned) (n := 63) (k := 27) (x := "_law_script") (CX := fun _ => L2.CX0) (sp := fun w => MK.spLaw _) rfl (by decide) rfl ⟨rfl, by decide, by decide⟩ (fun w h Y => PySem.W.kIn_of Y) ?F (fun _ _ a ns hl _ hS => ⟨a, ns, rfl, hS, fun _ => rfl⟩) (fun _ _ _ _ _ h => h)
  case F =>
    intro w mg fa h KX G hmg
    refine' MK.all_mk KX G hmg ?a0 ?l0 ?c0 ?k0 ?a1 ?l1 ?c1 ?k1 ?a2 ?l2 ?c2 ?k2 ?a3 ?l3 ?c3 ?k3 ?a4 ?l4 ?c4 ?k4 ?a5 ?l5 ?c5 ?k5 ?a6 ?l6 ?c6 ?k6 ?a7 ?l7 ?c7 ?k7 ?a8 ?l8 ?c8 ?k8 ?a9 ?l9 ?c9 ?k9 ?a10 ?l10 ?c10 ?k10 ?a11 ?l11 ?c11 ?k11 ?a12 ?l12 ?c12 ?k12 ?a13 ?l13 ?c13 ?k13 ?a14 ?l14 ?c14 ?k14 ?a15 ?l15 ?c15 ?k15 ?a16 ?l16 ?c16 ?k16 ?a17 ?l17 ?c17 ?k17 ?a18 ?l18 ?c18 ?k18 ?a19 ?l19 ?c19 ?k19 ?a20 ?l20 ?c20 ?k20 ?a21 ?l21 ?c21 ?k21 ?a22 ?l22 ?c22 ?k22 ?a23 ?l23 ?c23 ?k23 ?a24 ?l24 ?c24 ?k24 ?a25 ?l25 ?c25 ?k25 ?a26 ?l26 ?c26 ?k26 ?a27 ?l27 ?c27 ?k27 ?a28 ?l28 ?c28 ?k28 ?a29 ?l29 ?c29 ?k29 ?a30 ?l30 ?c30 ?k30 ?z0 ?z1 ?z2 ?z3 ?z4 ?z5 ?z6 ?z7 ?z8 ?z9 ?z10 ?z11 ?z12 ?gg ?eM ?eN ?eU ?eY ?eB ?y5 ?y6 ?m1 ?m2 ?m3 ?x1Y ?x2Y ?x3Y ?x4Y ?y1Y ?y2Y ?y3Y ?y4Y ?y7Y ?qEY ?m4Y ?qNY ?qUY ?qYY ?qBY ?x1B ?x2B ?x3B ?x4B ?y1B ?y2B ?y3B ?y4B ?y7B ?qEB ?m4B ?qNB ?qUB ?qYB ?qBB ?pP ?lP ?kP ?d1 ?d2 ?d3 ?d4 ?d5 ?d6 ?d7 ?d8 ?d9
    (case a0 => k_is)
    (case l0 => k_is)
    (case c0 => k_is)
    (case k0 => k_is)
    (case a1 => k_is)
    (case l1 => k_is)
    (case c1 => k_is)
    (case k1 => k_is)
    (case a2 => k_is)
    (case l2 => k_is)
    (case c2 => k_is)
    (case k2 => k_is)
    (case a3 => k_is)
    (case l3 => k_is)
    (case c3 => k_is)
    (case k3 => k_is)
    (case a4 => k_is)
    (case l4 => k_is)
    (case c4 => k_is)
    (case k4 => k_is)
    (case a5 => k_is)
    (case l5 => k_is)
    (case c5 => k_is)
    (case k5 => k_is)
    (case a6 => k_is)
    (case l6 => k_is)
    (case c6 => k_is)
    (case k6 => k_is)
    (case a7 => k_is)
    (case l7 => k_is)
    (case c7 => k_is)
    (case k7 => k_is)
    (case a8 => k_is)
    (case l8 => k_is)
    (case c8 => k_is)
    (case k8 => k_is)
    (case a9 => k_is)
    (case l9 => k_is)
    (case c9 => k_is)
    (case k9 => k_is)
    (case a10 => k_is)
    (case l10 => k_is)
    (case c10 => k_is)
    (case k10 => k_is)
    (case a11 => k_is)
    (case l11 => k_is)
    (case c11 => k_is)
    (case k11 => k_is)
    (case a12 => k_is)
    (case l12 => k_is)
    (case c12 => k_is)
    (case k12 => k_is)
    (case a13 => k_is)
    (case l13 => k_is)
    (case c13 => k_is)
    (case k13 => k_is)
    (case a14 => k_is)
    (case l14 => k_is)
    (case c14 => k_is)
    (case k14 => k_is)
    (case a15 => k_is)
    (case l15 => k_is)
    (case c15 => k_is)
    (case k15 => k_is)
    (case a16 => k_is)
    (case l16 => k_is)
    (case c16 => k_is)
    (case k16 => k_is)
    (case a17 => k_is)
    (case l17 => k_is)
    (case c17 => k_is)
    (case k17 => k_is)
    (case a18 => k_is)
    (case l18 => k_is)
    (case c18 => k_is)
    (case k18 => k_is)
    (case a19 => k_is)
    (case l19 => k_is)
    (case c19 => k_is)
    (case k19 => k_is)
    (case a20 => k_is)
    (case l20 => k_is)
    (case c20 => k_is)
    (case k20 => k_is)
    (case a21 => k_is)
    (case l21 => k_is)
    (case c21 => k_is)
    (case k21 => k_is)
    (case a22 => k_is)
    (case l22 => k_is)
    (case c22 => k_is)
    (case k22 => k_is)
    (case a23 => k_is)
    (case l23 => k_is)
    (case c23 => k_is)
    (case k23 => k_is)
    (case a24 => k_is)
    (case l24 => k_is)
    (case c24 => k_is)
    (case k24 => k_is)
    (case a25 => k_is)
    (case l25 => k_is)
    (case c25 => k_is)
    (case k25 => k_is)
    (case a26 => k_is)
    (case l26 => k_is)
    (case c26 => k_is)
    (case k26 => k_is)
    (case a27 => k_is)
    (case l27 => k_is)
    (case c27 => k_is)
    (case k27 => k_is)
    (case a28 => k_is)
    (case l28 => k_is)
    (case c28 => k_is)
    (case k28 => k_is)
    (case a29 => k_is)
    (case l29 => k_is)
    (case c29 => k_is)
    (case k29 => k_is)
    (case a30 => k_is)
    (case l30 => k_is)
    (case c30 => k_is)
    (case k30 => k_is)
    (case z0 => k_is)
    (case z1 => k_is)
    (case z2 => k_is)
    (case z3 => k_is)
    (case z4 => k_is)
    (case z5 => k_is)
    (case z6 => k_is)
    (case z7 => k_is)
    (case z8 => k_is)
    (case z9 => k_is)
    (case z10 => k_is)
    (case z11 => k_is)
    (case z12 => k_is)
    (case gg => k_is)
    (case eM => k_is)
    (case eN => k_is)
    (case eU => k_is)
    (case eY => k_is)
    (case eB => k_is)
    (case y5 => k_is)
    (case y6 => k_is)
    (case m1 => k_is)
    (case m2 => k_is)
    (case m3 => k_is)
    (case x1Y => k_exc)
    (case x2Y => k_is)
    (case x3Y => k_is)
    (case x4Y => k_is)
    (case y1Y => k_is)
    (case y2Y => k_is)
    (case y3Y => k_is)
    (case y4Y => k_is)
    (case y7Y => k_is)
    (case qEY => kit_is)
    (case m4Y => k_is)
    (case qNY => kit_is)
    (case qUY => kit_is)
    (case qYY => kit_is)
    (case qBY => kit_is)
    (case x1B => k_exc)
    (case x2B => k_is)
    (case x3B => k_is)
    (case x4B => k_is)
    (case y1B => k_is)
    (case y2B => k_is)
    (case y3B => k_is)
    (case y4B => k_is)
    (case y7B => k_is)
    (case qEB => kit_is)
    (case m4B => k_is)
    (case qNB => kit_is)
    (case qUB => kit_is)
    (case qYB => kit_is)
    (case qBB => kit_is)
    (case pP => k_is)
    (case lP => k_is)
    (case kP => k_keys)
    (case d1 => k_is)
    (case d2 => k_is)
    (case d3 => k_is)
    (case d4 => k_is)
    (case d5 => k_is)
    (case d6 => k_is)
    (case d7 => k_is)
    (case d8 => k_is)
    (case d9 => k_is)


