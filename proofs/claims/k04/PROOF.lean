import PyProof.Rows.All
import Wide.All
import OpenK.AllK
import Wide.FinOn
import HandS.ForMost
import HandS.More
import HandS.Wide
import HandS.WideBits
import HandS.SortRule
import HandS.SortInts
import PyProof.StrOps2
import PyProof.Rows.SortShellAny
import HandS.ForExc
import HandS.ExcCtx
import HandS.HotCalls
import HandS.ExcIs
import HandS.Gcd
import HandS.RevRange
import KE.KDictPairs
import HandS.TupSets
import HandS.SetTxt0
import HandS.SetBool
import HandS.Small
import HandS.FStr
import HandS.DictComp
import HandS.Style
import HandS.FStrTup
import PyProof.ReprNest
import PyProof.FitsInt
import HandS.ListEq
import HandS.DeepEq
import PyProof.NeKinds
import HandS.AnyAll
import PyProof.TypeEq
import PyProof.InstEq
import PyProof.Rows.Chain
import HandS.IsInst
import HandS.Evl
import HandS.EndTab
import HandS.EndOwn
import PySem.Challenge.RW_measurekind_k04_reckonings_known
set_option Elab.async false
set_option linter.all false
/-! Measures as lists of pairs: association lists, sums by letter, the one sorted list of a sum. Plain Lean. -/
namespace MK
open PySem

/-! ### association lists -/
section
variable {α : Type}
def lk : List (Str × α) → Str → Option α
  | [], _ => none
  | p :: r, l => if p.1 = l then some p.2 else lk r l
def put : List (Str × α) → Str → α → List (Str × α)
  | [], l, v => [(l, v)]
  | p :: r, l, v => if p.1 = l then (p.1, v) :: r else p :: put r l v
theorem lk_put : ∀ (m : List (Str × α)) (l j : Str) (v : α), lk (put m l v) j = if j = l then some v else lk m j
  | [], l, j, v => by
    by_cases e : l = j
    · simp [put, lk, e]
    · have e' : ¬ j = l := fun z => e z.symm
      simp [put, lk, e, e']
  | p :: r, l, j, v => by
    have ih := lk_put r l j v
    unfold put
    by_cases e : p.1 = l
    · rw [if_pos e]
      by_cases e2 : p.1 = j
      · have : j = l := e2.symm.trans e
        simp [lk, e2, this]
      · have : ¬ j = l := fun z => e2 (e.trans z.symm)
        simp [lk, e2, this]
    · rw [if_neg e]
      by_cases e2 : p.1 = j
      · have : ¬ j = l := fun z => e (e2.trans z)
        simp [lk, e2, this]
      · simp [lk, e2, ih]
theorem put_keys : ∀ (m : List (Str × α)) (l : Str) (v : α), (∀ k, k ∈ (put m l v).map (·.1) ↔ (k = l ∨ k ∈ m.map (·.1)))
  | [], l, v, k => by simp [put]
  | p :: r, l, v, k => by
    have ih := put_keys r l v k
    unfold put
    by_cases e : p.1 = l
    · rw [if_pos e]
      simp only [List.map_cons, List.mem_cons]
      rw [e]
      constructor
      · intro h; rcases h with h | h
        · exact .inl h
        · exact .inr (.inr h)
      · intro h; rcases h with h | h | h
        · exact .inl h
        · exact .inl h
        · exact .inr h
    · rw [if_neg e]
      simp only [List.map_cons, List.mem_cons]
      rw [ih]
      constructor
      · intro h; rcases h with h | h | h
        · exact .inr (.inl h)
        · exact .inl h
        · exact .inr (.inr h)
      · intro h; rcases h with h | h | h
        · exact .inr (.inl h)
        · exact .inl h
        · exact .inr (.inr h)
theorem put_nodup : ∀ {m : List (Str × α)} (l : Str) (v : α), (m.map (·.1)).Nodup → ((put m l v).map (·.1)).Nodup
  | [], l, v, _ => by simp [put]
  | p :: r, l, v, h => by
    have h : (p.1 :: r.map (·.1)).Nodup := h
    obtain ⟨h1, h2⟩ := List.nodup_cons.mp h
    unfold put
    by_cases e : p.1 = l
    · rw [if_pos e]
      exact h
    · rw [if_neg e]
      show (p.1 :: (put r l v).map (·.1)).Nodup
      refine List.nodup_cons.mpr ⟨fun q => ?_, put_nodup l v h2⟩
      rcases (put_keys r l v p.1).mp q with z | z
      · exact e z
      · exact h1 z
theorem put_len : ∀ (m : List (Str × α)) (l : Str) (v : α), (put m l v).length ≤ m.length + 1
  | [], l, v => by simp [put]
  | p :: r, l, v => by
    have ih := put_len r l v
    unfold put
    by_cases e : p.1 = l
    · rw [if_pos e]; simp
    · rw [if_neg e]; simp only [List.length_cons]; omega
theorem put_mem : ∀ {m : List (Str × α)} {l : Str} {v : α} {q : Str × α}, q ∈ put m l v → q = (l, v) ∨ q ∈ m
  | [], l, v, q, h => by
    simp [put] at h
    exact .inl h
  | p :: r, l, v, q, h => by
    unfold put at h
    by_cases e : p.1 = l
    · rw [if_pos e] at h
      rcases List.mem_cons.mp h with z | z
      · exact .inl (by rw [z, e])
      · exact .inr (List.mem_cons_of_mem _ z)
    · rw [if_neg e] at h
      rcases List.mem_cons.mp h with z | z
      · exact .inr (by rw [z]; exact List.mem_cons_self)
      · rcases put_mem z with y | y
        · exact .inl y
        · exact .inr (List.mem_cons_of_mem _ y)
theorem lk_of_mem : ∀ {m : List (Str × α)} {l : Str} {v : α}, (m.map (·.1)).Nodup → (l, v) ∈ m → lk m l = some v
  | p :: r, l, v, h, q => by
    have h : (p.1 :: r.map (·.1)).Nodup := h
    obtain ⟨h1, h2⟩ := List.nodup_cons.mp h
    unfold lk
    rcases List.mem_cons.mp q with z | z
    · rw [← z]
      simp
    · have ne : ¬ p.1 = l := fun e => h1 (by rw [e]; exact List.mem_map.mpr ⟨_, z, rfl⟩)
      rw [if_neg ne]
      exact lk_of_mem h2 z
theorem mem_of_lk : ∀ {m : List (Str × α)} {l : Str} {v : α}, lk m l = some v → (l, v) ∈ m
  | [], l, v, h => by simp [lk] at h
  | p :: r, l, v, h => by
    unfold lk at h
    by_cases e : p.1 = l
    · rw [if_pos e] at h
      have : p.2 = v := Option.some.inj h
      rw [← e, ← this]
      exact List.mem_cons_self
    · rw [if_neg e] at h
      exact List.mem_cons_of_mem _ (mem_of_lk h)
theorem lk_none : ∀ {m : List (Str × α)} {l : Str}, lk m l = none ↔ ¬ l ∈ m.map (·.1)
  | [], l => by simp [lk]
  | p :: r, l => by
    have ih := lk_none (m := r) (l := l)
    unfold lk
    by_cases e : p.1 = l
    · simp [e]
    · rw [if_neg e, ih]
      simp only [List.map_cons, List.mem_cons]
      constructor
      · intro h z
        rcases z with z | z
        · exact e z.symm
        · exact h z
      · exact fun h z => h (.inr z)
end

/-! ### powers by letters -/
abbrev Ms := List (Str × Int)
def at0 (m : Ms) (l : Str) : Int := (lk m l).getD 0
theorem at0_nil (l : Str) : at0 [] l = 0 := rfl
theorem at0_put (m : Ms) (l j : Str) (v : Int) : at0 (put m l v) j = if j = l then v else at0 m j := by
  unfold at0
  rw [lk_put]
  by_cases e : j = l
  · rw [if_pos e, if_pos e]; rfl
  · rw [if_neg e, if_neg e]
/-- the sum of what stands at a letter, however often -/
def sumAt : Ms → Str → Int
  | [], _ => 0
  | p :: r, j => (if p.1 = j then p.2 else 0) + sumAt r j
theorem sumAt_append : ∀ (a b : Ms) (j : Str), sumAt (a ++ b) j = sumAt a j + sumAt b j
  | [], b, j => by simp [sumAt]
  | p :: r, b, j => by
    have ih := sumAt_append r b j
    show (if p.1 = j then p.2 else 0) + sumAt (r ++ b) j = (if p.1 = j then p.2 else 0) + sumAt r j + sumAt b j
    omega
theorem sumAt_one (l : Str) (n : Int) (j : Str) : sumAt [(l, n)] j = if l = j then n else 0 := by
  show (if l = j then n else 0) + 0 = _
  omega
theorem sumAt_no : ∀ {m : Ms} {j : Str}, ¬ j ∈ m.map (·.1) → sumAt m j = 0
  | [], _, _ => rfl
  | p :: r, j, h => by
    have h1 : ¬ p.1 = j := fun e => h (by rw [← e]; exact List.mem_cons_self)
    have h2 : ¬ j ∈ r.map (·.1) := fun e => h (List.mem_cons_of_mem _ e)
    show (if p.1 = j then p.2 else 0) + sumAt r j = 0
    rw [if_neg h1, sumAt_no h2]
    rfl
theorem sumAt_at0 : ∀ {m : Ms} (j : Str), (m.map (·.1)).Nodup → sumAt m j = at0 m j
  | [], _, _ => rfl
  | p :: r, j, h => by
    have h : (p.1 :: r.map (·.1)).Nodup := h
    obtain ⟨h1, h2⟩ := List.nodup_cons.mp h
    show (if p.1 = j then p.2 else 0) + sumAt r j = at0 (p :: r) j
    by_cases e : p.1 = j
    · rw [if_pos e, sumAt_no (by rw [← e]; exact h1)]
      unfold at0 lk
      rw [if_pos e]
      show p.2 + 0 = p.2
      omega
    · rw [if_neg e, sumAt_at0 j h2]
      have q : at0 (p :: r) j = at0 r j := by
        show (if p.1 = j then some p.2 else lk r j).getD 0 = _
        rw [if_neg e]
        rfl
      rw [q]
      omega
def scaled (m : Ms) (n : Int) : Ms := m.map fun p => (p.1, p.2 * n)
theorem sumAt_scaled : ∀ (m : Ms) (n : Int) (j : Str), sumAt (scaled m n) j = sumAt m j * n
  | [], n, j => by show (0 : Int) = 0 * n; omega
  | p :: r, n, j => by
    have ih := sumAt_scaled r n j
    show (if p.1 = j then p.2 * n else 0) + sumAt (scaled r n) j = ((if p.1 = j then p.2 else 0) + sumAt r j) * n
    rw [ih, Int.add_mul]
    by_cases e : p.1 = j
    · rw [if_pos e, if_pos e]
    · rw [if_neg e, if_neg e]; omega
theorem nodup_of_map {β γ : Type} {g : β → γ} {l : List β} (h : (l.map g).Nodup) : l.Nodup := (List.pairwise_map.mp h).imp fun q e => q (congrArg g e)
theorem at0_mem {m : Ms} {j : Str} (h : at0 m j ≠ 0) : (j, at0 m j) ∈ m := by
  unfold at0 at h ⊢
  cases e : lk m j with
  | none => rw [e] at h; exact absurd rfl h
  | some v => exact mem_of_lk e
theorem sumAt_mem {m : Ms} {j : Str} (h : sumAt m j ≠ 0) : j ∈ m.map (·.1) := Decidable.byContradiction fun q => h (sumAt_no q)

/-! ### the order of texts -/
abbrev sLt (a b : Str) : Prop := a.cps.toList < b.cps.toList
theorem sLt_irr (a : Str) : ¬ sLt a a := List.lt_irrefl _
theorem sLt_tr {a b c : Str} (h : sLt a b) (h2 : sLt b c) : sLt a c := List.lt_trans h h2
theorem str_ext {a b : Str} (h : a.cps.toList = b.cps.toList) : a = b := by
  cases a; cases b
  simp at h
  rw [h]
theorem sLt_tri {a b : Str} (h : ¬ sLt a b) (h2 : ¬ sLt b a) : a = b := str_ext (List.le_antisymm (List.not_lt.mp h2) (List.not_lt.mp h))

/-! ### the measures in their one form -/
def Ris (m : List (Str × Int)) : Prop := m.Pairwise fun p q => sLt p.1 q.1
structure Can (m : Ms) : Prop where
  ris : Ris m
  nz : ∀ p ∈ m, p.2 ≠ 0
theorem Ris.nodup {m : Ms} (h : Ris m) : (m.map (·.1)).Nodup := by
  refine List.pairwise_map.mpr (h.imp fun {a b} q => ?_)
  intro e
  rw [e] at q
  exact sLt_irr _ q
theorem ris_ext : ∀ {a b : Ms}, Ris a → Ris b → (∀ p, p ∈ a ↔ p ∈ b) → a = b
  | [], [], _, _, _ => rfl
  | [], p :: r, _, _, h => absurd ((h p).mpr List.mem_cons_self) (by simp)
  | p :: r, [], _, _, h => absurd ((h p).mp List.mem_cons_self) (by simp)
  | p :: r, q :: t, ha, hb, h => by
    obtain ⟨a1, a2⟩ := List.pairwise_cons.mp ha
    obtain ⟨b1, b2⟩ := List.pairwise_cons.mp hb
    have e : p = q := by
      rcases List.mem_cons.mp ((h p).mp List.mem_cons_self) with z | z
      · exact z
      · rcases List.mem_cons.mp ((h q).mpr List.mem_cons_self) with y | y
        · exact y.symm
        · exact absurd (sLt_tr (b1 p z) (a1 q y)) (sLt_irr _)
    subst e
    refine congrArg (p :: ·) (ris_ext a2 b2 fun x => ?_)
    constructor
    · intro hx
      rcases List.mem_cons.mp ((h x).mp (List.mem_cons_of_mem _ hx)) with z | z
      · exact absurd (z ▸ a1 x hx) (sLt_irr _)
      · exact z
    · intro hx
      rcases List.mem_cons.mp ((h x).mpr (List.mem_cons_of_mem _ hx)) with z | z
      · exact absurd (z ▸ b1 x hx) (sLt_irr _)
      · exact z
theorem Can.mem {m : Ms} (h : Can m) (l : Str) (n : Int) : (l, n) ∈ m ↔ n ≠ 0 ∧ at0 m l = n := by
  constructor
  · intro q
    refine ⟨h.nz _ q, ?_⟩
    unfold at0
    rw [lk_of_mem h.ris.nodup q]
    rfl
  · rintro ⟨a, b⟩
    rw [← b]
    exact at0_mem (by rw [b]; exact a)
theorem can_ext {a b : Ms} (ha : Can a) (hb : Can b) (h : ∀ j, at0 a j = at0 b j) : a = b :=
  ris_ext ha.ris hb.ris fun p => by
    rw [show p = (p.1, p.2) from rfl, ha.mem, hb.mem, h]
/-- what the program makes of a dict: its pairs that are not nought, in their order -/
theorem made_prog {d r : Ms} (hd : (d.map (·.1)).Nodup) (hr : Ris r) (hp : ∀ p, p ∈ r ↔ p ∈ d ∧ p.2 ≠ 0) : Can r ∧ ∀ j, at0 r j = at0 d j := by
  have hc : Can r := ⟨hr, fun p q => ((hp p).mp q).2⟩
  refine ⟨hc, fun j => ?_⟩
  by_cases e : at0 d j = 0
  · rw [e]
    refine Decidable.byContradiction fun z => ?_
    have q := (hp _).mp (at0_mem z)
    have q2 : at0 d j = at0 r j := by
      show (lk d j).getD 0 = _
      rw [lk_of_mem hd q.1]
      rfl
    rw [e] at q2
    exact z q2.symm
  · have q := (hp (j, at0 d j)).mpr ⟨at0_mem e, e⟩
    exact ((hc.mem j _).mp q).2
theorem can_nil : Can [] := ⟨List.Pairwise.nil, fun _ h => absurd h (by simp)⟩
/-- the law's reckoning of the same: sorted letters, then their numbers -/
def byKeys (d : Ms) (ks : List Str) : Ms := (ks.filter fun k => decide (at0 d k ≠ 0)).map fun k => (k, at0 d k)
theorem made_law {d : Ms} {ks : List Str} (hd : (d.map (·.1)).Nodup) (hk : ks.Perm (d.map (·.1))) (hs : ks.Pairwise fun a b => ¬ sLt b a) : Can (byKeys d ks) ∧ ∀ j, at0 (byKeys d ks) j = at0 d j := by
  have hn : ks.Nodup := hk.nodup_iff.mpr hd
  have hst : ks.Pairwise sLt := by
    refine (hs.and hn).imp ?_
    rintro a b ⟨h1, h2⟩
    refine Decidable.byContradiction fun h3 => h2 (sLt_tri h3 h1)
  refine made_prog hd ?_ fun p => ?_
  · unfold byKeys
    exact List.pairwise_map.mpr (hst.filter _)
  · unfold byKeys
    rw [List.mem_map]
    constructor
    · rintro ⟨k, q, e⟩
      obtain ⟨q1, q2⟩ := List.mem_filter.mp q
      have q3 : at0 d k ≠ 0 := of_decide_eq_true q2
      rw [← e]
      exact ⟨at0_mem q3, q3⟩
    · rintro ⟨a, b⟩
      have e : at0 d p.1 = p.2 := by
        show (lk d p.1).getD 0 = _
        rw [lk_of_mem hd a]
        rfl
      refine ⟨p.1, List.mem_filter.mpr ⟨hk.mem_iff.mpr (List.mem_map.mpr ⟨p, a, rfl⟩), decide_eq_true (by rw [e]; exact b)⟩, by rw [e]⟩

/-! ### bounds, letters -/
/-- a text of signs that there are -/
def Ok (z : Str) : Prop := ∀ c ∈ z.cps.toList, c < 1114112
/-- .. and not empty -/
def LtOk (z : Str) : Prop := z.cps.toList ≠ [] ∧ Ok z
theorem ok_app {a b : Str} (ha : Ok a) (hb : Ok b) : Ok (a ++ b) := fun c hc => by
  have hc : c ∈ (a.cps ++ b.cps).toList := hc
  rw [Array.toList_append] at hc
  rcases List.mem_append.mp hc with h | h
  · exact ha c h
  · exact hb c h
theorem ok_one {c : Nat} (h : c < 1114112) : Ok ⟨#[c]⟩ := fun x hx => by
  have : x = c := by simpa using hx
  rw [this]
  exact h
theorem ok_string (s : String) : Ok (Str.ofString s) := fun c hc => by
  rw [Str.ofString_eq_toList] at hc
  have hc : c ∈ s.toList.map Char.toNat := by simpa using hc
  obtain ⟨d, _, e⟩ := List.mem_map.mp hc
  have v : d.val.toNat < 0xd800 ∨ (0xdfff < d.val.toNat ∧ d.val.toNat < 0x110000) := d.valid
  have e2 : d.val.toNat = c := e
  omega
theorem ok_fold (c : Array Nat) (hc : ∀ x ∈ c.toList, x < 1114112) : ∀ (k : Nat) (acc : Array Nat), (∀ x ∈ acc.toList, x < 1114112) → ∀ x ∈ ((List.replicate k c).foldl (· ++ ·) acc).toList, x < 1114112
  | 0, acc, h => h
  | k + 1, acc, h => by
    rw [List.replicate_succ, List.foldl_cons]
    refine ok_fold c hc k _ fun x hx => ?_
    rw [Array.toList_append] at hx
    rcases List.mem_append.mp hx with q | q
    · exact h x q
    · exact hc x q
/-- a measure as the law hands it over: in its form, letters that are not empty, numbers below 2 ^ b -/
structure Good (b : Nat) (m : Ms) : Prop where
  can : Can m
  ne : ∀ p ∈ m, LtOk p.1
  lt : ∀ p ∈ m, p.2.natAbs < 2 ^ b
  few : m.length ≤ 1000
theorem Good.at0_lt {b : Nat} {m : Ms} (h : Good b m) (j : Str) : (at0 m j).natAbs < 2 ^ b := by
  by_cases e : at0 m j = 0
  · rw [e]; exact Nat.two_pow_pos b
  · exact h.lt _ (at0_mem e)
theorem good_nil (b : Nat) : Good b [] := ⟨can_nil, fun _ h => absurd h (by simp), fun _ h => absurd h (by simp), by simp⟩
theorem nil_lt {a : Str} (h : a.cps.toList ≠ []) : sLt ⟨#[]⟩ a := by
  show ([] : List Nat) < a.cps.toList
  cases e : a.cps.toList with
  | nil => exact absurd e h
  | cons x r => exact List.nil_lt_cons x r
end MK


set_option Elab.async false
set_option linter.all false
set_option maxRecDepth 100000
set_option maxHeartbeats 4000000
/-! Rules that the layer has not: a text times a number; sorted of texts and of pairs (text, number), any number of them. -/
namespace SrtO
open PySem PyProof.Rows Srt
section
variable {prog : Program} {w : World} {A : Around} {E : Value → Shared → Prop} {s : Shared}
def lexS (p q : PySem.Str × Int) : Bool := if p.1 = q.1 then decide (p.2 < q.2) else decide (p.1.cps.toList < q.1.cps.toList)
theorem lexS_no {p q : PySem.Str × Int} : lexS p q = false ↔ ¬ (MK.sLt p.1 q.1 ∨ (p.1 = q.1 ∧ p.2 < q.2)) := by
  unfold lexS
  by_cases e : p.1 = q.1
  · rw [if_pos e]
    constructor
    · intro h z
      rcases z with z | z
      · rw [e] at z; exact MK.sLt_irr _ z
      · exact of_decide_eq_false h z.2
    · intro h
      exact decide_eq_false fun z => h (.inr ⟨e, z⟩)
  · rw [if_neg e]
    constructor
    · intro h z
      rcases z with z | z
      · exact of_decide_eq_false h z
      · exact e z.1
    · intro h
      exact decide_eq_false fun z => h (.inl z)
theorem lexS_yes {p q : PySem.Str × Int} : lexS p q = true ↔ (MK.sLt p.1 q.1 ∨ (p.1 = q.1 ∧ p.2 < q.2)) := by
  constructor
  · intro h
    refine Decidable.byContradiction fun z => ?_
    rw [lexS_no.mpr z] at h
    cases h
  · intro h
    cases e : lexS p q with
    | true => rfl
    | false => exact absurd h (lexS_no.mp e)
theorem swo_lexS : Swo lexS := by
  refine ⟨fun x y h => ?_, fun x y z h1 h2 => ?_⟩
  · have a := lexS_yes.mp h
    refine lexS_no.mpr fun b => ?_
    rcases a with a | a
    · rcases b with b | b
      · exact MK.sLt_irr _ (MK.sLt_tr a b)
      · rw [b.1] at a; exact MK.sLt_irr _ a
    · rcases b with b | b
      · rw [a.1] at b; exact MK.sLt_irr _ b
      · have := a.2; have := b.2; omega
  · have a := lexS_no.mp h1
    have b := lexS_no.mp h2
    refine lexS_no.mpr fun c => ?_
    have tri : MK.sLt x.1 y.1 ∨ x.1 = y.1 := by
      by_cases h : MK.sLt x.1 y.1
      · exact .inl h
      · exact .inr (MK.sLt_tri h fun q => a (.inl q))
    rcases tri with t | t
    · rcases c with c | c
      · exact b (.inl (MK.sLt_tr c t))
      · rw [← c.1] at t; exact b (.inl t)
    · rcases c with c | c
      · rw [t] at c; exact b (.inl c)
      · have h3 : ¬ y.2 < x.2 := fun q => a (.inr ⟨t.symm, q⟩)
        have h4 : ¬ z.2 < y.2 := fun q => b (.inr ⟨c.1.trans t, q⟩)
        have := c.2
        omega
theorem swo_lexSk (k : Value → PySem.Str × Int) : Swo fun v u => lexS (k v) (k u) := ⟨fun x y => swo_lexS.asym _ _, fun x y z => swo_lexS.tr _ _ _⟩
/-- a tuple (text, number) -/
def IsSP (h : Heap) (v : Value) (x : PySem.Str) (y : Int) : Prop := ∃ a o t u n, v = .ref a ∧ h.get? a = some o ∧ o.cls = .type "tuple" ∧ o.data = .seq #[.str x t, .int y u] n
theorem IsSP.keeps {h h' : Heap} {v : Value} {x : PySem.Str} {y : Int} (p : IsSP h v x y) (k : ∀ b o, h.get? b = some o → o.cls = .type "tuple" → h'.get? b = some o) : IsSP h' v x y := by
  obtain ⟨a, o, t, u, n, e, ho, hc, hd⟩ := p
  exact ⟨a, o, t, u, n, e, k _ _ ho hc, hc, hd⟩
theorem firstsS_of {h : Heap} : ∀ {vs : List Value}, (∀ v ∈ vs, ∃ x y, IsSP h v x y) → ∃ fs : List Value, PySem.W.KatTups h vs fs ∧ fs.length = vs.length ∧ ∀ f ∈ fs, ∃ x t, f = Value.str x t
  | [], _ => ⟨[], PySem.W.KatTups.nil, rfl, fun _ hm => by simp at hm⟩
  | v :: vs, hp => by
    obtain ⟨fs, h1, h2, h3⟩ := firstsS_of (vs := vs) fun v' hm => hp v' (List.mem_cons_of_mem _ hm)
    obtain ⟨x, y, a, o, t, u, n, e, ho, hc, hd⟩ := hp v (List.mem_cons_self ..)
    subst e
    refine ⟨.str x t :: fs, PySem.W.KatTups.cons ho hc hd rfl h1, by rw [List.length_cons, List.length_cons, h2], fun f hm => ?_⟩
    rcases List.mem_cons.mp hm with rfl | hm
    · exact ⟨x, t, rfl⟩
    · exact h3 f hm
theorem pairS_cmp {vs : List Value} {k : Value → PySem.Str × Int} (hp : ∀ v ∈ vs, IsSP s.heap v (k v).1 (k v).2) : Cmp prog w A s (tuples' true) (fun p => p.1 ∈ vs) (lt2 fun v u => lexS (k v) (k u)) := by
  intro p q hm hm'
  have h1 := hp _ hm
  have h2 := hp _ hm'
  show wpAny (model prog w) A (keyLt' (tuples' true) p.1 q.1) (fun r s' => s' = s ∧ r = lexS (k p.1) (k q.1)) (fun _ _ => False) s
  unfold lexS
  generalize (k p.1).1 = x at h1 ⊢
  generalize (k p.1).2 = y at h1 ⊢
  generalize (k q.1).1 = x' at h2 ⊢
  generalize (k q.1).2 = y' at h2 ⊢
  obtain ⟨a, o, t, u, n, e, ho, hc, hd⟩ := h1
  obtain ⟨a', o', t', u', n', e', ho', hc', hd'⟩ := h2
  rw [e, e']
  refine PySem.W.kat_lt ho hd ho' hd' ?_
  show PySem.W.KatLex prog w A true (decide (2 < 2)) _ [(.str x t, .str x' t'), (.int y u, .int y' u')] 0 s
  refine PySem.W.kat_cons (SeqAt.EqAt.str_str x t x' t' prog w _ _ ?_)
  refine PySem.W.kat_go (fun e1 => ?_) (fun e1 => ?_)
  · have ex : x = x' := by simpa using e1
    refine PySem.W.kat_yes (PySem.W.kat_cons (SeqAt.EqAt.int_int y u y' u' prog w _ _ ?_))
    refine PySem.W.kat_go (fun e2 => ?_) (fun e2 => ?_)
    · have ey : y = y' := by simpa using e2
      have e3 : (if x = x' then decide (y < y') else decide (x.cps.toList < x'.cps.toList)) = false := by
        rw [if_pos ex, ey]
        exact decide_eq_false (Int.lt_irrefl _)
      exact PySem.W.kat_yes (PySem.W.kat_nil ⟨rfl, e3.symm⟩)
    · have e3 : (if x = x' then decide (y < y') else decide (x.cps.toList < x'.cps.toList)) = decide (y < y') := if_pos ex
      refine PySem.W.kat_no (PySem.W.kat_one _ _ (PyProof.Rows.lt_int ?_))
      exact (show s = s ∧ decide (y < y') = (if x = x' then decide (y < y') else decide (x.cps.toList < x'.cps.toList)) from ⟨rfl, e3.symm⟩)
  · have ex : ¬ x = x' := by simpa using e1
    have e3 : (if x = x' then decide (y < y') else decide (x.cps.toList < x'.cps.toList)) = decide (x.cps.toList < x'.cps.toList) := if_neg ex
    exact PySem.W.kat_no (oneLt_str ⟨rfl, e3.symm⟩)
theorem pairsS_sortableO {a : Addr} {vs : List Value} {k : Value → PySem.Str × Int} (h0 : 0 < vs.length) (hp : ∀ v ∈ vs, IsSP s.heap v (k v).1 (k v).2) (ha : ∀ o, s.heap.get? a = some o → o.cls ≠ .type "tuple") : SortableO prog w A s a vs fun v u => lexS (k v) (k u) := by
  intro h' keep
  have hp' : ∀ v ∈ vs, IsSP h' v (k v).1 (k v).2 := fun v hm => (hp v hm).keeps fun b o e c => keep b o (fun z => by subst z; exact ha o e c) e
  obtain ⟨fs, h1, h2, h3⟩ := firstsS_of fun v hm => ⟨_, _, hp' v hm⟩
  refine ⟨tuples' true, fun Q E hq => ?_, pairS_cmp hp'⟩
  refine PySem.W.kat_kind (T := .type "str") h1 (by omega) (fun f hm => ?_) (by rfl) ?_
  · obtain ⟨x, t, rfl⟩ := h3 f hm
    exact PySem.W.Looks.now
  · have e : (Value.type "str" != Value.type "tuple") = true := by first | decide +kernel | rfl | decide
    rw [e]
    exact hq
/-- sorted(l) of pairs (text, number), any number of them: sorted by k, stable -/
theorem sorted_pairsS {l : Addr} {vs : List Value} {k : Value → PySem.Str × Int} {Q : Value → Shared → Prop} (hl : s.heap.IsList l vs.toArray) (hz : vs.length ≤ sizeLine) (hp : ∀ v ∈ vs, IsSP s.heap v (k v).1 (k v).2)
    (h : ∀ (h' : Heap) (d : Addr) (out : List Value), Srtd (fun v u => lexS (k v) (k u)) out → Stb (fun v u => lexS (k v) (k u)) out vs → (∀ b o, s.heap.get? b = some o → h'.get? b = some o) → s.heap.objs.size ≤ d → (∃ n, h'.get? d = some (seqObj "list" out.toArray n)) → Q (.ref d) { s with heap := h' }) :
    wpAny (model prog w) A (call (.builtin "sorted") [.ref l]) Q E s := by
  refine sorted_ord (swo_lexSk k) hl hz (fun h2 h₁ a ha kk => ?_) fun out hs hb => ?_
  · refine pairsS_sortableO (s := { s with heap := h₁ }) (by omega) (fun v hm => (hp v hm).keeps fun b o e _ => (kk b o e).2) fun o e => ?_
    have e' : some o = some (seqObj "list" vs.toArray 0) := e.symm.trans ha
    cases e'
    intro c
    exact absurd (Value.type.inj c) (by decide)
  · exact h _ _ out hs hb (fun b o e => sortedAll_old e) (Nat.le_succ _) (sortedAll_at s.heap vs out.toArray)
end
end SrtO

namespace L2
open PySem PySem.Spec PyProof.Rows
/-- sorted(xs), xs a list of pairs (text, number), texts that differ: a new list of the same items, their texts rising -/
def rSortedSP (K : PySem.W.Frag) : List V → Hp → VK → Prop := fun vs H Q => ∃ (a : Addr) (xs : List V) (k : V → Str × Int), vs = [V.ref a] ∧ SqL K H a xs ∧ (∀ x ∈ xs, ∃ t, x = V.ref t ∧ H t = some (.tup [.str (k x).1, .int (k x).2])) ∧
  ∀ ys p, ys.Perm xs → ys.Pairwise (fun x y => SrtO.lexS (k y) (k x) = false) → H p = none → Q (.ref p) (upd H p (.lst ys))
section
variable {X : Cx}
theorem cr_sortedSP : CallR X (.builtin "sorted") (rSortedSP X.K) := by
  intro pins s σ H vs us Q I r h
  obtain ⟨a, xs, k, rfl, hs, hx, q⟩ := h
  obtain ⟨its, rv, hl, hz⟩ := I.list hs
  obtain ⟨u, rfl, ru⟩ := vals1 r
  obtain rfl : u = Value.ref a := ru
  obtain ⟨e1, e2⟩ := refs_back rv fun x m => by
    obtain ⟨t, e, _⟩ := hx x m
    exact ⟨t, e⟩
  refine SrtO.sorted_pairsS (k := fun u => k (backV u)) hl.isList (by rw [← rv.length]; exact hz) (fun v hv => ?_) fun h' d out h1 h2 kp hd hn => ?_
  · obtain ⟨t, rfl⟩ := e2 v hv
    have hm : V.ref t ∈ xs := by rw [e1]; exact List.mem_map.mpr ⟨_, hv, rfl⟩
    obtain ⟨t', e, ht⟩ := hx _ hm
    cases e
    obtain ⟨_, its2, r2, o, ho, hc, n, hd⟩ := I.hok _ _ ht
    obtain ⟨u1, u2, rfl, ri, rj⟩ := vals2 r2
    obtain ⟨t1, rfl⟩ := ri
    obtain ⟨t2, rfl⟩ := rj
    exact ⟨t, o, t1, t2, n, rfl, ho, hc, hd⟩
  · have h3 : ∀ u ∈ out, ∃ a, u = Value.ref a := fun u hu => e2 u (h2.perm.mem_iff.mp hu)
    obtain ⟨n, hn⟩ := hn
    have hb : (out.map backV).Perm xs := by
      rw [e1]
      exact h2.perm.map backV
    refine ⟨.ref d, upd H d (.lst (out.map backV)), I.laid (t' := s.toks) kp hd ⟨?_, out, n, vals_back h3, hn⟩, rfl, q _ d hb (List.pairwise_map.mpr h1) (I.hok.fresh hd)⟩
    rw [hb.length_eq]
    exact hz
/-- sorted(d), d a dict whose keys are texts, any number of them -/
theorem call_sortedDA (hcalm : X.calm = true) : CallR X (.builtin "sorted") (fun xs H Q => ∃ (a : Addr) (kvs : List (Key × V)) (ks : List Str), xs = [.ref a] ∧ Rd H a (.dK kvs) ∧ kvs.map (·.1) = ks.map Sum.inr ∧
    ∀ ys p, ys.Perm ks → sortedS ys = true → H p = none → Q (.ref p) (upd H p (.lst (ys.map V.str)))) := by
  intro pins s σ H xs us Q I r q
  obtain ⟨a, kvs, ks, ex, hd, hks, q⟩ := q
  subst ex
  obtain ⟨u, eu, rx⟩ := vals1 r
  subst eu
  cases rx
  obtain ⟨z, lo, vs, rel, dd⟩ := dk_rd I.hok hd
  obtain ⟨ep, hat⟩ := dd.dictAt
  have hkeys : vs.map (·.1) = ks.map Sum.inr := rel.keys.symm.trans hks
  have hl : vs.length = ks.length := by
    have e := congrArg List.length hkeys
    rw [List.length_map, List.length_map] at e
    exact e
  have h16 : vs.length ≤ sizeLine := by rw [← rel.length]; exact z
  have hks16 : ks.length ≤ sizeLine := by rw [← hl]; exact h16
  refine Calls.call_function_entry PyProof.Rows.kind_sorted PyProof.Rows.plain_sorted PyProof.Rows.entry_sorted (PyProof.Rows.args_sorted1 _) ?_
  unfold Builtin.«sorted»
  refine wpAny_bind (m := checkCount "sorted" 1 1 _) (wpAny_pure ?_)
  refine wpAny_bind (PySem.W.kdu_collect (A := X.A.in1) (PySem.W.kdl_dict (knd := mixKind X.prog X.w) (kvs := vs) (ep := ep) lo) (I.ok.hd hcalm) hat h16 fun h' tk acc hk hacc => ?_)
  have hal : acc.toList.length = ks.length := by rw [Array.length_toList, hacc.1, hl]
  have hS : StrsAre acc.toList ks := strs_at hal fun j v e => by
    obtain ⟨k, x, e1, e2⟩ := hacc.2 j v (by rw [← Array.getElem?_toList]; exact e)
    have e3 : (vs.map (·.1))[j]? = some k := by rw [List.getElem?_map, e1]; all_goals rfl
    rw [hkeys, List.getElem?_map] at e3
    cases e4 : ks[j]? with
    | none => rw [e4] at e3; cases e3
    | some y =>
      rw [e4] at e3
      have e5 : Sum.inr y = k := Option.some.inj e3
      subst e5
      obtain ⟨t, ev⟩ := Value.isStrOf_shape (x := y) (v := v) e2
      exact ⟨y, t, rfl, ev⟩
  have I1 : Inv X pins σ H { s with heap := h', toks := tk } := I.kept hk
  refine wpAny_bind (wpAny_newList ?_ (by rw [hal]; exact hks16))
  have hoL : (h'.push (seqObj "list" acc.toList.toArray 0)).get? h'.objs.size = some (seqObj "list" acc.toList.toArray 0) := Heap.get?_push_size _ rfl
  show wpAny _ _ _ _ _ { s with heap := h'.push (seqObj "list" acc.toList.toArray 0), toks := tk }
  refine wpAny_bind (wpAny_holding (wpAny_call_entry PyProof.Rows.slot_list_sort ⟨_, hoL, rfl⟩ PyProof.Rows.entry_list_sort
    (list_sort_treeKAny strKind_oneLt (s := { s with heap := h'.push (seqObj "list" acc.toList.toArray 0), toks := tk }) hoL hS.keysOf (fun v₁ v₂ rest e => keyKind_strs (by rw [← e]; exact hS)) (by rw [hal]; exact hks16) fun st' hp hs => ⟨_, rfl, ?_⟩)
    (PyProof.Rows.args_list_sort _)))
  obtain ⟨ys, g1, g2, g3⟩ := sorted_out_str hS hp hs
  obtain ⟨e', he'⟩ := PyProof.Rows.sortedHeap_at (vs := acc.toList) (out := (arrOf st').map (·.2)) hoL
  have hlen : (ys.map V.str).length ≤ sizeLine := by
    rw [List.length_map, g2.length_eq]
    exact hks16
  refine wpAny_pure ⟨_, rfl, .ref h'.objs.size, upd H h'.objs.size (.lst (ys.map V.str)), I1.laid (t' := tk) (fun b u e => ?_) (Nat.le_refl _)
    (show ObjOk X.prog X.w _ _ _ (.lst (ys.map V.str)) from ⟨hlen, ((arrOf st').map (·.2)).toList, e', vals_of_strs g1, by rw [Array.toArray_toList]; exact he'⟩), rfl, q ys _ g2 g3 (I1.hok.fresh (Nat.le_refl _))⟩
  have hb : b < h'.objs.size := Heap.lt_size e
  rw [PyProof.Rows.sortedHeap_old (Nat.ne_of_lt hb) (by rw [size_push']; exact Nat.lt_succ_of_lt hb)]
  exact Heap.get?_push_of_some _ e
/-- a text, n times -/
def strRep (x : Str) (n : Int) : Str := if n < 1 then Str.empty else if (n == 1 || x.length == 0) = true then x else ⟨(List.replicate n.toNat x.cps).foldl (· ++ ·) #[]⟩
theorem op_mul_str : OpR X (binaryOp .Mult) (fun x y H Q => ∃ (z : Str) (n : Int), x = .str z ∧ y = .int n ∧ (z.length ≤ 1000 ∧ n ≤ 1000 ∧ -1000 ≤ n) ∧ Q (.str (strRep z n)) H) := by
  intro pins s σ H x y v u Q I rx ry h
  obtain ⟨z, n, rfl, rfl, ⟨hz, h1, h2⟩, q⟩ := h
  obtain ⟨t, rfl⟩ := rx
  obtain ⟨t', rfl⟩ := ry
  have hm : ¬ n < 1 → z.length * n.toNat ≤ 1000 * 1000 := fun h => Nat.mul_le_mul hz (by omega)
  have hl : ¬ n < 1 → (n == 1 || z.length == 0) = false → Builtin.Str.tooLong (z.length * n.toNat) = false := fun h _ => by
    have := hm h
    show decide (z.length * n.toNat > sizeLine) = false
    rw [sizeLine_eq]
    exact decide_eq_false (by omega)
  refine P.mul_str ?_ (fun h _ => ?_) hl ?_
  · rw [decide_eq_false (by omega), decide_eq_false (by omega)]
    rfl
  · have e : (1 : Int) ≤ n := by omega
    have h3 : (1000 : Int) ≤ (2 ^ 63 - 1) / n := (Int.le_ediv_iff_mul_le (by omega)).mpr (by omega)
    omega
  · unfold strRep at q
    by_cases c : n < 1
    · rw [if_pos c] at q ⊢
      exact ⟨by decide, .str Str.empty, H, I.tok _, ⟨_, rfl⟩, q⟩
    · rw [if_neg c] at q ⊢
      by_cases d : (n == 1 || z.length == 0) = true
      · rw [if_pos d] at q ⊢
        exact ⟨.str z, H, I, ⟨_, rfl⟩, q⟩
      · rw [if_neg d] at q ⊢
        exact ⟨fits_reps (hl c (by simpa using d)), .str _, H, I.tok _, ⟨_, rfl⟩, q⟩
end
theorem sLe_tr {a b c : Str} (h : ¬ MK.sLt b a) (h2 : ¬ MK.sLt c b) : ¬ MK.sLt c a := fun q => by
  by_cases e : MK.sLt b c
  · exact h (MK.sLt_tr e q)
  · rw [MK.sLt_tri e h2] at h
    exact h q
theorem risingS_all : ∀ {r : List Str} {p : Str}, risingS p r = true → (∀ x ∈ r, ¬ MK.sLt x p) ∧ r.Pairwise fun a b => ¬ MK.sLt b a
  | [], p, _ => ⟨fun x h => absurd h (by simp), List.Pairwise.nil⟩
  | x :: r, p, h => by
    have h : (!ltCps x.cps.toList p.cps.toList && risingS x r) = true := h
    rw [Bool.and_eq_true] at h
    obtain ⟨h1, h2⟩ := h
    have h3 : ¬ MK.sLt x p := by
      rw [ltCps_eq] at h1
      simpa using h1
    obtain ⟨i1, i2⟩ := risingS_all h2
    refine ⟨fun y hy => ?_, List.pairwise_cons.mpr ⟨fun y hy => i1 y hy, i2⟩⟩
    rcases List.mem_cons.mp hy with e | hy
    · rw [e]; exact h3
    · exact sLe_tr h3 (i1 y hy)
theorem sortedS_pw : ∀ {ys : List Str}, sortedS ys = true → ys.Pairwise fun a b => ¬ MK.sLt b a
  | [], _ => List.Pairwise.nil
  | x :: r, h => by
    obtain ⟨i1, i2⟩ := risingS_all (p := x) (r := r) h
    exact List.pairwise_cons.mpr ⟨i1, i2⟩
/-- [.. for k, v in d.items() ..], d locked: by a word of the turn's number and the heap -/
theorem lc_items {d : Addr} {od : Obj} {kvs : List (Key × V)} {g : TG} {tt : TT} {te : TE} {vs : List Nat} {σ : L2.St} {H1 : Hp} {D : Addr} {Qd : Hp → Prop} (Pv : Nat → Hp → Prop) (h0 : Pv 0 (upd H1 D (.lst [])))
    (hl : ∀ i H, i ≤ kvs.length → Pv i H → H d = some (.frz od (.dK kvs)))
    (hs : ∀ i k v T H, kvs[i]? = some (k, v) → Pv i H → H T = none → g (.ref T) (wipe σ vs) (upd H T (.tup [kV k, v])) fun σ2 H2 => wipe σ2 vs = wipe σ vs ∧ tt σ2 H2 fun b H3 =>
      if b = true then te σ2 H3 fun y H4 => ∃ acc, H4 D = some (.lst acc) ∧ acc.length < sizeLine ∧ Pv (i + 1) (upd H4 D (.lst (acc ++ [y]))) else Pv (i + 1) H3)
    (hd : ∀ H, Pv kvs.length H → Qd H) :
    ∃ W : Nat → Nat → Hp → Prop, (∃ m, W 0 m (upd H1 D (.lst []))) ∧ ∀ i m H, W i m H →
      ((Iti d od kvs).stop i H ∧ Qd H) ∨ ((Iti d od kvs).go i H ∧ ∃ Nx : Hp → Prop, (∀ H', Nx H' → ∃ m', m' < m ∧ W (i + 1) m' H') ∧ ∀ x H', (Iti d od kvs).yld i H x H' → g x (wipe σ vs) H' fun σ2 H2 => wipe σ2 vs = wipe σ vs ∧ tt σ2 H2 fun b H3 =>
        if b = true then te σ2 H3 fun y H4 => ∃ acc, H4 D = some (.lst acc) ∧ acc.length < sizeLine ∧ Nx (upd H4 D (.lst (acc ++ [y]))) else Nx H3) := by
  refine ⟨fun i m H => m = kvs.length - i ∧ i ≤ kvs.length ∧ Pv i H, ⟨kvs.length, by simp, Nat.zero_le _, h0⟩, ?_⟩
  intro i m H ⟨e, hi, p⟩
  have q := hl i H hi p
  by_cases hlt : i < kvs.length
  · refine .inr ⟨⟨q, hlt⟩, Pv (i + 1), fun H' p' => ⟨kvs.length - (i + 1), by omega, rfl, hlt, p'⟩, fun x H' y => ?_⟩
    obtain ⟨T, k, v, hk, ex, hT, eH⟩ := y
    rw [ex, eH]
    exact hs i k v T H hk p hT
  · have e2 : i = kvs.length := by omega
    rw [e2] at p
    exact .inl ⟨⟨q, by omega⟩, hd H p⟩
/-- two dicts of the same pairs, their values the very same objects -/
theorem hits_refs {A : Around} {s : Shared} {ls : List (Key × V)} {vb : List (Key × Value)} (rb : KV ls vb) {ks : List (Key × V)} {va : List (Key × Value)} (ra : KV ks va) : (∀ p ∈ ks, ∃ c, p.2 = .ref c ∧ valV ls p.1 = some (.ref c)) → PySem.W.KeqHits A s vb va true := by
  unfold KV at ra
  induction ra with
  | nil => exact fun _ => .nil
  | @cons p q ps qs h t k =>
    intro hp
    obtain ⟨h1, h2⟩ := h
    obtain ⟨c, ec, e⟩ := hp p List.mem_cons_self
    have rr : RelO (some (.ref c)) (valueAt vb p.1) := by
      rw [← e]
      exact rb.val p.1
    obtain ⟨y, hy, ry⟩ := rr.some_of
    obtain ⟨key, v⟩ := q
    have h1' : p.1 = key := h1
    rw [h1'] at hy
    rw [ec] at h2
    have e1 : v = Value.ref c := h2
    have e2 : y = Value.ref c := ry
    subst e1
    subst e2
    show PySem.W.KeqHits A s vb ((key, Value.ref c) :: qs) (true && true)
    exact .hit hy (SeqAt.EqAt.same _) (k fun p' hm => hp p' (List.mem_cons_of_mem _ hm))
theorem op_ne_dictRef {X : Cx} (hu : X.A.units < cLine) : OpR X (compareOp .NotEq) (fun x y H Q => ∃ a b ks, x = .ref a ∧ y = .ref b ∧ H a = some (.dK ks) ∧ H b = some (.dK ks) ∧ (∀ p ∈ ks, ∃ c, p.2 = .ref c ∧ valV ks p.1 = some (.ref c)) ∧ Q (.bl false) H) := by
  intro pins s σ H x y v u Q I rx ry h
  obtain ⟨a, b, ks, rfl, rfl, ea, eb, hp, q⟩ := h
  obtain rfl : v = Value.ref a := rx
  obtain rfl : u = Value.ref b := ry
  obtain ⟨_, ya, va, ra, da⟩ := (show ObjOk X.prog X.w H s.heap a (.dK ks) from I.hok a _ ea)
  obtain ⟨_, yb, vb, rb, db⟩ := (show ObjOk X.prog X.w H s.heap b (.dK ks) from I.hok b _ eb)
  have hl : va.length = vb.length := by rw [← ra.length, ← rb.length]
  refine PySem.W.keq_ne (knd := mixKind X.prog X.w) (r := true) ya yb da db hu (fun _ => hits_refs rb ra hp) ?_
  rw [show (!(va.length == vb.length && true)) = false by simp [hl]]
  exact ⟨.bl false, H, I, rfl, q⟩
end L2


set_option Elab.async false
set_option linter.all false
set_option maxRecDepth 100000
set_option maxHeartbeats 4000000
namespace MK
open PySem PySem.Spec PyProof.Rows L2
/-! ### measures and dicts as they stand in memory -/
/-- a dict whose keys are texts -/
def encG {α : Type} (g : α → V) (m : List (Str × α)) : List (L2.Key × V) := m.map fun p => (Sum.inr p.1, g p.2)
abbrev enc (m : Ms) : List (L2.Key × V) := encG V.int m
theorem encG_val {α : Type} (g : α → V) : ∀ (m : List (Str × α)) (l : Str), valV (encG g m) (Sum.inr l : L2.Key) = (lk m l).map g
  | [], l => rfl
  | p :: r, l => by
    show valV ((Sum.inr p.1, g p.2) :: encG g r) _ = _
    by_cases e : p.1 = l
    · rw [valV_pos (by rw [e])]
      unfold lk
      rw [if_pos e]
      rfl
    · rw [valV_neg (fun z => e (Sum.inr.inj z)), encG_val g r l]
      rw [show lk (p :: r) l = lk r l from if_neg e]
theorem encG_any {α : Type} (g : α → V) (m : List (Str × α)) (l : Str) : ((encG g m).any fun kv => decide (kv.1 = (Sum.inr l : L2.Key))) = (lk m l).isSome := by
  rw [valV_any, encG_val]
  cases lk m l <;> rfl
theorem encG_map_no {α : Type} (g : α → V) (l : Str) (y : V) : ∀ m : List (Str × α), lk m l = none → (encG g m).map (fun kv => if kv.1 = (Sum.inr l : L2.Key) then (kv.1, y) else kv) = encG g m
  | [], _ => rfl
  | p :: r, h => by
    have e : ¬ p.1 = l := fun z => by
      unfold lk at h
      rw [if_pos z] at h
      cases h
    have h2 : lk r l = none := by
      unfold lk at h
      rw [if_neg e] at h
      exact h
    have ih := encG_map_no g l y r h2
    show (if (Sum.inr p.1 : L2.Key) = Sum.inr l then _ else _) :: List.map _ (encG g r) = _
    rw [if_neg (fun z => e (Sum.inr.inj z)), ih]
    rfl
theorem encG_put {α : Type} (g : α → V) (l : Str) (v : α) : ∀ m : List (Str × α), (m.map (·.1)).Nodup → putK (encG g m) (Sum.inr l : L2.Key) (g v) = encG g (put m l v)
  | [], _ => rfl
  | p :: r, hn => by
    have hn : (p.1 :: r.map (·.1)).Nodup := hn
    obtain ⟨h1, h2⟩ := List.nodup_cons.mp hn
    have ih := encG_put g l v r h2
    unfold putK at ih ⊢
    rw [encG_any] at ih ⊢
    by_cases e : p.1 = l
    · have hs : (lk (p :: r) l).isSome = true := by
        unfold lk
        rw [if_pos e]
        rfl
      rw [if_pos hs]
      have hno : lk r l = none := lk_none.mpr (by rw [← e]; exact h1)
      show (if (Sum.inr p.1 : L2.Key) = Sum.inr l then _ else _) :: List.map _ (encG g r) = _
      rw [if_pos (by rw [e]), encG_map_no g l (g v) r hno]
      show _ = encG g (put (p :: r) l v)
      unfold put
      rw [if_pos e]
      rfl
    · have hl : lk (p :: r) l = lk r l := if_neg e
      rw [hl]
      have hp : put (p :: r) l v = p :: put r l v := if_neg e
      rw [hp]
      by_cases hs : (lk r l).isSome = true
      · rw [if_pos hs] at ih ⊢
        show (if (Sum.inr p.1 : L2.Key) = Sum.inr l then _ else _) :: List.map _ (encG g r) = _
        rw [if_neg (fun z => e (Sum.inr.inj z)), ih]
        rfl
      · rw [if_neg hs] at ih ⊢
        show (Sum.inr p.1, g p.2) :: (encG g r ++ _) = _
        rw [ih]
        rfl
theorem encG_len {α : Type} (g : α → V) (m : List (Str × α)) : (encG g m).length = m.length := List.length_map _
theorem encG_keys {α : Type} (g : α → V) (m : List (Str × α)) : (encG g m).map (·.1) = (m.map (·.1)).map Sum.inr := by
  unfold encG
  rw [List.map_map, List.map_map]
  rfl
/-- at t the pair p -/
def PrAt (H : Hp) (t : Addr) (p : Str × Int) : Prop := H t = some (.tup [.str p.1, .int p.2])
/-- at b the measure m -/
def MsAt (H : Hp) (b : Addr) (m : Ms) : Prop := ∃ ts : List Addr, H b = some (.tup (ts.map V.ref)) ∧ Paired (PrAt H) ts m
theorem MsAt.same {H H' : Hp} {b : Addr} {m : Ms} (s : Same H H') (h : MsAt H b m) : MsAt H' b m := by
  obtain ⟨ts, e, p⟩ := h
  exact ⟨ts, s _ _ e, Paired.mono (fun t q z => s _ _ z) p⟩
theorem paired_ix {α β : Type} {G : α → β → Prop} : ∀ {l : List α} {m : List β} {i : Nat} {a : α}, Paired G l m → l[i]? = some a → ∃ b, m[i]? = some b ∧ G a b
  | _, _, _, _, .nil, e => by simp at e
  | _, _, 0, _, .cons r _, e => by
    simp at e
    subst e
    exact ⟨_, rfl, r⟩
  | _, _, i + 1, _, .cons _ t, e => by
    obtain ⟨b, h1, h2⟩ := paired_ix t (by simpa using e)
    exact ⟨b, by simpa using h1, h2⟩
theorem MsAt.dp {K : PySem.W.Frag} {H : Hp} {b : Addr} {m : Ms} (h : MsAt H b m) : Dp K H (.ref b) (.tuple (m.map fun p => .tuple [.str p.1, .int p.2])) := by
  obtain ⟨ts, e, p⟩ := h
  refine .tup (SqT.of e) ?_
  clear e
  induction p with
  | nil => exact .nil
  | @cons t q _ _ r _ ih => exact .cons (.tup (SqT.of r) (.cons (.str _) (.cons (.int _) .nil))) ih
theorem take_more {α : Type} : ∀ {l : List α} {i : Nat} {x : α}, l[i]? = some x → l.take (i + 1) = l.take i ++ [x] := fun {l i x} h => by
  rw [List.take_add_one, h]
  rfl
theorem byKeys_yes {m : Ms} {ys : List Str} {i : Nat} {k : Str} (h : ys[i]? = some k) (e : at0 m k ≠ 0) : byKeys m (ys.take (i + 1)) = byKeys m (ys.take i) ++ [(k, at0 m k)] := by
  unfold byKeys
  rw [take_more h, List.filter_append, List.map_append]
  congr 1
  rw [List.filter_cons, if_pos (decide_eq_true e)]
  rfl
theorem byKeys_no {m : Ms} {ys : List Str} {i : Nat} {k : Str} (h : ys[i]? = some k) (e : at0 m k = 0) : byKeys m (ys.take (i + 1)) = byKeys m (ys.take i) := by
  unfold byKeys
  rw [take_more h, List.filter_append, List.map_append]
  rw [show [k].filter (fun k => decide (at0 m k ≠ 0)) = [] by
    rw [List.filter_cons, if_neg (by simp [e])]
    rfl]
  simp
theorem at_map {α : Type} {g : α → V} {l : List α} {i : Nat} {y : V} (h : (l.map g)[i]? = some y) : ∃ x, l[i]? = some x ∧ y = g x := by
  rw [List.getElem?_map] at h
  cases e : l[i]? with
  | none =>
    rw [e] at h
    cases h
  | some x =>
    rw [e] at h
    exact ⟨x, rfl, (Option.some.inj h).symm⟩
theorem dget_enc {H : Hp} {d : Addr} {m : Ms} {k : Str} (e : H d = some (.dK (enc m))) (h : k ∈ m.map (·.1)) : DGet H d (.str k) (some (.int (at0 m k))) := by
  have q : DGet H d (kV (Sum.inr k)) (valV (enc m) (Sum.inr k : L2.Key)) := DGet.k e
  rw [encG_val] at q
  unfold at0
  cases e2 : lk m k with
  | none => exact absurd h (lk_none.mp e2)
  | some v =>
    rw [e2] at q
    exact q
theorem dget_enc2 {H : Hp} {d : Addr} {m : Ms} (k : Str) (e : H d = some (.dK (enc m))) : ∃ o, DGet H d (.str k) o ∧ o.getD (.int 0) = .int (at0 m k) := by
  refine ⟨_, DGet.k (k := Sum.inr k) e, ?_⟩
  rw [encG_val]
  unfold at0
  cases lk m k <;> rfl
theorem upd_other {H : Hp} {a b : Addr} {o u : HO} (h : H b = some u) (n : H a = none) : upd H a o b = some u := by
  rw [upd_ne (ne_of_none h n)]
  exact h
theorem same_new {H : Hp} {p : Addr} {o : HO} (h : H p = none) : Same H (upd H p o) := fun b x e => upd_other e h
theorem dput_enc {H : Hp} {d : Addr} {m : Ms} {l : Str} {v : Int} (e : H d = some (.dK (enc m))) (hn : (m.map (·.1)).Nodup) (hl : m.length < sizeLine) : DPut H d (.str l) (.int v) (L2.upd H d (.dK (enc (put m l v)))) := by
  have q : DPut H d (kV (Sum.inr l)) (V.int v) _ := DPut.k (k := Sum.inr l) e (by rw [encG_len]; exact hl)
  rw [show putK (enc m) (Sum.inr l) (V.int v) = enc (put m l v) from encG_put V.int l v m hn] at q
  exact q
theorem small1000' {n : Nat} (h : n ≤ 10000) : n < sizeLine := Nat.lt_of_le_of_lt h (by decide)
/-- a step at an object that came later -/
theorem same_upd {H H1 : Hp} {p : Addr} {o : HO} (s : Same H H1) (h : H p = none) : Same H (L2.upd H1 p o) := fun b x e => by
  rw [upd_ne (ne_of_none e h)]
  exact s b x e
/-- a list that changes is no pair -/
theorem pr_list {H : Hp} {D : Addr} {xs : List V} {o : HO} {ts : List Addr} {m : Ms} (h : H D = some (.lst xs)) (p : Paired (PrAt H) ts m) : Paired (PrAt (L2.upd H D o)) ts m := Paired.mono (fun t q z => by
  show L2.upd H D o t = _
  rw [upd_ne (ne_of z h (fun e => nomatch e))]
  exact z) p
theorem pr_dict {H : Hp} {D : Addr} {kvs : List (L2.Key × V)} {o : HO} {ts : List Addr} {m : Ms} (h : H D = some (.dK kvs)) (p : Paired (PrAt H) ts m) : Paired (PrAt (L2.upd H D o)) ts m := Paired.mono (fun t q z => by
  show L2.upd H D o t = _
  rw [upd_ne (ne_of z h (fun e => nomatch e))]
  exact z) p
theorem pr_same {H H' : Hp} {ts : List Addr} {m : Ms} (s : Same H H') (h : Paired (PrAt H) ts m) : Paired (PrAt H') ts m := Paired.mono (fun t q z => s _ _ z) h
/-! ### parts: measures, each to a power -/
def flat (ps : List (Ms × Int)) : Ms := (ps.map fun q => scaled q.1 q.2).flatten
theorem flat_snoc (ps : List (Ms × Int)) (q : Ms × Int) : flat (ps ++ [q]) = flat ps ++ scaled q.1 q.2 := by
  unfold flat
  rw [List.map_append, List.flatten_append]
  simp
theorem flat_take_le : ∀ (ps : List (Ms × Int)) (i : Nat), (flat (ps.take i)).length ≤ (flat ps).length
  | [], i => by simp [flat]
  | q :: r, 0 => by simp [flat]
  | q :: r, i + 1 => by
    have ih := flat_take_le r i
    show (scaled q.1 q.2 ++ flat (r.take i)).length ≤ (scaled q.1 q.2 ++ flat r).length
    rw [List.length_append, List.length_append]
    omega
def PtAt (H : Hp) (t : Addr) (q : Ms × Int) : Prop := ∃ b, H t = some (.tup [.ref b, .int q.2]) ∧ MsAt H b q.1
theorem PtAt.same {H H' : Hp} {t : Addr} {q : Ms × Int} (s : Same H H') (h : PtAt H t q) : PtAt H' t q := by
  obtain ⟨b, e, m⟩ := h
  exact ⟨b, s _ _ e, m.same s⟩
theorem scaled_take (m : Ms) (n : Int) (k : Nat) : (scaled m n).take k = scaled (m.take k) n := by
  unfold scaled
  rw [List.map_take]
theorem scaled_len (m : Ms) (n : Int) : (scaled m n).length = m.length := by
  unfold scaled
  rw [List.length_map]
theorem scaled_more {m : Ms} {n : Int} {k : Nat} {p : Str × Int} (h : m[k]? = some p) : scaled (m.take (k + 1)) n = scaled (m.take k) n ++ [(p.1, p.2 * n)] := by
  rw [take_more h]
  unfold scaled
  rw [List.map_append]
  rfl
/-- what of a dict is not nought -/
def nz (m : Ms) : Ms := m.filter fun p => decide (p.2 ≠ 0)
theorem nz_yes {m : Ms} {i : Nat} {p : Str × Int} (h : m[i]? = some p) (e : p.2 ≠ 0) : nz (m.take (i + 1)) = nz (m.take i) ++ [p] := by
  unfold nz
  rw [take_more h, List.filter_append]
  congr 1
  rw [List.filter_cons, if_pos (decide_eq_true e)]
  rfl
theorem nz_no {m : Ms} {i : Nat} {p : Str × Int} (h : m[i]? = some p) (e : p.2 = 0) : nz (m.take (i + 1)) = nz (m.take i) := by
  unfold nz
  rw [take_more h, List.filter_append]
  rw [show [p].filter (fun p => decide (p.2 ≠ 0)) = [] by
    rw [List.filter_cons, if_neg (by simp [e])]
    rfl]
  simp
theorem enc_at {m : Ms} {i : Nat} {k : L2.Key} {v : V} (h : (enc m)[i]? = some (k, v)) : ∃ l n, m[i]? = some (l, n) ∧ k = Sum.inr l ∧ v = .int n := by
  unfold enc encG at h
  rw [List.getElem?_map] at h
  cases e : m[i]? with
  | none =>
    rw [e] at h
    cases h
  | some p =>
    rw [e] at h
    obtain ⟨e1, e2⟩ := Prod.mk.inj (Option.some.inj h)
    exact ⟨p.1, p.2, rfl, e1.symm, e2.symm⟩
/-- the sorted list of the pairs of a dict -/
theorem sorted_pairs {H : Hp} {ts : List Addr} {m : Ms} (hn : (m.map (·.1)).Nodup) (p : Paired (PrAt H) ts m) (k : V → Str × Int) (hk : ∀ t q, PrAt H t q → k (.ref t) = q) {ys : List V} (hp : ys.Perm (ts.map V.ref))
    (hs : ys.Pairwise (fun x y => SrtO.lexS (k y) (k x) = false)) : ∃ us : List Addr, ys = us.map V.ref ∧ Paired (PrAt H) us (ys.map k) ∧ (ys.map k).Perm m ∧ Ris (ys.map k) := by
  have hm : (ts.map V.ref).map k = m := by
    clear hp hs hn
    induction p with
    | nil => rfl
    | @cons t q _ _ r _ ih =>
      show k (.ref t) :: _ = _
      rw [hk _ _ r, ih]
  have hpm : (ys.map k).Perm m := by
    rw [← hm]
    exact hp.map k
  have hmem : ∀ y ∈ ys, ∃ t, y = .ref t ∧ PrAt H t (k y) := fun y hy => by
    obtain ⟨t, ht, rfl⟩ := List.mem_map.mp (hp.mem_iff.mp hy)
    obtain ⟨i, hi, e⟩ := List.mem_iff_getElem.mp ht
    obtain ⟨q, _, hq⟩ := paired_ix p (List.getElem?_eq_some_iff.mpr ⟨hi, e⟩)
    refine ⟨t, rfl, ?_⟩
    rw [hk _ _ hq]
    exact hq
  have hnd : ((ys.map k).map (·.1)).Nodup := (hpm.map (·.1)).nodup_iff.mpr hn
  have build : ∀ zs : List V, (∀ y ∈ zs, ∃ t, y = .ref t ∧ PrAt H t (k y)) → ∃ us : List Addr, zs = us.map V.ref ∧ Paired (PrAt H) us (zs.map k) := fun zs => by
    induction zs with
    | nil => exact fun _ => ⟨[], rfl, .nil⟩
    | cons z r ih =>
      intro h
      obtain ⟨t, e, q⟩ := h z List.mem_cons_self
      obtain ⟨us, e1, e2⟩ := ih fun y hy => h y (List.mem_cons_of_mem _ hy)
      refine ⟨t :: us, by rw [e, e1]; rfl, .cons q e2⟩
  obtain ⟨us, e1, e2⟩ := build ys hmem
  refine ⟨us, e1, e2, hpm, ?_⟩
  have h1 : (ys.map k).Pairwise fun p q => SrtO.lexS q p = false := List.pairwise_map.mpr hs
  have h2 : (ys.map k).Pairwise fun p q => p.1 ≠ q.1 := List.pairwise_map.mp hnd
  refine (h1.and h2).imp ?_
  intro a b ⟨h3, h4⟩
  have h5 := SrtO.lexS_no.mp h3
  refine Decidable.byContradiction fun h6 => h4 (sLt_tri h6 fun h7 => h5 (.inl h7))
/-- the pair that stands at a value -/
def prOf : Option HO → Str × Int
  | some (.tup [.str l, .int n]) => (l, n)
  | _ => (⟨#[]⟩, 0)
def kH (H : Hp) : V → Str × Int
  | .ref t => prOf (H t)
  | _ => (⟨#[]⟩, 0)
theorem kH_of {H : Hp} {t : Addr} {q : Str × Int} (h : PrAt H t q) : kH H (.ref t) = q := by
  show prOf (H t) = q
  rw [show H t = _ from h]
  rfl
theorem kH_all {H : Hp} {ts : List Addr} {m : Ms} (p : Paired (PrAt H) ts m) : ∀ x ∈ ts.map V.ref, ∃ t, x = V.ref t ∧ H t = some (.tup [.str (kH H x).1, .int (kH H x).2]) := fun x hx => by
  obtain ⟨t, ht, rfl⟩ := List.mem_map.mp hx
  obtain ⟨i, hi, e⟩ := List.mem_iff_getElem.mp ht
  obtain ⟨q, _, hq⟩ := paired_ix p (List.getElem?_eq_some_iff.mpr ⟨hi, e⟩)
  refine ⟨t, rfl, ?_⟩
  rw [kH_of hq]
  exact hq
theorem ms_list {H : Hp} {D b : Addr} {xs : List V} {o : HO} {m : Ms} (h : H D = some (.lst xs)) (q : MsAt H b m) : MsAt (L2.upd H D o) b m := by
  obtain ⟨ts, e, p⟩ := q
  refine ⟨ts, ?_, pr_list h p⟩
  rw [upd_ne (ne_of e h (fun e => nomatch e))]
  exact e
theorem ms_dict {H : Hp} {D b : Addr} {kvs : List (L2.Key × V)} {o : HO} {m : Ms} (h : H D = some (.dK kvs)) (q : MsAt H b m) : MsAt (L2.upd H D o) b m := by
  obtain ⟨ts, e, p⟩ := q
  refine ⟨ts, ?_, pr_dict h p⟩
  rw [upd_ne (ne_of e h (fun e => nomatch e))]
  exact e
/-! ### fillings -/
def fill (fl : List (Str × Ms)) (l : Str) : Ms := (lk fl l).getD [(l, 1)]
def parts (fl : List (Str × Ms)) (m : Ms) : List (Ms × Int) := m.map fun p => (fill fl p.1, p.2)
abbrev FillR (H : Hp) (x : Str × Addr) (y : Str × Ms) : Prop := x.1 = y.1 ∧ MsAt H x.2 y.2
def FillAt (H : Hp) (d : Addr) (ads : List (Str × Addr)) (fl : List (Str × Ms)) : Prop := H d = some (.dK (encG V.ref ads)) ∧ Paired (FillR H) ads fl
theorem fills_same {H H' : Hp} {ads : List (Str × Addr)} {fl : List (Str × Ms)} (s : Same H H') (p : Paired (FillR H) ads fl) : Paired (FillR H') ads fl := Paired.mono (fun x y z => ⟨z.1, z.2.same s⟩) p
theorem FillAt.same {H H' : Hp} {d : Addr} {ads : List (Str × Addr)} {fl : List (Str × Ms)} (s : Same H H') (h : FillAt H d ads fl) : FillAt H' d ads fl := ⟨s _ _ h.1, fills_same s h.2⟩
theorem fills_lk {H : Hp} {ads : List (Str × Addr)} {fl : List (Str × Ms)} (p : Paired (FillR H) ads fl) (l : Str) : (lk ads l = none ∧ lk fl l = none) ∨ ∃ b m, lk ads l = some b ∧ lk fl l = some m ∧ MsAt H b m := by
  induction p with
  | nil => exact .inl ⟨rfl, rfl⟩
  | @cons x y xs ys h _ ih =>
    obtain ⟨h1, h2⟩ := h
    by_cases e : x.1 = l
    · exact .inr ⟨x.2, y.2, if_pos e, if_pos (h1 ▸ e), h2⟩
    · have e' : ¬ y.1 = l := fun z => e (h1.trans z)
      rw [show lk (x :: xs) l = lk xs l from if_neg e, show lk (y :: ys) l = lk ys l from if_neg e']
      exact ih
/-- filling.get(l, d0), d0 the letter itself -/
theorem fill_get {H : Hp} {d e0 : Addr} {ads : List (Str × Addr)} {fl : List (Str × Ms)} (h : FillAt H d ads fl) (l : Str) (h0 : MsAt H e0 [(l, 1)]) : ∃ o b, DGet H d (.str l) o ∧ o.getD (.ref e0) = .ref b ∧ MsAt H b (fill fl l) := by
  rcases fills_lk h.2 l with ⟨a1, a2⟩ | ⟨b, m, a1, a2, a3⟩
  · refine ⟨_, e0, DGet.k (k := Sum.inr l) h.1, ?_, ?_⟩
    · rw [encG_val, a1]
      rfl
    · unfold fill
      rw [a2]
      exact h0
  · refine ⟨_, b, DGet.k (k := Sum.inr l) h.1, ?_, ?_⟩
    · rw [encG_val, a1]
      rfl
    · unfold fill
      rw [a2]
      exact a3
theorem paired_put {H : Hp} {l : Str} {b : Addr} {m : Ms} (h : MsAt H b m) {ads : List (Str × Addr)} {fl : List (Str × Ms)} (p : Paired (FillR H) ads fl) : Paired (FillR H) (put ads l b) (put fl l m) := by
  induction p with
  | nil => exact .cons ⟨rfl, h⟩ .nil
  | @cons x y xs ys q r ih =>
    obtain ⟨q1, q2⟩ := q
    by_cases e : x.1 = l
    · have e' : y.1 = l := q1 ▸ e
      rw [show put (x :: xs) l b = (x.1, b) :: xs from if_pos e, show put (y :: ys) l m = (y.1, m) :: ys from if_pos e']
      exact .cons ⟨q1, h⟩ r
    · have e' : ¬ y.1 = l := fun z => e (q1.trans z)
      rw [show put (x :: xs) l b = x :: put xs l b from if_neg e, show put (y :: ys) l m = y :: put ys l m from if_neg e']
      exact .cons ⟨q1, q2⟩ ih
theorem dput_encG {α : Type} {g : α → V} {H : Hp} {d : Addr} {m : List (Str × α)} {l : Str} {v : α} (e : H d = some (.dK (encG g m))) (hn : (m.map (·.1)).Nodup) (hl : m.length < sizeLine) : DPut H d (.str l) (g v) (L2.upd H d (.dK (encG g (put m l v)))) := by
  have q : DPut H d (kV (Sum.inr l)) (g v) _ := DPut.k (k := Sum.inr l) e (by rw [encG_len]; exact hl)
  rw [encG_put g l v m hn] at q
  exact q
theorem flat_mem {ps : List (Ms × Int)} {j : Str} (h : j ∈ (flat ps).map (·.1)) : ∃ q ∈ ps, ∃ p ∈ q.1, p.1 = j := by
  obtain ⟨x, hx, rfl⟩ := List.mem_map.mp h
  unfold flat at hx
  obtain ⟨y, hy, hxy⟩ := List.mem_flatten.mp hx
  obtain ⟨q, hq, rfl⟩ := List.mem_map.mp hy
  obtain ⟨p, hp, rfl⟩ := List.mem_map.mp hxy
  exact ⟨q, hq, p, hp, rfl⟩
theorem flat_len_le {n : Nat} : ∀ (ps : List (Ms × Int)), (∀ q ∈ ps, q.1.length ≤ n) → (flat ps).length ≤ ps.length * n
  | [], _ => by simp [flat]
  | q :: r, h => by
    have ih := flat_len_le r fun x hx => h x (List.mem_cons_of_mem _ hx)
    have h1 := h q List.mem_cons_self
    show (scaled q.1 q.2 ++ flat r).length ≤ (r.length + 1) * n
    rw [List.length_append, scaled_len, Nat.succ_mul]
    omega
theorem parts_nil : ∀ (m : Ms) (j : Str), sumAt (flat (parts [] m)) j = sumAt m j
  | [], j => rfl
  | p :: r, j => by
    have ih := parts_nil r j
    show sumAt (scaled [(p.1, 1)] p.2 ++ flat (parts [] r)) j = _
    rw [sumAt_append, ih, sumAt_scaled, sumAt_one]
    show _ = (if p.1 = j then p.2 else 0) + sumAt r j
    by_cases e : p.1 = j
    · rw [if_pos e, if_pos e]
      omega
    · rw [if_neg e, if_neg e]
      omega
end MK


set_option Elab.async false
set_option linter.all false
set_option maxRecDepth 100000
set_option maxHeartbeats 4000000
namespace MK
open PySem
/-! ### fractions: plain Lean -/
/-- in lowest terms, below from 1 on -/
def Red (u v : Int) : Prop := 0 < v ∧ Nat.gcd u.natAbs v.natAbs = 1
/-- what both are divided by -/
def cut (x y : Int) : Int := if y < 0 then -((Nat.gcd x.natAbs y.natAbs : Nat) : Int) else ((Nat.gcd x.natAbs y.natAbs : Nat) : Int)
theorem cut_ne {x y : Int} (hy : y ≠ 0) : cut x y ≠ 0 := by
  have h : Nat.gcd x.natAbs y.natAbs ≠ 0 := fun e => hy (by have := Nat.eq_zero_of_gcd_eq_zero_right e; omega)
  unfold cut
  split <;> omega
theorem cut_le {x y : Int} (hy : y ≠ 0) : (cut x y).natAbs ≤ y.natAbs := by
  have h : Nat.gcd x.natAbs y.natAbs ≤ y.natAbs := Nat.gcd_le_right _ (by omega)
  unfold cut
  split <;> omega
theorem cut_ok {x y : Int} (hy : y ≠ 0) : Red (x.fdiv (cut x y)) (y.fdiv (cut x y)) ∧ x.fdiv (cut x y) * y = x * y.fdiv (cut x y) ∧ (x.fdiv (cut x y)).natAbs ≤ x.natAbs ∧ (y.fdiv (cut x y)).natAbs ≤ y.natAbs := by
  have hG : Nat.gcd x.natAbs y.natAbs ≠ 0 := fun e => hy (by have := Nat.eq_zero_of_gcd_eq_zero_right e; omega)
  obtain ⟨x', hx⟩ : ((Nat.gcd x.natAbs y.natAbs : Nat) : Int) ∣ x := Int.ofNat_dvd_left.mpr (Nat.gcd_dvd_left _ _)
  obtain ⟨y', hy'⟩ : ((Nat.gcd x.natAbs y.natAbs : Nat) : Int) ∣ y := Int.ofNat_dvd_left.mpr (Nat.gcd_dvd_right _ _)
  have hc := cut_ne (x := x) hy
  obtain ⟨s, hs, es⟩ : ∃ s : Int, (s = 1 ∨ s = -1) ∧ cut x y = s * ((Nat.gcd x.natAbs y.natAbs : Nat) : Int) ∧ 0 < s * y := by
    unfold cut
    by_cases c : y < 0
    · rw [if_pos c]
      exact ⟨-1, .inr rfl, by omega, by omega⟩
    · rw [if_neg c]
      exact ⟨1, .inl rfl, by omega, by omega⟩
  obtain ⟨es, sy⟩ := es
  generalize hg : Nat.gcd x.natAbs y.natAbs = G at *
  have ss : s * s = 1 := by rcases hs with e | e <;> rw [e] <;> rfl
  have sa : s.natAbs = 1 := by rcases hs with e | e <;> rw [e] <;> rfl
  have ex : x = cut x y * (s * x') := by
    rw [es, show s * (G : Int) * (s * x') = s * s * ((G : Int) * x') by rw [Int.mul_assoc, Int.mul_assoc, Int.mul_left_comm (G : Int) s x'], ss, Int.one_mul]
    exact hx
  have ey : y = cut x y * (s * y') := by
    rw [es, show s * (G : Int) * (s * y') = s * s * ((G : Int) * y') by rw [Int.mul_assoc, Int.mul_assoc, Int.mul_left_comm (G : Int) s y'], ss, Int.one_mul]
    exact hy'
  have ux : x.fdiv (cut x y) = s * x' := by
    generalize hcc : cut x y = cc at *
    rw [ex]
    exact Int.mul_fdiv_cancel_left _ hc
  have uy : y.fdiv (cut x y) = s * y' := by
    generalize hcc : cut x y = cc at *
    rw [ey]
    exact Int.mul_fdiv_cancel_left _ hc
  rw [ux, uy]
  have pos : 0 < s * y' := by
    have h1 : 0 < (G : Int) := by omega
    have h2 : s * y = (G : Int) * (s * y') := by
      rw [Int.mul_left_comm, ← hy']
    rw [h2] at sy
    exact Int.not_le.mp fun c => Int.not_le.mpr sy (Int.mul_nonpos_of_nonneg_of_nonpos (Int.le_of_lt h1) c)
  have ax : (s * x').natAbs = x'.natAbs := by rw [Int.natAbs_mul, sa, Nat.one_mul]
  have ay : (s * y').natAbs = y'.natAbs := by rw [Int.natAbs_mul, sa, Nat.one_mul]
  have nx : x.natAbs = G * x'.natAbs := by
    rw [hx, Int.natAbs_mul]
    rfl
  have ny : y.natAbs = G * y'.natAbs := by
    rw [hy', Int.natAbs_mul]
    rfl
  have G0 : 0 < G := Nat.pos_of_ne_zero hG
  refine ⟨⟨pos, ?_⟩, ?_, ?_, ?_⟩
  · rw [ax, ay]
    have e : Nat.gcd (G * x'.natAbs) (G * y'.natAbs) = G := by rw [← nx, ← ny]; exact hg
    rw [Nat.gcd_mul_left] at e
    have e2 : G * Nat.gcd x'.natAbs y'.natAbs = G * 1 := by rw [e, Nat.mul_one]
    exact Nat.eq_of_mul_eq_mul_left G0 e2
  · rw [show s * x' * y = s * x' * ((G : Int) * y') from congrArg (s * x' * ·) hy', show x * (s * y') = (G : Int) * x' * (s * y') from congrArg (· * (s * y')) hx]
    rw [Int.mul_assoc, Int.mul_assoc, Int.mul_left_comm s x' _, Int.mul_left_comm s (G : Int) y', Int.mul_left_comm x' (G : Int) (s * y')]
  · rw [ax, nx]
    exact Nat.le_mul_of_pos_left _ G0
  · rw [ay, ny]
    exact Nat.le_mul_of_pos_left _ G0
/-- two in lowest terms, of one value, are one -/
theorem red_uniq {a b c d : Int} (h : Red a b) (h' : Red c d) (e : a * d = c * b) : a = c ∧ b = d := by
  obtain ⟨b0, g1⟩ := h
  obtain ⟨d0, g2⟩ := h'
  have en : a.natAbs * d.natAbs = c.natAbs * b.natAbs := by rw [← Int.natAbs_mul, ← Int.natAbs_mul, e]
  have h1 : b.natAbs ∣ d.natAbs := by
    have : b.natAbs ∣ a.natAbs * d.natAbs := ⟨c.natAbs, by rw [en, Nat.mul_comm]⟩
    exact Nat.Coprime.dvd_of_dvd_mul_left (Nat.Coprime.symm g1) this
  have h2 : d.natAbs ∣ b.natAbs := by
    have : d.natAbs ∣ c.natAbs * b.natAbs := ⟨a.natAbs, by rw [← en, Nat.mul_comm]⟩
    exact Nat.Coprime.dvd_of_dvd_mul_left (Nat.Coprime.symm g2) this
  have h3 := Nat.dvd_antisymm h1 h2
  have hb : b = d := by omega
  rw [hb] at e
  exact ⟨Int.eq_of_mul_eq_mul_right (by omega) e, hb⟩
theorem red_pow {a b : Int} (h : Red a b) (n : Nat) : Red (a ^ n) (b ^ n) := by
  obtain ⟨h1, h2⟩ := h
  refine ⟨Int.pow_pos h1, ?_⟩
  rw [Int.natAbs_pow, Int.natAbs_pow]
  exact Nat.Coprime.pow n n h2
end MK

namespace L2
open PySem PySem.Spec PyProof.Rows
/-- // by what is not nought, below 2 ^ 9000 -/
def CDivWN (_ j : Int) : Prop := j ≠ 0 ∧ j.natAbs.log2 < 9000
section
variable {X : Cx}
theorem op_fdivWN : OpR X (binaryOp .FloorDiv) (rI CDivWN fun i j => .int (i.fdiv j)) := opI fun _ _ _ _ _ _ _ hc q => floordiv_int hc.1 q (.inl (PyProof.noPylong_of_log2 hc.2))
end
theorem divWN_ok {i j : Int} (h : j ≠ 0) (hb : j.natAbs < 2 ^ 8000) : CDivWN i j := ⟨h, Nat.lt_of_lt_of_le (PySem.Flt.log2_lt_of (by decide) hb) (by decide)⟩
/-- no error leaves a call that could let one out -/
theorem passN {X : Cx} : Passes (L2N.CX X.prog X.w) X E0 := fun _ _ _ _ _ _ _ h => by
  obtain ⟨_, _, _, _, _, _, _, _, _, _, _, _, z⟩ := h
  exact z.elim
/-- around a body nothing is let out -/
theorem takesN {X : Cx} : L2N.Takes X (fun _ _ _ _ => False) := fun _ _ x => by
  obtain ⟨_, _, _, _, _, _, _, _, _, _, _, _, _, _, _, _, z⟩ := x
  exact z.elim
theorem bootVE : bootBuiltins "ValueError" = some (.type "ValueError") := by decide +kernel
section
variable {P : Program} {w : World} {K : PySem.W.Frag} {mg : Str → Option Value} {base : Heap}
/-- a def that may raise, its errors' context None -/
theorem Fun.okN {x qual : Str} {st : Stmt} {f : Addr} {fd : FuncData} {N ps : List Str} {k : Nat} {sp : Sp} (F : Fun K x qual st f fd) (S : FnScope N ps (defScope st)) (len : ∀ vs H Q E, sp vs H Q E → vs.length = ps.length)
    (hb : ∀ (cdv : Value) (A : Around) (outer : List Env) (s : Shared) (H : Hp) (vs : List V) (Q : VK) (E : XK), Room k (A.deeper (envOfC qual (defScope st) s.heap.objs.size f cdv)) → sp vs H Q E →
      ∃ t, PSs (cxOf (L2N.CX P w) P w K mg base N qual (defScope st) f cdv A outer s H E) (defBody st) t ∧ t { nx := fun _ H' => Q .non H', rt := Q } (L2.start N vs) H) : FnOk P w K mg base (L2N.CX P w) (k + 1) f fd ps sp := by
  obtain ⟨oc, od, kV, doc, pm, an, cdv, ct, osl, rfl, lk, hcd⟩ := F.ex
  exact fn_of lk hcd S len fun A outer s H vs Q E hr hsp => hb cdv A outer s H vs Q E hr hsp
/-! ### a def called within an except suite, of the error that is handled (its class at D) -/
structure FnHE (P : Program) (w : World) (K : PySem.W.Frag) (mg : Str → Option Value) (base : Heap) (D : Addr) (k : Nat) (f : Addr) (fd : FuncData) (ps : List Str) (sp : Addr → Sp) : Prop where
  len : ∀ a vs H Q E, sp a vs H Q E → vs.length = ps.length
  run : ∀ (A : Around) (outer : List Env) (s : Shared) (H : Hp) (args : Args) (us : List Value) (vs : List V) (Q : VK) (E : XK) (p : Addr × Obj), L2H.RoomH k A → L2H.Hot1 A p → p.2.cls = .ref D → p.2.dict = none → L2H.PinOk outer H s p → Env0 P w K mg base A outer s H → BindsTo s fd args (ps.zip us) →
    Vals vs us → sp p.1 vs H Q E → codeAny (model P w) A (.call (.ref f) args) (CR CX0 outer P w H s Q E) s
theorem Fun.okHE {x qual : Str} {st : Stmt} {f D : Addr} {fd : FuncData} {N ps : List Str} {k : Nat} {sp : Addr → Sp} (F : Fun K x qual st f fd) (S : FnScope N ps (defScope st)) (len : ∀ a vs H Q E, sp a vs H Q E → vs.length = ps.length)
    (hbody : ∀ (cdv : Value) (A : Around) (outer : List Env) (s : Shared) (H : Hp) (vs : List V) (Q : VK) (E : XK) (p : Addr × Obj), L2H.Hot1 A p → p.2.cls = .ref D → p.2.dict = none → L2H.RoomH k (A.deeper (envOfC qual (defScope st) s.heap.objs.size f cdv)) → sp p.1 vs H Q E →
      ∃ t, PSs (L2H.cxH CX0 P w K mg base N qual (defScope st) f cdv A outer s H E p) (defBody st) t ∧ t { nx := fun _ H' => Q .non H', rt := Q } (L2.start N vs) H) : FnHE P w K mg base D (k + 1) f fd ps sp := by
  obtain ⟨oc, od, kV, doc, pm, an, cdv, ct, osl, rfl, lk, hcd⟩ := F.ex
  refine ⟨len, fun A outer s H args us vs Q E p hr hot hD hN hpin e0 hb r hsp => ?_⟩
  have hl := len _ _ _ _ _ hsp
  have keepB : ∀ b o, base.get? b = some o → s.heap.get? b = some o := fun b o e => (e0.bs b o e).1
  have KX : K.In s.heap := e0.mod.kin.keeps keepB
  have lim : s.heap.NoLimit := e0.mod.nolimit.keeps keepB
  have kinds : ∀ y ∈ ps.zip us, (defScope st).names.lookup y.1 = some .local ∨ ((defScope st).names.lookup y.1 = some .cell ∧ ((cellsFrom (s.heap.objs.size + 1) (defScope st).names []).lookup y.1).isSome = true) := by
    rintro ⟨n, v⟩ hy
    rcases S.par n (List.of_mem_zip hy).1 with q | q
    · exact .inl q
    · exact .inr ⟨q, PySem.W.cellsFrom_some _ _ _ (.inl q)⟩
  refine codeAny_call_function hr.depth (KX _ _ lk) rfl S.co S.gen rfl (PySem.W.codeRec_of KX hcd) (hb _ _ _ _ ?_)
  refine wpAny_newFunctionEnv_cells S.kind kinds fun env he s1 x => ?_
  subst he
  refine ⟨lim.keeps x.toInCall.keep, codeAny_func ?_⟩
  obtain ⟨t, ht, hq⟩ := hbody cdv A outer s H vs Q E p hot hD hN (hr.deeper _) hsp
  refine wpAny_mono (ht.run [] s1 (L2.start N vs) H _ (L2H.inv_startH S hpin e0 hl r x) hq) (fun fl s' hs => ?_) fun e s' hs => hs
  cases fl with
  | ret u =>
    obtain ⟨v, σ', H', J, rv, q⟩ := hs
    exact ⟨v, H', J.os, J.bare, J.base, J.hok, rv, q⟩
  | next =>
    obtain ⟨σ', H', J, q⟩ := hs
    exact ⟨V.non, H', J.os, J.bare, J.base, J.hok, rfl, q⟩
  | brk =>
    obtain ⟨_, _, _, q⟩ := hs
    exact False.elim q
  | cont =>
    obtain ⟨_, _, _, q⟩ := hs
    exact False.elim q
end
section
variable {X : Cx} {k : Nat} {f D : Addr} {fd : FuncData} {ps : List Str} {sp : Addr → Sp} {x : Str} {q pos : Pos} {e : Expr} {es : List Expr} {t : TA} {a : Addr} {oe : Obj} {cls : Value} {d : Option Addr} {pn : List (Addr × Obj)}
/-- f(e), within the suite that holds the error at a: asks that the error is the class's own, without a dict -/
theorem pe_callHE (F : FnHE X.prog X.w X.K X.mg X.base D k f fd ps sp) (hr : L2H.RoomH k X.A) (hz : L2N.Zn cls d oe) (hf : ∃ vs, oe.data = .fields vs) (hg : Gl X x) (hm : X.mg x = some (.ref f)) (hk : PySem.W.keepIn X.K (.ref f) = true) (hb : Binds X.K fd ps [])
    (ha : PA (X.suite a ((a, oe) :: pn)) (e :: es) t) (hdb : (x == ("__debug__" : Str)) = false := by decide) (he : starEach (e :: es) X.env = (false, eval e X.env) :: starEach es X.env := by rfl) (hpl : (backTo pos (starEach es X.env)).any (·.1) = false := by rfl) :
    PE (X.suite a ((a, oe) :: pn)) (.Call (.Name x q) (e :: es) [] pos) (fun σ H Q => cls = .ref D ∧ d = none ∧ t σ H fun vs H1 => sp a vs H1 Q E0) := by
  refine ⟨fun pins s σ H Q I h => ?_⟩
  obtain ⟨ec, ed, h⟩ := h
  refine wpAny_Call_Name_kw (ld_glob I hg hm ?_ hdb)
  refine PySem.W.callWith_K (h₀ := X.base) I.ok.mod.kin hk (thn (ha.run pos pins s σ H _ I h) fun us s1 hh => ?_) he hpl
  obtain ⟨vs, H1, I1, r, hsp⟩ := hh
  refine ⟨I1.kIn, ?_⟩
  have hl : us.length = ps.length := by rw [← r.length]; exact F.len _ _ _ _ _ hsp
  have b := hb s1 us I1.kIn (by rw [List.append_nil]; exact hl)
  rw [List.append_nil] at b
  have P1 := I1.pin (a, oe) (List.mem_append_left _ List.mem_cons_self)
  have hpin : L2H.PinOk (X.suite a ((a, oe) :: pn)).stack H1 s1 (a, oe) := ⟨P1.1, P1.2.1, fun hm => (List.mem_cons.mp (I1.stkSub a hm)).elim P1.2.2.1 P1.2.2.2.1, P1.2.2.2.2⟩
  have hot : L2H.Hot1 (X.suite a ((a, oe) :: pn)).A (a, oe) := by
    obtain ⟨vs, hv⟩ := hf
    exact ⟨rfl, vs, hv, hz.2.2 vs hv⟩
  refine wpAny_call (codeAny_mono (F.run _ _ s1 H1 ⟨us, []⟩ us vs Q E0 (a, oe) ⟨hr.dp, hr.un⟩ hot (hz.1.trans ec) (hz.2.1.trans ed) hpin I1.env0 b r hsp) fun res s' hq => ?_)
  cases res with
  | error er => exact hq.elim
  | ok fl =>
    cases fl with
    | ret u => exact I1.after hq
    | next => exact False.elim hq
    | brk => exact False.elim hq
    | cont => exact False.elim hq
/-- isinstance of an error that the context bears -/
theorem call_isP {X : Cx} {D : Addr} {p : Addr × Obj} (C : ExcC X.K D) (hp : p ∈ X.pn) (h1 : p.2.cls = .ref D) (h2 : p.2.dict = none) (hf : ∃ vs, p.2.data = .fields vs) : CallR X (.builtin "isinstance") (rIsE X.K D p.1) := by
  intro pins s σ H xs us Q I r h
  obtain ⟨c, cv, b, rfl, hcv, e, q⟩ := h
  obtain ⟨u1, u2, rfl, rx, rt⟩ := vals2 r
  cases rx
  have ec := hcv _ rt
  subst ec
  have hget := (I.pin p (List.mem_append_left _ hp)).1
  obtain ⟨vs, hv⟩ := hf
  have J : PySem.W.InstAt s.heap p.1 p.2 D none := by
    obtain ⟨a, oc, od, oda, osl⟩ := p
    dsimp only at h1 h2 hv
    subst h1 h2 hv
    exact ⟨hget, rfl, rfl, trivial⟩
  exact PySem.W.kia_one (PySem.W.handS_kitx_exc C.hg C.hk C.hs C.hd C.ha C.hn C.ht C.hm) I.kIn J e (fun z => nomatch z) fun tk => ⟨.bl b, H, I.kept (t' := tk) fun _ _ z => z, rfl, q⟩
/-- isinstance of the error that the suite handles, whatever its class -/
theorem call_isS {X : Cx} {a : Addr} {oe : Obj} {cls : Value} {d : Option Addr} {pn : List (Addr × Obj)} (hz : L2N.Zn cls d oe) (hf : ∃ vs, oe.data = .fields vs) :
    CallR (X.suite a ((a, oe) :: pn)) (.builtin "isinstance") (fun xs H Q => ∃ D, cls = .ref D ∧ d = none ∧ ExcC X.K D ∧ rIsE X.K D a xs H Q) := by
  intro pins s σ H xs us Q I r h
  obtain ⟨D, e1, e2, C, h⟩ := h
  exact call_isP (X := X.suite a ((a, oe) :: pn)) (p := (a, oe)) C List.mem_cons_self (hz.1.trans e1) (hz.2.1.trans e2) hf pins s σ H xs us Q I r h
end
end L2


set_option Elab.async false
set_option linter.all false
set_option maxRecDepth 100000
set_option maxHeartbeats 4000000
/-! New tuples told with their very object (it bears no dict); dict(t) of such a tuple of pairs. -/
namespace L2
open PySem PySem.Spec PyProof.Rows
/-- a tuple that bears no dict -/
def TupN (H : Hp) (a : Addr) (xs : List V) : Prop := ∃ o : Obj, H a = some (.frz o (.tup xs)) ∧ o.dict = none
theorem TupN.sq {K : PySem.W.Frag} {H : Hp} {a : Addr} {xs : List V} (h : TupN H a xs) : SqT K H a xs := by
  obtain ⟨o, h, _⟩ := h
  exact .inl (.inr ⟨o, h⟩)
section
variable {X : Cx} {es : List Expr} {t : TA} {pos : Pos}
/-- a written tuple -/
theorem pe_tupN {x1} (h : PA X es t) : PE X (.Tuple es x1 pos) (fun σ H Q => t σ H fun xs H1 => xs.length ≤ sizeLine ∧ ∀ (p : Addr) (o : Obj), H1 p = none → o.dict = none → Q (.ref p) (upd H1 p (.frz o (.tup xs)))) := by
  refine ⟨fun pins s σ H Q I hq => ?_⟩
  refine wpAny_Tuple_spliced (thn (h.run pos pins s σ H _ I hq) fun us u ⟨xs, H1, J, r, z, q⟩ => ⟨by rw [← r.length]; exact z, ?_⟩)
  refine ⟨.ref u.heap.objs.size, _, J.laid (t' := u.toks) (fun b o e => Heap.get?_push_of_some _ e) (Nat.le_refl _) ?_, rfl, q _ { cls := .type "tuple", data := .seq us.toArray } (J.hok.fresh (Nat.le_refl _)) rfl⟩
  exact ⟨Heap.get?_push_size _ rfl, z, us, r, ⟨_, Heap.get?_push_size _ rfl, rfl, _, rfl⟩⟩
/-- tuple(xs) of a list -/
theorem call_tupleN : CallR X (.type "tuple") (fun xs H Q => ∃ p ys, xs = [.ref p] ∧ SqL X.K H p ys ∧ ∀ (l : Addr) (o : Obj), H l = none → o.dict = none → Q (.ref l) (upd H l (.frz o (.tup ys)))) := by
  intro pins s σ H xs us Q I r h
  obtain ⟨p, ys, rfl, hq, q⟩ := h
  obtain ⟨u, rfl, rx⟩ := vals1 r
  cases rx
  obtain ⟨its, rv, pl, hz⟩ := I.list hq
  have hl := rv.length
  refine call_tuple_list pl.isList (fun h' kp => ?_) (by simp only [List.size_toArray] <;> omega)
  have J : Inv X pins σ H { s with heap := h' } := I.kept (t' := s.toks) kp
  exact ⟨.ref h'.objs.size, _, J.laid (t' := s.toks) (fun b o e => Heap.get?_push_of_some _ e) (Nat.le_refl _) (show ObjOk X.prog X.w _ _ _ (.frz { cls := .type "tuple", data := .seq its.toArray } (.tup ys)) from ⟨Heap.get?_push_size _ rfl, hz, its, rv, IsTup.new _ _⟩), rfl, q _ { cls := .type "tuple", data := .seq its.toArray } (J.hok.fresh (Nat.le_refl _)) rfl⟩
/-- the pairs, as values -/
theorem pairs_at {pins : List (Addr × Obj)} {σ : St} {H : Hp} {s : Shared} (I : Inv X pins σ H s) : ∀ {ps : List Addr} {kvs : List (Key × V)}, Paired (fun p kv => SqT X.K H p [kV kv.1, kv.2]) ps kvs →
    ∃ (prs : List (Key × Value)) (vps : List (Value × Value)), KV kvs prs ∧ prs.length = ps.length ∧ vps.length = ps.length ∧
      ∀ (j : Nat) (b : Addr), ps[j]? = some b → ∃ q u, prs[j]? = some q ∧ vps[j]? = some (u, q.2) ∧ IsTup s.heap b #[u, q.2] ∧ keyIs q.1 u = true
  | _, _, .nil => ⟨[], [], .nil, rfl, rfl, fun j q e => by simp at e⟩
  | _, _, .cons (a := p) (b := kv) h t => by
    obtain ⟨prs, vps, r, l1, l2, hp⟩ := pairs_at I t
    obtain ⟨its, rv, ht, _⟩ := I.tuple h
    obtain ⟨u, y, rfl, ru, ry⟩ := vals2 rv
    refine ⟨(kv.1, y) :: prs, (u, y) :: vps, .cons ⟨rfl, ry⟩ r, by simp [l1], by simp [l2], fun j b e => ?_⟩
    cases j with
    | zero =>
      obtain rfl : p = b := Option.some.inj e
      exact ⟨_, u, rfl, rfl, ht, kV_is (P := X.prog) (w := X.w) ru⟩
    | succ j =>
      obtain ⟨q, u', e1, e2, e3⟩ := hp j b (by simpa using e)
      exact ⟨q, u', by simpa using e1, by simpa using e2, e3⟩
/-- dict(t), t a tuple of pairs -/
theorem call_dictPT (hcalm : X.calm = true) : CallR X (.type "dict") (fun xs H Q => ∃ (a : Addr) (ps : List Addr) (kvs : List (Key × V)), xs = [.ref a] ∧ TupN H a (ps.map V.ref) ∧ Paired (fun p kv => SqT X.K H p [kV kv.1, kv.2]) ps kvs ∧
    ∀ p, H p = none → Q (.ref p) (upd H p (.dK (mergeK [] kvs)))) := by
  intro pins s σ H xs us Q I r q
  obtain ⟨a, ps, kvs, rfl, ⟨o, ha, dn⟩, hp, q⟩ := q
  obtain ⟨u, rfl, rx⟩ := vals1 r
  cases rx
  obtain ⟨go, hz, its, rv, ⟨o', ho', hc, n, hdat⟩⟩ := (show ObjOk X.prog X.w H s.heap a (.frz o (.tup (ps.map V.ref))) from I.hok a _ ha)
  obtain rfl : o = o' := Option.some.inj (go.symm.trans ho')
  have ei := refs_at rv
  subst ei
  rw [List.length_map] at hz
  obtain ⟨prs, vps, rel, l1, l2, hpr⟩ := pairs_at I hp
  have pi : PySem.PairItems s.heap (ps.map Value.ref).toArray (fun j => ps.getD j 0) vps := by
    refine ⟨by simp [l2], fun j k v e => ?_⟩
    have hj : j < ps.length := by rw [← l2]; exact (List.getElem?_eq_some_iff.mp e).1
    obtain ⟨q', u, e1, e2, e3, _⟩ := hpr j ps[j] (List.getElem?_eq_getElem hj)
    have ee : (k, v) = (u, q'.2) := Option.some.inj (e.symm.trans e2)
    obtain ⟨rfl, rfl⟩ := Prod.mk.inj ee
    have gd : ps.getD j 0 = ps[j] := by simp [List.getD, hj]
    refine ⟨by simp [hj], ?_⟩
    show PySem.PairAt s.heap (ps.getD j 0) k q'.2
    rw [gd]
    exact .inl e3
  refine PySem.call_dict_pairs (knd := mixKind X.prog X.w) (kvs := prs) (PySem.PairArg.tuple (prog := X.prog) (w := X.w) a (ps.map Value.ref).toArray (fun j => ps.getD j 0) vps) (I.ok.hd hcalm) ⟨⟨o, n, go, hc, dn, hdat⟩, pi⟩ ⟨by rw [l1, l2], fun i key v e => ?_⟩ (by rw [l2]; exact hz) fun h' tk hd' k => ?_
  · have hj : i < ps.length := by rw [← l2]; exact (List.getElem?_eq_some_iff.mp e).1
    obtain ⟨q', u, e1, e2, _, e4⟩ := hpr i ps[i] (List.getElem?_eq_getElem hj)
    have ee : (key, v) = (u, q'.2) := Option.some.inj (e.symm.trans e2)
    obtain ⟨rfl, rfl⟩ := Prod.mk.inj ee
    exact ⟨q'.1, e1, e4⟩
  · have hm : (s.heap.objs.size == sysModules) = false := beq_eq_false_iff_ne.mpr (Nat.ne_of_gt I.big)
    have hlen : (mergeK [] kvs).length ≤ sizeLine := by
      refine Nat.le_trans (length_mergeK kvs []) ?_
      rw [List.length_nil, Nat.zero_add, rel.length, l1]
      exact hz
    exact ⟨.ref s.heap.objs.size, upd H s.heap.objs.size (.dK (mergeK [] kvs)), I.laid (t' := tk) (fun b o e => k b o (fun z => nomatch z) e) (Nat.le_refl _) (show ObjOk X.prog X.w _ _ _ (.dK (mergeK [] kvs)) from ⟨hlen, hm, merged [] prs, KV.merge rel .nil, hd'⟩), rfl, q _ (I.hok.fresh (Nat.le_refl _))⟩
end
end L2


set_option Elab.async false
set_option linter.all false
set_option maxRecDepth 100000
set_option maxHeartbeats 4000000
/-! Reckonings: their form, where they lie in a heap, what they come to. -/
namespace MK
open PySem PySem.Spec PyProof.Rows L2
/-! ### names -/
/-- signs a to z alone -/
def Az (z : Str) : Prop := ∀ c ∈ z.cps.toList, 97 ≤ c ∧ c ≤ 122
/-- a name: 1 to 8 of them -/
def Nm (z : Str) : Prop := 1 ≤ z.length ∧ z.length ≤ 8 ∧ Az z
theorem Az.ok {z : Str} (h : Az z) : Ok z := fun c hc => by
  have := h c hc
  omega
theorem az_app {a b : Str} (ha : Az a) (hb : Az b) : Az (a ++ b) := fun c hc => by
  have hc : c ∈ (a.cps ++ b.cps).toList := hc
  rw [Array.toList_append] at hc
  rcases List.mem_append.mp hc with h | h
  · exact ha c h
  · exact hb c h
theorem az_one {c : Nat} (h : 97 ≤ c ∧ c ≤ 122) : Az ⟨#[c]⟩ := fun x hx => by
  have : x = c := by simpa using hx
  rw [this]
  exact h
theorem az_fold (c : Array Nat) (hc : ∀ x ∈ c.toList, 97 ≤ x ∧ x ≤ 122) : ∀ (k : Nat) (acc : Array Nat), (∀ x ∈ acc.toList, 97 ≤ x ∧ x ≤ 122) → ∀ x ∈ ((List.replicate k c).foldl (· ++ ·) acc).toList, 97 ≤ x ∧ x ≤ 122
  | 0, acc, h => h
  | k + 1, acc, h => by
    rw [List.replicate_succ, List.foldl_cons]
    refine az_fold c hc k _ fun x hx => ?_
    rw [Array.toList_append] at hx
    rcases List.mem_append.mp hx with q | q
    · exact h x q
    · exact hc x q
theorem az_rep {z : Str} (h : Az z) (n : Int) : Az (strRep z n) := by
  unfold strRep
  by_cases c : n < 1
  · rw [if_pos c]
    exact fun x hx => absurd hx (by simp [Str.empty])
  · rw [if_neg c]
    by_cases d : (n == 1 || z.length == 0) = true
    · rw [if_pos d]
      exact h
    · rw [if_neg d]
      exact az_fold _ h _ _ (fun x hx => absurd hx (by simp))
theorem nm_lt {z : Str} (h : Nm z) : LtOk z := ⟨fun e => by
  have h1 : 1 ≤ z.cps.size := h.1
  rw [← Array.length_toList, e] at h1
  exact absurd h1 (by decide), h.2.2.ok⟩
/-! ### numbers -/
/-- below 2 ^ n either way -/
def Sm (n : Nat) (x : Int) : Prop := x.natAbs < 2 ^ n
theorem Sm.mono {a b : Nat} {x : Int} (h : Sm a x) (l : a ≤ b) : Sm b x := Nat.lt_of_lt_of_le h (Nat.pow_le_pow_right (by decide) l)
theorem Sm.le {a : Nat} {x y : Int} (h : Sm a x) (l : y.natAbs ≤ x.natAbs) : Sm a y := Nat.lt_of_le_of_lt l h
theorem Sm.neg {a : Nat} {x : Int} (h : Sm a x) : Sm a (-x) := by
  unfold Sm at *
  omega
theorem Sm.mul {a b : Nat} {x y : Int} (h : Sm a x) (g : Sm b y) : Sm (a + b) (x * y) := by
  unfold Sm at *
  rw [Int.natAbs_mul, Nat.pow_add]
  exact Nat.mul_lt_mul'' h g
theorem Sm.add {a : Nat} {x y : Int} (h : Sm a x) (g : Sm a y) : Sm (a + 1) (x + y) := by
  unfold Sm at *
  rw [Nat.pow_succ]
  omega
theorem Sm.sub {a : Nat} {x y : Int} (h : Sm a x) (g : Sm a y) : Sm (a + 1) (x - y) := by
  unfold Sm at *
  rw [Nat.pow_succ]
  omega
theorem Sm.pow {a : Nat} {x : Int} (h : Sm a x) : ∀ n : Nat, Sm (a * n + 1) (x ^ n)
  | 0 => by
    show (x ^ 0).natAbs < 2 ^ (a * 0 + 1)
    rw [Int.pow_zero, Nat.mul_zero]
    decide
  | n + 1 => by
    have := (Sm.pow h n).mul h
    rw [← Int.pow_succ] at this
    exact this.mono (by rw [Nat.mul_succ]; omega)
theorem Sm.mulW {a b : Nat} {x y : Int} (h : Sm a x) (g : Sm b y) (l : a + b ≤ 100000) : CMulW x y := by
  have h1 := wide_mul (a := a + 1) (b := b + 1) (h.mono (by omega)) (g.mono (by omega)) (by omega) (by omega) (by omega)
  exact h1
theorem Sm.div {a : Nat} {x : Int} (h : Sm a x) (n : x ≠ 0) (l : a ≤ 8000) : CDivWN 0 x := ⟨n, by
  have := PySem.Flt.log2_lt_of (k := a + 1) (by omega) (Nat.lt_of_lt_of_le h (Nat.pow_le_pow_right (by decide) (by omega)))
  omega⟩
theorem divN_any {i i' j : Int} (h : CDivWN i j) : CDivWN i' j := h
/-! ### the form -/
inductive Op4 where
  | plus | minus | times | over
deriving DecidableEq
def Op4.name : Op4 → Str
  | .plus => "plus" | .minus => "minus" | .times => "times" | .over => "over"
inductive Rk where
  | is (x y : Int) (m : Ms)
  | nought
  | input (s : Str)
  | bin (o : Op4) (a b : Rk)
  | power (a : Rk) (n : Int)
  | less (a b c d : Rk)
/-- at b the measure m, a tuple that bears no dict -/
def MsN (H : Hp) (b : Addr) (m : Ms) : Prop := ∃ ts : List Addr, TupN H b (ts.map V.ref) ∧ Paired (PrAt H) ts m
theorem MsN.same {H H' : Hp} {b : Addr} {m : Ms} (s : Same H H') (h : MsN H b m) : MsN H' b m := by
  obtain ⟨ts, ⟨o, e, d⟩, p⟩ := h
  exact ⟨ts, ⟨o, s _ _ e, d⟩, pr_same s p⟩
abbrev FracAt (H : Hp) (p : Addr) (u v : Int) : Prop := H p = some (.tup [.int u, .int v])
/-- a reckoning as it lies there -/
def TrAt (H : Hp) : Rk → Addr → Prop
  | .is x y m, p => ∃ q b, H p = some (.tup [.str "is", .ref q, .ref b]) ∧ FracAt H q x y ∧ MsN H b m
  | .nought, p => H p = some (.tup [.str "nought"])
  | .input s, p => H p = some (.tup [.str "input", .str s])
  | .bin o a b, p => ∃ q r, H p = some (.tup [.str o.name, .ref q, .ref r]) ∧ TrAt H a q ∧ TrAt H b r
  | .power a n, p => ∃ q, H p = some (.tup [.str "power", .ref q, .int n]) ∧ TrAt H a q
  | .less a b c d, p => ∃ q r s t, H p = some (.tup [.str "less", .ref q, .ref r, .ref s, .ref t]) ∧ TrAt H a q ∧ TrAt H b r ∧ TrAt H c s ∧ TrAt H d t
theorem TrAt.same {H H' : Hp} (s : Same H H') : ∀ {r : Rk} {p : Addr}, TrAt H r p → TrAt H' r p
  | .is x y m, p, ⟨q, b, h1, h2, h3⟩ => ⟨q, b, s _ _ h1, s _ _ h2, h3.same s⟩
  | .nought, p, h => s p _ h
  | .input z, p, h => s p _ h
  | .bin o a b, p, ⟨q, r, h1, h2, h3⟩ => ⟨q, r, s _ _ h1, TrAt.same s h2, TrAt.same s h3⟩
  | .power a n, p, ⟨q, h1, h2⟩ => ⟨q, s _ _ h1, TrAt.same s h2⟩
  | .less a b c d, p, ⟨q, r, u, v, h1, h2, h3, h4, h5⟩ => ⟨q, r, u, v, s _ _ h1, TrAt.same s h2, TrAt.same s h3, TrAt.same s h4, TrAt.same s h5⟩
/-- a measure of an is: in its form, few letters, all of them bases, small powers -/
structure MsIn (m : Ms) : Prop where
  can : Can m
  few : m.length ≤ 6
  nm : ∀ p ∈ m, Nm p.1
  sm : ∀ p ∈ m, p.2.natAbs ≤ 20
/-- within the bounds that its parts have -/
def Rk.Ok : Rk → Prop
  | .is x y m => Red x y ∧ x.natAbs ≤ 10 ^ 9 ∧ y ≤ 10 ^ 9 ∧ MsIn m
  | .nought => True
  | .input s => Nm s
  | .bin _ a b => a.Ok ∧ b.Ok
  | .power a n => a.Ok ∧ -4 ≤ n ∧ n ≤ 4
  | .less a b c d => a.Ok ∧ b.Ok ∧ c.Ok ∧ d.Ok
/-- how deep: one without parts is one deep -/
def Rk.deep : Rk → Nat
  | .bin _ a b => 1 + max a.deep b.deep
  | .power a _ => 1 + a.deep
  | .less a b c d => 1 + max (max a.deep b.deep) (max c.deep d.deep)
  | _ => 1
/-- how many reckonings in all -/
def Rk.many : Rk → Nat
  | .bin _ a b => 1 + (a.many + b.many)
  | .power a _ => 1 + a.many
  | .less a b c d => 1 + (a.many + b.many + c.many + d.many)
  | _ => 1
/-- how many powers within one another -/
def Rk.pows : Rk → Nat
  | .bin _ a b => max a.pows b.pows
  | .power a _ => 1 + a.pows
  | .less a b c d => max (max a.pows b.pows) (max c.pows d.pows)
  | _ => 0
/-- how many noughts -/
def Rk.noughts : Rk → Nat
  | .nought => 1
  | .bin _ a b => a.noughts + b.noughts
  | .power a _ => a.noughts
  | .less a b c d => a.noughts + b.noughts + c.noughts + d.noughts
  | _ => 0
/-- the names of its inputs, as they stand -/
def Rk.ins : Rk → List Str
  | .input s => [s]
  | .bin _ a b => a.ins ++ b.ins
  | .power a _ => a.ins
  | .less a b c d => a.ins ++ b.ins ++ c.ins ++ d.ins
  | _ => []
/-- the letters of its numbers -/
def Rk.lts : Rk → List Str
  | .is _ _ m => m.map (·.1)
  | .bin _ a b => a.lts ++ b.lts
  | .power a _ => a.lts
  | .less a b c d => a.lts ++ b.lts ++ c.lts ++ d.lts
  | _ => []
theorem Rk.deep_pos : ∀ r : Rk, 1 ≤ r.deep
  | .is _ _ _ => Nat.le_refl _ | .nought => Nat.le_refl _ | .input _ => Nat.le_refl _
  | .bin _ _ _ => Nat.le_add_right _ _ | .power _ _ => Nat.le_add_right _ _ | .less _ _ _ _ => Nat.le_add_right _ _
/-! ### what it comes to -/
/-- x over y in lowest terms -/
def norm (x y : Int) : Int × Int := (x.fdiv (cut x y), y.fdiv (cut x y))
theorem norm_red {x y : Int} (h : y ≠ 0) : Red (norm x y).1 (norm x y).2 := (cut_ok h).1
theorem norm_val {x y : Int} (h : y ≠ 0) : (norm x y).1 * y = x * (norm x y).2 := (cut_ok h).2.1
theorem norm_sm {x y : Int} {a : Nat} (h : y ≠ 0) (h1 : Sm a x) (h2 : Sm a y) : Sm a (norm x y).1 ∧ Sm a (norm x y).2 := ⟨h1.le (cut_ok h).2.2.1, h2.le (cut_ok h).2.2.2⟩
theorem norm_is {x y u v : Int} (h : y ≠ 0) (r : Red u v) (e : u * y = x * v) : norm x y = (u, v) := by
  have h1 := norm_red (x := x) h
  have h2 := norm_val (x := x) h
  obtain ⟨e1, e2⟩ := red_uniq h1 r (by
    have h3 : (norm x y).1 * v * y = u * (norm x y).2 * y := by
      rw [Int.mul_right_comm, h2, Int.mul_right_comm u, e, Int.mul_right_comm]
    exact Int.eq_of_mul_eq_mul_right h h3)
  exact Prod.ext e1 e2
def valOp : Op4 → Int × Int → Int × Int → Option (Int × Int)
  | .plus, a, b => some (norm (a.1 * b.2 + b.1 * a.2) (a.2 * b.2))
  | .minus, a, b => some (norm (a.1 * b.2 - b.1 * a.2) (a.2 * b.2))
  | .times, a, b => some (norm (a.1 * b.1) (a.2 * b.2))
  | .over, a, b => if b.1 = 0 then none else some (norm (a.1 * b.2) (a.2 * b.1))
def pwA (x y n : Int) : Int := if n < 0 then y ^ n.natAbs else x ^ n.natAbs
def pwB (x y n : Int) : Int := if n < 0 then x ^ n.natAbs else y ^ n.natAbs
def valPow (a : Int × Int) (n : Int) : Option (Int × Int) := if pwB a.1 a.2 n = 0 then none else some (norm (pwA a.1 a.2 n) (pwB a.1 a.2 n))
def val (env : Str → Option (Int × Int)) : Rk → Option (Int × Int)
  | .is x y _ => some (x, y)
  | .nought => some (0, 1)
  | .input s => env s
  | .bin o a b => (val env a).bind fun u => (val env b).bind fun v => valOp o u v
  | .power a n => (val env a).bind fun u => valPow u n
  | .less a b c d => (val env a).bind fun u => (val env b).bind fun v => if u.1 * v.2 < v.1 * u.2 then val env c else val env d
/-- how many signs (in twos) its value may have -/
def Rk.bits : Rk → Nat
  | .bin _ a b => a.bits + b.bits + 1
  | .power a _ => a.bits * 4 + 1
  | .less a b c d => max (max a.bits b.bits) (max c.bits d.bits)
  | _ => 30
/-- a fraction in lowest terms, below 2 ^ n -/
def FrSm (n : Nat) (u : Int × Int) : Prop := Red u.1 u.2 ∧ Sm n u.1 ∧ Sm n u.2
theorem FrSm.mono {a b : Nat} {u : Int × Int} (h : FrSm a u) (l : a ≤ b) : FrSm b u := ⟨h.1, h.2.1.mono l, h.2.2.mono l⟩
theorem valOp_sm {o : Op4} {u v r : Int × Int} {a b : Nat} (hu : FrSm a u) (hv : FrSm b v) (e : valOp o u v = some r) : FrSm (a + b + 1) r := by
  obtain ⟨ru, u1, u2⟩ := hu
  obtain ⟨rv, v1, v2⟩ := hv
  have n0 : u.2 * v.2 ≠ 0 := Int.ne_of_gt (Int.mul_pos ru.1 rv.1)
  have s0 : Sm (a + b + 1) (u.2 * v.2) := (u2.mul v2).mono (by omega)
  have c1 : Sm (a + b) (u.1 * v.2) := u1.mul v2
  have c2 : Sm (a + b) (v.1 * u.2) := (v1.mul u2).mono (by omega)
  cases o with
  | plus =>
    cases e
    exact ⟨norm_red n0, norm_sm n0 (c1.add c2) s0⟩
  | minus =>
    cases e
    exact ⟨norm_red n0, norm_sm n0 (c1.sub c2) s0⟩
  | times =>
    cases e
    exact ⟨norm_red n0, norm_sm n0 ((u1.mul v1).mono (by omega)) s0⟩
  | over =>
    have e : (if v.1 = 0 then none else some (norm (u.1 * v.2) (u.2 * v.1))) = some r := e
    by_cases z : v.1 = 0
    · rw [if_pos z] at e
      cases e
    · rw [if_neg z] at e
      cases e
      have n1 : u.2 * v.1 ≠ 0 := Int.mul_ne_zero (Int.ne_of_gt ru.1) z
      exact ⟨norm_red n1, norm_sm n1 (c1.mono (by omega)) ((u2.mul v1).mono (by omega))⟩
theorem pw_sm {x y n : Int} {a : Nat} (hx : Sm a x) (hy : Sm a y) (h1 : -4 ≤ n) (h2 : n ≤ 4) : Sm (a * 4 + 1) (pwA x y n) ∧ Sm (a * 4 + 1) (pwB x y n) := by
  have l : a * n.natAbs + 1 ≤ a * 4 + 1 := Nat.add_le_add_right (Nat.mul_le_mul_left _ (by omega)) 1
  unfold pwA pwB
  by_cases e : n < 0
  · rw [if_pos e, if_pos e]
    exact ⟨(hy.pow _).mono l, (hx.pow _).mono l⟩
  · rw [if_neg e, if_neg e]
    exact ⟨(hx.pow _).mono l, (hy.pow _).mono l⟩
theorem valPow_sm {u r : Int × Int} {n : Int} {a : Nat} (hu : FrSm a u) (h1 : -4 ≤ n) (h2 : n ≤ 4) (e : valPow u n = some r) : FrSm (a * 4 + 1) r := by
  unfold valPow at e
  by_cases z : pwB u.1 u.2 n = 0
  · rw [if_pos z] at e
    cases e
  · rw [if_neg z] at e
    cases e
    obtain ⟨s1, s2⟩ := pw_sm hu.2.1 hu.2.2 h1 h2
    exact ⟨norm_red z, norm_sm z s1 s2⟩
theorem bind_some {α β : Type} {o : Option α} {f : α → Option β} {r : β} (e : o.bind f = some r) : ∃ u, o = some u ∧ f u = some r := by
  cases o with
  | none => cases e
  | some u => exact ⟨u, rfl, e⟩
theorem sm30 {x : Int} (h : x.natAbs ≤ 10 ^ 9) : Sm 30 x := Nat.lt_of_le_of_lt h (by decide)
theorem val_sm {env : Str → Option (Int × Int)} (he : ∀ s u, env s = some u → FrSm 30 u) : ∀ {r : Rk} {u : Int × Int}, r.Ok → val env r = some u → FrSm r.bits u
  | .is x y m, u, ⟨h1, h2, h3, _⟩, e => by
    cases e
    exact ⟨h1, sm30 h2, sm30 (by have := h1.1; omega)⟩
  | .nought, u, _, e => by
    cases e
    exact ⟨⟨by decide, by decide⟩, by show (0 : Int).natAbs < 2 ^ 30; decide, by show (1 : Int).natAbs < 2 ^ 30; decide⟩
  | .input s, u, _, e => he s u e
  | .bin o a b, u, ⟨h1, h2⟩, e => by
    obtain ⟨x, e1, e⟩ := bind_some e
    obtain ⟨y, e2, e⟩ := bind_some e
    exact valOp_sm (val_sm he h1 e1) (val_sm he h2 e2) e
  | .power a n, u, ⟨h1, h2, h3⟩, e => by
    obtain ⟨x, e1, e⟩ := bind_some e
    exact valPow_sm (val_sm he h1 e1) h2 h3 e
  | .less a b c d, u, ⟨h1, h2, h3, h4⟩, e => by
    obtain ⟨x, e1, e⟩ := bind_some e
    obtain ⟨y, e2, e⟩ := bind_some e
    by_cases z : x.1 * y.2 < y.1 * x.2
    · rw [if_pos z] at e
      exact (val_sm he h3 e).mono (Nat.le_trans (Nat.le_max_left _ _) (Nat.le_max_right _ _))
    · rw [if_neg z] at e
      exact (val_sm he h4 e).mono (Nat.le_trans (Nat.le_max_right _ _) (Nat.le_max_right _ _))
/-- the most signs by depth and powers: for the law's trees -/
theorem bits_by : ∀ {r : Rk}, r.deep ≤ 4 → r.pows ≤ 2 → r.bits ≤ 1000 := by
  have leaf : ∀ r : Rk, r.deep ≤ 1 → r.bits ≤ 30 ∧ r.pows = 0 := fun r h => by
    cases r with
    | bin o a b => have h : 1 + max a.deep b.deep ≤ 1 := h; have := a.deep_pos; omega
    | power a n => have h : 1 + a.deep ≤ 1 := h; have := a.deep_pos; omega
    | less a b c d => have h : 1 + max (max a.deep b.deep) (max c.deep d.deep) ≤ 1 := h; have := a.deep_pos; omega
    | is _ _ _ => exact ⟨Nat.le_refl _, rfl⟩
    | nought => exact ⟨Nat.le_refl _, rfl⟩
    | input _ => exact ⟨Nat.le_refl _, rfl⟩
  have two : ∀ r : Rk, r.deep ≤ 2 → (r.pows = 0 → r.bits ≤ 61) ∧ r.bits ≤ 121 := fun r h => by
    cases r with
    | bin o a b =>
      have h : 1 + max a.deep b.deep ≤ 2 := h
      have := leaf a (by omega); have := leaf b (by omega)
      show (_ → a.bits + b.bits + 1 ≤ 61) ∧ a.bits + b.bits + 1 ≤ 121
      omega
    | power a n =>
      have h : 1 + a.deep ≤ 2 := h
      have := leaf a (by omega)
      show (1 + a.pows = 0 → _) ∧ a.bits * 4 + 1 ≤ 121
      omega
    | less a b c d =>
      have h : 1 + max (max a.deep b.deep) (max c.deep d.deep) ≤ 2 := h
      have := leaf a (by omega); have := leaf b (by omega); have := leaf c (by omega); have := leaf d (by omega)
      show (_ → max (max a.bits b.bits) (max c.bits d.bits) ≤ 61) ∧ max (max a.bits b.bits) (max c.bits d.bits) ≤ 121
      omega
    | is _ _ _ => exact ⟨fun _ => by show 30 ≤ 61; decide, by show 30 ≤ 121; decide⟩
    | nought => exact ⟨fun _ => by show 30 ≤ 61; decide, by show 30 ≤ 121; decide⟩
    | input _ => exact ⟨fun _ => by show 30 ≤ 61; decide, by show 30 ≤ 121; decide⟩
  have three : ∀ r : Rk, r.deep ≤ 3 → (r.pows ≤ 1 → r.bits ≤ 245) ∧ (r.pows ≤ 2 → r.bits ≤ 485) := fun r h => by
    cases r with
    | bin o a b =>
      have h : 1 + max a.deep b.deep ≤ 3 := h
      have := two a (by omega); have := two b (by omega)
      show (max a.pows b.pows ≤ 1 → a.bits + b.bits + 1 ≤ 245) ∧ (max a.pows b.pows ≤ 2 → a.bits + b.bits + 1 ≤ 485)
      omega
    | power a n =>
      have h : 1 + a.deep ≤ 3 := h
      have := two a (by omega)
      show (1 + a.pows ≤ 1 → a.bits * 4 + 1 ≤ 245) ∧ (1 + a.pows ≤ 2 → a.bits * 4 + 1 ≤ 485)
      omega
    | less a b c d =>
      have h : 1 + max (max a.deep b.deep) (max c.deep d.deep) ≤ 3 := h
      have := two a (by omega); have := two b (by omega); have := two c (by omega); have := two d (by omega)
      show (max (max a.pows b.pows) (max c.pows d.pows) ≤ 1 → max (max a.bits b.bits) (max c.bits d.bits) ≤ 245) ∧ (max (max a.pows b.pows) (max c.pows d.pows) ≤ 2 → max (max a.bits b.bits) (max c.bits d.bits) ≤ 485)
      omega
    | is _ _ _ => exact ⟨fun _ => by show 30 ≤ 245; decide, fun _ => by show 30 ≤ 485; decide⟩
    | nought => exact ⟨fun _ => by show 30 ≤ 245; decide, fun _ => by show 30 ≤ 485; decide⟩
    | input _ => exact ⟨fun _ => by show 30 ≤ 245; decide, fun _ => by show 30 ≤ 485; decide⟩
  intro r h p
  cases r with
  | bin o a b =>
    have h : 1 + max a.deep b.deep ≤ 4 := h
    have p : max a.pows b.pows ≤ 2 := p
    have := three a (by omega); have := three b (by omega)
    show a.bits + b.bits + 1 ≤ 1000
    omega
  | power a n =>
    have h : 1 + a.deep ≤ 4 := h
    have p : 1 + a.pows ≤ 2 := p
    have := three a (by omega)
    show a.bits * 4 + 1 ≤ 1000
    omega
  | less a b c d =>
    have h : 1 + max (max a.deep b.deep) (max c.deep d.deep) ≤ 4 := h
    have p : max (max a.pows b.pows) (max c.pows d.pows) ≤ 2 := p
    have := three a (by omega); have := three b (by omega); have := three c (by omega); have := three d (by omega)
    show max (max a.bits b.bits) (max c.bits d.bits) ≤ 1000
    omega
  | is _ _ _ => show 30 ≤ 1000; decide
  | nought => show 30 ≤ 1000; decide
  | input _ => show 30 ≤ 1000; decide
end MK
namespace MK
open PySem PySem.Spec PyProof.Rows L2
/-- what a dict gives when made: of its pairs -/
theorem made_in {m r : Ms} (hc : Can r) (he : ∀ j, at0 r j = at0 m j) : ∀ x ∈ r, x ∈ m := fun x hx => by
  have q := (hc.mem x.1 x.2).mp hx
  have q2 : at0 m x.1 = x.2 := by rw [← he]; exact q.2
  have q3 := at0_mem (m := m) (j := x.1) (by rw [q2]; exact q.1)
  rw [q2] at q3
  exact q3
theorem made_few {m r : Ms} (hc : Can r) (he : ∀ j, at0 r j = at0 m j) : r.length ≤ m.length := List.Nodup.length_le_of_subset (nodup_of_map hc.ris.nodup) (made_in hc he)
theorem two_val {a b : V} {i : Int} (h0 : 0 ≤ i) (h1 : i < 2) : ∃ v, atI [a, b] i = some v ∧ (v = a ∨ v = b) := by
  have : i = 0 ∨ i = 1 := by omega
  rcases this with rfl | rfl
  · exact ⟨a, rfl, .inl rfl⟩
  · exact ⟨b, rfl, .inr rfl⟩
theorem abs_natI (i : Int) : (if i < 0 then -i else i) = ((i.natAbs : Nat) : Int) := by
  split <;> omega
/-- an item of a list of texts at a place modulo its length -/
theorem mod_at {ws : List Str} (h0 : ws ≠ []) (x : Int) : ∃ z ∈ ws, atI (ws.map V.str) (x % ((ws.map V.str).length : Int)) = some (.str z) := by
  have hl : (0 : Int) < ((ws.map V.str).length : Int) := by
    rw [List.length_map]
    have := List.length_pos_iff.mpr h0
    omega
  obtain ⟨j, ej⟩ := Int.eq_ofNat_of_zero_le (Int.emod_nonneg x (show ((ws.map V.str).length : Int) ≠ 0 by omega))
  have hj : j < ws.length := by
    have := Int.emod_lt_of_pos x hl
    rw [List.length_map] at this ej
    omega
  refine ⟨ws[j], List.getElem_mem hj, ?_⟩
  rw [ej]
  exact atI_nat (by rw [List.getElem?_map, List.getElem?_eq_getElem hj]; rfl)
/-- a list of names -/
structure NmsAt (H : Hp) (a : Addr) (ws : List Str) : Prop where
  h : H a = some (.lst (ws.map V.str))
  n : ws ≠ []
  l : ws.length ≤ 1000
  z : ∀ z ∈ ws, Nm z
theorem NmsAt.same {H H' : Hp} {a : Addr} {ws : List Str} (s : Same H H') (h : NmsAt H a ws) : NmsAt H' a ws := ⟨s _ _ h.h, h.n, h.l, h.z⟩
/-- a reckoning of these names and letters, d deep at most, with at most p powers within one another -/
structure RkIn (ws bs : List Str) (d p : Nat) (r : Rk) : Prop where
  ok : r.Ok
  deep : r.deep ≤ d
  pows : r.pows ≤ p
  ins : ∀ s ∈ r.ins, s ∈ ws
  lts : ∀ s ∈ r.lts, s ∈ bs
theorem RkIn.mono {ws bs : List Str} {d p d' p' : Nat} {r : Rk} (h : RkIn ws bs d p r) (hd : d ≤ d') (hp : p ≤ p') : RkIn ws bs d' p' r := ⟨h.ok, Nat.le_trans h.deep hd, Nat.le_trans h.pows hp, h.ins, h.lts⟩
theorem RkIn.bin {ws bs : List Str} {d p : Nat} {a b : Rk} (o : Op4) (h : RkIn ws bs d p a) (g : RkIn ws bs d p b) : RkIn ws bs (1 + d) p (.bin o a b) := by
  refine ⟨⟨h.ok, g.ok⟩, ?_, ?_, fun s hs => ?_, fun s hs => ?_⟩
  · have := h.deep; have := g.deep
    show 1 + max a.deep b.deep ≤ _
    omega
  · have := h.pows; have := g.pows
    show max a.pows b.pows ≤ _
    omega
  · rcases List.mem_append.mp hs with z | z
    · exact h.ins s z
    · exact g.ins s z
  · rcases List.mem_append.mp hs with z | z
    · exact h.lts s z
    · exact g.lts s z
theorem RkIn.power {ws bs : List Str} {d p : Nat} {a : Rk} {n : Int} (h : RkIn ws bs d p a) (h1 : -4 ≤ n) (h2 : n ≤ 4) : RkIn ws bs (1 + d) (1 + p) (.power a n) := by
  refine ⟨⟨h.ok, h1, h2⟩, ?_, ?_, h.ins, h.lts⟩
  · have := h.deep
    show 1 + a.deep ≤ _
    omega
  · have := h.pows
    show 1 + a.pows ≤ _
    omega
theorem RkIn.less {ws bs : List Str} {d p : Nat} {a b c e : Rk} (h : RkIn ws bs d p a) (g : RkIn ws bs d p b) (i : RkIn ws bs d p c) (j : RkIn ws bs d p e) : RkIn ws bs (1 + d) p (.less a b c e) := by
  have ap : ∀ {s : Str} {k l m n : List Str}, s ∈ k ++ l ++ m ++ n → s ∈ k ∨ s ∈ l ∨ s ∈ m ∨ s ∈ n := fun hs => by
    simp only [List.mem_append] at hs
    rcases hs with ((h1 | h1) | h1) | h1
    · exact .inl h1
    · exact .inr (.inl h1)
    · exact .inr (.inr (.inl h1))
    · exact .inr (.inr (.inr h1))
  refine ⟨⟨h.ok, g.ok, i.ok, j.ok⟩, ?_, ?_, fun s hs => ?_, fun s hs => ?_⟩
  · have := h.deep; have := g.deep; have := i.deep; have := j.deep
    show 1 + max (max a.deep b.deep) (max c.deep e.deep) ≤ _
    omega
  · have := h.pows; have := g.pows; have := i.pows; have := j.pows
    show max (max a.pows b.pows) (max c.pows e.pows) ≤ _
    omega
  · rcases ap hs with z | z | z | z
    · exact h.ins s z
    · exact g.ins s z
    · exact i.ins s z
    · exact j.ins s z
  · rcases ap hs with z | z | z | z
    · exact h.lts s z
    · exact g.lts s z
    · exact i.lts s z
    · exact j.lts s z
theorem RkIn.nought {ws bs : List Str} {d p : Nat} (hd : 1 ≤ d) : RkIn ws bs d p .nought := ⟨trivial, hd, Nat.zero_le _, fun s hs => absurd hs (by show s ∉ []; simp), fun s hs => absurd hs (by show s ∉ []; simp)⟩
theorem RkIn.input {ws bs : List Str} {d p : Nat} {z : Str} (hd : 1 ≤ d) (hz : z ∈ ws) (n : Nm z) : RkIn ws bs d p (.input z) := ⟨n, hd, Nat.zero_le _, fun s hs => by
  have : s = z := List.mem_singleton.mp hs
  rw [this]
  exact hz, fun s hs => absurd hs (by show s ∉ []; simp)⟩
theorem RkIn.is {ws bs : List Str} {d p : Nat} {x y : Int} {m : Ms} (hd : 1 ≤ d) (r : Red x y) (h1 : x.natAbs ≤ 10 ^ 9) (h2 : y ≤ 10 ^ 9) (c : Can m) (l : m.length ≤ 6) (hb : ∀ z ∈ bs, Nm z) (hm : ∀ q ∈ m, q.1 ∈ bs ∧ q.2.natAbs ≤ 20) : RkIn ws bs d p (.is x y m) :=
  ⟨⟨r, h1, h2, c, l, fun q hq => hb _ (hm q hq).1, fun q hq => (hm q hq).2⟩, hd, Nat.zero_le _, fun s hs => absurd hs (by show s ∉ []; simp), fun s hs => by
    obtain ⟨q, hq, e⟩ := List.mem_map.mp hs
    rw [← e]
    exact (hm q hq).1⟩
/-- a def that is never called so -/
def spNo : Sp := fun _ _ _ _ => False
theorem fn_no {P : Program} {w : World} {K : PySem.W.Frag} {mg : Str → Option Value} {base : Heap} {CX : CXT} {k : Nat} {f : Addr} {fd : FuncData} {ps : List Str} : FnOk P w K mg base CX k f fd ps spNo :=
  ⟨fun _ _ _ _ h => h.elim, fun _ _ _ _ _ _ _ _ _ _ _ _ _ h => h.elim⟩
theorem four_op {i : Int} (h0 : 0 ≤ i) (h1 : i < 4) : ∃ o : Op4, atI [V.str "plus", V.str "minus", V.str "times", V.str "over"] i = some (.str o.name) := by
  have : i = 0 ∨ i = 1 ∨ i = 2 ∨ i = 3 := by omega
  rcases this with rfl | rfl | rfl | rfl
  · exact ⟨.plus, rfl⟩
  · exact ⟨.minus, rfl⟩
  · exact ⟨.times, rfl⟩
  · exact ⟨.over, rfl⟩
/-! ### the parts; values by name -/
def Rk.parts : Rk → List Rk
  | .bin _ a b => [a, b]
  | .power a _ => [a]
  | .less a b c d => [a, b, c, d]
  | _ => []
abbrev FrR (H : Hp) (x : Str × Addr) (y : Str × (Int × Int)) : Prop := x.1 = y.1 ∧ FracAt H x.2 y.2.1 y.2.2
/-- a dict of names with fractions -/
def VlAt (H : Hp) (d : Addr) (ads : List (Str × Addr)) (vl : List (Str × (Int × Int))) : Prop := H d = some (.dK (encG V.ref ads)) ∧ Paired (FrR H) ads vl
theorem frs_same {H H' : Hp} {ads : List (Str × Addr)} {vl : List (Str × (Int × Int))} (s : Same H H') (p : Paired (FrR H) ads vl) : Paired (FrR H') ads vl := Paired.mono (fun x y z => ⟨z.1, s _ _ z.2⟩) p
theorem VlAt.same {H H' : Hp} {d : Addr} {ads : List (Str × Addr)} {vl : List (Str × (Int × Int))} (s : Same H H') (h : VlAt H d ads vl) : VlAt H' d ads vl := ⟨s _ _ h.1, frs_same s h.2⟩
theorem frs_lk {H : Hp} {ads : List (Str × Addr)} {vl : List (Str × (Int × Int))} (p : Paired (FrR H) ads vl) (l : Str) : (lk ads l = none ∧ lk vl l = none) ∨ ∃ b u, lk ads l = some b ∧ lk vl l = some u ∧ FracAt H b u.1 u.2 := by
  induction p with
  | nil => exact .inl ⟨rfl, rfl⟩
  | @cons x y xs ys h _ ih =>
    obtain ⟨h1, h2⟩ := h
    by_cases e : x.1 = l
    · exact .inr ⟨x.2, y.2, if_pos e, if_pos (h1 ▸ e), h2⟩
    · have e' : ¬ y.1 = l := fun z => e (h1.trans z)
      rw [show lk (x :: xs) l = lk xs l from if_neg e, show lk (y :: ys) l = lk ys l from if_neg e']
      exact ih
theorem frs_put {H : Hp} {l : Str} {b : Addr} {u : Int × Int} (h : FracAt H b u.1 u.2) {ads : List (Str × Addr)} {vl : List (Str × (Int × Int))} (p : Paired (FrR H) ads vl) : Paired (FrR H) (put ads l b) (put vl l u) := by
  induction p with
  | nil => exact .cons ⟨rfl, h⟩ .nil
  | @cons x y xs ys q r ih =>
    obtain ⟨q1, q2⟩ := q
    by_cases e : x.1 = l
    · have e' : y.1 = l := q1 ▸ e
      rw [show put (x :: xs) l b = (x.1, b) :: xs from if_pos e, show put (y :: ys) l u = (y.1, u) :: ys from if_pos e']
      exact .cons ⟨q1, h⟩ r
    · have e' : ¬ y.1 = l := fun z => e (q1.trans z)
      rw [show put (x :: xs) l b = x :: put xs l b from if_neg e, show put (y :: ys) l u = y :: put ys l u from if_neg e']
      exact .cons ⟨q1, q2⟩ ih
theorem vl_get {H : Hp} {d : Addr} {ads : List (Str × Addr)} {vl : List (Str × (Int × Int))} (h : VlAt H d ads vl) {l : Str} (n : lk vl l ≠ none) : ∃ b u, lk vl l = some u ∧ DGet H d (.str l) (some (.ref b)) ∧ FracAt H b u.1 u.2 := by
  rcases frs_lk h.2 l with ⟨_, a2⟩ | ⟨b, u, a1, a2, a3⟩
  · exact absurd a2 n
  · refine ⟨b, u, a2, ?_, a3⟩
    have := DGet.k (k := Sum.inr l) h.1
    rw [encG_val, a1] at this
    exact this
/-- None, or a fraction that lies there -/
def Told (H : Hp) (o : Option (Int × Int)) (v : V) : Prop := match o with
  | none => v = .non
  | some u => ∃ p, v = .ref p ∧ FracAt H p u.1 u.2
theorem Told.same {H H' : Hp} {o : Option (Int × Int)} {v : V} (s : Same H H') (h : Told H o v) : Told H' o v := by
  cases o with
  | none => exact h
  | some u =>
    obtain ⟨p, e, q⟩ := h
    exact ⟨p, e, s _ _ q⟩
theorem parts_deep : ∀ {r x : Rk}, x ∈ r.parts → x.deep + 1 ≤ r.deep
  | .bin _ a b, x, h => by
    show x.deep + 1 ≤ 1 + max a.deep b.deep
    rcases List.mem_cons.mp h with e | h
    · rw [e]; omega
    · rw [List.mem_singleton.mp h]; omega
  | .power a _, x, h => by
    show x.deep + 1 ≤ 1 + a.deep
    rw [List.mem_singleton.mp h]; omega
  | .less a b c d, x, h => by
    show x.deep + 1 ≤ 1 + max (max a.deep b.deep) (max c.deep d.deep)
    rcases List.mem_cons.mp h with e | h
    · rw [e]; omega
    · rcases List.mem_cons.mp h with e | h
      · rw [e]; omega
      · rcases List.mem_cons.mp h with e | h
        · rw [e]; omega
        · rw [List.mem_singleton.mp h]; omega
theorem ins_parts : ∀ {r : Rk}, (∀ z, r ≠ .input z) → r.ins = r.parts.flatMap Rk.ins
  | .is _ _ _, _ => rfl
  | .nought, _ => rfl
  | .input z, h => absurd rfl (h z)
  | .bin _ a b, _ => by
    show a.ins ++ b.ins = a.ins ++ (b.ins ++ [])
    rw [List.append_nil]
  | .power a _, _ => by
    show a.ins = a.ins ++ []
    rw [List.append_nil]
  | .less a b c d, _ => by
    show a.ins ++ b.ins ++ c.ins ++ d.ins = a.ins ++ (b.ins ++ (c.ins ++ (d.ins ++ [])))
    rw [List.append_nil, List.append_assoc, List.append_assoc]
theorem flat_more {α β : Type} {f : α → List β} {l : List α} {i : Nat} {x : α} (h : l[i]? = some x) : (l.take (i + 1)).flatMap f = (l.take i).flatMap f ++ f x := by
  rw [take_more h, List.flatMap_append]
  show _ ++ (f x ++ []) = _
  rw [List.append_nil]
theorem flat_le {α β : Type} {f : α → List β} (l : List α) (i : Nat) : ((l.take i).flatMap f).length ≤ (l.flatMap f).length := by
  conv => rhs; rw [← List.take_append_drop i l, List.flatMap_append, List.length_append]
  exact Nat.le_add_right _ _
/-- different ones, rising or alike: rising -/
theorem ris_of {ks : List Str} (hs : ks.Pairwise fun a b => ¬ sLt b a) (hn : ks.Nodup) : ks.Pairwise sLt := by
  refine (hs.and hn).imp ?_
  rintro a b ⟨h1, h2⟩
  exact Decidable.byContradiction fun h3 => h2 (sLt_tri h3 h1)
/-- the names of ins, rising, each once -/
structure Names (ins ys : List Str) : Prop where
  ris : ys.Pairwise sLt
  mem : ∀ z, z ∈ ys ↔ z ∈ ins
theorem Names.nodup {ins ys : List Str} (h : Names ins ys) : ys.Nodup := h.ris.imp fun q e => by
  rw [e] at q
  exact sLt_irr _ q
theorem Names.few {ins ys : List Str} (h : Names ins ys) : ys.length ≤ ins.length := List.Nodup.length_le_of_subset h.nodup fun z hz => (h.mem z).mp hz
/-! ### a name taken out -/
def drp {α : Type} (m : List (Str × α)) (l : Str) : List (Str × α) := m.filter fun p => decide (p.1 ≠ l)
theorem drp_enc {α : Type} (g : α → V) (l : Str) : ∀ m : List (Str × α), (encG g m).filter (fun kv => decide (kv.1 ≠ (Sum.inr l : L2.Key))) = encG g (drp m l)
  | [] => rfl
  | p :: r => by
    have ih := drp_enc g l r
    unfold encG drp at *
    by_cases e : p.1 = l
    · have e2 : ¬ (Sum.inr p.1 : L2.Key) ≠ Sum.inr l := fun z => z (by rw [e])
      rw [List.map_cons, List.filter_cons, List.filter_cons, if_neg (by simpa using e2), if_neg (by simpa using e)]
      exact ih
    · have e2 : (Sum.inr p.1 : L2.Key) ≠ Sum.inr l := fun z => e (Sum.inr.inj z)
      rw [List.map_cons, List.filter_cons, List.filter_cons, if_pos (by simpa using e2), if_pos (by simpa using e), List.map_cons]
      rw [ih]
theorem drp_nodup {α : Type} {m : List (Str × α)} {l : Str} (h : (m.map (·.1)).Nodup) : ((drp m l).map (·.1)).Nodup := by
  unfold drp
  exact List.Nodup.sublist (List.Sublist.map _ List.filter_sublist) h
theorem drp_mem {α : Type} {m : List (Str × α)} {l : Str} {p : Str × α} (h : p ∈ drp m l) : p ∈ m := (List.mem_filter.mp h).1
theorem frs_drp {H : Hp} {l : Str} {ads : List (Str × Addr)} {vl : List (Str × (Int × Int))} (p : Paired (FrR H) ads vl) : Paired (FrR H) (drp ads l) (drp vl l) := by
  induction p with
  | nil => exact .nil
  | @cons x y xs ys h _ ih =>
    have e1 := h.1
    unfold drp at *
    by_cases e : x.1 = l
    · rw [List.filter_cons, List.filter_cons, if_neg (by simpa using e), if_neg (by rw [e1] at e; simpa using e)]
      exact ih
    · rw [List.filter_cons, List.filter_cons, if_pos (by simpa using e), if_pos (by rw [e1] at e; simpa using e)]
      exact .cons h ih
theorem frs_dict {H : Hp} {D : Addr} {kvs : List (L2.Key × V)} {o : HO} {ads : List (Str × Addr)} {vl : List (Str × (Int × Int))} (h : H D = some (.dK kvs)) (p : Paired (FrR H) ads vl) : Paired (FrR (L2.upd H D o)) ads vl := Paired.mono (fun x y z => by
  refine ⟨z.1, ?_⟩
  show L2.upd H D o x.2 = _
  rw [upd_ne (ne_of z.2 h (fun e => nomatch e))]
  exact z.2) p
theorem frs_keys {H : Hp} {ads : List (Str × Addr)} {vl : List (Str × (Int × Int))} (p : Paired (FrR H) ads vl) : ads.map (·.1) = vl.map (·.1) := by
  induction p with
  | nil => rfl
  | cons h _ ih => rw [List.map_cons, List.map_cons, h.1, ih]
/-- a dict of names with fractions, as the law has it -/
structure VlOk (H : Hp) (d : Addr) (ads : List (Str × Addr)) (vl : List (Str × (Int × Int))) : Prop where
  v : VlAt H d ads vl
  nd : (vl.map (·.1)).Nodup
  sm : ∀ p ∈ vl, FrSm 30 p.2
  few : vl.length ≤ 4
theorem VlOk.lk {H : Hp} {d : Addr} {ads : List (Str × Addr)} {vl : List (Str × (Int × Int))} (h : VlOk H d ads vl) : ∀ s u, lk vl s = some u → FrSm 30 u := fun s u e => h.sm _ (mem_of_lk e)
theorem VlOk.len {H : Hp} {d : Addr} {ads : List (Str × Addr)} {vl : List (Str × (Int × Int))} (h : VlOk H d ads vl) : ads.length = vl.length := by
  have := congrArg List.length (frs_keys h.v.2)
  rw [List.length_map, List.length_map] at this
  exact this
theorem VlOk.same {H H' : Hp} {d : Addr} {ads : List (Str × Addr)} {vl : List (Str × (Int × Int))} (s : Same H H') (h : VlOk H d ads vl) : VlOk H' d ads vl := ⟨h.v.same s, h.nd, h.sm, h.few⟩
/-- at each key its own value -/
theorem VlOk.hits {H : Hp} {d : Addr} {ads : List (Str × Addr)} {vl : List (Str × (Int × Int))} (h : VlOk H d ads vl) : ∀ p ∈ encG V.ref ads, ∃ c, p.2 = .ref c ∧ valV (encG V.ref ads) p.1 = some (.ref c) := fun p hp => by
  obtain ⟨x, hx, rfl⟩ := List.mem_map.mp hp
  refine ⟨x.2, rfl, ?_⟩
  show valV (encG V.ref ads) (Sum.inr x.1) = _
  rw [encG_val, lk_of_mem (l := x.1) (v := x.2) (by rw [frs_keys h.v.2]; exact h.nd) hx]
  rfl
/-! ### dict of a measure -/
theorem put_new {α : Type} : ∀ {m : List (Str × α)} {l : Str} {v : α}, l ∉ m.map (·.1) → put m l v = m ++ [(l, v)]
  | [], _, _, _ => rfl
  | p :: r, l, v, h => by
    have e : ¬ p.1 = l := fun z => h (by rw [List.map_cons, z]; exact List.mem_cons_self)
    rw [show put (p :: r) l v = p :: put r l v from if_neg e, put_new (m := r) fun z => h (by rw [List.map_cons]; exact List.mem_cons_of_mem _ z)]
    rfl
theorem merge_enc {α : Type} (g : α → V) : ∀ (b a : List (Str × α)), ((a ++ b).map (·.1)).Nodup → mergeK (encG g a) (encG g b) = encG g (a ++ b)
  | [], a, _ => by
    rw [List.append_nil]
    rfl
  | p :: r, a, h => by
    have e : a ++ p :: r = (a ++ [p]) ++ r := by rw [List.append_assoc]; rfl
    have nd : (a.map (·.1)).Nodup := by
      rw [List.map_append] at h
      exact (List.nodup_append.mp h).1
    have np : p.1 ∉ a.map (·.1) := fun z => by
      rw [List.map_append] at h
      exact (List.nodup_append.mp h).2.2 _ z _ (by rw [List.map_cons]; exact List.mem_cons_self) rfl
    have ih := merge_enc g r (a ++ [p]) (by rw [← e]; exact h)
    rw [e, ← ih]
    show mergeK (putK (encG g a) (Sum.inr p.1 : L2.Key) (g p.2)) (encG g r) = _
    rw [encG_put g p.1 p.2 a nd, put_new np]
/-- the pairs of a measure, as dict() reads them -/
theorem ms_pairs {K : PySem.W.Frag} {H : Hp} : ∀ {ts : List Addr} {m : Ms}, Paired (PrAt H) ts m → Paired (fun p kv => SqT K H p [kV kv.1, kv.2]) ts (enc m)
  | _, _, .nil => .nil
  | _, _, .cons h t => .cons (SqT.of h) (ms_pairs t)
end MK


set_option Elab.async false
set_option linter.all false
set_option maxRecDepth 100000
set_option maxHeartbeats 4000000
/-! sorted(set(xs)), xs a list of texts. -/
namespace MKS
open PySem PySem.Spec PyProof.Rows PySem.Froz
variable {P : Program} {w : World} {A : Around} {E : Value → Shared → Prop} {s : Shared}
/-- the texts l lie in the set at a, in an order that can be walked -/
def TxAt (P : Program) (w : World) (h : Heap) (a : Addr) (l : List Str) : Prop :=
  ∃ D : SD, h.get? a = some (sObj "set" D) ∧ TxOk P w D l ∧ l.Nodup ∧ L2.Ris D.2.2.place.toList ∧ (w.params.followText "set-order" = true ∨ D.2.2.led = true)
theorem TxAt.keep {h h' : Heap} {a : Addr} {l : List Str} (x : TxAt P w h a l) (k : ∀ o, h.get? a = some o → h'.get? a = some o) : TxAt P w h' a l := by
  obtain ⟨D, h1, r⟩ := x
  exact ⟨D, k _ h1, r⟩
theorem tail_ris {ep : Nat} {es1 : Array (Int × Value)} {t2 : SetTable} {b : Bool} (r : L2.Ris t2.place.toList) : L2.Ris (tailTx ep es1 t2 b).2.2.place.toList ∧ (tailTx ep es1 t2 b).2.2.led = t2.led := by
  unfold tailTx
  split
  · exact ⟨L2.relayAll_ris _ _ _, L2.relayAll_led _ _ _⟩
  · exact ⟨r, rfl⟩
theorem add_ris {D : SD} {h : Int} {v : Value} (r : L2.Ris D.2.2.place.toList) : L2.Ris (addTx h v D).2.2.place.toList ∧ (addTx h v D).2.2.led = D.2.2.led := by
  unfold addTx
  have h1 := L2.layNew_ris D.2.2 D.1 h v r
  have h2 := L2.layNew_led D.2.2 D.1 h v
  by_cases c : (layNew D.2.2 D.1 h v).2.1.plain = true
  · rw [if_pos c]
    obtain ⟨q1, q2⟩ := tail_ris (ep := D.2.1) (es1 := (layNew D.2.2 D.1 h v).1) (b := (layNew D.2.2 D.1 h v).2.2.1) (t2 := { (layNew D.2.2 D.1 h v).2.1 with plain := false }) h1
    exact ⟨q1, q2.trans h2⟩
  · rw [if_neg c]
    obtain ⟨q1, q2⟩ := tail_ris (ep := D.2.1) (es1 := (layNew D.2.2 D.1 h v).1) (b := (layNew D.2.2 D.1 h v).2.2.1) h1
    exact ⟨q1, q2.trans h2⟩
/-- a text that is there already -/
theorem add_old {a : Addr} {D : SD} {l : List Str} {k : Str} {u : Tok} {Q : Bool → Shared → Prop} (ho : s.heap.get? a = some (sObj "set" D)) (F : TxOk P w D l) (hk : k ∈ l) (hb : l.length < scanBound) (q : Q false s) :
    wpAny (model P w) A (setAddHashed a (.str k u) (hashStr w k)) Q E s := by
  obtain ⟨es, ep, t⟩ := D
  have dd : (sObj "set" (es, ep, t)).data = .set es ep t := rfl
  have ff : t.fits es.size = true := F.fit
  have ee : ElemsOf (strKind P w) es.toList := F.el
  have zz : es.size = l.length := F.sz
  obtain ⟨e, he, hz⟩ := (F.mem k).mp hk
  cases hr : List.findIdx? (fun e => (strKind P w).is k e.2) es.toList with
  | none =>
    have := List.findIdx?_eq_none_iff.mp hr e he
    rw [hz] at this
    cases this
  | some j =>
    unfold setAddHashed setAddHashedIn
    refine wpAny_holding (wpAny_bind (wpAny_setState_of ho dd ff ?_))
    dsimp only
    rw [byScan_of rfl (show es.size < scanBound by omega) ee, if_pos rfl]
    unfold setAddByScan
    refine wpAny_bind (wpAny_bind (wpAny_rule (wpAny_bind (wpAny_setScan_of (knd := strKind P w) (k := k) (is_str k u) ho dd ff ee ?_))))
    rw [hr]
    exact wpAny_pure (wpAny_pure q)
/-- setAdd of a text -/
theorem add_any {a : Addr} {l : List Str} {k : Str} {u : Tok} {Q : Bool → Shared → Prop} (T : TxAt P w s.heap a l) (hb : l.length + 1 < scanBound)
    (q : ∀ b h' l', (∀ c, c ≠ a → h'.get? c = s.heap.get? c) → TxAt P w h' a l' → (∀ z, z ∈ l' ↔ z = k ∨ z ∈ l) → l'.length ≤ l.length + 1 → Q b { s with heap := h' }) :
    wpAny (model P w) A (setAddHashed a (.str k u) (hashStr w k)) Q E s := by
  obtain ⟨D, h1, F, nd, r, ld⟩ := T
  by_cases hk : k ∈ l
  · refine add_old h1 F hk (by omega) ?_
    exact q false s.heap l (fun _ _ => rfl) ⟨D, h1, F, nd, r, ld⟩ (fun z => ⟨.inr, fun y => y.elim (fun e => by rw [e]; exact hk) id⟩) (Nat.le_succ _)
  · refine add_x h1 F hk hb ?_
    obtain ⟨r1, r2⟩ := add_ris (h := hashStr w k) (v := .str k u) r
    refine q true _ (k :: l) (fun c hc => Heap.get?_update_other _ _ (Ne.symm hc)) ⟨_, get_upd _ h1 rfl, add_ok u F, List.nodup_cons.mpr ⟨hk, nd⟩, r1, ld.imp id fun z => by rw [r2]; exact z⟩ (fun z => List.mem_cons) (Nat.le_refl _)
/-- what the loop has made of the first i texts -/
def Mid (P : Program) (w : World) (S : Addr) (xs : List Str) (i : Nat) (h : Heap) : Prop := ∃ l, TxAt P w h S l ∧ (∀ z, z ∈ l ↔ z ∈ xs.take i) ∧ l.length ≤ i
/-- the loop of set.update over a list of texts -/
theorem loop_txt {I : Addr} {fp wr : List Addr} {G : Array GenState → Array GenState → Prop} {n : Nat} {Pv : Nat → Value → Prop} {St : Nat → Shared → Prop} {R : Result → Shared → Prop} (W : WalksS P w A.in1 I fp wr G n Pv St) (S : Addr) (sf : S ∉ fp)
    (xs : List Str) (hn : n = xs.length) (hb : n + 1 < scanBound) (hv : ∀ i v, Pv i v → ∃ x t, xs[i]? = some x ∧ v = .str x t) : ∀ (m i : Nat) (s : Shared), n - i = m → i ≤ n → St i s → Mid P w S xs i s.heap →
      (∀ s', Moved (S :: wr) G s s' → Mid P w S xs n s'.heap → R (.ok (.ret .none)) s') → codeAny (model P w) A (.builtin "set.update.loop" ⟨[.ref S, .ref I], []⟩) R s := by
  have sw : S ∉ wr := fun z => sf (W.sub _ z)
  have up : ∀ b ∈ wr, b ∈ S :: wr := fun b z => .tail _ z
  have keep : ∀ {u v : Shared} {i : Nat}, Moved wr G u v → Mid P w S xs i u.heap → Mid P w S xs i v.heap := fun mv ⟨l, t, e, z⟩ => ⟨l, t.keep fun o q => mv.heap S o sw q, e, z⟩
  intro m
  induction m with
  | zero =>
    intro i s e1 e2 st md fin
    obtain rfl : i = n := by omega
    refine codeAny_builtin F.entry_set_update_loop ?_
    rw [Around.under_plainId F.plain_set_update_loop _]
    exact wpAny_bind (m := pyNext (.ref I)) (W.done s _ _ st fun u mv => wpAny_pure (fin u (mv.mono up) (keep mv md)))
  | succ m ih =>
    intro i s e1 e2 st md fin
    refine codeAny_builtin F.entry_set_update_loop ?_
    rw [Around.under_plainId F.plain_set_update_loop _]
    refine wpAny_bind (m := pyNext (.ref I)) (W.item i s _ _ (by omega) st fun v u pv st1 mv => ?_)
    obtain ⟨x, t, hx, rfl⟩ := hv i v pv
    obtain ⟨l, tx, mem, len⟩ := keep mv md
    refine wpAny_bind (m := holding [Value.str x t] (setAdd S (.str x t))) (wpAny_holding ?_)
    unfold setAdd
    refine wpAny_holding (wpAny_bind ((strKind P w).pyHash (k := x) (is_str x t) ?_))
    refine add_any (s := { u with toks := u.toks + 1 }) tx (by omega) fun b h' l' oth tx' mem' len' => ?_
    refine wpAny_pure ⟨plainId_quiet F.plain_set_update_loop _, ih (i + 1) _ (by omega) (by omega) (W.frame _ u _ _ st1 (Nat.le_succ _) fun c hc o q => ?_) ⟨l', tx', fun z => ?_, by omega⟩ fun r mv2 md2 => ?_⟩
    · rw [oth c fun z => sf (z ▸ hc)]
      exact q
    · rw [mem' z, mem z, MK.take_more hx, List.mem_append, List.mem_singleton]
      exact Or.comm
    · refine fin r (Moved.trans W.gtrans ((mv.mono up).then_heap (Nat.le_succ _) fun c o hc q => ?_) mv2) md2
      rw [oth c fun z => hc (z ▸ .head _)]
      exact q
/-- a new set, empty -/
abbrev newO (w : World) : Obj := { cls := .type "set", dict := none, data := .set #[] 0 (.fresh 0 0 (!w.params.followText "set-order")) }
theorem new_tx {h : Heap} {a : Addr} (e : h.get? a = some (newO w)) : TxAt P w h a [] :=
  ⟨(#[], 0, .fresh 0 0 (!w.params.followText "set-order")), e, TxOk.nil rfl, List.nodup_nil, List.Pairwise.nil, by
    cases c : w.params.followText "set-order"
    · exact .inr rfl
    · exact .inl rfl⟩
theorem txt_item {us : List Value} {xs : List Str} (h : StrsAre us xs) : ∀ {i : Nat} {v : Value}, us[i]? = some v → ∃ x t, xs[i]? = some x ∧ v = .str x t := by
  induction h with
  | nil => exact fun q => by simp at q
  | cons n t _ ih =>
    intro i v q
    cases i with
    | zero => exact ⟨n, t, rfl, (Option.some.inj q).symm⟩
    | succ i => exact ih (by simpa using q)
set_option maxHeartbeats 8000000 in
/-- set(xs), xs a list of texts -/
theorem set_of {l : Addr} {items : Array Value} {xs : List Str} {Q : Value → Shared → Prop} (hh : A.handled = none) (hl : s.heap.IsList l items) (hx : StrsAre items.toList xs) (hb : xs.length + 1 < scanBound)
    (q : ∀ (h' : Heap) (tk : Nat) (ys : List Str), TxAt P w h' s.heap.objs.size ys → (∀ z, z ∈ ys ↔ z ∈ xs) → ys.length ≤ xs.length → (∀ b o, s.heap.get? b = some o → h'.get? b = some o) → Q (.ref s.heap.objs.size) { s with heap := h', toks := tk }) :
    wpAny (model P w) A (call (.type "set") [.ref l]) Q E s := by
  have hn : items.size = xs.length := by rw [← StrsAre.len_eq hx, Array.length_toList]
  obtain ⟨c, tl, hmro⟩ := F.called_set.mro
  have h1 := F.called_set.notType
  have h2 := F.called_set.canCreate
  have h3 := F.called_set.made
  have h4 := F.called_set.sub
  have h5 := F.typeCall_set_1 (.ref l)
  refine wpAny_call (codeAny_of_tree (wpAny_pure ⟨Code.quiet_builtin _ (by decide +kernel), codeAny_builtin F.entry_type_call ?_⟩))
  rw [Around.under_plain (weight_type_call_type "set" [.ref l] []) rfl]
  repeat (any_goals (first | assumption | wp_step))
  refine codeAny_mono (L2.code_set_led1 (.ref l) (E := E) (Q₁ := fun v u => v = .ref s.heap.objs.size ∧ u = { s with heap := s.heap.push (newO w) }) ⟨rfl, rfl⟩) fun r u hr => ?_
  cases r with
  | error e => exact hr
  | ok fl =>
    cases fl with
    | ret v =>
      obtain ⟨rfl, rfl⟩ := hr
      have hS : (s.heap.push (newO w)).get? s.heap.objs.size = some (newO w) := Heap.get?_push_size _ rfl
      have hT : Shared.TypeIs { s with heap := s.heap.push (newO w) } (.ref s.heap.objs.size) "set" := ⟨_, hS, rfl⟩
      have h6 := F.called_set.init.lookup
      have h7 := F.called_set.init.bind (.ref s.heap.objs.size)
      repeat (any_goals (first | assumption | wp_step))
      refine codeAny_mono (codeAny_call_builtin (R := wants (fun v u => v = .none ∧ ∃ h' tk, u = { s with heap := h', toks := tk } ∧ Mid P w s.heap.objs.size xs xs.length h' ∧ (∀ b o, s.heap.get? b = some o → h'.get? b = some o)) E) F.called_set.init.plain F.entry_set_init (check_set_init_1 hT ?_)) fun r u hr => ?_
      · obtain ⟨⟨oc, od, oda, os⟩, e1, e2, nl, e3⟩ := hl
        dsimp only at e2 e3
        subst e2 e3
        have g1 : (s.heap.push (newO w)).get? l = some ⟨.type "list", od, .seq items nl, os⟩ := Heap.get?_push_of_some _ e1
        have g2 : (s.heap.push (newO w)).IsList l items := ⟨_, g1, rfl, nl, rfl⟩
        have g3 := F.sub_list_set
        have g4 := F.sub_list_frozenset
        have g5 : (Value.type "list" == Value.type "dict") = false := by decide
        unfold Builtin.«set.__init__» noKeywords Builtin.Frozenset.updateFrom
        generalize hPI : pyIter = PI
        wp_walk
        subst hPI
        have lt : l < s.heap.objs.size := Heap.lt_size e1
        have sz : (s.heap.push (newO w)).objs.size = s.heap.objs.size + 1 := Heap.size_push ..
        have ne : l ≠ (s.heap.push (newO w)).objs.size := by
          rw [sz]
          exact Nat.ne_of_lt (Nat.lt_succ_of_lt lt)
        refine wpAny_pyIter_list g2 (wpAny_bind (wpAny_runValue ?_))
        refine loop_txt (A := A.in1.in1) ((Walks.list (show A.in1.in1.in1.handled = none by simp [hh]) _ l ne items).toS) s.heap.objs.size (fun z => ?_) xs hn (by omega) (fun i v z => txt_item hx (by rw [Array.getElem?_toList]; exact z)) (items.size - 0) 0 _ rfl (Nat.zero_le _) ⟨⟨_, Heap.get?_push_size _ rfl, rfl, rfl⟩, g2.push _⟩
          ⟨[], new_tx (Heap.get?_push_of_some _ hS), fun z => by simp, Nat.le_refl _⟩ fun u mv md => ?_
        · rcases List.mem_cons.mp z with z | z
          · rw [sz] at z
            exact absurd z (Nat.ne_of_lt (Nat.lt_succ_self _))
          · exact absurd lt (by rw [← List.mem_singleton.mp z]; exact Nat.lt_irrefl _)
        · obtain ⟨h', g', d', tk', os'⟩ := u
          obtain rfl : g' = s.gens := mv.gens
          obtain rfl : d' = s.drawn := mv.drawn
          obtain rfl : os' = s.os := mv.os
          rw [hn] at md
          refine wpAny_pure (wpAny_pure ⟨rfl, h', tk', rfl, md, fun b o z => mv.heap b o (fun y => ?_) (Heap.get?_push_of_some _ (Heap.get?_push_of_some _ z))⟩)
          have := Heap.lt_size z
          rcases List.mem_cons.mp y with y | y
          · exact absurd this (by rw [y]; exact Nat.lt_irrefl _)
          · rw [List.mem_singleton.mp y, sz] at this
            exact absurd this (Nat.not_lt_of_le (Nat.le_succ _))
      · cases r with
        | error e => exact hr
        | ok fl =>
          cases fl with
          | ret v =>
            obtain ⟨rfl, h', tk, rfl, ⟨ys, t, mem, len⟩, kp⟩ := hr
            repeat (any_goals (first | assumption | wp_step))
            exact q h' tk ys t (fun z => by rw [mem z, List.take_length]) len kp
          | _ => exact hr.elim
    | _ => exact hr.elim
/-- as many different ones as the other list has items: the same items -/
theorem perm_few : ∀ {l m : List Str}, l.Nodup → (∀ x ∈ l, x ∈ m) → m.length ≤ l.length → l.Perm m
  | [], m, _, _, h => by
    have : m = [] := List.length_eq_zero_iff.mp (by simpa using h)
    rw [this]
  | x :: r, m, nd, sub, h => by
    obtain ⟨n1, n2⟩ := List.nodup_cons.mp nd
    have hx := sub x (.head _)
    have e := List.length_erase_of_mem hx
    have h' : m.length ≤ r.length + 1 := h
    have p := perm_few (m := m.erase x) n2 (fun y hy => (List.mem_erase_of_ne fun z : y = x => n1 (by rw [← z]; exact hy)).mpr (sub y (.tail _ hy))) (by omega)
    exact (p.cons x).trans (List.perm_cons_erase hx).symm
def keyS (v : Value) : Str := match v with | .str x _ => x | _ => Str.empty
theorem strs_all : ∀ vs : List Value, (∀ v ∈ vs, ∃ x t, v = Value.str x t) → StrsAre vs (vs.map keyS)
  | [], _ => .nil
  | v :: r, h => by
    obtain ⟨x, t, rfl⟩ := h v (.head _)
    exact .cons x t (strs_all r fun u hu => h u (.tail _ hu))
/-- sorted(set) of texts -/
theorem sorted_txt {a : Addr} {l : List Str} {Q : Value → Shared → Prop} (T : TxAt P w s.heap a l) (hh : A.handled = none) (hb : l.length < scanBound)
    (q : ∀ s' p (out : Array Value) (c : Nat) (ys : List Str), (∀ b o, s.heap.get? b = some o → s'.heap.get? b = some o) → s'.gens = s.gens → s'.os = s.os → s.heap.objs.size ≤ p → s'.heap.get? p = some (seqObj "list" out c) → StrsAre out.toList ys → ys.Perm l → sortedS ys = true → Q (.ref p) s') :
    wpAny (model P w) A (call (.builtin "sorted") [.ref a]) Q E s := by
  obtain ⟨⟨es, ep, t⟩, h1, F, nd, r, ld⟩ := T
  have zz : es.size = l.length := F.sz
  have fit : t.fits es.size = true := F.fit
  refine Calls.call_function_entry PyProof.Rows.kind_sorted PyProof.Rows.plain_sorted PyProof.Rows.entry_sorted (PyProof.Rows.args_sorted1 _) ?_
  unfold Builtin.«sorted»
  refine wpAny_bind (m := checkCount "sorted" 1 1 _) (wpAny_pure (wpAny_bind (L2.collect_set (A := A.in1) hh ⟨_, h1, rfl, rfl⟩ fit (show es.size < scanBound by omega) r ld fun u vs k1 sz g1 o1 pm => ?_)))
  have dv : (sObj "set" (es, ep, t)).data = .set es ep t := rfl
  have el : ElemsOf (strKind P w) es.toList := F.el
  have vl : vs.length = l.length := by rw [pm.length_eq, List.length_map, Array.length_toList, zz]
  obtain ⟨ks, hk, pk⟩ : ∃ ks : List Str, StrsAre vs ks ∧ ks.Perm l := by
    have st : ∀ e ∈ es.toList, ∃ x t, e.2 = Value.str x t := fun e he => by
      obtain ⟨⟨x, hx, _⟩, _⟩ := el e he
      obtain ⟨t, ht⟩ := Value.isStrOf_shape (show Value.isStrOf x e.2 = true from hx)
      exact ⟨x, t, ht⟩
    refine ⟨vs.map keyS, strs_all vs fun v hv => ?_, ?_⟩
    · obtain ⟨e, he, rfl⟩ := List.mem_map.mp (pm.mem_iff.mp hv)
      exact st e he
    · have p2 : (vs.map keyS).Perm ((es.toList.map (·.2)).map keyS) := pm.map keyS
      refine p2.trans (perm_few nd (fun x hx => ?_) ?_).symm
      · obtain ⟨e, he, hz⟩ := (F.mem x).mp hx
        obtain ⟨t, ht⟩ := Value.isStrOf_shape (show Value.isStrOf x e.2 = true from hz)
        refine List.mem_map.mpr ⟨e.2, List.mem_map.mpr ⟨e, he, rfl⟩, ?_⟩
        rw [ht]
        rfl
      · rw [List.length_map, List.length_map, Array.length_toList]
        omega
  have lz : vs.length ≤ sizeLine := by rw [vl]; exact Nat.le_trans (Nat.le_of_lt hb) (by decide)
  refine wpAny_bind (wpAny_newList ?_ lz)
  have hoL : (u.heap.push (seqObj "list" vs.toArray 0)).get? u.heap.objs.size = some (seqObj "list" vs.toArray 0) := Heap.get?_push_size _ rfl
  refine wpAny_bind (wpAny_holding (wpAny_call_entry PyProof.Rows.slot_list_sort ⟨_, hoL, rfl⟩ PyProof.Rows.entry_list_sort
    (list_sort_treeKAny strKind_oneLt (s := { u with heap := u.heap.push (seqObj "list" vs.toArray 0) }) hoL hk.keysOf (fun v₁ v₂ rest e => keyKind_strs (by rw [← e]; exact hk)) lz fun st' hp hs => ⟨_, rfl, ?_⟩)
    (PyProof.Rows.args_list_sort _)))
  obtain ⟨ys, y1, y2, y3⟩ := sorted_out_str hk hp hs
  obtain ⟨c, hc⟩ := PyProof.Rows.sortedHeap_at (vs := vs) (out := (arrOf st').map (·.2)) hoL
  refine wpAny_pure ⟨_, rfl, q _ u.heap.objs.size _ c ys (fun b o e => ?_) g1 o1 sz hc y1 (y2.trans pk) y3⟩
  have lt := Heap.lt_size (k1 b o e)
  rw [PyProof.Rows.sortedHeap_old (Nat.ne_of_lt lt) (by rw [size_push']; exact Nat.lt_succ_of_lt lt)]
  exact Heap.get?_push_of_some _ (k1 b o e)
end MKS
namespace L2
open PySem PySem.Spec PyProof.Rows
/-- a set of texts, as it lies there -/
def TxO (P : Program) (w : World) (a : Addr) (l : List Str) : HO := .ext fun h => MKS.TxAt P w h a l
theorem txO_new {P : Program} {w : World} {H : Hp} {h : Heap} {a : Addr} {l : List Str} (t : MKS.TxAt P w h a l) : ObjOk P w H h a (TxO P w a l) := by
  obtain ⟨D, h1, r⟩ := id t
  refine ⟨t, ⟨_, h1⟩, fun h1 h2 p k => ?_⟩
  exact MKS.TxAt.keep p fun o e => k o e
section
variable {X : Cx}
/-- set(xs), xs a list of texts -/
def rSetTx (K : PySem.W.Frag) (P : Program) (w : World) : List V → Hp → VK → Prop := fun xs H Q => ∃ (l : Addr) (zs : List Str), xs = [V.ref l] ∧ SqL K H l (zs.map V.str) ∧ zs.length ≤ 1000 ∧
  ∀ a ys, H a = none → (∀ z, z ∈ ys ↔ z ∈ zs) → ys.length ≤ zs.length → Q (.ref a) (upd H a (TxO P w a ys))
theorem strs_vals : ∀ {zs : List Str} {us : List Value}, Vals (zs.map V.str) us → StrsAre us zs
  | [], _, .nil => .nil
  | z :: zs, _, .cons r t => by
    obtain ⟨k, rfl⟩ := r
    exact .cons z k (strs_vals t)
theorem cr_setTx (hc : X.calm = true) : CallR X (.type "set") (rSetTx X.K X.prog X.w) := by
  intro pins s σ H xs us Q I r h
  obtain ⟨l, zs, rfl, hl, hf, q⟩ := h
  rw [Vals.ref1 r]
  obtain ⟨its, rv, pl, hz⟩ := I.list hl
  refine MKS.set_of (P := X.prog) (w := X.w) (I.ok.hd hc) pl.isList (by simpa using strs_vals rv) (Nat.lt_of_le_of_lt (Nat.add_le_add_right hf 1) (by decide)) fun h' tk ys t mem len k => ?_
  exact ⟨.ref s.heap.objs.size, upd H s.heap.objs.size (TxO X.prog X.w s.heap.objs.size ys), I.laid (t' := tk) k (Nat.le_refl _) (txO_new t), rfl, q _ ys (I.hok.fresh (Nat.le_refl _)) mem len⟩
/-- sorted(s), s a set of texts: a new list of these, rising -/
def rSortedTx (P : Program) (w : World) : List V → Hp → VK → Prop := fun xs H Q => ∃ (a : Addr) (l : List Str), xs = [V.ref a] ∧ H a = some (TxO P w a l) ∧ l.length ≤ 1000 ∧
  ∀ ys p, ys.Perm l → ys.Nodup → sortedS ys = true → H p = none → Q (.ref p) (upd H p (.lst (ys.map V.str)))
theorem vals_txt : ∀ {us : List Value} {ys : List Str}, StrsAre us ys → Vals (ys.map V.str) us := fun h => by
  induction h with
  | nil => exact .nil
  | cons n t _ ih => exact .cons ⟨t, rfl⟩ ih
theorem cr_sortedTx (hc : X.calm = true) : CallR X (.builtin "sorted") (rSortedTx X.prog X.w) := by
  intro pins s σ H xs us Q I r h
  obtain ⟨a, l, rfl, ha, hf, q⟩ := h
  have t : MKS.TxAt X.prog X.w s.heap a l := (I.hok a _ ha).1
  rw [Vals.ref1 r]
  have nd : l.Nodup := by
    obtain ⟨_, _, _, z, _⟩ := id t
    exact z
  refine MKS.sorted_txt t (I.ok.hd hc) (Nat.lt_of_le_of_lt hf (by decide)) fun s' p out c ys k g o hp hg hy pm so => ?_
  have hn : H p = none := I.hok.fresh hp
  have lz : (ys.map V.str).length ≤ sizeLine := by
    rw [List.length_map, pm.length_eq]
    exact Nat.le_trans hf (by decide)
  have J : Inv X pins σ (upd H p (.lst (ys.map V.str))) { s with heap := s'.heap, gens := s'.gens, drawn := s'.drawn, toks := s'.toks } :=
    I.call (ch := []) (Un.laid k hp hn) (I.hok.laid k hp ⟨lz, out.toList, c, vals_txt hy, hg⟩) (by rw [g]; exact I.bare) (fun _ z => nomatch z)
  have e : s' = { s with heap := s'.heap, gens := s'.gens, drawn := s'.drawn, toks := s'.toks } := by
    obtain ⟨_, _, _, _, _⟩ := s'
    obtain ⟨_, _, _, _, _⟩ := s
    obtain rfl := o
    rfl
  rw [e]
  exact ⟨.ref p, _, J, rfl, q ys p pm (pm.nodup_iff.mpr nd) so hn⟩
end
end L2


set_option Elab.async false
set_option linter.all false
set_option maxRecDepth 100000
set_option maxHeartbeats 4000000
/-! What a reckoning's measure is by a choice, part by part, and what has to be alike. -/
namespace MK
open PySem PySem.Spec PyProof.Rows L2
/-- one's powers, and x times the other's -/
def IsTms (m n : Ms) (x : Int) (r : Ms) : Prop := Can r ∧ ∀ j, at0 r j = at0 m j + at0 n j * x
open Classical in
/-- the one measure of these powers -/
noncomputable def mulC (m n : Ms) (x : Int) : Ms := if h : ∃ r, IsTms m n x r then h.choose else []
theorem mulC_is {m n r : Ms} {x : Int} (h : IsTms m n x r) : mulC m n x = r := by
  have e : ∃ r, IsTms m n x r := ⟨r, h⟩
  unfold mulC
  rw [dif_pos e]
  have c := e.choose_spec
  exact can_ext c.1 h.1 fun j => (c.2 j).trans (h.2 j).symm
/-- a measure of at most l letters, powers below 2 ^ b -/
structure MsB (l b : Nat) (m : Ms) : Prop where
  can : Can m
  few : m.length ≤ l
  sm : ∀ p ∈ m, p.2.natAbs < 2 ^ b
theorem MsB.mono {l b l' b' : Nat} {m : Ms} (h : MsB l b m) (hl : l ≤ l') (hb : b ≤ b') : MsB l' b' m := ⟨h.can, Nat.le_trans h.few hl, fun p hp => Nat.lt_of_lt_of_le (h.sm p hp) (Nat.pow_le_pow_right (by decide) hb)⟩
theorem MsB.nil {l b : Nat} : MsB l b [] := ⟨can_nil, Nat.zero_le _, fun p hp => absurd hp (by simp)⟩
theorem MsB.at {l b : Nat} {m : Ms} (h : MsB l b m) (j : Str) : (at0 m j).natAbs < 2 ^ b := by
  by_cases e : at0 m j = 0
  · rw [e]
    exact Nat.two_pow_pos b
  · exact h.sm _ (at0_mem e)
theorem MsB.tms {l k b : Nat} {m n r : Ms} {x : Int} (h : MsB l b m) (g : MsB k b n) (hx : x.natAbs ≤ 4) (t : IsTms m n x r) : MsB (l + k) (b + 3) r := by
  obtain ⟨c, e⟩ := t
  refine ⟨c, ?_, fun p hp => ?_⟩
  · have sub : ∀ z ∈ r.map (·.1), z ∈ m.map (·.1) ++ n.map (·.1) := fun z hz => by
      obtain ⟨p, hp, rfl⟩ := List.mem_map.mp hz
      have q := (c.mem p.1 p.2).mp hp
      by_cases z1 : at0 m p.1 = 0
      · refine List.mem_append_right _ (List.mem_map.mpr ⟨_, at0_mem (m := n) (j := p.1) fun z2 => q.1 ?_, rfl⟩)
        rw [← q.2, e, z1, z2]
        omega
      · exact List.mem_append_left _ (List.mem_map.mpr ⟨_, at0_mem z1, rfl⟩)
    have := List.Nodup.length_le_of_subset c.ris.nodup sub
    rw [List.length_map, List.length_append, List.length_map, List.length_map] at this
    have := h.few
    have := g.few
    omega
  · have q := (c.mem p.1 p.2).mp hp
    have a1 := h.at p.1
    have a2 := g.at p.1
    rw [← q.2, e]
    have a3 : (at0 n p.1 * x).natAbs ≤ (at0 n p.1).natAbs * 4 := by
      rw [Int.natAbs_mul]
      exact Nat.mul_le_mul_left _ hx
    have e8 : 2 ^ (b + 3) = 2 ^ b * 8 := Nat.pow_add 2 b 3
    omega
/-- how many leaves -/
def Rk.lvs : Rk → Nat
  | .bin _ a b => a.lvs + b.lvs
  | .power a _ => a.lvs
  | .less a b c d => a.lvs + b.lvs + c.lvs + d.lvs
  | _ => 1
/-- its measure, and what has to be alike, by a choice -/
noncomputable def walk (env : Str → Ms) : Rk → List Ms → Ms × List Ms
  | .is _ _ m, _ => (m, [])
  | .nought, g => (g.headD [], [])
  | .input s, _ => (env s, [])
  | .bin o a b, g => match o with
    | .times => (mulC (walk env a g).1 (walk env b (g.drop a.noughts)).1 1, (walk env a g).2 ++ (walk env b (g.drop a.noughts)).2)
    | .over => (mulC (walk env a g).1 (walk env b (g.drop a.noughts)).1 (-1), (walk env a g).2 ++ (walk env b (g.drop a.noughts)).2)
    | _ => ((walk env a g).1, (walk env a g).2 ++ (walk env b (g.drop a.noughts)).2 ++ [mulC (walk env a g).1 (walk env b (g.drop a.noughts)).1 (-1)])
  | .power a n, g => (mulC [] (walk env a g).1 n, (walk env a g).2)
  | .less a b c d, g => ((walk env c (g.drop (a.noughts + b.noughts))).1,
      (walk env a g).2 ++ (walk env b (g.drop a.noughts)).2 ++ (walk env c (g.drop (a.noughts + b.noughts))).2 ++ (walk env d (g.drop (a.noughts + b.noughts + c.noughts))).2 ++
        [mulC (walk env a g).1 (walk env b (g.drop a.noughts)).1 (-1)] ++ [mulC (walk env c (g.drop (a.noughts + b.noughts))).1 (walk env d (g.drop (a.noughts + b.noughts + c.noughts))).1 (-1)])
/-- the parts, each by what is left of the noughts -/
noncomputable def walks (env : Str → Ms) : List Rk → List Ms → List (Ms × List Ms)
  | [], _ => []
  | x :: r, g => walk env x g :: walks env r (g.drop x.noughts)
theorem walks_len (env : Str → Ms) : ∀ (l : List Rk) (g : List Ms), (walks env l g).length = l.length
  | [], _ => rfl
  | x :: r, g => congrArg (· + 1) (walks_len env r (g.drop x.noughts))
def nsum (l : List Rk) : Nat := (l.map Rk.noughts).sum
theorem walks_at (env : Str → Ms) : ∀ (l : List Rk) (g : List Ms) {i : Nat} {x : Rk}, l[i]? = some x → (walks env l g)[i]? = some (walk env x (g.drop (nsum (l.take i))))
  | [], g, i, x, h => by simp at h
  | y :: r, g, 0, x, h => by
    obtain rfl : y = x := Option.some.inj h
    show some (walk env y g) = _
    rw [List.take_zero]
    rfl
  | y :: r, g, i + 1, x, h => by
    have e := walks_at env r (g.drop y.noughts) (i := i) (x := x) (by simpa using h)
    show (walks env r (g.drop y.noughts))[i]? = _
    rw [e, List.drop_drop]
    rfl
theorem nsum_more {l : List Rk} {i : Nat} {x : Rk} (h : l[i]? = some x) : nsum (l.take (i + 1)) = nsum (l.take i) + x.noughts := by
  unfold nsum
  rw [take_more h, List.map_append, List.sum_append]
  show _ + (x.noughts + 0) = _
  omega
theorem mulC_b {l k b : Nat} {m n : Ms} {x : Int} (h : MsB l b m) (g : MsB k b n) (hx : x.natAbs ≤ 4) : MsB (l + k) (b + 3) (mulC m n x) := by
  by_cases e : ∃ r, IsTms m n x r
  · obtain ⟨r, t⟩ := e
    rw [mulC_is t]
    exact h.tms g hx t
  · unfold mulC
    rw [dif_neg e]
    exact .nil
/-! ### in the heap -/
theorem fne {H : Hp} {D p : Addr} {xs : List V} {o : HO} {u : HO} (h : H D = some (.lst xs)) (e : H p = some u) (n : u ≠ .lst xs) : L2.upd H D o p = some u := by
  rw [upd_ne (fun z => n (by rw [z, h] at e; exact (Option.some.inj e).symm))]
  exact e
theorem MsN.lst {H : Hp} {D b : Addr} {xs : List V} {o : HO} {m : Ms} (h : H D = some (.lst xs)) (q : MsN H b m) : MsN (L2.upd H D o) b m := by
  obtain ⟨ts, ⟨ob, e, d⟩, p⟩ := q
  exact ⟨ts, ⟨ob, fne h e (fun z => nomatch z), d⟩, pr_list h p⟩
theorem tr_list {H : Hp} {D : Addr} {xs : List V} {o : HO} (h : H D = some (.lst xs)) : ∀ {r : Rk} {p : Addr}, TrAt H r p → TrAt (L2.upd H D o) r p
  | .is x y m, p, ⟨q, b, h1, h2, h3⟩ => ⟨q, b, fne h h1 (fun z => nomatch z), fne h h2 (fun z => nomatch z), h3.lst h⟩
  | .nought, p, e => fne h e (fun z => nomatch z)
  | .input z, p, e => fne h e (fun z => nomatch z)
  | .bin op a b, p, ⟨q, r, h1, h2, h3⟩ => ⟨q, r, fne h h1 (fun z => nomatch z), tr_list h h2, tr_list h h3⟩
  | .power a n, p, ⟨q, h1, h2⟩ => ⟨q, fne h h1 (fun z => nomatch z), tr_list h h2⟩
  | .less a b c d, p, ⟨q, r, u, v, h1, h2, h3, h4, h5⟩ => ⟨q, r, u, v, fne h h1 (fun z => nomatch z), tr_list h h2, tr_list h h3, tr_list h h4, tr_list h h5⟩
abbrev NmR (H : Hp) (x : Str × Addr) (y : Str × Ms) : Prop := x.1 = y.1 ∧ MsN H x.2 y.2
/-- a dict of names with measures -/
def NmAt (H : Hp) (d : Addr) (ads : List (Str × Addr)) (fl : List (Str × Ms)) : Prop := H d = some (.dK (encG V.ref ads)) ∧ Paired (NmR H) ads fl
theorem NmAt.same {H H' : Hp} {d : Addr} {ads : List (Str × Addr)} {fl : List (Str × Ms)} (s : Same H H') (h : NmAt H d ads fl) : NmAt H' d ads fl := ⟨s _ _ h.1, Paired.mono (fun x y z => ⟨z.1, z.2.same s⟩) h.2⟩
theorem nm_lk {H : Hp} {ads : List (Str × Addr)} {fl : List (Str × Ms)} (p : Paired (NmR H) ads fl) (l : Str) : (lk ads l = none ∧ lk fl l = none) ∨ ∃ b m, lk ads l = some b ∧ lk fl l = some m ∧ MsN H b m := by
  induction p with
  | nil => exact .inl ⟨rfl, rfl⟩
  | @cons x y xs ys h _ ih =>
    obtain ⟨h1, h2⟩ := h
    by_cases e : x.1 = l
    · exact .inr ⟨x.2, y.2, if_pos e, if_pos (h1 ▸ e), h2⟩
    · have e' : ¬ y.1 = l := fun z => e (h1.trans z)
      rw [show lk (x :: xs) l = lk xs l from if_neg e, show lk (y :: ys) l = lk ys l from if_neg e']
      exact ih
theorem nm_get {H : Hp} {d : Addr} {ads : List (Str × Addr)} {fl : List (Str × Ms)} (h : NmAt H d ads fl) {l : Str} (n : lk fl l ≠ none) : ∃ b m, lk fl l = some m ∧ DGet H d (.str l) (some (.ref b)) ∧ MsN H b m := by
  rcases nm_lk h.2 l with ⟨_, a2⟩ | ⟨b, m, a1, a2, a3⟩
  · exact absurd a2 n
  · refine ⟨b, m, a2, ?_, a3⟩
    have := DGet.k (k := Sum.inr l) h.1
    rw [encG_val, a1] at this
    exact this
theorem cut_drop {xs : List V} {k : Nat} (h : k ≤ xs.length) : cutV xs (some (k : Int)) none = xs.drop k := by
  unfold cutV
  rw [HT.sIx_nat, HT.sIx_none, Nat.min_eq_left h, List.take_of_length_le (by rw [List.length_drop]; exact Nat.le_refl _)]
theorem paired_drop {α β : Type} {G : α → β → Prop} : ∀ (k : Nat) {l : List α} {m : List β}, Paired G l m → Paired G (l.drop k) (m.drop k)
  | 0, _, _, p => p
  | _ + 1, _, _, .nil => .nil
  | k + 1, _, _, .cons _ t => paired_drop k t
/-! ### of the parts -/
theorem part_of {r x : Rk} (h : x ∈ r.parts) (ok : r.Ok) : x.Ok ∧ (∀ s ∈ x.ins, s ∈ r.ins) ∧ x.lvs ≤ r.lvs := by
  cases r with
  | is _ _ _ => exact absurd h (by show x ∉ []; simp)
  | nought => exact absurd h (by show x ∉ []; simp)
  | input _ => exact absurd h (by show x ∉ []; simp)
  | bin o a b =>
    obtain ⟨o1, o2⟩ := ok
    rcases List.mem_cons.mp h with e | h
    · rw [e]; exact ⟨o1, fun s hs => List.mem_append_left _ hs, Nat.le_add_right _ _⟩
    · rw [List.mem_singleton.mp h]; exact ⟨o2, fun s hs => List.mem_append_right _ hs, Nat.le_add_left _ _⟩
  | power a n =>
    rw [List.mem_singleton.mp h]
    exact ⟨ok.1, fun s hs => hs, Nat.le_refl _⟩
  | less a b c d =>
    obtain ⟨o1, o2, o3, o4⟩ := ok
    have e : (Rk.less a b c d).lvs = a.lvs + b.lvs + c.lvs + d.lvs := rfl
    rcases List.mem_cons.mp h with q | h
    · rw [q]; exact ⟨o1, fun s hs => List.mem_append_left _ (List.mem_append_left _ (List.mem_append_left _ hs)), by omega⟩
    · rcases List.mem_cons.mp h with q | h
      · rw [q]; exact ⟨o2, fun s hs => List.mem_append_left _ (List.mem_append_left _ (List.mem_append_right _ hs)), by omega⟩
      · rcases List.mem_cons.mp h with q | h
        · rw [q]; exact ⟨o3, fun s hs => List.mem_append_left _ (List.mem_append_right _ hs), by omega⟩
        · rw [List.mem_singleton.mp h]; exact ⟨o4, fun s hs => List.mem_append_right _ hs, by omega⟩
theorem nsum_parts (r : Rk) : nsum r.parts ≤ r.noughts := by
  cases r with
  | is _ _ _ => exact Nat.zero_le _
  | nought => exact Nat.zero_le _
  | input _ => exact Nat.zero_le _
  | bin o a b =>
    show a.noughts + (b.noughts + 0) ≤ a.noughts + b.noughts
    omega
  | power a n =>
    show a.noughts + 0 ≤ a.noughts
    omega
  | less a b c d =>
    show a.noughts + (b.noughts + (c.noughts + (d.noughts + 0))) ≤ a.noughts + b.noughts + c.noughts + d.noughts
    omega
theorem nsum_le : ∀ (l : List Rk) (i : Nat), nsum (l.take i) ≤ nsum l
  | [], i => by rw [List.take_nil]; exact Nat.le_refl _
  | x :: r, 0 => Nat.zero_le _
  | x :: r, i + 1 => by
    have := nsum_le r i
    show x.noughts + nsum (r.take i) ≤ x.noughts + nsum r
    omega
theorem walk_len (env : Str → Ms) : ∀ (r : Rk) (g : List Ms), (walk env r g).2.length + 1 ≤ r.lvs
  | .is _ _ _, _ => Nat.le_refl _
  | .nought, _ => Nat.le_refl _
  | .input _, _ => Nat.le_refl _
  | .bin o a b, g => by
    have h1 := walk_len env a g
    have h2 := walk_len env b (g.drop a.noughts)
    have e : (Rk.bin o a b).lvs = a.lvs + b.lvs := rfl
    cases o with
    | times =>
      show ((walk env a g).2 ++ (walk env b (g.drop a.noughts)).2).length + 1 ≤ _
      rw [List.length_append]; omega
    | over =>
      show ((walk env a g).2 ++ (walk env b (g.drop a.noughts)).2).length + 1 ≤ _
      rw [List.length_append]; omega
    | plus =>
      show ((walk env a g).2 ++ (walk env b (g.drop a.noughts)).2 ++ [_]).length + 1 ≤ _
      rw [List.length_append, List.length_append, List.length_singleton]; omega
    | minus =>
      show ((walk env a g).2 ++ (walk env b (g.drop a.noughts)).2 ++ [_]).length + 1 ≤ _
      rw [List.length_append, List.length_append, List.length_singleton]; omega
  | .power a n, g => walk_len env a g
  | .less a b c d, g => by
    have h1 := walk_len env a g
    have h2 := walk_len env b (g.drop a.noughts)
    have h3 := walk_len env c (g.drop (a.noughts + b.noughts))
    have h4 := walk_len env d (g.drop (a.noughts + b.noughts + c.noughts))
    have e : (Rk.less a b c d).lvs = a.lvs + b.lvs + c.lvs + d.lvs := rfl
    show ((walk env a g).2 ++ (walk env b (g.drop a.noughts)).2 ++ (walk env c (g.drop (a.noughts + b.noughts))).2 ++ (walk env d (g.drop (a.noughts + b.noughts + c.noughts))).2 ++ [_] ++ [_]).length + 1 ≤ _
    rw [List.length_append, List.length_append, List.length_append, List.length_append, List.length_append, List.length_singleton, List.length_singleton]; omega
theorem walks_flat (env : Str → Ms) : ∀ (l : List Rk) (g : List Ms), ((walks env l g).flatMap (·.2)).length ≤ (l.map Rk.lvs).sum
  | [], _ => Nat.zero_le _
  | x :: r, g => by
    have h1 := walk_len env x g
    have h2 := walks_flat env r (g.drop x.noughts)
    show ((walk env x g).2 ++ (walks env r (g.drop x.noughts)).flatMap (·.2)).length ≤ x.lvs + (r.map Rk.lvs).sum
    rw [List.length_append]
    omega
theorem lvs_parts (r : Rk) : (r.parts.map Rk.lvs).sum ≤ r.lvs := by
  cases r with
  | is _ _ _ => exact Nat.zero_le _
  | nought => exact Nat.zero_le _
  | input _ => exact Nat.zero_le _
  | bin o a b =>
    show a.lvs + (b.lvs + 0) ≤ a.lvs + b.lvs
    omega
  | power a n =>
    show a.lvs + 0 ≤ a.lvs
    omega
  | less a b c d =>
    show a.lvs + (b.lvs + (c.lvs + (d.lvs + 0))) ≤ a.lvs + b.lvs + c.lvs + d.lvs
    omega
theorem TupN.lst {H : Hp} {D p : Addr} {xs ys : List V} {o : HO} (h : H D = some (.lst xs)) (q : TupN H p ys) : TupN (L2.upd H D o) p ys := by
  obtain ⟨ob, e, d⟩ := q
  exact ⟨ob, fne h e (fun z => nomatch z), d⟩
theorem TupN.same {H H' : Hp} {p : Addr} {ys : List V} (s : Same H H') (q : TupN H p ys) : TupN H' p ys := by
  obtain ⟨ob, e, d⟩ := q
  exact ⟨ob, s _ _ e, d⟩
theorem paired_app {α β : Type} {G : α → β → Prop} : ∀ {l : List α} {m : List β} {l' : List α} {m' : List β}, Paired G l m → Paired G l' m' → Paired G (l ++ l') (m ++ m')
  | _, _, _, _, .nil, q => q
  | _, _, _, _, .cons h t, q => .cons h (paired_app t q)
/-- how great a reckoning's measure may be -/
theorem walk_b {env : Str → Ms} {l b : Nat} (he : ∀ s, MsB l b (env s)) (l6 : 6 ≤ l) (b5 : 5 ≤ b) : ∀ {r : Rk} {g : List Ms}, r.Ok → (∀ m ∈ g, MsB l b m) → MsB (l * r.lvs) (b + 3 * r.deep) (walk env r g).1
  | .is x y m, g, ⟨_, _, _, h⟩, _ => ⟨h.can, Nat.le_trans h.few (by show 6 ≤ l * 1; omega), fun p hp => Nat.lt_of_le_of_lt (h.sm p hp) (Nat.lt_of_lt_of_le (show 20 < 2 ^ 5 by decide) (Nat.pow_le_pow_right (by decide) (by omega)))⟩
  | .nought, g, _, hg => by
    cases g with
    | nil => exact .nil
    | cons m g => exact (hg m List.mem_cons_self).mono (by show l ≤ l * 1; omega) (by omega)
  | .input s, g, _, _ => (he s).mono (by show l ≤ l * 1; omega) (by omega)
  | .bin o a c, g, ⟨o1, o2⟩, hg => by
    have h1 := walk_b he l6 b5 (g := g) o1 hg
    have h2 := walk_b he l6 b5 (g := g.drop a.noughts) o2 fun m hm => hg m (List.mem_of_mem_drop hm)
    have e : (Rk.bin o a c).deep = 1 + max a.deep c.deep := rfl
    have e2 : l * (Rk.bin o a c).lvs = l * a.lvs + l * c.lvs := Nat.mul_add l a.lvs c.lvs
    have k1 := h1.mono (l' := l * a.lvs) (b' := b + 3 * max a.deep c.deep) (Nat.le_refl _) (by omega)
    have k2 := h2.mono (l' := l * c.lvs) (b' := b + 3 * max a.deep c.deep) (Nat.le_refl _) (by omega)
    cases o with
    | times => exact (mulC_b k1 k2 (by decide)).mono (by omega) (by omega)
    | over => exact (mulC_b k1 k2 (by decide)).mono (by omega) (by omega)
    | plus => exact h1.mono (by omega) (by omega)
    | minus => exact h1.mono (by omega) (by omega)
  | .power a n, g, ⟨o1, n1, n2⟩, hg => by
    have h1 := walk_b he l6 b5 (g := g) o1 hg
    have e : (Rk.power a n).deep = 1 + a.deep := rfl
    have e2 : (Rk.power a n).lvs = a.lvs := rfl
    exact (mulC_b (MsB.nil (l := 0) (b := b + 3 * a.deep)) h1 (by omega)).mono (by rw [e2]; omega) (by omega)
  | .less a c d f, g, ⟨o1, o2, o3, o4⟩, hg => by
    have h3 := walk_b he l6 b5 (g := g.drop (a.noughts + c.noughts)) o3 fun m hm => hg m (List.mem_of_mem_drop hm)
    have e : (Rk.less a c d f).deep = 1 + max (max a.deep c.deep) (max d.deep f.deep) := rfl
    have e2 : l * d.lvs ≤ l * (Rk.less a c d f).lvs := Nat.mul_le_mul_left _ (by show d.lvs ≤ a.lvs + c.lvs + d.lvs + f.lvs; omega)
    exact h3.mono e2 (by omega)
end MK


set_option Elab.async false
set_option linter.all false
set_option maxRecDepth 100000
set_option maxHeartbeats 4000000
/-! All the reckonings within one, from left to right; what a reckoning's tuple holds; how many there are by depth. -/
namespace MK
open PySem PySem.Spec PyProof.Rows L2
/-- the first text -/
def Rk.kind : Rk → Str
  | .is _ _ _ => "is" | .nought => "nought" | .input _ => "input" | .bin o _ _ => o.name | .power _ _ => "power" | .less _ _ _ _ => "less"
/-- itself and all within, from left to right -/
def Rk.all : Rk → List Rk
  | .bin o a b => .bin o a b :: (a.all ++ b.all)
  | .power a n => .power a n :: a.all
  | .less a b c d => .less a b c d :: (a.all ++ b.all ++ c.all ++ d.all)
  | .is x y m => [.is x y m]
  | .nought => [.nought]
  | .input s => [.input s]
theorem all_eq : ∀ r : Rk, r.all = r :: r.parts.flatMap Rk.all
  | .is _ _ _ => rfl
  | .nought => rfl
  | .input _ => rfl
  | .bin o a b => by
    show _ :: (a.all ++ b.all) = _ :: (a.all ++ (b.all ++ []))
    rw [List.append_nil]
  | .power a n => by
    show _ :: a.all = _ :: (a.all ++ [])
    rw [List.append_nil]
  | .less a b c d => by
    show _ :: (a.all ++ b.all ++ c.all ++ d.all) = _ :: (a.all ++ (b.all ++ (c.all ++ (d.all ++ []))))
    rw [List.append_nil, List.append_assoc, List.append_assoc]
theorem all_len : ∀ r : Rk, r.all.length = r.many
  | .is _ _ _ => rfl
  | .nought => rfl
  | .input _ => rfl
  | .bin o a b => by
    have := all_len a; have := all_len b
    show (a.all ++ b.all).length + 1 = 1 + (a.many + b.many)
    rw [List.length_append]
    omega
  | .power a n => by
    have := all_len a
    show a.all.length + 1 = 1 + a.many
    omega
  | .less a b c d => by
    have := all_len a; have := all_len b; have := all_len c; have := all_len d
    show (a.all ++ b.all ++ c.all ++ d.all).length + 1 = 1 + (a.many + b.many + c.many + d.many)
    rw [List.length_append, List.length_append, List.length_append]
    omega
def inpName : Rk → Option Str
  | .input s => some s
  | _ => none
def isNou : Rk → Bool
  | .nought => true
  | _ => false
theorem all_ins : ∀ r : Rk, r.all.filterMap inpName = r.ins
  | .is _ _ _ => rfl
  | .nought => rfl
  | .input _ => rfl
  | .bin o a b => by
    show (a.all ++ b.all).filterMap inpName = _
    rw [List.filterMap_append, all_ins a, all_ins b]
    rfl
  | .power a n => all_ins a
  | .less a b c d => by
    show (a.all ++ b.all ++ c.all ++ d.all).filterMap inpName = _
    rw [List.filterMap_append, List.filterMap_append, List.filterMap_append, all_ins a, all_ins b, all_ins c, all_ins d]
    rfl
theorem all_nou : ∀ r : Rk, (r.all.filter isNou).length = r.noughts
  | .is _ _ _ => rfl
  | .nought => rfl
  | .input _ => rfl
  | .bin o a b => by
    have := all_nou a; have := all_nou b
    show ((a.all ++ b.all).filter isNou).length = a.noughts + b.noughts
    rw [List.filter_append, List.length_append]
    omega
  | .power a n => all_nou a
  | .less a b c d => by
    have := all_nou a; have := all_nou b; have := all_nou c; have := all_nou d
    show ((a.all ++ b.all ++ c.all ++ d.all).filter isNou).length = a.noughts + b.noughts + c.noughts + d.noughts
    rw [List.filter_append, List.filter_append, List.filter_append, List.length_append, List.length_append, List.length_append]
    omega
/-- a reckoning's tuple: its kind, its parts, what stands behind -/
theorem tr_tup {H : Hp} : ∀ {r : Rk} {t : Addr}, TrAt H r t → ∃ (ps : List Addr) (zs : List V), H t = some (.tup (V.str r.kind :: (ps.map V.ref ++ zs))) ∧ Paired (fun q x => TrAt H x q) ps r.parts
  | .is x y m, t, ⟨q, b, h1, _⟩ => ⟨[], _, h1, .nil⟩
  | .nought, t, h => ⟨[], _, h, .nil⟩
  | .input z, t, h => ⟨[], _, h, .nil⟩
  | .bin o a b, t, ⟨q, r, h1, h2, h3⟩ => ⟨[q, r], [], h1, .cons h2 (.cons h3 .nil)⟩
  | .power a n, t, ⟨q, h1, h2⟩ => ⟨[q], _, h1, .cons h2 .nil⟩
  | .less a b c d, t, ⟨q, r, u, v, h1, h2, h3, h4, h5⟩ => ⟨[q, r, u, v], [], h1, .cons h2 (.cons h3 (.cons h4 (.cons h5 .nil)))⟩
theorem cut_parts (x : V) (us zs : List V) : cutV (x :: (us ++ zs)) (some 1) (some (1 + (us.length : Int))) = us := by
  have h1 : HT.sIx (x :: (us ++ zs)).length 0 (some 1) = 1 := by
    rw [show (1 : Int) = ((1 : Nat) : Int) from rfl, HT.sIx_nat]
    simp only [List.length_cons]
    omega
  have h2 : HT.sIx (x :: (us ++ zs)).length (x :: (us ++ zs)).length (some (1 + (us.length : Int))) = 1 + us.length := by
    rw [show (1 : Int) + (us.length : Int) = ((1 + us.length : Nat) : Int) by omega, HT.sIx_nat]
    simp only [List.length_cons, List.length_append]
    omega
  unfold cutV
  rw [h1, h2]
  show ((us ++ zs).take (1 + us.length - 1)) = us
  rw [Nat.add_sub_cancel_left, List.take_left]
theorem cut_some (x : V) (us zs : List V) {j : Option Int} : ¬ (HT.sIx (x :: (us ++ zs)).length 0 (some 1) = 0 ∧ HT.sIx (x :: (us ++ zs)).length (x :: (us ++ zs)).length j = (x :: (us ++ zs)).length) := by
  rintro ⟨h, _⟩
  rw [show (1 : Int) = ((1 : Nat) : Int) from rfl, HT.sIx_nat] at h
  simp only [List.length_cons] at h
  omega
theorem many_by : ∀ (n : Nat) (r : Rk), r.deep ≤ n → 3 * r.many + 1 ≤ 4 ^ n := by
  intro n
  induction n with
  | zero =>
    intro r h
    have := r.deep_pos
    omega
  | succ n ih =>
    intro r h
    have e : 4 ^ (n + 1) = 4 ^ n * 4 := Nat.pow_succ ..
    have p1 : 1 ≤ 4 ^ n := Nat.one_le_pow n 4 (by decide)
    cases r with
    | bin o a b =>
      have h : 1 + max a.deep b.deep ≤ n + 1 := h
      have := ih a (by omega); have := ih b (by omega)
      show 3 * (1 + (a.many + b.many)) + 1 ≤ _
      omega
    | power a m =>
      have h : 1 + a.deep ≤ n + 1 := h
      have := ih a (by omega)
      show 3 * (1 + a.many) + 1 ≤ _
      omega
    | less a b c d =>
      have h : 1 + max (max a.deep b.deep) (max c.deep d.deep) ≤ n + 1 := h
      have := ih a (by omega); have := ih b (by omega); have := ih c (by omega); have := ih d (by omega)
      show 3 * (1 + (a.many + b.many + c.many + d.many)) + 1 ≤ _
      omega
    | is _ _ _ =>
      show 3 * 1 + 1 ≤ _
      omega
    | nought =>
      show 3 * 1 + 1 ≤ _
      omega
    | input _ =>
      show 3 * 1 + 1 ≤ _
      omega
theorem many_pos : ∀ r : Rk, 1 ≤ r.many
  | .is _ _ _ => Nat.le_refl _ | .nought => Nat.le_refl _ | .input _ => Nat.le_refl _
  | .bin _ _ _ => Nat.le_add_right _ _ | .power _ _ => Nat.le_add_right _ _ | .less _ _ _ _ => Nat.le_add_right _ _
theorem parts_many : ∀ {r x : Rk}, x ∈ r.parts → x.many < r.many
  | .bin _ a b, x, h => by
    show x.many < 1 + (a.many + b.many)
    rcases List.mem_cons.mp h with e | h
    · rw [e]; omega
    · rw [List.mem_singleton.mp h]; omega
  | .power a _, x, h => by
    show x.many < 1 + a.many
    rw [List.mem_singleton.mp h]; omega
  | .less a b c d, x, h => by
    show x.many < 1 + (a.many + b.many + c.many + d.many)
    rcases List.mem_cons.mp h with e | h
    · rw [e]; omega
    · rcases List.mem_cons.mp h with e | h
      · rw [e]; omega
      · rcases List.mem_cons.mp h with e | h
        · rw [e]; omega
        · rw [List.mem_singleton.mp h]; omega
theorem ins_nm : ∀ {r : Rk}, r.Ok → ∀ {z : Str}, z ∈ r.ins → Nm z
  | .is _ _ _, _, _, h => absurd (show _ ∈ [] from h) (by simp)
  | .nought, _, _, h => absurd (show _ ∈ [] from h) (by simp)
  | .input s, ok, z, h => by
    rw [List.mem_singleton.mp (show z ∈ [s] from h)]
    exact ok
  | .bin _ a b, ⟨h1, h2⟩, z, h => (List.mem_append.mp (show z ∈ a.ins ++ b.ins from h)).elim (ins_nm h1) (ins_nm h2)
  | .power a _, ⟨h1, _⟩, z, h => ins_nm h1 (show z ∈ a.ins from h)
  | .less a b c d, ⟨h1, h2, h3, h4⟩, z, h => (List.mem_append.mp (show z ∈ a.ins ++ b.ins ++ c.ins ++ d.ins from h)).elim (fun h => (List.mem_append.mp h).elim (fun h => (List.mem_append.mp h).elim (ins_nm h1) (ins_nm h2)) (ins_nm h3)) (ins_nm h4)
theorem kind_inp : ∀ {r : Rk}, (∀ z, r ≠ .input z) → decide (V.str r.kind = V.str "input") = false
  | .is _ _ _, _ => (by decide +kernel : decide (V.str "is" = V.str "input") = false)
  | .nought, _ => (by decide +kernel : decide (V.str "nought" = V.str "input") = false)
  | .input z, h => absurd rfl (h z)
  | .bin .plus _ _, _ => (by decide +kernel : decide (V.str "plus" = V.str "input") = false)
  | .bin .minus _ _, _ => (by decide +kernel : decide (V.str "minus" = V.str "input") = false)
  | .bin .times _ _, _ => (by decide +kernel : decide (V.str "times" = V.str "input") = false)
  | .bin .over _ _, _ => (by decide +kernel : decide (V.str "over" = V.str "input") = false)
  | .power _ _, _ => (by decide +kernel : decide (V.str "power" = V.str "input") = false)
  | .less _ _ _ _, _ => (by decide +kernel : decide (V.str "less" = V.str "input") = false)
theorem kind_nou : ∀ {r : Rk}, isNou r = false → decide (V.str r.kind = V.str "nought") = false
  | .is _ _ _, _ => (by decide +kernel : decide (V.str "is" = V.str "nought") = false)
  | .nought, h => nomatch h
  | .input z, h => (by decide +kernel : decide (V.str "input" = V.str "nought") = false)
  | .bin .plus _ _, _ => (by decide +kernel : decide (V.str "plus" = V.str "nought") = false)
  | .bin .minus _ _, _ => (by decide +kernel : decide (V.str "minus" = V.str "nought") = false)
  | .bin .times _ _, _ => (by decide +kernel : decide (V.str "times" = V.str "nought") = false)
  | .bin .over _ _, _ => (by decide +kernel : decide (V.str "over" = V.str "nought") = false)
  | .power _ _, _ => (by decide +kernel : decide (V.str "power" = V.str "nought") = false)
  | .less _ _ _ _, _ => (by decide +kernel : decide (V.str "less" = V.str "nought") = false)
/-- the table of how many parts a form has -/
structure PTab (K : PySem.W.Frag) (w : World) (mg : Str → Option Value) (pt : Addr) : Prop where
  g : mg "PARTS" = some (.ref pt)
  k : ∀ r : Rk, KDct K w pt r.kind (.int (r.parts.length : Nat))
theorem PTab.mk' {K : PySem.W.Frag} {w : World} {mg : Str → Option Value} {pt : Addr} {es : Array DictEntry} {n : Nat} {t1 t2 t3 t4 t5 t6 t7 t8 t9 : Tok}
    (g : mg "PARTS" = some (.ref pt)) (l : K.lookup pt = some ⟨.type "dict", none, .dict es n, #[]⟩) (kl : PySem.W.KeysLit w.params es.toList)
    (e1 : PySem.W.nsIn K pt "is" = some (some (.int 0 t1))) (e2 : PySem.W.nsIn K pt "nought" = some (some (.int 0 t2))) (e3 : PySem.W.nsIn K pt "input" = some (some (.int 0 t3)))
    (e4 : PySem.W.nsIn K pt "plus" = some (some (.int 2 t4))) (e5 : PySem.W.nsIn K pt "minus" = some (some (.int 2 t5))) (e6 : PySem.W.nsIn K pt "times" = some (some (.int 2 t6)))
    (e7 : PySem.W.nsIn K pt "over" = some (some (.int 2 t7))) (e8 : PySem.W.nsIn K pt "power" = some (some (.int 1 t8))) (e9 : PySem.W.nsIn K pt "less" = some (some (.int 4 t9))) : PTab K w mg pt :=
  ⟨g, fun r => match r with
    | .is _ _ _ => ⟨es, n, _, l, kl, e1, _, rfl⟩
    | .nought => ⟨es, n, _, l, kl, e2, _, rfl⟩
    | .input _ => ⟨es, n, _, l, kl, e3, _, rfl⟩
    | .bin .plus _ _ => ⟨es, n, _, l, kl, e4, _, rfl⟩
    | .bin .minus _ _ => ⟨es, n, _, l, kl, e5, _, rfl⟩
    | .bin .times _ _ => ⟨es, n, _, l, kl, e6, _, rfl⟩
    | .bin .over _ _ => ⟨es, n, _, l, kl, e7, _, rfl⟩
    | .power _ _ => ⟨es, n, _, l, kl, e8, _, rfl⟩
    | .less _ _ _ _ => ⟨es, n, _, l, kl, e9, _, rfl⟩⟩
end MK


set_option Elab.async false
set_option linter.all false
set_option maxRecDepth 100000
set_option maxHeartbeats 4000000
/-! {elt for target in iter if ..}, elt a text. An own error of any arguments, its context None. -/
namespace L2
open PySem PySem.Spec PyProof.Rows PpSet PySem.Froz
section
variable {X : Cx}
/-- set.add of a text -/
theorem addTx_ok {pins : List (Addr × Obj)} {σ : L2.St} {H : Hp} {s : Shared} {E : Value → Shared → Prop} {D : Addr} {l : List Str} {y : Str} {t : Tok} {Q : Value → Shared → Prop} (I : Inv X pins σ H s) (hD : H D = some (TxO X.prog X.w D l)) (room : l.length + 1 < scanBound)
    (h : ∀ s' l', (∀ z, z ∈ l' ↔ z = y ∨ z ∈ l) → l'.length ≤ l.length + 1 → Inv X pins σ (upd H D (TxO X.prog X.w D l')) s' → Q .none s') : wpAny (model X.prog X.w) X.A (call (.builtin "set.add") [.ref D, .str y t]) Q E s := by
  have R : MKS.TxAt X.prog X.w s.heap D l := (I.hok D _ hD).1
  have hT : Shared.TypeIs s (.ref D) "set" := by
    obtain ⟨d, e, _⟩ := id R
    exact ⟨_, e, rfl⟩
  refine wpAny_call_entry F.slot_set_add hT F.entry_set_add ?_ (F.args_set_add_2 _ _)
  unfold Builtin.«set.add» Builtin.Frozenset.oneOther
  simp only [List.isEmpty_nil, bind_assoc]
  unfold Builtin.Frozenset.addrOf setAdd
  refine wpAny_bind (wpAny_pure ?_)
  try dsimp only
  refine wpAny_bind (wpAny_pure ?_)
  try dsimp only
  refine wpAny_bind ?_
  refine wpAny_holding ?_
  refine wpAny_bind ((strKind X.prog X.w).pyHash (k := y) (is_str y t) ?_)
  refine MKS.add_any (s := { s with toks := s.toks + 1 }) R room fun b h' l' oth tx' mem' len' => ?_
  show wpAny _ _ (ret Value.none) _ _ _
  have he : ∃ u, h'.get? D = some u := by
    obtain ⟨d, e, _⟩ := id tx'
    exact ⟨_, e⟩
  exact wpAny_pure ⟨_, rfl, h _ l' mem' len' (I.write (e := D) (t' := s.toks + 1) (by rw [hD]; trivial) (.inl rfl) (fun b u hb hu => (oth b hb).trans hu) he (txO_new tx'))⟩
/-- {elt for target in iter if ..}, elt a text: D the new set -/
def tScT (P : Program) (w : World) (wi : TI) (g : TG) (tt : TT) (te : TE) (vs : List Nat) : TE := fun σ H Q => wi σ H fun J H1 => ∀ D, H1 D = none → ∃ W : Nat → Nat → Hp → Prop, (∃ m, W 0 m (upd H1 D (TxO P w D []))) ∧ ∀ i m H, W i m H →
  (J.stop i H ∧ Q (.ref D) H) ∨ (J.go i H ∧ ∃ Nx : Hp → Prop, (∀ H', Nx H' → ∃ m', m' < m ∧ W (i + 1) m' H') ∧ ∀ x H', J.yld i H x H' → g x (wipe σ vs) H' fun σ2 H2 => wipe σ2 vs = wipe σ vs ∧ tt σ2 H2 fun b H3 =>
    if b = true then te σ2 H3 fun y H4 => ∃ (z : Str) (l : List Str), y = .str z ∧ H4 D = some (TxO P w D l) ∧ l.length + 1 < scanBound ∧ ∀ l', (∀ u, u ∈ l' ↔ u = z ∨ u ∈ l) → l'.length ≤ l.length + 1 → Nx (upd H4 D (TxO P w D l')) else Nx H3)
theorem scT_core {pins : List (Addr × Obj)} {s : Shared} {σ : L2.St} {H : Hp} {Q : VK} {elt tg iter : Expr} {ifs : List Expr} {scope : Scope} {own : List (PySem.Str × Nat)} {pos pos' : Pos} {wi : TI} {g : TG} {tt : TT} {te : TE} {use : Option (Value → Sem Unit)} {Qf : Value → Shared → Prop}
    (hc : X.calm = true) (hN : X.N.Nodup) (I : Inv X pins σ H s) (hi : PI X tg iter wi) (ok : BlkOk X.N X.env.scope scope own)
    (hg : ∀ (s : Shared) (H : Hp) (C : Addr) (cl : List (PySem.Str × Addr)) (fp : List Addr), PG (X.blk s H scope (compEnvC scope cl C X.env) fp) tg g) (ht : ∀ (s : Shared) (H : Hp) (C : Addr) (cl : List (PySem.Str × Addr)) (fp : List Addr), PTs (X.blk s H scope (compEnvC scope cl C X.env) fp) ifs tt)
    (he : ∀ (s : Shared) (H : Hp) (C : Addr) (cl : List (PySem.Str × Addr)) (fp : List Addr), PE (X.blk s H scope (compEnvC scope cl C X.env) fp) elt te) (hs : ∀ x, foldedSetIterable iter X.env x = pure x)
    (h : tScT X.prog X.w wi g tt te (own.map (·.2)) σ H Q)
    (hRR : ∀ D C s' m H', Inv X pins σ H' s' → Q (.ref D) H' → s'.heap.Ns C m → FpOk X pins H' C → compPost (model X.prog X.w) X.A X.xe use Qf (.ref D) C (.ok .next) s') :
    wpAny (model X.prog X.w) X.A (comprehension (.SetComp elt [⟨tg, iter, ifs, 0⟩] scope pos) scope X.env pos' (newSet (.type "set")) false (eval iter X.env) use) Qf X.xe s := by
  have hfree : ∀ y ∈ scope.names, y.2 = .free → ∃ c, X.env.cells.lookup y.1 = some c := fun y hy e => by
    rcases ok.free y hy e with k | k
    · exact I.ok.has _ (.inl k)
    · exact I.ok.has _ (.inr k)
  refine wpAny_comprehension_free (use := use) rfl hs (closure_ok hfree) ok.kind (fun y hy e => by rw [ok.uniq y hy, e])
    (thn (hi.run pins s σ H _ I h) fun xv s1 hx => thn hx fun itv s2 h2 => ?_)
  obtain ⟨it, fp, tn, J, H2, e, I2, T, st2, f2, q⟩ := h2
  subst e
  refine newSet_ok (newEnv_comp ?_)
  generalize hD : s2.heap.objs.size = D
  have hDn : H2 D = none := I2.hok.fresh (Nat.le_of_eq hD)
  obtain ⟨W, ⟨m0, w0⟩, turn⟩ := q D hDn
  generalize hs3 : ({ s2 with heap := s2.heap.push { cls := .type "set", dict := none, data := .set #[] 0 (.fresh 0 0 (!X.w.params.followText "set-order")) } } : Shared) = s3
  have I3 : Inv X pins σ (upd H2 D (TxO X.prog X.w D [])) s3 := by
    rw [← hs3]
    refine I2.laid (t' := s2.toks) (fun b o e => Heap.get?_push_of_some _ e) (Nat.le_of_eq hD) ?_
    rw [← hD]
    exact txO_new (MKS.new_tx (Heap.get?_push_size _ rfl))
  have h3 : s3.heap = s2.heap.push { cls := .type "set", dict := none, data := .set #[] 0 (.fresh 0 0 (!X.w.params.followText "set-order")) } := by rw [← hs3]
  have sz : ∀ b ∈ fp, b < s2.heap.objs.size := fun b hb => by
    obtain ⟨o, e, _⟩ := T.obj _ _ st2 b hb
    exact Heap.lt_size e
  have f3 : ∀ b ∈ fp, FpOk X pins (upd H2 D (TxO X.prog X.w D [])) b ∧ b < s3.heap.objs.size := fun b hb => by
    have hlt := sz b hb
    refine ⟨⟨?_, (f2 b hb).2⟩, by rw [h3, Heap.size_push]; exact Nat.lt_succ_of_lt hlt⟩
    rw [upd_ne (by rw [← hD]; exact Nat.ne_of_lt hlt)]
    exact (f2 b hb).1
  have st3 : tn 0 s3.heap := T.keep _ _ _ st2 fun b _ o e => by rw [h3]; exact Heap.get?_push_of_some _ e
  have I4 := block_start I3 ok hN f3
  have pg := hg s3 (upd H2 D (TxO X.prog X.w D [])) s3.heap.objs.size (cellsFrom (s3.heap.objs.size + 1) scope.names (cloFrom X.env.cells scope.names [])) fp
  have pt := ht s3 (upd H2 D (TxO X.prog X.w D [])) s3.heap.objs.size (cellsFrom (s3.heap.objs.size + 1) scope.names (cloFrom X.env.cells scope.names [])) fp
  have pe := he s3 (upd H2 D (TxO X.prog X.w D [])) s3.heap.objs.size (cellsFrom (s3.heap.objs.size + 1) scope.names (cloFrom X.env.cells scope.names [])) fp
  show codeAny _ _ (.compStart (.SetComp elt [⟨tg, iter, ifs, 0⟩] scope pos) 0 (.ref it) (.ref D) (compEnvC scope (cellsFrom (s3.heap.objs.size + 1) scope.names (cloFrom X.env.cells scope.names [])) s3.heap.objs.size X.env)) (compPost (model X.prog X.w) X.A X.xe use Qf (.ref D) s3.heap.objs.size) { s3 with heap := pushCells (s3.heap.push { cls := .type "dict", data := .dict #[] }) scope.names }
  have nfp : ∀ b ∈ fp, (upd H2 D (TxO X.prog X.w D [])) b = none := fun b hb => (f3 b hb).1.1
  generalize hce : compEnvC scope (cellsFrom (s3.heap.objs.size + 1) scope.names (cloFrom X.env.cells scope.names [])) s3.heap.objs.size X.env = ce at I4 pg pt pe ⊢
  have cL : ce.locals = s3.heap.objs.size := by subst hce; rfl
  generalize hH3 : upd H2 D (TxO X.prog X.w D []) = H3 at I3 I4 pg pt pe w0 nfp f3
  generalize hs4 : ({ s3 with heap := pushCells (s3.heap.push { cls := .type "dict", data := .dict #[] }) scope.names } : Shared) = s4 at I4 ⊢
  have st4 : tn 0 s4.heap := T.keep _ _ _ st3 fun b _ o e => by rw [← hs4]; exact pushCells_keeps _ _ _ _ (Heap.get?_push_of_some _ e)
  have stat : ∀ {σ' : L2.St} {H' : Hp} {s' : Shared}, Inv (X.blk s3 H3 scope ce fp) [] σ' H' s' → (∀ b ∈ fp, H' b = none) → ∀ b ∈ fp, FpOk (X.blk s3 H3 scope ce fp) [] H' b := fun {σ' H' s'} I' hn b hb =>
    ⟨hn b hb, (I'.ok.exf b hb).1, I'.ok.exfs b hb, .inl hb, fun x c e => (I'.ok.exf b hb).2 x c e, fun p hp => absurd (show p ∈ ([] : List (Addr × Obj)) ++ [] from hp) (by simp)⟩
  have loop : codeAny (model X.prog X.w) X.A (.compLoop (.SetComp elt [⟨tg, iter, ifs, 0⟩] scope pos) 0 (.ref it) (.ref D) ce) (compPost (model X.prog X.w) X.A X.xe use Qf (.ref D) s3.heap.objs.size) s4 := by
    refine compLoopS_any (fun n s' => ∃ i H', Inv (X.blk s3 H3 scope ce fp) [] (wipe σ (own.map (·.2))) H' s' ∧ tn i s'.heap ∧ (∀ b ∈ fp, H' b = none) ∧ W i n H') ?_ m0 ⟨0, H3, I4, st4, nfp, w0⟩
    rintro n s5 ⟨i, H5, I5, st5, n5, w5⟩
    rcases turn i n H5 w5 with ⟨stop, qq⟩ | ⟨go, Nx, hNx, step⟩
    · have td := T.done (X.blk s3 H3 scope ce fp) rfl rfl rfl hc i [] s5 _ H5 (fun _ _ => False) I5 (stat I5 n5) st5 stop
      refine thnF td fun r s6 ⟨hr, I6⟩ => ?_
      subst hr
      have I7 : Inv X pins σ H5 s6 := I3.call' (ch := fp) I6.os I6.base I6.hok I6.bare fun b hb => ⟨(f3 b hb).1.2.2.2.1, (f3 b hb).1.2.1, (f3 b hb).1.2.2.2.2.1, (f3 b hb).1.2.2.2.2.2⟩
      have nC : H5 s3.heap.objs.size = none := by
        have z : H5 ce.locals = none := I6.free
        rw [cL] at z
        exact z
      obtain ⟨m, hn, _⟩ := I6.loc
      have hn : s6.heap.Ns ce.locals m := hn
      rw [cL] at hn
      exact hRR D s3.heap.objs.size s6 m H5 I7 qq hn (I3.fpOk (Nat.le_refl _) nC)
    · have ti := T.item (X.blk s3 H3 scope ce fp) rfl rfl rfl hc i [] s5 _ H5 (fun _ _ => False) I5 (stat I5 n5) st5 go
      refine thnF ti fun r s6 ⟨u, hr, h6⟩ => ?_
      subst hr
      refine thnF h6 fun _ s7 ⟨x, H7, I7, r7, y7, st7, n7⟩ => ?_
      have I7' := I7.pinned (stat I7 n7) (T.obj _ _ st7)
      refine thnF (pg.run _ s7 _ H7 x u _ I7' r7 (step x H7 y7)) fun _ s8 ⟨σ8, H8, I8, hw8, q8⟩ => ?_
      refine thnF (pt.run _ s8 σ8 H8 _ I8 q8) fun b s9 ⟨H9, I9, q9⟩ => ?_
      have fin : ∀ {s' : Shared} {H' : Hp}, Inv (X.blk s3 H3 scope ce fp) ([] ++ pinsAt fp s7.heap) σ8 H' s' → Nx H' → ∃ m, m < n ∧ ∃ i H', Inv (X.blk s3 H3 scope ce fp) [] (wipe σ (own.map (·.2))) H' s' ∧ tn i s'.heap ∧ (∀ b ∈ fp, H' b = none) ∧ W i m H' := fun {s' H'} I' nx => by
        obtain ⟨m', hm, w'⟩ := hNx H' nx
        have pin' : ∀ b ∈ fp, ∀ o, s7.heap.get? b = some o → s'.heap.get? b = some o ∧ H' b = none := fun b hb o e =>
          let z := I'.pin (b, o) (List.mem_append_right _ (List.mem_append_right _ (mem_pinsAt hb e)))
          ⟨z.1, z.2.1⟩
        have hl : (wipe σ (own.map (·.2))).length = σ8.length := by rw [← hw8, wipe_length]
        refine ⟨m', hm, i + 1, H', (I'.unpinned (pins := [])).weak hl (fun j v e => ?_), T.keep _ _ _ st7 fun b hb o e => (pin' b hb o e).1, fun b hb => ?_, w'⟩
        · rw [← hw8] at e
          exact (wipe_some e).1
        · obtain ⟨o, e, _⟩ := T.obj _ _ st7 b hb
          exact (pin' b hb o e).2
      cases b with
      | false =>
        simp only [Bool.false_eq_true, if_false] at q9 ⊢
        exact fin I9 q9
      | true =>
        simp only [if_true] at q9 ⊢
        refine thnF (pe.run _ s9 σ8 H9 _ I9 q9) fun z s10 ⟨yv, H10, I10, r10, zb, l0, ey, hD10, hz10, nx⟩ => ?_
        subst ey
        obtain ⟨t10, ez⟩ := (show ∃ t, z = Value.str zb t from r10)
        subst ez
        exact addTx_ok (X := X.blk s3 H3 scope ce fp) I10 hD10 hz10 fun s11 l' hm hl I11 => fin I11 (nx l' hm hl)
  exact codeAny_compStart_set loop (T.self X.A 0 _ _ _ st4 loop)
/-- as a value -/
theorem pe_scT {elt tg iter : Expr} {ifs : List Expr} {scope : Scope} {own : List (PySem.Str × Nat)} {pos : Pos} {wi : TI} {g : TG} {tt : TT} {te : TE} (hc : X.calm = true) (hN : X.N.Nodup) (hi : PI X tg iter wi) (ok : BlkOk X.N X.env.scope scope own)
    (hg : ∀ (s : Shared) (H : Hp) (C : Addr) (cl : List (PySem.Str × Addr)) (fp : List Addr), PG (X.blk s H scope (compEnvC scope cl C X.env) fp) tg g) (ht : ∀ (s : Shared) (H : Hp) (C : Addr) (cl : List (PySem.Str × Addr)) (fp : List Addr), PTs (X.blk s H scope (compEnvC scope cl C X.env) fp) ifs tt)
    (he : ∀ (s : Shared) (H : Hp) (C : Addr) (cl : List (PySem.Str × Addr)) (fp : List Addr), PE (X.blk s H scope (compEnvC scope cl C X.env) fp) elt te) (hs : ∀ x, foldedSetIterable iter X.env x = pure x := by intro _; rfl) :
    PE X (.SetComp elt [⟨tg, iter, ifs, 0⟩] scope pos) (tScT X.prog X.w wi g tt te (own.map (·.2))) := by
  refine ⟨fun pins s σ H Q I h => ?_⟩
  rw [eval_SetComp]
  refine scT_core hc hN I hi ok hg ht he hs h fun D C s' m H' I' q hn f => ⟨m, hn, fun h'' sb => ?_⟩
  obtain ⟨f0, f1, f2, f3, f4, f5⟩ := f
  exact ⟨.ref D, H', I'.turned (t' := s'.toks) (fun b o hb e => (sb.2 b hb).trans e) f0 f1 f3 f4 f5, rfl, q⟩
end
/-- over a list that the block leaves as it is -/
theorem scT_list {P : Program} {w : World} {K : PySem.W.Frag} {a : Addr} {xs : List V} {g : TG} {tt : TT} {te : TE} {vs : List Nat} {σ : L2.St} {H1 : Hp} {D : Addr} {Qd : Hp → Prop} (Pv : Nat → Hp → Prop) (h0 : Pv 0 (upd H1 D (TxO P w D []))) (hl : ∀ i H, i ≤ xs.length → Pv i H → SqL K H a xs)
    (hs : ∀ i x H, xs[i]? = some x → Pv i H → g x (wipe σ vs) H fun σ2 H2 => wipe σ2 vs = wipe σ vs ∧ tt σ2 H2 fun b H3 =>
      if b = true then te σ2 H3 fun y H4 => ∃ (z : Str) (l : List Str), y = .str z ∧ H4 D = some (TxO P w D l) ∧ l.length + 1 < scanBound ∧ ∀ l', (∀ u, u ∈ l' ↔ u = z ∨ u ∈ l) → l'.length ≤ l.length + 1 → Pv (i + 1) (upd H4 D (TxO P w D l')) else Pv (i + 1) H3) (hd : ∀ H, Pv xs.length H → Qd H) :
    ∃ W : Nat → Nat → Hp → Prop, (∃ m, W 0 m (upd H1 D (TxO P w D []))) ∧ ∀ i m H, W i m H →
      ((Itl K a).stop i H ∧ Qd H) ∨ ((Itl K a).go i H ∧ ∃ Nx : Hp → Prop, (∀ H', Nx H' → ∃ m', m' < m ∧ W (i + 1) m' H') ∧ ∀ x H', (Itl K a).yld i H x H' → g x (wipe σ vs) H' fun σ2 H2 => wipe σ2 vs = wipe σ vs ∧ tt σ2 H2 fun b H3 =>
        if b = true then te σ2 H3 fun y H4 => ∃ (z : Str) (l : List Str), y = .str z ∧ H4 D = some (TxO P w D l) ∧ l.length + 1 < scanBound ∧ ∀ l', (∀ u, u ∈ l' ↔ u = z ∨ u ∈ l) → l'.length ≤ l.length + 1 → Nx (upd H4 D (TxO P w D l')) else Nx H3) := by
  refine ⟨fun i m H => m = xs.length - i ∧ i ≤ xs.length ∧ Pv i H, ⟨xs.length, by simp, Nat.zero_le _, h0⟩, ?_⟩
  rintro i m H ⟨rfl, hi, p⟩
  have q := hl i H hi p
  by_cases hlt : i < xs.length
  · refine .inr ⟨⟨xs, xs[i], q, by simp [hlt]⟩, Pv (i + 1), fun H' p' => ⟨xs.length - (i + 1), by omega, rfl, hlt, p'⟩, fun x H' y => ?_⟩
    obtain ⟨e, y⟩ := y
    subst e
    exact hs i x _ (y xs q) p
  · have e : i = xs.length := by omega
    subst e
    exact .inl ⟨⟨xs, q, Nat.le_refl _⟩, hd H p⟩
end L2
namespace L2N
open PySem PySem.Spec PyProof.Rows L2
/-- X(e, ..), X an own error class without own __init__ -/
theorem pmk_ownA {X : Cx} {pos : Pos} {C : Addr} {bmB : List Value} {B newId initId : String} {x : Str} {p : Pos} {e : Expr} {es : List Expr} {t : TA} (F : ExcBaseFacts B newId initId bmB) (q : PySem.W.excIn X.K C bmB newId = true) (gC : X.mg x = some (.ref C))
    (kC : PySem.W.keepIn X.K (.ref C) = true) (r : Raises X (.ref C)) (hg : Gl X x) (ha : PA X (e :: es) t) (hdb : (x == ("__debug__" : Str)) = false := by decide)
    (he : starEach (e :: es) X.env = (false, eval e X.env) :: starEach es X.env := by rfl) (hpl : (backTo pos (starEach es X.env)).any (·.1) = false := by rfl) :
    PMk X (.Call (.Name x p) (e :: es) [] pos) (fun σ H Q => t σ H fun vs H1 => vs.length ≤ sizeLine ∧ Q (.ref C) none H1) := by
  intro pins s σ H Q I h
  refine wpAny_Call_Name_kw (ld_glob I hg gC ?_ hdb)
  refine PySem.W.callWith_K (h₀ := X.base) I.ok.mod.kin kC (thn (ha.run pos pins s σ H _ I h) fun us s1 ⟨vs, H1, I1, r1, hz, q1⟩ => ⟨I1.kIn, ?_⟩) he hpl
  show wpAny _ _ (call (.ref C) us) _ _ _
  obtain ⟨bm, N, nm, qn, bs, hdct, sn, sub, ab, col, dd, k0, k1, k2, k3, k5, mN, hC, hN, hni, T⟩ := exc_obj I1.kIn q
  refine wpAny_call_exc_subT F T hC hN hni (fun h' e hm => ?_) (by rw [← r1.length]; exact hz)
  exact mk_of I1 hm r q1 (I1.hok.gone hm.new)
end L2N


set_option Elab.async false
set_option linter.all false
set_option maxRecDepth 100000
set_option maxHeartbeats 4000000
/-! The pairs that have to be alike; heaps that are alike but at two lists. -/
namespace MK
open PySem PySem.Spec PyProof.Rows L2
/-- the pairs of measures that have to be alike, from left to right -/
noncomputable def prs (env : Str → Ms) : Rk → List Ms → List (Ms × Ms)
  | .is _ _ _, _ => []
  | .nought, _ => []
  | .input _, _ => []
  | .bin o a b, g => match o with
    | .times => prs env a g ++ prs env b (g.drop a.noughts)
    | .over => prs env a g ++ prs env b (g.drop a.noughts)
    | _ => prs env a g ++ prs env b (g.drop a.noughts) ++ [((walk env a g).1, (walk env b (g.drop a.noughts)).1)]
  | .power a _, g => prs env a g
  | .less a b c d, g => prs env a g ++ prs env b (g.drop a.noughts) ++ prs env c (g.drop (a.noughts + b.noughts)) ++ prs env d (g.drop (a.noughts + b.noughts + c.noughts)) ++
      [((walk env a g).1, (walk env b (g.drop a.noughts)).1)] ++ [((walk env c (g.drop (a.noughts + b.noughts))).1, (walk env d (g.drop (a.noughts + b.noughts + c.noughts))).1)]
/-- one over the other -/
noncomputable def ovr (p : Ms × Ms) : Ms := mulC p.1 p.2 (-1)
theorem prs_rows (env : Str → Ms) : ∀ (r : Rk) (g : List Ms), (walk env r g).2 = (prs env r g).map ovr
  | .is _ _ _, _ => rfl
  | .nought, _ => rfl
  | .input _, _ => rfl
  | .bin .times a b, g => by
    show (walk env a g).2 ++ (walk env b (g.drop a.noughts)).2 = (prs env a g ++ prs env b (g.drop a.noughts)).map ovr
    rw [List.map_append, prs_rows env a, prs_rows env b]
  | .bin .over a b, g => by
    show (walk env a g).2 ++ (walk env b (g.drop a.noughts)).2 = (prs env a g ++ prs env b (g.drop a.noughts)).map ovr
    rw [List.map_append, prs_rows env a, prs_rows env b]
  | .bin .plus a b, g => by
    show (walk env a g).2 ++ (walk env b (g.drop a.noughts)).2 ++ [_] = (prs env a g ++ prs env b (g.drop a.noughts) ++ [_]).map ovr
    rw [List.map_append, List.map_append, prs_rows env a, prs_rows env b]
    rfl
  | .bin .minus a b, g => by
    show (walk env a g).2 ++ (walk env b (g.drop a.noughts)).2 ++ [_] = (prs env a g ++ prs env b (g.drop a.noughts) ++ [_]).map ovr
    rw [List.map_append, List.map_append, prs_rows env a, prs_rows env b]
    rfl
  | .power a n, g => prs_rows env a g
  | .less a b c d, g => by
    show (walk env a g).2 ++ (walk env b (g.drop a.noughts)).2 ++ (walk env c (g.drop (a.noughts + b.noughts))).2 ++ (walk env d (g.drop (a.noughts + b.noughts + c.noughts))).2 ++ [_] ++ [_] =
      (prs env a g ++ prs env b (g.drop a.noughts) ++ prs env c (g.drop (a.noughts + b.noughts)) ++ prs env d (g.drop (a.noughts + b.noughts + c.noughts)) ++ [_] ++ [_]).map ovr
    rw [List.map_append, List.map_append, List.map_append, List.map_append, List.map_append, prs_rows env a, prs_rows env b, prs_rows env c, prs_rows env d]
    rfl
theorem prs_len (env : Str → Ms) (r : Rk) (g : List Ms) : (prs env r g).length + 1 ≤ r.lvs := by
  have h := walk_len env r g
  rw [prs_rows, List.length_map] at h
  exact h
noncomputable def prss (env : Str → Ms) : List Rk → List Ms → List (List (Ms × Ms))
  | [], _ => []
  | x :: r, g => prs env x g :: prss env r (g.drop x.noughts)
theorem prss_len (env : Str → Ms) : ∀ (l : List Rk) (g : List Ms), (prss env l g).length = l.length
  | [], _ => rfl
  | x :: r, g => congrArg (· + 1) (prss_len env r (g.drop x.noughts))
theorem prss_at (env : Str → Ms) : ∀ (l : List Rk) (g : List Ms) {i : Nat} {x : Rk}, l[i]? = some x → (prss env l g)[i]? = some (prs env x (g.drop (nsum (l.take i))))
  | [], g, i, x, h => by simp at h
  | y :: r, g, 0, x, h => by
    obtain rfl : y = x := Option.some.inj h
    show some (prs env y g) = _
    rw [List.take_zero]
    rfl
  | y :: r, g, i + 1, x, h => by
    have e := prss_at env r (g.drop y.noughts) (i := i) (x := x) (by simpa using h)
    show (prss env r (g.drop y.noughts))[i]? = _
    rw [e, List.drop_drop]
    rfl
theorem prss_flat (env : Str → Ms) : ∀ (l : List Rk) (g : List Ms), (prss env l g).flatten.length ≤ (l.map Rk.lvs).sum
  | [], _ => Nat.zero_le _
  | x :: r, g => by
    have h1 := prs_len env x g
    have h2 := prss_flat env r (g.drop x.noughts)
    show (prs env x g ++ (prss env r (g.drop x.noughts)).flatten).length ≤ x.lvs + (r.map Rk.lvs).sum
    rw [List.length_append]
    omega
theorem prss_take (env : Str → Ms) : ∀ (l : List Rk) (g : List Ms) (i : Nat), (prss env l g).take i = prss env (l.take i) g
  | [], _, i => by
    rw [List.take_nil]
    exact List.take_nil
  | x :: r, g, 0 => rfl
  | x :: r, g, i + 1 => congrArg (_ :: ·) (prss_take env r (g.drop x.noughts) i)
theorem lvs_take : ∀ {l : List Rk} {i : Nat} {x : Rk}, l[i]? = some x → ((l.take i).map Rk.lvs).sum + x.lvs ≤ (l.map Rk.lvs).sum
  | [], i, x, h => by simp at h
  | y :: r, 0, x, h => by
    obtain rfl : y = x := Option.some.inj h
    show 0 + y.lvs ≤ y.lvs + (r.map Rk.lvs).sum
    omega
  | y :: r, i + 1, x, h => by
    have := lvs_take (l := r) (i := i) (x := x) (by simpa using h)
    show y.lvs + ((r.take i).map Rk.lvs).sum + x.lvs ≤ y.lvs + (r.map Rk.lvs).sum
    omega
theorem flatten_more {α : Type} {l : List (List α)} {i : Nat} {x : List α} (h : l[i]? = some x) : (l.take (i + 1)).flatten = (l.take i).flatten ++ x := by
  rw [take_more h, List.flatten_append]
  show _ ++ (x ++ []) = _
  rw [List.append_nil]
theorem flatten_le {α : Type} (l : List (List α)) (i : Nat) : (l.take i).flatten.length ≤ l.flatten.length := by
  conv => rhs; rw [← List.take_append_drop i l, List.flatten_append, List.length_append]
  exact Nat.le_add_right _ _
/-- each pair's measures are small -/
theorem prs_b {env : Str → Ms} {l b : Nat} (he : ∀ s, MsB l b (env s)) (l6 : 6 ≤ l) (b5 : 5 ≤ b) : ∀ {r : Rk} {g : List Ms}, r.Ok → (∀ m ∈ g, MsB l b m) → ∀ p ∈ prs env r g, MsB (l * r.lvs) (b + 3 * r.deep) p.1 ∧ MsB (l * r.lvs) (b + 3 * r.deep) p.2
  | .is _ _ _, g, _, _, p, hp => absurd (show p ∈ [] from hp) (by simp)
  | .nought, g, _, _, p, hp => absurd (show p ∈ [] from hp) (by simp)
  | .input _, g, _, _, p, hp => absurd (show p ∈ [] from hp) (by simp)
  | .bin o a c, g, ⟨o1, o2⟩, hg, p, hp => by
    have hd : ∀ m ∈ g.drop a.noughts, MsB l b m := fun m hm => hg m (List.mem_of_mem_drop hm)
    have w1 := walk_b he l6 b5 (g := g) o1 hg
    have w2 := walk_b he l6 b5 (g := g.drop a.noughts) o2 hd
    have e : (Rk.bin o a c).deep = 1 + max a.deep c.deep := rfl
    have e2 : l * (Rk.bin o a c).lvs = l * a.lvs + l * c.lvs := Nat.mul_add l a.lvs c.lvs
    have h1 : p ∈ prs env a g → MsB (l * (Rk.bin o a c).lvs) (b + 3 * (Rk.bin o a c).deep) p.1 ∧ MsB (l * (Rk.bin o a c).lvs) (b + 3 * (Rk.bin o a c).deep) p.2 := fun h =>
      ⟨(prs_b he l6 b5 o1 hg p h).1.mono (by omega) (by omega), (prs_b he l6 b5 o1 hg p h).2.mono (by omega) (by omega)⟩
    have h2 : p ∈ prs env c (g.drop a.noughts) → MsB (l * (Rk.bin o a c).lvs) (b + 3 * (Rk.bin o a c).deep) p.1 ∧ MsB (l * (Rk.bin o a c).lvs) (b + 3 * (Rk.bin o a c).deep) p.2 := fun h =>
      ⟨(prs_b he l6 b5 o2 hd p h).1.mono (by omega) (by omega), (prs_b he l6 b5 o2 hd p h).2.mono (by omega) (by omega)⟩
    have h3 : p = ((walk env a g).1, (walk env c (g.drop a.noughts)).1) → MsB (l * (Rk.bin o a c).lvs) (b + 3 * (Rk.bin o a c).deep) p.1 ∧ MsB (l * (Rk.bin o a c).lvs) (b + 3 * (Rk.bin o a c).deep) p.2 := fun h => by
      rw [h]
      exact ⟨w1.mono (by omega) (by omega), w2.mono (by omega) (by omega)⟩
    cases o with
    | times => exact (List.mem_append.mp (show p ∈ prs env a g ++ prs env c (g.drop a.noughts) from hp)).elim h1 h2
    | over => exact (List.mem_append.mp (show p ∈ prs env a g ++ prs env c (g.drop a.noughts) from hp)).elim h1 h2
    | plus => exact (List.mem_append.mp (show p ∈ prs env a g ++ prs env c (g.drop a.noughts) ++ [_] from hp)).elim (fun h => (List.mem_append.mp h).elim h1 h2) fun h => h3 (List.mem_singleton.mp h)
    | minus => exact (List.mem_append.mp (show p ∈ prs env a g ++ prs env c (g.drop a.noughts) ++ [_] from hp)).elim (fun h => (List.mem_append.mp h).elim h1 h2) fun h => h3 (List.mem_singleton.mp h)
  | .power a n, g, ⟨o1, _, _⟩, hg, p, hp => by
    have e : (Rk.power a n).deep = 1 + a.deep := rfl
    have e2 : (Rk.power a n).lvs = a.lvs := rfl
    have h := prs_b he l6 b5 o1 hg p hp
    rw [e2]
    exact ⟨h.1.mono (Nat.le_refl _) (by omega), h.2.mono (Nat.le_refl _) (by omega)⟩
  | .less a c d f, g, ⟨o1, o2, o3, o4⟩, hg, p, hp => by
    have hd : ∀ k, ∀ m ∈ g.drop k, MsB l b m := fun k m hm => hg m (List.mem_of_mem_drop hm)
    have e : (Rk.less a c d f).deep = 1 + max (max a.deep c.deep) (max d.deep f.deep) := rfl
    have e2 : l * (Rk.less a c d f).lvs = l * a.lvs + l * c.lvs + l * d.lvs + l * f.lvs := by
      show l * (a.lvs + c.lvs + d.lvs + f.lvs) = _
      rw [Nat.mul_add, Nat.mul_add, Nat.mul_add]
    have up : ∀ {x : Rk} {k : Nat}, x.Ok → x.deep < (Rk.less a c d f).deep → l * x.lvs ≤ l * (Rk.less a c d f).lvs → p ∈ prs env x (g.drop k) → MsB (l * (Rk.less a c d f).lvs) (b + 3 * (Rk.less a c d f).deep) p.1 ∧ MsB (l * (Rk.less a c d f).lvs) (b + 3 * (Rk.less a c d f).deep) p.2 → True := fun _ _ _ _ _ => trivial
    have w1 := walk_b he l6 b5 (g := g) o1 hg
    have w2 := walk_b he l6 b5 (g := g.drop a.noughts) o2 (hd _)
    have w3 := walk_b he l6 b5 (g := g.drop (a.noughts + c.noughts)) o3 (hd _)
    have w4 := walk_b he l6 b5 (g := g.drop (a.noughts + c.noughts + d.noughts)) o4 (hd _)
    have hp : p ∈ prs env a g ++ prs env c (g.drop a.noughts) ++ prs env d (g.drop (a.noughts + c.noughts)) ++ prs env f (g.drop (a.noughts + c.noughts + d.noughts)) ++
      [((walk env a g).1, (walk env c (g.drop a.noughts)).1)] ++ [((walk env d (g.drop (a.noughts + c.noughts))).1, (walk env f (g.drop (a.noughts + c.noughts + d.noughts))).1)] := hp
    simp only [List.mem_append, List.mem_singleton] at hp
    rcases hp with ((((h | h) | h) | h) | h) | h
    · exact ⟨(prs_b he l6 b5 o1 hg p h).1.mono (by omega) (by omega), (prs_b he l6 b5 o1 hg p h).2.mono (by omega) (by omega)⟩
    · exact ⟨(prs_b he l6 b5 o2 (hd _) p h).1.mono (by omega) (by omega), (prs_b he l6 b5 o2 (hd _) p h).2.mono (by omega) (by omega)⟩
    · exact ⟨(prs_b he l6 b5 o3 (hd _) p h).1.mono (by omega) (by omega), (prs_b he l6 b5 o3 (hd _) p h).2.mono (by omega) (by omega)⟩
    · exact ⟨(prs_b he l6 b5 o4 (hd _) p h).1.mono (by omega) (by omega), (prs_b he l6 b5 o4 (hd _) p h).2.mono (by omega) (by omega)⟩
    · rw [h]
      exact ⟨w1.mono (by omega) (by omega), w2.mono (by omega) (by omega)⟩
    · rw [h]
      exact ⟨w3.mono (by omega) (by omega), w4.mono (by omega) (by omega)⟩
/-! ### letters -/
theorem mulC_in {m n : Ms} {x : Int} {G : Str → Prop} (hm : ∀ p ∈ m, G p.1) (hn : ∀ p ∈ n, G p.1) : ∀ p ∈ mulC m n x, G p.1 := fun p hp => by
  by_cases e : ∃ r, IsTms m n x r
  · obtain ⟨r, t⟩ := e
    rw [mulC_is t] at hp
    obtain ⟨c, eq⟩ := t
    have q := (c.mem p.1 p.2).mp hp
    by_cases z1 : at0 m p.1 = 0
    · refine hn (p.1, at0 n p.1) (at0_mem fun z2 => q.1 ?_)
      rw [← q.2, eq, z1, z2]
      omega
    · exact hm (p.1, at0 m p.1) (at0_mem z1)
  · unfold mulC at hp
    rw [dif_neg e] at hp
    exact absurd hp (by simp)
theorem walk_in {env : Str → Ms} {G : Str → Prop} (he : ∀ s, ∀ p ∈ env s, G p.1) (hG : ∀ z, Nm z → G z) : ∀ {r : Rk} {g : List Ms}, r.Ok → (∀ m ∈ g, ∀ p ∈ m, G p.1) → ∀ p ∈ (walk env r g).1, G p.1
  | .is x y m, g, ⟨_, _, _, h⟩, _ => fun p hp => hG _ (h.nm p hp)
  | .nought, g, _, hg => fun p hp => by
    cases g with
    | nil => exact absurd (show p ∈ [] from hp) (by simp)
    | cons m g => exact hg m List.mem_cons_self p hp
  | .input s, g, _, _ => he s
  | .bin o a c, g, ⟨o1, o2⟩, hg => by
    have h1 := walk_in he hG (g := g) o1 hg
    have h2 := walk_in he hG (g := g.drop a.noughts) o2 fun m hm => hg m (List.mem_of_mem_drop hm)
    cases o with
    | times => exact mulC_in h1 h2
    | over => exact mulC_in h1 h2
    | plus => exact h1
    | minus => exact h1
  | .power a n, g, ⟨o1, _, _⟩, hg => mulC_in (fun p hp => absurd hp (by simp)) (walk_in he hG (g := g) o1 hg)
  | .less a c d f, g, ⟨_, _, o3, _⟩, hg => walk_in he hG (g := g.drop (a.noughts + c.noughts)) o3 fun m hm => hg m (List.mem_of_mem_drop hm)
theorem prs_in {env : Str → Ms} {G : Str → Prop} (he : ∀ s, ∀ p ∈ env s, G p.1) (hG : ∀ z, Nm z → G z) : ∀ {r : Rk} {g : List Ms}, r.Ok → (∀ m ∈ g, ∀ p ∈ m, G p.1) → ∀ q ∈ prs env r g, (∀ p ∈ q.1, G p.1) ∧ ∀ p ∈ q.2, G p.1
  | .is _ _ _, g, _, _, q, hq => absurd (show q ∈ [] from hq) (by simp)
  | .nought, g, _, _, q, hq => absurd (show q ∈ [] from hq) (by simp)
  | .input _, g, _, _, q, hq => absurd (show q ∈ [] from hq) (by simp)
  | .bin o a c, g, ⟨o1, o2⟩, hg, q, hq => by
    have hd : ∀ m ∈ g.drop a.noughts, ∀ p ∈ m, G p.1 := fun m hm => hg m (List.mem_of_mem_drop hm)
    have w1 := walk_in he hG (g := g) o1 hg
    have w2 := walk_in he hG (g := g.drop a.noughts) o2 hd
    have h1 := prs_in he hG (g := g) o1 hg q
    have h2 := prs_in he hG (g := g.drop a.noughts) o2 hd q
    have h3 : q = ((walk env a g).1, (walk env c (g.drop a.noughts)).1) → (∀ p ∈ q.1, G p.1) ∧ ∀ p ∈ q.2, G p.1 := fun h => by
      rw [h]
      exact ⟨w1, w2⟩
    cases o with
    | times => exact (List.mem_append.mp (show q ∈ prs env a g ++ prs env c (g.drop a.noughts) from hq)).elim h1 h2
    | over => exact (List.mem_append.mp (show q ∈ prs env a g ++ prs env c (g.drop a.noughts) from hq)).elim h1 h2
    | plus => exact (List.mem_append.mp (show q ∈ prs env a g ++ prs env c (g.drop a.noughts) ++ [_] from hq)).elim (fun h => (List.mem_append.mp h).elim h1 h2) fun h => h3 (List.mem_singleton.mp h)
    | minus => exact (List.mem_append.mp (show q ∈ prs env a g ++ prs env c (g.drop a.noughts) ++ [_] from hq)).elim (fun h => (List.mem_append.mp h).elim h1 h2) fun h => h3 (List.mem_singleton.mp h)
  | .power a n, g, ⟨o1, _, _⟩, hg, q, hq => prs_in he hG o1 hg q hq
  | .less a c d f, g, ⟨o1, o2, o3, o4⟩, hg, q, hq => by
    have hd : ∀ k, ∀ m ∈ g.drop k, ∀ p ∈ m, G p.1 := fun k m hm => hg m (List.mem_of_mem_drop hm)
    have hq : q ∈ prs env a g ++ prs env c (g.drop a.noughts) ++ prs env d (g.drop (a.noughts + c.noughts)) ++ prs env f (g.drop (a.noughts + c.noughts + d.noughts)) ++
      [((walk env a g).1, (walk env c (g.drop a.noughts)).1)] ++ [((walk env d (g.drop (a.noughts + c.noughts))).1, (walk env f (g.drop (a.noughts + c.noughts + d.noughts))).1)] := hq
    simp only [List.mem_append, List.mem_singleton] at hq
    rcases hq with ((((h | h) | h) | h) | h) | h
    · exact prs_in he hG o1 hg q h
    · exact prs_in he hG o2 (hd _) q h
    · exact prs_in he hG o3 (hd _) q h
    · exact prs_in he hG o4 (hd _) q h
    · rw [h]
      exact ⟨walk_in he hG o1 hg, walk_in he hG o2 (hd _)⟩
    · rw [h]
      exact ⟨walk_in he hG o3 (hd _), walk_in he hG o4 (hd _)⟩
/-! ### heaps -/
/-- what stands there stays, but at a and b -/
def But (a b : Addr) (H H' : Hp) : Prop := ∀ c x, c ≠ a → c ≠ b → H c = some x → H' c = some x
theorem But.of {a b : Addr} {H H' : Hp} (s : Same H H') : But a b H H' := fun c x _ _ h => s c x h
theorem But.trans {a b : Addr} {H H1 H2 : Hp} (h : But a b H H1) (g : But a b H1 H2) : But a b H H2 := fun c x n1 n2 e => g c x n1 n2 (h c x n1 n2 e)
theorem But.upd1 {a b : Addr} {H H' : Hp} {o : HO} (h : But a b H H') : But a b H (L2.upd H' a o) := fun c x n1 n2 e => by
  rw [upd_ne n1]
  exact h c x n1 n2 e
theorem But.upd2 {a b : Addr} {H H' : Hp} {o : HO} (h : But a b H H') : But a b H (L2.upd H' b o) := fun c x n1 n2 e => by
  rw [upd_ne n2]
  exact h c x n1 n2 e
theorem But.updN {a b d : Addr} {H H' : Hp} {o : HO} (h : But a b H H') (n : H d = none) : But a b H (L2.upd H' d o) := fun c x n1 n2 e => by
  rw [upd_ne (fun z => by rw [z, n] at e; cases e)]
  exact h c x n1 n2 e
/-- what is no list stays -/
def Fx (H H' : Hp) : Prop := ∀ c x, (∀ zs, x ≠ .lst zs) → H c = some x → H' c = some x
theorem Fx.of {H H' : Hp} (s : Same H H') : Fx H H' := fun c x _ h => s c x h
theorem Fx.trans {H H1 H2 : Hp} (h : Fx H H1) (g : Fx H1 H2) : Fx H H2 := fun c x n e => g c x n (h c x n e)
theorem Fx.lst {H : Hp} {d : Addr} {xs : List V} {o : HO} (h : H d = some (.lst xs)) : Fx H (L2.upd H d o) := fun c x n e => fne h e fun z => n _ z
theorem But.fx {a b : Addr} {H H' : Hp} {xs ys : List V} (h : But a b H H') (ha : H a = some (.lst xs)) (hb : H b = some (.lst ys)) : Fx H H' := fun c x n e =>
  h c x (fun z => n _ (by rw [z, ha] at e; exact (Option.some.inj e).symm)) (fun z => n _ (by rw [z, hb] at e; exact (Option.some.inj e).symm)) e
theorem pr_fx {H H' : Hp} {ts : List Addr} {m : Ms} (s : Fx H H') (p : Paired (PrAt H) ts m) : Paired (PrAt H') ts m := Paired.mono (fun _ q z => s _ (.tup [.str q.1, .int q.2]) (fun _ e => nomatch e) z) p
theorem MsN.fx {H H' : Hp} {b : Addr} {m : Ms} (s : Fx H H') (h : MsN H b m) : MsN H' b m := by
  obtain ⟨ts, ⟨o, e, d⟩, p⟩ := h
  exact ⟨ts, ⟨o, s _ _ (fun _ e => nomatch e) e, d⟩, pr_fx s p⟩
theorem TrAt.fx {H H' : Hp} (s : Fx H H') : ∀ {r : Rk} {p : Addr}, TrAt H r p → TrAt H' r p
  | .is x y m, p, ⟨q, b, h1, h2, h3⟩ => ⟨q, b, s _ _ (fun _ e => nomatch e) h1, s _ _ (fun _ e => nomatch e) h2, h3.fx s⟩
  | .nought, p, h => s p _ (fun _ e => nomatch e) h
  | .input z, p, h => s p _ (fun _ e => nomatch e) h
  | .bin o a b, p, ⟨q, r, h1, h2, h3⟩ => ⟨q, r, s _ _ (fun _ e => nomatch e) h1, TrAt.fx s h2, TrAt.fx s h3⟩
  | .power a n, p, ⟨q, h1, h2⟩ => ⟨q, s _ _ (fun _ e => nomatch e) h1, TrAt.fx s h2⟩
  | .less a b c d, p, ⟨q, r, u, v, h1, h2, h3, h4, h5⟩ => ⟨q, r, u, v, s _ _ (fun _ e => nomatch e) h1, TrAt.fx s h2, TrAt.fx s h3, TrAt.fx s h4, TrAt.fx s h5⟩
theorem NmAt.fx {H H' : Hp} {d : Addr} {ads : List (Str × Addr)} {fl : List (Str × Ms)} (s : Fx H H') (h : NmAt H d ads fl) : NmAt H' d ads fl := ⟨s _ _ (fun _ e => nomatch e) h.1, Paired.mono (fun x y z => ⟨z.1, z.2.fx s⟩) h.2⟩
/-- at q the pair of two measures -/
def PrMs (H : Hp) (q : Addr) (p : Ms × Ms) : Prop := ∃ a b, H q = some (.tup [.ref a, .ref b]) ∧ MsN H a p.1 ∧ MsN H b p.2
theorem PrMs.fx {H H' : Hp} {q : Addr} {p : Ms × Ms} (s : Fx H H') (h : PrMs H q p) : PrMs H' q p := by
  obtain ⟨a, b, h1, h2, h3⟩ := h
  exact ⟨a, b, s _ _ (fun _ e => nomatch e) h1, h2.fx s, h3.fx s⟩
theorem nmr_keys {H : Hp} {ads : List (Str × Addr)} {fl : List (Str × Ms)} (p : Paired (NmR H) ads fl) : ads.map (·.1) = fl.map (·.1) := by
  induction p with
  | nil => rfl
  | cons h _ ih => rw [List.map_cons, List.map_cons, h.1, ih]
theorem msN_dict {H : Hp} {D b : Addr} {kvs : List (L2.Key × V)} {o : HO} {m : Ms} (h : MsN H b m) (hD : H D = some (.dK kvs)) : MsN (L2.upd H D o) b m := by
  obtain ⟨ts, ⟨ob, e, d⟩, p⟩ := h
  refine ⟨ts, ⟨ob, ?_, d⟩, Paired.mono (fun t q z => ?_) p⟩
  · rw [upd_ne (ne_of e hD (fun e => nomatch e))]
    exact e
  · show L2.upd H D o t = _
    rw [upd_ne (ne_of z hD (fun e => nomatch e))]
    exact z
end MK


set_option Elab.async false
set_option linter.all false
set_option maxRecDepth 100000
set_option maxHeartbeats 4000000
/-! Dict comprehensions: over a list, over a dict's items, stored in a name; a new dict locked from here on. -/
namespace L2
open PySem PySem.Spec PyProof.Rows
section
variable {X : Cx}
/-- the object that e tells, locked from here on -/
def tFrz (t : TE) : TE := fun σ H Q => t σ H fun x H1 => ∃ d u, x = .ref d ∧ H1 d = some u ∧ Mut (some u) ∧ ∀ od, Q (.ref d) (upd H1 d (.frz od u))
theorem pe_frz {e : Expr} {t : TE} (h : PE X e t) : PE X e (tFrz t) := by
  refine ⟨fun pins s σ H Q I hw => ?_⟩
  refine thn (h.run pins s σ H _ I hw) fun v s1 ⟨x, H1, I1, r, d, u, ex, hd, mu, q⟩ => ?_
  subst ex
  obtain ⟨od, I2⟩ := I1.lock hd mu
  exact ⟨_, _, I2, r, q od⟩
/-- a written tuple that bears no dict, under a name -/
def tTupN (t : TA) : TE := fun σ H Q => t σ H fun xs H1 => xs.length ≤ sizeLine ∧ ∀ (p : Addr) (o : Obj), H1 p = none → o.dict = none → Q (.ref p) (upd H1 p (.frz o (.tup xs)))
theorem pe_tupM {es : List Expr} {t : TA} {pos : Pos} {x1 : Nat} (h : PA X es t) : PE X (.Tuple es x1 pos) (tTupN t) := pe_tupN h
/-- a dict comprehension, as it is stored in a name -/
theorem sw_trueD {kx vx : Expr} {gs : List Comprehension} {scope : Scope} {pos py : Pos} {y : Str} {l : Nat} {env : Env} (hk : env.scope.kind = .function) (hy : env.scope.names.lookup y = some .local) (hl : (py.line == pos.line) = true)
    (ha : (scope.names.any fun (n, k) => n == y && (k == .local || k == .cell)) = false) : swapsWith (.DictComp kx vx gs scope pos) (some (.Name y py)) l env = pure true := by
  have ky : env.kindOf y = some .local := hy
  have hb : env.blockKind = .function := by unfold Env.blockKind; rw [hk]; rfl
  unfold swapsWith
  simp only [hb, ky, ha, Expr.pos, hl]
  rfl
theorem ps_setDc {i : Nat} {y : Str} {py : Pos} {kx vx tg iter : Expr} {ifs : List Expr} {scope : Scope} {own : List (Str × Nat)} {pos spos : Pos} {wi : TI} {g : TG} {tt : TT} {tk tv : TE} (hc : X.calm = true) (hN : X.N.Nodup) (hy : X.N[i]? = some y) (hyl : X.env.scope.names.lookup y = some .local)
    (hsw : swapsWith (.DictComp kx vx [⟨tg, iter, ifs, 0⟩] scope pos) (some (.Name y py)) spos.line X.env = pure true) (hi : PI X tg iter wi) (ok : BlkOk X.N X.env.scope scope own)
    (hg : ∀ (s : Shared) (H : Hp) (C : Addr) (cl : List (Str × Addr)) (fp : List Addr), PG (X.blk s H scope (compEnvC scope cl C X.env) fp) tg g) (ht : ∀ (s : Shared) (H : Hp) (C : Addr) (cl : List (Str × Addr)) (fp : List Addr), PTs (X.blk s H scope (compEnvC scope cl C X.env) fp) ifs tt)
    (hk : ∀ (s : Shared) (H : Hp) (C : Addr) (cl : List (Str × Addr)) (fp : List Addr), PE (X.blk s H scope (compEnvC scope cl C X.env) fp) kx tk)
    (he : ∀ (s : Shared) (H : Hp) (C : Addr) (cl : List (Str × Addr)) (fp : List Addr), PE (X.blk s H scope (compEnvC scope cl C X.env) fp) vx tv) (hs : ∀ x, foldedSetIterable iter X.env x = pure x := by intro _; rfl) :
    PS X (.Assign [.Name y py] (.DictComp kx vx [⟨tg, iter, ifs, 0⟩] scope pos) spos) (tAsg (tDc wi g tt tk tv (own.map (·.2))) (gName i)) := by
  refine ⟨fun pins s σ H D I h => ?_⟩
  rw [exec_Assign_Name_used _ _ _ _ hsw]
  refine wpAny_bind (wpAny_standAt (wpAny_bind ?_))
  show wpAny _ X.A (do let _ ← comprehension (.DictComp kx vx [⟨tg, iter, ifs, 0⟩] scope pos) scope X.env (firstIterPos [⟨tg, iter, ifs, 0⟩] pos) newDict false (eval iter X.env) (some (assign (.Name y py) X.env))) _ _ s
  have h : tDc wi g tt tk tv (own.map (·.2)) σ H (fun x H1 => gName i x σ H1 D.nx) := h
  refine wpAny_bind (thn (dc_core (Qf := fun _ s' => SP X pins D .next s') hc hN I hi ok hg ht hk he hs h fun L C s' m H' I' q hn f => ?_) fun _ s' hq => wpAny_pure (wpAny_pure hq))
  show wpAny _ _ (assign (.Name y py) X.env (.ref L)) _ _ _
  refine wpAny_assign_Name (store_ok2 (v := V.ref L) I' hN hy (.inl hyl) rfl (fun s2 I2 ⟨a, sb, ha⟩ => ?_) (.inr hyl))
  obtain ⟨f0, f1, f2, f3, f4, f5⟩ := f
  have haC : C ≠ a := by
    rcases ha with z | z
    · rw [z]; exact f1
    · exact fun e => f4 y a z e.symm
  refine ⟨m, hn.sameBut sb haC, fun h3 sb3 => ?_⟩
  exact ⟨_, H', I2.turned (t' := s2.toks) (fun b o hb e => (sb3.2 b hb).trans e) f0 f1 f3 f4 f5, q⟩
end
/-- over a list that the block leaves as it is -/
theorem dc_list {K : PySem.W.Frag} {a : Addr} {xs : List V} {g : TG} {tt : TT} {tk tv : TE} {vs : List Nat} {σ : L2.St} {H1 : Hp} {D : Addr} {Qd : Hp → Prop} (Pv : Nat → Hp → Prop) (h0 : Pv 0 (upd H1 D (.dK []))) (hl : ∀ i H, i ≤ xs.length → Pv i H → SqL K H a xs)
    (hs : ∀ i x H, xs[i]? = some x → Pv i H → g x (wipe σ vs) H fun σ2 H2 => wipe σ2 vs = wipe σ vs ∧ tt σ2 H2 fun b H3 =>
      if b = true then tk σ2 H3 fun y H4 => tv σ2 H4 fun z H5 => ∃ kvs k, y = kV k ∧ H5 D = some (.dK kvs) ∧ kvs.length < sizeLine ∧ Pv (i + 1) (upd H5 D (.dK (putK kvs k z))) else Pv (i + 1) H3) (hd : ∀ H, Pv xs.length H → Qd H) :
    ∃ W : Nat → Nat → Hp → Prop, (∃ m, W 0 m (upd H1 D (.dK []))) ∧ ∀ i m H, W i m H →
      ((Itl K a).stop i H ∧ Qd H) ∨ ((Itl K a).go i H ∧ ∃ Nx : Hp → Prop, (∀ H', Nx H' → ∃ m', m' < m ∧ W (i + 1) m' H') ∧ ∀ x H', (Itl K a).yld i H x H' → g x (wipe σ vs) H' fun σ2 H2 => wipe σ2 vs = wipe σ vs ∧ tt σ2 H2 fun b H3 =>
        if b = true then tk σ2 H3 fun y H4 => tv σ2 H4 fun z H5 => ∃ kvs k, y = kV k ∧ H5 D = some (.dK kvs) ∧ kvs.length < sizeLine ∧ Nx (upd H5 D (.dK (putK kvs k z))) else Nx H3) := by
  refine ⟨fun i m H => m = xs.length - i ∧ i ≤ xs.length ∧ Pv i H, ⟨xs.length, by simp, Nat.zero_le _, h0⟩, ?_⟩
  rintro i m H ⟨rfl, hi, p⟩
  have q := hl i H hi p
  by_cases hlt : i < xs.length
  · refine .inr ⟨⟨xs, xs[i], q, by simp [hlt]⟩, Pv (i + 1), fun H' p' => ⟨xs.length - (i + 1), by omega, rfl, hlt, p'⟩, fun x H' y => ?_⟩
    obtain ⟨e, y⟩ := y
    subst e
    exact hs i x _ (y xs q) p
  · have e : i = xs.length := by omega
    subst e
    exact .inl ⟨⟨xs, q, Nat.le_refl _⟩, hd H p⟩
/-- over the items of a locked dict -/
theorem dc_items {d : Addr} {od : Obj} {kvs : List (Key × V)} {g : TG} {tt : TT} {tk tv : TE} {vs : List Nat} {σ : L2.St} {H1 : Hp} {D : Addr} {Qd : Hp → Prop} (Pv : Nat → Hp → Prop) (h0 : Pv 0 (upd H1 D (.dK [])))
    (hl : ∀ i H, i ≤ kvs.length → Pv i H → H d = some (.frz od (.dK kvs)))
    (hs : ∀ i k v T H, kvs[i]? = some (k, v) → Pv i H → H T = none → g (.ref T) (wipe σ vs) (upd H T (.tup [kV k, v])) fun σ2 H2 => wipe σ2 vs = wipe σ vs ∧ tt σ2 H2 fun b H3 =>
      if b = true then tk σ2 H3 fun y H4 => tv σ2 H4 fun z H5 => ∃ kv k, y = kV k ∧ H5 D = some (.dK kv) ∧ kv.length < sizeLine ∧ Pv (i + 1) (upd H5 D (.dK (putK kv k z))) else Pv (i + 1) H3)
    (hd : ∀ H, Pv kvs.length H → Qd H) :
    ∃ W : Nat → Nat → Hp → Prop, (∃ m, W 0 m (upd H1 D (.dK []))) ∧ ∀ i m H, W i m H →
      ((Iti d od kvs).stop i H ∧ Qd H) ∨ ((Iti d od kvs).go i H ∧ ∃ Nx : Hp → Prop, (∀ H', Nx H' → ∃ m', m' < m ∧ W (i + 1) m' H') ∧ ∀ x H', (Iti d od kvs).yld i H x H' → g x (wipe σ vs) H' fun σ2 H2 => wipe σ2 vs = wipe σ vs ∧ tt σ2 H2 fun b H3 =>
        if b = true then tk σ2 H3 fun y H4 => tv σ2 H4 fun z H5 => ∃ kv k, y = kV k ∧ H5 D = some (.dK kv) ∧ kv.length < sizeLine ∧ Nx (upd H5 D (.dK (putK kv k z))) else Nx H3) := by
  refine ⟨fun i m H => m = kvs.length - i ∧ i ≤ kvs.length ∧ Pv i H, ⟨kvs.length, by simp, Nat.zero_le _, h0⟩, ?_⟩
  intro i m H ⟨e, hi, p⟩
  have q := hl i H hi p
  by_cases hlt : i < kvs.length
  · refine .inr ⟨⟨q, hlt⟩, Pv (i + 1), fun H' p' => ⟨kvs.length - (i + 1), by omega, rfl, hlt, p'⟩, fun x H' y => ?_⟩
    obtain ⟨T, k, v, hk, ex, hT, eH⟩ := y
    rw [ex, eH]
    exact hs i k v T H hk p hT
  · have e2 : i = kvs.length := by omega
    rw [e2] at p
    exact .inl ⟨⟨q, by omega⟩, hd H p⟩
end L2


set_option Elab.async false
set_option linter.all false
set_option maxRecDepth 100000
set_option maxHeartbeats 4000000
/-! Measures, and lists of them, as plain data. -/
namespace MK
open PySem PySem.Spec PyProof.Rows L2
def msD (m : Ms) : PyData := .tuple (m.map fun p => .tuple [.str p.1, .int p.2])
theorem strOkN {z : Str} (h : Ok z) : PyData.strOk z = true := by
  unfold PyData.strOk
  rw [← Array.all_toList, List.all_eq_true]
  exact fun c hc => decide_eq_true (h c hc)
theorem msD_lay : ∀ {m : Ms}, (∀ p ∈ m, LtOk p.1) → PyData.canLayAll0 (m.map fun p => PyData.tuple [.str p.1, .int p.2]) = true
  | [], _ => rfl
  | p :: r, h => by
    have ih := msD_lay (m := r) fun q hq => h q (List.mem_cons_of_mem _ hq)
    simp only [List.map_cons, PyData.canLayAll0, PyData.canLay0, ih, Bool.and_true]
    exact strOkN (h p List.mem_cons_self).2
theorem msD_depth (m : Ms) : PyData.depthAll (m.map fun p => PyData.tuple [.str p.1, .int p.2]) ≤ 1 := by
  induction m with
  | nil => simp [PyData.depthAll]
  | cons p r ih =>
    simp only [List.map_cons, PyData.depthAll, PyData.depth]
    omega
theorem msD_shaped {m : Ms} (h : ∀ p ∈ m, LtOk p.1) : SeqAt.shaped (msD m) = true := by
  unfold SeqAt.shaped msD
  rw [Bool.and_eq_true, decide_eq_true_eq]
  constructor
  · simp only [PyData.canLay0]
    exact msD_lay h
  · have := msD_depth m
    simp only [PyData.depth]
    omega
theorem msD_eqv {m : Ms} (h : ∀ p ∈ m, LtOk p.1) : PyData.eqv (msD m) (msD m) = true := SeqAt.eqv_refl _ (SeqAt.canLay_of_shaped (msD_shaped h))
theorem MsN.dp {K : PySem.W.Frag} {H : Hp} {b : Addr} {m : Ms} (h : MsN H b m) : Dp K H (.ref b) (msD m) := by
  obtain ⟨ts, e, p⟩ := h
  refine .tup (TupN.sq e) ?_
  clear e
  induction p with
  | nil => exact .nil
  | @cons t q _ _ r _ ih => exact .cons (.tup (SqT.of r) (.cons (.str _) (.cons (.int _) .nil))) ih
/-- a list of measures -/
def rowsD (rs : List Ms) : PyData := .list (rs.map msD)
theorem rowsD_dp {K : PySem.W.Frag} {H : Hp} {a : Addr} {us : List Addr} {rs : List Ms} (h : H a = some (.lst (us.map V.ref))) (p : Paired (MsN H) us rs) : Dp K H (.ref a) (rowsD rs) := by
  refine .lst (SqL.of h) ?_
  clear h
  induction p with
  | nil => exact .nil
  | cons q _ ih => exact .cons q.dp ih
theorem rowsD_lay : ∀ {rs : List Ms}, (∀ m ∈ rs, ∀ p ∈ m, LtOk p.1) → PyData.canLayAll0 (rs.map msD) = true
  | [], _ => rfl
  | m :: r, h => by
    have ih := rowsD_lay (rs := r) fun q hq => h q (List.mem_cons_of_mem _ hq)
    have h1 : PyData.canLay0 (msD m) = true := by
      unfold msD
      simp only [PyData.canLay0]
      exact msD_lay (h m List.mem_cons_self)
    simp only [List.map_cons, PyData.canLayAll0, ih, h1, Bool.and_true]
theorem rowsD_depth (rs : List Ms) : PyData.depthAll (rs.map msD) ≤ 2 := by
  induction rs with
  | nil => simp [PyData.depthAll]
  | cons m r ih =>
    have := msD_depth m
    have e : PyData.depth (msD m) ≤ 2 := by
      unfold msD
      simp only [PyData.depth]
      omega
    simp only [List.map_cons, PyData.depthAll]
    omega
theorem rowsD_shaped {rs : List Ms} (h : ∀ m ∈ rs, ∀ p ∈ m, LtOk p.1) : SeqAt.shaped (rowsD rs) = true := by
  unfold SeqAt.shaped rowsD
  rw [Bool.and_eq_true, decide_eq_true_eq]
  constructor
  · simp only [PyData.canLay0]
    exact rowsD_lay h
  · have := rowsD_depth rs
    simp only [PyData.depth]
    omega
theorem rowsD_eqv {rs : List Ms} (h : ∀ m ∈ rs, ∀ p ∈ m, LtOk p.1) : PyData.eqv (rowsD rs) (rowsD rs) = true := SeqAt.eqv_refl _ (SeqAt.canLay_of_shaped (rowsD_shaped h))
/-- what a product's letters are -/
theorem mulC_can (m n : Ms) (x : Int) : Can (mulC m n x) := by
  by_cases e : ∃ r, IsTms m n x r
  · obtain ⟨r, t⟩ := e
    rw [mulC_is t]
    exact t.1
  · unfold mulC
    rw [dif_neg e]
    exact can_nil
theorem lvs_many : ∀ r : Rk, r.lvs ≤ r.many
  | .is _ _ _ => Nat.le_refl _
  | .nought => Nat.le_refl _
  | .input _ => Nat.le_refl _
  | .bin _ a b => by
    have := lvs_many a; have := lvs_many b
    show a.lvs + b.lvs ≤ 1 + (a.many + b.many)
    omega
  | .power a _ => by
    have := lvs_many a
    show a.lvs ≤ 1 + a.many
    omega
  | .less a b c d => by
    have := lvs_many a; have := lvs_many b; have := lvs_many c; have := lvs_many d
    show a.lvs + b.lvs + c.lvs + d.lvs ≤ 1 + (a.many + b.many + c.many + d.many)
    omega
theorem nm_ltok {z : Str} (h : Nm z) : LtOk z := nm_lt h
end MK


set_option Elab.async false
set_option linter.all false
set_option maxRecDepth 100000
set_option maxHeartbeats 4000000
/-! {m}, m a measure, in an f-string: some text, not too long. -/
namespace PySem
open PySem.Spec PyProof.Rows
section
variable {prog : Program} {w : World}
/-- x's text, whatever it is, has at most N signs -/
def ReprB (prog : Program) (w : World) (h₀ : Heap) (d : Nat) (x : Value) (N : Nat) : Prop :=
  ∀ (b : Nat), b + N ≤ sizeLine → ∀ (A : Around) (E : Value → Shared → Prop) (s : Shared) (Q : Str → Shared → Prop), s.heap = h₀ → A.units + d < cLine → (∀ t tk, t.length ≤ N → Q t { s with toks := tk }) → wpAny (model prog w) A (pyReprUnder b x) Q E s
theorem rb_tuple {h₀ : Heap} {a : Addr} {o : Obj} {items : Array Value} {n N : Nat} {ts : List Str} (ha : h₀.get? a = some o) (hc : o.cls = .type "tuple") (hd : o.data = .seq items n) (hT : ReprAll prog w items.toList ts) (hN : (tupleText ts).length + 5 ≤ N) :
    ReprB prog w h₀ 1 (.ref a) N := by
  intro b hb A E s Q hh hu hQ
  subst hh
  refine wpAny_pyReprUnder_ref (by omega) (wpAny_pyReprObjUnder_twin (twin := "tuple.__repr__.under") ⟨o, ha, hc⟩ F.slot_tuple_repr rfl (by omega) ?_)
  refine call_twin_own (F.quiet_tuple_repr_under _) F.entry_tuple_repr_under F.check_tuple_repr_under ⟨o, ha, hc⟩ F.slot_tuple_repr (F.args_tuple_repr_1 _) (wpOwn_of_wpAny ?_)
  show wpAny _ _ (Builtin.tupleReprAt b ⟨[.ref a], []⟩) _ _ s
  rw [tuple_repr_tree]
  refine wpAny_bind (fmt_underWay fun c => ?_)
  cases c with
  | true =>
    refine PySem.W.KFB.if_so rfl ?_
    refine wpAny_bind (wpAny_rule ?_)
    refine wpAny_bind (wpAny_mkStr (wpAny_pure ?_) (by decide +kernel))
    exact ⟨⟨_, _, rfl⟩, _, _, rfl, hQ "(...)" _ (Nat.le_trans fmt_way (by omega))⟩
  | false =>
    refine PySem.W.KFB.if_not rfl ?_
    refine wpAny_tupleReprRest ha hd hT (fun u tk => ?_) (by omega)
    exact ⟨⟨_, _, rfl⟩, _, _, rfl, hQ (tupleText ts) tk (by omega)⟩
theorem fold_rb {A : Around} {E : Value → Shared → Prop} {N d : Nat} {h₀ : Heap} (hu : A.units + d < cLine) : ∀ (l : List Value) (acc : Array Str) (n : Nat) (s : Shared) (Q : (Array Str × Nat) → Shared → Prop), (∀ x ∈ l, ReprB prog w h₀ d x N) → n + l.length * (N + 2) ≤ sizeLine → s.heap = h₀ →
    (∀ (ts : List Str) k tk, ts.length = l.length → (∀ t ∈ ts, t.length ≤ N) → Q ⟨acc ++ ts.toArray, k⟩ { s with toks := tk }) → wpAny (model prog w) A (forIn l (⟨acc, n⟩ : (Array Str × Nat)) tupBody) Q E s := by
  intro l
  induction l with
  | nil =>
    intro acc n s Q hT hn hh h
    have h0 := h [] n s.toks rfl fun _ h => absurd h (by simp)
    simp only [List.forIn_nil]
    exact wpAny_pure (by simpa using h0)
  | cons x l ih =>
    intro acc n s Q hT hn hh h
    rw [List.length_cons, Nat.succ_mul] at hn
    rw [List.forIn_cons]
    refine wpAny_bind (wpAny_bind (hT x List.mem_cons_self (n + 1) (by omega) _ _ _ _ hh hu fun t tk ht => wpAny_pure ?_))
    refine ih (acc.push t) (n + (t.length + 2)) _ Q (fun y hy => hT y (List.mem_cons_of_mem _ hy)) (by omega) hh fun ts k tk' h1 h2 => ?_
    have h3 := h (t :: ts) k tk' (by rw [List.length_cons, h1, List.length_cons]) fun y hy => by
      rcases List.mem_cons.mp hy with e | e
      · rw [e]; exact ht
      · exact h2 y e
    simpa using h3
theorem piled_le {N : Nat} : ∀ {ts : List Str}, (∀ t ∈ ts, t.length ≤ N) → piled ts ≤ ts.length * (N + 2)
  | [], _ => Nat.zero_le _
  | t :: r, h => by
    have h1 := h t List.mem_cons_self
    have h2 := piled_le (ts := r) fun y hy => h y (List.mem_cons_of_mem _ hy)
    rw [piled_cons, List.length_cons, Nat.succ_mul]
    omega
/-- {t} -/
theorem fmt_rb {A : Around} {E : Value → Shared → Prop} {s : Shared} {a : Addr} {o : Obj} {items : Array Value} {n N : Nat} {Q : Value → Shared → Prop} (hu : A.units + 8 < cLine) (ha : s.heap.get? a = some o) (hc : o.cls = .type "tuple") (hd : o.data = .seq items n)
    (hT : ∀ x ∈ items.toList, ReprB prog w s.heap 1 x N) (hsz : items.size * (N + 2) + 8 ≤ sizeLine)
    (h : ∀ (m : Str) (u tk : Tok), m.length ≤ items.size * (N + 2) + 8 → Q (.str m u) { s with toks := tk }) : wpAny (model prog w) A (formatField (.ref a) Str.empty) Q E s := by
  refine wpAny_formatField_slot (fun _ _ => nofun) (by omega) ⟨o, ha, hc⟩ F.slot_tuple_format F.slot_tuple_str F.slot_tuple_repr ?_
  refine wpAny_call (codeAny_call_builtin_own (Code.quiet_builtin _ (by decide +kernel)) F.entry_tuple_repr (F.slot_tuple_repr.check _ _ _ _ _ _ _ _ ⟨o, ha, hc⟩ (F.args_tuple_repr_1 _) (wpOwn_of_wpAny ?_)))
  show wpAny _ _ (Builtin.tupleReprAt 0 ⟨[.ref a], []⟩) _ _ { s with toks := s.toks + 1 }
  rw [tuple_repr_tree]
  refine wpAny_bind (fmt_underWay fun b => ?_)
  cases b with
  | true =>
    refine PySem.W.KFB.if_so rfl ?_
    refine wpAny_bind (wpAny_rule ?_)
    refine wpAny_bind (wpAny_mkStr (wpAny_pure ?_) (by decide +kernel))
    exact ⟨_, _, rfl, h "(...)" _ _ (Nat.le_trans fmt_way (by omega))⟩
  | false =>
    refine PySem.W.KFB.if_not rfl ?_
    unfold tupleReprRest Builtin.Tuple.tupleItemsOf
    refine wpAny_bind (wpAny_bind (wpAny_seqItems (s := { s with toks := s.toks + 1 }) ha hd (wpAny_pure ?_)))
    rw [← Array.forIn_toList]
    have hl : items.toList.length = items.size := Array.length_toList
    refine wpAny_bind (fold_rb (N := N) (d := 1) (h₀ := s.heap) (by simp only [units_under_tuple_repr, Around.in1_units]; omega) items.toList #[] 0 _ _ hT (by rw [hl]; omega) rfl fun ts k tk h1 h2 => ?_)
    have hp := piled_le h2
    rw [h1, hl] at hp
    have ht := fmt_text ts
    have e : tupleText ts = (("(" : Str) ++ Str.join ", " (#[] ++ ts.toArray).toList ++ (if items.size == 1 then ",)" else ")" : String)) := by
      unfold tupleText
      rw [h1, hl]
      simp
    rw [← e]
    refine wpAny_bind (wpAny_mkStr (wpAny_pure ?_) (by omega))
    exact ⟨_, _, rfl, h (tupleText ts) _ _ (by omega)⟩
end
end PySem
namespace L2
open PySem PySem.Spec PyProof.Rows MK
section
variable {X : Cx}
/-- {m}, m a measure of few letters: some text -/
def tFmtM (te : TE) : TE := fun σ H Q => te σ H fun x H1 => ∃ (a : Addr) (m : Ms), x = .ref a ∧ MsN H1 a m ∧ (∀ p ∈ m, Ok p.1 ∧ p.1.length ≤ 20 ∧ p.2.natAbs < 2 ^ 250) ∧ m.length ≤ 1000 ∧ ∀ t : Str, t.length ≤ 2000000 → Q (.str t) H1
theorem pe_fmtM {e : Expr} {te : TE} {pos : Pos} (hu : X.A.units + 8 < cLine) (he : PE X e te) : PE X (.FormattedValue e (-1) none pos) (tFmtM te) := by
  refine ⟨fun pins s σ H Q I h => ?_⟩
  refine wpAny_FormattedValue_plain (thn (he.run pins s σ H _ I h) fun v s1 hv => ?_)
  obtain ⟨x, H1, I1, r1, a, m, rfl, ⟨ts, htu, pr⟩, hb, hl, q⟩ := hv
  cases r1
  obtain ⟨its, rv, ⟨o, ho, hcl, n, hd⟩, _⟩ := I1.tuple (TupN.sq htu)
  have sz : its.length = m.length := by rw [← rv.length, List.length_map, pr.length]
  have sl := sizeLine_eq
  refine fmt_rb (N := 900) hu ho hcl hd (fun y hy => ?_) ?_ fun t u tk ht => ⟨.str t, H1, I1.tok _, ⟨u, rfl⟩, q t ?_⟩
  · have hy : y ∈ its := by simpa using hy
    obtain ⟨i, hi⟩ := List.getElem?_of_mem hy
    obtain ⟨k, hk⟩ : ∃ k, ts[i]? = some k := by
      have h1 : i < its.length := (List.getElem?_eq_some_iff.mp hi).1
      have h2 := rv.length
      rw [List.length_map] at h2
      exact ⟨ts[i]'(by omega), List.getElem?_eq_getElem _⟩
    obtain ⟨p, hp, hpk⟩ := paired_ix pr hk
    obtain ⟨u, hu2, ru⟩ := Vals.get rv (show (ts.map V.ref)[i]? = some (V.ref k) by rw [List.getElem?_map, hk]; rfl)
    rw [hi] at hu2
    obtain rfl : y = u := Option.some.inj hu2
    obtain rfl : y = Value.ref k := ru
    obtain ⟨_, its2, r2, o2, ho2, hc2, n2, hd2⟩ := I1.hok _ _ (show H1 k = some (.tup [.str p.1, .int p.2]) from hpk)
    obtain ⟨u1, u2, rfl, ri, rj⟩ := vals2 r2
    obtain ⟨t1, rfl⟩ := ri
    obtain ⟨t2, rfl⟩ := rj
    obtain ⟨b1, b2, b3⟩ := hb p (List.mem_of_getElem? hp)
    have l1 := StrLaws.reprText_len p.1 (fun c hc => Nat.lt_trans (b1 c hc) (by decide))
    have lg : p.2.natAbs.log2 < 251 := PySem.Flt.log2_lt_of (by decide) (Nat.lt_trans b3 (by decide))
    have l2 := int_text_length_le (k := 251) (by decide) lg
    have l2' : (Str.ofString (toString p.2)).length ≤ 252 := by rw [PySem.ofString_length]; exact l2
    refine rb_tuple (ts := [reprText p.1, Str.ofString (toString p.2)]) ho2 hc2 hd2 ?_ ?_
    · exact .cons (ReprIs.str p.1 t1 (by omega)) (.cons (ReprIs.int t2 (by omega)) .nil)
    · have := fmt_text [reprText p.1, Str.ofString (toString p.2)]
      rw [piled_cons, piled_cons, piled_nil] at this
      omega
  · show its.toArray.size * (900 + 2) + 8 ≤ _
    rw [List.size_toArray, sz]
    have : m.length * 902 ≤ 1000 * 902 := Nat.mul_le_mul_right _ hl
    omega
  · have ht : t.length ≤ its.toArray.size * (900 + 2) + 8 := ht
    rw [List.size_toArray, sz] at ht
    have : m.length * 902 ≤ 1000 * 902 := Nat.mul_le_mul_right _ hl
    omega
end
end L2


set_option Elab.async false
set_option linter.all false
set_option maxRecDepth 100000
set_option maxHeartbeats 4000000
/-! Each two measures have a product; a quotient is () just where both are alike; measures compared. -/
namespace MK
open PySem PySem.Spec PyProof.Rows L2
/-- v more at l -/
def insM : Ms → Str → Int → Ms
  | [], l, v => if v = 0 then [] else [(l, v)]
  | p :: r, l, v => if p.1 = l then (if p.2 + v = 0 then r else (l, p.2 + v) :: r) else if l.cps.toList < p.1.cps.toList then (if v = 0 then p :: r else (l, v) :: p :: r) else p :: insM r l v
theorem insM_keys : ∀ {m : Ms} {l : Str} {v : Int} {q : Str × Int}, q ∈ insM m l v → q.1 = l ∨ q ∈ m
  | [], l, v, q, h => by
    unfold insM at h
    by_cases e : v = 0
    · rw [if_pos e] at h
      exact absurd h (by simp)
    · rw [if_neg e] at h
      exact .inl (by rw [List.mem_singleton.mp h])
  | p :: r, l, v, q, h => by
    unfold insM at h
    by_cases e : p.1 = l
    · rw [if_pos e] at h
      by_cases e2 : p.2 + v = 0
      · rw [if_pos e2] at h
        exact .inr (List.mem_cons_of_mem _ h)
      · rw [if_neg e2] at h
        rcases List.mem_cons.mp h with z | z
        · exact .inl (by rw [z])
        · exact .inr (List.mem_cons_of_mem _ z)
    · rw [if_neg e] at h
      by_cases e2 : l.cps.toList < p.1.cps.toList
      · rw [if_pos e2] at h
        by_cases e3 : v = 0
        · rw [if_pos e3] at h
          exact .inr h
        · rw [if_neg e3] at h
          rcases List.mem_cons.mp h with z | z
          · exact .inl (by rw [z])
          · exact .inr z
      · rw [if_neg e2] at h
        rcases List.mem_cons.mp h with z | z
        · exact .inr (by rw [z]; exact List.mem_cons_self)
        · exact (insM_keys z).imp id (List.mem_cons_of_mem _)
theorem can_cons {p : Str × Int} {r : Ms} (h : Can (p :: r)) : Can r ∧ p.2 ≠ 0 ∧ ∀ q ∈ r, sLt p.1 q.1 := by
  obtain ⟨h1, h2⟩ := List.pairwise_cons.mp h.ris
  exact ⟨⟨h2, fun q hq => h.nz q (List.mem_cons_of_mem _ hq)⟩, h.nz p List.mem_cons_self, h1⟩
theorem at0_cons (p : Str × Int) (r : Ms) (j : Str) : at0 (p :: r) j = if p.1 = j then p.2 else at0 r j := by
  show (if p.1 = j then some p.2 else lk r j).getD 0 = _
  by_cases e : p.1 = j
  · rw [if_pos e, if_pos e]; rfl
  · rw [if_neg e, if_neg e]; rfl
theorem at0_none {m : Ms} {j : Str} (h : ∀ q ∈ m, q.1 ≠ j) : at0 m j = 0 := by
  unfold at0
  rw [lk_none.mpr fun z => by
    obtain ⟨q, hq, e⟩ := List.mem_map.mp z
    exact h q hq e]
  rfl
theorem insM_ok : ∀ {m : Ms} (l : Str) (v : Int), Can m → Can (insM m l v) ∧ ∀ j, at0 (insM m l v) j = at0 m j + if j = l then v else 0
  | [], l, v, _ => by
    unfold insM
    by_cases e : v = 0
    · rw [if_pos e]
      refine ⟨can_nil, fun j => ?_⟩
      rw [e, at0_nil]
      split <;> rfl
    · rw [if_neg e]
      refine ⟨⟨List.pairwise_singleton _ _, fun p hp => by rw [List.mem_singleton.mp hp]; exact e⟩, fun j => ?_⟩
      rw [at0_cons, at0_nil]
      by_cases e2 : j = l
      · rw [if_pos e2, if_pos e2.symm]; omega
      · rw [if_neg e2, if_neg (fun z => e2 z.symm)]; rfl
  | p :: r, l, v, h => by
    obtain ⟨hr, hp, hlt⟩ := can_cons h
    unfold insM
    by_cases e : p.1 = l
    · rw [if_pos e]
      have no : at0 r l = 0 := at0_none fun q hq z => by
        have := hlt q hq
        rw [z, e] at this
        exact sLt_irr _ this
      by_cases e2 : p.2 + v = 0
      · rw [if_pos e2]
        refine ⟨hr, fun j => ?_⟩
        rw [at0_cons]
        by_cases e3 : j = l
        · rw [if_pos e3, if_pos (by rw [e3]; exact e), e3, no]; omega
        · rw [if_neg e3, if_neg (by rw [e]; exact fun z => e3 z.symm)]; omega
      · rw [if_neg e2]
        refine ⟨⟨List.pairwise_cons.mpr ⟨fun q hq => by rw [← e]; exact hlt q hq, hr.ris⟩, fun q hq => ?_⟩, fun j => ?_⟩
        · rcases List.mem_cons.mp hq with z | z
          · rw [z]; exact e2
          · exact hr.nz q z
        · rw [at0_cons, at0_cons]
          by_cases e3 : j = l
          · rw [if_pos e3, if_pos e3.symm, if_pos (by rw [e3]; exact e)]
          · rw [if_neg e3, if_neg (fun z => e3 z.symm), if_neg (by rw [e]; exact fun z => e3 z.symm)]; omega
    · rw [if_neg e]
      by_cases e2 : l.cps.toList < p.1.cps.toList
      · rw [if_pos e2]
        have nol : at0 (p :: r) l = 0 := at0_none fun q hq z => by
          rcases List.mem_cons.mp hq with y | y
          · exact e (by rw [← y]; exact z)
          · have h1 := hlt q y
            rw [z] at h1
            exact sLt_irr _ (sLt_tr e2 h1)
        by_cases e3 : v = 0
        · rw [if_pos e3]
          refine ⟨h, fun j => ?_⟩
          rw [e3]
          split <;> omega
        · rw [if_neg e3]
          refine ⟨⟨List.pairwise_cons.mpr ⟨fun q hq => ?_, h.ris⟩, fun q hq => ?_⟩, fun j => ?_⟩
          · rcases List.mem_cons.mp hq with y | y
            · rw [y]; exact e2
            · exact sLt_tr e2 (hlt q y)
          · rcases List.mem_cons.mp hq with y | y
            · rw [y]; exact e3
            · exact h.nz q y
          · rw [at0_cons (l, v)]
            by_cases e4 : j = l
            · rw [if_pos e4, if_pos e4.symm, e4, nol]; omega
            · rw [if_neg e4, if_neg (fun z => e4 z.symm)]; omega
      · rw [if_neg e2]
        obtain ⟨c1, c2⟩ := insM_ok l v hr
        have pl : sLt p.1 l := Decidable.byContradiction fun z => e (sLt_tri z e2)
        refine ⟨⟨List.pairwise_cons.mpr ⟨fun q hq => ?_, c1.ris⟩, fun q hq => ?_⟩, fun j => ?_⟩
        · rcases insM_keys hq with y | y
          · rw [y]; exact pl
          · exact hlt q y
        · rcases List.mem_cons.mp hq with y | y
          · rw [y]; exact hp
          · exact c1.nz q y
        · rw [at0_cons, at0_cons, c2]
          by_cases e3 : p.1 = j
          · rw [if_pos e3, if_pos e3, if_neg (by rw [← e3]; exact e)]; omega
          · rw [if_neg e3, if_neg e3]
theorem tms_ex : ∀ (n : Ms) {m : Ms} (x : Int), Can m → Can n → ∃ r, IsTms m n x r
  | [], m, x, hm, _ => ⟨m, hm, fun j => by rw [at0_nil]; omega⟩
  | p :: n, m, x, hm, hn => by
    obtain ⟨hr, hp, hlt⟩ := can_cons hn
    obtain ⟨c1, c2⟩ := insM_ok p.1 (p.2 * x) hm
    obtain ⟨r, r1, r2⟩ := tms_ex n x c1 hr
    refine ⟨r, r1, fun j => ?_⟩
    rw [r2, c2, at0_cons]
    by_cases e : p.1 = j
    · have no : at0 n j = 0 := at0_none fun q hq z => by
        have h1 := hlt q hq
        rw [z, e] at h1
        exact sLt_irr _ h1
      rw [if_pos e, if_pos e.symm, no]; omega
    · rw [if_neg e, if_neg (fun z => e z.symm)]; omega
theorem mulC_ok {m n : Ms} (x : Int) (hm : Can m) (hn : Can n) : IsTms m n x (mulC m n x) := by
  obtain ⟨r, h⟩ := tms_ex n x hm hn
  rw [mulC_is h]
  exact h
theorem mulC_nil {m n : Ms} (hm : Can m) (hn : Can n) : mulC m n (-1) = [] ↔ m = n := by
  constructor
  · intro h
    have t := mulC_ok (-1) hm hn
    rw [h] at t
    refine can_ext hm hn fun j => ?_
    have := t.2 j
    rw [at0_nil] at this
    omega
  · rintro rfl
    exact mulC_is ⟨can_nil, fun j => by rw [at0_nil]; omega⟩
/-! ### compared -/
theorem msD_all : ∀ {m n : Ms}, PyData.eqvAll (m.map fun p => PyData.tuple [.str p.1, .int p.2]) (n.map fun p => PyData.tuple [.str p.1, .int p.2]) = decide (m = n)
  | [], [] => rfl
  | [], q :: n => by
    simp [PyData.eqvAll]
  | p :: m, [] => by
    simp [PyData.eqvAll]
  | p :: m, q :: n => by
    have ih := msD_all (m := m) (n := n)
    simp only [List.map_cons, PyData.eqvAll, PyData.eqv, ih]
    obtain ⟨a, b⟩ := p
    obtain ⟨c, d⟩ := q
    by_cases e1 : a = c <;> by_cases e2 : b = d <;> by_cases e3 : m = n <;> simp [e1, e2, e3]
theorem msD_dec (m n : Ms) : PyData.eqv (msD m) (msD n) = decide (m = n) := by
  unfold msD
  simp only [PyData.eqv]
  exact msD_all
end MK


set_option Elab.async false
set_option linter.all false
set_option maxRecDepth 100000
set_option maxHeartbeats 4000000
/-! a != b of two tuples whose items are equal, a dict among them. -/
namespace PySem.SeqAt
open AutoSeq1 (wpAny_loadPart')
open MeetsSeq MeetsSeq2 MeetsSeq3 SeqRoads2
section
variable {prog : Program} {w : World}
theorem mk_tuple_ne (l b : Addr) (xs ys : Array Value) (n m : Nat) (d1 d2 : Option Addr) (s1 s2 : Array (Option Value)) (sz : xs.size = ys.size) :
    MeetsIn prog w (Builtin.«tuple.__ne__» ⟨[.ref l, .ref b], []⟩)
      (fun A R s => s.heap.get? l = some ⟨.type "tuple", d1, .seq xs n, s1⟩ ∧ s.heap.get? b = some ⟨.type "tuple", d2, .seq ys m, s2⟩ ∧
        (∀ j (h1 : j < xs.size) (h2 : j < ys.size), EqP prog w A.in1 s xs[j] ys[j] true) ∧ R (.ok (.ret (.bool false))) s) := by
  intro A R s h
  obtain ⟨hp, g, d, tk, os⟩ := s
  obtain ⟨hl, hb, he, h⟩ := h
  have f2 := AutoSeq1.sub_tuple_tuple
  have hZ : (xs.toList.zip ys.toList).length = xs.size := by simp [sz]
  wp_walk using wpAny_loadPart' hl, wpAny_loadPart' hb, wpAny_forIn_list _ (fun rest b s' => b.1 = none ∧ s' = ⟨hp, g, d, tk, os⟩ ∧ ∃ i, rest = (xs.toList.zip ys.toList).drop i) _
  case turn =>
    rintro ⟨y, x⟩ rest b s' ⟨hb', rfl, i, hz⟩
    have hlt : i < (xs.toList.zip ys.toList).length := by
      rcases Nat.lt_or_ge i (xs.toList.zip ys.toList).length with q | q
      · exact q
      · rw [List.drop_of_length_le q] at hz
        cases hz
    have h1 : i < xs.size := hZ ▸ hlt
    have h2 : i < ys.size := sz ▸ h1
    rw [List.drop_eq_getElem_cons hlt] at hz
    injection hz with e1 e2
    obtain rfl : y = xs[i] := by simpa using congrArg Prod.fst e1
    obtain rfl : x = ys[i] := by simpa using congrArg Prod.snd e1
    refine wpAny_bind (he i h1 h2 _ _ ?_)
    wp_walk
    exact ⟨rfl, rfl, i + 1, e2⟩
  case fin =>
    rintro ⟨b1, b2⟩ s' ⟨hb', rfl, i, hz⟩
    simp only at hb'
    subst hb'
    wp_walk
    simpa [Builtin.Tuple.tupleCompareSizes, bne, sz] using h
  case h => exact ⟨rfl, rfl, 0, rfl⟩
theorem mk_ne_tuples {A : Around} {s : Shared} {l b : Addr} {xs ys : Array Value} (hl : s.heap.IsTuple l xs) (hb : s.heap.IsTuple b ys) (sz : xs.size = ys.size) (hu : A.units < cLine)
    (he : ∀ j (h1 : j < xs.size) (h2 : j < ys.size), EqP prog w A.in1 s xs[j] ys[j] true) (E Q : Value → Shared → Prop) (h : Q (.bool false) s) : wpAny (model prog w) A (compareOp .NotEq (.ref l) (.ref b)) Q E s := by
  obtain ⟨⟨c1, d1, t1, s1⟩, ho, hc, n, hd⟩ := id hl
  obtain ⟨⟨c2, d2, t2, s2⟩, ho2, hc2, m, hd2⟩ := id hb
  simp only at hc hd hc2 hd2
  subst hc hd hc2 hd2
  have ta : s.TypeIs (.ref l) "tuple" := ⟨_, ho, rfl⟩
  have tb : s.TypeIs (.ref b) "tuple" := ⟨_, ho2, rfl⟩
  exact wpAny_richCompare_same_room (op := .NotEq) ta tb F.slot_tuple_ne (call_meetsIn F.slot_tuple_ne ta F.entry_tuple_ne (F.args_tuple_ne_2 _ _) (mk_tuple_ne l b xs ys n m d1 d2 s1 s2 sz)
    ⟨ho, ho2, he, show Value.bool false ≠ Value.notImplemented ∧ Q (.bool false) s from ⟨(fun x => nomatch x), h⟩⟩) hu
end
end PySem.SeqAt
namespace L2
open PySem PySem.Spec PyProof.Rows
section
variable {X : Cx}
/-- x != y, two tuples whose items are equal, of nesting below 60: False -/
def rNeTV (K : PySem.W.Frag) : R2 := fun x y H Q => ∃ a b xs ys n, x = .ref a ∧ y = .ref b ∧ SqT K H a xs ∧ SqT K H b ys ∧ n ≤ 60 ∧ Paired (EqV K H n) xs ys ∧ Q (.bl false) H
theorem op_neTV (hu : X.A.units + 64 < cLine) : OpR X (compareOp .NotEq) (rNeTV X.K) := by
  intro pins s σ H x y v u Q I rx ry h
  obtain ⟨a, b, xs, ys, n, rfl, rfl, ha, hb, hn, hp, q⟩ := h
  cases (show v = Value.ref a from rx)
  cases (show u = Value.ref b from ry)
  obtain ⟨us, r1, p1, _⟩ := I.tuple ha
  obtain ⟨ws, r2, p2, _⟩ := I.tuple hb
  have sz : us.toArray.size = ws.toArray.size := by
    rw [List.size_toArray, List.size_toArray, ← r1.length, ← r2.length]
    exact Paired.length hp
  refine SeqAt.mk_ne_tuples p1 p2 sz (by omega) (fun j h1 h2 => ?_) _ _ ⟨.bl false, H, I, rfl, q⟩
  have k := items_run (fun x y v u e rx ry => eqV_run I n X.A.in1 (by show X.A.units + 1 + n < cLine; omega) x y v u e rx ry) hp r1 r2 j (by simpa using h1) (by simpa using h2)
  simpa using k
end
end L2


set_option Elab.async false
set_option linter.all false
set_option maxRecDepth 100000
set_option maxHeartbeats 4000000
namespace MK
/-! ### sums and products of fractions by what they share: plain Lean -/
/-- what both are divided by, from nought on -/
abbrev gc (x y : Int) : Int := ((Nat.gcd x.natAbs y.natAbs : Nat) : Int)
theorem gc_dl (x y : Int) : gc x y ∣ x := Int.ofNat_dvd_left.mpr (Nat.gcd_dvd_left _ _)
theorem gc_dr (x y : Int) : gc x y ∣ y := Int.ofNat_dvd_left.mpr (Nat.gcd_dvd_right _ _)
theorem gc_pos {x y : Int} (h : y ≠ 0) : 0 < gc x y := by
  have : Nat.gcd x.natAbs y.natAbs ≠ 0 := fun e => h (by have := Nat.eq_zero_of_gcd_eq_zero_right e; omega)
  show 0 < ((Nat.gcd x.natAbs y.natAbs : Nat) : Int)
  omega
/-- both are what is shared times two that share nothing -/
theorem gc_split {x y : Int} (h : y ≠ 0) : ∃ x' y', x = gc x y * x' ∧ y = gc x y * y' ∧ Nat.gcd x'.natAbs y'.natAbs = 1 ∧ x.fdiv (gc x y) = x' ∧ y.fdiv (gc x y) = y' := by
  obtain ⟨x', hx⟩ := gc_dl x y
  obtain ⟨y', hy⟩ := gc_dr x y
  have p := gc_pos (x := x) h
  refine ⟨x', y', hx, hy, ?_, ?_, ?_⟩
  · have nx : x.natAbs = Nat.gcd x.natAbs y.natAbs * x'.natAbs := by
      have := congrArg Int.natAbs hx
      rw [Int.natAbs_mul] at this
      exact this
    have ny : y.natAbs = Nat.gcd x.natAbs y.natAbs * y'.natAbs := by
      have := congrArg Int.natAbs hy
      rw [Int.natAbs_mul] at this
      exact this
    have p' : 0 < Nat.gcd x.natAbs y.natAbs := by
      have : 0 < ((Nat.gcd x.natAbs y.natAbs : Nat) : Int) := p
      omega
    generalize hg : Nat.gcd x.natAbs y.natAbs = G at *
    have e : Nat.gcd (G * x'.natAbs) (G * y'.natAbs) = G := by rw [← nx, ← ny]; exact hg
    rw [Nat.gcd_mul_left] at e
    exact Nat.eq_of_mul_eq_mul_left p' (by rw [e, Nat.mul_one])
  · generalize gc x y = g at *
    rw [hx]
    exact Int.mul_fdiv_cancel_left _ (by omega)
  · generalize gc x y = g at *
    rw [hy]
    exact Int.mul_fdiv_cancel_left _ (by omega)
theorem fdiv_le {x g : Int} (hg : 0 < g) (hd : g ∣ x) : (x.fdiv g).natAbs ≤ x.natAbs := by
  obtain ⟨z, rfl⟩ := hd
  rw [Int.mul_fdiv_cancel_left _ (by omega), Int.natAbs_mul]
  exact Nat.le_mul_of_pos_left _ (by omega)
theorem pos_of {g x : Int} (hg : 0 < g) (h : 0 < g * x) : 0 < x := Int.not_le.mp fun c => Int.not_le.mpr h (Int.mul_nonpos_of_nonneg_of_nonpos (Int.le_of_lt hg) c)
theorem cop_mulr {x y z : Nat} (h : Nat.gcd x y = 1) (h' : Nat.gcd x z = 1) : Nat.gcd x (y * z) = 1 := Nat.Coprime.mul_right h h'
theorem cop_mull {x y z : Nat} (h : Nat.gcd x z = 1) (h' : Nat.gcd y z = 1) : Nat.gcd (x * y) z = 1 := Nat.Coprime.mul_left h h'
theorem cop_dl {x y z : Nat} (h : Nat.gcd x z = 1) (d : y ∣ x) : Nat.gcd y z = 1 := Nat.Coprime.coprime_dvd_left d h
theorem cop_dr {x y z : Nat} (h : Nat.gcd x z = 1) (d : y ∣ z) : Nat.gcd x y = 1 := Nat.Coprime.coprime_dvd_right d h
theorem abs_dl (x y : Int) : x.natAbs ∣ (x * y).natAbs := by rw [Int.natAbs_mul]; exact ⟨_, rfl⟩
theorem abs_dr (x y : Int) : y.natAbs ∣ (x * y).natAbs := by rw [Int.natAbs_mul]; exact ⟨_, Nat.mul_comm _ _⟩
/-- what sums of two share with one part is shared by the other -/
theorem cop_sum {p q m : Int} (h : Nat.gcd p.natAbs m.natAbs = 1) : Nat.gcd (p + m * q).natAbs m.natAbs = 1 := by
  have e := Int.gcd_add_mul_left_right m p q
  rw [Int.gcd_comm m p, show p.gcd m = 1 from h, Int.gcd_comm] at e
  exact e
/-- one and another fraction, together, as it is worked out -/
def togA (a b c d : Int) : Int := (a * d.fdiv (gc b d) + c * b.fdiv (gc b d)).fdiv (gc (a * d.fdiv (gc b d) + c * b.fdiv (gc b d)) (gc b d))
def togB (a b c d : Int) : Int := b.fdiv (gc b d) * d.fdiv (gc (a * d.fdiv (gc b d) + c * b.fdiv (gc b d)) (gc b d))
theorem tog_ok {a b c d : Int} (h : Red a b) (h' : Red c d) : Red (togA a b c d) (togB a b c d) ∧ togA a b c d * (b * d) = (a * d + c * b) * togB a b c d := by
  obtain ⟨b0, g1⟩ := h
  obtain ⟨d0, g2⟩ := h'
  have dn : d ≠ 0 := by omega
  have sp := gc_pos (x := b) dn
  unfold togA togB
  obtain ⟨b', d', eb, ed, cbd, fb, fd⟩ := gc_split (x := b) dn
  rw [fb, fd]
  generalize gc b d = s at *
  generalize hw : a * d' + c * b' = whole at *
  obtain ⟨w', s', ew, es, cws, fw, fs⟩ := gc_split (x := whole) (y := s) (by omega)
  have gp := gc_pos (x := whole) (y := s) (by omega)
  rw [fw]
  generalize gc whole s = g at *
  have dd : d = g * (s' * d') := by rw [ed, ← Int.mul_assoc, ← es]
  have fdd : d.fdiv g = s' * d' := by
    rw [dd]
    exact Int.mul_fdiv_cancel_left _ (by omega)
  rw [fdd]
  have cwb : Nat.gcd whole.natAbs b'.natAbs = 1 := by
    have h1 : Nat.gcd (a * d').natAbs b'.natAbs = 1 := by
      rw [Int.natAbs_mul]
      refine cop_mull (cop_dr g1 ?_) (by rw [Nat.gcd_comm]; exact cbd)
      rw [eb]
      exact abs_dr _ _
    rw [← hw, Int.mul_comm c b']
    exact cop_sum h1
  have cwd : Nat.gcd whole.natAbs d'.natAbs = 1 := by
    have h1 : Nat.gcd (c * b').natAbs d'.natAbs = 1 := by
      rw [Int.natAbs_mul]
      refine cop_mull (cop_dr g2 ?_) cbd
      rw [ed]
      exact abs_dr _ _
    rw [← hw, Int.add_comm, Int.mul_comm a d']
    exact cop_sum h1
  have ww : w'.natAbs ∣ whole.natAbs := by
    rw [ew]
    exact abs_dr _ _
  refine ⟨⟨?_, ?_⟩, ?_⟩
  · have p1 : 0 < b' := pos_of sp (by rw [← eb]; exact b0)
    have p2 : 0 < s' * d' := pos_of gp (by rw [← dd]; exact d0)
    exact Int.mul_pos p1 p2
  · rw [Int.natAbs_mul, Int.natAbs_mul]
    exact cop_mulr (cop_dl cwb ww) (cop_mulr cws (cop_dl cwd ww))
  · have e1 : a * d + c * b = s * whole := by
      rw [ed, eb, ← hw, Int.mul_add, Int.mul_left_comm a s d', Int.mul_left_comm c s b']
    rw [e1, dd, ew, eb]
    simp only [Int.mul_assoc, Int.mul_comm, Int.mul_left_comm]
/-- their product, as it is worked out -/
def proA (a b c d : Int) : Int := a.fdiv (gc a d) * c.fdiv (gc c b)
def proB (a b c d : Int) : Int := b.fdiv (gc c b) * d.fdiv (gc a d)
theorem pro_ok {a b c d : Int} (h : Red a b) (h' : Red c d) : Red (proA a b c d) (proB a b c d) ∧ proA a b c d * (b * d) = a * c * proB a b c d := by
  obtain ⟨b0, g1⟩ := h
  obtain ⟨d0, g2⟩ := h'
  obtain ⟨a', d', ea, ed, cad, fa, fd⟩ := gc_split (x := a) (y := d) (by omega)
  obtain ⟨c', b', ec, eb, ccb, fc, fb⟩ := gc_split (x := c) (y := b) (by omega)
  have p1 := gc_pos (x := a) (y := d) (by omega)
  have p2 := gc_pos (x := c) (y := b) (by omega)
  unfold proA proB
  rw [fa, fd, fc, fb]
  generalize gc a d = g at *
  generalize gc c b = k at *
  refine ⟨⟨Int.mul_pos (pos_of p2 (by rw [← eb]; exact b0)) (pos_of p1 (by rw [← ed]; exact d0)), ?_⟩, ?_⟩
  · have da : a'.natAbs ∣ a.natAbs := by rw [ea]; exact abs_dr _ _
    have dc : c'.natAbs ∣ c.natAbs := by rw [ec]; exact abs_dr _ _
    have db : b'.natAbs ∣ b.natAbs := by rw [eb]; exact abs_dr _ _
    have dd : d'.natAbs ∣ d.natAbs := by rw [ed]; exact abs_dr _ _
    rw [Int.natAbs_mul, Int.natAbs_mul]
    exact cop_mull (cop_mulr (cop_dl (cop_dr g1 db) da) cad) (cop_mulr ccb (cop_dl (cop_dr g2 dd) dc))
  · rw [ea, ed, ec, eb]
    simp only [Int.mul_assoc, Int.mul_comm, Int.mul_left_comm]
/-- one over it, as it is worked out -/
def trnA (a b : Int) : Int := if a < 0 then -b else b
def trnB (a b : Int) : Int := if a < 0 then -a else a
theorem trn_ok {a b : Int} (h : Red a b) (n : a ≠ 0) : Red (trnA a b) (trnB a b) ∧ trnA a b * a = b * trnB a b := by
  obtain ⟨b0, g⟩ := h
  unfold trnA trnB
  split
  · refine ⟨⟨by omega, ?_⟩, ?_⟩
    · rw [Int.natAbs_neg, Int.natAbs_neg, Nat.gcd_comm]
      exact g
    · rw [Int.neg_mul, Int.mul_neg]
  · exact ⟨⟨by omega, by rw [Nat.gcd_comm]; exact g⟩, rfl⟩
theorem trn_le (a b : Int) : (trnA a b).natAbs = b.natAbs ∧ (trnB a b).natAbs = a.natAbs := by
  unfold trnA trnB
  split <;> constructor <;> omega
end MK


set_option Elab.async false
set_option linter.all false
set_option maxRecDepth 100000
set_option maxHeartbeats 4000000
/-! Things of any form: what type() tells of them, types held against one another, all() over the signs of a text. -/
namespace PySem.TypeEq
open Sem (wp)
theorem slot_type_ne : Slot "type" (cmpInfo .NotEq).2.1 "object.__ne__" :=
  .of (owner := "object") (n := "__ne__") (by rw [typeLookup_type, builtinLookup_eq_fast]; kernel_rfl) (by decide +kernel) (by decide +kernel) (by decide +kernel)
    (by first | exact .inl (by decide +kernel) | exact .inr (by decide +kernel)) (by rw [isSubtype_type]; kernel_rfl)
theorem slot_type_ne_refl : Slot "type" (cmpInfo .NotEq).2.2 "object.__ne__" :=
  .of (owner := "object") (n := "__ne__") (by rw [typeLookup_type, builtinLookup_eq_fast]; kernel_rfl) (by decide +kernel) (by decide +kernel) (by decide +kernel)
    (by first | exact .inl (by decide +kernel) | exact .inr (by decide +kernel)) (by rw [isSubtype_type]; kernel_rfl)
theorem slot_type_eqN : Slot "type" (Str.ofString "__eq__") "object.__eq__" :=
  .of (owner := "object") (n := "__eq__") (by rw [typeLookup_type, builtinLookup_eq_fast]; kernel_rfl) (by decide +kernel) (by decide +kernel) (by decide +kernel)
    (by first | exact .inl (by decide +kernel) | exact .inr (by decide +kernel)) (by rw [isSubtype_type]; kernel_rfl)
section
variable {prog : Program} {w : World} {A : Around} {E : Value → Shared → Prop} {s : Shared} {Q : Value → Shared → Prop}
theorem mk_ne_same {X : String} (hX : ∀ s' : Shared, s'.TypeIs (.type X) "type") {Q : Fin → Shared → Prop} (h : Q (.done (.ret (.bool false))) s) : wpAny (model prog w) A (Builtin.«object.__ne__» ⟨[.type X, .type X], []⟩) Q E s := by
  unfold Builtin.«object.__ne__»
  repeat (first
    | exact h
    | with_reducible refine wpAny_cRoomFor_or (.inl rfl) ?_
    | (refine wpAny_bind (m := callSpecialIfBound? (.type X) (Str.ofString "__eq__") [.type X]) (wpAny_callSpecialIfBound?_slot (hX s) slot_type_eqN
        (call_gives slot_type_eqN (hX s) F.entry_object_eq (F.args_object_eq_2 _ _) (object_eq_same rfl (by simp)) ?_)))
    | (refine wpAny_bind (m := truthy (.bool _)) (wpAny_truthy_bool ?_))
    | wp_step)
theorem mk_ne_other {X Y : String} (hX : ∀ s' : Shared, s'.TypeIs (.type X) "type") (hne : (Value.type X == Value.type Y) = false) {Q : Fin → Shared → Prop} (h : Q (.done (.ret .notImplemented)) s) : wpAny (model prog w) A (Builtin.«object.__ne__» ⟨[.type X, .type Y], []⟩) Q E s := by
  unfold Builtin.«object.__ne__»
  repeat (first
    | exact h
    | with_reducible refine wpAny_cRoomFor_or (.inl rfl) ?_
    | (refine wpAny_bind (m := callSpecialIfBound? (.type X) (Str.ofString "__eq__") [.type Y]) (wpAny_callSpecialIfBound?_slot (hX s) slot_type_eqN
        (call_gives slot_type_eqN (hX s) F.entry_object_eq (F.args_object_eq_2 _ _) (object_eq_other rfl hne) (show wpAny (model prog w) A (ret Value.notImplemented) Q E s from ?_))))
    | wp_step)
theorem ne_type_same {X : String} (hX : ∀ s' : Shared, s'.TypeIs (.type X) "type") (h : Q (.bool false) s) : wpAny (model prog w) A (compareOp .NotEq (.type X) (.type X)) Q E s := by
  show wpAny _ A (richCompare .NotEq _ _) Q E s
  exact wpAny_richCompare_same (T := "type") (hX s) (hX s) slot_type_ne
    (wpAny_call_entry slot_type_ne (hX s) F.cmpEntry_ne (mk_ne_same hX ⟨_, rfl, (fun e => nomatch e), h⟩) (F.cmpArgs_ne _ _))
theorem rc_ne_decline {a b : Value} {T id : String} {k : Bool} {Q : Value → Shared → Prop} {M : Model} (ha : ∀ s' : Shared, s'.TypeIs a T) (hb : ∀ s' : Shared, s'.TypeIs b T)
    (h1 : Slot T (cmpInfo .NotEq).2.1 id) (h2 : Slot T (cmpInfo .NotEq).2.2 id) (hv : [a, b].any Value.onHeap = false) (hk : isSame a b = pure k)
    (hc : wpAny M A (call (.builtin id) [a, b]) (fun v s₁ => v = .notImplemented ∧ wpAny M A (call (.builtin id) [b, a]) (fun v s₂ => v = .notImplemented ∧ Q (.bool (!k)) s₂) E s₁) E s) :
    wpAny M A (richCompare .NotEq a b) Q E s := by
  rcases hi : cmpInfo CmpOp.NotEq with ⟨sym, f, r⟩
  rw [hi] at h1 h2
  simp only [richCompare, hi, (ha s).oneThing_none]
  try with_reducible refine wpAny_holding ?_
  refine wpAny_bind (wpAny_cRoomFor_or (.inl hv) ?_)
  refine wpAny_bind (wpAny_typeOf (ha s) (wpAny_bind (wpAny_typeOf (hb s) ?_)))
  simp only [bne_self_eq_false, Bool.false_eq_true, if_false, pure_bind, Bool.not_false, if_true]
  refine wpAny_bind (m := tryCompare a _ b) (wpAny_tryCompare_declines (ha s) h1 (wpAny_mono hc (fun v s₁ h₁ => ⟨h₁.1, ?_⟩) fun _ _ x => x))
  refine wpAny_bind (m := tryCompare b _ a) (wpAny_tryCompare_declines (hb s₁) h2 (wpAny_mono h₁.2 (fun v s₂ h₂ => ⟨h₂.1, ?_⟩) fun _ _ x => x))
  refine wpAny_bind (wpAny_rule (wpAny_bind (wpAny_of_eq hk (wpAny_pure h₂.2))))
theorem ne_type_other {X Y : String} (hX : ∀ s' : Shared, s'.TypeIs (.type X) "type") (hY : ∀ s' : Shared, s'.TypeIs (.type Y) "type") (hne : (Value.type X == Value.type Y) = false) (h : Q (.bool true) s) : wpAny (model prog w) A (compareOp .NotEq (.type X) (.type Y)) Q E s := by
  have hne' : (Value.type Y == Value.type X) = false := by
    rw [Bool.eq_false_iff] at hne ⊢
    intro e
    exact hne (by rw [beq_iff_eq] at e ⊢; exact e.symm)
  show wpAny _ A (richCompare .NotEq _ _) Q E s
  exact rc_ne_decline (T := "type") (k := false) hX hY slot_type_ne slot_type_ne_refl rfl (by rw [isSame_plain rfl, hne])
    (wpAny_call_entry slot_type_ne (hX s) F.cmpEntry_ne (mk_ne_other hX hne ⟨_, rfl, rfl, wpAny_call_entry slot_type_ne_refl (hY s) F.cmpEntry_ne (mk_ne_other hY hne' ⟨_, rfl, rfl, h⟩) (F.cmpArgs_ne _ _)⟩) (F.cmpArgs_ne _ _))
end
end PySem.TypeEq
namespace L2
open PySem PySem.Spec PyProof.Rows
/-- the kinds of a thing -/
inductive TyN : String → Prop where
  | non : TyN "NoneType"
  | bl : TyN "bool"
  | int : TyN "int"
  | str : TyN "str"
  | lst : TyN "list"
  | tup : TyN "tuple"
theorem TyN.meta {X : String} (h : TyN X) (s : Shared) : s.TypeIs (.type X) "type" := by
  cases h
  · exact TypeEq.meta_NoneType s
  · exact TypeEq.meta_bool s
  · exact TypeEq.meta_int s
  · exact TypeEq.meta_str s
  · exact TypeEq.meta_list s
  · exact TypeEq.meta_tuple s
/-- what type() tells of plain data -/
def tyD : PyData → String
  | .none => "NoneType"
  | .bool _ => "bool"
  | .int _ => "int"
  | .str _ => "str"
  | .list _ => "list"
  | .tuple _ => "tuple"
  | _ => ""
section
variable {X : Cx}
def rTyEq (b : Bool) : R2 := fun x y H Q => ∃ m n, x = .ty m ∧ y = .ty n ∧ TyN m ∧ TyN n ∧ Q (.bl (decide (m = n) == b)) H
theorem op_eqTy : OpR X (compareOp .Eq) (rTyEq true) := by
  intro pins s σ H x y v u Q I rx ry h
  obtain ⟨m, n, rfl, rfl, hm, hn, q⟩ := h
  cases (show v = Value.type m from rx)
  cases (show u = Value.type n from ry)
  by_cases e : m = n
  · subst e
    exact TypeEq.eq_type_same hm.meta ⟨.bl true, H, I, rfl, by simpa using q⟩
  · exact TypeEq.eq_type_other hm.meta hn.meta (by rw [beq_eq_false_iff_ne]; exact fun z => e (Value.type.inj z)) ⟨.bl false, H, I, rfl, by simpa [e] using q⟩
theorem op_neTy : OpR X (compareOp .NotEq) (rTyEq false) := by
  intro pins s σ H x y v u Q I rx ry h
  obtain ⟨m, n, rfl, rfl, hm, hn, q⟩ := h
  cases (show v = Value.type m from rx)
  cases (show u = Value.type n from ry)
  by_cases e : m = n
  · subst e
    exact TypeEq.ne_type_same hm.meta ⟨.bl false, H, I, rfl, by simpa using q⟩
  · exact TypeEq.ne_type_other hm.meta hn.meta (by rw [beq_eq_false_iff_ne]; exact fun z => e (Value.type.inj z)) ⟨.bl true, H, I, rfl, by simpa [e] using q⟩
/-- type(x), x plain data -/
def rTypeD (K : PySem.W.Frag) : List V → Hp → VK → Prop := fun xs H Q => ∃ x d, xs = [x] ∧ Dp K H x d ∧ TyN (tyD d) ∧ Q (.ty (tyD d)) H
theorem call_typeD : CallR X (.type "type") (rTypeD X.K) := by
  intro pins s σ H xs us Q I r h
  obtain ⟨x, d, rfl, hd, ht, q⟩ := h
  obtain ⟨v, rfl, rx⟩ := vals1 r
  have fin : EP X pins σ Q (.type (tyD d)) s := ⟨.ty _, H, I, rfl, q⟩
  cases hd with
  | non => cases (show v = Value.none from rx); exact call_type_of (Tx := "NoneType") rfl (by decide +kernel) fin
  | bl y => cases (show v = Value.bool y from rx); exact call_type_of (Tx := "bool") rfl (by decide +kernel) fin
  | int i => obtain ⟨t, rfl⟩ := (show ∃ t, v = Value.int i t from rx); exact call_type_of (Tx := "int") rfl (by decide +kernel) fin
  | str y => obtain ⟨t, rfl⟩ := (show ∃ t, v = Value.str y t from rx); exact call_type_of (Tx := "str") rfl (by decide +kernel) fin
  | lst hs _ =>
    cases (show v = Value.ref _ from rx)
    obtain ⟨its, _, ⟨o, n, e, c, _⟩, _⟩ := I.list hs
    exact call_type_of (Tx := "list") ⟨o, e, c⟩ (by decide +kernel) fin
  | tup hs _ =>
    cases (show v = Value.ref _ from rx)
    obtain ⟨its, _, ⟨o, e, c, _⟩, _⟩ := I.tuple hs
    exact call_type_of (Tx := "tuple") ⟨o, e, c⟩ (by decide +kernel) fin
end
end L2
namespace L2
open PySem PySem.Spec PyProof.Rows
/-- d.get(x), d a written dict of the module, x a text -/
def tKGet1 (K : PySem.W.Frag) (w : World) (td ty : TE) : TE := fun σ H Q => td σ H fun x H1 => ∃ p es n, x = .ref p ∧ K.lookup p = some ⟨.type "dict", none, .dict es n, #[]⟩ ∧ PySem.W.KeysLit w.params es.toList ∧ (p == sysModules) = false ∧
  ty σ H1 fun y H2 => ∃ z, y = .str z ∧ ((∃ v, KDct K w p z v ∧ Q v H2) ∨ (PySem.W.nsIn K p z = some none ∧ Q .non H2))
section
variable {X : Cx} {o e : Expr} {apos cpos : Pos} {td ty : TE}
theorem pe_kget1 (ho : PE X o td) (he : PE X e ty) (m : M1 X o "get" apos e cpos) : PE X (.Call (.Attribute o "get" apos) [e] [] cpos) (tKGet1 X.K X.w td ty) := by
  refine ⟨fun pins s σ H Q I h => ?_⟩
  refine wpAny_Call_method m.base m.few m.line PySem.F.plainAttrs_dict PySem.F.slot_dict_get PySem.F.type_dict_get (thn (ho.run pins s σ H _ I h) fun u s1 ⟨x, H1, I1, rx, p, es, n, ex, hl, hk, low, q1⟩ => ?_)
  subst ex
  obtain rfl : u = Value.ref p := rx
  refine ⟨⟨_, I1.kIn _ _ hl, rfl⟩, (fun b e => by cases e; exact ⟨_, I1.kIn _ _ hl, rfl⟩), ?_⟩
  rw [m.trees]
  refine Calls.callWith_builtin rfl (Calls.evalArgs_plain (Calls.spliced_cons (thn (he.run pins s1 σ H1 _ I1 q1) fun iv s2 ⟨y, H2, I2, ry, z, ez, q2⟩ => Calls.spliced_nil ?_)))
  subst ez
  obtain ⟨t, rfl⟩ := (show ∃ t, iv = Value.str z t from ry)
  have hm' := PySem.W.mapOf_K (prog := X.prog) (w := X.w) I2.kIn hl hk
  refine call_meetsIn PySem.F.slot_dict_get hm'.typeIs PySem.F.entry_dict_get (PySem.F.args_dict_get_2 _ _) (meets_dict_get (strKind X.prog X.w) p (strKind_is X.prog X.w z t) low) ⟨_, hm', ?_⟩
  rcases q2 with ⟨v, ⟨es', n', u0, hl', hk', e, ru⟩, q⟩ | ⟨e, q⟩
  · rw [hl] at hl'
    cases hl'
    rw [PySem.W.find_K hl e]
    exact ⟨v, H2, I2.tok _, ru, q⟩
  · rw [PySem.W.find_K hl e]
    exact ⟨.non, H2, I2.tok _, rfl, q⟩
end
end L2
namespace GxR
open PySem PySem.Spec PyProof.Rows L2
/-- 'a' <= x <= 'z', for any two such texts -/
theorem elt_chain {prog : Program} {w : World} {scope : Scope} {x k k' : Str} {j j' : Nat} {p1 p2 p3 p4 : Pos} (hk : scope.kind = .function) (hl : scope.names.lookup x = some .local) (hm' : lastMarks [CmpOp.LtE, CmpOp.LtE] [.Name x p1, .Constant (.str k') j' p4] = false)
    (hd : (x == ("__debug__" : Str)) = false := by decide) :
    EltP prog w scope x (.Compare (.Constant (.str k) j p2) [.LtE, .LtE] [.Name x p1, .Constant (.str k') j' p4] p3) (fun c => !decide ([c] < k.cps.toList) && !decide (k'.cps.toList < [c])) := by
  intro cenv A' E' c t s₂ m₂ hs hn hm
  refine Compare_chain (Calls.Constant_str (chain_link (wpAny_Name (wpAny_loadName_local (by rw [hs]; exact hk) (show cenv.scope.names.lookup x = some .local by rw [hs]; exact hl) hn hm ?_) hd))) hm'
  refine PySem.P.le_str (wpAny_truthy_bool ?_)
  by_cases e : [c] < k.cps.toList
  · have e' : (!decide ((⟨#[c]⟩ : Str).cps.toList < k.cps.toList)) = false := by
      rw [show decide ((⟨#[c]⟩ : Str).cps.toList < k.cps.toList) = true from decide_eq_true e]; rfl
    rw [e']
    exact ite_ff ⟨by show Value.bool false = Value.bool (!decide ([c] < k.cps.toList) && !decide (k'.cps.toList < [c])); rw [decide_eq_true e]; rfl, keeps_tok _ _⟩
  · have e' : (!decide ((⟨#[c]⟩ : Str).cps.toList < k.cps.toList)) = true := by
      rw [show decide ((⟨#[c]⟩ : Str).cps.toList < k.cps.toList) = false from decide_eq_false e]; rfl
    rw [e']
    refine ite_tt (chain_last (Calls.Constant_str (PySem.P.le_str ⟨?_, keeps_tok _ _⟩)))
    show Value.bool (!decide (k'.cps.toList < [c])) = Value.bool (!decide ([c] < k.cps.toList) && !decide (k'.cps.toList < [c]))
    rw [decide_eq_false e]
    rfl
end GxR


set_option Elab.async false
set_option linter.all false
set_option maxRecDepth 100000
set_option maxHeartbeats 4000000
namespace MK
open PySem PySem.Spec PyProof.Rows L2
def topS (i : Nat) : Stmt := PySem.Challenge.pw_measurekind_k04_reckonings_known.main.body.getD i (.Pass ⟨0, 0, 0, 0⟩)
abbrev sIsR : Stmt := topS 12
abbrev sNou : Stmt := topS 13
abbrev sPaP : Stmt := topS 14
abbrev sAll : Stmt := topS 15
abbrev sForm : Stmt := topS 16
abbrev sIsN : Stmt := topS 17
abbrev sIsMs : Stmt := topS 18
abbrev sIsPr : Stmt := topS 19
abbrev sIsNm : Stmt := topS 20
abbrev sIsWh : Stmt := topS 21
abbrev sCell : Stmt := topS 23
abbrev sMix : Stmt := topS 24
abbrev sWords : Stmt := topS 25
abbrev sMade : Stmt := topS 26
abbrev sSmall : Stmt := topS 27
abbrev sShared : Stmt := topS 28
abbrev sLowest : Stmt := topS 29
abbrev sNumber : Stmt := topS 30
abbrev sLeaf : Stmt := topS 31
abbrev sTree : Stmt := topS 32
abbrev sParts : Stmt := topS 33
abbrev sMany : Stmt := topS 34
abbrev sPut : Stmt := topS 35
abbrev sBadLeaf : Stmt := topS 36
abbrev sBadNode : Stmt := topS 37
abbrev sEdge : Stmt := topS 38
abbrev sDeep : Stmt := topS 39
abbrev sWide : Stmt := topS 40
abbrev sPows : Stmt := topS 41
abbrev sDrawn : Stmt := topS 42
abbrev sNouIn : Stmt := topS 43
abbrev sLaw : Stmt := topS 44
end MK


set_option Elab.async false
set_option linter.all false
set_option maxRecDepth 100000
set_option maxHeartbeats 4000000
namespace MK
open PySem PySem.Spec PyProof.Rows L2
/-! ### the heap behind a def with a generator expression: its table at P may have grown -/
structure Kp (P : Addr) (H H' : Hp) : Prop where
  tab : GxR.TabG H' P
  ks : ∀ b u, b ≠ P → H b = some u → H' b = some u
theorem Kp.refl {P : Addr} {H : Hp} (h : GxR.TabG H P) : Kp P H H := ⟨h, fun _ _ _ e => e⟩
theorem Kp.trans {P : Addr} {H H1 H2 : Hp} (a : Kp P H H1) (b : Kp P H1 H2) : Kp P H H2 := ⟨b.tab, fun x u n e => b.ks x u n (a.ks x u n e)⟩
theorem Kp.of {P : Addr} {H H' : Hp} (h : GxR.TabG H P) (s : Same H H') : Kp P H H' := by
  obtain ⟨ps, e, t⟩ := h
  exact ⟨⟨ps, s _ _ e, t⟩, fun _ _ _ e => s _ _ e⟩
theorem Kp.tabbed {P : Addr} {H H' : Hp} (h : GxR.Tabbed P H H') : Kp P H H' := ⟨h.1, fun b u n e => by rw [h.2 b n]; exact e⟩
theorem tab_ne {P b : Addr} {H : Hp} {u : HO} (h : GxR.TabG H P) (e : H b = some u) (n : ∀ ps, u ≠ .tbl ps) : b ≠ P := fun z => by
  obtain ⟨ps, q, _⟩ := h
  rw [z, q] at e
  exact n ps (Option.some.inj e).symm
theorem Kp.at {P b : Addr} {H H' : Hp} {u : HO} (k : Kp P H H') (h : GxR.TabG H P) (e : H b = some u) (n : ∀ ps, u ≠ .tbl ps) : H' b = some u := k.ks b u (tab_ne h e n) e
theorem Kp.sqL {P a : Addr} {K : PySem.W.Frag} {H H' : Hp} {xs : List V} (k : Kp P H H') (h : GxR.TabG H P) (s : SqL K H a xs) : SqL K H' a xs := by
  rcases s with (e | ⟨o, e⟩) | s
  · exact .inl (.inl (k.at h e (fun _ z => nomatch z)))
  · exact .inl (.inr ⟨o, k.at h e (fun _ z => nomatch z)⟩)
  · exact .inr s
theorem Kp.sqT {P a : Addr} {K : PySem.W.Frag} {H H' : Hp} {xs : List V} (k : Kp P H H') (h : GxR.TabG H P) (s : SqT K H a xs) : SqT K H' a xs := by
  rcases s with (e | ⟨o, e⟩) | s
  · exact .inl (.inl (k.at h e (fun _ z => nomatch z)))
  · exact .inl (.inr ⟨o, k.at h e (fun _ z => nomatch z)⟩)
  · exact .inr s
mutual
theorem Kp.dp {P : Addr} {K : PySem.W.Frag} {H H' : Hp} (k : Kp P H H') (h : GxR.TabG H P) : ∀ (d : PyData) (v : V), Dp K H v d → Dp K H' v d
  | .none, _, .non => .non
  | .bool _, _, .bl _ => .bl _
  | .int _, _, .int _ => .int _
  | .str _, _, .str _ => .str _
  | .list ds, _, .lst s a => .lst (k.sqL h s) (Kp.dps k h ds _ a)
  | .tuple ds, _, .tup s a => .tup (k.sqT h s) (Kp.dps k h ds _ a)
theorem Kp.dps {P : Addr} {K : PySem.W.Frag} {H H' : Hp} (k : Kp P H H') (h : GxR.TabG H P) : ∀ (ds : List PyData) (vs : List V), DpAll K H vs ds → DpAll K H' vs ds
  | [], _, .nil => .nil
  | d :: ds, _, .cons a b => .cons (Kp.dp k h d _ a) (Kp.dps k h ds _ b)
end
theorem dp_ty {K : PySem.W.Frag} {H : Hp} {v : V} {d : PyData} (h : Dp K H v d) : TyN (tyD d) := by
  cases h <;> constructor
/-! ### what the parts of a thing are asked, as truths -/
def wholeD (d : PyData) (lo hi : Int) : Bool := match d with
  | .int i => decide (lo ≤ i) && decide (i ≤ hi)
  | _ => false
def azB (c : Nat) : Bool := !decide ([c] < (Str.ofString "a").cps.toList) && !decide ((Str.ofString "z").cps.toList < [c])
def nameD (d : PyData) : Bool := match d with
  | .str z => decide (1 ≤ z.length) && decide (z.length ≤ 8) && z.cps.toList.all azB
  | _ => false
def pairD (d : PyData) : Bool := match d with
  | .tuple [a, b] => nameD a && wholeD b (-20) 20 && !(match b with | .int i => decide (i = 0) | _ => true)
  | _ => false
section
variable {P : Program} {w : World} {K : PySem.W.Frag} {mg : Str → Option Value} {base : Heap} {pt : Addr}
/-- a def whose code object is known -/
structure FunC (K : PySem.W.Frag) (x qual : Str) (st : Stmt) (f c : Addr) (fd : FuncData) : Prop where
  ex : ∃ (oc : Value) (od : Option Addr) (kV doc pm : Value) (an : Option Addr) (ct : Value) (osl : Array (Option Value)),
    fd = PySem.W.fnOf x qual (defArgs st) (defBody st) (defScope st) .none kV doc pm an (.ref c) ct ∧ K.lookup f = some ⟨oc, od, .func fd, osl⟩ ∧ PySem.W.codeIn K (.ref c) qual = true
  kp : PySem.W.keepIn K (.ref f) = true
theorem FunC.fn {x qual : Str} {st : Stmt} {f c : Addr} {fd : FuncData} (F : FunC K x qual st f c fd) : Fun K x qual st f fd := by
  obtain ⟨⟨oc, od, kV, doc, pm, an, ct, osl, e, l, h⟩, kp⟩ := F
  exact ⟨⟨oc, od, kV, doc, pm, an, .ref c, ct, osl, e, l, h⟩, kp⟩
theorem FunC.ok {x qual : Str} {st : Stmt} {f c : Addr} {fd : FuncData} {N ps : List Str} {k : Nat} {sp : Sp} (F : FunC K x qual st f c fd) (S : FnScope N ps (defScope st)) (len : ∀ vs H Q E, sp vs H Q E → vs.length = ps.length)
    (hbody : ∀ (A : Around) (outer : List Env) (s : Shared) (H : Hp) (vs : List V) (Q : VK) (E : XK), Room k (A.deeper (envOfC qual (defScope st) s.heap.objs.size f (.ref c))) → sp vs H Q E →
      ∃ t, PSs (cxOf CX0 P w K mg base N qual (defScope st) f (.ref c) A outer s H E).nox (defBody st) t ∧ t { nx := fun _ H' => Q .non H', rt := Q } (start N vs) H) : FnOk P w K mg base CX0 (k + 1) f fd ps sp := by
  obtain ⟨oc, od, kV, doc, pm, an, ct, osl, rfl, lk, hcd⟩ := F.ex
  refine fn_of lk hcd S len fun A outer s H vs Q E hr hsp => ?_
  obtain ⟨t, h, q⟩ := hbody A outer s H vs Q E hr hsp
  exact ⟨t, h.nox, q⟩
theorem gen_free {env : Env} {scope : Scope} (h : scope.names.all (fun y => decide (y.2 ≠ .free)) = true) : ∀ y ∈ scope.names, y.2 = .free → ∃ c, env.cells.lookup y.1 = some c := fun y hy e => absurd e (of_decide_eq_true (List.all_eq_true.mp h y hy))
/-! ### _is_whole -/
theorem scIsWh : FnScope ["thing", "low", "high"] ["thing", "low", "high"] (defScope sIsWh) := ⟨rfl, rfl, rfl, by decide +kernel, rfl, by decide +kernel, by decide +kernel⟩
def spIsWh (K : PySem.W.Frag) : Sp := fun vs H Q _ => ∃ (x : V) (d : PyData) (lo hi : Int), vs = [x, .int lo, .int hi] ∧ Dp K H x d ∧ Q (.bl (wholeD d lo hi)) H
theorem ok_isWh {f : Addr} {fd : FuncData} (F : Fun K "_is_whole" "_is_whole" sIsWh f fd) (mty : mg "type" = none) (mn : mg "int" = none) : FnOk P w K mg base CX0 1 f fd ["thing", "low", "high"] (spIsWh K) := by
  refine F.ok scIsWh (fun vs H Q E h => ?_) (fun cdv A outer s H vs Q E hr h => ?_)
  · obtain ⟨x, d, lo, hi, rfl, _⟩ := h
    rfl
  · obtain ⟨x, d, lo, hi, rfl, hd, q⟩ := h
    refine ⟨_, pss_one (ps_ret (pe_and (pe_cmpR op_eqTy (pe_callTy call_typeD (by rfl) mty PyProof.Rows.boot_type (pa_cons (pv 0) pa_nil)) (pe_bltn (v := .ty "int") (by rfl) mn PyProof.Rows.boot_int rfl) (nomark _))
      (pe_one (pe_chain op_le op_le (pv 1) (pv 0) (pv 2))))), ?_⟩
    refine ⟨_, rfl, x, d, rfl, hd, dp_ty hd, _, _, rfl, rfl, dp_ty hd, .int, _, rfl, ?_⟩
    cases hd with
    | int i =>
      refine iteT ?_
      refine ⟨_, rfl, _, rfl, _, _, rfl, rfl, _, rfl, ite2 (fun e => ?_) (fun e => ?_)⟩
      · refine ⟨_, rfl, _, _, rfl, rfl, ?_⟩
        have e' : wholeD (.int i) lo hi = decide (i ≤ hi) := by
          show (decide (lo ≤ i) && decide (i ≤ hi)) = _
          rw [e]; rfl
        rw [e'] at q
        exact q
      · have e' : wholeD (.int i) lo hi = false := by
          show (decide (lo ≤ i) && decide (i ≤ hi)) = _
          rw [Bool.eq_false_iff.mpr e]; rfl
        rw [e'] at q
        exact q
    | _ => exact iteF q
/-! ### _is_name -/
theorem scIsNm : FnScope ["thing"] ["thing"] (defScope sIsNm) := ⟨rfl, rfl, rfl, by decide +kernel, rfl, by decide +kernel, by decide +kernel⟩
def spIsNm (K : PySem.W.Frag) (pt : Addr) : Sp := fun vs H Q _ => ∃ (x : V) (d : PyData), vs = [x] ∧ Dp K H x d ∧ GxR.TabG H pt ∧ (∀ z, d = .str z → z.length ≤ sizeLine) ∧ ∀ H', Kp pt H H' → Q (.bl (nameD d)) H'
theorem ok_isNm {f c : Addr} {fd : FuncData} {t8 : Tok} (F : FunC K "_is_name" "_is_name" sIsNm f c fd) (TB : GxR.TabB base mg c pt) (mty : mg "type" = none) (mstr : mg "str" = none) (ml : mg "len" = none) (ma : mg "all" = none) (m8 : mg "MOST_SIGNS" = some (.int 8 t8)) :
    FnOk P w K mg base CX0 1 f fd ["thing"] (spIsNm K pt) := by
  refine F.ok scIsNm (fun vs H Q E h => ?_) (fun A outer s H vs Q E hr h => ?_)
  · obtain ⟨x, d, rfl, _⟩ := h
    rfl
  · obtain ⟨x, d, rfl, hd, ht, hz, q⟩ := h
    refine ⟨_, pss_cons (ps_if (pw_or (pt_cmpR op_neTy (pe_callTy call_typeD (by rfl) mty PyProof.Rows.boot_type (pa_cons (pv 0) pa_nil)) (pe_bltn (v := .ty "str") (by rfl) mstr PyProof.Rows.boot_str rfl) (nomark _))
        (pw_or1 (pt_not (pt_chain op_le op_le pe_int (pe_callB call_len_str (by rfl) ml PySem.boot_len (pa_cons (pv 0) pa_nil)) (pe_glob (v := .int 8) (by rfl) m8 ⟨_, rfl⟩))))).pt (pss_one (ps_ret pe_bl)) pss_nil)
      (pss_one (ps_ret (GxR.pe_allS hr (by rfl) ma (by decide +kernel) TB rfl ⟨rfl, rfl, by decide +kernel, rfl, rfl, gen_free (by decide +kernel)⟩ (pv 0) (GxR.elt_chain rfl rfl rfl) (fun _ => rfl)))), ?_⟩
    refine ⟨_, rfl, x, d, rfl, hd, dp_ty hd, _, _, rfl, rfl, dp_ty hd, .str, _, rfl, ?_⟩
    cases hd with
    | str z =>
      refine iteF ?_
      have hl := hz z rfl
      refine ⟨_, rfl, z, rfl, hl, _, _, rfl, rfl, _, rfl, ite2 (fun e => ?_) (fun e => ?_)⟩
      · have h1 : (1 : Int) ≤ (z.length : Int) := of_decide_eq_true e
        have h1 : 1 ≤ z.length := by omega
        refine ⟨_, _, rfl, rfl, _, rfl, ite2 (fun e2 => ?_) (fun e2 => ?_)⟩
        · have h8 : ¬ z.length ≤ 8 := fun h => by
            have : decide ((z.length : Int) ≤ 8) = true := decide_eq_true (by omega)
            rw [this] at e2
            cases e2
          have en : nameD (.str z) = false := by
            show (decide (1 ≤ z.length) && decide (z.length ≤ 8) && z.cps.toList.all azB) = _
            rw [decide_eq_false h8, Bool.and_false]
            rfl
          have := q H (Kp.refl ht)
          rw [en] at this
          exact this
        · have h8 : z.length ≤ 8 := by
            have : decide ((z.length : Int) ≤ 8) = true := by
              cases hh : decide ((z.length : Int) ≤ 8) with
              | true => rfl
              | false =>
                rw [hh] at e2
                exact absurd rfl e2
            have := of_decide_eq_true this
            omega
          refine ⟨_, rfl, z, rfl, ht, fun H2 tb => ?_⟩
          have en : nameD (.str z) = z.cps.toList.all azB := by
            show (decide (1 ≤ z.length) && decide (z.length ≤ 8) && z.cps.toList.all azB) = _
            rw [decide_eq_true h1, decide_eq_true h8]
            rfl
          have := q H2 (Kp.tabbed tb)
          rw [en] at this
          exact this
      · have h1 : ¬ 1 ≤ z.length := fun h => e (decide_eq_true (by omega))
        refine ⟨_, rfl, iteT ?_⟩
        have en : nameD (.str z) = false := by
          show (decide (1 ≤ z.length) && decide (z.length ≤ 8) && z.cps.toList.all azB) = _
          rw [decide_eq_false h1]
          rfl
        have := q H (Kp.refl ht)
        rw [en] at this
        exact this
    | _ => exact iteT (q _ (Kp.refl ht))
end
end MK


set_option Elab.async false
set_option linter.all false
set_option maxRecDepth 100000
set_option maxHeartbeats 4000000
namespace MK
open PySem PySem.Spec PyProof.Rows L2
/-- each text within is of a size that lies there, each tuple too -/
inductive SzD : PyData → Prop where
  | non : SzD .none
  | bl (b : Bool) : SzD (.bool b)
  | int (i : Int) : SzD (.int i)
  | str {z : Str} (h : z.length ≤ sizeLine) : SzD (.str z)
  | lst {ds : List PyData} (h : ∀ d ∈ ds, SzD d) : SzD (.list ds)
  | tup {ds : List PyData} (h : ∀ d ∈ ds, SzD d) : SzD (.tuple ds)
theorem SzD.txt {d : PyData} (h : SzD d) : ∀ z, d = .str z → z.length ≤ sizeLine := fun z e => by
  subst e
  cases h
  assumption
theorem SzD.mem {ds : List PyData} (h : SzD (.tuple ds)) {d : PyData} (hd : d ∈ ds) : SzD d := by
  cases h with
  | tup h => exact h d hd
theorem dps_len {K : PySem.W.Frag} {H : Hp} : ∀ {vs : List V} {ds : List PyData}, DpAll K H vs ds → vs.length = ds.length
  | _, _, .nil => rfl
  | _, _, .cons _ b => by
    have := dps_len b
    simp [this]
theorem dps_at {K : PySem.W.Frag} {H : Hp} : ∀ {vs : List V} {ds : List PyData}, DpAll K H vs ds → ∀ {i : Nat} {v : V}, vs[i]? = some v → ∃ d, ds[i]? = some d ∧ Dp K H v d
  | _, _, .nil, _, _, h => by simp at h
  | _, _, .cons a b, 0, _, h => ⟨_, rfl, by
    have := Option.some.inj h
    rw [← this]
    exact a⟩
  | _, _, .cons a b, i + 1, _, h => by
    obtain ⟨d, e, q⟩ := dps_at b (i := i) h
    exact ⟨d, e, q⟩
theorem two_of {α : Type} {xs : List α} (h : xs.length = 2) : ∃ a b, xs = [a, b] := by
  match xs, h with
  | [a, b], _ => exact ⟨a, b, rfl⟩
def numD (d : PyData) : Bool := match d with
  | .tuple [a, b] => wholeD a (-1000000000) 1000000000 && wholeD b 1 1000000000 && (match a, b with | .int x, .int y => decide (Nat.gcd x.natAbs y.natAbs = 1) | _, _ => false)
  | _ => false
theorem whole_int {d : PyData} {lo hi : Int} (h : wholeD d lo hi = true) : ∃ i, d = .int i ∧ lo ≤ i ∧ i ≤ hi := by
  cases d with
  | int i =>
    have h : (decide (lo ≤ i) && decide (i ≤ hi)) = true := h
    rw [Bool.and_eq_true] at h
    exact ⟨i, rfl, of_decide_eq_true h.1, of_decide_eq_true h.2⟩
  | _ => cases h
section
variable {P : Program} {w : World} {K : PySem.W.Frag} {mg : Str → Option Value} {base : Heap} {pt : Addr}
theorem int_ne {n : Nat} {k : Int} : (!decide (V.int n = V.int k)) = !decide ((n : Int) = k) := by
  rw [Bool.eq_iff_iff]
  simp
/-! ### _is_pair -/
theorem scIsPr : FnScope ["thing"] ["thing"] (defScope sIsPr) := ⟨rfl, rfl, rfl, by decide +kernel, rfl, by decide +kernel, by decide +kernel⟩
def spIsPr (K : PySem.W.Frag) (pt : Addr) : Sp := fun vs H Q _ => ∃ (x : V) (d : PyData), vs = [x] ∧ Dp K H x d ∧ GxR.TabG H pt ∧ SzD d ∧ ∀ H', Kp pt H H' → Q (.bl (pairD d)) H'
theorem ok_isPr {f fN fW : Addr} {fd fdN fdW : FuncData} {t20 : Tok} (F : Fun K "_is_pair" "_is_pair" sIsPr f fd)
    (GN : FnOk P w K mg base CX0 1 fN fdN ["thing"] (spIsNm K pt)) (kN : PySem.W.keepIn K (.ref fN) = true) (bN : Binds K fdN ["thing"] []) (gN : mg "_is_name" = some (.ref fN))
    (GW : FnOk P w K mg base CX0 1 fW fdW ["thing", "low", "high"] (spIsWh K)) (kW : PySem.W.keepIn K (.ref fW) = true) (bW : Binds K fdW ["thing", "low", "high"] []) (gW : mg "_is_whole" = some (.ref fW))
    (mty : mg "type" = none) (mt : mg "tuple" = none) (ml : mg "len" = none) (m20 : mg "MOST_LETTER_POWER" = some (.int 20 t20)) :
    FnOk P w K mg base CX0 2 f fd ["thing"] (spIsPr K pt) := by
  refine F.ok scIsPr (fun vs H Q E h => ?_) (fun cdv A outer s H vs Q E hr h => ?_)
  · obtain ⟨x, d, rfl, _⟩ := h
    rfl
  · obtain ⟨x, d, rfl, hd, ht, hz, q⟩ := h
    refine ⟨_, pss_cons (ps_if (pw_or (pt_cmpR op_neTy (pe_callTy call_typeD (by rfl) mty PyProof.Rows.boot_type (pa_cons (pv 0) pa_nil)) (pe_bltn (v := .ty "tuple") (by rfl) mt PyProof.Rows.boot_tuple rfl) (nomark _))
        (pw_or (pt_cmpR op_ne (pe_callB call_len_seq (by rfl) ml PySem.boot_len (pa_cons (pv 0) pa_nil)) pe_int (nomark _))
        (pw_or1 (pt_not (pt_val (pe_call GN hr (by rfl) gN kN bN .nil pass0 (pa_cons (pe_ix ix_tup (pv 0) pe_int (fun _ _ => rfl)) pa_nil))))))).pt (pss_one (ps_ret pe_bl)) pss_nil)
      (pss_one (ps_ret (pe_and (pe_call GW hr (by rfl) gW kW bW .nil pass0 (pa_cons (pe_ix ix_tup (pv 0) pe_int (fun _ _ => rfl)) (pa_cons (pe_un un_neg (pe_glob (v := .int 20) (by rfl) m20 ⟨_, rfl⟩)) (pa_cons (pe_glob (v := .int 20) (by rfl) m20 ⟨_, rfl⟩) pa_nil))))
        (pe_one (pe_cmpR op_ne (pe_ix ix_tup (pv 0) pe_int (fun _ _ => rfl)) pe_int (nomark _)))))), ?_⟩
    refine ⟨_, rfl, x, d, rfl, hd, dp_ty hd, _, _, rfl, rfl, dp_ty hd, .tup, _, rfl, ?_⟩
    cases hd with
    | @tup a xs ds hs ha =>
      have ln := dps_len ha
      refine iteF ?_
      refine ⟨_, rfl, a, xs, rfl, .inr hs, rfl, _, rfl, ite2 (fun e => ?_) (fun e => ?_)⟩
      · have h2 : ds.length ≠ 2 := fun z => by
          rw [int_ne, ln, z] at e
          exact absurd e (by decide)
        have en : pairD (.tuple ds) = false := by
          unfold pairD
          split
          · next h => cases h; exact absurd rfl h2
          · rfl
        have := q H (Kp.refl ht)
        rw [en] at this
        exact this
      · have h2 : ds.length = 2 := Decidable.byContradiction fun z => e (by
          rw [int_ne, ln, decide_eq_false (by omega)]
          rfl)
        obtain ⟨d0, d1, rfl⟩ := two_of h2
        obtain ⟨x0, x1, rfl⟩ := two_of (ln.trans h2)
        cases ha with
        | cons h0 ha =>
        cases ha with
        | cons h1 _ =>
        refine ⟨_, rfl, a, _, 0, _, rfl, rfl, hs, rfl, x0, d0, rfl, h0, ht, (hz.mem (List.mem_cons_self)).txt, fun H1 k1 => ⟨_, rfl, ite2 (fun e2 => ?_) (fun e2 => ?_)⟩⟩
        · have en : pairD (.tuple [d0, d1]) = false := by
            show (nameD d0 && _ && _) = false
            cases hn : nameD d0 with
            | false => rfl
            | true => rw [hn] at e2; cases e2
          have := q H1 k1
          rw [en] at this
          exact this
        · have hn : nameD d0 = true := by
            cases hn : nameD d0 with
            | true => rfl
            | false => rw [hn] at e2; exact absurd rfl e2
          have hs1 := k1.sqT ht hs
          refine ⟨_, rfl, a, _, 1, _, rfl, rfl, hs1, rfl, _, rfl, x1, d1, -20, 20, rfl, k1.dp ht _ _ h1, ⟨_, rfl, ite2 (fun e3 => ?_) (fun e3 => ?_)⟩⟩
          · obtain ⟨i, rfl, i1, i2⟩ := whole_int e3
            cases h1 with
            | int =>
            refine ⟨_, rfl, a, _, 1, _, rfl, rfl, hs1, rfl, rfl, ?_⟩
            have en : pairD (.tuple [d0, .int i]) = !decide (V.int i = V.int 0) := by
              show (nameD d0 && wholeD (.int i) (-20) 20 && !decide (i = 0)) = _
              rw [hn, e3]
              rw [Bool.eq_iff_iff]
              simp
            have := q H1 k1
            rw [en] at this
            exact this
          · have en : pairD (.tuple [d0, d1]) = false := by
              show (nameD d0 && wholeD d1 (-20) 20 && _) = _
              rw [hn, Bool.eq_false_iff.mpr e3]
              rfl
            have := q H1 k1
            rw [en] at this
            exact this
    | _ => exact iteT (q _ (Kp.refl ht))
/-! ### _is_number -/
theorem scIsN : FnScope ["thing", "above", "below"] ["thing"] (defScope sIsN) := ⟨rfl, rfl, rfl, by decide +kernel, rfl, by decide +kernel, by decide +kernel⟩
def spIsN (K : PySem.W.Frag) : Sp := fun vs H Q _ => ∃ (x : V) (d : PyData), vs = [x] ∧ Dp K H x d ∧ Q (.bl (numD d)) H
theorem ok_isN {f fW : Addr} {fd fdW : FuncData} {tn : Tok} (F : Fun K "_is_number" "_is_number" sIsN f fd)
    (GW : FnOk P w K mg base CX0 1 fW fdW ["thing", "low", "high"] (spIsWh K)) (kW : PySem.W.keepIn K (.ref fW) = true) (bW : Binds K fdW ["thing", "low", "high"] []) (gW : mg "_is_whole" = some (.ref fW))
    (mty : mg "type" = none) (mt : mg "tuple" = none) (ml : mg "len" = none) (mG : mg "gcd" = some (.builtin "math.gcd")) (mn : mg "MOST_NUMBER" = some (.int 1000000000 tn)) :
    FnOk P w K mg base CX0 2 f fd ["thing"] (spIsN K) := by
  refine F.ok scIsN (fun vs H Q E h => ?_) (fun cdv A outer s H vs Q E hr h => ?_)
  · obtain ⟨x, d, rfl, _⟩ := h
    rfl
  · obtain ⟨x, d, rfl, hd, q⟩ := h
    have nd := scIsN.nd
    refine ⟨_, pss_cons (ps_if (pw_or (pt_cmpR op_neTy (pe_callTy call_typeD (by rfl) mty PyProof.Rows.boot_type (pa_cons (pv 0) pa_nil)) (pe_bltn (v := .ty "tuple") (by rfl) mt PyProof.Rows.boot_tuple rfl) (nomark _))
        (pw_or1 (pt_cmpR op_ne (pe_callB call_len_seq (by rfl) ml PySem.boot_len (pa_cons (pv 0) pa_nil)) pe_int (nomark _)))).pt (pss_one (ps_ret pe_bl)) pss_nil)
      (pss_cons (ps_asg (pv 0) (pg_tup rfl (pgs_cons (pg_name (i := 1) nd rfl (.inl rfl)) (pgs_cons (pg_name (i := 2) nd rfl (.inl rfl)) pgs_nil))))
      (pss_cons (ps_if (pw_or (pt_not (pt_val (pe_call GW hr (by rfl) gW kW bW .nil pass0 (pa_cons (pv 1) (pa_cons (pe_un un_neg (pe_glob (v := .int 1000000000) (by rfl) mn ⟨_, rfl⟩)) (pa_cons (pe_glob (v := .int 1000000000) (by rfl) mn ⟨_, rfl⟩) pa_nil))))))
          (pw_or1 (pt_not (pt_val (pe_call GW hr (by rfl) gW kW bW .nil pass0 (pa_cons (pv 2) (pa_cons pe_int (pa_cons (pe_glob (v := .int 1000000000) (by rfl) mn ⟨_, rfl⟩) pa_nil)))))))).pt (pss_one (ps_ret pe_bl)) pss_nil)
      (pss_one (ps_ret (pe_cmpR op_eq (pe_callBfun cr_gcd (by rfl) mG (pa_cons (pv 1) (pa_cons (pv 2) pa_nil))) pe_int (nomark _)))))), ?_⟩
    refine ⟨_, rfl, x, d, rfl, hd, dp_ty hd, _, _, rfl, rfl, dp_ty hd, .tup, _, rfl, ?_⟩
    cases hd with
    | @tup a xs ds hs ha =>
      have ln := dps_len ha
      refine iteF ?_
      refine ⟨_, rfl, a, xs, rfl, .inr hs, rfl, _, rfl, ite2 (fun e => ?_) (fun e => ?_)⟩
      · have h2 : ds.length ≠ 2 := fun z => by
          rw [int_ne, ln, z] at e
          exact absurd e (by decide)
        have en : numD (.tuple ds) = false := by
          unfold numD
          split
          · next h => cases h; exact absurd rfl h2
          · rfl
        rw [en] at q
        exact q
      · have h2 : ds.length = 2 := Decidable.byContradiction fun z => e (by
          rw [int_ne, ln, decide_eq_false (by omega)]
          rfl)
        obtain ⟨d0, d1, rfl⟩ := two_of h2
        obtain ⟨x0, x1, rfl⟩ := two_of (ln.trans h2)
        cases ha with
        | cons h0 ha =>
        cases ha with
        | cons h1 _ =>
        refine ⟨_, rfl, a, _, rfl, hs, rfl, _, _, rfl, _, _, rfl, rfl, ?_⟩
        refine ⟨_, rfl, _, rfl, x0, d0, -1000000000, 1000000000, rfl, h0, _, rfl, ite2 (fun e2 => ?_) (fun e2 => ?_)⟩
        · have en : numD (.tuple [d0, d1]) = false := by
            show (wholeD d0 (-1000000000) 1000000000 && wholeD d1 1 1000000000 && _) = _
            cases hn : wholeD d0 (-1000000000) 1000000000 with
            | false => rfl
            | true => rw [hn] at e2; cases e2
          rw [en] at q
          exact q
        have hn : wholeD d0 (-1000000000) 1000000000 = true := by
          cases hn : wholeD d0 (-1000000000) 1000000000 with
          | true => rfl
          | false => rw [hn] at e2; exact absurd rfl e2
        refine ⟨_, rfl, x1, d1, 1, 1000000000, rfl, h1, _, rfl, ite2 (fun e3 => ?_) (fun e3 => ?_)⟩
        · have en : numD (.tuple [d0, d1]) = false := by
            show (wholeD d0 (-1000000000) 1000000000 && wholeD d1 1 1000000000 && _) = _
            rw [hn]
            cases hm : wholeD d1 1 1000000000 with
            | false => rfl
            | true => rw [hm] at e3; cases e3
          rw [en] at q
          exact q
        have hm : wholeD d1 1 1000000000 = true := by
          cases hm : wholeD d1 1 1000000000 with
          | true => rfl
          | false => rw [hm] at e3; exact absurd rfl e3
        obtain ⟨i, rfl, _⟩ := whole_int hn
        obtain ⟨j, rfl, _⟩ := whole_int hm
        cases h0 with
        | int =>
        cases h1 with
        | int =>
        refine ⟨_, rfl, _, rfl, i, j, rfl, rfl, ?_⟩
        have en : numD (.tuple [.int i, .int j]) = decide (V.int ((Nat.gcd i.natAbs j.natAbs : Nat) : Int) = V.int 1) := by
          show (wholeD (.int i) (-1000000000) 1000000000 && wholeD (.int j) 1 1000000000 && decide (Nat.gcd i.natAbs j.natAbs = 1)) = _
          rw [hn, hm, Bool.eq_iff_iff]
          simp
          omega
        rw [en] at q
        exact q
    | _ => exact iteT q
end
end MK


set_option Elab.async false
set_option linter.all false
set_option maxRecDepth 100000
set_option maxHeartbeats 4000000
namespace MK
open PySem PySem.Spec PyProof.Rows L2
theorem ris_uniq : ∀ {ys zs : List Str}, ys.Pairwise sLt → zs.Pairwise sLt → (∀ z, z ∈ ys ↔ z ∈ zs) → ys = zs
  | [], [], _, _, _ => rfl
  | [], z :: zs, _, _, h => absurd ((h z).mpr List.mem_cons_self) (by simp)
  | y :: ys, [], _, _, h => absurd ((h y).mp List.mem_cons_self) (by simp)
  | y :: ys, z :: zs, h1, h2, h => by
    obtain ⟨a1, a2⟩ := List.pairwise_cons.mp h1
    obtain ⟨b1, b2⟩ := List.pairwise_cons.mp h2
    have e : y = z := by
      rcases List.mem_cons.mp ((h y).mp List.mem_cons_self) with e | m
      · exact e
      · rcases List.mem_cons.mp ((h z).mpr List.mem_cons_self) with e | m'
        · exact e.symm
        · exact absurd (sLt_tr (b1 y m) (a1 z m')) (sLt_irr _)
    subst e
    rw [ris_uniq a2 b2 fun x => ?_]
    constructor
    · intro hx
      rcases List.mem_cons.mp ((h x).mp (List.mem_cons_of_mem _ hx)) with e | m
      · rw [e] at hx
        exact absurd (a1 y hx) (sLt_irr _)
      · exact m
    · intro hx
      rcases List.mem_cons.mp ((h x).mpr (List.mem_cons_of_mem _ hx)) with e | m
      · rw [e] at hx
        exact absurd (b1 y hx) (sLt_irr _)
      · exact m
/-- rising, each once -/
def risB : List Str → Bool
  | a :: b :: r => decide (a.cps.toList < b.cps.toList) && risB (b :: r)
  | _ => true
theorem risB_pw : ∀ {ls : List Str}, risB ls = true ↔ ls.Pairwise sLt
  | [] => ⟨fun _ => .nil, fun _ => rfl⟩
  | [a] => ⟨fun _ => List.pairwise_singleton _ _, fun _ => rfl⟩
  | a :: b :: r => by
    have ih := risB_pw (ls := b :: r)
    show (decide (a.cps.toList < b.cps.toList) && risB (b :: r)) = true ↔ _
    rw [Bool.and_eq_true, decide_eq_true_eq, ih]
    constructor
    · rintro ⟨h1, h2⟩
      refine List.pairwise_cons.mpr ⟨fun x hx => ?_, h2⟩
      rcases List.mem_cons.mp hx with e | m
      · rw [e]; exact h1
      · exact sLt_tr h1 ((List.pairwise_cons.mp h2).1 x m)
    · intro h
      obtain ⟨h1, h2⟩ := List.pairwise_cons.mp h
      exact ⟨h1 b List.mem_cons_self, h2⟩
def nmD (d : PyData) : Str := match d with
  | .tuple (.str z :: _) => z
  | _ => Str.empty
def measD (d : PyData) : Bool := match d with
  | .tuple ds => decide (ds.length ≤ 6) && ds.all pairD && risB (ds.map nmD)
  | _ => false
theorem pair_form {d : PyData} (h : pairD d = true) : ∃ z i, d = .tuple [.str z, .int i] ∧ nameD (.str z) = true := by
  unfold pairD at h
  split at h
  · next a b =>
    rw [Bool.and_eq_true, Bool.and_eq_true] at h
    obtain ⟨⟨h1, h2⟩, _⟩ := h
    obtain ⟨i, rfl, _⟩ := whole_int h2
    cases a with
    | str z => exact ⟨z, i, rfl, h1⟩
    | _ => cases h1
  · cases h
theorem az_ok {z : Str} (h : nameD (.str z) = true) : Ok z := fun c hc => by
  have h : (decide (1 ≤ z.length) && decide (z.length ≤ 8) && z.cps.toList.all azB) = true := h
  rw [Bool.and_eq_true, List.all_eq_true] at h
  have h2 := h.2 c hc
  unfold azB at h2
  rw [Bool.and_eq_true] at h2
  have h3 : ¬ (Str.ofString "z").cps.toList < [c] := fun z => by
    have := h2.2
    rw [decide_eq_true z] at this
    cases this
  have e : (Str.ofString "z").cps.toList = [122] := by decide +kernel
  rw [e] at h3
  have h4 : ¬ 122 < c := fun z => h3 (List.cons_lt_cons_iff.mpr (.inl z))
  omega
theorem strs_eqv : ∀ {ls ys : List Str}, PyData.eqvAll (ls.map PyData.str) (ys.map PyData.str) = decide (ls = ys)
  | [], [] => rfl
  | [], q :: n => by simp [PyData.eqvAll]
  | p :: m, [] => by simp [PyData.eqvAll]
  | p :: m, q :: n => by
    have ih := strs_eqv (ls := m) (ys := n)
    simp only [List.map_cons, PyData.eqvAll, PyData.eqv, ih]
    by_cases e1 : p = q <;> by_cases e3 : m = n <;> simp [e1, e3]
theorem strs_lay : ∀ {ls : List Str}, (∀ z ∈ ls, Ok z) → PyData.canLayAll0 (ls.map PyData.str) = true
  | [], _ => rfl
  | p :: r, h => by
    have ih := strs_lay (ls := r) fun q hq => h q (List.mem_cons_of_mem _ hq)
    simp only [List.map_cons, PyData.canLayAll0, PyData.canLay0, ih, Bool.and_true]
    exact strOkN (h p List.mem_cons_self)
theorem strs_depth (ls : List Str) : PyData.depthAll (ls.map PyData.str) ≤ 0 := by
  induction ls with
  | nil => simp [PyData.depthAll]
  | cons p r ih =>
    simp only [List.map_cons, PyData.depthAll, PyData.depth]
    omega
theorem strs_shaped {ls : List Str} (h : ∀ z ∈ ls, Ok z) : SeqAt.shaped (.list (ls.map PyData.str)) = true := by
  unfold SeqAt.shaped
  rw [Bool.and_eq_true, decide_eq_true_eq]
  constructor
  · simp only [PyData.canLay0]
    exact strs_lay h
  · have := strs_depth ls
    simp only [PyData.depth]
    omega
theorem strs_dps {K : PySem.W.Frag} {H : Hp} : ∀ ls : List Str, DpAll K H (ls.map V.str) (ls.map PyData.str)
  | [] => .nil
  | z :: r => .cons (.str z) (strs_dps r)
section
variable {P : Program} {w : World} {K : PySem.W.Frag} {mg : Str → Option Value} {base : Heap} {pt : Addr}
/-! ### _is_measure -/
theorem scIsMs : FnScope ["thing", "pair", "letters"] ["thing"] (defScope sIsMs) := ⟨rfl, rfl, rfl, by decide +kernel, rfl, by decide +kernel, by decide +kernel⟩
def spIsMs (K : PySem.W.Frag) (pt : Addr) : Sp := fun vs H Q _ => ∃ (x : V) (d : PyData), vs = [x] ∧ Dp K H x d ∧ GxR.TabG H pt ∧ SzD d ∧ ∀ H', Kp pt H H' → Q (.bl (measD d)) H'
theorem ok_isMs {f fR : Addr} {fd fdR : FuncData} {t6 : Tok} (F : Fun K "_is_measure" "_is_measure" sIsMs f fd)
    (GR : FnOk P w K mg base CX0 2 fR fdR ["thing"] (spIsPr K pt)) (kR : PySem.W.keepIn K (.ref fR) = true) (bR : Binds K fdR ["thing"] []) (gR : mg "_is_pair" = some (.ref fR))
    (mty : mg "type" = none) (mt : mg "tuple" = none) (ml : mg "len" = none) (ms : mg "sorted" = none) (mS : mg "set" = none) (m6 : mg "MOST_LETTERS" = some (.int 6 t6)) :
    FnOk P w K mg base CX0 3 f fd ["thing"] (spIsMs K pt) := by
  refine F.ok scIsMs (fun vs H Q E h => ?_) (fun cdv A outer s H vs Q E hr h => ?_)
  · obtain ⟨x, d, rfl, _⟩ := h
    rfl
  · obtain ⟨x, d, rfl, hd, ht, hz, q⟩ := h
    have nd := scIsMs.nd
    have hun : (A.deeper (envOfC "_is_measure" (defScope sIsMs) s.heap.objs.size f cdv)).units + 64 < cLine := by have := hr.un; omega
    refine ⟨_, pss_cons (ps_if (pw_or (pt_cmpR op_neTy (pe_callTy call_typeD (by rfl) mty PyProof.Rows.boot_type (pa_cons (pv 0) pa_nil)) (pe_bltn (v := .ty "tuple") (by rfl) mt PyProof.Rows.boot_tuple rfl) (nomark _))
        (pw_or1 (pt_cmpR op_gt (pe_callB call_len_seq (by rfl) ml PySem.boot_len (pa_cons (pv 0) pa_nil)) (pe_glob (v := .int 6) (by rfl) m6 ⟨_, rfl⟩) (nomark _)))).pt (pss_one (ps_ret pe_bl)) pss_nil)
      (pss_cons (ps_for PassesOwn.never rfl (pi_tup (pv 0)) (pg_name (i := 1) nd rfl (.inl rfl))
        (pss_one (ps_if (pt_not (pt_val (pe_call GR hr (by rfl) gR kR bR .nil pass0 (pa_cons (pv 1) pa_nil)))) (pss_one (ps_ret pe_bl)) pss_nil)))
      (pss_cons (ps_setLc (i := 2) (own := [("pair", 1)]) (g := gName 1) rfl nd rfl rfl (sw_true rfl rfl rfl (by decide +kernel)) (pi_tup (pv 0))
        (blkOk_by (N := ["thing", "pair", "letters"]) (sc := defScope sIsMs) (by decide +kernel)) (fun _ _ _ _ _ => pg_name (i := 1) nd rfl (Or.inl rfl))
        (fun _ _ _ _ _ => pts_nil) (fun _ _ _ _ _ => pe_ix (show IxR _ (rIxT K) from ix_tup) (pv 1) pe_int (fun _ _ => rfl)))
      (pss_one (ps_ret (pe_cmpR (op_eqD hun) (pv 2) (pe_callB (cr_sortedTx rfl) (by rfl) ms boot_sorted (pa_cons (pe_callTy (cr_setTx rfl) (by rfl) mS PyProof.Rows.boot_set (pa_cons (pv 2) pa_nil)) pa_nil)) (nomark _)))))), ?_⟩
    refine ⟨_, rfl, x, d, rfl, hd, dp_ty hd, _, _, rfl, rfl, dp_ty hd, .tup, _, rfl, ?_⟩
    cases hd with
    | @tup a xs ds hs ha =>
      have ln := dps_len ha
      have fin0 : ∀ H', Kp pt H H' → measD (.tuple ds) = false → Q (.bl false) H' := fun H' k e => by
        have := q H' k
        rw [e] at this
        exact this
      refine iteF ?_
      refine ⟨_, rfl, a, xs, rfl, .inr hs, _, _, rfl, rfl, _, rfl, ite2 (fun e => ?_) (fun e => ?_)⟩
      · refine fin0 H (Kp.refl ht) ?_
        have h6 : ¬ ds.length ≤ 6 := by
          have := of_decide_eq_true e
          omega
        show (decide (ds.length ≤ 6) && ds.all pairD && risB (ds.map nmD)) = false
        rw [decide_eq_false h6]
        rfl
      have h6 : ds.length ≤ 6 := by
        have : ¬ (6 : Int) < (xs.length : Int) := fun z => e (decide_eq_true z)
        omega
      refine ⟨_, rfl, a, rfl, ⟨_, hs⟩, for_tup (xs := xs) (fun i σ H2 => ∃ v1 : Option V, σ = [some (.ref a), v1, none] ∧ Kp pt H H2 ∧ ∀ y ∈ ds.take i, pairD y = true)
        ⟨none, rfl, Kp.refl ht, fun y hy => absurd hy (by simp)⟩ (fun i σ H2 _ z => ?_) ?_ ?_⟩
      · obtain ⟨_, _, k, _⟩ := z
        exact k.sqT ht hs
      · rintro i y σ H2 hy ⟨v1, rfl, k, all⟩
        obtain ⟨dy, hdy, hp⟩ := dps_at ha hy
        have my := List.mem_of_getElem? hdy
        refine ⟨_, rfl, y, dy, rfl, k.dp ht _ _ hp, k.tab, hz.mem my, fun H3 k3 => ⟨_, rfl, ite2 (fun e2 => ?_) (fun e2 => ?_)⟩⟩
        · refine fin0 H3 (k.trans k3) ?_
          show (decide (ds.length ≤ 6) && ds.all pairD && risB (ds.map nmD)) = false
          have : ds.all pairD = false := by
            rw [List.all_eq_false]
            refine ⟨dy, my, ?_⟩
            cases hn : pairD dy with
            | false => exact Bool.false_ne_true
            | true => rw [hn] at e2; cases e2
          rw [this, Bool.and_false]
          rfl
        · refine ⟨_, rfl, k.trans k3, fun z hz' => ?_⟩
          rw [take_more hdy, List.mem_append, List.mem_singleton] at hz'
          rcases hz' with h | rfl
          · exact all z h
          · cases hn : pairD z with
            | true => rfl
            | false => rw [hn] at e2; exact absurd rfl e2
      · rintro σ H2 ⟨v1, rfl, k, all⟩
        rw [ln, List.take_length] at all
        have k0 := k
        have okz : ∀ z ∈ ds.map nmD, Ok z := fun z hz' => by
          obtain ⟨y, hy, rfl⟩ := List.mem_map.mp hz'
          obtain ⟨z, i, rfl, h⟩ := pair_form (all y hy)
          exact az_ok h
        have em : measD (.tuple ds) = risB (ds.map nmD) := by
          show (decide (ds.length ≤ 6) && ds.all pairD && risB (ds.map nmD)) = _
          rw [decide_eq_true h6, List.all_eq_true.mpr all]
          rfl
        refine ⟨_, rfl, a, rfl, ⟨_, k.sqT ht hs⟩, fun D nD => ?_⟩
        refine lc_tup (xs := xs) (fun i H3 => Same H2 H3 ∧ H3 D = some (.lst (((ds.take i).map nmD).map V.str))) ⟨same_new nD, upd_same⟩ (fun i H3 _ z => (Kp.of k.tab z.1).sqT k.tab (k.sqT ht hs)) ?_ ?_
        · rintro i y H3 hy ⟨sm, hD⟩
          obtain ⟨dy, hdy, hp⟩ := dps_at ha hy
          have my := List.mem_of_getElem? hdy
          obtain ⟨z, n, rfl, _⟩ := pair_form (all dy my)
          have hi : i < ds.length := (List.getElem?_eq_some_iff.mp hdy).1
          have hp3 := (Kp.of k.tab sm).dp k.tab _ _ (k.dp ht _ _ hp)
          cases hp3 with
          | @tup b ys _ hs3 ha3 =>
          cases ha3 with
          | cons h0 ha3 =>
          cases h0 with
          | str =>
          refine ⟨rfl, ?_⟩
          refine ⟨_, rfl, b, _, 0, _, rfl, rfl, hs3, atI_nat (j := 0) rfl, _, hD, ?_, same_upd sm nD, ?_⟩
          · rw [List.length_map, List.length_map, List.length_take]
            exact small1000 (by omega)
          · rw [upd_same, take_more hdy, List.map_append, List.map_append]
            rfl
        · rintro H3 ⟨sm, hD⟩
          rw [ln, List.take_length] at hD
          refine ⟨_, rfl, _, rfl, D, ds.map nmD, rfl, SqL.of hD, (by rw [List.length_map]; omega), fun b ys nb mem len => ?_⟩
          refine ⟨b, ys, rfl, upd_same, (by rw [List.length_map] at len; omega), fun us p pm un so np => ?_⟩
          have s3 := (same_new (o := TxO P w b ys) nb).trans (same_new (o := .lst (us.map V.str)) np)
          have ris := ris_of (sortedS_pw so) un
          have mm : ∀ z, z ∈ us ↔ z ∈ ds.map nmD := fun z => by rw [pm.mem_iff, mem z]
          refine ⟨_, _, .lst (SqL.of (s3 _ _ hD)) (strs_dps _), .lst (SqL.of upd_same) (strs_dps us), strs_shaped okz, strs_shaped (fun z hz' => okz z ((mm z).mp hz')), ?_⟩
          have ev : PyData.eqv (.list ((ds.map nmD).map PyData.str)) (.list (us.map PyData.str)) = measD (.tuple ds) := by
            rw [em]
            simp only [PyData.eqv]
            rw [strs_eqv, Bool.eq_iff_iff, decide_eq_true_eq, risB_pw]
            constructor
            · intro e; rw [e]; exact ris
            · intro h; exact ris_uniq h ris fun z => (mm z).symm
          rw [ev]
          exact q _ (k.trans (Kp.of k.tab (sm.trans s3)))
    | _ => exact iteT (q _ (Kp.refl ht))
end
end MK


set_option Elab.async false
set_option linter.all false
set_option maxRecDepth 100000
set_option maxHeartbeats 4000000
namespace MK
open PySem PySem.Spec PyProof.Rows L2
/-- of each form: how long its tuple is, how many parts stand in it -/
def lenTab : List (Str × Nat) := [("is", 3), ("nought", 1), ("input", 2), ("plus", 3), ("minus", 3), ("times", 3), ("over", 3), ("power", 3), ("less", 5)]
def partTab : List (Str × Nat) := [("is", 0), ("nought", 0), ("input", 0), ("plus", 2), ("minus", 2), ("times", 2), ("over", 2), ("power", 1), ("less", 4)]
def formD (d : PyData) : Bool := match d with
  | .tuple (.str k :: r) => decide (lk lenTab k = some (r.length + 1)) &&
      (if k = "is" then numD (r.getD 0 .none) && measD (r.getD 1 .none) else if k = "input" then nameD (r.getD 0 .none) else if k = "power" then wholeD (r.getD 1 .none) (-4) 4 else true)
  | _ => false
/-- the table of the lengths, that of the parts -/
structure LTab (K : PySem.W.Frag) (w : World) (mg : Str → Option Value) (lt : Addr) : Prop where
  g : mg "LENGTHS" = some (.ref lt)
  tab : ∃ es n, K.lookup lt = some ⟨.type "dict", none, .dict es n, #[]⟩ ∧ PySem.W.KeysLit w.params es.toList ∧ (lt == sysModules) = false
  k : ∀ z n, lk lenTab z = some n → KDct K w lt z (.int (n : Nat))
  no : ∀ z, lk lenTab z = none → PySem.W.nsIn K lt z = some none
structure PTb (K : PySem.W.Frag) (w : World) (mg : Str → Option Value) (pa : Addr) : Prop where
  g : mg "PARTS" = some (.ref pa)
  k : ∀ z n, lk partTab z = some n → KDct K w pa z (.int (n : Nat))
theorem str_dec {a b : Str} : decide (V.str a = V.str b) = decide (a = b) := by
  rw [Bool.eq_iff_iff]
  simp
section
variable {P : Program} {w : World} {K : PySem.W.Frag} {mg : Str → Option Value} {base : Heap} {pt lt pa : Addr}
/-! ### _has_form -/
theorem scForm : FnScope ["thing", "kind"] ["thing"] (defScope sForm) := ⟨rfl, rfl, rfl, by decide +kernel, rfl, by decide +kernel, by decide +kernel⟩
def spForm (K : PySem.W.Frag) (pt : Addr) : Sp := fun vs H Q _ => ∃ (x : V) (d : PyData), vs = [x] ∧ Dp K H x d ∧ GxR.TabG H pt ∧ SzD d ∧ ∀ H', Kp pt H H' → Q (.bl (formD d)) H'
theorem ok_form {f fN fM fA fW : Addr} {fd fdN fdM fdA fdW : FuncData} {t4 : Tok} (F : Fun K "_has_form" "_has_form" sForm f fd)
    (GN : FnOk P w K mg base CX0 2 fN fdN ["thing"] (spIsN K)) (kN : PySem.W.keepIn K (.ref fN) = true) (bN : Binds K fdN ["thing"] []) (gN : mg "_is_number" = some (.ref fN))
    (GM : FnOk P w K mg base CX0 3 fM fdM ["thing"] (spIsMs K pt)) (kM : PySem.W.keepIn K (.ref fM) = true) (bM : Binds K fdM ["thing"] []) (gM : mg "_is_measure" = some (.ref fM))
    (GA : FnOk P w K mg base CX0 1 fA fdA ["thing"] (spIsNm K pt)) (kA : PySem.W.keepIn K (.ref fA) = true) (bA : Binds K fdA ["thing"] []) (gA : mg "_is_name" = some (.ref fA))
    (GW : FnOk P w K mg base CX0 1 fW fdW ["thing", "low", "high"] (spIsWh K)) (kW : PySem.W.keepIn K (.ref fW) = true) (bW : Binds K fdW ["thing", "low", "high"] []) (gW : mg "_is_whole" = some (.ref fW))
    (L : LTab K w mg lt) (mty : mg "type" = none) (mt : mg "tuple" = none) (mstr : mg "str" = none) (ml : mg "len" = none) (m4 : mg "MOST_RAISED" = some (.int 4 t4)) :
    FnOk P w K mg base CX0 4 f fd ["thing"] (spForm K pt) := by
  refine F.ok scForm (fun vs H Q E h => ?_) (fun cdv A outer s H vs Q E hr h => ?_)
  · obtain ⟨x, d, rfl, _⟩ := h
    rfl
  · obtain ⟨x, d, rfl, hd, ht, hz, q⟩ := h
    have nd := scForm.nd
    have hr1 : Room 1 _ := hr.mono (by omega)
    have hr2 : Room 2 _ := hr.mono (by omega)
    obtain ⟨es, n, tl, tk, tm⟩ := L.tab
    refine ⟨_, pss_cons (ps_if (pw_or (pt_cmpR op_neTy (pe_callTy call_typeD (by rfl) mty PyProof.Rows.boot_type (pa_cons (pv 0) pa_nil)) (pe_bltn (v := .ty "tuple") (by rfl) mt PyProof.Rows.boot_tuple rfl) (nomark _))
        (pw_or (pt_cmpR op_eq (pe_callB call_len_seq (by rfl) ml PySem.boot_len (pa_cons (pv 0) pa_nil)) pe_int (nomark _))
        (pw_or1 (pt_cmpR op_neTy (pe_callTy call_typeD (by rfl) mty PyProof.Rows.boot_type (pa_cons (pe_ix ix_tup (pv 0) pe_int (fun _ _ => rfl)) pa_nil)) (pe_bltn (v := .ty "str") (by rfl) mstr PyProof.Rows.boot_str rfl) (nomark _))))).pt (pss_one (ps_ret pe_bl)) pss_nil)
      (pss_cons (ps_set (i := 1) nd rfl (.inl rfl) (pe_ix ix_tup (pv 0) pe_int (fun _ _ => rfl)))
      (pss_cons (ps_if (pt_cmpR op_ne (pe_kget1 (pe_glob (v := .ref lt) (by rfl) L.g rfl) (pv 1) ⟨rfl, rfl, rfl, rfl⟩) (pe_callB call_len_seq (by rfl) ml PySem.boot_len (pa_cons (pv 0) pa_nil)) (nomark _)) (pss_one (ps_ret pe_bl)) pss_nil)
      (pss_cons (ps_if (pt_cmpR op_eq (pv 1) pe_str (nomark _)) (pss_one (ps_ret (pe_and (pe_call GN hr2 (by rfl) gN kN bN .nil pass0 (pa_cons (pe_ix ix_tup (pv 0) pe_int (fun _ _ => rfl)) pa_nil)) (pe_one (pe_call GM hr (by rfl) gM kM bM .nil pass0 (pa_cons (pe_ix ix_tup (pv 0) pe_int (fun _ _ => rfl)) pa_nil)))))) pss_nil)
      (pss_cons (ps_if (pt_cmpR op_eq (pv 1) pe_str (nomark _)) (pss_one (ps_ret (pe_call GA hr1 (by rfl) gA kA bA .nil pass0 (pa_cons (pe_ix ix_tup (pv 0) pe_int (fun _ _ => rfl)) pa_nil)))) pss_nil)
      (pss_cons (ps_if (pt_cmpR op_eq (pv 1) pe_str (nomark _)) (pss_one (ps_ret (pe_call GW hr1 (by rfl) gW kW bW .nil pass0 (pa_cons (pe_ix ix_tup (pv 0) pe_int (fun _ _ => rfl)) (pa_cons (pe_un un_neg (pe_glob (v := .int 4) (by rfl) m4 ⟨_, rfl⟩)) (pa_cons (pe_glob (v := .int 4) (by rfl) m4 ⟨_, rfl⟩) pa_nil)))))) pss_nil)
      (pss_one (ps_ret pe_bl))))))), ?_⟩
    refine ⟨_, rfl, x, d, rfl, hd, dp_ty hd, _, _, rfl, rfl, dp_ty hd, .tup, _, rfl, ?_⟩
    cases hd with
    | @tup a xs ds hs ha =>
      have ln := dps_len ha
      have fin0 : formD (.tuple ds) = false → Q (.bl false) H := fun e => by
        have := q H (Kp.refl ht)
        rw [e] at this
        exact this
      refine iteF ?_
      cases ha with
      | nil =>
        refine ⟨_, rfl, a, [], rfl, .inr hs, rfl, _, rfl, ?_⟩
        exact iteT (fin0 rfl)
      | @cons v0 vs d0 ds h0 ha =>
      have ln2 := dps_len ha
      refine ⟨_, rfl, a, _, rfl, .inr hs, rfl, _, rfl, ?_⟩
      rw [show decide (V.int ((v0 :: vs).length : Int) = V.int 0) = false from decide_eq_false fun z => by
        have := V.int.inj z
        simp only [List.length_cons] at this
        omega]
      refine iteF ?_
      have i0 : atI (v0 :: vs) 0 = some v0 := atI_nat (j := 0) rfl
      refine ⟨_, rfl, a, _, 0, v0, rfl, rfl, hs, i0, v0, d0, rfl, h0, dp_ty h0, _, _, rfl, rfl, dp_ty h0, .str, _, rfl, ?_⟩
      cases h0 with
      | str k =>
        refine iteF ?_
        refine ⟨_, rfl, a, _, 0, _, rfl, rfl, hs, i0, ?_⟩
        have ef : formD (.tuple (.str k :: ds)) = (decide (lk lenTab k = some (ds.length + 1)) &&
            (if k = "is" then numD (ds.getD 0 .none) && measD (ds.getD 1 .none) else if k = "input" then nameD (ds.getD 0 .none) else if k = "power" then wholeD (ds.getD 1 .none) (-4) 4 else true)) := rfl
        cases el : lk lenTab k with
        | none =>
          refine ⟨lt, es, n, rfl, tl, tk, tm, _, rfl, k, rfl, .inr ⟨L.no k el, ?_⟩⟩
          refine ⟨_, rfl, a, _, rfl, .inr hs, rfl, _, rfl, iteT (fin0 ?_)⟩
          rw [ef, el]
          rfl
        | some m =>
          refine ⟨lt, es, n, rfl, tl, tk, tm, _, rfl, k, rfl, .inl ⟨_, L.k k m el, ?_⟩⟩
          refine ⟨_, rfl, a, _, rfl, .inr hs, rfl, _, rfl, ite2 (fun e => fin0 ?_) (fun e => ?_)⟩
          · have hm : m ≠ ds.length + 1 := fun z => by
              rw [z, List.length_cons, ln2] at e
              rw [decide_eq_true rfl] at e
              cases e
            rw [ef, el, decide_eq_false (fun z => hm (Option.some.inj z))]
            rfl
          have hm : m = ds.length + 1 := Decidable.byContradiction fun z => e (by
            rw [decide_eq_false (fun y => z (by have := V.int.inj y; rw [List.length_cons, ln2] at this; omega))]
            rfl)
          rw [el, decide_eq_true (by rw [hm]), Bool.true_and] at ef
          have at1 : ∀ j : Nat, j < ds.length → ∃ v, atI (V.str k :: vs) ((j + 1 : Nat) : Int) = some v ∧ Dp K H v (ds.getD j .none) ∧ SzD (ds.getD j .none) := fun j hj => by
            have hv : vs[j]? = some vs[j] := List.getElem?_eq_getElem (by omega)
            obtain ⟨d1, e1, h1⟩ := dps_at ha hv
            have e2 : ds.getD j .none = d1 := by
              rw [List.getD_eq_getElem?_getD, e1]
              rfl
            refine ⟨vs[j], atI_nat (by rw [List.getElem?_cons_succ]; exact hv), ?_, ?_⟩
            · rw [e2]; exact h1
            · rw [e2]; exact hz.mem (List.mem_cons_of_mem _ (List.mem_of_getElem? e1))
          refine ⟨_, rfl, rfl, _, rfl, ?_⟩
          rw [str_dec]
          by_cases k1 : k = Str.ofString "is"
          · rw [decide_eq_true k1]
            refine iteT ?_
            rw [if_pos k1] at ef
            have l3 : ds.length = 2 := by
              rw [k1] at el
              have : some 3 = some m := el
              have := Option.some.inj this
              omega
            obtain ⟨v1, e1, h1, z1⟩ := at1 0 (by omega)
            obtain ⟨v2, e2, h2, z2⟩ := at1 1 (by omega)
            refine ⟨_, rfl, a, _, 1, _, rfl, rfl, hs, e1, v1, _, rfl, h1, _, rfl, ite2 (fun e3 => ?_) (fun e3 => ?_)⟩
            · refine ⟨_, rfl, a, _, 2, _, rfl, rfl, hs, e2, v2, _, rfl, h2, ht, z2, fun H1 k2 => ?_⟩
              have := q H1 k2
              rw [ef, e3, Bool.true_and] at this
              exact this
            · refine fin0 ?_
              rw [ef, Bool.eq_false_iff.mpr e3]
              rfl
          rw [decide_eq_false k1]
          refine iteF ?_
          rw [if_neg k1] at ef
          refine ⟨_, rfl, rfl, _, rfl, ?_⟩
          rw [str_dec]
          by_cases k2 : k = Str.ofString "input"
          · rw [decide_eq_true k2]
            refine iteT ?_
            rw [if_pos k2] at ef
            have l3 : ds.length = 1 := by
              rw [k2] at el
              have : some 2 = some m := el
              have := Option.some.inj this
              omega
            obtain ⟨v1, e1, h1, z1⟩ := at1 0 (by omega)
            refine ⟨_, rfl, a, _, 1, _, rfl, rfl, hs, e1, v1, _, rfl, h1, ht, z1.txt, fun H1 k2 => ?_⟩
            have := q H1 k2
            rw [ef] at this
            exact this
          rw [decide_eq_false k2]
          refine iteF ?_
          rw [if_neg k2] at ef
          refine ⟨_, rfl, rfl, _, rfl, ?_⟩
          rw [str_dec]
          by_cases k3 : k = Str.ofString "power"
          · rw [decide_eq_true k3]
            refine iteT ?_
            rw [if_pos k3] at ef
            have l3 : ds.length = 2 := by
              rw [k3] at el
              have : some 3 = some m := el
              have := Option.some.inj this
              omega
            obtain ⟨v2, e2, h2, z2⟩ := at1 1 (by omega)
            refine ⟨_, rfl, a, _, 2, _, rfl, rfl, hs, e2, _, rfl, v2, _, -4, 4, rfl, h2, ?_⟩
            have := q H (Kp.refl ht)
            rw [ef] at this
            exact this
          rw [decide_eq_false k3]
          refine iteF ?_
          rw [if_neg k3] at ef
          have := q H (Kp.refl ht)
          rw [ef] at this
          exact this
      | _ => exact iteT (fin0 rfl)
    | _ => exact iteT (q _ (Kp.refl ht))
/-! ### parts -/
theorem scPaP : FnScope ["reckoning"] ["reckoning"] (defScope sPaP) := ⟨rfl, rfl, rfl, by decide +kernel, rfl, by decide +kernel, by decide +kernel⟩
def spPaD (K : PySem.W.Frag) : Sp := fun vs H Q _ => ∃ (a : Addr) (k : Str) (xs : List V) (n : Nat), vs = [.ref a] ∧ SqT K H a (.str k :: xs) ∧ lk partTab k = some n ∧ n ≤ xs.length ∧ ∀ p, H p = none → Q (.ref p) (upd H p (.tup (xs.take n)))
theorem ok_paD {f : Addr} {fd : FuncData} (F : Fun K "parts" "parts" sPaP f fd) (T : PTb K w mg pa) : FnOk P w K mg base CX0 1 f fd ["reckoning"] (spPaD K) := by
  refine F.ok scPaP (fun vs H Q E h => ?_) (fun cdv A outer s H vs Q E hr h => ?_)
  · obtain ⟨a, k, xs, n, rfl, _⟩ := h
    rfl
  · obtain ⟨a, k, xs, n, rfl, hs, hk, hn, q⟩ := h
    refine ⟨_, pss_one (ps_ret (pe_slice sl_tup (pv 0) (po_some pe_int) (po_some (pe_op op_add pe_int (pe_ix ix_kdict (pe_glob (v := .ref pa) (by rfl) T.g rfl) (pe_ix ix_tup (pv 0) pe_int (fun _ _ => rfl)) (fun _ _ => rfl)))))), ?_⟩
    refine ⟨_, rfl, 1, rfl, _, rfl, a, _, 0, _, rfl, rfl, hs, atI_nat (j := 0) rfl, pa, _, _, rfl, rfl, T.k k n hk, _, _, rfl, rfl, ?_⟩
    have el : (xs.take n).length = n := by rw [List.length_take]; omega
    have ex : xs = xs.take n ++ xs.drop n := (List.take_append_drop n xs).symm
    refine ⟨_, rfl, a, _, rfl, hs, ?_, fun p np => ?_⟩
    · rw [ex]
      exact cut_some _ _ _
    · have e : cutV (V.str k :: xs) (some 1) (some (1 + (n : Int))) = xs.take n := by
        have := cut_parts (V.str k) (xs.take n) (xs.drop n)
        rw [el, List.take_append_drop] at this
        exact this
      rw [e]
      exact q p np
end
end MK


set_option Elab.async false
set_option linter.all false
set_option maxRecDepth 100000
set_option maxHeartbeats 4000000
namespace MK
open PySem PySem.Spec PyProof.Rows L2
theorem tab_ok {k : Str} {m : Nat} (h : lk lenTab k = some m) : ∃ n, lk partTab k = some n ∧ n + 1 ≤ m ∧ n ≤ 4 := by
  have hm := mem_of_lk h
  simp only [lenTab, List.mem_cons, Prod.mk.injEq, List.mem_nil_iff, or_false] at hm
  rcases hm with ⟨rfl, rfl⟩ | ⟨rfl, rfl⟩ | ⟨rfl, rfl⟩ | ⟨rfl, rfl⟩ | ⟨rfl, rfl⟩ | ⟨rfl, rfl⟩ | ⟨rfl, rfl⟩ | ⟨rfl, rfl⟩ | ⟨rfl, rfl⟩
  · exact ⟨0, by decide +kernel, by decide, by decide⟩
  · exact ⟨0, by decide +kernel, by decide, by decide⟩
  · exact ⟨0, by decide +kernel, by decide, by decide⟩
  · exact ⟨2, by decide +kernel, by decide, by decide⟩
  · exact ⟨2, by decide +kernel, by decide, by decide⟩
  · exact ⟨2, by decide +kernel, by decide, by decide⟩
  · exact ⟨2, by decide +kernel, by decide, by decide⟩
  · exact ⟨1, by decide +kernel, by decide, by decide⟩
  · exact ⟨4, by decide +kernel, by decide, by decide⟩
def headD (d : PyData) : Str := match d with
  | .tuple (.str k :: _) => k
  | _ => Str.empty
def partsD (d : PyData) : List PyData := match d with
  | .tuple (.str k :: r) => r.take ((lk partTab k).getD 0)
  | _ => []
def metD (d : PyData) (p : Nat) : Nat := if headD d = "power" then p + 1 else p
/-- one layer worked through: the next one, none where something is none -/
def stepL : List (PyData × Nat) → Option (List (PyData × Nat))
  | [] => some []
  | y :: r => if formD y.1 = true ∧ metD y.1 y.2 ≤ 2 then (stepL r).map fun b => (partsD y.1).map (fun z => (z, metD y.1 y.2)) ++ b else none
theorem stepL_app : ∀ (a b : List (PyData × Nat)), stepL (a ++ b) = (stepL a).bind fun x => (stepL b).map (x ++ ·)
  | [], b => by
    show stepL b = (stepL b).map (([] : List (PyData × Nat)) ++ ·)
    cases stepL b <;> rfl
  | y :: r, b => by
    have ih := stepL_app r b
    show (if _ then _ else _) = (if _ then _ else _ : Option _).bind _
    by_cases h : formD y.1 = true ∧ metD y.1 y.2 ≤ 2
    · rw [if_pos h, if_pos h]
      rw [show stepL (r.append b) = stepL (r ++ b) from rfl, ih]
      cases stepL r with
      | none => rfl
      | some x =>
        cases stepL b with
        | none => rfl
        | some z => simp
    · rw [if_neg h, if_neg h]
      rfl
theorem stepL_snoc {a : List (PyData × Nat)} {x : List (PyData × Nat)} {y : PyData × Nat} (h : stepL a = some x) (f : formD y.1 = true) (m : metD y.1 y.2 ≤ 2) : stepL (a ++ [y]) = some (x ++ (partsD y.1).map fun z => (z, metD y.1 y.2)) := by
  rw [stepL_app, h]
  show ((if _ then _ else _ : Option _)).map _ = _
  rw [if_pos ⟨f, m⟩]
  simp [stepL]
theorem stepL_bad {l : List (PyData × Nat)} {y : PyData × Nat} (hy : y ∈ l) (b : ¬ (formD y.1 = true ∧ metD y.1 y.2 ≤ 2)) : stepL l = none := by
  induction l with
  | nil => exact absurd hy (by simp)
  | cons z r ih =>
    show (if _ then _ else _) = none
    rcases List.mem_cons.mp hy with e | m
    · rw [if_neg (by rw [← e]; exact b)]
    · rw [ih m]
      split <;> rfl
/-- depth by depth; f: what is left of the depth -/
def bfs : Nat → Nat → List (PyData × Nat) → Bool
  | 0, _, _ => false
  | f + 1, many, l => if l.isEmpty then true else if f = 0 then false else if many + l.length ≤ 100 then (match stepL l with
    | none => false
    | some b => bfs f (many + l.length) b) else false
def isR (d : PyData) : Bool := bfs 13 0 [(d, 0)]
theorem Kp.free {P b : Addr} {H H' : Hp} (k : Kp P H H') (n : H' b = none) : H b = none := by
  cases e : H b with
  | none => rfl
  | some u =>
    by_cases hb : b = P
    · obtain ⟨ps, q, _⟩ := k.tab
      rw [hb, q] at n
      cases n
    · rw [k.ks b u hb e] at n
      cases n
theorem kp_upd {P b : Addr} {H H' : Hp} {xs ys : List V} (k : Kp P H H') (n : H b = none) (e : H' b = some (.lst xs)) : Kp P H (upd H' b (.lst ys)) := by
  have nb := tab_ne k.tab e (fun _ z => nomatch z)
  refine ⟨?_, fun x u nx ex => ?_⟩
  · obtain ⟨ps, q, t⟩ := k.tab
    exact ⟨ps, by rw [upd_ne (Ne.symm nb)]; exact q, t⟩
  · rw [upd_ne (fun z => by rw [z, n] at ex; cases ex)]
    exact k.ks x u nx ex
theorem fne' {H : Hp} {b l : Addr} {xs : List V} {o u : HO} (_ : H b = some (.lst xs)) (n : l ≠ b) (e : H l = some u) : upd H b o l = some u := by
  rw [upd_ne n]
  exact e
section
variable {P : Program} {w : World} {K : PySem.W.Frag} {mg : Str → Option Value} {base : Heap} {pt pa : Addr}
/-- a layer: pairs of a thing and of how many powers are around it; the things lie in H0 -/
def LyR (K : PySem.W.Frag) (H0 H : Hp) (t : Addr) (y : PyData × Nat) : Prop := ∃ x, H t = some (.tup [x, .int (y.2 : Nat)]) ∧ Dp K H0 x y.1 ∧ SzD y.1
theorem LyR.kp {H0 H H' : Hp} {t : Addr} {y : PyData × Nat} (k : Kp pt H H') (h : GxR.TabG H pt) (l : LyR K H0 H t y) : LyR K H0 H' t y := by
  obtain ⟨x, e, r⟩ := l
  exact ⟨x, k.at h e (fun _ z => nomatch z), r⟩
theorem LyR.lst {H0 H : Hp} {t D : Addr} {xs : List V} {o : HO} {y : PyData × Nat} (h : H D = some (.lst xs)) (l : LyR K H0 H t y) : LyR K H0 (upd H D o) t y := by
  obtain ⟨x, e, r⟩ := l
  exact ⟨x, fne h e (fun z => nomatch z), r⟩
abbrev scIsRN : List Str := ["thing", "layer", "deep", "many", "below", "part", "powers", "met", "inner"]
theorem scIsR : FnScope scIsRN ["thing"] (defScope sIsR) := ⟨rfl, rfl, rfl, by decide +kernel, rfl, by decide +kernel, by decide +kernel⟩
def spIsR (K : PySem.W.Frag) (pt : Addr) : Sp := fun vs H Q _ => ∃ (x : V) (d : PyData), vs = [x] ∧ Dp K H x d ∧ GxR.TabG H pt ∧ SzD d ∧ ∀ H', Kp pt H H' → Q (.bl (isR d)) H'
theorem ok_isR {f fF fP : Addr} {fd fdF fdP : FuncData} {t2 t12 t100 : Tok} (F : Fun K "is_reckoning" "is_reckoning" sIsR f fd)
    (GF : FnOk P w K mg base CX0 4 fF fdF ["thing"] (spForm K pt)) (kF : PySem.W.keepIn K (.ref fF) = true) (bF : Binds K fdF ["thing"] []) (gF : mg "_has_form" = some (.ref fF))
    (GP : FnOk P w K mg base CX0 1 fP fdP ["reckoning"] (spPaD K)) (kP : PySem.W.keepIn K (.ref fP) = true) (bP : Binds K fdP ["reckoning"] []) (gP : mg "parts" = some (.ref fP))
    (ml : mg "len" = none) (m2 : mg "MOST_POWERS_ON_A_WAY" = some (.int 2 t2)) (m12 : mg "MOST_DEEP" = some (.int 12 t12)) (m100 : mg "MOST_IN_ALL" = some (.int 100 t100)) :
    FnOk P w K mg base CX0 5 f fd ["thing"] (spIsR K pt) := by
  refine F.ok scIsR (fun vs H Q E h => ?_) (fun cdv A outer s H vs Q E hr h => ?_)
  · obtain ⟨x, d, rfl, _⟩ := h
    rfl
  · obtain ⟨x, d, rfl, hd, ht, hz, q⟩ := h
    have nd := scIsR.nd
    have hr1 : Room 1 _ := hr.mono (by omega)
    refine ⟨_, (pss_cons (ps_set (i := 1) nd rfl (.inl rfl) (pe_lst (pa_cons (pe_tup (pa_cons (pv 0) (pa_cons pe_int pa_nil))) pa_nil)))
        (pss_cons (ps_set (i := 2) nd rfl (.inl rfl) pe_int)
        (pss_cons (ps_set (i := 3) nd rfl (.inl rfl) pe_int)
        (pss_cons (ps_while PassesOwn.never (pt_truth (pv 1) (fun _ => rfl)) (pss_cons (ps_aug (i := 2) nd rfl (.inl rfl) pe_int ip_add)
        (pss_cons (ps_aug (i := 3) nd rfl (.inl rfl) (pe_callB call_len_seq (by rfl) ml PySem.boot_len (pa_cons (pv 1) pa_nil)) ip_add)
        (pss_cons (ps_if (pw_or (pt_cmpR op_gt (pv 2) (pe_glob (v := .int 12) (by rfl) m12 ⟨_, rfl⟩) (nomark _)) (pw_or1 (pt_cmpR op_gt (pv 3) (pe_glob (v := .int 100) (by rfl) m100 ⟨_, rfl⟩) (nomark _)))).pt (pss_one (ps_ret pe_bl)) pss_nil)
        (pss_cons (ps_set (i := 4) nd rfl (.inl rfl) (pe_lst pa_nil))
        (pss_cons (ps_for PassesOwn.never rfl (pi_list (pv 1)) (pg_tup rfl (pgs_cons (pg_name (i := 5) nd rfl (.inl rfl)) (pgs_cons (pg_name (i := 6) nd rfl (.inl rfl)) pgs_nil))) (pss_cons (ps_if (pt_not (pt_val (pe_call GF hr (by rfl) gF kF bF .nil pass0 (pa_cons (pv 5) pa_nil)))) (pss_one (ps_ret pe_bl)) pss_nil)
        (Evl.pss_cut (ps_set (i := 7) nd rfl (.inr rfl) (pe_ifExp (pt_cmpR op_eq (pe_ix ix_tup (pv 5) pe_int (fun _ _ => rfl)) pe_str (nomark _)) (pe_op op_add (pv 6) pe_int) (pv 6)))
        (pss_cons (ps_if (pt_cmpR op_gt (pv 7) (pe_glob (v := .int 2) (by rfl) m2 ⟨_, rfl⟩) (nomark _)) (pss_one (ps_ret pe_bl)) pss_nil)
        (pss_one (ps_expr (pe_bm PySem.F.plainAttrs_list PySem.F.slot_list_extend PySem.F.type_list_extend mt_extend (pv 4) (pa_cons (pe_lc (own := [("inner", 8)]) (g := gName 8) (tt := tYes) rfl nd (pi_tup (pe_call GP hr1 (by rfl) gP kP bP .nil pass0 (pa_cons (pv 5) pa_nil))) (blkOk_by (N := scIsRN) (sc := defScope sIsR) (by decide +kernel)) (fun _ _ _ _ _ => pg_name (i := 8) nd rfl (Or.inl rfl)) (fun _ _ _ _ _ => pts_nil) (fun _ _ _ _ _ => (pe_tup (pa_cons (pv 8) (pa_cons (pv 7) pa_nil))))) pa_nil))))))))
        (pss_one (ps_set (i := 1) nd rfl (.inl rfl) (pv 4)))))))))
        (pss_one (ps_ret pe_bl)))))), ?_⟩
    refine ⟨_, rfl, (by show 2 ≤ sizeLine; decide), fun t0 nt0 => ⟨(by show 1 ≤ sizeLine; decide), fun l0 nl0 => ?_⟩⟩
    have s1 := same_new (o := .tup [x, V.int 0]) nt0
    have s2 := s1.trans (same_new (o := .lst [V.ref t0]) nl0)
    have k0 := Kp.of ht s2
    refine ⟨fun m σ H' => ∃ (deep many : Nat) (ly : Addr) (ts : List Addr) (lay : List (PyData × Nat)) (v4 v5 v6 v7 v8 : Option V), m = 13 - deep ∧ deep ≤ 12 ∧ σ = [some x, some (.ref ly), some (.int (deep : Nat)), some (.int (many : Nat)), v4, v5, v6, v7, v8] ∧ Kp pt H H' ∧
        H' ly = some (.lst (ts.map V.ref)) ∧ Paired (LyR K H H') ts lay ∧ bfs (13 - deep) many lay = isR d,
      ⟨_, 0, 0, l0, [t0], [(d, 0)], none, none, none, none, none, rfl, by decide, rfl, k0, upd_same, .cons ⟨x, upd_other upd_same nl0, hd, hz⟩ .nil, rfl⟩, ?_⟩
    rintro m σ H1 ⟨deep, many, ly, ts, lay, v4, v5, v6, v7, v8, em, hdeep, rfl, k1, hly, pr, hb⟩
    have tl := pr.length
    obtain ⟨fu, efu⟩ : ∃ fu, 13 - deep = fu + 1 := ⟨12 - deep, by omega⟩
    rw [efu] at hb
    cases lay with
    | nil =>
      have e0 : ts = [] := List.length_eq_zero_iff.mp tl
      subst e0
      refine ⟨_, rfl, false, .inl ⟨_, SqL.of hly, rfl⟩, ?_⟩
      have := q H1 k1
      rw [← hb] at this
      exact this
    | cons y0 lay0 =>
      generalize hlay : y0 :: lay0 = lay at *
      have ne : lay.isEmpty = false := by rw [← hlay]; rfl
      have hb' : (if fu = 0 then false else if many + lay.length ≤ 100 then (match stepL lay with
          | none => false
          | some b => bfs fu (many + lay.length) b) else false) = isR d := by
        rw [← hb]
        show _ = (if lay.isEmpty = true then _ else _)
        rw [ne]
        rfl
      have fin0 : ∀ H', Kp pt H H' → isR d = false → Q (.bl false) H' := fun H' k e => by
        have := q H' k
        rw [e] at this
        exact this
      refine ⟨_, rfl, true, .inl ⟨_, SqL.of hly, ?_⟩, ?_⟩
      · have : (ts.map V.ref) ≠ [] := fun z => by
          have h1 := congrArg List.length z
          rw [List.length_map, tl, ← hlay] at h1
          cases h1
        cases hh : ts.map V.ref with
        | nil => exact absurd hh this
        | cons _ _ => rfl
      refine ⟨fun σ' H'' => ∃ (deep' many' : Nat) (ly' : Addr) (ts' : List Addr) (lay' : List (PyData × Nat)) (v4 v5 v6 v7 v8 : Option V), deep' = deep + 1 ∧ deep' ≤ 12 ∧ σ' = [some x, some (.ref ly'), some (.int (deep' : Nat)), some (.int (many' : Nat)), v4, v5, v6, v7, v8] ∧ Kp pt H H'' ∧
        H'' ly' = some (.lst (ts'.map V.ref)) ∧ Paired (LyR K H H'') ts' lay' ∧ bfs (13 - deep') many' lay' = isR d,
        fun σ' H'' ⟨a1, a2, a3, a4, a5, b4, b5, b6, b7, b8, e1, e2, e3, e4⟩ => ⟨13 - a1, by omega, a1, a2, a3, a4, a5, b4, b5, b6, b7, b8, rfl, e2, e3, e4⟩, ?_⟩
      refine ⟨_, rfl, _, _, rfl, rfl, ?_⟩
      refine ⟨_, rfl, _, rfl, ly, _, rfl, .inl (SqL.of hly), _, _, rfl, rfl, ?_⟩
      have cd : (deep : Int) + 1 = ((deep + 1 : Nat) : Int) := by omega
      have cm : (many : Int) + ((ts.map V.ref).length : Int) = ((many + lay.length : Nat) : Int) := by
        rw [List.length_map, tl]
        omega
      refine ⟨_, rfl, _, _, rfl, rfl, _, rfl, ite2 (fun e => ?_) (fun e => ?_)⟩
      · refine iteT (fin0 H1 k1 ?_)
        have h1 : 12 < (deep : Int) + 1 := of_decide_eq_true e
        rw [← hb', if_pos (by omega)]
      have h12 : deep + 1 ≤ 12 := by
        have : ¬ 12 < (deep : Int) + 1 := fun z => e (decide_eq_true z)
        omega
      rw [if_neg (by omega)] at hb'
      refine ⟨_, rfl, _, _, rfl, rfl, _, rfl, ite2 (fun e2 => ?_) (fun e2 => ?_)⟩
      · refine fin0 H1 k1 ?_
        have h1 : 100 < (many : Int) + ((ts.map V.ref).length : Int) := of_decide_eq_true e2
        rw [cm] at h1
        rw [← hb', if_neg (by omega)]
      have h100 : many + lay.length ≤ 100 := by
        have : ¬ 100 < (many : Int) + ((ts.map V.ref).length : Int) := fun z => e2 (decide_eq_true z)
        rw [cm] at this
        omega
      rw [if_pos h100] at hb'
      have tlm : (ts.map V.ref).length = lay.length := by rw [List.length_map]; exact tl
      refine ⟨Nat.zero_le _, fun be nbe => ?_⟩
      have sb := same_new (o := .lst []) nbe
      have hbe0 := k1.free nbe
      have kb := k1.trans (Kp.of k1.tab sb)
      refine ⟨_, rfl, ly, rfl, ⟨_, SqL.of (sb _ _ hly)⟩, for_list (xs := ts.map V.ref) (fun i σ H2 => ∃ (v5 v6 v7 v8 : Option V) (us : List Addr) (acc : List (PyData × Nat)), σ = [some x, some (.ref ly), some (.int ((deep + 1 : Nat) : Int)), some (.int ((many + (ts.map V.ref).length : Nat) : Int)), some (.ref be), v5, v6, v7, v8] ∧ Kp pt H H2 ∧
          H2 ly = some (.lst (ts.map V.ref)) ∧ ly ≠ be ∧ Paired (LyR K H H2) ts lay ∧ H2 be = some (.lst (us.map V.ref)) ∧ Paired (LyR K H H2) us acc ∧ stepL (lay.take i) = some acc ∧ acc.length ≤ 4 * i)
        ⟨v5, v6, v7, v8, [], [], rfl, kb, sb _ _ hly, ne_of_none hly nbe, Paired.mono (fun _ _ y => y.kp (Kp.of k1.tab sb) k1.tab) pr, upd_same, .nil, rfl, Nat.zero_le _⟩ (fun i σ H2 _ z => ?_) ?_ ?_⟩
      · obtain ⟨_, _, _, _, _, _, _, _, z, _⟩ := z
        exact SqL.of z
      · rintro i z σ H2 hzi ⟨v5, v6, v7, v8, us, acc, rfl, k2, hly2, nlb, pr2, hbe, pa2, st, al⟩
        obtain ⟨t, hti, rfl⟩ := at_map hzi
        obtain ⟨y, hy, xv, hty, hdy, hzy⟩ := paired_ix pr2 hti
        have hym := List.mem_of_getElem? hy
        have hi : i < lay.length := (List.getElem?_eq_some_iff.mp hy).1
        refine ⟨t, _, rfl, SqT.of hty, rfl, _, _, rfl, _, _, rfl, rfl, ?_⟩
        refine ⟨_, rfl, xv, y.1, rfl, k2.dp ht _ _ hdy, k2.tab, hzy, fun H3 k3 => ⟨_, rfl, ite2 (fun e3 => ?_) (fun e3 => ?_)⟩⟩
        · refine fin0 H3 (k2.trans k3) ?_
          rw [← hb', stepL_bad hym (fun z => by rw [z.1] at e3; cases e3)]
        have fy : formD y.1 = true := by
          cases hn : formD y.1 with
          | true => rfl
          | false => rw [hn] at e3; exact absurd rfl e3
        have k13 := k2.trans k3
        obtain ⟨d1, p1⟩ := y
        have fy : formD d1 = true := fy
        -- its head
        obtain ⟨k, r, rfl⟩ : ∃ k r, d1 = .tuple (.str k :: r) := by
          unfold formD at fy
          split at fy
          · exact ⟨_, _, rfl⟩
          · cases fy
        have fl : lk lenTab k = some (r.length + 1) := by
          have fy : (decide (lk lenTab k = some (r.length + 1)) && _) = true := fy
          rw [Bool.and_eq_true] at fy
          exact of_decide_eq_true fy.1
        obtain ⟨n, hn1, hn2, hn3⟩ := tab_ok fl
        cases hdy with
        | @tup a xs _ hs ha =>
        cases ha with
        | @cons v0 vs _ _ h0 ha =>
        cases h0 with
        | str =>
        have hs3 := k13.sqT ht hs
        have lv := dps_len ha
        have i0 : atI (V.str k :: vs) 0 = some (V.str k) := atI_nat (j := 0) rfl
        have em : metD (.tuple (.str k :: r)) p1 = if k = "power" then p1 + 1 else p1 := rfl
        obtain ⟨me, hme⟩ : ∃ me, me = metD (.tuple (.str k :: r)) p1 := ⟨_, rfl⟩
        refine ⟨fun σ' H' => σ' = [some x, some (.ref ly), some (.int ((deep + 1 : Nat) : Int)), some (.int ((many + (ts.map V.ref).length : Nat) : Int)), some (.ref be), some (.ref a), some (.int (p1 : Nat)), some (.int (me : Nat)), v8] ∧ H' = H3, ?_, ?_⟩
        · refine ⟨_, rfl, a, _, 0, _, rfl, rfl, hs3, i0, rfl, _, rfl, ?_⟩
          rw [str_dec]
          by_cases k1 : k = "power"
          · rw [decide_eq_true k1]
            refine iteT ⟨_, rfl, _, _, rfl, rfl, ?_⟩
            refine ⟨?_, rfl⟩
            rw [hme, em, if_pos k1]
            rfl
          · rw [decide_eq_false k1]
            refine iteF ⟨_, rfl, ?_, rfl⟩
            rw [hme, em, if_neg k1]
            rfl
        rintro σ' H' ⟨rfl, rfl⟩
        refine ⟨_, rfl, _, _, rfl, rfl, _, rfl, ite2 (fun e4 => ?_) (fun e4 => ?_)⟩
        · refine fin0 H' k13 ?_
          have h2 : 2 < (me : Int) := of_decide_eq_true e4
          rw [← hb', stepL_bad hym (fun z => by
            have := z.2
            rw [← hme] at this
            omega)]
        have hm2 : metD (.tuple (.str k :: r)) p1 ≤ 2 := by
          have : ¬ 2 < (me : Int) := fun z => e4 (decide_eq_true z)
          omega
        have pd : partsD (.tuple (.str k :: r)) = r.take n := by
          show r.take ((lk partTab k).getD 0) = _
          rw [hn1]
          rfl
        have hly3 := k3.at k2.tab hly2 (fun _ z => nomatch z)
        have hbe3 := k3.at k2.tab hbe (fun _ z => nomatch z)
        have pr3 : Paired (LyR K H H') ts lay := Paired.mono (fun _ _ y => y.kp k3 k2.tab) pr2
        have pa3 : Paired (LyR K H H') us acc := Paired.mono (fun _ _ y => y.kp k3 k2.tab) pa2
        have ul := pa3.length
        refine ⟨_, rfl, .inl ⟨rfl, _, SqL.of hbe3⟩, ?_⟩
        refine ⟨_, rfl, a, k, vs, n, rfl, hs3, hn1, by omega, fun pp npp => ?_⟩
        have s4 := same_new (o := .tup (vs.take n)) npp
        refine ⟨pp, rfl, ⟨_, SqT.of upd_same⟩, fun D nD => ?_⟩
        have k4 := Kp.of k13.tab s4
        refine lc_tup (xs := vs.take n) (fun i H5 => Same (upd H' pp (.tup (vs.take n))) H5 ∧ ∃ cs : List Addr, H5 D = some (.lst (cs.map V.ref)) ∧ Paired (LyR K H H5) cs (((r.take n).map fun z => (z, me)).take i) ∧ cs.length = i)
          ⟨same_new nD, [], upd_same, .nil, rfl⟩ (fun i H5 _ z => SqT.of (z.1 _ _ upd_same)) ?_ ?_
        · rintro i z H5 hz5 ⟨sm, cs, hD, pc, cl⟩
          have hi4 : i < n := by
            have := (List.getElem?_eq_some_iff.mp hz5).1
            rw [List.length_take] at this
            omega
          have hv5 : vs[i]? = some z := by
            rw [List.getElem?_take] at hz5
            rw [if_pos hi4] at hz5
            exact hz5
          obtain ⟨dz, hdz, hpz⟩ := dps_at ha hv5
          refine ⟨rfl, ?_⟩
          refine ⟨_, rfl, _, rfl, (by show 2 ≤ sizeLine; decide), fun u nu => ?_⟩
          have s6 := same_new (o := .tup [z, V.int (me : Nat)]) nu
          have hD6 := s6 _ _ hD
          refine ⟨_, hD6, ?_, same_upd (sm.trans s6) nD, cs ++ [u], ?_, ?_, ?_⟩
          · rw [List.length_map, cl]
            exact small1000 (by omega)
          · rw [upd_same, List.map_append]
            rfl
          · have e6 : ((r.take n).map fun z => (z, me))[i]? = some (dz, me) := by
              rw [List.getElem?_map, List.getElem?_take, if_pos hi4, hdz]
              rfl
            rw [take_more e6]
            have one : LyR K H (upd H5 u (.tup [z, V.int (me : Nat)])) u (dz, me) := ⟨z, upd_same, hpz, hzy.mem (List.mem_cons_of_mem _ (List.mem_of_getElem? (show r[i]? = some dz from hdz)))⟩
            have pc6 : Paired (LyR K H (upd H5 u (.tup [z, V.int (me : Nat)]))) cs (((r.take n).map fun z => (z, me)).take i) := Paired.mono (fun _ _ ⟨x', e', r'⟩ => ⟨x', s6 _ _ e', r'⟩) pc
            exact Paired.mono (fun _ _ y => LyR.lst hD6 y) (Paired.snoc pc6 one)
          · rw [List.length_append, cl]
            rfl
        · rintro H5 ⟨sm, cs, hD, pc, cl⟩
          have lt : ((r.take n).map fun z => (z, me)).take (vs.take n).length = (r.take n).map fun z => (z, me) := by
            refine List.take_of_length_le ?_
            rw [List.length_map, List.length_take, List.length_take]
            omega
          rw [lt] at pc
          have s45 := s4.trans sm
          have hbe5 := s45 _ _ hbe3
          have cl4 : cs.length ≤ 4 := by
            rw [cl, List.length_take]
            omega
          have lay100 : lay.length ≤ 100 := by omega
          refine ⟨be, D, _, _, rfl, rfl, hbe5, hD, ?_, ?_⟩
          · rw [List.length_map, List.length_map, ul]
            exact Nat.le_trans (show acc.length + cs.length ≤ 10000 by omega) (by decide)
          have k5 : Kp pt H H5 := k13.trans (Kp.of k13.tab s45)
          have mv : ∀ {t y}, LyR K H H' t y → LyR K H (upd H5 be (.lst (us.map V.ref ++ cs.map V.ref))) t y := fun y => (y.kp (Kp.of k13.tab s45) k13.tab).lst hbe5
          refine ⟨_, _, _, _, us ++ cs, acc ++ ((r.take n).map fun z => (z, me)), rfl, kp_upd k5 hbe0 hbe5, fne' hbe5 nlb (s45 _ _ hly3), nlb, Paired.mono (fun _ _ y => mv y) pr3, by rw [upd_same, List.map_append], paired_app (Paired.mono (fun _ _ y => mv y) pa3) (Paired.mono (fun _ _ y => y.lst hbe5) pc), ?_, ?_⟩
          · rw [take_more hy, stepL_snoc st fy hm2, pd, ← hme]
          · rw [List.length_append, List.length_map, List.length_take]
            omega
      · rintro σ H2 ⟨v5, v6, v7, v8, us, acc, rfl, k2, hly2, nlb, pr2, hbe, pa2, st, al⟩
        rw [List.length_map, tl, List.take_length] at st
        rw [st] at hb'
        refine ⟨_, rfl, ?_⟩
        have ef : fu = 13 - (deep + 1) := by omega
        rw [ef, ← tlm] at hb'
        exact ⟨deep + 1, many + (ts.map V.ref).length, be, us, acc, _, _, _, _, _, rfl, h12, rfl, k2, hbe, pa2, hb'⟩
end
end MK


set_option Elab.async false
set_option linter.all false
set_option maxRecDepth 100000
set_option maxHeartbeats 4000000
namespace MK
open PySem PySem.Spec PyProof.Rows L2
/-! ### a reckoning as plain data; what the search tells of it -/
def rkD : Rk → PyData
  | .is x y m => .tuple [.str "is", .tuple [.int x, .int y], msD m]
  | .nought => .tuple [.str "nought"]
  | .input z => .tuple [.str "input", .str z]
  | .bin o a b => .tuple [.str o.name, rkD a, rkD b]
  | .power a n => .tuple [.str "power", rkD a, .int n]
  | .less a b c d => .tuple [.str "less", rkD a, rkD b, rkD c, rkD d]
theorem az_b {c : Nat} : azB c = true ↔ 97 ≤ c ∧ c ≤ 122 := by
  unfold azB
  have e1 : (Str.ofString "a").cps.toList = [97] := by decide +kernel
  have e2 : (Str.ofString "z").cps.toList = [122] := by decide +kernel
  rw [e1, e2, Bool.and_eq_true]
  have k : ∀ a b : Nat, ([a] < [b]) ↔ a < b := fun a b => by
    constructor
    · intro h
      rcases List.cons_lt_cons_iff.mp h with h | h
      · exact h
      · exact absurd h.2 (List.lt_irrefl _)
    · exact fun h => List.cons_lt_cons_iff.mpr (.inl h)
  have n : ∀ a b : Nat, ((!decide ([a] < [b])) = true) ↔ ¬ a < b := fun a b => by
    rw [← k a b]
    simp
  rw [n, n]
  omega
theorem name_nm {z : Str} : nameD (.str z) = true ↔ Nm z := by
  show (decide (1 ≤ z.length) && decide (z.length ≤ 8) && z.cps.toList.all azB) = true ↔ _
  rw [Bool.and_eq_true, Bool.and_eq_true, decide_eq_true_eq, decide_eq_true_eq, List.all_eq_true]
  constructor
  · rintro ⟨⟨h1, h2⟩, h3⟩
    exact ⟨h1, h2, fun c hc => az_b.mp (h3 c hc)⟩
  · rintro ⟨h1, h2, h3⟩
    exact ⟨⟨h1, h2⟩, fun c hc => az_b.mpr (h3 c hc)⟩
theorem meas_ok {m : Ms} (h : Can m) (l : m.length ≤ 6) (n : ∀ p ∈ m, Nm p.1 ∧ p.2.natAbs ≤ 20) : measD (msD m) = true := by
  show (decide ((m.map fun p => PyData.tuple [.str p.1, .int p.2]).length ≤ 6) && (m.map fun p => PyData.tuple [.str p.1, .int p.2]).all pairD && risB ((m.map fun p => PyData.tuple [.str p.1, .int p.2]).map nmD)) = true
  rw [Bool.and_eq_true, Bool.and_eq_true, decide_eq_true_eq, List.length_map, List.all_eq_true, risB_pw, List.map_map]
  refine ⟨⟨l, fun d hd => ?_⟩, ?_⟩
  · obtain ⟨p, hp, rfl⟩ := List.mem_map.mp hd
    obtain ⟨n1, n2⟩ := n p hp
    show (nameD (.str p.1) && wholeD (.int p.2) (-20) 20 && !decide (p.2 = 0)) = true
    rw [name_nm.mpr n1, decide_eq_false (h.nz p hp)]
    show (decide (-20 ≤ p.2) && decide (p.2 ≤ 20) && true) = true
    rw [decide_eq_true (by omega), decide_eq_true (by omega)]
    rfl
  · exact List.pairwise_map.mpr h.ris
theorem form_def (k : Str) (r : List PyData) : formD (.tuple (.str k :: r)) = (decide (lk lenTab k = some (r.length + 1)) &&
    (if k = "is" then numD (r.getD 0 .none) && measD (r.getD 1 .none) else if k = "input" then nameD (r.getD 0 .none) else if k = "power" then wholeD (r.getD 1 .none) (-4) 4 else true)) := rfl
theorem parts_def (k : Str) (r : List PyData) : partsD (.tuple (.str k :: r)) = r.take ((lk partTab k).getD 0) := rfl
theorem and_ok {a b : Bool} (h : a = true) (g : b = true) : (a && b) = true := by rw [h, g]; rfl
theorem rk_form : ∀ {r : Rk}, r.Ok → formD (rkD r) = true
  | .is x y m, h => by
    obtain ⟨⟨h1, h2⟩, h3, h4, g⟩ := h
    have e1 : numD (.tuple [.int x, .int y]) = true := by
      show (wholeD (.int x) (-1000000000) 1000000000 && wholeD (.int y) 1 1000000000 && decide (Nat.gcd x.natAbs y.natAbs = 1)) = true
      rw [decide_eq_true h2]
      have h3 : x.natAbs ≤ 1000000000 := h3
      have h4 : y ≤ 1000000000 := h4
      show ((decide (-1000000000 ≤ x) && decide (x ≤ 1000000000)) && (decide (1 ≤ y) && decide (y ≤ 1000000000)) && true) = true
      rw [decide_eq_true (by omega), decide_eq_true (by omega), decide_eq_true (by omega), decide_eq_true h4]
      rfl
    show formD (.tuple (.str "is" :: [.tuple [.int x, .int y], msD m])) = true
    rw [form_def, if_pos rfl]
    exact and_ok (by decide +kernel : decide (lk lenTab "is" = some 3) = true) (and_ok e1 (meas_ok g.can g.few fun p hp => ⟨g.nm p hp, g.sm p hp⟩))
  | .nought, _ => by decide +kernel
  | .input z, h => by
    show formD (.tuple (.str "input" :: [.str z])) = true
    rw [form_def, if_neg (by decide +kernel), if_pos rfl]
    exact and_ok (by decide +kernel : decide (lk lenTab "input" = some 2) = true) (name_nm.mpr h)
  | .bin o a b, _ => by
    show formD (.tuple (.str o.name :: [rkD a, rkD b])) = true
    rw [form_def, if_neg (by cases o <;> decide +kernel), if_neg (by cases o <;> decide +kernel), if_neg (by cases o <;> decide +kernel)]
    exact and_ok (by cases o <;> decide +kernel : decide (lk lenTab o.name = some 3) = true) rfl
  | .power a n, h => by
    obtain ⟨_, h1, h2⟩ := h
    show formD (.tuple (.str "power" :: [rkD a, .int n])) = true
    rw [form_def, if_neg (by decide +kernel), if_neg (by decide +kernel), if_pos rfl]
    refine and_ok (by decide +kernel : decide (lk lenTab "power" = some 3) = true) ?_
    show (decide (-4 ≤ n) && decide (n ≤ 4)) = true
    rw [decide_eq_true h1, decide_eq_true h2]
    rfl
  | .less a b c d, _ => by
    show formD (.tuple (.str "less" :: [rkD a, rkD b, rkD c, rkD d])) = true
    rw [form_def, if_neg (by decide +kernel), if_neg (by decide +kernel), if_neg (by decide +kernel)]
    exact and_ok (by decide +kernel : decide (lk lenTab "less" = some 5) = true) rfl
theorem rk_parts : ∀ r : Rk, partsD (rkD r) = r.parts.map rkD
  | .is x y m => by
    show partsD (.tuple (.str "is" :: [.tuple [.int x, .int y], msD m])) = []
    rw [parts_def, show lk partTab "is" = some 0 by decide +kernel]
    rfl
  | .nought => by
    show partsD (.tuple (.str "nought" :: [])) = []
    rw [parts_def]
    exact List.take_nil
  | .input z => by
    show partsD (.tuple (.str "input" :: [.str z])) = []
    rw [parts_def, show lk partTab "input" = some 0 by decide +kernel]
    rfl
  | .bin o a b => by
    show partsD (.tuple (.str o.name :: [rkD a, rkD b])) = [rkD a, rkD b]
    rw [parts_def, show lk partTab o.name = some 2 by cases o <;> decide +kernel]
    rfl
  | .power a n => by
    show partsD (.tuple (.str "power" :: [rkD a, .int n])) = [rkD a]
    rw [parts_def, show lk partTab "power" = some 1 by decide +kernel]
    rfl
  | .less a b c d => by
    show partsD (.tuple (.str "less" :: [rkD a, rkD b, rkD c, rkD d])) = [rkD a, rkD b, rkD c, rkD d]
    rw [parts_def, show lk partTab "less" = some 4 by decide +kernel]
    rfl
/-- the powers that a form itself adds -/
def Rk.pw : Rk → Nat
  | .power _ _ => 1
  | _ => 0
theorem rk_met : ∀ (r : Rk) (p : Nat), metD (rkD r) p = p + r.pw
  | .is _ _ _, p => if_neg (show ¬ ("is" : Str) = "power" by decide +kernel)
  | .nought, p => if_neg (show ¬ ("nought" : Str) = "power" by decide +kernel)
  | .input _, p => if_neg (show ¬ ("input" : Str) = "power" by decide +kernel)
  | .bin o _ _, p => if_neg (show ¬ o.name = "power" by cases o <;> decide +kernel)
  | .power _ _, p => if_pos (show ("power" : Str) = "power" from rfl)
  | .less _ _ _ _, p => if_neg (show ¬ ("less" : Str) = "power" by decide +kernel)
theorem part_okR : ∀ {r x : Rk}, x ∈ r.parts → r.Ok → x.Ok := fun hx h => (part_of hx h).1
def sumR (l : List (Rk × Nat)) : Nat := (l.map fun y => y.1.many).sum
theorem many_parts : ∀ r : Rk, r.many = 1 + (r.parts.map Rk.many).sum
  | .bin _ a b => by show 1 + (a.many + b.many) = 1 + (a.many + (b.many + 0)); omega
  | .power a _ => by show 1 + a.many = 1 + (a.many + 0); omega
  | .less a b c d => by show 1 + (a.many + b.many + c.many + d.many) = 1 + (a.many + (b.many + (c.many + (d.many + 0)))); omega
  | .is _ _ _ => rfl
  | .nought => rfl
  | .input _ => rfl
theorem deep_parts : ∀ (r : Rk) (f : Nat), r.deep ≤ f + 1 ↔ ∀ x ∈ r.parts, x.deep ≤ f
  | .bin _ a b, f => by
    show 1 + max a.deep b.deep ≤ f + 1 ↔ ∀ x ∈ [a, b], x.deep ≤ f
    simp only [List.mem_cons, List.mem_nil_iff, or_false, forall_eq_or_imp, forall_eq]
    omega
  | .power a _, f => by
    show 1 + a.deep ≤ f + 1 ↔ ∀ x ∈ [a], x.deep ≤ f
    simp only [List.mem_cons, List.mem_nil_iff, or_false, forall_eq]
    omega
  | .less a b c d, f => by
    show 1 + max (max a.deep b.deep) (max c.deep d.deep) ≤ f + 1 ↔ ∀ x ∈ [a, b, c, d], x.deep ≤ f
    simp only [List.mem_cons, List.mem_nil_iff, or_false, forall_eq_or_imp, forall_eq]
    omega
  | .is _ _ _, f => ⟨fun _ x h => absurd h (by simp [Rk.parts]), fun _ => by show 1 ≤ f + 1; omega⟩
  | .nought, f => ⟨fun _ x h => absurd h (by simp [Rk.parts]), fun _ => by show 1 ≤ f + 1; omega⟩
  | .input _, f => ⟨fun _ x h => absurd h (by simp [Rk.parts]), fun _ => by show 1 ≤ f + 1; omega⟩
theorem pows_parts : ∀ (r : Rk) (p : Nat), p + r.pows ≤ 2 ↔ p + r.pw ≤ 2 ∧ ∀ x ∈ r.parts, p + r.pw + x.pows ≤ 2
  | .bin _ a b, p => by
    show p + max a.pows b.pows ≤ 2 ↔ p + 0 ≤ 2 ∧ ∀ x ∈ [a, b], p + 0 + x.pows ≤ 2
    simp only [List.mem_cons, List.mem_nil_iff, or_false, forall_eq_or_imp, forall_eq]
    omega
  | .power a _, p => by
    show p + (1 + a.pows) ≤ 2 ↔ p + 1 ≤ 2 ∧ ∀ x ∈ [a], p + 1 + x.pows ≤ 2
    simp only [List.mem_cons, List.mem_nil_iff, or_false, forall_eq]
    omega
  | .less a b c d, p => by
    show p + max (max a.pows b.pows) (max c.pows d.pows) ≤ 2 ↔ p + 0 ≤ 2 ∧ ∀ x ∈ [a, b, c, d], p + 0 + x.pows ≤ 2
    simp only [List.mem_cons, List.mem_nil_iff, or_false, forall_eq_or_imp, forall_eq]
    omega
  | .is _ _ _, p => ⟨fun h => ⟨h, fun x h => absurd h (by simp [Rk.parts])⟩, fun h => h.1⟩
  | .nought, p => ⟨fun h => ⟨h, fun x h => absurd h (by simp [Rk.parts])⟩, fun h => h.1⟩
  | .input _, p => ⟨fun h => ⟨h, fun x h => absurd h (by simp [Rk.parts])⟩, fun h => h.1⟩
/-- the layer below -/
def below (l : List (Rk × Nat)) : List (Rk × Nat) := l.flatMap fun y => y.1.parts.map fun z => (z, y.2 + y.1.pw)
def layD (l : List (Rk × Nat)) : List (PyData × Nat) := l.map fun y => (rkD y.1, y.2)
theorem step_below : ∀ {l : List (Rk × Nat)}, (∀ y ∈ l, y.1.Ok) → (∀ y ∈ l, y.2 + y.1.pw ≤ 2) → stepL (layD l) = some (layD (below l))
  | [], _, _ => rfl
  | y :: r, h, g => by
    have ih := step_below (l := r) (fun z hz => h z (List.mem_cons_of_mem _ hz)) (fun z hz => g z (List.mem_cons_of_mem _ hz))
    have h1 := h y List.mem_cons_self
    show (if formD (rkD y.1) = true ∧ metD (rkD y.1) y.2 ≤ 2 then (stepL (layD r)).map _ else none) = _
    rw [if_pos ⟨rk_form h1, by rw [rk_met]; exact g y List.mem_cons_self⟩, ih, rk_parts, rk_met]
    show some (_ ++ layD (below r)) = _
    unfold below layD
    rw [List.flatMap_cons, List.map_append, List.map_map, List.map_map]
    rfl
theorem sum_below : ∀ l : List (Rk × Nat), sumR l = l.length + sumR (below l)
  | [] => rfl
  | y :: r => by
    have ih := sum_below r
    have e := many_parts y.1
    show y.1.many + sumR r = (r.length + 1) + sumR (below (y :: r))
    have e2 : sumR (below (y :: r)) = (y.1.parts.map Rk.many).sum + sumR (below r) := by
      unfold below sumR
      rw [List.flatMap_cons, List.map_append, List.sum_append, List.map_map]
      rfl
    omega
theorem bfs_rk : ∀ (f many : Nat) (l : List (Rk × Nat)), (∀ y ∈ l, y.1.Ok) → many ≤ 100 → (bfs (f + 1) many (layD l) = true ↔ (∀ y ∈ l, y.1.deep ≤ f) ∧ many + sumR l ≤ 100 ∧ ∀ y ∈ l, y.2 + y.1.pows ≤ 2)
  | f, many, [], _, hm => ⟨fun _ => ⟨fun y hy => absurd hy (by simp), by show many + 0 ≤ 100; omega, fun y hy => absurd hy (by simp)⟩, fun _ => rfl⟩
  | 0, many, y :: r, h, hm => by
    have pos := y.1.deep_pos
    constructor
    · intro e
      cases e
    · rintro ⟨h1, _⟩
      have := h1 y List.mem_cons_self
      omega
  | f + 1, many, y :: r, h, hm => by
    have sb := sum_below (y :: r)
    have ll : (layD (y :: r)).length = (y :: r).length := List.length_map _
    show (if many + (layD (y :: r)).length ≤ 100 then (match stepL (layD (y :: r)) with
      | none => false
      | some b => bfs (f + 1) (many + (layD (y :: r)).length) b) else false) = true ↔ _
    rw [ll]
    generalize y :: r = l at *
    by_cases h100 : many + l.length ≤ 100
    · rw [if_pos h100]
      by_cases hp : ∀ y ∈ l, y.2 + y.1.pw ≤ 2
      · rw [step_below h hp]
        have hb : ∀ z ∈ below l, z.1.Ok := fun z hz => by
          obtain ⟨y, hy, hz⟩ := List.mem_flatMap.mp hz
          obtain ⟨x, hx, rfl⟩ := List.mem_map.mp hz
          exact part_okR hx (h y hy)
        show bfs (f + 1) (many + l.length) (layD (below l)) = true ↔ _
        rw [bfs_rk f (many + l.length) (below l) hb h100]
        constructor
        · rintro ⟨a1, a2, a3⟩
          refine ⟨fun y hy => (deep_parts y.1 f).mpr fun x hx => a1 (x, y.2 + y.1.pw) (List.mem_flatMap.mpr ⟨y, hy, List.mem_map.mpr ⟨x, hx, rfl⟩⟩), by omega, fun y hy => (pows_parts y.1 y.2).mpr ⟨hp y hy, fun x hx => a3 (x, y.2 + y.1.pw) (List.mem_flatMap.mpr ⟨y, hy, List.mem_map.mpr ⟨x, hx, rfl⟩⟩)⟩⟩
        · rintro ⟨a1, a2, a3⟩
          refine ⟨fun z hz => ?_, by omega, fun z hz => ?_⟩
          · obtain ⟨y, hy, hz⟩ := List.mem_flatMap.mp hz
            obtain ⟨x, hx, rfl⟩ := List.mem_map.mp hz
            exact (deep_parts y.1 f).mp (a1 y hy) x hx
          · obtain ⟨y, hy, hz⟩ := List.mem_flatMap.mp hz
            obtain ⟨x, hx, rfl⟩ := List.mem_map.mp hz
            exact ((pows_parts y.1 y.2).mp (a3 y hy)).2 x hx
      · obtain ⟨y, hy⟩ := Classical.not_forall.mp hp
        obtain ⟨hy, hn⟩ := Classical.not_imp.mp hy
        rw [stepL_bad (l := layD l) (y := (rkD y.1, y.2)) (List.mem_map.mpr ⟨y, hy, rfl⟩) (fun z => hn (by have := z.2; rw [rk_met] at this; exact this))]
        constructor
        · intro e; cases e
        · rintro ⟨_, _, a3⟩
          exact absurd ((pows_parts y.1 y.2).mp (a3 y hy)).1 hn
    · rw [if_neg h100]
      constructor
      · intro e; cases e
      · rintro ⟨_, a2, _⟩
        omega
/-- a sound reckoning: just the bounds count -/
theorem isR_rk {r : Rk} (h : r.Ok) : isR (rkD r) = decide (r.deep ≤ 12 ∧ r.many ≤ 100 ∧ r.pows ≤ 2) := by
  rw [Bool.eq_iff_iff, decide_eq_true_eq]
  show bfs (12 + 1) 0 (layD [(r, 0)]) = true ↔ _
  rw [bfs_rk 12 0 [(r, 0)] (fun y hy => by rw [List.mem_singleton.mp hy]; exact h) (by decide)]
  have e : sumR [(r, 0)] = r.many := by
    show r.many + 0 = _
    omega
  rw [e]
  constructor
  · rintro ⟨a1, a2, a3⟩
    have : 0 + r.pows ≤ 2 := a3 (r, 0) (List.mem_singleton.mpr rfl)
    exact ⟨a1 (r, 0) (List.mem_singleton.mpr rfl), by omega, by omega⟩
  · rintro ⟨a1, a2, a3⟩
    exact ⟨fun y hy => by rw [List.mem_singleton.mp hy]; exact a1, by omega, fun y hy => by rw [List.mem_singleton.mp hy]; show 0 + r.pows ≤ 2; omega⟩
/-! ### what is met without form -/
inductive Met : PyData → PyData → Prop where
  | here (d : PyData) : Met d d
  | down {d e x : PyData} (h : e ∈ partsD d) (m : Met e x) : Met d x
theorem stepL_mem : ∀ {l b : List (PyData × Nat)}, stepL l = some b → ∀ y ∈ l, formD y.1 = true ∧ ∀ e ∈ partsD y.1, ∃ p, (e, p) ∈ b
  | [], _, _, y, hy => absurd hy (by simp)
  | z :: r, b, h, y, hy => by
    have h : (if formD z.1 = true ∧ metD z.1 z.2 ≤ 2 then (stepL r).map fun b => (partsD z.1).map (fun x => (x, metD z.1 z.2)) ++ b else none) = some b := h
    by_cases c : formD z.1 = true ∧ metD z.1 z.2 ≤ 2
    · rw [if_pos c] at h
      cases e : stepL r with
      | none => rw [e] at h; cases h
      | some b' =>
        rw [e] at h
        have h := Option.some.inj h
        rw [← h]
        rcases List.mem_cons.mp hy with rfl | hy
        · exact ⟨c.1, fun x hx => ⟨_, List.mem_append_left _ (List.mem_map.mpr ⟨x, hx, rfl⟩)⟩⟩
        · obtain ⟨h1, h2⟩ := stepL_mem e y hy
          exact ⟨h1, fun x hx => by
            obtain ⟨p, hp⟩ := h2 x hx
            exact ⟨p, List.mem_append_right _ hp⟩⟩
    · rw [if_neg c] at h
      cases h
theorem bfs_met : ∀ (f many : Nat) (l : List (PyData × Nat)), bfs f many l = true → ∀ y ∈ l, ∀ x, Met y.1 x → formD x = true
  | 0, _, _, h, _, _, _, _ => nomatch h
  | f + 1, many, [], _, y, hy, _, _ => absurd hy (by simp)
  | f + 1, many, z :: r, h, y, hy, x, m => by
    have h : (if f = 0 then false else if many + (z :: r).length ≤ 100 then (match stepL (z :: r) with
      | none => false
      | some b => bfs f (many + (z :: r).length) b) else false) = true := h
    by_cases f0 : f = 0
    · rw [if_pos f0] at h; cases h
    rw [if_neg f0] at h
    by_cases c : many + (z :: r).length ≤ 100
    · rw [if_pos c] at h
      cases e : stepL (z :: r) with
      | none => rw [e] at h; cases h
      | some b =>
        rw [e] at h
        obtain ⟨h1, h2⟩ := stepL_mem e y hy
        cases m with
        | here => exact h1
        | @down _ e' _ he m =>
          obtain ⟨p, hp⟩ := h2 e' he
          exact bfs_met f _ b h (e', p) hp x m
    · rw [if_neg c] at h; cases h
theorem isR_bad {d x : PyData} (m : Met d x) (b : formD x = false) : isR d = false := by
  cases e : isR d with
  | false => rfl
  | true =>
    have := bfs_met 13 0 [(d, 0)] e (d, 0) (List.mem_singleton.mpr rfl) x m
    rw [b] at this
    cases this
end MK


set_option Elab.async false
set_option linter.all false
set_option maxRecDepth 100000
set_option maxHeartbeats 4000000
namespace MK
open PySem PySem.Spec PyProof.Rows L2
section
variable {P : Program} {w : World} {K : PySem.W.Frag} {mg : Str → Option Value} {base : Heap}
/-! ### _law_cell_at -/
def spCell (K : PySem.W.Frag) : Sp := fun vs H Q _ => ∃ (a : Addr) (ns : List Int) (k : Nat), vs = [.ref a, .int k] ∧ SqL K H a (ns.map V.int) ∧
  ∀ c : Int, 0 ≤ c → c < 1000000000000000003 → Q (.int c) H
theorem scCell : FnScope ["_law_script", "_law_k"] ["_law_script", "_law_k"] (defScope sCell) := ⟨rfl, rfl, rfl, by decide +kernel, rfl, by decide +kernel, by decide +kernel⟩
theorem ok_cell {f : Addr} {fd : FuncData} (F : Fun K "_law_cell_at" "_law_cell_at" sCell f fd) (ml : mg "len" = none) : FnOk P w K mg base CX0 1 f fd ["_law_script", "_law_k"] (spCell K) := by
  refine F.ok scCell (fun vs H Q E h => ?_) (fun cdv A outer s H vs Q E hr h => ?_)
  · obtain ⟨a, ns, k, rfl, _⟩ := h
    rfl
  · obtain ⟨a, ns, k, rfl, hS, q⟩ := h
    refine ⟨_, pss_cons (ps_if (pt_cmpR op_lt (pv 1) (pe_callB call_len_seq (by rfl) ml PySem.boot_len (pa_cons (pv 0) pa_nil)) (nomark _))
        (pss_one (ps_ret (pe_op op_mod (pe_ix ix_list (pv 0) (pv 1) (fun _ _ => rfl)) pe_int))) pss_nil)
      (pss_one (ps_ret pe_int)), ?_⟩
    refine ⟨_, rfl, _, rfl, a, ns.map V.int, rfl, .inl hS, _, _, rfl, rfl, _, rfl, ite2 (fun e => ?_) (fun e => ?_)⟩
    · have hk : k < ns.length := by
        have := of_decide_eq_true e
        rw [List.length_map] at this
        omega
      refine ⟨_, rfl, _, rfl, a, ns.map V.int, (k : Int), .int ns[k], rfl, rfl, hS, atI_nat (by rw [List.getElem?_map, List.getElem?_eq_getElem hk]; rfl), _, _, rfl, rfl, (by show (0 : Int) < 1000000000000000003; decide), ?_⟩
      exact q _ (Int.emod_nonneg _ (by decide)) (Int.emod_lt_of_pos _ (by decide))
    · exact q 0 (by decide) (by decide)
/-! ### _law_mix -/
def spMix : Sp := fun vs H Q _ => ∃ (c k : Int), vs = [.int c, .int k] ∧ ∀ m : Int, 0 ≤ m → m < 2147483629 → Q (.int m) H
theorem scMix : FnScope ["_law_cell", "_law_k", "_law_number_here"] ["_law_cell", "_law_k"] (defScope sMix) := ⟨rfl, rfl, rfl, by decide +kernel, rfl, by decide +kernel, by decide +kernel⟩
theorem ok_mix {f : Addr} {fd : FuncData} (F : Fun K "_law_mix" "_law_mix" sMix f fd) : FnOk P w K mg base CX0 1 f fd ["_law_cell", "_law_k"] spMix := by
  refine F.ok scMix (fun vs H Q E h => ?_) (fun cdv A outer s H vs Q E hr h => ?_)
  · obtain ⟨c, k, rfl, _⟩ := h
    rfl
  · obtain ⟨c, k, rfl, q⟩ := h
    refine ⟨_, pss_cons (ps_set (i := 2) scMix.nd rfl (.inl rfl) (pe_op op_mod (pe_op op_add (pe_op op_add (pe_op op_mul (pv 0) pe_int) (pe_op op_mul (pv 1) pe_int)) pe_int) pe_int))
      (pss_one (ps_ret (pe_op op_mod (pe_op op_add (pe_op op_add (pe_op op_mul (pv 2) (pv 2)) (pe_op op_mul pe_int (pv 2))) (pv 1)) pe_int))), ?_⟩
    refine ⟨_, rfl, _, _, rfl, rfl, .inr (by decide), _, rfl, _, _, rfl, rfl, .inr (by decide), _, _, rfl, rfl, _, _, rfl, rfl, _, _, rfl, rfl, (by show (0 : Int) < 2147483647; decide), ?_⟩
    have h1 : 0 ≤ (c * 48271 + k * 69621 + 11) % 2147483647 := Int.emod_nonneg _ (by decide)
    have h2 : (c * 48271 + k * 69621 + 11) % 2147483647 < 2147483647 := Int.emod_lt_of_pos _ (by decide)
    refine ⟨_, rfl, _, rfl, _, _, rfl, rfl, .inl ⟨by omega, by omega⟩, _, rfl, _, _, rfl, rfl, .inl (by decide), _, _, rfl, rfl, _, rfl, _, _, rfl, rfl, _, _, rfl, rfl, (by show (0 : Int) < 2147483629; decide), ?_⟩
    exact q _ (Int.emod_nonneg _ (by decide)) (Int.emod_lt_of_pos _ (by decide))
end
end MK


set_option Elab.async false
set_option linter.all false
set_option maxRecDepth 100000
set_option maxHeartbeats 4000000
namespace MK
open PySem PySem.Spec PyProof.Rows L2
section
variable {P : Program} {w : World} {K : PySem.W.Frag} {mg : Str → Option Value} {base : Heap}
/-! ### _law_words -/
theorem strRep_len (z : Str) (n : Int) : (strRep z n).length = z.length * n.toNat := by
  unfold strRep
  by_cases c : n < 1
  · rw [if_pos c]
    have : n.toNat = 0 := by omega
    rw [this]
    rfl
  · rw [if_neg c]
    by_cases d : (n == 1 || z.length == 0) = true
    · rw [if_pos d]
      rw [Bool.or_eq_true] at d
      rcases d with d | d
      · have : n = 1 := by simpa using d
        subst this
        show z.length = z.length * 1
        omega
      · have : z.length = 0 := by simpa using d
        rw [this]
        omega
    · rw [if_neg d]
      show ((List.replicate n.toNat z.cps).foldl (· ++ ·) #[]).size = _
      rw [size_reps]
      show 0 + n.toNat * z.length = _
      rw [Nat.mul_comm]
      omega
abbrev alphabet : Str := "abcdefghijklmnopqrstuvwxyz"
theorem sign_at (i : Int) (h0 : 0 ≤ i) (h1 : i < 26) : ∃ c, atI alphabet.cps.toList i = some c ∧ (97 ≤ c ∧ c ≤ 122) := by
  have hl : alphabet.cps.toList.length = 26 := by decide +kernel
  obtain ⟨n, rfl⟩ := Int.eq_ofNat_of_zero_le h0
  have hn : n < alphabet.cps.toList.length := by omega
  exact ⟨_, atI_nat (List.getElem?_eq_getElem hn), (by decide +kernel : ∀ c ∈ alphabet.cps.toList, 97 ≤ c ∧ c ≤ 122) _ (List.getElem_mem hn)⟩
theorem len_one (c : Nat) : (⟨#[c]⟩ : Str).length = 1 := rfl
theorem len1000 (c : Nat) : (⟨#[c]⟩ : Str).length ≤ 1000 := by
  rw [len_one]
  decide
theorem szl {n : Nat} (h : n ≤ 1000) : n ≤ sizeLine := Nat.le_trans h (by decide)
theorem app_len (a b : Str) : (a ++ b).length = a.length + b.length := by
  show (a.cps ++ b.cps).size = _
  rw [Array.size_append]
  rfl
def spWords : Sp := fun vs H Q _ => ∃ (c : Int) (n : Nat), vs = [.int c, .int n] ∧ 0 ≤ c ∧ n ≤ 1000 ∧
  ∀ (H' : Hp) (p : Addr) (ws : List Str), Same H H' → H p = none → H' p = some (.lst (ws.map V.str)) → ws.length = n → (∀ z ∈ ws, Nm z) → Q (.ref p) H'
theorem scWords : FnScope ["_law_cell", "_law_many_here", "_law_signs", "_law_size", "_law_place", "_law_base", "_law_way", "_law_found", "_law_k", "_law_sign", "_law_word"] ["_law_cell", "_law_many_here"] (defScope sWords) := ⟨rfl, rfl, rfl, by decide +kernel, rfl, by decide +kernel, by decide +kernel⟩
theorem ok_words {f : Addr} {fd : FuncData} (F : Fun K "_law_words" "_law_words" sWords f fd) (mr : mg "range" = none) : FnOk P w K mg base CX0 1 f fd ["_law_cell", "_law_many_here"] spWords := by
  refine F.ok scWords (fun vs H Q E h => ?_) (fun cdv A outer s H vs Q E hr h => ?_)
  · obtain ⟨c, n, rfl, _⟩ := h
    rfl
  · obtain ⟨c, n, rfl, h0, hn, q⟩ := h
    have nd := scWords.nd
    refine ⟨_, pss_cons (ps_set (i := 2) nd rfl (.inl rfl) pe_str)
      (pss_cons (ps_set (i := 3) nd rfl (.inl rfl) (pe_op op_add pe_int (pe_op op_mod (pv 0) pe_int)))
      (pss_cons (ps_set (i := 4) nd rfl (.inl rfl) (pe_op op_mod (pe_op op_fdiv (pv 0) pe_int) (pv 3)))
      (pss_cons (ps_set (i := 5) nd rfl (.inl rfl) (pe_ix ix_str (pv 2) (pe_op op_mod (pe_op op_fdiv (pv 0) pe_int) pe_int) (fun _ _ => rfl)))
      (pss_cons (ps_set (i := 6) nd rfl (.inl rfl) (pe_op op_mod (pe_op op_fdiv (pv 0) pe_int) pe_int))
      (pss_cons (ps_set (i := 7) nd rfl (.inl rfl) (pe_lst pa_nil))
      (pss_cons (ps_for PassesOwn.never rfl (pi_range1 rfl mr (pa_cons (pv 1) pa_nil)) (pg_name (i := 8) nd rfl (.inl rfl))
        (pss_cons (ps_set (i := 9) nd rfl (.inl rfl) (pe_ix ix_str (pv 2) (pe_op op_mod (pe_op op_add (pe_op op_fdiv (pv 0) pe_int) (pe_op op_mul pe_int (pv 8))) pe_int) (fun _ _ => rfl)))
        (pss_cons (ps_set (i := 10) nd rfl (.inl rfl) (pe_op op_add_str (pe_op op_add_str (pe_op op_mul_str (pv 5) (pv 4)) (pv 9)) (pe_op op_mul_str (pv 5) (pe_op op_sub (pe_op op_sub (pv 3) pe_int) (pv 4)))))
        (Evl.pss_cut (ps_if (pt_cmpR op_eq (pv 6) pe_int (nomark _)) (pss_one (ps_set (i := 10) nd rfl (.inl rfl) (pe_op op_add_str (pv 9) (pe_op op_mul_str (pv 5) (pe_op op_mod (pe_op op_add (pe_op op_mul pe_int (pv 8)) (pe_op op_fdiv (pv 0) pe_int)) pe_int))))) pss_nil)
        (Evl.pss_cut (ps_if (pw_and (pt_cmpR op_eq (pv 6) pe_int (nomark _)) (pw_and1 (pt_cmpR op_lt (pv 8) pe_int (nomark _)))).pt (pss_one (ps_set (i := 10) nd rfl (.inl rfl) (pe_op op_mul_str (pv 5) (pe_op op_add pe_int (pe_op op_mod (pe_op op_add (pe_op op_mul pe_int (pv 8)) (pe_op op_fdiv (pv 0) pe_int)) pe_int))))) pss_nil)
        (Evl.pss_cut (ps_if (pw_and (pt_cmpR op_eq (pv 6) pe_int (nomark _)) (pw_and1 (pt_cmpR op_gt (pv 8) pe_int (nomark _)))).pt (pss_one (ps_set (i := 10) nd rfl (.inl rfl) (pe_op op_add_str (pe_ix ix_str (pv 2) (pe_op op_mod (pe_op op_sub (pe_op op_add (pe_op op_fdiv (pv 0) pe_int) (pv 8)) pe_int) pe_int) (fun _ _ => rfl)) (pe_op op_mul_str (pv 5) (pe_op op_mod (pv 8) pe_int))))) pss_nil)
        (pss_one (ps_expr (pe_bm PySem.F.plainAttrs_list PySem.F.slot_list_append PySem.F.type_list_append mt_append (pv 7) (pa_cons (pv 10) pa_nil))))))))))
      (pss_one (ps_ret (pv 7))))))))), ?_⟩
    -- the sizes
    have hs1 : 0 ≤ c % 8 := Int.emod_nonneg _ (by decide)
    have hs2 : c % 8 < 8 := Int.emod_lt_of_pos _ (by decide)
    have hp1 : 0 ≤ c / 8 % (1 + c % 8) := Int.emod_nonneg _ (by omega)
    have hp2 : c / 8 % (1 + c % 8) < 1 + c % 8 := Int.emod_lt_of_pos _ (by omega)
    (repeat (first | refine ⟨_, rfl, ?_⟩ | refine ⟨_, _, rfl, rfl, ?_⟩ | refine ⟨(by show (0 : Int) < _; decide), ?_⟩ | refine ⟨⟨by decide, by decide⟩, ?_⟩ | refine ⟨.inr (by decide), ?_⟩ | refine ⟨.inl (by decide), ?_⟩ | refine ⟨rfl, ?_⟩))
    refine ⟨(by show (0 : Int) < 1 + c % 8; omega), ?_⟩
    (repeat (first | refine ⟨_, rfl, ?_⟩ | refine ⟨_, _, rfl, rfl, ?_⟩ | refine ⟨(by show (0 : Int) < _; decide), ?_⟩ | refine ⟨⟨by decide, by decide⟩, ?_⟩ | refine ⟨.inr (by decide), ?_⟩ | refine ⟨.inl (by decide), ?_⟩ | refine ⟨rfl, ?_⟩))
    obtain ⟨sb, hsb, hsbO⟩ := sign_at (c / 64 % 26) (Int.emod_nonneg _ (by decide)) (Int.emod_lt_of_pos _ (by decide))
    refine ⟨_, _, sb, rfl, rfl, (by decide +kernel), hsb, ?_⟩
    (repeat (first | refine ⟨_, rfl, ?_⟩ | refine ⟨_, _, rfl, rfl, ?_⟩ | refine ⟨(by show (0 : Int) < _; decide), ?_⟩ | refine ⟨⟨by decide, by decide⟩, ?_⟩ | refine ⟨.inr (by decide), ?_⟩ | refine ⟨.inl (by decide), ?_⟩ | refine ⟨rfl, ?_⟩))
    refine ⟨Nat.zero_le _, fun o no => ?_⟩
    (repeat (first | refine ⟨_, rfl, ?_⟩ | refine ⟨_, _, rfl, rfl, ?_⟩ | refine ⟨(by show (0 : Int) < _; decide), ?_⟩ | refine ⟨⟨by decide, by decide⟩, ?_⟩ | refine ⟨.inr (by decide), ?_⟩ | refine ⟨.inl (by decide), ?_⟩ | refine ⟨rfl, ?_⟩))
    refine ⟨(by omega), (by omega), ?_⟩
    refine for_range (n := (n : Int).toNat) (fun i σ H2 => ∃ (v8 v9 v10 : Option V) (ws : List Str), σ = [some (.int c), some (.int n), some (.str alphabet), some (.int (1 + c % 8)), some (.int (c / 8 % (1 + c % 8))), some (.str ⟨#[sb]⟩), some (.int (c / 3 % 4)), some (.ref o), v8, v9, v10] ∧
        ws.length = i ∧ (∀ z ∈ ws, Nm z) ∧ Same H H2 ∧ H2 o = some (.lst (ws.map V.str)))
      ⟨none, none, none, [], rfl, rfl, (fun z hz => absurd hz (by simp)), same_new no, upd_same⟩ ?_ ?_
    · rintro i σ H2 hi ⟨v8, v9, v10, ws, rfl, hl, hw, sm, ho⟩
      obtain ⟨s1, hs1', hs1O⟩ := sign_at ((c / 1664 + 5 * (0 + (i : Int))) % 26) (Int.emod_nonneg _ (by decide)) (Int.emod_lt_of_pos _ (by decide))
      (repeat (first | refine ⟨_, rfl, ?_⟩ | refine ⟨_, _, rfl, rfl, ?_⟩ | refine ⟨(by show (0 : Int) < _; decide), ?_⟩ | refine ⟨⟨by decide, by decide⟩, ?_⟩ | refine ⟨.inr (by decide), ?_⟩ | refine ⟨.inl (by decide), ?_⟩ | refine ⟨rfl, ?_⟩))
      refine ⟨_, _, s1, rfl, rfl, (by decide +kernel), hs1', ?_⟩
      (repeat (first | refine ⟨_, rfl, ?_⟩ | refine ⟨_, _, rfl, rfl, ?_⟩ | refine ⟨(by show (0 : Int) < _; decide), ?_⟩ | refine ⟨⟨by decide, by decide⟩, ?_⟩ | refine ⟨.inr (by decide), ?_⟩ | refine ⟨.inl (by decide), ?_⟩ | refine ⟨rfl, ?_⟩))
      -- word = base * place + sign + base * (size - 1 - place)
      refine ⟨⟨len1000 _, by omega, by omega⟩, ?_⟩
      (repeat (first | refine ⟨_, rfl, ?_⟩ | refine ⟨_, _, rfl, rfl, ?_⟩ | refine ⟨(by show (0 : Int) < _; decide), ?_⟩ | refine ⟨⟨by decide, by decide⟩, ?_⟩ | refine ⟨.inr (by decide), ?_⟩ | refine ⟨.inl (by decide), ?_⟩ | refine ⟨rfl, ?_⟩))
      refine ⟨szl (by rw [strRep_len, len_one, len_one]; omega), ?_⟩
      (repeat (first | refine ⟨_, rfl, ?_⟩ | refine ⟨_, _, rfl, rfl, ?_⟩ | refine ⟨(by show (0 : Int) < _; decide), ?_⟩ | refine ⟨⟨by decide, by decide⟩, ?_⟩ | refine ⟨.inr (by decide), ?_⟩ | refine ⟨.inl (by decide), ?_⟩ | refine ⟨rfl, ?_⟩))
      refine ⟨⟨len1000 _, by omega, by omega⟩, ?_⟩
      (repeat (first | refine ⟨_, rfl, ?_⟩ | refine ⟨_, _, rfl, rfl, ?_⟩ | refine ⟨(by show (0 : Int) < _; decide), ?_⟩ | refine ⟨⟨by decide, by decide⟩, ?_⟩ | refine ⟨.inr (by decide), ?_⟩ | refine ⟨.inl (by decide), ?_⟩ | refine ⟨rfl, ?_⟩))
      refine ⟨szl (by rw [app_len, strRep_len, strRep_len, len_one, len_one]; omega), ?_⟩
      have w0 : Nm (strRep ⟨#[sb]⟩ (c / 8 % (1 + c % 8)) ++ ⟨#[s1]⟩ ++ strRep ⟨#[sb]⟩ (1 + c % 8 - 1 - c / 8 % (1 + c % 8))) := by
        refine ⟨?_, ?_, az_app (az_app (az_rep (az_one hsbO) _) (az_one hs1O)) (az_rep (az_one hsbO) _)⟩
        · rw [app_len, app_len, strRep_len, strRep_len, len_one, len_one]
          omega
        · rw [app_len, app_len, strRep_len, strRep_len, len_one, len_one]
          omega
      -- between the ifs: some word of one to twenty signs
      let Mid : L2.St → Hp → Prop := fun σ' H' => H' = H2 ∧ ∃ wd : Str, Nm wd ∧ σ' = [some (V.int c), some (V.int n), some (V.str alphabet), some (V.int (1 + c % 8)), some (V.int (c / 8 % (1 + c % 8))), some (V.str ⟨#[sb]⟩), some (V.int (c / 3 % 4)), some (V.ref o), some (V.int (0 + (i : Int))), some (V.str ⟨#[s1]⟩), some (V.str wd)]
      have hm0 : ∀ x : Int, 0 ≤ x % 8 ∧ x % 8 < 8 := fun x => ⟨Int.emod_nonneg _ (by decide), Int.emod_lt_of_pos _ (by decide)⟩
      refine ⟨Mid, ?_, ?_⟩
      · (repeat (first | refine ⟨_, rfl, ?_⟩ | refine ⟨_, _, rfl, rfl, ?_⟩ | refine ⟨(by show (0 : Int) < _; decide), ?_⟩ | refine ⟨⟨by decide, by decide⟩, ?_⟩ | refine ⟨.inr (by decide), ?_⟩ | refine ⟨.inl (by decide), ?_⟩ | refine ⟨rfl, ?_⟩))
        refine ite2 (fun _ => ?_) (fun _ => ⟨rfl, _, w0, rfl⟩)
        (repeat (first | refine ⟨_, rfl, ?_⟩ | refine ⟨_, _, rfl, rfl, ?_⟩ | refine ⟨(by show (0 : Int) < _; decide), ?_⟩ | refine ⟨⟨by decide, by decide⟩, ?_⟩ | refine ⟨.inr (by decide), ?_⟩ | refine ⟨.inl (by decide), ?_⟩ | refine ⟨rfl, ?_⟩))
        have := hm0 (3 * (0 + (i : Int)) + c / 9)
        refine ⟨⟨len1000 _, by omega, by omega⟩, ?_⟩
        (repeat (first | refine ⟨_, rfl, ?_⟩ | refine ⟨_, _, rfl, rfl, ?_⟩ | refine ⟨(by show (0 : Int) < _; decide), ?_⟩ | refine ⟨⟨by decide, by decide⟩, ?_⟩ | refine ⟨.inr (by decide), ?_⟩ | refine ⟨.inl (by decide), ?_⟩ | refine ⟨rfl, ?_⟩))
        refine ⟨szl (by rw [strRep_len, len_one, len_one]; omega), ?_⟩
        exact ⟨rfl, _, ⟨by rw [app_len, strRep_len, len_one, len_one]; omega, by rw [app_len, strRep_len, len_one, len_one]; omega, az_app (az_one hs1O) (az_rep (az_one hsbO) _)⟩, rfl⟩
      rintro σ' H' ⟨rfl, wd, hwd, rfl⟩
      refine ⟨Mid, ?_, ?_⟩
      · (repeat (first | refine ⟨_, rfl, ?_⟩ | refine ⟨_, _, rfl, rfl, ?_⟩ | refine ⟨(by show (0 : Int) < _; decide), ?_⟩ | refine ⟨⟨by decide, by decide⟩, ?_⟩ | refine ⟨.inr (by decide), ?_⟩ | refine ⟨.inl (by decide), ?_⟩ | refine ⟨rfl, ?_⟩))
        refine ite2 (fun _ => ?_) (fun _ => iteF ⟨rfl, _, hwd, rfl⟩)
        (repeat (first | refine ⟨_, rfl, ?_⟩ | refine ⟨_, _, rfl, rfl, ?_⟩ | refine ⟨(by show (0 : Int) < _; decide), ?_⟩ | refine ⟨⟨by decide, by decide⟩, ?_⟩ | refine ⟨.inr (by decide), ?_⟩ | refine ⟨.inl (by decide), ?_⟩ | refine ⟨rfl, ?_⟩))
        refine ite2 (fun _ => ?_) (fun _ => ⟨rfl, _, hwd, rfl⟩)
        (repeat (first | refine ⟨_, rfl, ?_⟩ | refine ⟨_, _, rfl, rfl, ?_⟩ | refine ⟨(by show (0 : Int) < _; decide), ?_⟩ | refine ⟨⟨by decide, by decide⟩, ?_⟩ | refine ⟨.inr (by decide), ?_⟩ | refine ⟨.inl (by decide), ?_⟩ | refine ⟨rfl, ?_⟩))
        have := hm0 (3 * (0 + (i : Int)) + c / 9)
        refine ⟨⟨len1000 _, by omega, by omega⟩, ?_⟩
        exact ⟨rfl, _, ⟨by rw [strRep_len, len_one]; omega, by rw [strRep_len, len_one]; omega, az_rep (az_one hsbO) _⟩, rfl⟩
      rintro σ' H' ⟨rfl, wd, hwd, rfl⟩
      refine ⟨Mid, ?_, ?_⟩
      · (repeat (first | refine ⟨_, rfl, ?_⟩ | refine ⟨_, _, rfl, rfl, ?_⟩ | refine ⟨(by show (0 : Int) < _; decide), ?_⟩ | refine ⟨⟨by decide, by decide⟩, ?_⟩ | refine ⟨.inr (by decide), ?_⟩ | refine ⟨.inl (by decide), ?_⟩ | refine ⟨rfl, ?_⟩))
        refine ite2 (fun _ => ?_) (fun _ => iteF ⟨rfl, _, hwd, rfl⟩)
        (repeat (first | refine ⟨_, rfl, ?_⟩ | refine ⟨_, _, rfl, rfl, ?_⟩ | refine ⟨(by show (0 : Int) < _; decide), ?_⟩ | refine ⟨⟨by decide, by decide⟩, ?_⟩ | refine ⟨.inr (by decide), ?_⟩ | refine ⟨.inl (by decide), ?_⟩ | refine ⟨rfl, ?_⟩))
        refine ite2 (fun _ => ?_) (fun _ => ⟨rfl, _, hwd, rfl⟩)
        obtain ⟨s3, hs3, hs3O⟩ := sign_at ((c / 64 + (0 + (i : Int)) - 7) % 26) (Int.emod_nonneg _ (by decide)) (Int.emod_lt_of_pos _ (by decide))
        (repeat (first | refine ⟨_, rfl, ?_⟩ | refine ⟨_, _, rfl, rfl, ?_⟩ | refine ⟨(by show (0 : Int) < _; decide), ?_⟩ | refine ⟨⟨by decide, by decide⟩, ?_⟩ | refine ⟨.inr (by decide), ?_⟩ | refine ⟨.inl (by decide), ?_⟩ | refine ⟨rfl, ?_⟩))
        refine ⟨_, _, s3, rfl, rfl, (by decide +kernel), hs3, ?_⟩
        (repeat (first | refine ⟨_, rfl, ?_⟩ | refine ⟨_, _, rfl, rfl, ?_⟩ | refine ⟨(by show (0 : Int) < _; decide), ?_⟩ | refine ⟨⟨by decide, by decide⟩, ?_⟩ | refine ⟨.inr (by decide), ?_⟩ | refine ⟨.inl (by decide), ?_⟩ | refine ⟨rfl, ?_⟩))
        have := hm0 (0 + (i : Int))
        refine ⟨⟨len1000 _, by omega, by omega⟩, ?_⟩
        (repeat (first | refine ⟨_, rfl, ?_⟩ | refine ⟨_, _, rfl, rfl, ?_⟩ | refine ⟨(by show (0 : Int) < _; decide), ?_⟩ | refine ⟨⟨by decide, by decide⟩, ?_⟩ | refine ⟨.inr (by decide), ?_⟩ | refine ⟨.inl (by decide), ?_⟩ | refine ⟨rfl, ?_⟩))
        refine ⟨szl (by rw [strRep_len, len_one, len_one]; omega), ?_⟩
        exact ⟨rfl, _, ⟨by rw [app_len, strRep_len, len_one, len_one]; omega, by rw [app_len, strRep_len, len_one, len_one]; omega, az_app (az_one hs3O) (az_rep (az_one hsbO) _)⟩, rfl⟩
      rintro σ' H' ⟨rfl, wd, hwd, rfl⟩
      -- found.append(word)
      (repeat (first | refine ⟨_, rfl, ?_⟩ | refine ⟨_, _, rfl, rfl, ?_⟩ | refine ⟨(by show (0 : Int) < _; decide), ?_⟩ | refine ⟨⟨by decide, by decide⟩, ?_⟩ | refine ⟨.inr (by decide), ?_⟩ | refine ⟨.inl (by decide), ?_⟩ | refine ⟨rfl, ?_⟩))
      refine ⟨.inl ⟨rfl, _, .inl (.inl ho)⟩, ?_⟩
      (repeat (first | refine ⟨_, rfl, ?_⟩ | refine ⟨_, _, rfl, rfl, ?_⟩ | refine ⟨(by show (0 : Int) < _; decide), ?_⟩ | refine ⟨⟨by decide, by decide⟩, ?_⟩ | refine ⟨.inr (by decide), ?_⟩ | refine ⟨.inl (by decide), ?_⟩ | refine ⟨rfl, ?_⟩))
      refine ⟨o, _, _, rfl, rfl, ho, (by rw [List.length_map]; exact small1000 (by omega)), ?_⟩
      refine ⟨_, _, _, ws ++ [wd], rfl, ?_, ?_, ?_, ?_⟩
      · rw [List.length_append, hl]
        rfl
      · intro z hz
        rcases List.mem_append.mp hz with z1 | z1
        · exact hw z z1
        · rw [List.mem_singleton.mp z1]
          exact hwd
      · exact fun b x e => by
          rw [upd_ne (ne_of_none e no)]
          exact sm b x e
      · rw [upd_same, List.map_append]
        rfl
    · rintro σ H2 ⟨v8, v9, v10, ws, rfl, hl, hw, sm, ho⟩
      (repeat (first | refine ⟨_, rfl, ?_⟩ | refine ⟨_, _, rfl, rfl, ?_⟩ | refine ⟨(by show (0 : Int) < _; decide), ?_⟩ | refine ⟨⟨by decide, by decide⟩, ?_⟩ | refine ⟨.inr (by decide), ?_⟩ | refine ⟨.inl (by decide), ?_⟩ | refine ⟨rfl, ?_⟩))
      exact q H2 o ws sm no ho (by rw [hl]; rfl) hw
end
end MK


set_option Elab.async false
set_option linter.all false
set_option maxRecDepth 100000
set_option maxHeartbeats 4000000
namespace MK
open PySem PySem.Spec PyProof.Rows L2
section
variable {P : Program} {w : World} {K : PySem.W.Frag} {mg : Str → Option Value} {base : Heap}
/-! ### _law_made -/
def spMade : Sp := fun vs H Q _ => ∃ (d : Addr) (m : Ms), vs = [.ref d] ∧ H d = some (.dK (enc m)) ∧ (m.map (·.1)).Nodup ∧ m.length ≤ 10000 ∧
  ∀ (H' : Hp) (p : Addr) (r : Ms), Same H H' → H p = none → MsN H' p r → Can r → (∀ j, at0 r j = at0 m j) → Q (.ref p) H'
theorem scMade : FnScope ["_law_powers_here", "_law_letter"] ["_law_powers_here"] (defScope sMade) := ⟨rfl, rfl, rfl, by decide +kernel, rfl, by decide +kernel, by decide +kernel⟩
theorem ok_made {f : Addr} {fd : FuncData} (F : Fun K "_law_made" "_law_made" sMade f fd) (mt : mg "tuple" = none) (ms : mg "sorted" = none) : FnOk P w K mg base CX0 1 f fd ["_law_powers_here"] spMade := by
  refine F.ok scMade (fun vs H Q E h => ?_) (fun cdv A outer s H vs Q E hr h => ?_)
  · obtain ⟨d, m, rfl, _⟩ := h
    rfl
  · obtain ⟨d, m, rfl, hd, hn, hl, q⟩ := h
    have nd := scMade.nd
    have hu := hu_of hr
    refine ⟨_, pss_one (ps_ret (pe_callTy call_tupleN rfl mt boot_tuple (pa_cons
      (pe_lc (own := [("_law_letter", 1)]) (g := gName 1) rfl nd (pi_list (pe_callB (call_sortedDA rfl) rfl ms boot_sorted (pa_cons (pv 0) pa_nil)))
        (blkOk_by (N := ["_law_powers_here", "_law_letter"]) (sc := defScope sMade) (by decide +kernel)) (fun _ _ _ _ _ => pg_name (i := 1) nd rfl (Or.inl rfl))
        (fun _ _ _ _ _ => pts_one (pt_cmpR op_ne (pe_dget hu (pv 0) (pv 1) (fun _ _ => rfl)) pe_int (nomark _)))
        (fun _ _ _ _ _ => pe_tup (pa_cons (pv 1) (pa_cons (pe_dget hu (pv 0) (pv 1) (fun _ _ => rfl)) pa_nil)))) pa_nil))), ?_⟩
    (repeat (first | refine ⟨_, rfl, ?_⟩ | refine ⟨_, _, rfl, rfl, ?_⟩ | refine ⟨(by show (0 : Int) < _; decide), ?_⟩ | refine ⟨⟨by decide, by decide⟩, ?_⟩ | refine ⟨.inr (by decide), ?_⟩ | refine ⟨.inl (by decide), ?_⟩ | refine ⟨rfl, ?_⟩))
    refine ⟨d, enc m, m.map (·.1), rfl, .inl hd, encG_keys _ _, fun ys p hp hso np => ?_⟩
    have sp : Same H (upd H p (.lst (ys.map V.str))) := same_new np
    have hlen : ys.length = m.length := by rw [hp.length_eq, List.length_map]
    have fin := made_law hn hp (sortedS_pw hso)
    refine ⟨p, rfl, ⟨_, SqL.of upd_same⟩, fun D nD => ?_⟩
    have nDH : H D = none := sp.free nD
    have nDp : p ≠ D := ne_of_none upd_same nD
    refine lc_list (xs := ys.map V.str) (fun i H2 => Same H H2 ∧ H2 p = some (.lst (ys.map V.str)) ∧ ∃ ts : List Addr, H2 D = some (.lst (ts.map V.ref)) ∧ Paired (PrAt H2) ts (byKeys m (ys.take i)) ∧ ts.length ≤ i)
      ⟨sp.trans (same_new nD), upd_other upd_same nD, [], upd_same, .nil, Nat.le_refl _⟩ (fun i H2 _ z => SqL.of z.2.1) ?_ ?_
    · rintro i x H2 hx ⟨s2, hp2, ts, hD, pr, hts⟩
      obtain ⟨k, hk, rfl⟩ := at_map hx
      have hi : i < ys.length := (List.getElem?_eq_some_iff.mp hk).1
      have hm : k ∈ m.map (·.1) := hp.mem_iff.mp (List.mem_of_getElem? hk)
      refine ⟨rfl, ?_⟩
      (repeat (first | refine ⟨_, rfl, ?_⟩ | refine ⟨_, _, rfl, rfl, ?_⟩ | refine ⟨(by show (0 : Int) < _; decide), ?_⟩ | refine ⟨⟨by decide, by decide⟩, ?_⟩ | refine ⟨.inr (by decide), ?_⟩ | refine ⟨.inl (by decide), ?_⟩ | refine ⟨rfl, ?_⟩))
      refine ⟨d, _, rfl, dget_enc (s2 _ _ hd) hm, ?_⟩
      (repeat (first | refine ⟨_, rfl, ?_⟩ | refine ⟨_, _, rfl, rfl, ?_⟩ | refine ⟨(by show (0 : Int) < _; decide), ?_⟩ | refine ⟨⟨by decide, by decide⟩, ?_⟩ | refine ⟨.inr (by decide), ?_⟩ | refine ⟨.inl (by decide), ?_⟩ | refine ⟨rfl, ?_⟩))
      refine ite2 (fun e => ?_) (fun e => ?_)
      · have e1 : at0 m k ≠ 0 := by simpa using e
        (repeat (first | refine ⟨_, rfl, ?_⟩ | refine ⟨_, _, rfl, rfl, ?_⟩ | refine ⟨(by show (0 : Int) < _; decide), ?_⟩ | refine ⟨⟨by decide, by decide⟩, ?_⟩ | refine ⟨.inr (by decide), ?_⟩ | refine ⟨.inl (by decide), ?_⟩ | refine ⟨rfl, ?_⟩))
        refine ⟨d, _, rfl, dget_enc (s2 _ _ hd) hm, ?_⟩
        refine ⟨(by show 2 ≤ sizeLine; decide), fun t nt => ?_⟩
        have ntD : D ≠ t := ne_of_none hD nt
        refine ⟨_, upd_other hD nt, ?_, same_upd (s2.trans (same_new nt)) nDH, ?_, ts ++ [t], ?_, ?_, ?_⟩
        · rw [List.length_map]
          exact Nat.lt_of_le_of_lt (Nat.le_trans hts (by omega : i ≤ 10000)) (by decide)
        · rw [upd_ne nDp]
          exact upd_other hp2 nt
        · rw [upd_same, List.map_append]
          rfl
        · rw [byKeys_yes hk e1]
          exact pr_list (upd_other hD nt) (Paired.snoc (pr_same (same_new nt) pr) upd_same)
        · rw [List.length_append]
          exact Nat.add_le_add_right hts 1
      · have e1 : at0 m k = 0 := by simpa using e
        refine ⟨s2, hp2, ts, hD, ?_, by omega⟩
        rw [byKeys_no hk e1]
        exact pr
    · rintro H2 ⟨s2, hp2, ts, hD, pr, hts⟩
      (repeat (first | refine ⟨_, rfl, ?_⟩ | refine ⟨_, _, rfl, rfl, ?_⟩ | refine ⟨(by show (0 : Int) < _; decide), ?_⟩ | refine ⟨⟨by decide, by decide⟩, ?_⟩ | refine ⟨.inr (by decide), ?_⟩ | refine ⟨.inl (by decide), ?_⟩ | refine ⟨rfl, ?_⟩))
      refine ⟨D, ts.map V.ref, rfl, SqL.of hD, fun l o nl dn => ?_⟩
      rw [List.length_map, List.take_length] at pr
      exact q _ l _ (s2.trans (same_new nl)) (s2.free nl) ⟨ts, ⟨o, upd_same, dn⟩, pr_same (same_new nl) pr⟩ fin.1 fin.2
end
end MK


set_option Elab.async false
set_option linter.all false
set_option maxRecDepth 100000
set_option maxHeartbeats 4000000
namespace MK
open PySem PySem.Spec PyProof.Rows L2
section
variable {P : Program} {w : World} {K : PySem.W.Frag} {mg : Str → Option Value} {base : Heap}
/-! ### _law_small -/
def spSmall : Sp := fun vs H Q _ => ∃ (c : Int) (a : Addr) (ws : List Str), vs = [.int c, .ref a] ∧ 0 ≤ c ∧ H a = some (.lst (ws.map V.str)) ∧ ws ≠ [] ∧ ws.length ≤ 1000 ∧
  ∀ (H' : Hp) (p : Addr) (r : Ms), Same H H' → H p = none → MsN H' p r → Can r → r.length ≤ 3 → (∀ x ∈ r, x.1 ∈ ws ∧ x.2.natAbs ≤ 20) → Q (.ref p) H'
theorem scSmall : FnScope ["_law_cell", "_law_letters", "_law_powers_here", "_law_k", "_law_more", "_law_many_here"] ["_law_cell", "_law_letters"] (defScope sSmall) := ⟨rfl, rfl, rfl, by decide +kernel, rfl, by decide +kernel, by decide +kernel⟩
theorem ok_small {f fX fM : Addr} {fd fdX fdM : FuncData} (F : Fun K "_law_small" "_law_small" sSmall f fd) (FX : Fun K "_law_mix" "_law_mix" sMix fX fdX) (bX : Binds K fdX ["_law_cell", "_law_k"] []) (gX : mg "_law_mix" = some (.ref fX))
    (FM : Fun K "_law_made" "_law_made" sMade fM fdM) (bM : Binds K fdM ["_law_powers_here"] []) (gM : mg "_law_made" = some (.ref fM))
    (mr : mg "range" = none) (ml : mg "len" = none) (mt : mg "tuple" = none) (ms : mg "sorted" = none) : FnOk P w K mg base CX0 2 f fd ["_law_cell", "_law_letters"] spSmall := by
  have GX : FnOk P w K mg base CX0 1 fX fdX ["_law_cell", "_law_k"] spMix := ok_mix FX
  have GM : FnOk P w K mg base CX0 1 fM fdM ["_law_powers_here"] spMade := ok_made FM mt ms
  refine F.ok scSmall (fun vs H Q E h => ?_) (fun cdv A outer s H vs Q E hr h => ?_)
  · obtain ⟨c, a, ws, rfl, _⟩ := h
    rfl
  · obtain ⟨c, a, ws, rfl, h0, ha, hw0, hwl, q⟩ := h
    have nd := scSmall.nd
    have hu := hu_of hr
    refine ⟨_, pss_cons (ps_set (i := 2) nd rfl (.inl rfl) pe_dnewK)
      (pss_cons (ps_for PassesOwn.never rfl (pi_range1 rfl mr (pa_cons (pe_op op_mod (pv 0) pe_int) pa_nil)) (pg_name (i := 3) nd rfl (.inl rfl))
        (pss_cons (ps_set (i := 4) nd rfl (.inl rfl) (pe_call GX hr (by rfl) gX FX.kp bX .nil pass0 (pa_cons (pv 0) (pa_cons (pv 3) pa_nil))))
        (pss_cons (ps_set (i := 5) nd rfl (.inl rfl) (pe_ix ix_list (pe_lst (pa_cons (pe_op op_sub (pe_op op_mod (pe_op op_fdiv (pv 4) (pe_callB call_len_seq (by rfl) ml PySem.boot_len (pa_cons (pv 1) pa_nil))) pe_int) pe_int)
            (pa_cons (pe_op op_sub (pe_op op_mod (pe_op op_fdiv (pv 4) pe_int) pe_int) pe_int) pa_nil))) (pe_op op_fdiv (pe_op op_mod (pe_op op_fdiv (pv 4) pe_int) pe_int) pe_int) (fun _ _ => rfl)))
        (pss_one (ps_dput hu (pv 2) (pe_ix ix_list (pv 1) (pe_op op_mod (pv 4) (pe_callB call_len_seq (by rfl) ml PySem.boot_len (pa_cons (pv 1) pa_nil))) (fun _ _ => rfl)) (pv 5) rfl)))))
      (pss_one (ps_ret (pe_call GM hr (by rfl) gM FM.kp bM .nil pass0 (pa_cons (pv 2) pa_nil))))), ?_⟩
    intro d nd0
    have hc4 : 0 ≤ c % 4 ∧ c % 4 < 4 := ⟨Int.emod_nonneg _ (by decide), Int.emod_lt_of_pos _ (by decide)⟩
    refine ⟨_, rfl, _, _, rfl, rfl, (by show (0 : Int) < 4; decide), _, rfl, by omega, by omega, ?_⟩
    have hwlen : (0 : Int) < ((ws.map V.str).length : Int) := by
      rw [List.length_map]
      have := List.length_pos_iff.mpr hw0
      omega
    have hwlen2 : ((ws.map V.str).length : Int) ≤ 1000 := by
      rw [List.length_map]
      omega
    refine for_range (n := (c % 4).toNat) (fun i σ H2 => ∃ (v3 v4 v5 : Option V) (m : Ms), σ = [some (.int c), some (.ref a), some (.ref d), v3, v4, v5] ∧ Same H H2 ∧ H2 d = some (.dK (enc m)) ∧ (m.map (·.1)).Nodup ∧ m.length ≤ i ∧ ∀ p ∈ m, p.1 ∈ ws ∧ p.2.natAbs ≤ 20)
      ⟨none, none, none, [], rfl, same_new nd0, upd_same, List.nodup_nil, Nat.le_refl _, (fun p hp => absurd hp (by simp))⟩ ?_ ?_
    · rintro i σ H2 hi ⟨v3, v4, v5, m, rfl, sm, hd, hn, hml, hmw⟩
      refine ⟨_, rfl, _, rfl, c, 0 + (i : Int), rfl, fun x hx0 hx1 => ?_⟩
      have haH := sm _ _ ha
      refine ⟨_, rfl, _, rfl, a, _, rfl, .inl (SqL.of haH), _, _, rfl, rfl, ⟨hwlen, by omega⟩, _, _, rfl, rfl, (by show (0 : Int) < 5; decide), _, _, rfl, rfl, ?_⟩
      refine ⟨_, rfl, _, _, rfl, rfl, ⟨by decide, by decide⟩, _, _, rfl, rfl, (by show (0 : Int) < 41; decide), _, _, rfl, rfl, (by show 2 ≤ sizeLine; decide), fun l nl => ?_⟩
      refine ⟨_, rfl, _, _, rfl, rfl, ⟨by decide, by decide⟩, _, _, rfl, rfl, (by show (0 : Int) < 9; decide), _, _, rfl, rfl, ⟨by decide, by decide⟩, ?_⟩
      obtain ⟨u, hu1, hu2⟩ := two_val (a := V.int (x / ((ws.map V.str).length : Int) % 5 - 2)) (b := V.int (x / 256 % 41 - 20)) (i := x / 16 % 9 / 8) (by omega) (by omega)
      obtain ⟨y, rfl, hy⟩ : ∃ y : Int, u = .int y ∧ y.natAbs ≤ 20 := by
        have h1 : 0 ≤ x / ((ws.map V.str).length : Int) % 5 := Int.emod_nonneg _ (by decide)
        have h2 : x / ((ws.map V.str).length : Int) % 5 < 5 := Int.emod_lt_of_pos _ (by decide)
        rcases hu2 with e | e
        · refine ⟨_, e, ?_⟩
          generalize x / ((ws.map V.str).length : Int) % 5 = t at h1 h2
          omega
        · exact ⟨_, e, by omega⟩
      have s2 : Same H2 (upd H2 l (.lst [V.int (x / ((ws.map V.str).length : Int) % 5 - 2), V.int (x / 256 % 41 - 20)])) := same_new nl
      have haL := s2 _ _ haH
      have hdL := s2 _ _ hd
      refine ⟨l, _, _, _, rfl, rfl, SqL.of upd_same, hu1, ?_⟩
      obtain ⟨z, hz, ez⟩ := mod_at hw0 x
      refine ⟨_, rfl, _, rfl, _, rfl, _, rfl, _, rfl, a, _, rfl, .inl (SqL.of haL), _, _, rfl, rfl, hwlen, a, _, _, _, rfl, rfl, SqL.of haL, ez, ?_⟩
      refine ⟨d, _, rfl, dput_enc hdL hn (small1000 (by omega)), ?_⟩
      refine ⟨_, _, _, put m z y, rfl, same_upd (sm.trans s2) nd0, upd_same, put_nodup _ _ hn, Nat.le_trans (put_len _ _ _) (by omega), ?_⟩
      intro p hp
      rcases put_mem hp with e | e
      · rw [e]; exact ⟨hz, hy⟩
      · exact hmw p e
    · rintro σ H2 ⟨v3, v4, v5, m, rfl, sm, hd, hn, hml, hmw⟩
      refine ⟨_, rfl, d, m, rfl, hd, hn, by omega, fun H3 p r s3 np hp hc he => ?_⟩
      exact q H3 p r (sm.trans s3) (sm.free np) hp hc (Nat.le_trans (made_few hc he) (by omega)) (fun x hx => hmw x (made_in hc he x hx))
end
end MK


set_option Elab.async false
set_option linter.all false
set_option maxRecDepth 100000
set_option maxHeartbeats 4000000
namespace MK
open PySem PySem.Spec PyProof.Rows L2
section
variable {P : Program} {w : World} {K : PySem.W.Frag} {mg : Str → Option Value} {base : Heap}
/-! ### _law_shared, _law_lowest, _law_number -/
theorem scShared : FnScope ["_law_one", "_law_other", "_law_rest"] ["_law_one", "_law_other"] (defScope sShared) := ⟨rfl, rfl, rfl, by decide +kernel, rfl, by decide +kernel, by decide +kernel⟩
theorem scLowest : FnScope ["_law_above", "_law_below", "_law_most"] ["_law_above", "_law_below"] (defScope sLowest) := ⟨rfl, rfl, rfl, by decide +kernel, rfl, by decide +kernel, by decide +kernel⟩
theorem scNumber : FnScope ["_law_cell"] ["_law_cell"] (defScope sNumber) := ⟨rfl, rfl, rfl, by decide +kernel, rfl, by decide +kernel, by decide +kernel⟩
def spShared : Sp := fun vs H Q _ => ∃ a b : Nat, vs = [.int a, .int b] ∧ Q (.int ((Nat.gcd a b : Nat) : Int)) H
theorem ok_shared {f : Addr} {fd : FuncData} (F : Fun K "_law_shared" "_law_shared" sShared f fd) : FnOk P w K mg base CX0 1 f fd ["_law_one", "_law_other"] spShared := by
  refine F.ok scShared (fun vs H Q E h => ?_) (fun cdv A outer s H vs Q E hr h => ?_)
  · obtain ⟨a, b, rfl, _⟩ := h
    rfl
  · obtain ⟨a, b, rfl, q⟩ := h
    have nd := scShared.nd
    refine ⟨_, pss_cons (ps_while PassesOwn.never (pt_cmpR op_ne (pv 1) pe_int (nomark _)) (pss_cons (ps_set (i := 2) nd rfl (.inl rfl) (pe_op op_mod (pv 0) (pv 1)))
      (pss_cons (ps_set (i := 0) nd rfl (.inl rfl) (pv 1)) (pss_one (ps_set (i := 1) nd rfl (.inl rfl) (pv 2)))))) (pss_one (ps_ret (pv 0))), ?_⟩
    refine ⟨fun m σ H' => ∃ (u v : Nat) (r : Option V), m = v ∧ σ = [some (.int u), some (.int v), r] ∧ H' = H ∧ Nat.gcd u v = Nat.gcd a b, ⟨_, a, b, none, rfl, rfl, rfl, rfl⟩, ?_⟩
    rintro m σ H' ⟨u, v, r, em, rfl, rfl, g⟩
    refine ⟨_, rfl, rfl, _, rfl, ?_⟩
    by_cases v0 : v = 0
    · have e : (!decide (V.int (v : Int) = V.int 0)) = false := by rw [v0]; rfl
      rw [e]
      rw [v0, Nat.gcd_zero_right] at g
      refine ⟨_, rfl, ?_⟩
      rw [g]
      exact q
    · have e : (!decide (V.int (v : Int) = V.int 0)) = true := by
        rw [decide_eq_false (fun z => v0 (by have := V.int.inj z; omega))]
        rfl
      rw [e]
      refine ⟨fun σ' H'' => ∃ (u' v' : Nat) (r : Option V), v' < v ∧ σ' = [some (.int u'), some (.int v'), r] ∧ H'' = H' ∧ Nat.gcd u' v' = Nat.gcd a b, fun σ' H'' ⟨u', v', r, h1, h2, h3, h4⟩ => ⟨_, by rw [em]; exact h1, u', v', r, rfl, h2, h3, h4⟩, ?_⟩
      refine ⟨_, rfl, _, rfl, _, _, rfl, rfl, (by omega), _, rfl, _, rfl, ?_⟩
      refine ⟨v, u % v, _, Nat.mod_lt _ (by omega), rfl, rfl, ?_⟩
      rw [← g, Nat.gcd_comm v, ← Nat.gcd_rec, Nat.gcd_comm]
/-- x over y, divided by what both have: a new pair -/
def spLowest : Sp := fun vs H Q _ => ∃ (x y : Int) (k : Nat), vs = [.int x, .int y] ∧ y ≠ 0 ∧ Sm k y ∧ k ≤ 8000 ∧ ∀ p, H p = none → Q (.ref p) (upd H p (.tup [.int (norm x y).1, .int (norm x y).2]))
theorem ok_lowest {f fS : Addr} {fd fdS : FuncData} (F : Fun K "_law_lowest" "_law_lowest" sLowest f fd) (FS : Fun K "_law_shared" "_law_shared" sShared fS fdS) (bS : Binds K fdS ["_law_one", "_law_other"] []) (gS : mg "_law_shared" = some (.ref fS)) (ma : mg "abs" = none) :
    FnOk P w K mg base CX0 2 f fd ["_law_above", "_law_below"] spLowest := by
  have GS : FnOk P w K mg base CX0 1 fS fdS ["_law_one", "_law_other"] spShared := ok_shared FS
  refine F.ok scLowest (fun vs H Q E h => ?_) (fun cdv A outer s H vs Q E hr h => ?_)
  · obtain ⟨x, y, _, rfl, _⟩ := h
    rfl
  · obtain ⟨x, y, k, rfl, y0, by', hk, q⟩ := h
    have nd := scLowest.nd
    refine ⟨_, pss_cons (ps_set (i := 2) nd rfl (.inl rfl) (pe_call GS hr (by rfl) gS FS.kp bS .nil pass0 (pa_cons (pe_callB call_abs (by rfl) ma PyProof.Rows.boot_abs (pa_cons (pv 0) pa_nil)) (pa_cons (pe_callB call_abs (by rfl) ma PyProof.Rows.boot_abs (pa_cons (pv 1) pa_nil)) pa_nil))))
      (Evl.pss_cut (ps_if (pt_cmpR op_lt (pv 1) pe_int (nomark _)) (pss_one (ps_set (i := 2) nd rfl (.inl rfl) (pe_op op_sub pe_int (pv 2)))) pss_nil)
      (pss_one (ps_ret (pe_tup (pa_cons (pe_op op_fdivWN (pv 0) (pv 2)) (pa_cons (pe_op op_fdivWN (pv 1) (pv 2)) pa_nil)))))), ?_⟩
    refine ⟨_, rfl, _, rfl, _, rfl, _, rfl, x.natAbs, y.natAbs, by rw [abs_natI, abs_natI]; rfl, ?_⟩
    refine ⟨fun σ' H' => σ' = [some (.int x), some (.int y), some (.int (cut x y))] ∧ H' = H, ?_, ?_⟩
    · refine ⟨_, rfl, _, _, rfl, rfl, _, rfl, ite2 (fun e => ?_) (fun e => ?_)⟩
      · have e1 : y < 0 := of_decide_eq_true e
        refine ⟨_, rfl, _, _, rfl, rfl, ?_, rfl⟩
        unfold cut
        rw [if_pos e1, ← Int.zero_sub]
        rfl
      · have e1 : ¬ y < 0 := fun z => e (decide_eq_true z)
        refine ⟨?_, rfl⟩
        unfold cut
        rw [if_neg e1]
        rfl
    · rintro σ' H' ⟨rfl, rfl⟩
      have c0 := cut_ne (x := x) y0
      have cd : CDivWN 0 (cut x y) := (by'.le (cut_le (x := x) y0)).div c0 hk
      refine ⟨_, rfl, _, rfl, _, _, rfl, rfl, divN_any cd, _, rfl, _, rfl, _, _, rfl, rfl, divN_any cd, (by show 2 ≤ sizeLine; decide), fun p np => ?_⟩
      exact q p np
/-- a drawn number: its place is new or not told -/
def spNumber : Sp := fun vs H Q _ => ∃ c : Int, vs = [.int c] ∧ 0 ≤ c ∧ ∀ (H' : Hp) (p : Addr) (u v : Int), Same H H' → H p = none → FracAt H' p u v → Red u v → u.natAbs ≤ 10 ^ 9 → v ≤ 10 ^ 9 → Q (.ref p) H'
theorem ok_number {f fO fS : Addr} {fd fdO fdS : FuncData} (F : Fun K "_law_number" "_law_number" sNumber f fd) (FO : Fun K "_law_lowest" "_law_lowest" sLowest fO fdO) (bO : Binds K fdO ["_law_above", "_law_below"] []) (gO : mg "_law_lowest" = some (.ref fO))
    (FS : Fun K "_law_shared" "_law_shared" sShared fS fdS) (bS : Binds K fdS ["_law_one", "_law_other"] []) (gS : mg "_law_shared" = some (.ref fS)) (ma : mg "abs" = none) : FnOk P w K mg base CX0 3 f fd ["_law_cell"] spNumber := by
  have GO : FnOk P w K mg base CX0 2 fO fdO ["_law_above", "_law_below"] spLowest := ok_lowest FO FS bS gS ma
  refine F.ok scNumber (fun vs H Q E h => ?_) (fun cdv A outer s H vs Q E hr h => ?_)
  · obtain ⟨c, rfl, _⟩ := h
    rfl
  · obtain ⟨c, rfl, c0, q⟩ := h
    have end_ : ∀ (x y : Int), y ≠ 0 → x.natAbs ≤ 10 ^ 9 → y.natAbs ≤ 10 ^ 9 → spLowest [.int x, .int y] H Q E := fun x y y0 hx hy =>
      ⟨x, y, 30, rfl, y0, sm30 hy, by decide, fun p np => by
        have l1 := (cut_ok (x := x) y0).2.2.1
        have l2 := (cut_ok (x := x) y0).2.2.2
        have r := norm_red (x := x) y0
        refine q _ p _ _ (same_new np) np upd_same r (Nat.le_trans l1 hx) ?_
        have l3 : (norm x y).2.natAbs ≤ 10 ^ 9 := Nat.le_trans l2 hy
        have := r.1
        omega⟩
    refine ⟨_, pss_cons (ps_if (pt_cmpR op_lt (pe_op op_mod (pv 0) pe_int) pe_int (nomark _)) (pss_one (ps_ret (pe_call GO hr (by rfl) gO FO.kp bO .nil pass0 (pa_cons (pe_op op_sub (pe_op op_mod (pe_op op_fdiv (pv 0) pe_int) pe_int) pe_int) (pa_cons (pe_op op_add pe_int (pe_op op_mod (pe_op op_fdiv (pv 0) pe_int) pe_int)) pa_nil))))) pss_nil)
      (pss_cons (ps_if (pt_cmpR op_eq (pe_op op_mod (pv 0) pe_int) pe_int (nomark _)) (pss_one (ps_ret (pe_tup (pa_cons pe_int (pa_cons pe_int pa_nil))))) pss_nil)
      (pss_one (ps_ret (pe_call GO hr (by rfl) gO FO.kp bO .nil pass0 (pa_cons
        (pe_op op_sub (pe_op op_mod (pe_op op_mul (pe_op op_fdiv (pv 0) (pe_op op_pow pe_int pe_int)) pe_int) (pe_op op_add (pe_op op_mul pe_int (pe_op op_pow pe_int pe_int)) pe_int)) (pe_op op_pow pe_int pe_int))
        (pa_cons (pe_op op_add pe_int (pe_op op_mod (pe_op op_fdiv (pv 0) pe_int) (pe_op op_pow pe_int pe_int))) pa_nil)))))), ?_⟩
    refine ⟨_, rfl, _, _, rfl, rfl, (by show (0 : Int) < 6; decide), _, _, rfl, rfl, _, rfl, ite2 (fun _ => ?_) (fun _ => ?_)⟩
    · refine ⟨_, rfl, _, _, rfl, rfl, ⟨by decide, by decide⟩, _, _, rfl, rfl, (by show (0 : Int) < 41; decide), _, _, rfl, rfl, ?_⟩
      refine ⟨_, rfl, _, _, rfl, rfl, ⟨by decide, by decide⟩, _, _, rfl, rfl, (by show (0 : Int) < 5; decide), _, _, rfl, rfl, ?_⟩
      have h1 : 0 ≤ c / 6 % 41 := Int.emod_nonneg _ (by decide)
      have h2 : c / 6 % 41 < 41 := Int.emod_lt_of_pos _ (by decide)
      have h3 : 0 ≤ c / 246 % 5 := Int.emod_nonneg _ (by decide)
      have h4 : c / 246 % 5 < 5 := Int.emod_lt_of_pos _ (by decide)
      exact end_ _ _ (by omega) (by omega) (by omega)
    · refine ⟨_, rfl, _, _, rfl, rfl, (by show (0 : Int) < 6; decide), rfl, _, rfl, ite2 (fun _ => ?_) (fun _ => ?_)⟩
      · exact ⟨(by show 2 ≤ sizeLine; decide), fun p np => q _ p 0 1 (same_new np) np upd_same ⟨by decide, by decide⟩ (by decide) (by decide)⟩
      · refine ⟨_, rfl, _, _, rfl, rfl, ⟨by decide, by decide, by decide⟩, _, _, rfl, rfl, ⟨by decide, by decide⟩, _, _, rfl, rfl, .inr (by decide), _, _, rfl, rfl, ⟨by decide, by decide, by decide⟩, _, _, rfl, rfl, .inl (by decide), _, _, rfl, rfl, _, _, rfl, rfl, (by show (0 : Int) < 2 * 10 ^ 9 + 1; decide), _, _, rfl, rfl, ⟨by decide, by decide, by decide⟩, _, _, rfl, rfl, ?_⟩
        refine ⟨_, rfl, _, _, rfl, rfl, ⟨by decide, by decide⟩, _, _, rfl, rfl, ⟨by decide, by decide, by decide⟩, _, _, rfl, rfl, (by show (0 : Int) < 10 ^ 9; decide), _, _, rfl, rfl, ?_⟩
        have h1 : 0 ≤ c / 6 ^ 3 * 7 % (2 * 10 ^ 9 + 1) := Int.emod_nonneg _ (by decide)
        have h2 : c / 6 ^ 3 * 7 % (2 * 10 ^ 9 + 1) < 2 * 10 ^ 9 + 1 := Int.emod_lt_of_pos _ (by decide)
        have h3 : 0 ≤ c / 6 % 10 ^ 9 := Int.emod_nonneg _ (by decide)
        have h4 : c / 6 % 10 ^ 9 < 10 ^ 9 := Int.emod_lt_of_pos _ (by decide)
        have e1 : (c / 6 ^ 3 * 7 % (2 * 10 ^ 9 + 1) - 10 ^ 9).natAbs ≤ 10 ^ 9 := by
          generalize c / 6 ^ 3 * 7 % (2 * 10 ^ 9 + 1) = y at h1 h2
          omega
        have e2 : 1 + c / 6 % 10 ^ 9 ≠ 0 ∧ (1 + c / 6 % 10 ^ 9).natAbs ≤ 10 ^ 9 := by
          generalize c / 6 % 10 ^ 9 = y at h3 h4
          omega
        exact end_ _ _ e2.1 e1 e2.2
end
end MK


set_option Elab.async false
set_option linter.all false
set_option maxRecDepth 100000
set_option maxHeartbeats 4000000
namespace MK
open PySem PySem.Spec PyProof.Rows L2
section
variable {P : Program} {w : World} {K : PySem.W.Frag} {mg : Str → Option Value} {base : Heap}
/-! ### _law_leaf -/
theorem scLeaf : FnScope ["_law_cell", "_law_words_here", "_law_bases", "_law_more"] ["_law_cell", "_law_words_here", "_law_bases"] (defScope sLeaf) := ⟨rfl, rfl, rfl, by decide +kernel, rfl, by decide +kernel, by decide +kernel⟩
def spLeaf : Sp := fun vs H Q _ => ∃ (c : Int) (a b : Addr) (ws bs : List Str), vs = [.int c, .ref a, .ref b] ∧ 0 ≤ c ∧ NmsAt H a ws ∧ NmsAt H b bs ∧
  ∀ (H' : Hp) (p : Addr) (r : Rk), Same H H' → H p = none → TrAt H' r p → RkIn ws bs 1 0 r → Q (.ref p) H'
/-- what the leaf calls -/
structure LfT (K : PySem.W.Frag) (mg : Str → Option Value) where
  (fX fM fS fO fN fSm : Addr)
  (dX dM dS dO dN dSm : FuncData)
  FX : Fun K "_law_mix" "_law_mix" sMix fX dX
  FM : Fun K "_law_made" "_law_made" sMade fM dM
  FS : Fun K "_law_shared" "_law_shared" sShared fS dS
  FO : Fun K "_law_lowest" "_law_lowest" sLowest fO dO
  FN : Fun K "_law_number" "_law_number" sNumber fN dN
  FSm : Fun K "_law_small" "_law_small" sSmall fSm dSm
  gX : mg "_law_mix" = some (.ref fX)
  gM : mg "_law_made" = some (.ref fM)
  gS : mg "_law_shared" = some (.ref fS)
  gO : mg "_law_lowest" = some (.ref fO)
  gN : mg "_law_number" = some (.ref fN)
  gSm : mg "_law_small" = some (.ref fSm)
  mr : mg "range" = none
  ml : mg "len" = none
  mt : mg "tuple" = none
  ms : mg "sorted" = none
  ma : mg "abs" = none
theorem LfT.bX (T : LfT K mg) : Binds K T.dX ["_law_cell", "_law_k"] [] := T.FX.binds (ps := ["_law_cell", "_law_k"]) fun _ _ _ _ _ _ us hl => match us, hl with | [_, _], _ => rfl
theorem LfT.bM (T : LfT K mg) : Binds K T.dM ["_law_powers_here"] [] := T.FM.binds (ps := ["_law_powers_here"]) fun _ _ _ _ _ _ us hl => match us, hl with | [_], _ => rfl
theorem LfT.bS (T : LfT K mg) : Binds K T.dS ["_law_one", "_law_other"] [] := T.FS.binds (ps := ["_law_one", "_law_other"]) fun _ _ _ _ _ _ us hl => match us, hl with | [_, _], _ => rfl
theorem LfT.bO (T : LfT K mg) : Binds K T.dO ["_law_above", "_law_below"] [] := T.FO.binds (ps := ["_law_above", "_law_below"]) fun _ _ _ _ _ _ us hl => match us, hl with | [_, _], _ => rfl
theorem LfT.bN (T : LfT K mg) : Binds K T.dN ["_law_cell"] [] := T.FN.binds (ps := ["_law_cell"]) fun _ _ _ _ _ _ us hl => match us, hl with | [_], _ => rfl
theorem LfT.bSm (T : LfT K mg) : Binds K T.dSm ["_law_cell", "_law_letters"] [] := T.FSm.binds (ps := ["_law_cell", "_law_letters"]) fun _ _ _ _ _ _ us hl => match us, hl with | [_, _], _ => rfl
theorem ok_leaf {f : Addr} {fd : FuncData} (F : Fun K "_law_leaf" "_law_leaf" sLeaf f fd) (T : LfT K mg) : FnOk P w K mg base CX0 4 f fd ["_law_cell", "_law_words_here", "_law_bases"] spLeaf := by
  have GX : FnOk P w K mg base CX0 1 T.fX T.dX ["_law_cell", "_law_k"] spMix := ok_mix T.FX
  have GN : FnOk P w K mg base CX0 3 T.fN T.dN ["_law_cell"] spNumber := ok_number T.FN T.FO T.bO T.gO T.FS T.bS T.gS T.ma
  have GSm : FnOk P w K mg base CX0 2 T.fSm T.dSm ["_law_cell", "_law_letters"] spSmall := ok_small T.FSm T.FX T.bX T.gX T.FM T.bM T.gM T.mr T.ml T.mt T.ms
  refine F.ok scLeaf (fun vs H Q E h => ?_) (fun cdv A outer s H vs Q E hr h => ?_)
  · obtain ⟨c, a, b, ws, bs, rfl, _⟩ := h
    rfl
  · obtain ⟨c, a, b, ws, bs, rfl, h0, hw, hb, q⟩ := h
    have nd := scLeaf.nd
    have hr1 : Room 1 _ := hr.mono (by decide)
    have hr2 : Room 2 _ := hr.mono (by decide)
    refine ⟨_, pss_cons (ps_set (i := 3) nd rfl (.inl rfl) (pe_op op_fdiv (pv 0) pe_int))
      (pss_cons (ps_if (pt_cmpR op_lt (pe_op op_mod (pv 0) pe_int) pe_int (nomark _)) (pss_one (ps_ret (pe_tup (pa_cons pe_str (pa_cons (pe_ix ix_list (pv 1) (pe_op op_mod (pv 3) (pe_callB call_len_seq (by rfl) T.ml PySem.boot_len (pa_cons (pv 1) pa_nil))) (fun _ _ => rfl)) pa_nil))))) pss_nil)
      (pss_cons (ps_if (pt_cmpR op_eq (pe_op op_mod (pv 0) pe_int) pe_int (nomark _)) (pss_one (ps_ret (pe_tup (pa_cons pe_str pa_nil)))) pss_nil)
      (pss_one (ps_ret (pe_tup (pa_cons pe_str (pa_cons (pe_call GN hr (by rfl) T.gN T.FN.kp T.bN .nil pass0 (pa_cons (pe_call GX hr1 (by rfl) T.gX T.FX.kp T.bX .nil pass0 (pa_cons (pv 3) (pa_cons pe_int pa_nil))) pa_nil))
        (pa_cons (pe_call GSm hr2 (by rfl) T.gSm T.FSm.kp T.bSm .nil pass0 (pa_cons (pv 3) (pa_cons (pv 2) pa_nil))) pa_nil)))))))), ?_⟩
    have h6 : 0 ≤ c / 6 := by omega
    refine ⟨_, rfl, _, _, rfl, rfl, ⟨by decide, by decide⟩, _, rfl, _, _, rfl, rfl, (by show (0 : Int) < 6; decide), _, _, rfl, rfl, _, rfl, ite2 (fun _ => ?_) (fun _ => ?_)⟩
    · obtain ⟨z, hz, ez⟩ := mod_at hw.n (c / 6)
      have hl : (0 : Int) < ((ws.map V.str).length : Int) := by
        rw [List.length_map]
        have := List.length_pos_iff.mpr hw.n
        omega
      refine ⟨_, rfl, _, rfl, _, rfl, a, _, rfl, .inl (SqL.of hw.h), _, _, rfl, rfl, hl, a, _, _, _, rfl, rfl, SqL.of hw.h, ez, (by show 2 ≤ sizeLine; decide), fun p np => ?_⟩
      exact q _ p (.input z) (same_new np) np upd_same (.input (Nat.le_refl _) hz (hw.z z hz))
    · refine ⟨_, rfl, _, _, rfl, rfl, (by show (0 : Int) < 6; decide), rfl, _, rfl, ite2 (fun _ => ?_) (fun _ => ?_)⟩
      · exact ⟨(by show 1 ≤ sizeLine; decide), fun p np => q _ p .nought (same_new np) np upd_same (.nought (Nat.le_refl _))⟩
      · refine ⟨_, rfl, c / 6, 9, rfl, fun m m0 m1 => ⟨m, rfl, m0, fun H1 p1 x y s1 np1 hp1 red b1 b2 => ?_⟩⟩
        refine ⟨_, rfl, _, rfl, c / 6, b, bs, rfl, h6, s1 _ _ hb.h, hb.n, hb.l, fun H2 p2 mm s2 np2 hp2 hc hl2 hm => ?_⟩
        refine ⟨(by show 3 ≤ sizeLine; decide), fun p np => ?_⟩
        have s3 := same_new (o := .tup [.str "is", .ref p1, .ref p2]) np
        exact q _ p (.is x y mm) ((s1.trans s2).trans s3) ((s1.trans s2).free np) ⟨p1, p2, upd_same, s3 _ _ (s2 _ _ hp1), hp2.same s3⟩ (.is (Nat.le_refl _) red b1 b2 hc (by omega) hb.z hm)
/-! ### _law_tree -/
theorem scTree : FnScope ["_law_cell", "_law_depth", "_law_names", "_law_powers_here", "_law_way", "_law_one", "_law_two", "_law_three"] ["_law_cell", "_law_depth", "_law_names", "_law_powers_here"] (defScope sTree) := ⟨rfl, rfl, rfl, by decide +kernel, rfl, by decide +kernel, by decide +kernel⟩
/-- of n more levels -/
def spTree : Nat → Sp
  | 0 => spNo
  | n + 1 => fun vs H Q _ => ∃ (c d pw : Int) (t a b : Addr) (ws bs : List Str), vs = [.int c, .int d, .ref t, .int pw] ∧ 0 ≤ c ∧ d ≤ n ∧ H t = some (.tup [.ref a, .ref b]) ∧ NmsAt H a ws ∧ NmsAt H b bs ∧
    ∀ (H' : Hp) (p : Addr) (r : Rk), Same H H' → H p = none → TrAt H' r p → RkIn ws bs (1 + d.toNat) pw.toNat r → Q (.ref p) H'
theorem ok_tree {f fL : Addr} {fd fdL : FuncData} (F : Fun K "_law_tree" "_law_tree" sTree f fd) (bT : Binds K fd ["_law_cell", "_law_depth", "_law_names", "_law_powers_here"] []) (gT : mg "_law_tree" = some (.ref f))
    (FL : Fun K "_law_leaf" "_law_leaf" sLeaf fL fdL) (bL : Binds K fdL ["_law_cell", "_law_words_here", "_law_bases"] []) (gL : mg "_law_leaf" = some (.ref fL)) (T : LfT K mg) :
    ∀ n : Nat, FnOk P w K mg base CX0 (n + 4) f fd ["_law_cell", "_law_depth", "_law_names", "_law_powers_here"] (spTree n)
  | 0 => fn_no
  | n + 1 => by
    have GX : FnOk P w K mg base CX0 1 T.fX T.dX ["_law_cell", "_law_k"] spMix := ok_mix T.FX
    have GL : FnOk P w K mg base CX0 4 fL fdL ["_law_cell", "_law_words_here", "_law_bases"] spLeaf := ok_leaf FL T
    have GT := ok_tree F bT gT FL bL gL T n
    refine F.ok scTree (fun vs H Q E h => ?_) (fun cdv A outer s H vs Q E hr h => ?_)
    · obtain ⟨c, d, pw, t, a, b, ws, bs, rfl, _⟩ := h
      rfl
    · obtain ⟨c, d, pw, t, a, b, ws, bs, rfl, c0, hd, ht, hw, hb, q⟩ := h
      have nd := scTree.nd
      have hr1 : Room 1 _ := hr.mono (by omega)
      have hr4 : Room 4 _ := hr.mono (by omega)
      refine ⟨_, pss_cons (ps_set (i := 4) nd rfl (.inl rfl) (pe_op op_mod (pv 0) pe_int))
        (pss_cons (ps_if (pw_or (pt_cmpR op_lt (pv 1) pe_int (nomark _)) (pw_or1 (pt_cmpR op_lt (pv 4) pe_int (nomark _)))).pt
          (pss_one (ps_ret (pe_call GL hr4 (by rfl) gL FL.kp bL .nil pass0 (pa_cons (pe_op op_fdiv (pv 0) pe_int) (pa_cons (pe_ix ix_tup (pv 2) pe_int (fun _ _ => rfl)) (pa_cons (pe_ix ix_tup (pv 2) pe_int (fun _ _ => rfl)) pa_nil)))))) pss_nil)
        (pss_cons (ps_set (i := 5) nd rfl (.inl rfl) (pe_call GT hr (by rfl) gT F.kp bT .nil pass0 (pa_cons (pe_call GX hr1 (by rfl) T.gX T.FX.kp T.bX .nil pass0 (pa_cons (pv 0) (pa_cons pe_int pa_nil)))
          (pa_cons (pe_op op_sub (pv 1) pe_int) (pa_cons (pv 2) (pa_cons (pe_op op_sub (pv 3) (pe_op op_fdiv (pv 4) pe_int)) pa_nil))))))
        (pss_cons (ps_if (pw_and (pt_cmpR op_eq (pv 4) pe_int (nomark _)) (pw_and1 (pt_cmpR op_gt (pv 3) pe_int (nomark _)))).pt
          (pss_one (ps_ret (pe_tup (pa_cons pe_str (pa_cons (pv 5) (pa_cons (pe_op op_sub (pe_op op_mod (pe_op op_fdiv (pv 0) pe_int) pe_int) pe_int) pa_nil)))))) pss_nil)
        (pss_cons (ps_set (i := 6) nd rfl (.inl rfl) (pe_call GT hr (by rfl) gT F.kp bT .nil pass0 (pa_cons (pe_call GX hr1 (by rfl) T.gX T.FX.kp T.bX .nil pass0 (pa_cons (pv 0) (pa_cons pe_int pa_nil)))
          (pa_cons (pe_op op_sub (pv 1) pe_int) (pa_cons (pv 2) (pa_cons (pv 3) pa_nil))))))
        (pss_cons (ps_if (pt_cmpR op_eq (pv 4) pe_int (nomark _))
          (pss_cons (ps_set (i := 7) nd rfl (.inl rfl) (pe_call GT hr (by rfl) gT F.kp bT .nil pass0 (pa_cons (pe_call GX hr1 (by rfl) T.gX T.FX.kp T.bX .nil pass0 (pa_cons (pv 0) (pa_cons pe_int pa_nil)))
            (pa_cons (pe_op op_sub (pv 1) pe_int) (pa_cons (pv 2) (pa_cons (pv 3) pa_nil))))))
          (pss_one (ps_ret (pe_tup (pa_cons pe_str (pa_cons (pv 5) (pa_cons (pv 6) (pa_cons (pv 7) (pa_cons (pe_call GT hr (by rfl) gT F.kp bT .nil pass0 (pa_cons (pe_call GX hr1 (by rfl) T.gX T.FX.kp T.bX .nil pass0 (pa_cons (pv 0) (pa_cons pe_int pa_nil)))
            (pa_cons (pe_op op_sub (pv 1) pe_int) (pa_cons (pv 2) (pa_cons (pv 3) pa_nil))))) pa_nil))))))))) pss_nil)
        (pss_one (ps_ret (pe_tup (pa_cons (pe_ix ix_list (pe_lst (pa_cons pe_str (pa_cons pe_str (pa_cons pe_str (pa_cons pe_str pa_nil))))) (pe_op op_mod (pe_op op_fdiv (pv 0) pe_int) pe_int) (fun _ _ => rfl)) (pa_cons (pv 5) (pa_cons (pv 6) pa_nil))))))))))), ?_⟩
      have t0 : atI [V.ref a, V.ref b] 0 = some (.ref a) := rfl
      have t1 : atI [V.ref a, V.ref b] 1 = some (.ref b) := rfl
      refine ⟨_, rfl, _, _, rfl, rfl, (by show (0 : Int) < 9; decide), ?_⟩
      have fin : 0 ≤ c / 9 → spLeaf [.int (c / 9), .ref a, .ref b] H Q E := fun h9 => ⟨c / 9, a, b, ws, bs, rfl, h9, hw, hb, fun H' p r s np h i => q H' p r s np h (i.mono (by omega) (by omega))⟩
      have leafy : ∀ m : Prop, m → m := fun _ h => h
      refine ⟨_, rfl, _, _, rfl, rfl, _, rfl, ite2 (fun e => ?_) (fun e => ?_)⟩
      · refine iteT ?_
        refine ⟨_, rfl, _, _, rfl, rfl, ⟨by decide, by decide⟩, _, rfl, t, _, 0, _, rfl, rfl, SqT.of ht, t0, _, rfl, t, _, 1, _, rfl, rfl, SqT.of ht, t1, ?_⟩
        exact fin (by omega)
      refine ⟨_, rfl, _, _, rfl, rfl, _, rfl, ite2 (fun e2 => ?_) (fun e2 => ?_)⟩
      · refine ⟨_, rfl, _, _, rfl, rfl, ⟨by decide, by decide⟩, _, rfl, t, _, 0, _, rfl, rfl, SqT.of ht, t0, _, rfl, t, _, 1, _, rfl, rfl, SqT.of ht, t1, ?_⟩
        exact fin (by omega)
      have d1 : 1 ≤ d := by
        have : ¬ d < 1 := fun z => e (decide_eq_true z)
        omega
      obtain ⟨k, rfl⟩ : ∃ k, n = k + 1 := ⟨n - 1, by omega⟩
      -- one
      refine ⟨_, rfl, c, 1, rfl, fun m1 m10 m11 => ?_⟩
      refine ⟨_, rfl, _, _, rfl, rfl, _, rfl, _, rfl, _, rfl, _, _, rfl, rfl, ⟨by decide, by decide⟩, _, _, rfl, rfl, ?_⟩
      refine ⟨m1, d - 1, pw - c % 9 / 8, t, a, b, ws, bs, rfl, m10, by omega, ht, hw, hb, fun H1 p1 r1 s1 np1 h1 i1 => ?_⟩
      refine ⟨_, rfl, rfl, _, rfl, ?_⟩
      by_cases e8 : c % 9 = 8
      · rw [decide_eq_true (congrArg V.int e8)]
        refine iteT ?_
        refine ⟨_, rfl, _, _, rfl, rfl, _, rfl, ite2 (fun e3 => ?_) (fun e3 => ?_)⟩
        · have pw0 : 0 < pw := of_decide_eq_true e3
          refine ⟨_, rfl, _, rfl, _, _, rfl, rfl, ⟨by decide, by decide⟩, _, _, rfl, rfl, (by show (0 : Int) < 9; decide), _, _, rfl, rfl, (by show 3 ≤ sizeLine; decide), fun p np => ?_⟩
          have s2 := same_new (o := .tup [.str "power", .ref p1, .int (c / 9 % 9 - 4)]) np
          exact q _ p (.power r1 (c / 9 % 9 - 4)) (s1.trans s2) (s1.free np) ⟨p1, upd_same, h1.same s2⟩ ((i1.power (by omega) (by omega)).mono (by omega) (by omega))
        · have pw0 : pw ≤ 0 := by
            have : ¬ 0 < pw := fun z => e3 (decide_eq_true z)
            omega
          have i1' : RkIn ws bs (1 + (d - 1).toNat) pw.toNat r1 := i1.mono (Nat.le_refl _) (by omega)
          refine ⟨_, rfl, c, 2, rfl, fun m2 m20 m21 => ?_⟩
          refine ⟨_, rfl, _, _, rfl, rfl, _, rfl, _, rfl, m2, d - 1, pw, t, a, b, ws, bs, rfl, m20, by omega, s1 _ _ ht, hw.same s1, hb.same s1, fun H2 p2 r2 s2 np2 h2 i2 => ?_⟩
          refine ⟨_, rfl, rfl, _, rfl, ?_⟩
          rw [show decide (V.int (c % 9) = V.int 7) = false from decide_eq_false fun z => by have := V.int.inj z; omega]
          refine iteF ?_
          obtain ⟨o, ho⟩ := four_op (i := c / 9 % 4) (by omega) (by omega)
          refine ⟨(by show 4 ≤ sizeLine; decide), fun l nl => ?_⟩
          refine ⟨_, rfl, _, _, rfl, rfl, ⟨by decide, by decide⟩, _, _, rfl, rfl, (by show (0 : Int) < 4; decide), l, _, _, _, rfl, rfl, SqL.of upd_same, ho, _, rfl, _, rfl, (by show 3 ≤ sizeLine; decide), fun p np => ?_⟩
          have s3 := (same_new (o := .lst [V.str "plus", V.str "minus", V.str "times", V.str "over"]) nl).trans (same_new (o := .tup [.str o.name, .ref p1, .ref p2]) np)
          exact q _ p (.bin o r1 r2) ((s1.trans s2).trans s3) ((s1.trans (s2.trans (same_new nl))).free np) ⟨p1, p2, upd_same, h1.same (s2.trans s3), h2.same s3⟩ ((i1'.bin o i2).mono (by omega) (by omega))
      · rw [decide_eq_false (fun z => e8 (V.int.inj z))]
        refine iteF ?_
        have i1' : RkIn ws bs (1 + (d - 1).toNat) pw.toNat r1 := i1.mono (Nat.le_refl _) (by omega)
        refine ⟨_, rfl, c, 2, rfl, fun m2 m20 m21 => ?_⟩
        refine ⟨_, rfl, _, _, rfl, rfl, _, rfl, _, rfl, m2, d - 1, pw, t, a, b, ws, bs, rfl, m20, by omega, s1 _ _ ht, hw.same s1, hb.same s1, fun H2 p2 r2 s2 np2 h2 i2 => ?_⟩
        have s12 := s1.trans s2
        refine ⟨_, rfl, rfl, _, rfl, ite2 (fun e7 => ?_) (fun e7 => ?_)⟩
        · refine ⟨_, rfl, c, 3, rfl, fun m3 m30 m31 => ?_⟩
          refine ⟨_, rfl, _, _, rfl, rfl, _, rfl, _, rfl, m3, d - 2, pw, t, a, b, ws, bs, rfl, m30, by omega, s12 _ _ ht, hw.same s12, hb.same s12, fun H3 p3 r3 s3 np3 h3 i3 => ?_⟩
          have s13 := s12.trans s3
          refine ⟨_, rfl, _, rfl, _, rfl, _, rfl, c, 4, rfl, fun m4 m40 m41 => ?_⟩
          refine ⟨_, rfl, _, _, rfl, rfl, _, rfl, _, rfl, m4, d - 2, pw, t, a, b, ws, bs, rfl, m40, by omega, s13 _ _ ht, hw.same s13, hb.same s13, fun H4 p4 r4 s4 np4 h4 i4 => ?_⟩
          refine ⟨(by show 5 ≤ sizeLine; decide), fun p np => ?_⟩
          have s5 := same_new (o := .tup [.str "less", .ref p1, .ref p2, .ref p3, .ref p4]) np
          exact q _ p (.less r1 r2 r3 r4) ((s13.trans s4).trans s5) ((s13.trans s4).free np) ⟨p1, p2, p3, p4, upd_same, h1.same ((s2.trans s3).trans (s4.trans s5)), h2.same (s3.trans (s4.trans s5)), h3.same (s4.trans s5), h4.same s5⟩
            ((RkIn.less i1' i2 (i3.mono (d' := 1 + (d - 1).toNat) (by omega) (Nat.le_refl _)) (i4.mono (by omega) (Nat.le_refl _))).mono (by omega) (by omega))
        · obtain ⟨o, ho⟩ := four_op (i := c / 9 % 4) (by omega) (by omega)
          refine ⟨(by show 4 ≤ sizeLine; decide), fun l nl => ?_⟩
          refine ⟨_, rfl, _, _, rfl, rfl, ⟨by decide, by decide⟩, _, _, rfl, rfl, (by show (0 : Int) < 4; decide), l, _, _, _, rfl, rfl, SqL.of upd_same, ho, _, rfl, _, rfl, (by show 3 ≤ sizeLine; decide), fun p np => ?_⟩
          have s3 := (same_new (o := .lst [V.str "plus", V.str "minus", V.str "times", V.str "over"]) nl).trans (same_new (o := .tup [.str o.name, .ref p1, .ref p2]) np)
          exact q _ p (.bin o r1 r2) (s12.trans s3) ((s12.trans (same_new nl)).free np) ⟨p1, p2, upd_same, h1.same (s2.trans s3), h2.same s3⟩ ((i1'.bin o i2).mono (by omega) (by omega))
end
end MK


set_option Elab.async false
set_option linter.all false
set_option maxRecDepth 100000
set_option maxHeartbeats 4000000
namespace MK
open PySem PySem.Spec PyProof.Rows L2
section
variable {P : Program} {w : World} {K : PySem.W.Frag} {mg : Str → Option Value} {base : Heap}
/-! ### _law_parts -/
theorem scParts : FnScope ["_law_tree_here"] ["_law_tree_here"] (defScope sParts) := ⟨rfl, rfl, rfl, by decide +kernel, rfl, by decide +kernel, by decide +kernel⟩
def spParts : Sp := fun vs H Q _ => ∃ (t : Addr) (r : Rk), vs = [.ref t] ∧ TrAt H r t ∧ ∀ (H' : Hp) (p : Addr) (ps : List Addr), Same H H' → H p = none → H' p = some (.lst (ps.map V.ref)) → Paired (fun q x => TrAt H' x q) ps r.parts → Q (.ref p) H'
theorem ok_parts {f : Addr} {fd : FuncData} (F : Fun K "_law_parts" "_law_parts" sParts f fd) (mL : mg "list" = none) : FnOk P w K mg base CX0 1 f fd ["_law_tree_here"] spParts := by
  refine F.ok scParts (fun vs H Q E h => ?_) (fun cdv A outer s H vs Q E hr h => ?_)
  · obtain ⟨t, r, rfl, _⟩ := h
    rfl
  · obtain ⟨t, r, rfl, ht, q⟩ := h
    refine ⟨_, pss_cons (ps_if (pw_or (pt_cmpR op_eq (pe_ix ix_tup (pv 0) pe_int (fun _ _ => rfl)) pe_str (nomark _)) (pw_or1 (pt_cmpR op_eq (pe_ix ix_tup (pv 0) pe_int (fun _ _ => rfl)) pe_str (nomark _)))).pt (pss_one (ps_ret (pe_lst pa_nil))) pss_nil)
      (pss_cons (ps_if (pt_cmpR op_eq (pe_ix ix_tup (pv 0) pe_int (fun _ _ => rfl)) pe_str (nomark _)) (pss_one (ps_ret (pe_lst (pa_cons (pe_ix ix_tup (pv 0) pe_int (fun _ _ => rfl)) pa_nil)))) pss_nil)
      (pss_one (ps_ret (pe_callTy call_list_of (by rfl) mL PyProof.Rows.boot_list (pa_cons (pe_slice sl_tup (pv 0) (po_some pe_int) po_none) pa_nil))))), ?_⟩
    have mty : ∀ ps : List Addr, (∀ p, H p = none → Q (.ref p) (upd H p (.lst (ps.map V.ref)))) → ∀ p, H p = none → Q (.ref p) (upd H p (.lst (ps.map V.ref))) := fun _ h => h
    cases r with
    | is x y m =>
      obtain ⟨p, b, h1, h2, h3⟩ := ht
      refine ⟨_, rfl, t, _, 0, _, rfl, rfl, SqT.of h1, rfl, rfl, _, rfl, iteT (iteT ?_)⟩
      exact ⟨Nat.zero_le _, fun l nl => q _ l [] (same_new nl) nl upd_same .nil⟩
    | input z =>
      have h1 : H t = some (.tup [.str "input", .str z]) := ht
      refine ⟨_, rfl, t, _, 0, _, rfl, rfl, SqT.of h1, rfl, rfl, _, rfl, iteF ?_⟩
      refine ⟨_, rfl, t, _, 0, _, rfl, rfl, SqT.of h1, rfl, rfl, _, rfl, iteT ?_⟩
      exact ⟨Nat.zero_le _, fun l nl => q _ l [] (same_new nl) nl upd_same .nil⟩
    | nought =>
      have h1 : H t = some (.tup [.str "nought"]) := ht
      refine ⟨_, rfl, t, _, 0, _, rfl, rfl, SqT.of h1, rfl, rfl, _, rfl, iteF ?_⟩
      refine ⟨_, rfl, t, _, 0, _, rfl, rfl, SqT.of h1, rfl, rfl, _, rfl, iteF ?_⟩
      refine ⟨_, rfl, t, _, 0, _, rfl, rfl, SqT.of h1, rfl, rfl, _, rfl, iteF ?_⟩
      refine ⟨_, rfl, 1, rfl, t, _, rfl, SqT.of h1, (by decide), fun e ne => ?_⟩
      refine ⟨e, _, rfl, .inr (SqT.of upd_same), fun l nl => ?_⟩
      exact q _ l [] ((same_new ne).trans (same_new nl)) ((same_new ne).free nl) upd_same .nil
    | power a n =>
      obtain ⟨p, h1, h2⟩ := ht
      refine ⟨_, rfl, t, _, 0, _, rfl, rfl, SqT.of h1, rfl, rfl, _, rfl, iteF ?_⟩
      refine ⟨_, rfl, t, _, 0, _, rfl, rfl, SqT.of h1, rfl, rfl, _, rfl, iteF ?_⟩
      refine ⟨_, rfl, t, _, 0, _, rfl, rfl, SqT.of h1, rfl, rfl, _, rfl, iteT ?_⟩
      refine ⟨_, rfl, t, _, 1, _, rfl, rfl, SqT.of h1, rfl, (by show 1 ≤ sizeLine; decide), fun l nl => ?_⟩
      exact q _ l [p] (same_new nl) nl upd_same (.cons (h2.same (same_new nl)) .nil)
    | bin o a b =>
      obtain ⟨p1, p2, h1, h2, h3⟩ := ht
      refine ⟨_, rfl, t, _, 0, _, rfl, rfl, SqT.of h1, rfl, (by cases o <;> rfl), _, rfl, ?_⟩
      rw [show decide (V.str o.name = V.str "is") = false by cases o <;> decide +kernel]
      refine iteF ?_
      refine ⟨_, rfl, t, _, 0, _, rfl, rfl, SqT.of h1, rfl, (by cases o <;> rfl), _, rfl, ?_⟩
      rw [show decide (V.str o.name = V.str "input") = false by cases o <;> decide +kernel]
      refine iteF ?_
      refine ⟨_, rfl, t, _, 0, _, rfl, rfl, SqT.of h1, rfl, (by cases o <;> rfl), _, rfl, ?_⟩
      rw [show decide (V.str o.name = V.str "power") = false by cases o <;> decide +kernel]
      refine iteF ?_
      refine ⟨_, rfl, 1, rfl, t, _, rfl, SqT.of h1, (by show ¬ (HT.sIx 3 0 (some 1) = 0 ∧ HT.sIx 3 3 none = 3); decide), fun e ne => ?_⟩
      refine ⟨e, _, rfl, .inr (SqT.of upd_same), fun l nl => ?_⟩
      have s1 := (same_new (o := .tup [V.ref p1, V.ref p2]) ne).trans (same_new (o := .lst [V.ref p1, V.ref p2]) nl)
      exact q _ l [p1, p2] s1 ((same_new ne).free nl) upd_same (.cons (h2.same s1) (.cons (h3.same s1) .nil))
    | less a b c d =>
      obtain ⟨p1, p2, p3, p4, h1, h2, h3, h4, h5⟩ := ht
      refine ⟨_, rfl, t, _, 0, _, rfl, rfl, SqT.of h1, rfl, rfl, _, rfl, iteF ?_⟩
      refine ⟨_, rfl, t, _, 0, _, rfl, rfl, SqT.of h1, rfl, rfl, _, rfl, iteF ?_⟩
      refine ⟨_, rfl, t, _, 0, _, rfl, rfl, SqT.of h1, rfl, rfl, _, rfl, iteF ?_⟩
      refine ⟨_, rfl, 1, rfl, t, _, rfl, SqT.of h1, (by show ¬ (HT.sIx 5 0 (some 1) = 0 ∧ HT.sIx 5 5 none = 5); decide), fun e ne => ?_⟩
      refine ⟨e, _, rfl, .inr (SqT.of upd_same), fun l nl => ?_⟩
      have s1 := (same_new (o := .tup [V.ref p1, V.ref p2, V.ref p3, V.ref p4]) ne).trans (same_new (o := .lst [V.ref p1, V.ref p2, V.ref p3, V.ref p4]) nl)
      exact q _ l [p1, p2, p3, p4] s1 ((same_new ne).free nl) upd_same (.cons (h2.same s1) (.cons (h3.same s1) (.cons (h4.same s1) (.cons (h5.same s1) .nil))))
end
end MK


set_option Elab.async false
set_option linter.all false
set_option maxRecDepth 100000
set_option maxHeartbeats 4000000
namespace MK
open PySem PySem.Spec PyProof.Rows L2
theorem sum_more' {l : List Rk} {g : Rk → Nat} {i : Nat} {x : Rk} (h : l[i]? = some x) : ((l.take (i + 1)).map fun y => ((g y : Nat) : Int)) = ((l.take i).map fun y => ((g y : Nat) : Int)) ++ [((g x : Nat) : Int)] := by
  rw [take_more h, List.map_append]
  rfl
theorem noughts_parts : ∀ {r : Rk}, r ≠ .nought → (((r.parts.map fun y => ((y.noughts : Nat) : Int)).sum : Int)) = ((r.noughts : Nat) : Int)
  | .is _ _ _, _ => rfl
  | .nought, h => absurd rfl h
  | .input _, _ => rfl
  | .bin _ a b, _ => by
    show ((a.noughts : Nat) : Int) + (((b.noughts : Nat) : Int) + 0) = ((a.noughts + b.noughts : Nat) : Int)
    omega
  | .power a _, _ => by
    show ((a.noughts : Nat) : Int) + 0 = ((a.noughts : Nat) : Int)
    omega
  | .less a b c d, _ => by
    show ((a.noughts : Nat) : Int) + (((b.noughts : Nat) : Int) + (((c.noughts : Nat) : Int) + (((d.noughts : Nat) : Int) + 0))) = ((a.noughts + b.noughts + c.noughts + d.noughts : Nat) : Int)
    omega
theorem parts_few : ∀ r : Rk, r.parts.length ≤ 4
  | .is _ _ _ => Nat.zero_le _
  | .nought => Nat.zero_le _
  | .input _ => Nat.zero_le _
  | .bin _ _ _ => by show 2 ≤ 4; decide
  | .power _ _ => by show 1 ≤ 4; decide
  | .less _ _ _ _ => by show 4 ≤ 4; decide
/-- what stands first in it -/
def Rk.head : Rk → Str
  | .is _ _ _ => "is" | .nought => "nought" | .input _ => "input" | .bin o _ _ => o.name | .power _ _ => "power" | .less _ _ _ _ => "less"
theorem tr_head {H : Hp} : ∀ {r : Rk} {t : Addr}, TrAt H r t → ∃ xs, H t = some (.tup (V.str r.head :: xs))
  | .is _ _ _, _, ⟨_, _, h, _⟩ => ⟨_, h⟩
  | .nought, _, h => ⟨_, h⟩
  | .input _, _, h => ⟨_, h⟩
  | .bin _ _ _, _, ⟨_, _, h, _⟩ => ⟨_, h⟩
  | .power _ _, _, ⟨_, h, _⟩ => ⟨_, h⟩
  | .less _ _ _ _, _, ⟨_, _, _, _, h, _⟩ => ⟨_, h⟩
theorem head_nought : ∀ {r : Rk}, r ≠ .nought → r.head ≠ "nought"
  | .is _ _ _, _ => by show ("is" : Str) ≠ "nought"; decide +kernel
  | .nought, h => absurd rfl h
  | .input _, _ => by show ("input" : Str) ≠ "nought"; decide +kernel
  | .bin o _ _, _ => by show o.name ≠ "nought"; cases o <;> decide +kernel
  | .power _ _, _ => by show ("power" : Str) ≠ "nought"; decide +kernel
  | .less _ _ _ _, _ => by show ("less" : Str) ≠ "nought"; decide +kernel
theorem many_sum (r : Rk) : (1 : Int) + ((r.parts.map fun y => ((y.many : Nat) : Int)).sum : Int) = ((r.many : Nat) : Int) := by
  have h := many_parts r
  have k : ∀ l : List Rk, ((l.map fun y => ((y.many : Nat) : Int)).sum : Int) = (((l.map Rk.many).sum : Nat) : Int) := fun l => by
    induction l with
    | nil => rfl
    | cons a b ih =>
      rw [List.map_cons, List.map_cons, List.sum_cons, List.sum_cons, ih]
      omega
  rw [k]
  omega
theorem nou_sum : ∀ r : Rk, (if decide (V.str r.head = V.str "nought") = true then (1 : Int) else 0) + ((r.parts.map fun y => ((y.noughts : Nat) : Int)).sum : Int) = ((r.noughts : Nat) : Int) := fun r => by
  by_cases h : r = .nought
  · subst h
    rfl
  · rw [decide_eq_false (fun e => head_nought h (V.str.inj e)), noughts_parts h]
    show (0 : Int) + _ = _
    omega
section
variable {P : Program} {w : World} {K : PySem.W.Frag} {mg : Str → Option Value} {base : Heap}
/-! ### _law_many -/
theorem scMany : FnScope ["_law_tree_here", "_law_part"] ["_law_tree_here"] (defScope sMany) := ⟨rfl, rfl, rfl, by decide +kernel, rfl, by decide +kernel, by decide +kernel⟩
def spMany : Nat → Sp
  | 0 => spNo
  | n + 1 => fun vs H Q _ => ∃ (t : Addr) (r : Rk), vs = [.ref t] ∧ TrAt H r t ∧ r.deep ≤ n + 1 ∧ ∀ H', Same H H' → Q (.int (r.many : Nat)) H'
theorem ok_many {f fP : Addr} {fd fdP : FuncData} (F : Fun K "_law_many" "_law_many" sMany f fd) (bN : Binds K fd ["_law_tree_here"] []) (gN : mg "_law_many" = some (.ref f))
    (FP : Fun K "_law_parts" "_law_parts" sParts fP fdP) (bP : Binds K fdP ["_law_tree_here"] []) (gP : mg "_law_parts" = some (.ref fP)) (mL : mg "list" = none) (mu : mg "sum" = none) :
    ∀ n : Nat, FnOk P w K mg base CX0 (n + 2) f fd ["_law_tree_here"] (spMany n)
  | 0 => fn_no
  | n + 1 => by
    have GP : FnOk P w K mg base CX0 1 fP fdP ["_law_tree_here"] spParts := ok_parts FP mL
    have GN := ok_many F bN gN FP bP gP mL mu n
    refine F.ok scMany (fun vs H Q E h => ?_) (fun cdv A outer s H vs Q E hr h => ?_)
    · obtain ⟨t, r, rfl, _⟩ := h
      rfl
    · obtain ⟨t, r, rfl, ht, hd, q⟩ := h
      have nd := scMany.nd
      have hr1 : Room 1 _ := hr.mono (by omega)
      refine ⟨_, pss_one (ps_ret (pe_op op_add pe_int (pe_callB (cr_sum rfl) (by rfl) mu PyProof.Rows.boot_sum (pa_cons (pe_lc (own := [("_law_part", 1)]) (g := gName 1) (tt := tYes) rfl nd (pi_list (pe_call GP hr1 (by rfl) gP FP.kp bP .nil pass0 (pa_cons (pv 0) pa_nil)))
          (blkOk_by (N := ["_law_tree_here", "_law_part"]) (sc := defScope sMany) (by decide +kernel)) (fun _ _ _ _ _ => pg_name (i := 1) nd rfl (Or.inl rfl)) (fun _ _ _ _ _ => pts_nil)
          (fun _ _ _ _ _ => pe_call GN hr (by rfl) gN F.kp bN .nil pass0 (pa_cons (pv 1) pa_nil))) pa_nil)))), ?_⟩
      · refine ⟨_, rfl, t, r, rfl, ht, fun H1 l ps s1 nl hps pr => ?_⟩
        refine ⟨l, rfl, ⟨_, SqL.of hps⟩, fun D nD => ?_⟩
        refine lc_list (xs := ps.map V.ref) (fun i H' => Same H1 H' ∧ H' D = some (.lst (((r.parts.take i).map fun y => ((y.many : Nat) : Int)).map V.int)))
          ⟨same_new nD, upd_same⟩ (fun i H' _ z => SqL.of (z.1 _ _ hps)) ?_ ?_
        · rintro i x H' hx ⟨sm, hD⟩
          obtain ⟨p, hp, rfl⟩ := at_map hx
          obtain ⟨y, hy, hyt⟩ := paired_ix pr hp
          have hdy := parts_deep (List.mem_of_getElem? hy)
          have pos := y.deep_pos
          obtain ⟨m, rfl⟩ : ∃ m, n = m + 1 := ⟨n - 1, by omega⟩
          have few := parts_few r
          have hi : i < r.parts.length := (List.getElem?_eq_some_iff.mp hy).1
          refine ⟨rfl, ?_⟩
          refine ⟨_, rfl, p, y, rfl, hyt.same sm, by omega, fun H2 s2 => ?_⟩
          refine ⟨_, s2 _ _ hD, ?_, same_upd (sm.trans s2) nD, ?_⟩
          · rw [List.length_map, List.length_map, List.length_take]
            exact small1000 (by omega)
          · rw [upd_same, sum_more' hy, List.map_append]
            rfl
        · rintro H' ⟨sm, hD⟩
          rw [List.length_map, pr.length, List.take_length] at hD
          refine ⟨D, _, rfl, SqL.of hD, ?_⟩
          refine ⟨_, _, rfl, rfl, ?_⟩
          show Q (.int ((1 : Int) + ((r.parts.map fun y => ((y.many : Nat) : Int)).sum : Int))) H'
          rw [many_sum r]
          exact q _ (s1.trans sm)
/-! ### _law_noughts_in -/
theorem scNouIn : FnScope ["_law_tree_here", "_law_part"] ["_law_tree_here"] (defScope sNouIn) := ⟨rfl, rfl, rfl, by decide +kernel, rfl, by decide +kernel, by decide +kernel⟩
def spNouIn : Nat → Sp
  | 0 => spNo
  | n + 1 => fun vs H Q _ => ∃ (t : Addr) (r : Rk), vs = [.ref t] ∧ TrAt H r t ∧ r.deep ≤ n + 1 ∧ ∀ H', Same H H' → Q (.int (r.noughts : Nat)) H'
theorem ok_nouIn {f fP : Addr} {fd fdP : FuncData} (F : Fun K "_law_noughts_in" "_law_noughts_in" sNouIn f fd) (bN : Binds K fd ["_law_tree_here"] []) (gN : mg "_law_noughts_in" = some (.ref f))
    (FP : Fun K "_law_parts" "_law_parts" sParts fP fdP) (bP : Binds K fdP ["_law_tree_here"] []) (gP : mg "_law_parts" = some (.ref fP)) (mL : mg "list" = none) (mu : mg "sum" = none) (mn : mg "int" = none) :
    ∀ n : Nat, FnOk P w K mg base CX0 (n + 2) f fd ["_law_tree_here"] (spNouIn n)
  | 0 => fn_no
  | n + 1 => by
    have GP : FnOk P w K mg base CX0 1 fP fdP ["_law_tree_here"] spParts := ok_parts FP mL
    have GN := ok_nouIn F bN gN FP bP gP mL mu mn n
    refine F.ok scNouIn (fun vs H Q E h => ?_) (fun cdv A outer s H vs Q E hr h => ?_)
    · obtain ⟨t, r, rfl, _⟩ := h
      rfl
    · obtain ⟨t, r, rfl, ht, hd, q⟩ := h
      have nd := scNouIn.nd
      have hr1 : Room 1 _ := hr.mono (by omega)
      refine ⟨_, pss_one (ps_ret (pe_op op_add (pe_callTy call_int1 (by rfl) mn PyProof.Rows.boot_int (pa_cons (pe_cmpR op_eq (pe_ix ix_tup (pv 0) pe_int (fun _ _ => rfl)) pe_str (nomark _)) pa_nil)) (pe_callB (cr_sum rfl) (by rfl) mu PyProof.Rows.boot_sum (pa_cons (pe_lc (own := [("_law_part", 1)]) (g := gName 1) (tt := tYes) rfl nd (pi_list (pe_call GP hr1 (by rfl) gP FP.kp bP .nil pass0 (pa_cons (pv 0) pa_nil)))
          (blkOk_by (N := ["_law_tree_here", "_law_part"]) (sc := defScope sNouIn) (by decide +kernel)) (fun _ _ _ _ _ => pg_name (i := 1) nd rfl (Or.inl rfl)) (fun _ _ _ _ _ => pts_nil)
          (fun _ _ _ _ _ => pe_call GN hr (by rfl) gN F.kp bN .nil pass0 (pa_cons (pv 1) pa_nil))) pa_nil)))), ?_⟩
      obtain ⟨xs, hx⟩ := tr_head ht
      have a0 : atI (V.str r.head :: xs) 0 = some (V.str r.head) := atI_nat (j := 0) rfl
      refine ⟨_, rfl, t, _, 0, V.str r.head, rfl, rfl, SqT.of hx, a0, rfl, .inr ⟨_, rfl, ?_⟩⟩
      · refine ⟨_, rfl, t, r, rfl, ht, fun H1 l ps s1 nl hps pr => ?_⟩
        refine ⟨l, rfl, ⟨_, SqL.of hps⟩, fun D nD => ?_⟩
        refine lc_list (xs := ps.map V.ref) (fun i H' => Same H1 H' ∧ H' D = some (.lst (((r.parts.take i).map fun y => ((y.noughts : Nat) : Int)).map V.int)))
          ⟨same_new nD, upd_same⟩ (fun i H' _ z => SqL.of (z.1 _ _ hps)) ?_ ?_
        · rintro i x H' hx ⟨sm, hD⟩
          obtain ⟨p, hp, rfl⟩ := at_map hx
          obtain ⟨y, hy, hyt⟩ := paired_ix pr hp
          have hdy := parts_deep (List.mem_of_getElem? hy)
          have pos := y.deep_pos
          obtain ⟨m, rfl⟩ : ∃ m, n = m + 1 := ⟨n - 1, by omega⟩
          have few := parts_few r
          have hi : i < r.parts.length := (List.getElem?_eq_some_iff.mp hy).1
          refine ⟨rfl, ?_⟩
          refine ⟨_, rfl, p, y, rfl, hyt.same sm, by omega, fun H2 s2 => ?_⟩
          refine ⟨_, s2 _ _ hD, ?_, same_upd (sm.trans s2) nD, ?_⟩
          · rw [List.length_map, List.length_map, List.length_take]
            exact small1000 (by omega)
          · rw [upd_same, sum_more' hy, List.map_append]
            rfl
        · rintro H' ⟨sm, hD⟩
          rw [List.length_map, pr.length, List.take_length] at hD
          refine ⟨D, _, rfl, SqL.of hD, ?_⟩
          refine ⟨_, _, rfl, rfl, ?_⟩
          show Q (.int ((if decide (V.str r.head = V.str "nought") = true then (1 : Int) else 0) + ((r.parts.map fun y => ((y.noughts : Nat) : Int)).sum : Int))) H'
          rw [nou_sum r]
          exact q _ (s1.trans sm)
end
end MK


set_option Elab.async false
set_option linter.all false
set_option maxRecDepth 100000
set_option maxHeartbeats 4000000
namespace MK
open PySem PySem.Spec PyProof.Rows L2
/-! ### expressions written out: in any heap plain data -/
theorem sqL_same {K : PySem.W.Frag} {H H' : Hp} {a : Addr} {xs : List V} (s : Same H H') (h : SqL K H a xs) : SqL K H' a xs := by
  rcases h with (e | ⟨o, e⟩) | h
  · exact .inl (.inl (s _ _ e))
  · exact .inl (.inr ⟨o, s _ _ e⟩)
  · exact .inr h
theorem sqT_same {K : PySem.W.Frag} {H H' : Hp} {a : Addr} {xs : List V} (s : Same H H') (h : SqT K H a xs) : SqT K H' a xs := by
  rcases h with (e | ⟨o, e⟩) | h
  · exact .inl (.inl (s _ _ e))
  · exact .inl (.inr ⟨o, s _ _ e⟩)
  · exact .inr h
mutual
theorem dp_same {K : PySem.W.Frag} {H H' : Hp} (k : Same H H') : ∀ (d : PyData) (v : V), Dp K H v d → Dp K H' v d
  | .none, _, .non => .non
  | .bool _, _, .bl _ => .bl _
  | .int _, _, .int _ => .int _
  | .str _, _, .str _ => .str _
  | .list ds, _, .lst s a => .lst (sqL_same k s) (dps_same k ds _ a)
  | .tuple ds, _, .tup s a => .tup (sqT_same k s) (dps_same k ds _ a)
theorem dps_same {K : PySem.W.Frag} {H H' : Hp} (k : Same H H') : ∀ (ds : List PyData) (vs : List V), DpAll K H vs ds → DpAll K H' vs ds
  | [], _, .nil => .nil
  | d :: ds, _, .cons a b => .cons (dp_same k d _ a) (dps_same k ds _ b)
end
theorem dps_app {K : PySem.W.Frag} {H : Hp} : ∀ {xs ys : List V} {ds es : List PyData}, DpAll K H xs ds → DpAll K H ys es → DpAll K H (xs ++ ys) (ds ++ es)
  | _, _, _, _, .nil, b => b
  | _, _, _, _, .cons a t, b => .cons a (dps_app t b)
section
variable {K : PySem.W.Frag} {B : Hp → Prop} {σ : L2.St}
def Mono (B : Hp → Prop) : Prop := ∀ H H', Same H H' → B H → B H'
def Lit (K : PySem.W.Frag) (B : Hp → Prop) (σ : L2.St) (t : TE) (d : PyData) : Prop := ∀ H Q, B H → (∀ H' v, Same H H' → Dp K H' v d → Q v H') → t σ H Q
def Lits (K : PySem.W.Frag) (B : Hp → Prop) (σ : L2.St) (t : TA) (ds : List PyData) : Prop := ∀ H Q, B H → (∀ H' vs, Same H H' → DpAll K H' vs ds → Q vs H') → t σ H Q
theorem lit_c {v : V} {d : PyData} (h : ∀ H, Dp K H v d) : Lit K B σ (tC v) d := fun H Q _ k => k H v (Same.refl _) (h H)
theorem lit_var {i : Nat} {v : V} {d : PyData} (e : σ[i]? = some (some v)) (h : ∀ H, B H → Dp K H v d) : Lit K B σ (tVar i) d := fun H Q b k => ⟨v, e, k H v (Same.refl _) (h H b)⟩
theorem lits_nil : Lits K B σ tNil [] := fun H Q _ k => k H [] (Same.refl _) .nil
theorem lits_cons {ta : TE} {tr : TA} {d : PyData} {ds : List PyData} (m : Mono B) (a : Lit K B σ ta d) (r : Lits K B σ tr ds) : Lits K B σ (tCons ta tr) (d :: ds) := fun H Q b k =>
  a H _ b fun H1 v s1 h1 => r H1 _ (m _ _ s1 b) fun H2 vs s2 h2 => k H2 (v :: vs) (s1.trans s2) (.cons (dp_same s2 _ _ h1) h2)
theorem lit_tup {t : TA} {ds : List PyData} (h : Lits K B σ t ds) (l : ds.length ≤ sizeLine) : Lit K B σ (tTup t) (.tuple ds) := fun H Q b k =>
  h H _ b fun H1 vs s1 h1 => ⟨by rw [dps_len h1]; exact l, fun p np => k _ _ (s1.trans (same_new np)) (.tup (SqT.of upd_same) (dps_same (same_new np) _ _ h1))⟩
theorem lit_lst {t : TA} {ds : List PyData} (h : Lits K B σ t ds) (l : ds.length ≤ sizeLine) : Lit K B σ (tLst t) (.list ds) := fun H Q b k =>
  h H _ b fun H1 vs s1 h1 => ⟨by rw [dps_len h1]; exact l, fun p np => k _ _ (s1.trans (same_new np)) (.lst (SqL.of upd_same) (dps_same (same_new np) _ _ h1))⟩
theorem dp_int {H : Hp} {v : V} {i : Int} (h : Dp K H v (.int i)) : v = .int i := by cases h; rfl
theorem dp_str {H : Hp} {v : V} {z : Str} (h : Dp K H v (.str z)) : v = .str z := by cases h; rfl
theorem lit_i0 {ta tb : TE} {a b c : Int} {g : Int → Int → V} (m : Mono B) (x : Lit K B σ ta (.int a)) (y : Lit K B σ tb (.int b)) (e : g a b = .int c) : Lit K B σ (tOp (rI0 g) ta tb) (.int c) := fun H Q q k =>
  x H _ q fun H1 v s1 h1 => y H1 _ (m _ _ s1 q) fun H2 u s2 h2 => ⟨a, b, dp_int h1, dp_int h2, by rw [e]; exact k _ _ (s1.trans s2) (.int c)⟩
theorem lit_iC {ta tb : TE} {a b c : Int} {g : Int → Int → V} {C : Int → Int → Prop} (m : Mono B) (x : Lit K B σ ta (.int a)) (y : Lit K B σ tb (.int b)) (hc : C a b) (e : g a b = .int c) : Lit K B σ (tOp (rI C g) ta tb) (.int c) := fun H Q q k =>
  x H _ q fun H1 v s1 h1 => y H1 _ (m _ _ s1 q) fun H2 u s2 h2 => ⟨a, b, dp_int h1, dp_int h2, hc, by rw [e]; exact k _ _ (s1.trans s2) (.int c)⟩
theorem lit_neg {ta : TE} {a : Int} (x : Lit K B σ ta (.int a)) : Lit K B σ (tUn (rU fun i => V.int (-i)) ta) (.int (-a)) := fun H Q q k =>
  x H _ q fun H1 v s1 h1 => ⟨a, dp_int h1, k _ _ s1 (.int _)⟩
theorem lit_add {ta tb : TE} {a b : Str} (m : Mono B) (x : Lit K B σ ta (.str a)) (y : Lit K B σ tb (.str b)) (l : a.length + b.length ≤ sizeLine) :
    Lit K B σ (tOp (fun x y H Q => ∃ i j, x = .str i ∧ y = .str j ∧ i.length + j.length ≤ sizeLine ∧ Q (.str (i ++ j)) H) ta tb) (.str (a ++ b)) := fun H Q q k =>
  x H _ q fun H1 v s1 h1 => y H1 _ (m _ _ s1 q) fun H2 u s2 h2 => ⟨a, b, dp_str h1, dp_str h2, l, k _ _ (s1.trans s2) (.str _)⟩
/-- a list that grows by written out ones -/
def LAt (K : PySem.W.Frag) (l : Addr) (ds : List PyData) (H : Hp) : Prop := ∃ xs, H l = some (.lst xs) ∧ DpAll K H xs ds
theorem lat_mono {l : Addr} {ds : List PyData} : Mono (LAt K l ds) := fun H H' s ⟨xs, e, h⟩ => ⟨xs, s _ _ e, dps_same s _ _ h⟩
theorem and_mono {A B : Hp → Prop} (a : Mono A) (b : Mono B) : Mono (fun H => A H ∧ B H) := fun H H' s ⟨x, y⟩ => ⟨a _ _ s x, b _ _ s y⟩
theorem dp_mono {v : V} {d : PyData} : Mono (fun H => Dp K H v d) := fun _ _ s h => dp_same s _ _ h
/-- name = e -/
theorem lit_set {t : TE} {d : PyData} {i : Nat} {tb : TS} {D : Ends} {H : Hp} (σ2 : V → L2.St) (e2 : ∀ v, σ.set i (some v) = σ2 v) (L : Lit K B σ t d) (b : B H) (k : ∀ H' v, Same H H' → Dp K H' v d → tb D (σ2 v) H') : tSeq (tAsg t (gName i)) tb D σ H :=
  L H _ b fun H' v s h => by
    show tb D (σ.set i (some v)) _
    rw [e2]
    exact k H' v s h
/-- some = [..]; σ2: the names behind it -/
theorem lit_setL {t : TA} {ds : List PyData} {i : Nat} {tb : TS} {D : Ends} {H : Hp} (σ2 : Addr → L2.St) (e2 : ∀ l, σ.set i (some (.ref l)) = σ2 l) (L : Lits K B σ t ds) (n : ds.length ≤ sizeLine) (b : B H) (k : ∀ H' l, Same H H' → LAt K l ds H' → tb D (σ2 l) H') : tSeq (tAsg (tLst t) (gName i)) tb D σ H :=
  L H _ b fun H1 vs s1 h1 => ⟨by rw [dps_len h1]; exact n, fun p np => by
    show tb D (σ.set i (some (.ref p))) _
    rw [e2]
    exact k _ _ (s1.trans (same_new np)) ⟨vs, upd_same, dps_same (same_new np) _ _ h1⟩⟩
/-- some = some + [..] -/
theorem lit_setC {t : TA} {ds es : List PyData} {i : Nat} {l : Addr} {tb : TS} {D : Ends} {H : Hp} {G : Hp → Prop} (σ2 : Addr → L2.St) (e2 : ∀ l, σ.set i (some (.ref l)) = σ2 l) (g : Mono G) (e : σ[i]? = some (some (.ref l))) (L : Lits K (fun H => LAt K l ds H ∧ G H) σ t es) (n : es.length ≤ sizeLine) (n2 : ds.length + es.length ≤ sizeLine) (b : LAt K l ds H) (gb : G H)
    (k : ∀ H' l', Same H H' → LAt K l' (ds ++ es) H' → tb D (σ2 l') H') : tSeq (tAsg (tOp rCat (tVar i) (tLst t)) (gName i)) tb D σ H := by
  refine ⟨_, e, L H _ ⟨b, gb⟩ fun H1 vs s1 h1 => ⟨by rw [dps_len h1]; exact n, fun p np => ?_⟩⟩
  obtain ⟨xs, ex, dx⟩ := lat_mono _ _ s1 b
  have s2 := same_new (o := .lst vs) np
  refine ⟨l, p, xs, vs, rfl, rfl, s2 _ _ ex, upd_same, by rw [dps_len dx, dps_len h1]; exact n2, fun q nq => ?_⟩
  have s3 := same_new (o := .lst (xs ++ vs)) nq
  show tb D (σ.set i (some (.ref q))) _
  rw [e2]
  exact k _ q ((s1.trans s2).trans s3) ⟨_, upd_same, dps_same (s2.trans s3) _ _ (dps_app dx h1)⟩
end
end MK


set_option Elab.async false
set_option linter.all false
set_option maxRecDepth 100000
set_option maxHeartbeats 4000000
namespace MK
open PySem PySem.Spec PyProof.Rows L2
def badLS0 (z : Str) : List PyData := [.none, (.bool true), (.int 5), (.str z), (.tuple []), (.tuple [(.str "nought"), (.int 1)]), (.list [(.str "nought")]), (.tuple [(.str "input")]), (.tuple [(.str "input"), (.str "A")])]
def badLS1 (z : Str) : List PyData := [(.tuple [(.str "input"), (.str (z ++ "abcdefgh"))])]
def badLS2 (z : Str) : List PyData := [(.tuple [(.str "input"), (.str "")]), (.tuple [(.str "input"), (.str z), (.str z)]), (.tuple [(.str "input"), (.int 3)]), (.tuple [(.str "input"), (.str "a1")]), (.tuple [(.str "is"), (.tuple [(.int 1), (.int 2)])])]
def badLS3 (z : Str) : List PyData := [(.tuple [(.str "is"), (.tuple [(.int 2), (.int 4)]), (.tuple [])])]
def badLS4 (z : Str) : List PyData := [(.tuple [(.str "is"), (.tuple [(.int 1), (.int 0)]), (.tuple [])]), (.tuple [(.str "is"), (.tuple [(.int 1), (.int (-2))]), (.tuple [])]), (.tuple [(.str "is"), (.tuple [(.bool true), (.int 1)]), (.tuple [])]), (.tuple [(.str "is"), (.tuple [(.int 1), (.bool true)]), (.tuple [])])]
def badLS5 (z : Str) : List PyData := [(.tuple [(.str "is"), (.int 3), (.tuple [])])]
def badLS6 (z : Str) : List PyData := [(.tuple [(.str "is"), (.tuple [(.int (1000000001)), (.int 1)]), (.tuple [])]), (.tuple [(.str "is"), (.tuple [(.int (-1000000001)), (.int 1)]), (.tuple [])]), (.tuple [(.str "is"), (.tuple [(.int 1), (.int (1000000001))]), (.tuple [])])]
def badLS7 (z : Str) : List PyData := [(.tuple [(.str "is"), (.list [(.int 1), (.int 1)]), (.tuple [])]), (.tuple [(.str "is"), (.tuple [(.int 0), (.int 2)]), (.tuple [])]), (.tuple [(.str "is"), (.tuple [(.int 1), (.int 1)]), (.list [(.tuple [(.str z), (.int 1)])])]), (.tuple [(.str "is"), (.tuple [(.int 1), (.int 1)]), (.tuple [(.tuple [(.str z), (.int 0)])])])]
def badLS8 (z : Str) : List PyData := [(.tuple [(.str "is"), (.tuple [(.int 1), (.int 1)]), (.tuple [(.tuple [(.str z), (.int 21)])])]), (.tuple [(.str "is"), (.tuple [(.int 1), (.int 1)]), (.tuple [(.tuple [(.str z), (.int (-21))])])]), (.tuple [(.str "is"), (.tuple [(.int 1), (.int 1)]), (.tuple [(.tuple [(.str z), (.bool true)])])])]
def badLS9 (z : Str) : List PyData := [(.tuple [(.str "is"), (.tuple [(.int 1), (.int 1)]), (.tuple [(.tuple [(.str ("=" ++ z)), (.int 1)])])]), (.tuple [(.str "is"), (.tuple [(.int 1), (.int 1)]), (.tuple [(.tuple [(.str "b"), (.int 1)]), (.tuple [(.str "a"), (.int 1)])])]), (.tuple [(.str "is"), (.tuple [(.int 1), (.int 1)]), (.tuple [(.tuple [(.str z), (.int 1)]), (.tuple [(.str z), (.int 1)])])])]
def badLS10 (z : Str) : List PyData := [(.tuple [(.str "is"), (.tuple [(.int 1), (.int 1)]), (.tuple [(.tuple [(.str "a"), (.int 1)]), (.tuple [(.str "b"), (.int 1)]), (.tuple [(.str "c"), (.int 1)]), (.tuple [(.str "d"), (.int 1)]), (.tuple [(.str "e"), (.int 1)]), (.tuple [(.str "f"), (.int 1)]), (.tuple [(.str "g"), (.int 1)])])])]
def badLS11 (z : Str) : List PyData := [(.tuple [(.str "is"), (.tuple [(.int 1), (.int 1)]), (.tuple [(.tuple [(.str "Kg"), (.int 1)])])]), (.tuple [(.str "is"), (.tuple [(.int 1), (.int 1)]), (.tuple [(.tuple [(.str "m2"), (.int 1)])])]), (.tuple [(.str "is"), (.tuple [(.int 1), (.int 1)]), (.tuple [(.tuple [(.str "abcdefghi"), (.int 1)])])])]
def badLS12 (z : Str) : List PyData := [(.tuple [(.str "is"), (.tuple [(.int 1), (.int 1)]), (.tuple [(.tuple [(.str ""), (.int 1)])])]), (.tuple [(.str "is"), (.tuple [(.int 1), (.int 1)]), (.tuple [(.tuple [(.int 3), (.int 1)])])]), (.tuple [(.str "is"), (.tuple [(.int 1), (.int 1)]), (.tuple [(.tuple [(.str z), (.int 1), (.int 1)])])])]
def badLS13 (z : Str) : List PyData := [(.tuple [(.str "is"), (.tuple [(.int 1), (.int 1)]), (.tuple [(.tuple [(.str z)])])]), (.tuple [(.str "is"), (.tuple [(.int 1), (.int 1)]), (.tuple [(.list [(.str z), (.int 1)])])]), (.tuple [(.str "is"), (.tuple [(.int 1), (.int 1), (.int 1)]), (.tuple [])]), (.tuple [(.str "halt")])]
def badL (z : Str) : List PyData := (((((((((((((badLS0 z) ++ badLS1 z) ++ badLS2 z) ++ badLS3 z) ++ badLS4 z) ++ badLS5 z) ++ badLS6 z) ++ badLS7 z) ++ badLS8 z) ++ badLS9 z) ++ badLS10 z) ++ badLS11 z) ++ badLS12 z) ++ badLS13 z
section
variable {P : Program} {w : World} {K : PySem.W.Frag} {mg : Str → Option Value} {base : Heap}
/-! ### _law_bad_leaf -/
theorem scBadLeaf : FnScope ["_law_cell", "_law_word", "_law_m", "_law_some"] ["_law_cell", "_law_word"] (defScope sBadLeaf) := ⟨rfl, rfl, rfl, by decide +kernel, rfl, by decide +kernel, by decide +kernel⟩
def spBadLeaf (K : PySem.W.Frag) : Sp := fun vs H Q _ => ∃ (c : Int) (z : Str), vs = [.int c, .str z] ∧ Nm z ∧ ∀ (H' : Hp) (v : V) (d : PyData), Same H H' → d ∈ badL z → Dp K H' v d → Q v H'
set_option maxHeartbeats 40000000 in
theorem ok_badLeaf {f : Addr} {fd : FuncData} (F : Fun K "_law_bad_leaf" "_law_bad_leaf" sBadLeaf f fd) (ml : mg "len" = none) : FnOk P w K mg base CX0 1 f fd ["_law_cell", "_law_word"] (spBadLeaf K) := by
  refine F.ok scBadLeaf (fun vs H Q E h => ?_) (fun cdv A outer s H vs Q E hr h => ?_)
  · obtain ⟨c, z, rfl, _⟩ := h
    rfl
  · obtain ⟨c, z, rfl, hw, q⟩ := h
    have nd := scBadLeaf.nd
    refine ⟨_, (pss_cons (ps_set (i := 2) nd rfl (.inl rfl) (pe_tup (pa_cons (pv 1) (pa_cons pe_int pa_nil))))
      (pss_cons (ps_set (i := 3) nd rfl (.inl rfl) (pe_lst (pa_cons pe_non (pa_cons pe_bl (pa_cons pe_int (pa_cons (pv 1) (pa_cons (pe_tup pa_nil) (pa_cons (pe_tup (pa_cons pe_str (pa_cons pe_int pa_nil))) (pa_cons (pe_lst (pa_cons pe_str pa_nil)) (pa_cons (pe_tup (pa_cons pe_str pa_nil)) (pa_cons (pe_tup (pa_cons pe_str (pa_cons pe_str pa_nil))) pa_nil)))))))))))
      (pss_cons (ps_set (i := 3) nd rfl (.inl rfl) (pe_op op_cat (pv 3) (pe_lst (pa_cons (pe_tup (pa_cons pe_str (pa_cons (pe_op op_add_str (pv 1) pe_str) pa_nil))) pa_nil))))
      (pss_cons (ps_set (i := 3) nd rfl (.inl rfl) (pe_op op_cat (pv 3) (pe_lst (pa_cons (pe_tup (pa_cons pe_str (pa_cons pe_str pa_nil))) (pa_cons (pe_tup (pa_cons pe_str (pa_cons (pv 1) (pa_cons (pv 1) pa_nil)))) (pa_cons (pe_tup (pa_cons pe_str (pa_cons pe_int pa_nil))) (pa_cons (pe_tup (pa_cons pe_str (pa_cons pe_str pa_nil))) (pa_cons (pe_tup (pa_cons pe_str (pa_cons (pe_tup (pa_cons pe_int (pa_cons pe_int pa_nil))) pa_nil))) pa_nil))))))))
      (pss_cons (ps_set (i := 3) nd rfl (.inl rfl) (pe_op op_cat (pv 3) (pe_lst (pa_cons (pe_tup (pa_cons pe_str (pa_cons (pe_tup (pa_cons pe_int (pa_cons pe_int pa_nil))) (pa_cons (pe_tup pa_nil) pa_nil)))) pa_nil))))
      (pss_cons (ps_set (i := 3) nd rfl (.inl rfl) (pe_op op_cat (pv 3) (pe_lst (pa_cons (pe_tup (pa_cons pe_str (pa_cons (pe_tup (pa_cons pe_int (pa_cons pe_int pa_nil))) (pa_cons (pe_tup pa_nil) pa_nil)))) (pa_cons (pe_tup (pa_cons pe_str (pa_cons (pe_tup (pa_cons pe_int (pa_cons (pe_un un_neg pe_int) pa_nil))) (pa_cons (pe_tup pa_nil) pa_nil)))) (pa_cons (pe_tup (pa_cons pe_str (pa_cons (pe_tup (pa_cons pe_bl (pa_cons pe_int pa_nil))) (pa_cons (pe_tup pa_nil) pa_nil)))) (pa_cons (pe_tup (pa_cons pe_str (pa_cons (pe_tup (pa_cons pe_int (pa_cons pe_bl pa_nil))) (pa_cons (pe_tup pa_nil) pa_nil)))) pa_nil)))))))
      (pss_cons (ps_set (i := 3) nd rfl (.inl rfl) (pe_op op_cat (pv 3) (pe_lst (pa_cons (pe_tup (pa_cons pe_str (pa_cons pe_int (pa_cons (pe_tup pa_nil) pa_nil)))) pa_nil))))
      (pss_cons (ps_set (i := 3) nd rfl (.inl rfl) (pe_op op_cat (pv 3) (pe_lst (pa_cons (pe_tup (pa_cons pe_str (pa_cons (pe_tup (pa_cons (pe_op op_add (pe_op op_pow pe_int pe_int) pe_int) (pa_cons pe_int pa_nil))) (pa_cons (pe_tup pa_nil) pa_nil)))) (pa_cons (pe_tup (pa_cons pe_str (pa_cons (pe_tup (pa_cons (pe_op op_sub (pe_un un_neg pe_int) (pe_op op_pow pe_int pe_int)) (pa_cons pe_int pa_nil))) (pa_cons (pe_tup pa_nil) pa_nil)))) (pa_cons (pe_tup (pa_cons pe_str (pa_cons (pe_tup (pa_cons pe_int (pa_cons (pe_op op_add (pe_op op_pow pe_int pe_int) pe_int) pa_nil))) (pa_cons (pe_tup pa_nil) pa_nil)))) pa_nil))))))
      (pss_cons (ps_set (i := 3) nd rfl (.inl rfl) (pe_op op_cat (pv 3) (pe_lst (pa_cons (pe_tup (pa_cons pe_str (pa_cons (pe_lst (pa_cons pe_int (pa_cons pe_int pa_nil))) (pa_cons (pe_tup pa_nil) pa_nil)))) (pa_cons (pe_tup (pa_cons pe_str (pa_cons (pe_tup (pa_cons pe_int (pa_cons pe_int pa_nil))) (pa_cons (pe_tup pa_nil) pa_nil)))) (pa_cons (pe_tup (pa_cons pe_str (pa_cons (pe_tup (pa_cons pe_int (pa_cons pe_int pa_nil))) (pa_cons (pe_lst (pa_cons (pv 2) pa_nil)) pa_nil)))) (pa_cons (pe_tup (pa_cons pe_str (pa_cons (pe_tup (pa_cons pe_int (pa_cons pe_int pa_nil))) (pa_cons (pe_tup (pa_cons (pe_tup (pa_cons (pv 1) (pa_cons pe_int pa_nil))) pa_nil)) pa_nil)))) pa_nil)))))))
      (pss_cons (ps_set (i := 3) nd rfl (.inl rfl) (pe_op op_cat (pv 3) (pe_lst (pa_cons (pe_tup (pa_cons pe_str (pa_cons (pe_tup (pa_cons pe_int (pa_cons pe_int pa_nil))) (pa_cons (pe_tup (pa_cons (pe_tup (pa_cons (pv 1) (pa_cons pe_int pa_nil))) pa_nil)) pa_nil)))) (pa_cons (pe_tup (pa_cons pe_str (pa_cons (pe_tup (pa_cons pe_int (pa_cons pe_int pa_nil))) (pa_cons (pe_tup (pa_cons (pe_tup (pa_cons (pv 1) (pa_cons (pe_un un_neg pe_int) pa_nil))) pa_nil)) pa_nil)))) (pa_cons (pe_tup (pa_cons pe_str (pa_cons (pe_tup (pa_cons pe_int (pa_cons pe_int pa_nil))) (pa_cons (pe_tup (pa_cons (pe_tup (pa_cons (pv 1) (pa_cons pe_bl pa_nil))) pa_nil)) pa_nil)))) pa_nil))))))
      (pss_cons (ps_set (i := 3) nd rfl (.inl rfl) (pe_op op_cat (pv 3) (pe_lst (pa_cons (pe_tup (pa_cons pe_str (pa_cons (pe_tup (pa_cons pe_int (pa_cons pe_int pa_nil))) (pa_cons (pe_tup (pa_cons (pe_tup (pa_cons (pe_op op_add_str pe_str (pv 1)) (pa_cons pe_int pa_nil))) pa_nil)) pa_nil)))) (pa_cons (pe_tup (pa_cons pe_str (pa_cons (pe_tup (pa_cons pe_int (pa_cons pe_int pa_nil))) (pa_cons (pe_tup (pa_cons (pe_tup (pa_cons pe_str (pa_cons pe_int pa_nil))) (pa_cons (pe_tup (pa_cons pe_str (pa_cons pe_int pa_nil))) pa_nil))) pa_nil)))) (pa_cons (pe_tup (pa_cons pe_str (pa_cons (pe_tup (pa_cons pe_int (pa_cons pe_int pa_nil))) (pa_cons (pe_tup (pa_cons (pv 2) (pa_cons (pv 2) pa_nil))) pa_nil)))) pa_nil))))))
      (pss_cons (ps_set (i := 3) nd rfl (.inl rfl) (pe_op op_cat (pv 3) (pe_lst (pa_cons (pe_tup (pa_cons pe_str (pa_cons (pe_tup (pa_cons pe_int (pa_cons pe_int pa_nil))) (pa_cons (pe_tup (pa_cons (pe_tup (pa_cons pe_str (pa_cons pe_int pa_nil))) (pa_cons (pe_tup (pa_cons pe_str (pa_cons pe_int pa_nil))) (pa_cons (pe_tup (pa_cons pe_str (pa_cons pe_int pa_nil))) (pa_cons (pe_tup (pa_cons pe_str (pa_cons pe_int pa_nil))) (pa_cons (pe_tup (pa_cons pe_str (pa_cons pe_int pa_nil))) (pa_cons (pe_tup (pa_cons pe_str (pa_cons pe_int pa_nil))) (pa_cons (pe_tup (pa_cons pe_str (pa_cons pe_int pa_nil))) pa_nil)))))))) pa_nil)))) pa_nil))))
      (pss_cons (ps_set (i := 3) nd rfl (.inl rfl) (pe_op op_cat (pv 3) (pe_lst (pa_cons (pe_tup (pa_cons pe_str (pa_cons (pe_tup (pa_cons pe_int (pa_cons pe_int pa_nil))) (pa_cons (pe_tup (pa_cons (pe_tup (pa_cons pe_str (pa_cons pe_int pa_nil))) pa_nil)) pa_nil)))) (pa_cons (pe_tup (pa_cons pe_str (pa_cons (pe_tup (pa_cons pe_int (pa_cons pe_int pa_nil))) (pa_cons (pe_tup (pa_cons (pe_tup (pa_cons pe_str (pa_cons pe_int pa_nil))) pa_nil)) pa_nil)))) (pa_cons (pe_tup (pa_cons pe_str (pa_cons (pe_tup (pa_cons pe_int (pa_cons pe_int pa_nil))) (pa_cons (pe_tup (pa_cons (pe_tup (pa_cons pe_str (pa_cons pe_int pa_nil))) pa_nil)) pa_nil)))) pa_nil))))))
      (pss_cons (ps_set (i := 3) nd rfl (.inl rfl) (pe_op op_cat (pv 3) (pe_lst (pa_cons (pe_tup (pa_cons pe_str (pa_cons (pe_tup (pa_cons pe_int (pa_cons pe_int pa_nil))) (pa_cons (pe_tup (pa_cons (pe_tup (pa_cons pe_str (pa_cons pe_int pa_nil))) pa_nil)) pa_nil)))) (pa_cons (pe_tup (pa_cons pe_str (pa_cons (pe_tup (pa_cons pe_int (pa_cons pe_int pa_nil))) (pa_cons (pe_tup (pa_cons (pe_tup (pa_cons pe_int (pa_cons pe_int pa_nil))) pa_nil)) pa_nil)))) (pa_cons (pe_tup (pa_cons pe_str (pa_cons (pe_tup (pa_cons pe_int (pa_cons pe_int pa_nil))) (pa_cons (pe_tup (pa_cons (pe_tup (pa_cons (pv 1) (pa_cons pe_int (pa_cons pe_int pa_nil)))) pa_nil)) pa_nil)))) pa_nil))))))
      (pss_cons (ps_set (i := 3) nd rfl (.inl rfl) (pe_op op_cat (pv 3) (pe_lst (pa_cons (pe_tup (pa_cons pe_str (pa_cons (pe_tup (pa_cons pe_int (pa_cons pe_int pa_nil))) (pa_cons (pe_tup (pa_cons (pe_tup (pa_cons (pv 1) pa_nil)) pa_nil)) pa_nil)))) (pa_cons (pe_tup (pa_cons pe_str (pa_cons (pe_tup (pa_cons pe_int (pa_cons pe_int pa_nil))) (pa_cons (pe_tup (pa_cons (pe_lst (pa_cons (pv 1) (pa_cons pe_int pa_nil))) pa_nil)) pa_nil)))) (pa_cons (pe_tup (pa_cons pe_str (pa_cons (pe_tup (pa_cons pe_int (pa_cons pe_int (pa_cons pe_int pa_nil)))) (pa_cons (pe_tup pa_nil) pa_nil)))) (pa_cons (pe_tup (pa_cons pe_str pa_nil)) pa_nil)))))))
      (pss_one (ps_ret (pe_ix ix_list (pv 3) (pe_op op_mod (pv 0) (pe_callB call_len_seq (by rfl) ml PySem.boot_len (pa_cons (pv 3) pa_nil))) (fun _ _ => rfl))))))))))))))))))), ?_⟩
    refine lit_set (i := 2) (K := K) (σ2 := fun v => [some (.int c), some (.str z), some v, none]) (fun _ => rfl) (B := fun _ => True) (d := (.tuple [(.str z), (.int 1)])) (by have mo : Mono (fun _ : Hp => True) := (fun _ _ _ h => h); exact (lit_tup (lits_cons mo (lit_var rfl fun _ _ => .str _) (lits_cons mo (lit_c fun _ => .int _) lits_nil)) (by show 2 ≤ sizeLine; decide))) trivial fun H1 vm s1 hm1 => ?_
    refine lit_setL (i := 3) (K := K) (σ2 := fun l => [some (.int c), some (.str z), some vm, some (.ref l)]) (fun _ => rfl) (B := fun H => Dp K H vm (.tuple [(.str z), (.int 1)])) (ds := badLS0 z) (by have mo : Mono (fun H => Dp K H vm (.tuple [(.str z), (.int 1)])) := dp_mono; exact (lits_cons mo (lit_c fun _ => .non) (lits_cons mo (lit_c fun _ => .bl _) (lits_cons mo (lit_c fun _ => .int _) (lits_cons mo (lit_var rfl fun _ _ => .str _) (lits_cons mo (lit_tup lits_nil (by show 0 ≤ sizeLine; decide)) (lits_cons mo (lit_tup (lits_cons mo (lit_c fun _ => .str _) (lits_cons mo (lit_c fun _ => .int _) lits_nil)) (by show 2 ≤ sizeLine; decide)) (lits_cons mo (lit_lst (lits_cons mo (lit_c fun _ => .str _) lits_nil) (by show 1 ≤ sizeLine; decide)) (lits_cons mo (lit_tup (lits_cons mo (lit_c fun _ => .str _) lits_nil) (by show 1 ≤ sizeLine; decide)) (lits_cons mo (lit_tup (lits_cons mo (lit_c fun _ => .str _) (lits_cons mo (lit_c fun _ => .str _) lits_nil)) (by show 2 ≤ sizeLine; decide)) lits_nil)))))))))) (by show 9 ≤ sizeLine; decide) hm1 fun H2 l2 s2 h2 => ?_
    have hm2 := dp_same s2 _ _ hm1
    have s12 := s1.trans s2
    refine lit_setC (i := 3) (K := K) (σ2 := fun l => [some (.int c), some (.str z), some vm, some (.ref l)]) (fun _ => rfl) (G := fun H => Dp K H vm (.tuple [(.str z), (.int 1)])) (ds := badLS0 z) (es := badLS1 z) dp_mono rfl (by have mo : Mono (fun H => LAt K l2 (badLS0 z) H ∧ Dp K H vm (.tuple [(.str z), (.int 1)])) := and_mono lat_mono dp_mono; exact (lits_cons mo (lit_tup (lits_cons mo (lit_c fun _ => .str _) (lits_cons mo (lit_add mo (lit_var rfl fun _ _ => .str _) (lit_c fun _ => .str _) (by have := hw.2.1; have := sizeLine_eq; have e1 : (Str.ofString "=").length = 1 := (by decide +kernel); have e2 : (Str.ofString "abcdefgh").length = 8 := (by decide +kernel); simp only [e1, e2]; omega)) lits_nil)) (by show 2 ≤ sizeLine; decide)) lits_nil)) (by show 1 ≤ sizeLine; decide) (by show 10 ≤ sizeLine; decide) h2 hm2 fun H3 l3 s3 h3 => ?_
    have hm3 := dp_same s3 _ _ hm2
    have s13 := s12.trans s3
    refine lit_setC (i := 3) (K := K) (σ2 := fun l => [some (.int c), some (.str z), some vm, some (.ref l)]) (fun _ => rfl) (G := fun H => Dp K H vm (.tuple [(.str z), (.int 1)])) (ds := (badLS0 z) ++ badLS1 z) (es := badLS2 z) dp_mono rfl (by have mo : Mono (fun H => LAt K l3 ((badLS0 z) ++ badLS1 z) H ∧ Dp K H vm (.tuple [(.str z), (.int 1)])) := and_mono lat_mono dp_mono; exact (lits_cons mo (lit_tup (lits_cons mo (lit_c fun _ => .str _) (lits_cons mo (lit_c fun _ => .str _) lits_nil)) (by show 2 ≤ sizeLine; decide)) (lits_cons mo (lit_tup (lits_cons mo (lit_c fun _ => .str _) (lits_cons mo (lit_var rfl fun _ _ => .str _) (lits_cons mo (lit_var rfl fun _ _ => .str _) lits_nil))) (by show 3 ≤ sizeLine; decide)) (lits_cons mo (lit_tup (lits_cons mo (lit_c fun _ => .str _) (lits_cons mo (lit_c fun _ => .int _) lits_nil)) (by show 2 ≤ sizeLine; decide)) (lits_cons mo (lit_tup (lits_cons mo (lit_c fun _ => .str _) (lits_cons mo (lit_c fun _ => .str _) lits_nil)) (by show 2 ≤ sizeLine; decide)) (lits_cons mo (lit_tup (lits_cons mo (lit_c fun _ => .str _) (lits_cons mo (lit_tup (lits_cons mo (lit_c fun _ => .int _) (lits_cons mo (lit_c fun _ => .int _) lits_nil)) (by show 2 ≤ sizeLine; decide)) lits_nil)) (by show 2 ≤ sizeLine; decide)) lits_nil)))))) (by show 5 ≤ sizeLine; decide) (by show 15 ≤ sizeLine; decide) h3 hm3 fun H4 l4 s4 h4 => ?_
    have hm4 := dp_same s4 _ _ hm3
    have s14 := s13.trans s4
    refine lit_setC (i := 3) (K := K) (σ2 := fun l => [some (.int c), some (.str z), some vm, some (.ref l)]) (fun _ => rfl) (G := fun H => Dp K H vm (.tuple [(.str z), (.int 1)])) (ds := ((badLS0 z) ++ badLS1 z) ++ badLS2 z) (es := badLS3 z) dp_mono rfl (by have mo : Mono (fun H => LAt K l4 (((badLS0 z) ++ badLS1 z) ++ badLS2 z) H ∧ Dp K H vm (.tuple [(.str z), (.int 1)])) := and_mono lat_mono dp_mono; exact (lits_cons mo (lit_tup (lits_cons mo (lit_c fun _ => .str _) (lits_cons mo (lit_tup (lits_cons mo (lit_c fun _ => .int _) (lits_cons mo (lit_c fun _ => .int _) lits_nil)) (by show 2 ≤ sizeLine; decide)) (lits_cons mo (lit_tup lits_nil (by show 0 ≤ sizeLine; decide)) lits_nil))) (by show 3 ≤ sizeLine; decide)) lits_nil)) (by show 1 ≤ sizeLine; decide) (by show 16 ≤ sizeLine; decide) h4 hm4 fun H5 l5 s5 h5 => ?_
    have hm5 := dp_same s5 _ _ hm4
    have s15 := s14.trans s5
    refine lit_setC (i := 3) (K := K) (σ2 := fun l => [some (.int c), some (.str z), some vm, some (.ref l)]) (fun _ => rfl) (G := fun H => Dp K H vm (.tuple [(.str z), (.int 1)])) (ds := (((badLS0 z) ++ badLS1 z) ++ badLS2 z) ++ badLS3 z) (es := badLS4 z) dp_mono rfl (by have mo : Mono (fun H => LAt K l5 ((((badLS0 z) ++ badLS1 z) ++ badLS2 z) ++ badLS3 z) H ∧ Dp K H vm (.tuple [(.str z), (.int 1)])) := and_mono lat_mono dp_mono; exact (lits_cons mo (lit_tup (lits_cons mo (lit_c fun _ => .str _) (lits_cons mo (lit_tup (lits_cons mo (lit_c fun _ => .int _) (lits_cons mo (lit_c fun _ => .int _) lits_nil)) (by show 2 ≤ sizeLine; decide)) (lits_cons mo (lit_tup lits_nil (by show 0 ≤ sizeLine; decide)) lits_nil))) (by show 3 ≤ sizeLine; decide)) (lits_cons mo (lit_tup (lits_cons mo (lit_c fun _ => .str _) (lits_cons mo (lit_tup (lits_cons mo (lit_c fun _ => .int _) (lits_cons mo (lit_neg (lit_c fun _ => .int _)) lits_nil)) (by show 2 ≤ sizeLine; decide)) (lits_cons mo (lit_tup lits_nil (by show 0 ≤ sizeLine; decide)) lits_nil))) (by show 3 ≤ sizeLine; decide)) (lits_cons mo (lit_tup (lits_cons mo (lit_c fun _ => .str _) (lits_cons mo (lit_tup (lits_cons mo (lit_c fun _ => .bl _) (lits_cons mo (lit_c fun _ => .int _) lits_nil)) (by show 2 ≤ sizeLine; decide)) (lits_cons mo (lit_tup lits_nil (by show 0 ≤ sizeLine; decide)) lits_nil))) (by show 3 ≤ sizeLine; decide)) (lits_cons mo (lit_tup (lits_cons mo (lit_c fun _ => .str _) (lits_cons mo (lit_tup (lits_cons mo (lit_c fun _ => .int _) (lits_cons mo (lit_c fun _ => .bl _) lits_nil)) (by show 2 ≤ sizeLine; decide)) (lits_cons mo (lit_tup lits_nil (by show 0 ≤ sizeLine; decide)) lits_nil))) (by show 3 ≤ sizeLine; decide)) lits_nil))))) (by show 4 ≤ sizeLine; decide) (by show 20 ≤ sizeLine; decide) h5 hm5 fun H6 l6 s6 h6 => ?_
    have hm6 := dp_same s6 _ _ hm5
    have s16 := s15.trans s6
    refine lit_setC (i := 3) (K := K) (σ2 := fun l => [some (.int c), some (.str z), some vm, some (.ref l)]) (fun _ => rfl) (G := fun H => Dp K H vm (.tuple [(.str z), (.int 1)])) (ds := ((((badLS0 z) ++ badLS1 z) ++ badLS2 z) ++ badLS3 z) ++ badLS4 z) (es := badLS5 z) dp_mono rfl (by have mo : Mono (fun H => LAt K l6 (((((badLS0 z) ++ badLS1 z) ++ badLS2 z) ++ badLS3 z) ++ badLS4 z) H ∧ Dp K H vm (.tuple [(.str z), (.int 1)])) := and_mono lat_mono dp_mono; exact (lits_cons mo (lit_tup (lits_cons mo (lit_c fun _ => .str _) (lits_cons mo (lit_c fun _ => .int _) (lits_cons mo (lit_tup lits_nil (by show 0 ≤ sizeLine; decide)) lits_nil))) (by show 3 ≤ sizeLine; decide)) lits_nil)) (by show 1 ≤ sizeLine; decide) (by show 21 ≤ sizeLine; decide) h6 hm6 fun H7 l7 s7 h7 => ?_
    have hm7 := dp_same s7 _ _ hm6
    have s17 := s16.trans s7
    refine lit_setC (i := 3) (K := K) (σ2 := fun l => [some (.int c), some (.str z), some vm, some (.ref l)]) (fun _ => rfl) (G := fun H => Dp K H vm (.tuple [(.str z), (.int 1)])) (ds := (((((badLS0 z) ++ badLS1 z) ++ badLS2 z) ++ badLS3 z) ++ badLS4 z) ++ badLS5 z) (es := badLS6 z) dp_mono rfl (by have mo : Mono (fun H => LAt K l7 ((((((badLS0 z) ++ badLS1 z) ++ badLS2 z) ++ badLS3 z) ++ badLS4 z) ++ badLS5 z) H ∧ Dp K H vm (.tuple [(.str z), (.int 1)])) := and_mono lat_mono dp_mono; exact (lits_cons mo (lit_tup (lits_cons mo (lit_c fun _ => .str _) (lits_cons mo (lit_tup (lits_cons mo (lit_i0 (c := 1000000001) mo (lit_iC (c := 1000000000) mo (lit_c fun _ => .int _) (lit_c fun _ => .int _) ⟨by decide, by decide, by decide⟩ rfl) (lit_c fun _ => .int _) rfl) (lits_cons mo (lit_c fun _ => .int _) lits_nil)) (by show 2 ≤ sizeLine; decide)) (lits_cons mo (lit_tup lits_nil (by show 0 ≤ sizeLine; decide)) lits_nil))) (by show 3 ≤ sizeLine; decide)) (lits_cons mo (lit_tup (lits_cons mo (lit_c fun _ => .str _) (lits_cons mo (lit_tup (lits_cons mo (lit_i0 (c := -1000000001) mo (lit_neg (lit_c fun _ => .int _)) (lit_iC (c := 1000000000) mo (lit_c fun _ => .int _) (lit_c fun _ => .int _) ⟨by decide, by decide, by decide⟩ rfl) rfl) (lits_cons mo (lit_c fun _ => .int _) lits_nil)) (by show 2 ≤ sizeLine; decide)) (lits_cons mo (lit_tup lits_nil (by show 0 ≤ sizeLine; decide)) lits_nil))) (by show 3 ≤ sizeLine; decide)) (lits_cons mo (lit_tup (lits_cons mo (lit_c fun _ => .str _) (lits_cons mo (lit_tup (lits_cons mo (lit_c fun _ => .int _) (lits_cons mo (lit_i0 (c := 1000000001) mo (lit_iC (c := 1000000000) mo (lit_c fun _ => .int _) (lit_c fun _ => .int _) ⟨by decide, by decide, by decide⟩ rfl) (lit_c fun _ => .int _) rfl) lits_nil)) (by show 2 ≤ sizeLine; decide)) (lits_cons mo (lit_tup lits_nil (by show 0 ≤ sizeLine; decide)) lits_nil))) (by show 3 ≤ sizeLine; decide)) lits_nil)))) (by show 3 ≤ sizeLine; decide) (by show 24 ≤ sizeLine; decide) h7 hm7 fun H8 l8 s8 h8 => ?_
    have hm8 := dp_same s8 _ _ hm7
    have s18 := s17.trans s8
    refine lit_setC (i := 3) (K := K) (σ2 := fun l => [some (.int c), some (.str z), some vm, some (.ref l)]) (fun _ => rfl) (G := fun H => Dp K H vm (.tuple [(.str z), (.int 1)])) (ds := ((((((badLS0 z) ++ badLS1 z) ++ badLS2 z) ++ badLS3 z) ++ badLS4 z) ++ badLS5 z) ++ badLS6 z) (es := badLS7 z) dp_mono rfl (by have mo : Mono (fun H => LAt K l8 (((((((badLS0 z) ++ badLS1 z) ++ badLS2 z) ++ badLS3 z) ++ badLS4 z) ++ badLS5 z) ++ badLS6 z) H ∧ Dp K H vm (.tuple [(.str z), (.int 1)])) := and_mono lat_mono dp_mono; exact (lits_cons mo (lit_tup (lits_cons mo (lit_c fun _ => .str _) (lits_cons mo (lit_lst (lits_cons mo (lit_c fun _ => .int _) (lits_cons mo (lit_c fun _ => .int _) lits_nil)) (by show 2 ≤ sizeLine; decide)) (lits_cons mo (lit_tup lits_nil (by show 0 ≤ sizeLine; decide)) lits_nil))) (by show 3 ≤ sizeLine; decide)) (lits_cons mo (lit_tup (lits_cons mo (lit_c fun _ => .str _) (lits_cons mo (lit_tup (lits_cons mo (lit_c fun _ => .int _) (lits_cons mo (lit_c fun _ => .int _) lits_nil)) (by show 2 ≤ sizeLine; decide)) (lits_cons mo (lit_tup lits_nil (by show 0 ≤ sizeLine; decide)) lits_nil))) (by show 3 ≤ sizeLine; decide)) (lits_cons mo (lit_tup (lits_cons mo (lit_c fun _ => .str _) (lits_cons mo (lit_tup (lits_cons mo (lit_c fun _ => .int _) (lits_cons mo (lit_c fun _ => .int _) lits_nil)) (by show 2 ≤ sizeLine; decide)) (lits_cons mo (lit_lst (lits_cons mo (lit_var rfl fun _ h => h.2) lits_nil) (by show 1 ≤ sizeLine; decide)) lits_nil))) (by show 3 ≤ sizeLine; decide)) (lits_cons mo (lit_tup (lits_cons mo (lit_c fun _ => .str _) (lits_cons mo (lit_tup (lits_cons mo (lit_c fun _ => .int _) (lits_cons mo (lit_c fun _ => .int _) lits_nil)) (by show 2 ≤ sizeLine; decide)) (lits_cons mo (lit_tup (lits_cons mo (lit_tup (lits_cons mo (lit_var rfl fun _ _ => .str _) (lits_cons mo (lit_c fun _ => .int _) lits_nil)) (by show 2 ≤ sizeLine; decide)) lits_nil) (by show 1 ≤ sizeLine; decide)) lits_nil))) (by show 3 ≤ sizeLine; decide)) lits_nil))))) (by show 4 ≤ sizeLine; decide) (by show 28 ≤ sizeLine; decide) h8 hm8 fun H9 l9 s9 h9 => ?_
    have hm9 := dp_same s9 _ _ hm8
    have s19 := s18.trans s9
    refine lit_setC (i := 3) (K := K) (σ2 := fun l => [some (.int c), some (.str z), some vm, some (.ref l)]) (fun _ => rfl) (G := fun H => Dp K H vm (.tuple [(.str z), (.int 1)])) (ds := (((((((badLS0 z) ++ badLS1 z) ++ badLS2 z) ++ badLS3 z) ++ badLS4 z) ++ badLS5 z) ++ badLS6 z) ++ badLS7 z) (es := badLS8 z) dp_mono rfl (by have mo : Mono (fun H => LAt K l9 ((((((((badLS0 z) ++ badLS1 z) ++ badLS2 z) ++ badLS3 z) ++ badLS4 z) ++ badLS5 z) ++ badLS6 z) ++ badLS7 z) H ∧ Dp K H vm (.tuple [(.str z), (.int 1)])) := and_mono lat_mono dp_mono; exact (lits_cons mo (lit_tup (lits_cons mo (lit_c fun _ => .str _) (lits_cons mo (lit_tup (lits_cons mo (lit_c fun _ => .int _) (lits_cons mo (lit_c fun _ => .int _) lits_nil)) (by show 2 ≤ sizeLine; decide)) (lits_cons mo (lit_tup (lits_cons mo (lit_tup (lits_cons mo (lit_var rfl fun _ _ => .str _) (lits_cons mo (lit_c fun _ => .int _) lits_nil)) (by show 2 ≤ sizeLine; decide)) lits_nil) (by show 1 ≤ sizeLine; decide)) lits_nil))) (by show 3 ≤ sizeLine; decide)) (lits_cons mo (lit_tup (lits_cons mo (lit_c fun _ => .str _) (lits_cons mo (lit_tup (lits_cons mo (lit_c fun _ => .int _) (lits_cons mo (lit_c fun _ => .int _) lits_nil)) (by show 2 ≤ sizeLine; decide)) (lits_cons mo (lit_tup (lits_cons mo (lit_tup (lits_cons mo (lit_var rfl fun _ _ => .str _) (lits_cons mo (lit_neg (lit_c fun _ => .int _)) lits_nil)) (by show 2 ≤ sizeLine; decide)) lits_nil) (by show 1 ≤ sizeLine; decide)) lits_nil))) (by show 3 ≤ sizeLine; decide)) (lits_cons mo (lit_tup (lits_cons mo (lit_c fun _ => .str _) (lits_cons mo (lit_tup (lits_cons mo (lit_c fun _ => .int _) (lits_cons mo (lit_c fun _ => .int _) lits_nil)) (by show 2 ≤ sizeLine; decide)) (lits_cons mo (lit_tup (lits_cons mo (lit_tup (lits_cons mo (lit_var rfl fun _ _ => .str _) (lits_cons mo (lit_c fun _ => .bl _) lits_nil)) (by show 2 ≤ sizeLine; decide)) lits_nil) (by show 1 ≤ sizeLine; decide)) lits_nil))) (by show 3 ≤ sizeLine; decide)) lits_nil)))) (by show 3 ≤ sizeLine; decide) (by show 31 ≤ sizeLine; decide) h9 hm9 fun H10 l10 s10 h10 => ?_
    have hm10 := dp_same s10 _ _ hm9
    have s110 := s19.trans s10
    refine lit_setC (i := 3) (K := K) (σ2 := fun l => [some (.int c), some (.str z), some vm, some (.ref l)]) (fun _ => rfl) (G := fun H => Dp K H vm (.tuple [(.str z), (.int 1)])) (ds := ((((((((badLS0 z) ++ badLS1 z) ++ badLS2 z) ++ badLS3 z) ++ badLS4 z) ++ badLS5 z) ++ badLS6 z) ++ badLS7 z) ++ badLS8 z) (es := badLS9 z) dp_mono rfl (by have mo : Mono (fun H => LAt K l10 (((((((((badLS0 z) ++ badLS1 z) ++ badLS2 z) ++ badLS3 z) ++ badLS4 z) ++ badLS5 z) ++ badLS6 z) ++ badLS7 z) ++ badLS8 z) H ∧ Dp K H vm (.tuple [(.str z), (.int 1)])) := and_mono lat_mono dp_mono; exact (lits_cons mo (lit_tup (lits_cons mo (lit_c fun _ => .str _) (lits_cons mo (lit_tup (lits_cons mo (lit_c fun _ => .int _) (lits_cons mo (lit_c fun _ => .int _) lits_nil)) (by show 2 ≤ sizeLine; decide)) (lits_cons mo (lit_tup (lits_cons mo (lit_tup (lits_cons mo (lit_add mo (lit_c fun _ => .str _) (lit_var rfl fun _ _ => .str _) (by have := hw.2.1; have := sizeLine_eq; have e1 : (Str.ofString "=").length = 1 := (by decide +kernel); have e2 : (Str.ofString "abcdefgh").length = 8 := (by decide +kernel); simp only [e1, e2]; omega)) (lits_cons mo (lit_c fun _ => .int _) lits_nil)) (by show 2 ≤ sizeLine; decide)) lits_nil) (by show 1 ≤ sizeLine; decide)) lits_nil))) (by show 3 ≤ sizeLine; decide)) (lits_cons mo (lit_tup (lits_cons mo (lit_c fun _ => .str _) (lits_cons mo (lit_tup (lits_cons mo (lit_c fun _ => .int _) (lits_cons mo (lit_c fun _ => .int _) lits_nil)) (by show 2 ≤ sizeLine; decide)) (lits_cons mo (lit_tup (lits_cons mo (lit_tup (lits_cons mo (lit_c fun _ => .str _) (lits_cons mo (lit_c fun _ => .int _) lits_nil)) (by show 2 ≤ sizeLine; decide)) (lits_cons mo (lit_tup (lits_cons mo (lit_c fun _ => .str _) (lits_cons mo (lit_c fun _ => .int _) lits_nil)) (by show 2 ≤ sizeLine; decide)) lits_nil)) (by show 2 ≤ sizeLine; decide)) lits_nil))) (by show 3 ≤ sizeLine; decide)) (lits_cons mo (lit_tup (lits_cons mo (lit_c fun _ => .str _) (lits_cons mo (lit_tup (lits_cons mo (lit_c fun _ => .int _) (lits_cons mo (lit_c fun _ => .int _) lits_nil)) (by show 2 ≤ sizeLine; decide)) (lits_cons mo (lit_tup (lits_cons mo (lit_var rfl fun _ h => h.2) (lits_cons mo (lit_var rfl fun _ h => h.2) lits_nil)) (by show 2 ≤ sizeLine; decide)) lits_nil))) (by show 3 ≤ sizeLine; decide)) lits_nil)))) (by show 3 ≤ sizeLine; decide) (by show 34 ≤ sizeLine; decide) h10 hm10 fun H11 l11 s11 h11 => ?_
    have hm11 := dp_same s11 _ _ hm10
    have s111 := s110.trans s11
    refine lit_setC (i := 3) (K := K) (σ2 := fun l => [some (.int c), some (.str z), some vm, some (.ref l)]) (fun _ => rfl) (G := fun H => Dp K H vm (.tuple [(.str z), (.int 1)])) (ds := (((((((((badLS0 z) ++ badLS1 z) ++ badLS2 z) ++ badLS3 z) ++ badLS4 z) ++ badLS5 z) ++ badLS6 z) ++ badLS7 z) ++ badLS8 z) ++ badLS9 z) (es := badLS10 z) dp_mono rfl (by have mo : Mono (fun H => LAt K l11 ((((((((((badLS0 z) ++ badLS1 z) ++ badLS2 z) ++ badLS3 z) ++ badLS4 z) ++ badLS5 z) ++ badLS6 z) ++ badLS7 z) ++ badLS8 z) ++ badLS9 z) H ∧ Dp K H vm (.tuple [(.str z), (.int 1)])) := and_mono lat_mono dp_mono; exact (lits_cons mo (lit_tup (lits_cons mo (lit_c fun _ => .str _) (lits_cons mo (lit_tup (lits_cons mo (lit_c fun _ => .int _) (lits_cons mo (lit_c fun _ => .int _) lits_nil)) (by show 2 ≤ sizeLine; decide)) (lits_cons mo (lit_tup (lits_cons mo (lit_tup (lits_cons mo (lit_c fun _ => .str _) (lits_cons mo (lit_c fun _ => .int _) lits_nil)) (by show 2 ≤ sizeLine; decide)) (lits_cons mo (lit_tup (lits_cons mo (lit_c fun _ => .str _) (lits_cons mo (lit_c fun _ => .int _) lits_nil)) (by show 2 ≤ sizeLine; decide)) (lits_cons mo (lit_tup (lits_cons mo (lit_c fun _ => .str _) (lits_cons mo (lit_c fun _ => .int _) lits_nil)) (by show 2 ≤ sizeLine; decide)) (lits_cons mo (lit_tup (lits_cons mo (lit_c fun _ => .str _) (lits_cons mo (lit_c fun _ => .int _) lits_nil)) (by show 2 ≤ sizeLine; decide)) (lits_cons mo (lit_tup (lits_cons mo (lit_c fun _ => .str _) (lits_cons mo (lit_c fun _ => .int _) lits_nil)) (by show 2 ≤ sizeLine; decide)) (lits_cons mo (lit_tup (lits_cons mo (lit_c fun _ => .str _) (lits_cons mo (lit_c fun _ => .int _) lits_nil)) (by show 2 ≤ sizeLine; decide)) (lits_cons mo (lit_tup (lits_cons mo (lit_c fun _ => .str _) (lits_cons mo (lit_c fun _ => .int _) lits_nil)) (by show 2 ≤ sizeLine; decide)) lits_nil))))))) (by show 7 ≤ sizeLine; decide)) lits_nil))) (by show 3 ≤ sizeLine; decide)) lits_nil)) (by show 1 ≤ sizeLine; decide) (by show 35 ≤ sizeLine; decide) h11 hm11 fun H12 l12 s12 h12 => ?_
    have hm12 := dp_same s12 _ _ hm11
    have s112 := s111.trans s12
    refine lit_setC (i := 3) (K := K) (σ2 := fun l => [some (.int c), some (.str z), some vm, some (.ref l)]) (fun _ => rfl) (G := fun H => Dp K H vm (.tuple [(.str z), (.int 1)])) (ds := ((((((((((badLS0 z) ++ badLS1 z) ++ badLS2 z) ++ badLS3 z) ++ badLS4 z) ++ badLS5 z) ++ badLS6 z) ++ badLS7 z) ++ badLS8 z) ++ badLS9 z) ++ badLS10 z) (es := badLS11 z) dp_mono rfl (by have mo : Mono (fun H => LAt K l12 (((((((((((badLS0 z) ++ badLS1 z) ++ badLS2 z) ++ badLS3 z) ++ badLS4 z) ++ badLS5 z) ++ badLS6 z) ++ badLS7 z) ++ badLS8 z) ++ badLS9 z) ++ badLS10 z) H ∧ Dp K H vm (.tuple [(.str z), (.int 1)])) := and_mono lat_mono dp_mono; exact (lits_cons mo (lit_tup (lits_cons mo (lit_c fun _ => .str _) (lits_cons mo (lit_tup (lits_cons mo (lit_c fun _ => .int _) (lits_cons mo (lit_c fun _ => .int _) lits_nil)) (by show 2 ≤ sizeLine; decide)) (lits_cons mo (lit_tup (lits_cons mo (lit_tup (lits_cons mo (lit_c fun _ => .str _) (lits_cons mo (lit_c fun _ => .int _) lits_nil)) (by show 2 ≤ sizeLine; decide)) lits_nil) (by show 1 ≤ sizeLine; decide)) lits_nil))) (by show 3 ≤ sizeLine; decide)) (lits_cons mo (lit_tup (lits_cons mo (lit_c fun _ => .str _) (lits_cons mo (lit_tup (lits_cons mo (lit_c fun _ => .int _) (lits_cons mo (lit_c fun _ => .int _) lits_nil)) (by show 2 ≤ sizeLine; decide)) (lits_cons mo (lit_tup (lits_cons mo (lit_tup (lits_cons mo (lit_c fun _ => .str _) (lits_cons mo (lit_c fun _ => .int _) lits_nil)) (by show 2 ≤ sizeLine; decide)) lits_nil) (by show 1 ≤ sizeLine; decide)) lits_nil))) (by show 3 ≤ sizeLine; decide)) (lits_cons mo (lit_tup (lits_cons mo (lit_c fun _ => .str _) (lits_cons mo (lit_tup (lits_cons mo (lit_c fun _ => .int _) (lits_cons mo (lit_c fun _ => .int _) lits_nil)) (by show 2 ≤ sizeLine; decide)) (lits_cons mo (lit_tup (lits_cons mo (lit_tup (lits_cons mo (lit_c fun _ => .str _) (lits_cons mo (lit_c fun _ => .int _) lits_nil)) (by show 2 ≤ sizeLine; decide)) lits_nil) (by show 1 ≤ sizeLine; decide)) lits_nil))) (by show 3 ≤ sizeLine; decide)) lits_nil)))) (by show 3 ≤ sizeLine; decide) (by show 38 ≤ sizeLine; decide) h12 hm12 fun H13 l13 s13 h13 => ?_
    have hm13 := dp_same s13 _ _ hm12
    have s113 := s112.trans s13
    refine lit_setC (i := 3) (K := K) (σ2 := fun l => [some (.int c), some (.str z), some vm, some (.ref l)]) (fun _ => rfl) (G := fun H => Dp K H vm (.tuple [(.str z), (.int 1)])) (ds := (((((((((((badLS0 z) ++ badLS1 z) ++ badLS2 z) ++ badLS3 z) ++ badLS4 z) ++ badLS5 z) ++ badLS6 z) ++ badLS7 z) ++ badLS8 z) ++ badLS9 z) ++ badLS10 z) ++ badLS11 z) (es := badLS12 z) dp_mono rfl (by have mo : Mono (fun H => LAt K l13 ((((((((((((badLS0 z) ++ badLS1 z) ++ badLS2 z) ++ badLS3 z) ++ badLS4 z) ++ badLS5 z) ++ badLS6 z) ++ badLS7 z) ++ badLS8 z) ++ badLS9 z) ++ badLS10 z) ++ badLS11 z) H ∧ Dp K H vm (.tuple [(.str z), (.int 1)])) := and_mono lat_mono dp_mono; exact (lits_cons mo (lit_tup (lits_cons mo (lit_c fun _ => .str _) (lits_cons mo (lit_tup (lits_cons mo (lit_c fun _ => .int _) (lits_cons mo (lit_c fun _ => .int _) lits_nil)) (by show 2 ≤ sizeLine; decide)) (lits_cons mo (lit_tup (lits_cons mo (lit_tup (lits_cons mo (lit_c fun _ => .str _) (lits_cons mo (lit_c fun _ => .int _) lits_nil)) (by show 2 ≤ sizeLine; decide)) lits_nil) (by show 1 ≤ sizeLine; decide)) lits_nil))) (by show 3 ≤ sizeLine; decide)) (lits_cons mo (lit_tup (lits_cons mo (lit_c fun _ => .str _) (lits_cons mo (lit_tup (lits_cons mo (lit_c fun _ => .int _) (lits_cons mo (lit_c fun _ => .int _) lits_nil)) (by show 2 ≤ sizeLine; decide)) (lits_cons mo (lit_tup (lits_cons mo (lit_tup (lits_cons mo (lit_c fun _ => .int _) (lits_cons mo (lit_c fun _ => .int _) lits_nil)) (by show 2 ≤ sizeLine; decide)) lits_nil) (by show 1 ≤ sizeLine; decide)) lits_nil))) (by show 3 ≤ sizeLine; decide)) (lits_cons mo (lit_tup (lits_cons mo (lit_c fun _ => .str _) (lits_cons mo (lit_tup (lits_cons mo (lit_c fun _ => .int _) (lits_cons mo (lit_c fun _ => .int _) lits_nil)) (by show 2 ≤ sizeLine; decide)) (lits_cons mo (lit_tup (lits_cons mo (lit_tup (lits_cons mo (lit_var rfl fun _ _ => .str _) (lits_cons mo (lit_c fun _ => .int _) (lits_cons mo (lit_c fun _ => .int _) lits_nil))) (by show 3 ≤ sizeLine; decide)) lits_nil) (by show 1 ≤ sizeLine; decide)) lits_nil))) (by show 3 ≤ sizeLine; decide)) lits_nil)))) (by show 3 ≤ sizeLine; decide) (by show 41 ≤ sizeLine; decide) h13 hm13 fun H14 l14 s14 h14 => ?_
    have hm14 := dp_same s14 _ _ hm13
    have s114 := s113.trans s14
    refine lit_setC (i := 3) (K := K) (σ2 := fun l => [some (.int c), some (.str z), some vm, some (.ref l)]) (fun _ => rfl) (G := fun H => Dp K H vm (.tuple [(.str z), (.int 1)])) (ds := ((((((((((((badLS0 z) ++ badLS1 z) ++ badLS2 z) ++ badLS3 z) ++ badLS4 z) ++ badLS5 z) ++ badLS6 z) ++ badLS7 z) ++ badLS8 z) ++ badLS9 z) ++ badLS10 z) ++ badLS11 z) ++ badLS12 z) (es := badLS13 z) dp_mono rfl (by have mo : Mono (fun H => LAt K l14 (((((((((((((badLS0 z) ++ badLS1 z) ++ badLS2 z) ++ badLS3 z) ++ badLS4 z) ++ badLS5 z) ++ badLS6 z) ++ badLS7 z) ++ badLS8 z) ++ badLS9 z) ++ badLS10 z) ++ badLS11 z) ++ badLS12 z) H ∧ Dp K H vm (.tuple [(.str z), (.int 1)])) := and_mono lat_mono dp_mono; exact (lits_cons mo (lit_tup (lits_cons mo (lit_c fun _ => .str _) (lits_cons mo (lit_tup (lits_cons mo (lit_c fun _ => .int _) (lits_cons mo (lit_c fun _ => .int _) lits_nil)) (by show 2 ≤ sizeLine; decide)) (lits_cons mo (lit_tup (lits_cons mo (lit_tup (lits_cons mo (lit_var rfl fun _ _ => .str _) lits_nil) (by show 1 ≤ sizeLine; decide)) lits_nil) (by show 1 ≤ sizeLine; decide)) lits_nil))) (by show 3 ≤ sizeLine; decide)) (lits_cons mo (lit_tup (lits_cons mo (lit_c fun _ => .str _) (lits_cons mo (lit_tup (lits_cons mo (lit_c fun _ => .int _) (lits_cons mo (lit_c fun _ => .int _) lits_nil)) (by show 2 ≤ sizeLine; decide)) (lits_cons mo (lit_tup (lits_cons mo (lit_lst (lits_cons mo (lit_var rfl fun _ _ => .str _) (lits_cons mo (lit_c fun _ => .int _) lits_nil)) (by show 2 ≤ sizeLine; decide)) lits_nil) (by show 1 ≤ sizeLine; decide)) lits_nil))) (by show 3 ≤ sizeLine; decide)) (lits_cons mo (lit_tup (lits_cons mo (lit_c fun _ => .str _) (lits_cons mo (lit_tup (lits_cons mo (lit_c fun _ => .int _) (lits_cons mo (lit_c fun _ => .int _) (lits_cons mo (lit_c fun _ => .int _) lits_nil))) (by show 3 ≤ sizeLine; decide)) (lits_cons mo (lit_tup lits_nil (by show 0 ≤ sizeLine; decide)) lits_nil))) (by show 3 ≤ sizeLine; decide)) (lits_cons mo (lit_tup (lits_cons mo (lit_c fun _ => .str _) lits_nil) (by show 1 ≤ sizeLine; decide)) lits_nil))))) (by show 4 ≤ sizeLine; decide) (by show 45 ≤ sizeLine; decide) h14 hm14 fun H15 l15 s15 h15 => ?_
    have hm15 := dp_same s15 _ _ hm14
    have s115 := s114.trans s15
    obtain ⟨xs, ex, dx⟩ := h15
    have hl : xs.length = 45 := dps_len dx
    have hp : (0 : Int) < (xs.length : Int) := by omega
    obtain ⟨j, ej⟩ := Int.eq_ofNat_of_zero_le (Int.emod_nonneg c (show (xs.length : Int) ≠ 0 by omega))
    have hj : j < xs.length := by
      have := Int.emod_lt_of_pos c hp
      omega
    have hv : xs[j]? = some xs[j] := List.getElem?_eq_getElem hj
    obtain ⟨d, hd, hdp⟩ := dps_at dx hv
    refine ⟨_, rfl, _, rfl, _, rfl, l15, xs, rfl, .inl (SqL.of ex), _, _, rfl, rfl, hp, l15, xs, _, xs[j], rfl, rfl, SqL.of ex, (by rw [ej]; exact atI_nat hv), ?_⟩
    exact q _ _ d s115 (List.mem_of_getElem? hd) hdp
end
end MK


set_option Elab.async false
set_option linter.all false
set_option maxRecDepth 100000
set_option maxHeartbeats 4000000
namespace MK
open PySem PySem.Spec PyProof.Rows L2
def badNS0 (g : PyData) : List PyData := [(.tuple [(.str "plus"), g]), (.tuple [(.str "plus"), g, g, g]), (.list [(.str "plus"), g, g]), (.tuple [(.str "Plus"), g, g])]
def badNS1 (g : PyData) : List PyData := [(.tuple [(.str "power"), g, (.int 5)])]
def badNS2 (g : PyData) : List PyData := [(.tuple [(.str "power"), g, (.int (-5))]), (.tuple [(.str "power"), g, (.bool true)]), (.tuple [(.str "power"), g]), (.tuple [(.str "power"), g, g])]
def badNS3 (g : PyData) : List PyData := [(.tuple [(.str "less"), g, g])]
def badNS4 (g : PyData) : List PyData := [(.tuple [(.str "less"), g, g, g]), (.tuple [(.str "less"), g, g, g, g, g]), (.tuple [.none, g, g]), (.tuple [(.int 7), g])]
def badNS5 (g : PyData) : List PyData := [(.tuple [(.str "over"), g, .none]), (.tuple [(.str "times"), .none, g]), (.tuple [(.str "minus"), g, (.tuple [(.str "minus"), g])])]
def badNS6 (g : PyData) : List PyData := [(.tuple [(.str "power"), g, (.int 2), (.int 2)])]
def badN (g : PyData) : List PyData := ((((((badNS0 g) ++ badNS1 g) ++ badNS2 g) ++ badNS3 g) ++ badNS4 g) ++ badNS5 g) ++ badNS6 g
section
variable {P : Program} {w : World} {K : PySem.W.Frag} {mg : Str → Option Value} {base : Heap}
/-! ### _law_bad_node -/
theorem scBadNode : FnScope ["_law_cell", "_law_good", "_law_some"] ["_law_cell", "_law_good"] (defScope sBadNode) := ⟨rfl, rfl, rfl, by decide +kernel, rfl, by decide +kernel, by decide +kernel⟩
def spBadNode (K : PySem.W.Frag) : Sp := fun vs H Q _ => ∃ (c : Int) (x : V) (g : PyData), vs = [.int c, x] ∧ Dp K H x g ∧ ∀ (H' : Hp) (v : V) (d : PyData), Same H H' → d ∈ badN g → Dp K H' v d → Q v H'
set_option maxHeartbeats 40000000 in
theorem ok_badNode {f : Addr} {fd : FuncData} (F : Fun K "_law_bad_node" "_law_bad_node" sBadNode f fd) (ml : mg "len" = none) : FnOk P w K mg base CX0 1 f fd ["_law_cell", "_law_good"] (spBadNode K) := by
  refine F.ok scBadNode (fun vs H Q E h => ?_) (fun cdv A outer s H vs Q E hr h => ?_)
  · obtain ⟨c, x, g, rfl, _⟩ := h
    rfl
  · obtain ⟨c, x, g, rfl, hm0, q⟩ := h
    have nd := scBadNode.nd
    refine ⟨_, (pss_cons (ps_set (i := 2) nd rfl (.inl rfl) (pe_lst (pa_cons (pe_tup (pa_cons pe_str (pa_cons (pv 1) pa_nil))) (pa_cons (pe_tup (pa_cons pe_str (pa_cons (pv 1) (pa_cons (pv 1) (pa_cons (pv 1) pa_nil))))) (pa_cons (pe_lst (pa_cons pe_str (pa_cons (pv 1) (pa_cons (pv 1) pa_nil)))) (pa_cons (pe_tup (pa_cons pe_str (pa_cons (pv 1) (pa_cons (pv 1) pa_nil)))) pa_nil))))))
      (pss_cons (ps_set (i := 2) nd rfl (.inl rfl) (pe_op op_cat (pv 2) (pe_lst (pa_cons (pe_tup (pa_cons pe_str (pa_cons (pv 1) (pa_cons pe_int pa_nil)))) pa_nil))))
      (pss_cons (ps_set (i := 2) nd rfl (.inl rfl) (pe_op op_cat (pv 2) (pe_lst (pa_cons (pe_tup (pa_cons pe_str (pa_cons (pv 1) (pa_cons (pe_un un_neg pe_int) pa_nil)))) (pa_cons (pe_tup (pa_cons pe_str (pa_cons (pv 1) (pa_cons pe_bl pa_nil)))) (pa_cons (pe_tup (pa_cons pe_str (pa_cons (pv 1) pa_nil))) (pa_cons (pe_tup (pa_cons pe_str (pa_cons (pv 1) (pa_cons (pv 1) pa_nil)))) pa_nil)))))))
      (pss_cons (ps_set (i := 2) nd rfl (.inl rfl) (pe_op op_cat (pv 2) (pe_lst (pa_cons (pe_tup (pa_cons pe_str (pa_cons (pv 1) (pa_cons (pv 1) pa_nil)))) pa_nil))))
      (pss_cons (ps_set (i := 2) nd rfl (.inl rfl) (pe_op op_cat (pv 2) (pe_lst (pa_cons (pe_tup (pa_cons pe_str (pa_cons (pv 1) (pa_cons (pv 1) (pa_cons (pv 1) pa_nil))))) (pa_cons (pe_tup (pa_cons pe_str (pa_cons (pv 1) (pa_cons (pv 1) (pa_cons (pv 1) (pa_cons (pv 1) (pa_cons (pv 1) pa_nil))))))) (pa_cons (pe_tup (pa_cons pe_non (pa_cons (pv 1) (pa_cons (pv 1) pa_nil)))) (pa_cons (pe_tup (pa_cons pe_int (pa_cons (pv 1) pa_nil))) pa_nil)))))))
      (pss_cons (ps_set (i := 2) nd rfl (.inl rfl) (pe_op op_cat (pv 2) (pe_lst (pa_cons (pe_tup (pa_cons pe_str (pa_cons (pv 1) (pa_cons pe_non pa_nil)))) (pa_cons (pe_tup (pa_cons pe_str (pa_cons pe_non (pa_cons (pv 1) pa_nil)))) (pa_cons (pe_tup (pa_cons pe_str (pa_cons (pv 1) (pa_cons (pe_tup (pa_cons pe_str (pa_cons (pv 1) pa_nil))) pa_nil)))) pa_nil))))))
      (pss_cons (ps_set (i := 2) nd rfl (.inl rfl) (pe_op op_cat (pv 2) (pe_lst (pa_cons (pe_tup (pa_cons pe_str (pa_cons (pv 1) (pa_cons pe_int (pa_cons pe_int pa_nil))))) pa_nil))))
      (pss_one (ps_ret (pe_ix ix_list (pv 2) (pe_op op_mod (pv 0) (pe_callB call_len_seq (by rfl) ml PySem.boot_len (pa_cons (pv 2) pa_nil))) (fun _ _ => rfl))))))))))), ?_⟩
    refine lit_setL (i := 2) (K := K) (σ2 := fun l => [some (.int c), some x, some (.ref l)]) (fun _ => rfl) (B := fun H => Dp K H x g) (ds := badNS0 g) (by have mo : Mono (fun H => Dp K H x g) := dp_mono; exact (lits_cons mo (lit_tup (lits_cons mo (lit_c fun _ => .str _) (lits_cons mo (lit_var rfl fun _ h => h) lits_nil)) (by show 2 ≤ sizeLine; decide)) (lits_cons mo (lit_tup (lits_cons mo (lit_c fun _ => .str _) (lits_cons mo (lit_var rfl fun _ h => h) (lits_cons mo (lit_var rfl fun _ h => h) (lits_cons mo (lit_var rfl fun _ h => h) lits_nil)))) (by show 4 ≤ sizeLine; decide)) (lits_cons mo (lit_lst (lits_cons mo (lit_c fun _ => .str _) (lits_cons mo (lit_var rfl fun _ h => h) (lits_cons mo (lit_var rfl fun _ h => h) lits_nil))) (by show 3 ≤ sizeLine; decide)) (lits_cons mo (lit_tup (lits_cons mo (lit_c fun _ => .str _) (lits_cons mo (lit_var rfl fun _ h => h) (lits_cons mo (lit_var rfl fun _ h => h) lits_nil))) (by show 3 ≤ sizeLine; decide)) lits_nil))))) (by show 4 ≤ sizeLine; decide) hm0 fun H1 l1 s1 h1 => ?_
    have hm1 := dp_same s1 _ _ hm0
    have s11 := s1
    refine lit_setC (i := 2) (K := K) (σ2 := fun l => [some (.int c), some x, some (.ref l)]) (fun _ => rfl) (G := fun H => Dp K H x g) (ds := badNS0 g) (es := badNS1 g) dp_mono rfl (by have mo : Mono (fun H => LAt K l1 (badNS0 g) H ∧ Dp K H x g) := and_mono lat_mono dp_mono; exact (lits_cons mo (lit_tup (lits_cons mo (lit_c fun _ => .str _) (lits_cons mo (lit_var rfl fun _ h => h.2) (lits_cons mo (lit_c fun _ => .int _) lits_nil))) (by show 3 ≤ sizeLine; decide)) lits_nil)) (by show 1 ≤ sizeLine; decide) (by show 5 ≤ sizeLine; decide) h1 hm1 fun H2 l2 s2 h2 => ?_
    have hm2 := dp_same s2 _ _ hm1
    have s12 := s11.trans s2
    refine lit_setC (i := 2) (K := K) (σ2 := fun l => [some (.int c), some x, some (.ref l)]) (fun _ => rfl) (G := fun H => Dp K H x g) (ds := (badNS0 g) ++ badNS1 g) (es := badNS2 g) dp_mono rfl (by have mo : Mono (fun H => LAt K l2 ((badNS0 g) ++ badNS1 g) H ∧ Dp K H x g) := and_mono lat_mono dp_mono; exact (lits_cons mo (lit_tup (lits_cons mo (lit_c fun _ => .str _) (lits_cons mo (lit_var rfl fun _ h => h.2) (lits_cons mo (lit_neg (lit_c fun _ => .int _)) lits_nil))) (by show 3 ≤ sizeLine; decide)) (lits_cons mo (lit_tup (lits_cons mo (lit_c fun _ => .str _) (lits_cons mo (lit_var rfl fun _ h => h.2) (lits_cons mo (lit_c fun _ => .bl _) lits_nil))) (by show 3 ≤ sizeLine; decide)) (lits_cons mo (lit_tup (lits_cons mo (lit_c fun _ => .str _) (lits_cons mo (lit_var rfl fun _ h => h.2) lits_nil)) (by show 2 ≤ sizeLine; decide)) (lits_cons mo (lit_tup (lits_cons mo (lit_c fun _ => .str _) (lits_cons mo (lit_var rfl fun _ h => h.2) (lits_cons mo (lit_var rfl fun _ h => h.2) lits_nil))) (by show 3 ≤ sizeLine; decide)) lits_nil))))) (by show 4 ≤ sizeLine; decide) (by show 9 ≤ sizeLine; decide) h2 hm2 fun H3 l3 s3 h3 => ?_
    have hm3 := dp_same s3 _ _ hm2
    have s13 := s12.trans s3
    refine lit_setC (i := 2) (K := K) (σ2 := fun l => [some (.int c), some x, some (.ref l)]) (fun _ => rfl) (G := fun H => Dp K H x g) (ds := ((badNS0 g) ++ badNS1 g) ++ badNS2 g) (es := badNS3 g) dp_mono rfl (by have mo : Mono (fun H => LAt K l3 (((badNS0 g) ++ badNS1 g) ++ badNS2 g) H ∧ Dp K H x g) := and_mono lat_mono dp_mono; exact (lits_cons mo (lit_tup (lits_cons mo (lit_c fun _ => .str _) (lits_cons mo (lit_var rfl fun _ h => h.2) (lits_cons mo (lit_var rfl fun _ h => h.2) lits_nil))) (by show 3 ≤ sizeLine; decide)) lits_nil)) (by show 1 ≤ sizeLine; decide) (by show 10 ≤ sizeLine; decide) h3 hm3 fun H4 l4 s4 h4 => ?_
    have hm4 := dp_same s4 _ _ hm3
    have s14 := s13.trans s4
    refine lit_setC (i := 2) (K := K) (σ2 := fun l => [some (.int c), some x, some (.ref l)]) (fun _ => rfl) (G := fun H => Dp K H x g) (ds := (((badNS0 g) ++ badNS1 g) ++ badNS2 g) ++ badNS3 g) (es := badNS4 g) dp_mono rfl (by have mo : Mono (fun H => LAt K l4 ((((badNS0 g) ++ badNS1 g) ++ badNS2 g) ++ badNS3 g) H ∧ Dp K H x g) := and_mono lat_mono dp_mono; exact (lits_cons mo (lit_tup (lits_cons mo (lit_c fun _ => .str _) (lits_cons mo (lit_var rfl fun _ h => h.2) (lits_cons mo (lit_var rfl fun _ h => h.2) (lits_cons mo (lit_var rfl fun _ h => h.2) lits_nil)))) (by show 4 ≤ sizeLine; decide)) (lits_cons mo (lit_tup (lits_cons mo (lit_c fun _ => .str _) (lits_cons mo (lit_var rfl fun _ h => h.2) (lits_cons mo (lit_var rfl fun _ h => h.2) (lits_cons mo (lit_var rfl fun _ h => h.2) (lits_cons mo (lit_var rfl fun _ h => h.2) (lits_cons mo (lit_var rfl fun _ h => h.2) lits_nil)))))) (by show 6 ≤ sizeLine; decide)) (lits_cons mo (lit_tup (lits_cons mo (lit_c fun _ => .non) (lits_cons mo (lit_var rfl fun _ h => h.2) (lits_cons mo (lit_var rfl fun _ h => h.2) lits_nil))) (by show 3 ≤ sizeLine; decide)) (lits_cons mo (lit_tup (lits_cons mo (lit_c fun _ => .int _) (lits_cons mo (lit_var rfl fun _ h => h.2) lits_nil)) (by show 2 ≤ sizeLine; decide)) lits_nil))))) (by show 4 ≤ sizeLine; decide) (by show 14 ≤ sizeLine; decide) h4 hm4 fun H5 l5 s5 h5 => ?_
    have hm5 := dp_same s5 _ _ hm4
    have s15 := s14.trans s5
    refine lit_setC (i := 2) (K := K) (σ2 := fun l => [some (.int c), some x, some (.ref l)]) (fun _ => rfl) (G := fun H => Dp K H x g) (ds := ((((badNS0 g) ++ badNS1 g) ++ badNS2 g) ++ badNS3 g) ++ badNS4 g) (es := badNS5 g) dp_mono rfl (by have mo : Mono (fun H => LAt K l5 (((((badNS0 g) ++ badNS1 g) ++ badNS2 g) ++ badNS3 g) ++ badNS4 g) H ∧ Dp K H x g) := and_mono lat_mono dp_mono; exact (lits_cons mo (lit_tup (lits_cons mo (lit_c fun _ => .str _) (lits_cons mo (lit_var rfl fun _ h => h.2) (lits_cons mo (lit_c fun _ => .non) lits_nil))) (by show 3 ≤ sizeLine; decide)) (lits_cons mo (lit_tup (lits_cons mo (lit_c fun _ => .str _) (lits_cons mo (lit_c fun _ => .non) (lits_cons mo (lit_var rfl fun _ h => h.2) lits_nil))) (by show 3 ≤ sizeLine; decide)) (lits_cons mo (lit_tup (lits_cons mo (lit_c fun _ => .str _) (lits_cons mo (lit_var rfl fun _ h => h.2) (lits_cons mo (lit_tup (lits_cons mo (lit_c fun _ => .str _) (lits_cons mo (lit_var rfl fun _ h => h.2) lits_nil)) (by show 2 ≤ sizeLine; decide)) lits_nil))) (by show 3 ≤ sizeLine; decide)) lits_nil)))) (by show 3 ≤ sizeLine; decide) (by show 17 ≤ sizeLine; decide) h5 hm5 fun H6 l6 s6 h6 => ?_
    have hm6 := dp_same s6 _ _ hm5
    have s16 := s15.trans s6
    refine lit_setC (i := 2) (K := K) (σ2 := fun l => [some (.int c), some x, some (.ref l)]) (fun _ => rfl) (G := fun H => Dp K H x g) (ds := (((((badNS0 g) ++ badNS1 g) ++ badNS2 g) ++ badNS3 g) ++ badNS4 g) ++ badNS5 g) (es := badNS6 g) dp_mono rfl (by have mo : Mono (fun H => LAt K l6 ((((((badNS0 g) ++ badNS1 g) ++ badNS2 g) ++ badNS3 g) ++ badNS4 g) ++ badNS5 g) H ∧ Dp K H x g) := and_mono lat_mono dp_mono; exact (lits_cons mo (lit_tup (lits_cons mo (lit_c fun _ => .str _) (lits_cons mo (lit_var rfl fun _ h => h.2) (lits_cons mo (lit_c fun _ => .int _) (lits_cons mo (lit_c fun _ => .int _) lits_nil)))) (by show 4 ≤ sizeLine; decide)) lits_nil)) (by show 1 ≤ sizeLine; decide) (by show 18 ≤ sizeLine; decide) h6 hm6 fun H7 l7 s7 h7 => ?_
    have hm7 := dp_same s7 _ _ hm6
    have s17 := s16.trans s7
    obtain ⟨xs, ex, dx⟩ := h7
    have hl : xs.length = 18 := dps_len dx
    have hp : (0 : Int) < (xs.length : Int) := by omega
    obtain ⟨j, ej⟩ := Int.eq_ofNat_of_zero_le (Int.emod_nonneg c (show (xs.length : Int) ≠ 0 by omega))
    have hj : j < xs.length := by
      have := Int.emod_lt_of_pos c hp
      omega
    have hv : xs[j]? = some xs[j] := List.getElem?_eq_getElem hj
    obtain ⟨d, hd, hdp⟩ := dps_at dx hv
    refine ⟨_, rfl, _, rfl, _, rfl, l7, xs, rfl, .inl (SqL.of ex), _, _, rfl, rfl, hp, l7, xs, _, xs[j], rfl, rfl, SqL.of ex, (by rw [ej]; exact atI_nat hv), ?_⟩
    exact q _ _ d s17 (List.mem_of_getElem? hd) hdp
end
end MK


set_option Elab.async false
set_option linter.all false
set_option maxRecDepth 100000
set_option maxHeartbeats 4000000
namespace MK
open PySem PySem.Spec PyProof.Rows L2
/-! ### none of the bad leaves has a form; a bad node has none, or a part that has none -/
theorem and_no {a b : Bool} (h : a = false) : (a && b) = false := by rw [h]; rfl
theorem and_no2 {a b : Bool} (h : b = false) : (a && b) = false := by rw [h, Bool.and_false]
theorem form_is (a b : PyData) : formD (.tuple [.str "is", a, b]) = (numD a && measD b) := by
  rw [form_def, if_pos rfl]
  show (decide (lk lenTab "is" = some 3) && (numD a && measD b)) = _
  rw [show decide (lk lenTab "is" = some 3) = true by decide +kernel]
  rfl
theorem form_input (a : PyData) : formD (.tuple [.str "input", a]) = nameD a := by
  rw [form_def, if_neg (by decide +kernel), if_pos rfl]
  show (decide (lk lenTab "input" = some 2) && nameD a) = _
  rw [show decide (lk lenTab "input" = some 2) = true by decide +kernel]
  rfl
theorem meas_bad {ds : List PyData} {p : PyData} (hp : p ∈ ds) (h : pairD p = false) : measD (.tuple ds) = false := by
  have : ds.all pairD = false := by
    rw [List.all_eq_false]
    exact ⟨p, hp, by rw [h]; exact Bool.false_ne_true⟩
  show (decide (ds.length ≤ 6) && ds.all pairD && risB (ds.map nmD)) = false
  rw [this, Bool.and_false]
  rfl
theorem pair_name {a b : PyData} (h : nameD a = false) : pairD (.tuple [a, b]) = false := by
  show (nameD a && wholeD b (-20) 20 && _) = false
  rw [h]
  rfl
theorem pair_whole {a b : PyData} (h : wholeD b (-20) 20 = false) : pairD (.tuple [a, b]) = false := by
  show (nameD a && wholeD b (-20) 20 && _) = false
  rw [h, Bool.and_false]
  rfl
theorem is_meas {a b : PyData} (h : measD b = false) : formD (.tuple [.str "is", a, b]) = false := by
  rw [form_is, h, Bool.and_false]
theorem is_pair {a p : PyData} (h : pairD p = false) : formD (.tuple [.str "is", a, .tuple [p]]) = false := is_meas (meas_bad (List.mem_singleton.mpr rfl) h)
theorem name_long {z : Str} (h : Nm z) : nameD (.str (z ++ Str.ofString "abcdefgh")) = false := by
  show (decide (1 ≤ (z ++ Str.ofString "abcdefgh").length) && decide ((z ++ Str.ofString "abcdefgh").length ≤ 8) && _) = false
  have e : (Str.ofString "abcdefgh").length = 8 := by decide +kernel
  have h1 := h.1
  rw [app_len, e, decide_eq_false (show ¬ z.length + 8 ≤ 8 by omega), Bool.and_false]
  rfl
theorem name_eqs {z : Str} : nameD (.str (Str.ofString "=" ++ z)) = false := by
  show (_ && _ && (Str.ofString "=" ++ z).cps.toList.all azB) = false
  refine and_no2 ?_
  rw [List.all_eq_false]
  refine ⟨61, ?_, by decide +kernel⟩
  show 61 ∈ ((Str.ofString "=").cps ++ z.cps).toList
  rw [Array.toList_append]
  exact List.mem_append_left _ (by decide +kernel)
theorem badL_no {z : Str} (hz : Nm z) : ∀ d ∈ badL z, formD d = false := by
  intro d hd
  unfold badL at hd
  simp only [List.mem_append] at hd
  rcases hd with (((((((((((((h | h) | h) | h) | h) | h) | h) | h) | h) | h) | h) | h) | h) | h)
  · simp only [badLS0, List.mem_cons, List.mem_nil_iff, or_false] at h
    rcases h with rfl | rfl | rfl | rfl | rfl | rfl | rfl | rfl | rfl
    all_goals first | rfl | decide +kernel
  · simp only [badLS1, List.mem_cons, List.mem_nil_iff, or_false] at h
    subst h
    rw [form_input]
    exact name_long hz
  · simp only [badLS2, List.mem_cons, List.mem_nil_iff, or_false] at h
    rcases h with rfl | rfl | rfl | rfl | rfl
    · decide +kernel
    · rw [form_def]
      exact and_no (by decide +kernel : decide (lk lenTab "input" = some 3) = false)
    all_goals decide +kernel
  · simp only [badLS3, List.mem_cons, List.mem_nil_iff, or_false] at h
    subst h
    decide +kernel
  · simp only [badLS4, List.mem_cons, List.mem_nil_iff, or_false] at h
    rcases h with rfl | rfl | rfl | rfl
    all_goals decide +kernel
  · simp only [badLS5, List.mem_cons, List.mem_nil_iff, or_false] at h
    subst h
    decide +kernel
  · simp only [badLS6, List.mem_cons, List.mem_nil_iff, or_false] at h
    rcases h with rfl | rfl | rfl
    all_goals decide +kernel
  · simp only [badLS7, List.mem_cons, List.mem_nil_iff, or_false] at h
    rcases h with rfl | rfl | rfl | rfl
    · decide +kernel
    · decide +kernel
    · exact is_meas rfl
    · refine is_pair ?_
      show (nameD (.str z) && wholeD (.int 0) (-20) 20 && !decide ((0 : Int) = 0)) = false
      exact and_no2 (by decide +kernel)
  · simp only [badLS8, List.mem_cons, List.mem_nil_iff, or_false] at h
    rcases h with rfl | rfl | rfl
    · exact is_pair (pair_whole (by decide +kernel))
    · exact is_pair (pair_whole (by decide +kernel))
    · exact is_pair (pair_whole rfl)
  · simp only [badLS9, List.mem_cons, List.mem_nil_iff, or_false] at h
    rcases h with rfl | rfl | rfl
    · exact is_pair (pair_name name_eqs)
    · decide +kernel
    · refine is_meas ?_
      show (_ && _ && (decide (z.cps.toList < z.cps.toList) && true)) = false
      refine and_no2 (and_no (decide_eq_false (List.lt_irrefl _)))
  · simp only [badLS10, List.mem_cons, List.mem_nil_iff, or_false] at h
    subst h
    decide +kernel
  · simp only [badLS11, List.mem_cons, List.mem_nil_iff, or_false] at h
    rcases h with rfl | rfl | rfl
    all_goals decide +kernel
  · simp only [badLS12, List.mem_cons, List.mem_nil_iff, or_false] at h
    rcases h with rfl | rfl | rfl
    · decide +kernel
    · decide +kernel
    · exact is_pair rfl
  · simp only [badLS13, List.mem_cons, List.mem_nil_iff, or_false] at h
    rcases h with rfl | rfl | rfl | rfl
    · exact is_pair rfl
    · exact is_pair rfl
    · decide +kernel
    · decide +kernel
theorem met_part {k : Str} {r : List PyData} {e : PyData} {n : Nat} (h : lk partTab k = some n) (m : e ∈ r.take n) : Met (.tuple (.str k :: r)) e := by
  refine .down ?_ (.here e)
  rw [parts_def, h]
  exact m
theorem badN_no {g : PyData} : ∀ d ∈ badN g, ∃ x, Met d x ∧ formD x = false := by
  intro d hd
  unfold badN at hd
  simp only [List.mem_append] at hd
  have no : ∀ {k : Str} {n : Nat} {r : List PyData}, r.length + 1 = n → decide (lk lenTab k = some n) = false → ∃ x, Met (.tuple (.str k :: r)) x ∧ formD x = false := fun {k n r} e h => ⟨_, .here _, by
    rw [form_def, e, h]
    rfl⟩
  rcases hd with ((((((h | h) | h) | h) | h) | h) | h)
  · simp only [badNS0, List.mem_cons, List.mem_nil_iff, or_false] at h
    rcases h with rfl | rfl | rfl | rfl
    · exact no (n := 2) rfl (by decide +kernel)
    · exact no (n := 4) rfl (by decide +kernel)
    · exact ⟨_, .here _, rfl⟩
    · exact no (n := 3) rfl (by decide +kernel)
  · simp only [badNS1, List.mem_cons, List.mem_nil_iff, or_false] at h
    subst h
    refine ⟨_, .here _, ?_⟩
    rw [form_def, if_neg (by decide +kernel), if_neg (by decide +kernel), if_pos rfl]
    exact and_no2 (by decide +kernel : wholeD (.int 5) (-4) 4 = false)
  · simp only [badNS2, List.mem_cons, List.mem_nil_iff, or_false] at h
    rcases h with rfl | rfl | rfl | rfl
    · refine ⟨_, .here _, ?_⟩
      rw [form_def, if_neg (by decide +kernel), if_neg (by decide +kernel), if_pos rfl]
      exact and_no2 (by decide +kernel : wholeD (.int (-5)) (-4) 4 = false)
    · refine ⟨_, .here _, ?_⟩
      rw [form_def, if_neg (by decide +kernel), if_neg (by decide +kernel), if_pos rfl]
      exact and_no2 rfl
    · exact no (n := 2) rfl (by decide +kernel)
    · by_cases hg : formD g = true
      · refine ⟨_, .here _, ?_⟩
        rw [form_def, if_neg (by decide +kernel), if_neg (by decide +kernel), if_pos rfl]
        refine and_no2 ?_
        show wholeD g (-4) 4 = false
        cases g with
        | int i => cases hg
        | _ => rfl
      · exact ⟨g, met_part (n := 1) (by decide +kernel) (by simp), Bool.eq_false_iff.mpr hg⟩
  · simp only [badNS3, List.mem_cons, List.mem_nil_iff, or_false] at h
    subst h
    exact no (n := 3) rfl (by decide +kernel)
  · simp only [badNS4, List.mem_cons, List.mem_nil_iff, or_false] at h
    rcases h with rfl | rfl | rfl | rfl
    · exact no (n := 4) rfl (by decide +kernel)
    · exact no (n := 6) rfl (by decide +kernel)
    · exact ⟨_, .here _, rfl⟩
    · exact ⟨_, .here _, rfl⟩
  · simp only [badNS5, List.mem_cons, List.mem_nil_iff, or_false] at h
    rcases h with rfl | rfl | rfl
    · exact ⟨.none, met_part (n := 2) (by decide +kernel) (by simp), rfl⟩
    · exact ⟨.none, met_part (n := 2) (by decide +kernel) (by simp), rfl⟩
    · refine ⟨.tuple [.str "minus", g], met_part (n := 2) (by decide +kernel) (by simp), ?_⟩
      rw [form_def]
      exact and_no (by decide +kernel : decide (lk lenTab "minus" = some 2) = false)
  · simp only [badNS6, List.mem_cons, List.mem_nil_iff, or_false] at h
    subst h
    exact no (n := 4) rfl (by decide +kernel)
end MK


set_option Elab.async false
set_option linter.all false
set_option maxRecDepth 100000
set_option maxHeartbeats 4000000
namespace MK
open PySem PySem.Spec PyProof.Rows L2
/-- at v the reckoning r with what stands at `n` replaced by x -/
inductive PutAt (H : Hp) (x : V) : Rk → Nat → V → Prop where
  | here (r : Rk) : PutAt H x r 0 x
  | down {r y : Rk} {t p : Addr} {xs : List V} {i n k : Nat} {u : V} (ht : TrAt H r t) (hx : H t = some (.tup xs)) (hy : r.parts[i]? = some y) (hk : n = 1 + ((r.parts.take i).map Rk.many).sum + k) (km : k < y.many)
      (hu : PutAt H x y k u) (hp : H p = some (.tup (xs.take (i + 1) ++ [u] ++ xs.drop (i + 2)))) : PutAt H x r n (.ref p)
theorem PutAt.same {H H' : Hp} {x : V} (s : Same H H') : ∀ {r : Rk} {n : Nat} {v : V}, PutAt H x r n v → PutAt H' x r n v := by
  intro r n v h
  induction h with
  | here r => exact .here r
  | down ht hx hy hk km _ hp ih => exact .down (ht.same s) (s _ _ hx) hy hk km ih (s _ _ hp)
theorem sum_take {l : List Rk} {i : Nat} {y : Rk} (h : l[i]? = some y) : ((l.take (i + 1)).map Rk.many).sum = ((l.take i).map Rk.many).sum + y.many := by
  rw [take_more h, List.map_append, List.sum_append]
  simp
theorem cut_take {xs : List V} {k : Nat} (h : k ≤ xs.length) : cutV xs none (some (k : Int)) = xs.take k := by
  unfold cutV
  have e1 : HT.sIx xs.length 0 none = 0 := rfl
  have e2 : HT.sIx xs.length xs.length (some (k : Int)) = k := by
    rw [HT.sIx_nat]
    omega
  rw [e1, e2]
  rfl
theorem tr_len {H : Hp} {r : Rk} {t : Addr} {xs : List V} (h : TrAt H r t) (hx : H t = some (.tup xs)) : xs.length ≤ 5 := by
  have k : ∀ ys, H t = some (.tup ys) → ys.length ≤ 5 → xs.length ≤ 5 := fun ys h1 h2 => by
    rw [hx] at h1
    rw [HO.tup.inj (Option.some.inj h1)]
    exact h2
  cases r with
  | is x y m => obtain ⟨_, _, h1, _⟩ := h; exact k _ h1 (by show 3 ≤ 5; decide)
  | nought => exact k _ h (by show 1 ≤ 5; decide)
  | input z => exact k _ h (by show 2 ≤ 5; decide)
  | bin o a b => obtain ⟨_, _, h1, _⟩ := h; exact k _ h1 (by show 3 ≤ 5; decide)
  | power a n => obtain ⟨_, h1, _⟩ := h; exact k _ h1 (by show 3 ≤ 5; decide)
  | less a b c d => obtain ⟨_, _, _, _, h1, _⟩ := h; exact k _ h1 (by show 5 ≤ 5; decide)
section
variable {P : Program} {w : World} {K : PySem.W.Frag} {mg : Str → Option Value} {base : Heap}
/-! ### _law_put -/
theorem scPut : FnScope ["_law_tree_here", "_law_at", "_law_new", "_law_place", "_law_size"] ["_law_tree_here", "_law_at", "_law_new"] (defScope sPut) := ⟨rfl, rfl, rfl, by decide +kernel, rfl, by decide +kernel, by decide +kernel⟩
def spPut : Nat → Sp
  | 0 => spNo
  | n + 1 => fun vs H Q _ => ∃ (t : Addr) (r : Rk) (k : Nat) (x : V), vs = [.ref t, .int (k : Nat), x] ∧ TrAt H r t ∧ r.deep ≤ n + 1 ∧ k < r.many ∧ ∀ (H' : Hp) (v : V), Same H H' → PutAt H' x r k v → Q v H'
theorem ok_put {f fP fM : Addr} {fd fdP fdM : FuncData} (F : Fun K "_law_put" "_law_put" sPut f fd) (bF : Binds K fd ["_law_tree_here", "_law_at", "_law_new"] []) (gF : mg "_law_put" = some (.ref f))
    (FP : Fun K "_law_parts" "_law_parts" sParts fP fdP) (bP : Binds K fdP ["_law_tree_here"] []) (gP : mg "_law_parts" = some (.ref fP))
    (FM : Fun K "_law_many" "_law_many" sMany fM fdM) (bM : Binds K fdM ["_law_tree_here"] []) (gM : mg "_law_many" = some (.ref fM)) (mL : mg "list" = none) (mu : mg "sum" = none) (mr : mg "range" = none) (ml : mg "len" = none) :
    ∀ n : Nat, FnOk P w K mg base CX0 (n + 3) f fd ["_law_tree_here", "_law_at", "_law_new"] (spPut n)
  | 0 => fn_no
  | n + 1 => by
    have GP : FnOk P w K mg base CX0 1 fP fdP ["_law_tree_here"] spParts := ok_parts FP mL
    have GM : FnOk P w K mg base CX0 (n + 2) fM fdM ["_law_tree_here"] (spMany n) := ok_many FM bM gM FP bP gP mL mu n
    have GF := ok_put F bF gF FP bP gP FM bM gM mL mu mr ml n
    refine F.ok scPut (fun vs H Q E h => ?_) (fun cdv A outer s H vs Q E hr h => ?_)
    · obtain ⟨t, r, k, x, rfl, _⟩ := h
      rfl
    · obtain ⟨t, r, k, x, rfl, ht, hd, hk, q⟩ := h
      have nd := scPut.nd
      have hr1 : Room 1 _ := hr.mono (by omega)
      have hr2 : Room (n + 2) _ := hr.mono (by omega)
      refine ⟨_, pss_cons (ps_if (pt_cmpR op_eq (pv 1) pe_int (nomark _)) (pss_one (ps_ret (pv 2))) pss_nil)
        (pss_cons (ps_set (i := 1) nd rfl (.inl rfl) (pe_op op_sub (pv 1) pe_int))
        (pss_cons (ps_for PassesOwn.never rfl (pi_range2 rfl mr (pa_cons pe_int (pa_cons (pe_op op_add pe_int (pe_callB call_len_seq (by rfl) ml PySem.boot_len (pa_cons (pe_call GP hr1 (by rfl) gP FP.kp bP .nil pass0 (pa_cons (pv 0) pa_nil)) pa_nil))) pa_nil))) (pg_name (i := 3) nd rfl (.inl rfl))
          (pss_cons (ps_set (i := 4) nd rfl (.inl rfl) (pe_call GM hr2 (by rfl) gM FM.kp bM .nil pass0 (pa_cons (pe_ix ix_tup (pv 0) (pv 3) (fun _ _ => rfl)) pa_nil)))
          (pss_cons (ps_if (pt_cmpR op_lt (pv 1) (pv 4) (nomark _)) (pss_one (ps_ret (pe_op op_catT (pe_op op_catT (pe_slice sl_tup (pv 0) po_none (po_some (pv 3)))
              (pe_tup (pa_cons (pe_call GF hr (by rfl) gF F.kp bF .nil pass0 (pa_cons (pe_ix ix_tup (pv 0) (pv 3) (fun _ _ => rfl)) (pa_cons (pv 1) (pa_cons (pv 2) pa_nil)))) pa_nil))) (pe_slice sl_tup (pv 0) (po_some (pe_op op_add (pv 3) pe_int)) po_none)))) pss_nil)
          (pss_one (ps_set (i := 1) nd rfl (.inl rfl) (pe_op op_sub (pv 1) (pv 4)))))))
        (pss_one (ps_ret (pv 0))))), ?_⟩
      refine ⟨_, rfl, rfl, _, rfl, ite2 (fun e => ?_) (fun e => ?_)⟩
      · have k0 : k = 0 := by
          have := of_decide_eq_true e
          have := V.int.inj this
          omega
        subst k0
        exact ⟨_, rfl, q H x (Same.refl _) (.here r)⟩
      have k1 : k ≠ 0 := fun z => e (by rw [z]; rfl)
      obtain ⟨ps, zs, hx, hps⟩ := tr_tup ht
      have pl := hps.length
      have ms := many_parts r
      refine ⟨_, rfl, _, _, rfl, rfl, ?_⟩
      refine ⟨_, rfl, t, r, rfl, ht, fun H1 l ps1 s1 nl hl1 pr1 => ?_⟩
      have pl1 := pr1.length
      have few := parts_few r
      refine ⟨l, _, rfl, .inl (SqL.of hl1), _, _, rfl, rfl, 1, _, rfl, ⟨by decide, by decide, ?_, ?_⟩, ?_⟩
      · rw [List.length_map]; omega
      · rw [List.length_map]; omega
      refine for_range (lo := 1) (n := ((1 : Int) + ((ps1.map V.ref).length : Int) - 1).toNat) (fun i σ H2 => ∃ (a : Nat) (v3 v4 : Option V), σ = [some (.ref t), some (.int (a : Nat)), some x, v3, v4] ∧ Same H1 H2 ∧ k = 1 + ((r.parts.take i).map Rk.many).sum + a)
        ⟨k - 1, none, none, ?_, Same.refl _, by simp; omega⟩ ?_ ?_
      · show [some (V.ref t), some (V.int ((k : Int) - 1)), some x, none, none] = _
        rw [show (k : Int) - 1 = ((k - 1 : Nat) : Int) by omega]
      · rintro i σ H2 hi ⟨a, v3, v4, rfl, s12, hka⟩
        have s1 := s1.trans s12
        rw [List.length_map] at hi
        have hi2 : i < r.parts.length := by omega
        have hy := List.getElem?_eq_getElem hi2
        generalize r.parts[i] = y at hy
        have hym := List.mem_of_getElem? hy
        have hip : i < ps.length := by omega
        obtain ⟨y', hy', hyt⟩ := paired_ix hps (List.getElem?_eq_getElem hip)
        rw [hy] at hy'
        cases hy'
        have hx1 := s1 _ _ hx
        have dy := parts_deep hym
        have pos := y.deep_pos
        obtain ⟨m, rfl⟩ : ∃ m, n = m + 1 := ⟨n - 1, by omega⟩
        have ixv : ∀ {Z : V → Prop}, Z (.ref ps[i]) → Z (.ref ps[i]) := fun h => h
        have at1 : atI (V.str r.kind :: (ps.map V.ref ++ zs)) (1 + (i : Int)) = some (.ref ps[i]) := by
          rw [show (1 : Int) + (i : Int) = ((i + 1 : Nat) : Int) by omega]
          exact atI_nat (by rw [List.getElem?_cons_succ, List.getElem?_append_left (by rw [List.length_map]; exact hip), List.getElem?_map, List.getElem?_eq_getElem hip]; rfl)
        refine ⟨_, rfl, _, rfl, t, _, _, _, rfl, rfl, SqT.of hx1, at1, ps[i], y, rfl, hyt.same s1, by omega, fun H3 s3 => ?_⟩
        have s13 := s1.trans s3
        have hx3 := s3 _ _ hx1
        refine ⟨_, rfl, _, rfl, _, _, rfl, rfl, _, rfl, ite2 (fun e2 => ?_) (fun e2 => ?_)⟩
        · have ay : a < y.many := by
            have := of_decide_eq_true e2
            omega
          obtain ⟨xs, hxs⟩ : ∃ xs, xs = V.str r.kind :: (ps.map V.ref ++ zs) := ⟨_, rfl⟩
          have xl : xs.length = 1 + ps.length + zs.length := by
            rw [hxs, List.length_cons, List.length_append, List.length_map]
            omega
          have xi : i + 1 < xs.length := by omega
          rw [← hxs] at hx hx3 at1 hx1
          have ci : (1 : Int) + (i : Int) = ((i + 1 : Nat) : Int) := by omega
          rw [ci] at at1
          refine ⟨_, rfl, _, rfl, _, rfl, t, xs, rfl, SqT.of hx3, ?_, fun p1 np1 => ?_⟩
          · rw [ci, HT.sIx_nat]
            rintro ⟨_, h⟩
            omega
          rw [ci, cut_take (by omega)]
          have s4 := same_new (o := .tup (xs.take (i + 1))) np1
          have s14 := s13.trans s4
          refine ⟨_, rfl, _, rfl, t, xs, _, _, rfl, rfl, SqT.of (s4 _ _ hx3), at1, _, rfl, _, rfl, ps[i], y, a, x, rfl, hyt.same s14, by omega, ay, fun H5 u s5 pu => ⟨(by show 1 ≤ sizeLine; decide), fun p2 np2 => ?_⟩⟩
          have s6 := same_new (o := .tup [u]) np2
          have hp1 := (s5.trans s6) _ _ (upd_same (H := H3) (a := p1) (o := .tup (xs.take (i + 1))))
          have l1 : (xs.take (i + 1)).length = i + 1 := by rw [List.length_take]; omega
          refine ⟨p1, p2, xs.take (i + 1), [u], rfl, rfl, SqT.of hp1, SqT.of upd_same, (fun z => by rw [z] at l1; cases l1), ?_, (fun z => nomatch z), fun _ p3 np3 => ?_⟩
          · rw [l1]
            exact Nat.le_trans (show i + 1 + 1 ≤ 1000 by omega) (by decide)
          have s7 := same_new (o := .tup (xs.take (i + 1) ++ [u])) np3
          have s47 := s4.trans (s5.trans (s6.trans s7))
          have s57 := s6.trans s7
          refine ⟨_, rfl, _, rfl, _, _, rfl, rfl, _, rfl, t, xs, rfl, SqT.of (s47 _ _ hx3), ?_, fun p4 np4 => ?_⟩
          · rw [show ((i + 1 : Nat) : Int) + 1 = ((i + 2 : Nat) : Int) by omega, HT.sIx_nat]
            rintro ⟨h, _⟩
            omega
          rw [show ((i + 1 : Nat) : Int) + 1 = ((i + 2 : Nat) : Int) by omega, cut_drop (by omega)]
          have s8 := same_new (o := .tup (xs.drop (i + 2))) np4
          have done : ∀ {H' : Hp} {p : Addr}, Same (upd H5 p2 (.tup [u])) H' → H' p = some (.tup (xs.take (i + 1) ++ [u] ++ xs.drop (i + 2))) → Q (.ref p) H' := fun {H' p} s hp =>
            q H' _ (s14.trans (s5.trans (s6.trans s))) (.down (ht.same (s14.trans (s5.trans (s6.trans s)))) ((s4.trans (s5.trans (s6.trans s))) _ _ hx3) hy hka ay (pu.same (s6.trans s)) hp)
          refine ⟨p3, p4, xs.take (i + 1) ++ [u], xs.drop (i + 2), rfl, rfl, SqT.of (s8 _ _ upd_same), SqT.of upd_same, (fun z => by have := congrArg List.length z; rw [List.length_append] at this; cases this), ?_, fun z => ?_, fun _ p5 np5 => ?_⟩
          · rw [List.length_append, l1, List.length_drop]
            have := tr_len ht hx
            exact Nat.le_trans (show i + 1 + 1 + (xs.length - (i + 2)) ≤ 1000 by omega) (by decide)
          · exact done (s7.trans s8) (by rw [s8 _ _ upd_same, z, List.append_nil])
          · exact done (s7.trans (s8.trans (same_new np5))) upd_same
        · have ay : y.many ≤ a := by
            have : ¬ (a : Int) < (y.many : Int) := fun z => e2 (decide_eq_true z)
            omega
          refine ⟨_, rfl, _, rfl, _, _, rfl, rfl, ?_⟩
          refine ⟨a - y.many, some (V.int (1 + (i : Int))), some (V.int (y.many : Nat)), ?_, s12.trans s3, ?_⟩
          · show [some (V.ref t), some (V.int ((a : Int) - (y.many : Int))), some x, some (V.int (1 + (i : Int))), some (V.int (y.many : Nat))] = _
            rw [show (a : Int) - (y.many : Int) = ((a - y.many : Nat) : Int) by omega]
          · rw [sum_take hy]
            omega
      · rintro σ H2 ⟨a, v3, v4, rfl, s12, hka⟩
        exfalso
        rw [show ((1 : Int) + ((ps1.map V.ref).length : Int) - 1).toNat = r.parts.length by rw [List.length_map]; omega, List.take_length] at hka
        omega
end
end MK


set_option Elab.async false
set_option linter.all false
set_option maxRecDepth 100000
set_option maxHeartbeats 4000000
namespace MK
open PySem PySem.Spec PyProof.Rows L2
theorem tr_dp {K : PySem.W.Frag} {H : Hp} : ∀ {r : Rk} {t : Addr}, TrAt H r t → Dp K H (.ref t) (rkD r)
  | .is x y m, t, ⟨q, b, h1, h2, h3⟩ => .tup (SqT.of h1) (.cons (.str _) (.cons (.tup (SqT.of h2) (.cons (.int _) (.cons (.int _) .nil))) (.cons h3.dp .nil)))
  | .nought, t, h => .tup (SqT.of h) (.cons (.str _) .nil)
  | .input z, t, h => .tup (SqT.of h) (.cons (.str _) (.cons (.str _) .nil))
  | .bin o a b, t, ⟨q, r, h1, h2, h3⟩ => .tup (SqT.of h1) (.cons (.str _) (.cons (tr_dp h2) (.cons (tr_dp h3) .nil)))
  | .power a n, t, ⟨q, h1, h2⟩ => .tup (SqT.of h1) (.cons (.str _) (.cons (tr_dp h2) (.cons (.int _) .nil)))
  | .less a b c d, t, ⟨q, r, u, v, h1, h2, h3, h4, h5⟩ => .tup (SqT.of h1) (.cons (.str _) (.cons (tr_dp h2) (.cons (tr_dp h3) (.cons (tr_dp h4) (.cons (tr_dp h5) .nil)))))
theorem sz8 {z : Str} (h : z.length ≤ 1000) : z.length ≤ sizeLine := Nat.le_trans h (by decide)
theorem kind_sz : ∀ r : Rk, r.kind.length ≤ sizeLine
  | .is _ _ _ => sz8 (by show (Str.ofString "is").length ≤ 1000; decide +kernel)
  | .nought => sz8 (by show (Str.ofString "nought").length ≤ 1000; decide +kernel)
  | .input _ => sz8 (by show (Str.ofString "input").length ≤ 1000; decide +kernel)
  | .bin o _ _ => sz8 (by show o.name.length ≤ 1000; cases o <;> decide +kernel)
  | .power _ _ => sz8 (by show (Str.ofString "power").length ≤ 1000; decide +kernel)
  | .less _ _ _ _ => sz8 (by show (Str.ofString "less").length ≤ 1000; decide +kernel)
theorem rk_sz : ∀ {r : Rk}, r.Ok → SzD (rkD r)
  | .is x y m, ⟨_, _, _, g⟩ => .tup fun d hd => by
    simp only [List.mem_cons, List.mem_nil_iff, or_false] at hd
    rcases hd with rfl | rfl | rfl
    · exact .str (kind_sz (.is x y m))
    · refine .tup fun d hd => ?_
      simp only [List.mem_cons, List.mem_nil_iff, or_false] at hd
      rcases hd with rfl | rfl
      · exact .int _
      · exact .int _
    · refine .tup fun d hd => ?_
      obtain ⟨p, hp, rfl⟩ := List.mem_map.mp hd
      refine .tup fun d hd => ?_
      simp only [List.mem_cons, List.mem_nil_iff, or_false] at hd
      rcases hd with rfl | rfl
      · exact .str (sz8 (Nat.le_trans (g.nm p hp).2.1 (by decide)))
      · exact .int _
  | .nought, _ => .tup fun d hd => by
    rw [List.mem_singleton.mp hd]
    exact .str (kind_sz .nought)
  | .input z, h => .tup fun d hd => by
    simp only [List.mem_cons, List.mem_nil_iff, or_false] at hd
    rcases hd with rfl | rfl
    · exact .str (kind_sz (.input z))
    · exact .str (sz8 (Nat.le_trans h.2.1 (by decide)))
  | .bin o a b, ⟨h1, h2⟩ => .tup fun d hd => by
    simp only [List.mem_cons, List.mem_nil_iff, or_false] at hd
    rcases hd with rfl | rfl | rfl
    · exact .str (kind_sz (.bin o a b))
    · exact rk_sz h1
    · exact rk_sz h2
  | .power a n, ⟨h1, _⟩ => .tup fun d hd => by
    simp only [List.mem_cons, List.mem_nil_iff, or_false] at hd
    rcases hd with rfl | rfl | rfl
    · exact .str (kind_sz (.power a n))
    · exact rk_sz h1
    · exact .int _
  | .less a b c d, ⟨h1, h2, h3, h4⟩ => .tup fun e hd => by
    simp only [List.mem_cons, List.mem_nil_iff, or_false] at hd
    rcases hd with rfl | rfl | rfl | rfl | rfl
    · exact .str (kind_sz (.less a b c d))
    · exact rk_sz h1
    · exact rk_sz h2
    · exact rk_sz h3
    · exact rk_sz h4
theorem rk_cons {K : PySem.W.Frag} {H : Hp} : ∀ {r : Rk} {t : Addr}, TrAt H r t → ∃ xs rest, H t = some (.tup xs) ∧ rkD r = .tuple (.str r.kind :: rest) ∧ DpAll K H xs (.str r.kind :: rest) ∧ r.parts.length ≤ rest.length ∧ lk partTab r.kind = some r.parts.length
  | .is x y m, t, ⟨q, b, h1, h2, h3⟩ => ⟨_, _, h1, rfl, .cons (.str _) (.cons (.tup (SqT.of h2) (.cons (.int _) (.cons (.int _) .nil))) (.cons h3.dp .nil)), Nat.zero_le _, by show lk partTab "is" = some 0; decide +kernel⟩
  | .nought, t, h => ⟨_, _, h, rfl, .cons (.str _) .nil, Nat.zero_le _, by decide +kernel⟩
  | .input z, t, h => ⟨_, _, h, rfl, .cons (.str _) (.cons (.str _) .nil), Nat.zero_le _, by show lk partTab "input" = some 0; decide +kernel⟩
  | .bin o a b, t, ⟨q, r, h1, h2, h3⟩ => ⟨_, _, h1, rfl, .cons (.str _) (.cons (tr_dp h2) (.cons (tr_dp h3) .nil)), Nat.le_refl _, by show lk partTab o.name = some 2; cases o <;> decide +kernel⟩
  | .power a n, t, ⟨q, h1, h2⟩ => ⟨_, _, h1, rfl, .cons (.str _) (.cons (tr_dp h2) (.cons (.int _) .nil)), by show 1 ≤ 2; decide, by show lk partTab "power" = some 1; decide +kernel⟩
  | .less a b c d, t, ⟨q, r, u, v, h1, h2, h3, h4, h5⟩ => ⟨_, _, h1, rfl, .cons (.str _) (.cons (tr_dp h2) (.cons (tr_dp h3) (.cons (tr_dp h4) (.cons (tr_dp h5) .nil)))), Nat.le_refl _, by show lk partTab "less" = some 4; decide +kernel⟩
theorem dps_take {K : PySem.W.Frag} {H : Hp} : ∀ {vs : List V} {ds : List PyData} (n : Nat), DpAll K H vs ds → DpAll K H (vs.take n) (ds.take n)
  | _, _, 0, _ => .nil
  | _, _, _ + 1, .nil => .nil
  | _, _, n + 1, .cons a b => .cons a (dps_take n b)
theorem dps_drop {K : PySem.W.Frag} {H : Hp} : ∀ {vs : List V} {ds : List PyData} (n : Nat), DpAll K H vs ds → DpAll K H (vs.drop n) (ds.drop n)
  | _, _, 0, h => h
  | _, _, _ + 1, .nil => .nil
  | _, _, n + 1, .cons _ b => dps_drop n b
/-- something put in is met, whatever it is -/
theorem put_met {K : PySem.W.Frag} {H : Hp} {x : V} {d : PyData} (hd : Dp K H x d) (hz : SzD d) : ∀ {r : Rk} {n : Nat} {v : V}, PutAt H x r n v → r.Ok → ∃ D, Dp K H v D ∧ SzD D ∧ Met D d := by
  intro r n v h
  induction h with
  | here r => exact fun _ => ⟨d, hd, hz, .here d⟩
  | @down r y t p xs i n k u ht hx hy hk km _ hp ih =>
    intro ok
    obtain ⟨Du, u1, u2, u3⟩ := ih (part_okR (List.mem_of_getElem? hy) ok)
    obtain ⟨xs', rest, hx', e1, ha, e2, e3⟩ := rk_cons (K := K) ht
    have sz := rk_sz ok
    rw [e1] at sz
    have hi : i < r.parts.length := (List.getElem?_eq_some_iff.mp hy).1
    have ex : xs' = xs := by
      rw [hx] at hx'
      exact (HO.tup.inj (Option.some.inj hx')).symm
    subst ex
    refine ⟨.tuple (.str r.kind :: (rest.take i ++ [Du] ++ rest.drop (i + 1))), .tup (SqT.of hp) ?_, ?_, .down ?_ u3⟩
    · have := dps_app (dps_app (dps_take (i + 1) ha) (.cons u1 .nil)) (dps_drop (i + 2) ha)
      exact this
    · refine .tup fun e he => ?_
      simp only [List.mem_cons, List.mem_append, List.mem_nil_iff, or_false] at he
      have hm : ∀ e ∈ rest, SzD e := fun e he => sz.mem (List.mem_cons_of_mem _ he)
      rcases he with rfl | (he | rfl) | he
      · exact .str (kind_sz r)
      · exact hm e (List.mem_of_mem_take he)
      · exact u2
      · exact hm e (List.mem_of_mem_drop he)
    · rw [parts_def, e3]
      have hl : (rest.take i).length = i := by rw [List.length_take]; omega
      refine List.mem_of_getElem? (i := i) ?_
      show ((rest.take i ++ [Du] ++ rest.drop (i + 1)).take r.parts.length)[i]? = some Du
      rw [List.getElem?_take, if_pos hi, List.append_assoc, List.getElem?_append_right (by omega), hl, Nat.sub_self]
      rfl
end MK


set_option Elab.async false
set_option linter.all false
set_option maxRecDepth 100000
set_option maxHeartbeats 4000000
namespace MK
open PySem PySem.Spec PyProof.Rows L2
/-- no larger than the other -/
structure Le (x r : Rk) : Prop where
  ok : x.Ok
  deep : x.deep ≤ r.deep
  many : x.many ≤ r.many
  pows : x.pows ≤ r.pows
theorem put_tr {H : Hp} {e : Addr} {re : Rk} (he : TrAt H re e) (ok : re.Ok) (d1 : re.deep = 1) (m1 : re.many = 1) (p0 : re.pows = 0) : ∀ {r : Rk} {n : Nat} {v : V}, PutAt H (.ref e) r n v → r.Ok → ∃ p x, v = .ref p ∧ TrAt H x p ∧ Le x r := by
  intro r n v h
  induction h with
  | here r => exact fun _ => ⟨e, re, rfl, he, ok, by have := r.deep_pos; omega, by rw [many_parts r]; omega, by omega⟩
  | @down r y t p xs i n k u ht hx hy hk km _ hp ih =>
    intro okr
    obtain ⟨q, x, rfl, hq, le⟩ := ih (part_okR (List.mem_of_getElem? hy) okr)
    obtain ⟨l0, l1, l2, l3⟩ := le
    cases r with
    | is _ _ _ => simp [Rk.parts] at hy
    | nought => simp [Rk.parts] at hy
    | input _ => simp [Rk.parts] at hy
    | power a m =>
      obtain ⟨c, h1, h2⟩ := ht
      rw [hx] at h1
      have ex := HO.tup.inj (Option.some.inj h1)
      subst ex
      obtain ⟨o1, o2⟩ := okr
      match i, hy with
      | 0, hy =>
        obtain ey : a = y := Option.some.inj hy
        subst ey
        exact ⟨p, .power x m, rfl, ⟨q, hp, hq⟩, ⟨l0, o2⟩, by show 1 + x.deep ≤ 1 + a.deep; omega, by show 1 + x.many ≤ 1 + a.many; omega, by show 1 + x.pows ≤ 1 + a.pows; omega⟩
    | bin o a b =>
      obtain ⟨c, d, h1, h2, h3⟩ := ht
      rw [hx] at h1
      have ex := HO.tup.inj (Option.some.inj h1)
      subst ex
      obtain ⟨o1, o2⟩ := okr
      match i, hy with
      | 0, hy =>
        obtain ey : a = y := Option.some.inj hy
        subst ey
        exact ⟨p, .bin o x b, rfl, ⟨q, d, hp, hq, h3⟩, ⟨l0, o2⟩, by show 1 + max x.deep b.deep ≤ 1 + max a.deep b.deep; omega, by show 1 + (x.many + b.many) ≤ 1 + (a.many + b.many); omega, by show max x.pows b.pows ≤ max a.pows b.pows; omega⟩
      | 1, hy =>
        obtain ey : b = y := Option.some.inj hy
        subst ey
        exact ⟨p, .bin o a x, rfl, ⟨c, q, hp, h2, hq⟩, ⟨o1, l0⟩, by show 1 + max a.deep x.deep ≤ 1 + max a.deep b.deep; omega, by show 1 + (a.many + x.many) ≤ 1 + (a.many + b.many); omega, by show max a.pows x.pows ≤ max a.pows b.pows; omega⟩
    | less a b c d =>
      obtain ⟨pa, pb, pc, pd, h1, ha, hb, hc, hd⟩ := ht
      rw [hx] at h1
      have ex := HO.tup.inj (Option.some.inj h1)
      subst ex
      obtain ⟨o1, o2, o3, o4⟩ := okr
      match i, hy with
      | 0, hy =>
        obtain ey : a = y := Option.some.inj hy
        subst ey
        exact ⟨p, .less x b c d, rfl, ⟨q, pb, pc, pd, hp, hq, hb, hc, hd⟩, ⟨l0, o2, o3, o4⟩, by show 1 + max (max x.deep b.deep) (max c.deep d.deep) ≤ 1 + max (max a.deep b.deep) (max c.deep d.deep); omega,
          by show 1 + (x.many + b.many + c.many + d.many) ≤ 1 + (a.many + b.many + c.many + d.many); omega, by show max (max x.pows b.pows) (max c.pows d.pows) ≤ max (max a.pows b.pows) (max c.pows d.pows); omega⟩
      | 1, hy =>
        obtain ey : b = y := Option.some.inj hy
        subst ey
        exact ⟨p, .less a x c d, rfl, ⟨pa, q, pc, pd, hp, ha, hq, hc, hd⟩, ⟨o1, l0, o3, o4⟩, by show 1 + max (max a.deep x.deep) (max c.deep d.deep) ≤ 1 + max (max a.deep b.deep) (max c.deep d.deep); omega,
          by show 1 + (a.many + x.many + c.many + d.many) ≤ 1 + (a.many + b.many + c.many + d.many); omega, by show max (max a.pows x.pows) (max c.pows d.pows) ≤ max (max a.pows b.pows) (max c.pows d.pows); omega⟩
      | 2, hy =>
        obtain ey : c = y := Option.some.inj hy
        subst ey
        exact ⟨p, .less a b x d, rfl, ⟨pa, pb, q, pd, hp, ha, hb, hq, hd⟩, ⟨o1, o2, l0, o4⟩, by show 1 + max (max a.deep b.deep) (max x.deep d.deep) ≤ 1 + max (max a.deep b.deep) (max c.deep d.deep); omega,
          by show 1 + (a.many + b.many + x.many + d.many) ≤ 1 + (a.many + b.many + c.many + d.many); omega, by show max (max a.pows b.pows) (max x.pows d.pows) ≤ max (max a.pows b.pows) (max c.pows d.pows); omega⟩
      | 3, hy =>
        obtain ey : d = y := Option.some.inj hy
        subst ey
        exact ⟨p, .less a b c x, rfl, ⟨pa, pb, pc, q, hp, ha, hb, hc, hq⟩, ⟨o1, o2, o3, l0⟩, by show 1 + max (max a.deep b.deep) (max c.deep x.deep) ≤ 1 + max (max a.deep b.deep) (max c.deep d.deep); omega,
          by show 1 + (a.many + b.many + c.many + x.many) ≤ 1 + (a.many + b.many + c.many + d.many); omega, by show max (max a.pows b.pows) (max c.pows x.pows) ≤ max (max a.pows b.pows) (max c.pows d.pows); omega⟩
end MK


set_option Elab.async false
set_option linter.all false
set_option maxRecDepth 100000
set_option maxHeartbeats 4000000
namespace MK
open PySem PySem.Spec PyProof.Rows L2
section
variable {P : Program} {w : World} {K : PySem.W.Frag} {mg : Str → Option Value} {base : Heap} {pt : Addr}
/-! ### parts -/
def spPaP : Sp := fun vs H Q _ => ∃ (t : Addr) (r : Rk), vs = [.ref t] ∧ TrAt H r t ∧ ∀ (p : Addr) (ps : List Addr), H p = none → Paired (fun q x => TrAt H x q) ps r.parts → Q (.ref p) (upd H p (.tup (ps.map V.ref)))
theorem ok_paP {f : Addr} {fd : FuncData} (F : Fun K "parts" "parts" sPaP f fd) (T : PTab K w mg pt) : FnOk P w K mg base CX0 1 f fd ["reckoning"] spPaP := by
  refine F.ok scPaP (fun vs H Q E h => ?_) (fun cdv A outer s H vs Q E hr h => ?_)
  · obtain ⟨t, r, rfl, _⟩ := h
    rfl
  · obtain ⟨t, r, rfl, ht, q⟩ := h
    refine ⟨_, pss_one (ps_ret (pe_slice sl_tup (pv 0) (po_some pe_int) (po_some (pe_op op_add pe_int (pe_ix ix_kdict (pe_glob (v := .ref pt) (by rfl) T.g rfl) (pe_ix ix_tup (pv 0) pe_int (fun _ _ => rfl)) (fun _ _ => rfl)))))), ?_⟩
    obtain ⟨ps, zs, h1, hps⟩ := tr_tup ht
    have el : (ps.map V.ref).length = r.parts.length := by rw [List.length_map]; exact hps.length
    refine ⟨_, rfl, 1, rfl, _, rfl, t, _, 0, _, rfl, rfl, SqT.of h1, atI_nat (j := 0) rfl, pt, _, _, rfl, rfl, T.k r, _, _, rfl, rfl, ?_⟩
    rw [← el]
    refine ⟨_, rfl, t, _, rfl, SqT.of h1, cut_some _ _ _, fun p np => ?_⟩
    rw [cut_parts]
    exact q p ps np hps
/-! ### all_parts -/
theorem scAll : FnScope ["reckoning", "told", "part"] ["reckoning"] (defScope sAll) := ⟨rfl, rfl, rfl, by decide +kernel, rfl, by decide +kernel, by decide +kernel⟩
def spAll : Nat → Sp
  | 0 => spNo
  | n + 1 => fun vs H Q _ => ∃ (t : Addr) (r : Rk), vs = [.ref t] ∧ TrAt H r t ∧ r.deep ≤ n + 1 ∧ r.many ≤ 1000 ∧
    ∀ (H' : Hp) (p : Addr) (qs : List Addr), Same H H' → H p = none → H' p = some (.lst (qs.map V.ref)) → Paired (fun q x => TrAt H' x q) qs r.all → Q (.ref p) H'
theorem flat_all_le {r : Rk} (i : Nat) : ((r.parts.take i).flatMap Rk.all).length < r.many := by
  have := flat_le (f := Rk.all) r.parts i
  have e := congrArg List.length (all_eq r)
  rw [all_len, List.length_cons] at e
  omega
theorem ok_allP {f fP : Addr} {fd fdP : FuncData} (F : Fun K "all_parts" "all_parts" sAll f fd) (bA : Binds K fd ["reckoning"] []) (gA : mg "all_parts" = some (.ref f))
    (FP : Fun K "parts" "parts" sPaP fP fdP) (bP : Binds K fdP ["reckoning"] []) (gP : mg "parts" = some (.ref fP)) (T : PTab K w mg pt) :
    ∀ n : Nat, FnOk P w K mg base CX0 (n + 2) f fd ["reckoning"] (spAll n)
  | 0 => fn_no
  | n + 1 => by
    have GP : FnOk P w K mg base CX0 1 fP fdP ["reckoning"] spPaP := ok_paP FP T
    have GA := ok_allP F bA gA FP bP gP T n
    refine F.ok scAll (fun vs H Q E h => ?_) (fun cdv A outer s H vs Q E hr h => ?_)
    · obtain ⟨t, r, rfl, _⟩ := h
      rfl
    · obtain ⟨t, r, rfl, ht, hd, hm, q⟩ := h
      have nd := scAll.nd
      have hr1 : Room 1 _ := hr.mono (by omega)
      refine ⟨_, pss_cons (ps_set (i := 1) nd rfl (.inl rfl) (pe_lst (pa_cons (pv 0) pa_nil)))
        (pss_cons (ps_for PassesOwn.never rfl (pi_tup (pe_call GP hr1 (by rfl) gP FP.kp bP .nil pass0 (pa_cons (pv 0) pa_nil))) (pg_name (i := 2) nd rfl (.inl rfl))
          (pss_one (ps_expr (pe_bm PySem.F.plainAttrs_list PySem.F.slot_list_extend PySem.F.type_list_extend mt_extend (pv 1) (pa_cons (pe_call GA hr (by rfl) gA F.kp bA .nil pass0 (pa_cons (pv 2) pa_nil)) pa_nil)))))
        (pss_one (ps_ret (pv 1)))), ?_⟩
      refine ⟨_, rfl, (by show 1 ≤ sizeLine; decide), fun l nl => ?_⟩
      have s0 := same_new (o := .lst [V.ref t]) nl
      refine ⟨_, rfl, t, r, rfl, ht.same s0, fun p ps np pr => ?_⟩
      have s1 := same_new (o := .tup (ps.map V.ref)) np
      have hl1 : upd (upd H l (.lst [V.ref t])) p (.tup (ps.map V.ref)) l = some (.lst [V.ref t]) := s1 _ _ upd_same
      have s01 := s0.trans s1
      have hp1 : upd (upd H l (.lst [V.ref t])) p (.tup (ps.map V.ref)) p = some (.tup (ps.map V.ref)) := upd_same
      have pr1 : Paired (fun q x => TrAt (upd (upd H l (.lst [V.ref t])) p (.tup (ps.map V.ref))) x q) ps r.parts := Paired.mono (fun _ _ z => TrAt.same s1 z) pr
      generalize upd (upd H l (.lst [V.ref t])) p (.tup (ps.map V.ref)) = H1 at s1 hl1 s01 hp1 pr1 ⊢
      have nlp : H l = none := nl
      refine ⟨p, rfl, ⟨_, SqT.of hp1⟩, for_tup (xs := ps.map V.ref) (fun i σ H2 => ∃ (v2 : Option V) (qs : List Addr), σ = [some (.ref t), some (.ref l), v2] ∧ Same H H2 ∧ H2 p = some (.tup (ps.map V.ref)) ∧ Paired (fun q x => TrAt H2 x q) ps r.parts ∧ H2 l = some (.lst (qs.map V.ref)) ∧
          Paired (fun q x => TrAt H2 x q) qs (r :: (r.parts.take i).flatMap Rk.all))
        ⟨none, [t], rfl, s01, hp1, pr1, hl1, .cons (ht.same s01) .nil⟩ (fun i σ H2 _ z => ?_) ?_ ?_⟩
      · obtain ⟨_, _, _, _, z, _⟩ := z
        exact SqT.of z
      · rintro i x σ H2 hx ⟨v2, qs, rfl, s2, hp2, pr2, hl2, al⟩
        obtain ⟨u, hu, rfl⟩ := at_map hx
        obtain ⟨y, hy, hyt⟩ := paired_ix pr2 hu
        have hym := List.mem_of_getElem? hy
        have hdy := parts_deep hym
        have hmy := parts_many hym
        have pos := y.deep_pos
        obtain ⟨m, rfl⟩ : ∃ m, n = m + 1 := ⟨n - 1, by omega⟩
        have lm := flat_all_le (r := r) (i + 1)
        rw [flat_more hy, List.length_append] at lm
        have ql : qs.length = ((r.parts.take i).flatMap Rk.all).length + 1 := al.length
        refine ⟨_, rfl, .inl ⟨rfl, _, SqL.of hl2⟩, _, rfl, u, y, rfl, hyt, by omega, by omega, fun H3 b bs s3 nb hb pb => ?_⟩
        have bl : bs.length = y.all.length := pb.length
        refine ⟨l, b, _, _, rfl, rfl, s3 _ _ hl2, hb, ?_, ?_⟩
        · rw [List.length_map, List.length_map]
          exact Nat.le_trans (show qs.length + bs.length ≤ 10000 by omega) (by decide)
        · have s4 : ∀ {r' : Rk} {q' : Addr}, TrAt H3 r' q' → TrAt (upd H3 l (.lst (qs.map V.ref ++ bs.map V.ref))) r' q' := fun z => tr_list (s3 _ _ hl2) z
          refine ⟨_, qs ++ bs, rfl, ?_, ?_, Paired.mono (fun _ _ z => s4 (TrAt.same s3 z)) pr2, ?_, ?_⟩
          · exact same_upd (s2.trans s3) nlp
          · rw [upd_ne (ne_of (s3 _ _ hp2) (s3 _ _ hl2) (fun e => nomatch e))]
            exact s3 _ _ hp2
          · rw [upd_same, List.map_append]
          · rw [flat_more hy, ← List.cons_append]
            exact paired_app (Paired.mono (fun _ _ z => s4 (TrAt.same s3 z)) al) (Paired.mono (fun _ _ z => s4 z) pb)
      · rintro σ H2 ⟨v2, qs, rfl, s2, hp2, pr2, hl2, al⟩
        rw [List.length_map, pr1.length, List.take_length, ← all_eq] at al
        exact ⟨_, rfl, q H2 l qs s2 nlp hl2 al⟩
end
end MK


set_option Elab.async false
set_option linter.all false
set_option maxRecDepth 100000
set_option maxHeartbeats 4000000
namespace MK
open PySem PySem.Spec PyProof.Rows L2
section
variable {P : Program} {w : World} {K : PySem.W.Frag} {mg : Str → Option Value} {base : Heap} {pt : Addr}
/-! ### noughts -/
theorem scNou : FnScope ["reckoning", "part"] ["reckoning"] (defScope sNou) := ⟨rfl, rfl, rfl, by decide +kernel, rfl, by decide +kernel, by decide +kernel⟩
def spNouP : Sp := fun vs H Q _ => ∃ (t : Addr) (r : Rk), vs = [.ref t] ∧ TrAt H r t ∧ r.deep ≤ 20 ∧ r.many ≤ 1000 ∧ ∀ H' : Hp, Same H H' → Q (.int (r.noughts : Nat)) H'
theorem ok_nouP {f fP fA : Addr} {fd fdP fdA : FuncData} (F : Fun K "noughts" "noughts" sNou f fd)
    (FA : Fun K "all_parts" "all_parts" sAll fA fdA) (bA : Binds K fdA ["reckoning"] []) (gA : mg "all_parts" = some (.ref fA))
    (FP : Fun K "parts" "parts" sPaP fP fdP) (bP : Binds K fdP ["reckoning"] []) (gP : mg "parts" = some (.ref fP)) (T : PTab K w mg pt) (ml : mg "len" = none) :
    FnOk P w K mg base CX0 23 f fd ["reckoning"] spNouP := by
  have GA : FnOk P w K mg base CX0 22 fA fdA ["reckoning"] (spAll 20) := ok_allP FA bA gA FP bP gP T 20
  refine F.ok scNou (fun vs H Q E h => ?_) (fun cdv A outer s H vs Q E hr h => ?_)
  · obtain ⟨t, r, rfl, _⟩ := h
    rfl
  · obtain ⟨t, r, rfl, ht, hd, hm, q⟩ := h
    have nd := scNou.nd
    refine ⟨_, pss_one (ps_ret (pe_callB call_len_seq (by rfl) ml PySem.boot_len (pa_cons
      (pe_lc (own := [("part", 1)]) (g := gName 1) rfl nd (pi_list (pe_call GA hr (by rfl) gA FA.kp bA .nil pass0 (pa_cons (pv 0) pa_nil)))
        (blkOk_by (N := ["reckoning", "part"]) (sc := defScope sNou) (by decide +kernel)) (fun _ _ _ _ _ => pg_name (i := 1) nd rfl (Or.inl rfl))
        (fun _ _ _ _ _ => pts_one (pt_cmpR op_eq (pe_ix (show IxR _ (rIxT K) from ix_tup) (pv 1) pe_int (fun _ _ => rfl)) pe_str (nomark _)))
        (fun _ _ _ _ _ => pv 1)) pa_nil))), ?_⟩
    refine ⟨_, rfl, t, r, rfl, ht, (show r.deep ≤ 19 + 1 by omega), hm, fun H1 l qs s1 nl hl pq => ?_⟩
    refine ⟨l, rfl, ⟨_, SqL.of hl⟩, fun D nD => ?_⟩
    have nl2 : qs.length = r.many := by rw [pq.length, all_len]
    refine lc_list (xs := qs.map V.ref) (fun i H2 => Same H1 H2 ∧ ∃ ks : List Addr, H2 D = some (.lst (ks.map V.ref)) ∧ ks.length = ((r.all.take i).filter isNou).length ∧ ks.length ≤ i)
      ⟨same_new nD, [], upd_same, rfl, Nat.le_refl _⟩ (fun i H2 _ z => SqL.of (z.1 _ _ hl)) ?_ ?_
    · rintro i x H2 hx ⟨s2, ks, hD, hk, hki⟩
      obtain ⟨u, hu, rfl⟩ := at_map hx
      have hi : i < qs.length := (List.getElem?_eq_some_iff.mp hu).1
      obtain ⟨y, hy, hyt⟩ := paired_ix pq hu
      have hyt := TrAt.same s2 hyt
      have tk : ((r.all.take (i + 1)).filter isNou).length = ((r.all.take i).filter isNou).length + ([y].filter isNou).length := by rw [take_more hy, List.filter_append, List.length_append]
      obtain ⟨ps, ws, h1, _⟩ := tr_tup hyt
      have a0 : atI (V.str y.kind :: (ps.map V.ref ++ ws)) 0 = some (V.str y.kind) := atI_nat (j := 0) rfl
      refine ⟨rfl, ?_⟩
      refine ⟨_, rfl, u, _, 0, V.str y.kind, rfl, rfl, SqT.of h1, a0, rfl, _, rfl, ?_⟩
      cases hz : isNou y with
      | true =>
        have e : y = .nought := by cases y <;> first | rfl | cases hz
        subst e
        refine ⟨_, rfl, ks.map V.ref, hD, ?_, same_upd s2 nD, ks ++ [u], ?_, ?_, ?_⟩
        · rw [List.length_map]
          exact small1000 (by omega)
        · rw [upd_same, List.map_append]
          rfl
        · rw [List.length_append, hk, tk]
          rfl
        · rw [List.length_append]
          exact Nat.add_le_add_right hki 1
      | false =>
        rw [kind_nou hz]
        have e0 : ([y].filter isNou).length = 0 := by
          rw [List.filter_cons, hz]
          rfl
        exact ⟨s2, ks, hD, by rw [tk, e0]; exact hk, by omega⟩
    · rintro H2 ⟨s2, ks, hD, hk, hki⟩
      rw [List.length_map, pq.length, List.take_length, all_nou] at hk
      refine ⟨D, _, rfl, .inl (SqL.of hD), ?_⟩
      rw [List.length_map, hk]
      exact q H2 (s1.trans s2)

end
end MK


set_option Elab.async false
set_option linter.all false
set_option maxRecDepth 100000
set_option maxHeartbeats 4000000
namespace MK
open PySem PySem.Spec PyProof.Rows L2
/-! ### written out reckonings -/
section
variable {K : PySem.W.Frag} {B : Hp → Prop} {σ : L2.St}
def LitR (B : Hp → Prop) (σ : L2.St) (t : TE) (r : Rk) : Prop := ∀ H Q, B H → (∀ H' p, Same H H' → TrAt H' r p → Q (.ref p) H') → t σ H Q
def LitRs (B : Hp → Prop) (σ : L2.St) (t : TA) (rs : List Rk) : Prop := ∀ H Q, B H → (∀ H' us, Same H H' → Paired (fun u r => TrAt H' r u) us rs → Q (us.map V.ref) H') → t σ H Q
def LitPs (B : Hp → Prop) (σ : L2.St) (t : TA) (m : Ms) : Prop := ∀ H Q, B H → (∀ H' us, Same H H' → Paired (PrAt H') us m → Q (us.map V.ref) H') → t σ H Q
theorem litps_nil : LitPs B σ tNil [] := fun H Q _ k => k H [] (Same.refl _) .nil
theorem litps_cons {tz tn : TE} {ta : TA} {z : Str} {n : Int} {m : Ms} (mo : Mono B) (x : Lit K B σ tz (.str z)) (y : Lit K B σ tn (.int n)) (r : LitPs B σ ta m) : LitPs B σ (tCons (tTup (tCons tz (tCons tn tNil))) ta) ((z, n) :: m) := fun H Q b k =>
  x H _ b fun H1 v s1 h1 => y H1 _ (mo _ _ s1 b) fun H2 u s2 h2 => by
    rw [dp_str h1, dp_int h2]
    refine ⟨by show 2 ≤ sizeLine; decide, fun p np => ?_⟩
    have s3 := same_new (o := .tup [V.str z, V.int n]) np
    exact r _ _ (mo _ _ (s1.trans (s2.trans s3)) b) fun H4 us s4 h4 => k H4 (p :: us) (s1.trans (s2.trans (s3.trans s4))) (.cons (s4 _ _ upd_same) h4)
theorem litr_is {tx ty : TE} {ta : TA} {x y : Int} {m : Ms} (mo : Mono B) (a : Lit K B σ tx (.int x)) (b' : Lit K B σ ty (.int y)) (c : LitPs B σ ta m) (hm : m.length ≤ 100) :
    LitR B σ (tTup (tCons (tC (.str "is")) (tCons (tTup (tCons tx (tCons ty tNil))) (tCons (tTupN ta) tNil)))) (.is x y m) := fun H Q b k =>
  a H _ b fun H1 v s1 h1 => b' H1 _ (mo _ _ s1 b) fun H2 u s2 h2 => by
    rw [dp_int h1, dp_int h2]
    refine ⟨by show 2 ≤ sizeLine; decide, fun q nq => ?_⟩
    have s3 := same_new (o := .tup [V.int x, V.int y]) nq
    refine c _ _ (mo _ _ (s1.trans (s2.trans s3)) b) fun H4 us s4 h4 => ⟨?_, fun p o np dn => ⟨by show 3 ≤ sizeLine; decide, fun t nt => ?_⟩⟩
    · rw [List.length_map, Paired.length h4]
      exact Nat.le_trans hm (by decide)
    have s5 := same_new (o := .frz o (.tup (us.map V.ref))) np
    have s6 := same_new (o := .tup [V.str "is", V.ref q, V.ref p]) nt
    exact k _ t (s1.trans (s2.trans (s3.trans (s4.trans (s5.trans s6))))) ⟨q, p, upd_same, (s4.trans (s5.trans s6)) _ _ upd_same, ⟨us, ⟨o, s6 _ _ upd_same, dn⟩, pr_same (s5.trans s6) h4⟩⟩
theorem litr_input {tz : TE} {z : Str} (a : Lit K B σ tz (.str z)) : LitR B σ (tTup (tCons (tC (.str "input")) (tCons tz tNil))) (.input z) := fun H Q b k =>
  a H _ b fun H1 v s1 h1 => by
    rw [dp_str h1]
    exact ⟨by show 2 ≤ sizeLine; decide, fun t nt => k _ t (s1.trans (same_new nt)) upd_same⟩
theorem litr_nought : LitR B σ (tTup (tCons (tC (.str "nought")) tNil)) .nought := fun H Q b k => ⟨by show 1 ≤ sizeLine; decide, fun t nt => k _ t (same_new nt) upd_same⟩
theorem litrs_nil : LitRs B σ tNil [] := fun H Q _ k => k H [] (Same.refl _) .nil
theorem litrs_cons {ta : TE} {tr : TA} {r : Rk} {rs : List Rk} (m : Mono B) (a : LitR B σ ta r) (c : LitRs B σ tr rs) : LitRs B σ (tCons ta tr) (r :: rs) := fun H Q b k =>
  a H _ b fun H1 p s1 h1 => c H1 _ (m _ _ s1 b) fun H2 us s2 h2 => k H2 (p :: us) (s1.trans s2) (.cons (h1.same s2) h2)
def RAt (l : Addr) (rs : List Rk) (H : Hp) : Prop := ∃ us : List Addr, H l = some (.lst (us.map V.ref)) ∧ Paired (fun u r => TrAt H r u) us rs
theorem rat_mono {l : Addr} {rs : List Rk} : Mono (RAt l rs) := fun H H' s ⟨us, e, h⟩ => ⟨us, s _ _ e, Paired.mono (fun _ _ z => z.same s) h⟩
theorem litr_setL {t : TA} {rs : List Rk} {i : Nat} {tb : TS} {D : Ends} {H : Hp} (σ2 : Addr → L2.St) (e2 : ∀ l, σ.set i (some (.ref l)) = σ2 l) (L : LitRs B σ t rs) (n : rs.length ≤ sizeLine) (b : B H) (k : ∀ H' l, Same H H' → RAt l rs H' → tb D (σ2 l) H') : tSeq (tAsg (tLst t) (gName i)) tb D σ H :=
  L H _ b fun H1 us s1 h1 => ⟨by rw [List.length_map, Paired.length h1]; exact n, fun p np => by
    show tb D (σ.set i (some (.ref p))) _
    rw [e2]
    exact k _ _ (s1.trans (same_new np)) ⟨us, upd_same, Paired.mono (fun _ _ z => z.same (same_new np)) h1⟩⟩
theorem litr_setC {t : TA} {rs es : List Rk} {i : Nat} {l : Addr} {tb : TS} {D : Ends} {H : Hp} (σ2 : Addr → L2.St) (e2 : ∀ l, σ.set i (some (.ref l)) = σ2 l) (e : σ[i]? = some (some (.ref l))) (L : LitRs (RAt l rs) σ t es) (n : es.length ≤ sizeLine) (n2 : rs.length + es.length ≤ sizeLine) (b : RAt l rs H)
    (k : ∀ H' l', Same H H' → RAt l' (rs ++ es) H' → tb D (σ2 l') H') : tSeq (tAsg (tOp rCat (tVar i) (tLst t)) (gName i)) tb D σ H := by
  refine ⟨_, e, L H _ b fun H1 us s1 h1 => ⟨by rw [List.length_map, Paired.length h1]; exact n, fun p np => ?_⟩⟩
  obtain ⟨xs, ex, dx⟩ := rat_mono _ _ s1 b
  have s2 := same_new (o := .lst (us.map V.ref)) np
  refine ⟨l, p, xs.map V.ref, us.map V.ref, rfl, rfl, s2 _ _ ex, upd_same, by rw [List.length_map, List.length_map, Paired.length dx, Paired.length h1]; exact n2, fun q nq => ?_⟩
  have s3 := same_new (o := .lst (xs.map V.ref ++ us.map V.ref)) nq
  show tb D (σ.set i (some (.ref q))) _
  rw [e2]
  exact k _ q ((s1.trans s2).trans s3) ⟨xs ++ us, by rw [upd_same, List.map_append], paired_app (Paired.mono (fun _ _ z => z.same (s2.trans s3)) dx) (Paired.mono (fun _ _ z => z.same (s2.trans s3)) h1)⟩
end
end MK


set_option Elab.async false
set_option linter.all false
set_option maxRecDepth 100000
set_option maxHeartbeats 4000000
namespace MK
open PySem PySem.Spec PyProof.Rows L2
def edgeS0 (z : Str) : List Rk := [(.is (1000000000) (1) []), (.is (-1000000000) (999999999) []), (.is (1) (1000000000) [(z, 20)])]
def edgeS1 (z : Str) : List Rk := [(.is (0) (1) [(z, -20)]), (.input (cutS (strRep z 8) none (some 8))), (.input "a"), .nought]
def edgeS2 (z : Str) : List Rk := [(.is (1) (1) [("a", 1), ("b", 2), ("c", 3), ("d", 4), ("e", -5), ("zzzzzzzz", 6)])]
def edgeL (z : Str) : List Rk := ((edgeS0 z) ++ edgeS1 z) ++ edgeS2 z
theorem cut8 {z : Str} (h : Nm z) : Nm (cutS (strRep z 8) none (some 8)) := by
  have l8 : (strRep z 8).length = z.length * 8 := by
    rw [strRep_len]
    rfl
  have h1 := h.1
  have e1 : HT.sIx (strRep z 8).length 0 none = 0 := rfl
  have e2 : HT.sIx (strRep z 8).length (strRep z 8).length (some 8) = 8 := by
    show HT.sIx _ _ (some ((8 : Nat) : Int)) = 8
    rw [HT.sIx_nat]
    omega
  have ll : (cutS (strRep z 8) none (some 8)).length = 8 := by
    show (((strRep z 8).cps.toList.drop (HT.sIx (strRep z 8).length 0 none)).take (HT.sIx (strRep z 8).length (strRep z 8).length (some 8) - HT.sIx (strRep z 8).length 0 none)).toArray.size = 8
    rw [e1, e2, List.size_toArray, List.length_take, List.length_drop, Array.length_toList]
    show min (8 - 0) ((strRep z 8).length - 0) = 8
    omega
  refine ⟨by omega, by omega, fun c hc => az_rep h.2.2 8 c ?_⟩
  have hc : c ∈ (((strRep z 8).cps.toList.drop (HT.sIx (strRep z 8).length 0 none)).take (HT.sIx (strRep z 8).length (strRep z 8).length (some 8) - HT.sIx (strRep z 8).length 0 none)).toArray.toList := hc
  rw [List.toList_toArray] at hc
  exact List.mem_of_mem_drop (List.mem_of_mem_take hc)
structure Leaf (r : Rk) : Prop where
  ok : r.Ok
  deep : r.deep = 1
  many : r.many = 1
  pows : r.pows = 0
theorem leaf_is {x y : Int} {m : Ms} (h : (Rk.is x y m).Ok) : Leaf (.is x y m) := ⟨h, rfl, rfl, rfl⟩
theorem one_ms {z : Str} {n : Int} (h : Nm z) (n0 : n ≠ 0) (n20 : n.natAbs ≤ 20) : MsIn [(z, n)] := ⟨⟨List.pairwise_singleton _ _, fun p hp => by rw [List.mem_singleton.mp hp]; exact n0⟩, by show 1 ≤ 6; decide, fun p hp => by rw [List.mem_singleton.mp hp]; exact h, fun p hp => by rw [List.mem_singleton.mp hp]; exact n20⟩
theorem no_ms : MsIn [] := ⟨can_nil, by show 0 ≤ 6; decide, fun p hp => absurd hp (by simp), fun p hp => absurd hp (by simp)⟩
theorem edge_leaf {z : Str} (h : Nm z) : ∀ r ∈ edgeL z, Leaf r := by
  intro r hr
  unfold edgeL at hr
  simp only [edgeS0, edgeS1, edgeS2, List.mem_append, List.mem_cons, List.mem_nil_iff, or_false] at hr
  rcases hr with ((rfl | rfl | rfl) | (rfl | rfl | rfl | rfl)) | rfl
  · exact leaf_is ⟨⟨by decide, by decide +kernel⟩, by decide, by decide, no_ms⟩
  · exact leaf_is ⟨⟨by decide, by decide +kernel⟩, by decide, by decide, no_ms⟩
  · exact leaf_is ⟨⟨by decide, by decide +kernel⟩, by decide, by decide, one_ms h (by decide) (by decide)⟩
  · exact leaf_is ⟨⟨by decide, by decide +kernel⟩, by decide, by decide, one_ms h (by decide) (by decide)⟩
  · exact ⟨cut8 h, rfl, rfl, rfl⟩
  · exact ⟨name_nm.mp (by decide +kernel), rfl, rfl, rfl⟩
  · exact ⟨trivial, rfl, rfl, rfl⟩
  · refine leaf_is ⟨⟨by decide, by decide +kernel⟩, by decide, by decide, ⟨⟨?_, ?_⟩, by show 6 ≤ 6; decide, ?_, ?_⟩⟩
    · have k : List.Pairwise sLt (([("a", 1), ("b", 2), ("c", 3), ("d", 4), ("e", -5), ("zzzzzzzz", 6)] : List (Str × Int)).map fun p => p.1) := risB_pw.mp (by decide +kernel)
      exact List.pairwise_map.mp k
    · intro p hp
      simp only [List.mem_cons, List.mem_nil_iff, or_false] at hp
      rcases hp with rfl | rfl | rfl | rfl | rfl | rfl
      all_goals decide
    · intro p hp
      simp only [List.mem_cons, List.mem_nil_iff, or_false] at hp
      rcases hp with rfl | rfl | rfl | rfl | rfl | rfl
      all_goals exact name_nm.mp (by decide +kernel)
    · intro p hp
      simp only [List.mem_cons, List.mem_nil_iff, or_false] at hp
      rcases hp with rfl | rfl | rfl | rfl | rfl | rfl
      all_goals decide
section
variable {P : Program} {w : World} {K : PySem.W.Frag} {mg : Str → Option Value} {base : Heap}
/-! ### _law_edge_leaf -/
theorem scEdge : FnScope ["_law_cell", "_law_word", "_law_some"] ["_law_cell", "_law_word"] (defScope sEdge) := ⟨rfl, rfl, rfl, by decide +kernel, rfl, by decide +kernel, by decide +kernel⟩
def spEdge : Sp := fun vs H Q _ => ∃ (c : Int) (z : Str), vs = [.int c, .str z] ∧ Nm z ∧ ∀ (H' : Hp) (p : Addr) (r : Rk), Same H H' → Leaf r → TrAt H' r p → Q (.ref p) H'
set_option maxHeartbeats 40000000 in
theorem ok_edge {f : Addr} {fd : FuncData} (F : Fun K "_law_edge_leaf" "_law_edge_leaf" sEdge f fd) (ml : mg "len" = none) : FnOk P w K mg base CX0 1 f fd ["_law_cell", "_law_word"] spEdge := by
  refine F.ok scEdge (fun vs H Q E h => ?_) (fun cdv A outer s H vs Q E hr h => ?_)
  · obtain ⟨c, z, rfl, _⟩ := h
    rfl
  · obtain ⟨c, z, rfl, hw, q⟩ := h
    have nd := scEdge.nd
    have hcut : ∀ (B : Hp → Prop) {l : Addr}, Lit K B [some (.int c), some (.str z), some (.ref l)] (tSl rSlS (tOp (fun x y H Q => ∃ (z : Str) (n : Int), x = .str z ∧ y = .int n ∧ (z.length ≤ 1000 ∧ n ≤ 1000 ∧ -1000 ≤ n) ∧ Q (.str (strRep z n)) H) (tVar 1) (tC (.int 8))) tNoPart (tPart (tC (.int 8)))) (.str (cutS (strRep z 8) none (some 8))) := fun B {l} H Q b k => by
      have h2 := hw.2.1
      refine ⟨_, rfl, z, 8, rfl, rfl, ⟨by omega, by decide, by decide⟩, 8, rfl, strRep z 8, rfl, ?_, k H _ (Same.refl _) (.str _)⟩
      rw [strRep_len]
      exact Nat.le_trans (show z.length * (8 : Int).toNat ≤ 1000 by show z.length * 8 ≤ 1000; omega) (by decide)
    refine ⟨_, (pss_cons (ps_set (i := 2) nd rfl (.inl rfl) (pe_lst (pa_cons (pe_tup (pa_cons pe_str (pa_cons (pe_tup (pa_cons (pe_op op_pow pe_int pe_int) (pa_cons pe_int pa_nil))) (pa_cons (pe_tupM pa_nil) pa_nil)))) (pa_cons (pe_tup (pa_cons pe_str (pa_cons (pe_tup (pa_cons (pe_un un_neg (pe_op op_pow pe_int pe_int)) (pa_cons (pe_op op_sub (pe_op op_pow pe_int pe_int) pe_int) pa_nil))) (pa_cons (pe_tupM pa_nil) pa_nil)))) (pa_cons (pe_tup (pa_cons pe_str (pa_cons (pe_tup (pa_cons pe_int (pa_cons (pe_op op_pow pe_int pe_int) pa_nil))) (pa_cons (pe_tupM (pa_cons (pe_tup (pa_cons (pv 1) (pa_cons pe_int pa_nil))) pa_nil)) pa_nil)))) pa_nil)))))
      (pss_cons (ps_set (i := 2) nd rfl (.inl rfl) (pe_op op_cat (pv 2) (pe_lst (pa_cons (pe_tup (pa_cons pe_str (pa_cons (pe_tup (pa_cons pe_int (pa_cons pe_int pa_nil))) (pa_cons (pe_tupM (pa_cons (pe_tup (pa_cons (pv 1) (pa_cons (pe_un un_neg pe_int) pa_nil))) pa_nil)) pa_nil)))) (pa_cons (pe_tup (pa_cons pe_str (pa_cons (pe_slice sl_str (pe_op op_mul_str (pv 1) pe_int) po_none (po_some pe_int)) pa_nil))) (pa_cons (pe_tup (pa_cons pe_str (pa_cons pe_str pa_nil))) (pa_cons (pe_tup (pa_cons pe_str pa_nil)) pa_nil)))))))
      (pss_cons (ps_set (i := 2) nd rfl (.inl rfl) (pe_op op_cat (pv 2) (pe_lst (pa_cons (pe_tup (pa_cons pe_str (pa_cons (pe_tup (pa_cons pe_int (pa_cons pe_int pa_nil))) (pa_cons (pe_tupM (pa_cons (pe_tup (pa_cons pe_str (pa_cons pe_int pa_nil))) (pa_cons (pe_tup (pa_cons pe_str (pa_cons pe_int pa_nil))) (pa_cons (pe_tup (pa_cons pe_str (pa_cons pe_int pa_nil))) (pa_cons (pe_tup (pa_cons pe_str (pa_cons pe_int pa_nil))) (pa_cons (pe_tup (pa_cons pe_str (pa_cons (pe_un un_neg pe_int) pa_nil))) (pa_cons (pe_tup (pa_cons pe_str (pa_cons pe_int pa_nil))) pa_nil))))))) pa_nil)))) pa_nil))))
      (pss_one (ps_ret (pe_ix ix_list (pv 2) (pe_op op_mod (pv 0) (pe_callB call_len_seq (by rfl) ml PySem.boot_len (pa_cons (pv 2) pa_nil))) (fun _ _ => rfl))))))), ?_⟩
    refine litr_setL (i := 2) (σ2 := fun l => [some (.int c), some (.str z), some (.ref l)]) (fun _ => rfl) (B := fun _ => True) (rs := edgeS0 z) (by have mo : Mono (fun _ : Hp => True) := (fun _ _ _ h => h); exact (litrs_cons mo (litr_is (K := K) (x := 1000000000) (y := 1) mo (lit_iC (c := 1000000000) mo (lit_c fun _ => .int _) (lit_c fun _ => .int _) ⟨by decide, by decide, by decide⟩ rfl) (lit_c fun _ => .int _) litps_nil (by show 0 ≤ 100; decide)) (litrs_cons mo (litr_is (K := K) (x := -1000000000) (y := 999999999) mo (lit_neg (lit_iC (c := 1000000000) mo (lit_c fun _ => .int _) (lit_c fun _ => .int _) ⟨by decide, by decide, by decide⟩ rfl)) (lit_i0 (c := 999999999) mo (lit_iC (c := 1000000000) mo (lit_c fun _ => .int _) (lit_c fun _ => .int _) ⟨by decide, by decide, by decide⟩ rfl) (lit_c fun _ => .int _) rfl) litps_nil (by show 0 ≤ 100; decide)) (litrs_cons mo (litr_is (K := K) (x := 1) (y := 1000000000) mo (lit_c fun _ => .int _) (lit_iC (c := 1000000000) mo (lit_c fun _ => .int _) (lit_c fun _ => .int _) ⟨by decide, by decide, by decide⟩ rfl) (litps_cons (K := K) mo (lit_var rfl fun _ _ => .str _) (lit_c fun _ => .int _) litps_nil) (by show 1 ≤ 100; decide)) litrs_nil)))) (by show 3 ≤ sizeLine; decide) trivial fun H1 l1 s1 h1 => ?_
    have s11 := s1
    refine litr_setC (i := 2) (σ2 := fun l => [some (.int c), some (.str z), some (.ref l)]) (fun _ => rfl) (rs := edgeS0 z) (es := edgeS1 z) rfl (by have mo : Mono (RAt l1 (edgeS0 z)) := rat_mono; exact (litrs_cons mo (litr_is (K := K) (x := 0) (y := 1) mo (lit_c fun _ => .int _) (lit_c fun _ => .int _) (litps_cons (K := K) mo (lit_var rfl fun _ _ => .str _) (lit_neg (lit_c fun _ => .int _)) litps_nil) (by show 1 ≤ 100; decide)) (litrs_cons mo (litr_input (K := K) (hcut (RAt l1 (edgeS0 z)))) (litrs_cons mo (litr_input (K := K) (lit_c fun _ => .str _)) (litrs_cons mo litr_nought litrs_nil))))) (by show 4 ≤ sizeLine; decide) (by show 7 ≤ sizeLine; decide) h1 fun H2 l2 s2 h2 => ?_
    have s12 := s11.trans s2
    refine litr_setC (i := 2) (σ2 := fun l => [some (.int c), some (.str z), some (.ref l)]) (fun _ => rfl) (rs := (edgeS0 z) ++ edgeS1 z) (es := edgeS2 z) rfl (by have mo : Mono (RAt l2 ((edgeS0 z) ++ edgeS1 z)) := rat_mono; exact (litrs_cons mo (litr_is (K := K) (x := 1) (y := 1) mo (lit_c fun _ => .int _) (lit_c fun _ => .int _) (litps_cons (K := K) mo (lit_c fun _ => .str _) (lit_c fun _ => .int _) (litps_cons (K := K) mo (lit_c fun _ => .str _) (lit_c fun _ => .int _) (litps_cons (K := K) mo (lit_c fun _ => .str _) (lit_c fun _ => .int _) (litps_cons (K := K) mo (lit_c fun _ => .str _) (lit_c fun _ => .int _) (litps_cons (K := K) mo (lit_c fun _ => .str _) (lit_neg (lit_c fun _ => .int _)) (litps_cons (K := K) mo (lit_c fun _ => .str _) (lit_c fun _ => .int _) litps_nil)))))) (by show 6 ≤ 100; decide)) litrs_nil)) (by show 1 ≤ sizeLine; decide) (by show 8 ≤ sizeLine; decide) h2 fun H3 l3 s3 h3 => ?_
    have s13 := s12.trans s3
    obtain ⟨us, eu, du⟩ := h3
    have hl : us.length = 8 := Paired.length du
    have hp : (0 : Int) < ((us.map V.ref).length : Int) := by rw [List.length_map]; omega
    obtain ⟨j, ej⟩ := Int.eq_ofNat_of_zero_le (Int.emod_nonneg c (show ((us.map V.ref).length : Int) ≠ 0 by omega))
    have hj : j < us.length := by
      have := Int.emod_lt_of_pos c hp
      rw [List.length_map] at this ej
      omega
    have hv : us[j]? = some us[j] := List.getElem?_eq_getElem hj
    obtain ⟨r, hr', ht⟩ := paired_ix du hv
    refine ⟨_, rfl, _, rfl, _, rfl, l3, _, rfl, .inl (SqL.of eu), _, _, rfl, rfl, hp, l3, _, _, .ref us[j], rfl, rfl, SqL.of eu, (by rw [ej]; exact atI_nat (by rw [List.getElem?_map, hv]; rfl)), ?_⟩
    exact q _ _ r s13 (edge_leaf hw r (List.mem_of_getElem? hr')) ht
end
end MK


set_option Elab.async false
set_option linter.all false
set_option maxRecDepth 100000
set_option maxHeartbeats 4000000
namespace MK
open PySem PySem.Spec PyProof.Rows L2
theorem op_at {i : Int} (h0 : 0 ≤ i) (h1 : i < 4) : ∃ o : Op4, atI [V.str "plus", V.str "minus", V.str "times", V.str "over"] i = some (.str o.name) := by
  have : i = 0 ∨ i = 1 ∨ i = 2 ∨ i = 3 := by omega
  rcases this with rfl | rfl | rfl | rfl
  · exact ⟨.plus, rfl⟩
  · exact ⟨.minus, rfl⟩
  · exact ⟨.times, rfl⟩
  · exact ⟨.over, rfl⟩
theorem three_at {a b c : V} {i : Int} (h0 : 0 ≤ i) (h1 : i < 3) : ∃ v, atI [a, b, c] i = some v ∧ (v = a ∨ v = b ∨ v = c) := by
  have : i = 0 ∨ i = 1 ∨ i = 2 := by omega
  rcases this with rfl | rfl | rfl
  · exact ⟨a, rfl, .inl rfl⟩
  · exact ⟨b, rfl, .inr (.inl rfl)⟩
  · exact ⟨c, rfl, .inr (.inr rfl)⟩
section
variable {P : Program} {w : World} {K : PySem.W.Frag} {mg : Str → Option Value} {base : Heap}
/-! ### _law_deep -/
theorem scDeep : FnScope ["_law_cell", "_law_many_here", "_law_leaf_here", "_law_tree_here", "_law_k", "_law_kind"] ["_law_cell", "_law_many_here", "_law_leaf_here"] (defScope sDeep) := ⟨rfl, rfl, rfl, by decide +kernel, rfl, by decide +kernel, by decide +kernel⟩
def spDeep : Sp := fun vs H Q _ => ∃ (c : Int) (n : Nat) (e : Addr) (re : Rk), vs = [.int c, .int (n : Nat), .ref e] ∧ 0 ≤ c ∧ n ≤ 100 ∧ TrAt H re e ∧ Leaf re ∧
  ∀ (H' : Hp) (p : Addr) (r : Rk), Same H H' → TrAt H' r p → r.Ok → r.deep = n + 1 → r.many ≤ 1 + 4 * n → r.pows = 0 → Q (.ref p) H'
theorem ok_deep {f : Addr} {fd : FuncData} (F : Fun K "_law_deep" "_law_deep" sDeep f fd) (mr : mg "range" = none) : FnOk P w K mg base CX0 1 f fd ["_law_cell", "_law_many_here", "_law_leaf_here"] spDeep := by
  refine F.ok scDeep (fun vs H Q E h => ?_) (fun cdv A outer s H vs Q E hr h => ?_)
  · obtain ⟨c, n, e, re, rfl, _⟩ := h
    rfl
  · obtain ⟨c, n, e, re, rfl, c0, hn, he, lf, q⟩ := h
    have nd := scDeep.nd
    refine ⟨_, pss_cons (ps_set (i := 3) nd rfl (.inl rfl) (pv 2))
      (pss_cons (ps_for PassesOwn.never rfl (pi_range1 rfl mr (pa_cons (pv 1) pa_nil)) (pg_name (i := 4) nd rfl (.inl rfl))
        (pss_cons (ps_set (i := 5) nd rfl (.inl rfl) (pe_ix ix_list (pe_lst (pa_cons pe_str (pa_cons pe_str (pa_cons pe_str (pa_cons pe_str pa_nil))))) (pe_op op_mod (pe_op op_add (pv 0) (pv 4)) pe_int) (fun _ _ => rfl)))
        (pss_one (ps_set (i := 3) nd rfl (.inl rfl) (pe_ix ix_list (pe_lst (pa_cons (pe_tup (pa_cons (pv 5) (pa_cons (pv 3) (pa_cons (pv 2) pa_nil)))) (pa_cons (pe_tup (pa_cons (pv 5) (pa_cons (pv 2) (pa_cons (pv 3) pa_nil))))
          (pa_cons (pe_tup (pa_cons pe_str (pa_cons (pv 2) (pa_cons (pv 2) (pa_cons (pv 2) (pa_cons (pv 3) pa_nil)))))) pa_nil)))) (pe_op op_mod (pe_op op_add (pe_op op_fdiv (pv 0) pe_int) (pv 4)) pe_int) (fun _ _ => rfl))))))
      (pss_one (ps_ret (pv 3)))), ?_⟩
    refine ⟨_, rfl, _, rfl, _, rfl, by omega, by omega, ?_⟩
    refine for_range (n := ((n : Nat) : Int).toNat) (fun i σ H2 => ∃ (p : Addr) (r : Rk) (v4 v5 : Option V), σ = [some (.int c), some (.int (n : Nat)), some (.ref e), some (.ref p), v4, v5] ∧ Same H H2 ∧ TrAt H2 r p ∧ r.Ok ∧ r.deep = i + 1 ∧ r.many ≤ 1 + 4 * i ∧ r.pows = 0)
      ⟨e, re, none, none, rfl, Same.refl _, he, lf.ok, lf.deep, by rw [lf.many]; omega, lf.pows⟩ ?_ ?_
    · rintro i σ H2 hi ⟨p, r, v4, v5, rfl, sm, ht, ok, hd, hm, hp⟩
      have he2 := he.same sm
      refine ⟨(by show 4 ≤ sizeLine; decide), fun l nl => ?_⟩
      have s1 := same_new (o := .lst [V.str "plus", V.str "minus", V.str "times", V.str "over"]) nl
      obtain ⟨o, ho⟩ := op_at (i := (c + (0 + (i : Int))) % 4) (Int.emod_nonneg _ (by decide)) (Int.emod_lt_of_pos _ (by decide))
      refine ⟨_, rfl, _, rfl, _, _, rfl, rfl, _, _, rfl, rfl, (by show (0 : Int) < 4; decide), l, _, _, _, rfl, rfl, SqL.of upd_same, ho, ?_⟩
      refine ⟨_, rfl, _, rfl, _, rfl, (by show 3 ≤ sizeLine; decide), fun t1 nt1 => ⟨_, rfl, _, rfl, _, rfl, (by show 3 ≤ sizeLine; decide), fun t2 nt2 => ⟨_, rfl, _, rfl, _, rfl, _, rfl, (by show 5 ≤ sizeLine; decide), fun t3 nt3 => ⟨(by show 3 ≤ sizeLine; decide), fun l2 nl2 => ?_⟩⟩⟩⟩
      have s2 := same_new (o := .tup [V.str o.name, V.ref p, V.ref e]) nt1
      have s3 := same_new (o := .tup [V.str o.name, V.ref e, V.ref p]) nt2
      have s4 := same_new (o := .tup [V.str "less", V.ref e, V.ref e, V.ref e, V.ref p]) nt3
      have s5 := same_new (o := .lst [V.ref t1, V.ref t2, V.ref t3]) nl2
      have s25 := s2.trans (s3.trans (s4.trans s5))
      have ss := s1.trans s25
      obtain ⟨v, hv, hv3⟩ := three_at (a := V.ref t1) (b := V.ref t2) (c := V.ref t3) (i := (c / 4 + (0 + (i : Int))) % 3) (Int.emod_nonneg _ (by decide)) (Int.emod_lt_of_pos _ (by decide))
      have ld := lf.deep
      have lm := lf.many
      have lp := lf.pows
      have done : ∃ (p' : Addr) (r' : Rk), v = .ref p' ∧ TrAt (upd (upd (upd (upd (upd H2 l (.lst [V.str "plus", V.str "minus", V.str "times", V.str "over"])) t1 (.tup [V.str o.name, V.ref p, V.ref e])) t2 (.tup [V.str o.name, V.ref e, V.ref p])) t3 (.tup [V.str "less", V.ref e, V.ref e, V.ref e, V.ref p])) l2 (.lst [V.ref t1, V.ref t2, V.ref t3])) r' p' ∧
          r'.Ok ∧ r'.deep = i + 1 + 1 ∧ r'.many ≤ 1 + 4 * (i + 1) ∧ r'.pows = 0 := by
        rcases hv3 with rfl | rfl | rfl
        · exact ⟨t1, .bin o r re, rfl, ⟨p, e, (s3.trans (s4.trans s5)) _ _ upd_same, ht.same ss, he2.same ss⟩, ⟨ok, lf.ok⟩, by show 1 + max r.deep re.deep = _; omega, by show 1 + (r.many + re.many) ≤ _; omega, by show max r.pows re.pows = 0; omega⟩
        · exact ⟨t2, .bin o re r, rfl, ⟨e, p, (s4.trans s5) _ _ upd_same, he2.same ss, ht.same ss⟩, ⟨lf.ok, ok⟩, by show 1 + max re.deep r.deep = _; omega, by show 1 + (re.many + r.many) ≤ _; omega, by show max re.pows r.pows = 0; omega⟩
        · exact ⟨t3, .less re re re r, rfl, ⟨e, e, e, p, s5 _ _ upd_same, he2.same ss, he2.same ss, he2.same ss, ht.same ss⟩, ⟨lf.ok, lf.ok, lf.ok, ok⟩, by show 1 + max (max re.deep re.deep) (max re.deep r.deep) = _; omega, by show 1 + (re.many + re.many + re.many + r.many) ≤ _; omega, by show max (max re.pows re.pows) (max re.pows r.pows) = 0; omega⟩
      obtain ⟨p', r', rfl, d1, d2, d3, d4, d5⟩ := done
      refine ⟨_, rfl, _, _, rfl, rfl, ⟨by decide, by decide⟩, _, rfl, _, _, rfl, rfl, _, _, rfl, rfl, (by show (0 : Int) < 3; decide), l2, _, _, _, rfl, rfl, SqL.of upd_same, hv, ?_⟩
      exact ⟨p', r', _, _, rfl, sm.trans ss, d1, d2, d3, d4, d5⟩
    · rintro σ H2 ⟨p, r, v4, v5, rfl, sm, ht, ok, hd, hm, hp⟩
      rw [Int.toNat_natCast] at hd hm
      exact ⟨_, rfl, q H2 p r sm ht ok hd hm hp⟩
/-! ### _law_powers -/
theorem scPows : FnScope ["_law_cell", "_law_many_here", "_law_leaf_here", "_law_tree_here", "_law_k"] ["_law_cell", "_law_many_here", "_law_leaf_here"] (defScope sPows) := ⟨rfl, rfl, rfl, by decide +kernel, rfl, by decide +kernel, by decide +kernel⟩
def spPows : Sp := fun vs H Q _ => ∃ (c : Int) (n : Nat) (e : Addr) (re : Rk), vs = [.int c, .int (n : Nat), .ref e] ∧ 0 ≤ c ∧ n ≤ 4 ∧ TrAt H re e ∧ Leaf re ∧
  ∀ (H' : Hp) (p : Addr) (r : Rk), Same H H' → TrAt H' r p → r.Ok → r.deep ≤ 1 + 2 * n → r.many ≤ 1 + 3 * n → r.pows = n → Q (.ref p) H'
theorem ok_pows {f : Addr} {fd : FuncData} (F : Fun K "_law_powers" "_law_powers" sPows f fd) (mr : mg "range" = none) : FnOk P w K mg base CX0 1 f fd ["_law_cell", "_law_many_here", "_law_leaf_here"] spPows := by
  refine F.ok scPows (fun vs H Q E h => ?_) (fun cdv A outer s H vs Q E hr h => ?_)
  · obtain ⟨c, n, e, re, rfl, _⟩ := h
    rfl
  · obtain ⟨c, n, e, re, rfl, c0, hn, he, lf, q⟩ := h
    have nd := scPows.nd
    refine ⟨_, pss_cons (ps_set (i := 3) nd rfl (.inl rfl) (pv 2))
      (pss_cons (ps_for PassesOwn.never rfl (pi_range1 rfl mr (pa_cons (pv 1) pa_nil)) (pg_name (i := 4) nd rfl (.inl rfl))
        (pss_cons (ps_set (i := 3) nd rfl (.inl rfl) (pe_tup (pa_cons pe_str (pa_cons (pv 3) (pa_cons (pe_ix ix_list (pe_lst (pa_cons pe_int (pa_cons (pe_un un_neg pe_int) (pa_cons pe_int (pa_cons pe_int pa_nil))))) (pe_op op_mod (pe_op op_add (pv 0) (pv 4)) pe_int) (fun _ _ => rfl)) pa_nil)))))
        (pss_one (ps_if (pt_cmpR op_eq (pe_op op_mod (pe_op op_fdiv (pv 0) pe_int) pe_int) pe_int (nomark _)) (pss_one (ps_set (i := 3) nd rfl (.inl rfl) (pe_tup (pa_cons pe_str (pa_cons (pv 2) (pa_cons (pv 3) pa_nil)))))) pss_nil))))
      (pss_one (ps_ret (pv 3)))), ?_⟩
    refine ⟨_, rfl, _, rfl, _, rfl, by omega, by omega, ?_⟩
    refine for_range (n := ((n : Nat) : Int).toNat) (fun i σ H2 => ∃ (p : Addr) (r : Rk) (v4 : Option V), σ = [some (.int c), some (.int (n : Nat)), some (.ref e), some (.ref p), v4] ∧ Same H H2 ∧ TrAt H2 r p ∧ r.Ok ∧ r.deep ≤ 1 + 2 * i ∧ r.many ≤ 1 + 3 * i ∧ r.pows = i)
      ⟨e, re, none, rfl, Same.refl _, he, lf.ok, by rw [lf.deep]; omega, by rw [lf.many]; omega, lf.pows⟩ ?_ ?_
    · rintro i σ H2 hi ⟨p, r, v4, rfl, sm, ht, ok, hd, hm, hp⟩
      have he2 := he.same sm
      refine ⟨_, rfl, _, rfl, (by show 4 ≤ sizeLine; decide), fun l nl => ?_⟩
      have s1 := same_new (o := .lst [V.int 4, V.int (-4), V.int 0, V.int 1]) nl
      obtain ⟨y, hy, y1, y2⟩ : ∃ y : Int, atI [V.int 4, V.int (-4), V.int 0, V.int 1] ((c + (0 + (i : Int))) % 4) = some (.int y) ∧ -4 ≤ y ∧ y ≤ 4 := by
        have h0 : 0 ≤ (c + (0 + (i : Int))) % 4 := Int.emod_nonneg _ (by decide)
        have h1 : (c + (0 + (i : Int))) % 4 < 4 := Int.emod_lt_of_pos _ (by decide)
        generalize (c + (0 + (i : Int))) % 4 = m at h0 h1
        have : m = 0 ∨ m = 1 ∨ m = 2 ∨ m = 3 := by omega
        rcases this with rfl | rfl | rfl | rfl
        · exact ⟨4, rfl, by decide, by decide⟩
        · exact ⟨-4, rfl, by decide, by decide⟩
        · exact ⟨0, rfl, by decide, by decide⟩
        · exact ⟨1, rfl, by decide, by decide⟩
      refine ⟨_, rfl, _, rfl, _, _, rfl, rfl, _, _, rfl, rfl, (by show (0 : Int) < 4; decide), l, _, _, _, rfl, rfl, SqL.of upd_same, hy, (by show 3 ≤ sizeLine; decide), fun t nt => ?_⟩
      have s2 := same_new (o := .tup [V.str "power", V.ref p, V.int y]) nt
      have s12 := s1.trans s2
      have ld := lf.deep
      have lm := lf.many
      have lp := lf.pows
      refine ⟨_, rfl, _, _, rfl, rfl, ⟨by decide, by decide⟩, _, _, rfl, rfl, (by show (0 : Int) < 2; decide), rfl, _, rfl, ite2 (fun _ => ?_) (fun _ => ?_)⟩
      · refine ⟨_, rfl, _, rfl, (by show 3 ≤ sizeLine; decide), fun u nu => ?_⟩
        have s3 := same_new (o := .tup [V.str "times", V.ref e, V.ref t]) nu
        have s13 := s12.trans s3
        exact ⟨u, .bin .times re (.power r y), _, rfl, sm.trans s13, ⟨e, t, upd_same, he2.same s13, ⟨p, s3 _ _ upd_same, ht.same s13⟩⟩, ⟨lf.ok, ok, y1, y2⟩, by show 1 + max re.deep (1 + r.deep) ≤ _; omega, by show 1 + (re.many + (1 + r.many)) ≤ _; omega, by show max re.pows (1 + r.pows) = _; omega⟩
      · exact ⟨t, .power r y, _, rfl, sm.trans s12, ⟨p, upd_same, ht.same s12⟩, ⟨ok, y1, y2⟩, by show 1 + r.deep ≤ _; omega, by show 1 + r.many ≤ _; omega, by show 1 + r.pows = _; omega⟩
    · rintro σ H2 ⟨p, r, v4, rfl, sm, ht, ok, hd, hm, hp⟩
      rw [Int.toNat_natCast] at hd hm hp
      exact ⟨_, rfl, q H2 p r sm ht ok hd hm hp⟩
end
end MK


set_option Elab.async false
set_option linter.all false
set_option maxRecDepth 100000
set_option maxHeartbeats 4000000
namespace MK
open PySem PySem.Spec PyProof.Rows L2
def sumM (l : List Rk) : Nat := (l.map Rk.many).sum
/-- rows paired, two by two -/
def pairUp (rs : List Rk) (k : Nat) : List Rk := (List.range k).map fun j => .bin .plus (rs.getD (2 * j) .nought) (rs.getD (2 * j + 1) .nought)
structure Rows (m : Nat) (d : Nat) (rs : List Rk) : Prop where
  ok : ∀ r ∈ rs, r.Ok ∧ r.deep ≤ d ∧ r.pows = 0
  sum : sumM rs + rs.length = m
theorem sum_drop (l : List Rk) (k : Nat) : sumM (l.drop (2 * k)) + (((List.range k).map fun j => (l.getD (2 * j) .nought).many + (l.getD (2 * j + 1) .nought).many).sum) = sumM l ∨ l.length < 2 * k := by
  induction k with
  | zero => left; show sumM (l.drop 0) + 0 = _; rw [List.drop_zero]; rfl
  | succ k ih =>
    by_cases h : l.length < 2 * (k + 1)
    · exact .inr h
    · rcases ih with ih | ih
      · left
        have h1 : 2 * k < l.length := by omega
        have h2 : 2 * k + 1 < l.length := by omega
        have e : l.drop (2 * k) = l[2 * k] :: l[2 * k + 1] :: l.drop (2 * (k + 1)) := by
          rw [List.drop_eq_getElem_cons h1, List.drop_eq_getElem_cons h2]
          rfl
        have g1 : l.getD (2 * k) .nought = l[2 * k] := by rw [List.getD_eq_getElem?_getD, List.getElem?_eq_getElem h1]; rfl
        have g2 : l.getD (2 * k + 1) .nought = l[2 * k + 1] := by rw [List.getD_eq_getElem?_getD, List.getElem?_eq_getElem h2]; rfl
        rw [List.range_succ, List.map_append, List.sum_append]
        rw [e] at ih
        have s : sumM (l[2 * k] :: l[2 * k + 1] :: l.drop (2 * (k + 1))) = l[2 * k].many + (l[2 * k + 1].many + sumM (l.drop (2 * (k + 1)))) := rfl
        rw [s] at ih
        show sumM (l.drop (2 * (k + 1))) + (_ + ((l.getD (2 * k) .nought).many + (l.getD (2 * k + 1) .nought).many + 0)) = _
        rw [g1, g2]
        omega
      · omega
theorem sum_pair (l : List Rk) (k : Nat) : sumM (pairUp l k) = k + (((List.range k).map fun j => (l.getD (2 * j) .nought).many + (l.getD (2 * j + 1) .nought).many).sum) := by
  unfold pairUp sumM
  rw [List.map_map]
  induction k with
  | zero => rfl
  | succ k ih =>
    rw [List.range_succ, List.map_append, List.map_append, List.sum_append, List.sum_append, ih]
    show _ + ((1 + ((l.getD (2 * k) .nought).many + (l.getD (2 * k + 1) .nought).many)) + 0) = _ + (_ + ((l.getD (2 * k) .nought).many + (l.getD (2 * k + 1) .nought).many + 0))
    omega
theorem rows_next {m d : Nat} {l : List Rk} (h : Rows m d l) : Rows m (d + 1) (pairUp l (l.length / 2) ++ l.drop (2 * (l.length / 2))) := by
  refine ⟨fun r hr => ?_, ?_⟩
  · rcases List.mem_append.mp hr with hr | hr
    · obtain ⟨j, hj, rfl⟩ := List.mem_map.mp hr
      have hj := List.mem_range.mp hj
      have h1 : 2 * j < l.length := by omega
      have h2 : 2 * j + 1 < l.length := by omega
      have g1 : l.getD (2 * j) .nought = l[2 * j] := by rw [List.getD_eq_getElem?_getD, List.getElem?_eq_getElem h1]; rfl
      have g2 : l.getD (2 * j + 1) .nought = l[2 * j + 1] := by rw [List.getD_eq_getElem?_getD, List.getElem?_eq_getElem h2]; rfl
      rw [g1, g2]
      obtain ⟨a1, a2, a3⟩ := h.ok _ (List.getElem_mem h1)
      obtain ⟨b1, b2, b3⟩ := h.ok _ (List.getElem_mem h2)
      exact ⟨⟨a1, b1⟩, by show 1 + max l[2 * j].deep l[2 * j + 1].deep ≤ d + 1; omega, by show max l[2 * j].pows l[2 * j + 1].pows = 0; omega⟩
    · obtain ⟨a1, a2, a3⟩ := h.ok r (List.mem_of_mem_drop hr)
      exact ⟨a1, by omega, a3⟩
  · have s := h.sum
    have e : sumM (pairUp l (l.length / 2) ++ l.drop (2 * (l.length / 2))) = sumM (pairUp l (l.length / 2)) + sumM (l.drop (2 * (l.length / 2))) := by
      unfold sumM
      rw [List.map_append, List.sum_append]
    rw [e, sum_pair]
    have := sum_drop l (l.length / 2)
    rw [List.length_append, List.length_drop]
    have pl : (pairUp l (l.length / 2)).length = l.length / 2 := by unfold pairUp; rw [List.length_map, List.length_range]
    omega
section
variable {P : Program} {w : World} {K : PySem.W.Frag} {mg : Str → Option Value} {base : Heap}
/-! ### _law_wide -/
theorem scWide : FnScope ["_law_many_here", "_law_leaf_here", "_law_rows", "_law_k", "_law_pairs"] ["_law_many_here", "_law_leaf_here"] (defScope sWide) := ⟨rfl, rfl, rfl, by decide +kernel, rfl, by decide +kernel, by decide +kernel⟩
def spWide : Sp := fun vs H Q _ => ∃ (n : Nat) (e : Addr) (re : Rk), vs = [.int (n : Nat), .ref e] ∧ 1 ≤ n ∧ n ≤ 120 ∧ TrAt H re e ∧ Leaf re ∧
  ∀ (H' : Hp) (p : Addr) (r : Rk), Same H H' → TrAt H' r p → r.Ok → r.deep ≤ 9 → r.many = n → r.pows ≤ 1 → Q (.ref p) H'
theorem ok_wide {f : Addr} {fd : FuncData} (F : Fun K "_law_wide" "_law_wide" sWide f fd) (mr : mg "range" = none) (ml : mg "len" = none) : FnOk P w K mg base CX0 1 f fd ["_law_many_here", "_law_leaf_here"] spWide := by
  refine F.ok scWide (fun vs H Q E h => ?_) (fun cdv A outer s H vs Q E hr h => ?_)
  · obtain ⟨n, e, re, rfl, _⟩ := h
    rfl
  · obtain ⟨n, e, re, rfl, n1, n2, he, lf, q⟩ := h
    have nd := scWide.nd
    refine ⟨_, pss_cons (ps_set (i := 2) nd rfl (.inr rfl) (pe_lc (own := [("_law_k", 3)]) (g := gName 3) (tt := tYes) rfl nd (pi_range1 rfl mr (pa_cons (pe_op op_fdiv (pe_op op_add (pv 0) pe_int) pe_int) pa_nil))
        (blkOk_by (N := ["_law_many_here", "_law_leaf_here", "_law_rows", "_law_k", "_law_pairs"]) (sc := defScope sWide) (by decide +kernel)) (fun _ _ _ _ _ => pg_name (i := 3) nd rfl (Or.inl rfl)) (fun _ _ _ _ _ => pts_nil) (fun _ _ _ _ _ => pv 1)))
      (pss_cons (ps_while PassesOwn.never (pt_cmpR op_gt (pe_callB call_len_seq (by rfl) ml PySem.boot_len (pa_cons (pv 2) pa_nil)) pe_int (nomark _))
        (pss_cons (ps_setLc (i := 4) (own := [("_law_k", 3)]) (g := gName 3) rfl nd rfl rfl (sw_true rfl rfl rfl (by decide +kernel)) (pi_range1 rfl mr (pa_cons (pe_op op_fdiv (pe_callB call_len_seq (by rfl) ml PySem.boot_len (pa_cons (pv 2) pa_nil)) pe_int) pa_nil))
            (blkOk_by (N := ["_law_many_here", "_law_leaf_here", "_law_rows", "_law_k", "_law_pairs"]) (sc := defScope sWide) (by decide +kernel)) (fun _ _ _ _ _ => pg_name (i := 3) nd rfl (Or.inl rfl)) (fun _ _ _ _ _ => pts_nil)
            (fun _ _ _ _ _ => pe_tup (pa_cons pe_str (pa_cons (pe_ix (show IxR _ (rIxL K) from ix_list) (pv 2) (pe_op op_mul pe_int (pv 3)) (fun _ _ => rfl)) (pa_cons (pe_ix (show IxR _ (rIxL K) from ix_list) (pv 2) (pe_op op_add (pe_op op_mul pe_int (pv 3)) pe_int) (fun _ _ => rfl)) pa_nil)))))
        (pss_one (ps_set (i := 2) nd rfl (.inr rfl) (pe_op op_cat (pv 4) (pe_slice sl_list (pv 2) (po_some (pe_op op_mul pe_int (pe_callB call_len_seq (by rfl) ml PySem.boot_len (pa_cons (pv 4) pa_nil)))) po_none))))))
      (pss_cons (ps_if (pt_cmpR op_eq (pe_op op_mod (pv 0) pe_int) pe_int (nomark _)) (pss_one (ps_ret (pe_tup (pa_cons pe_str (pa_cons (pe_ix ix_list (pv 2) pe_int (fun _ _ => rfl)) (pa_cons (pe_un un_neg pe_int) pa_nil)))))) pss_nil)
      (pss_one (ps_ret (pe_ix ix_list (pv 2) pe_int (fun _ _ => rfl)))))), ?_⟩
    obtain ⟨L, hL⟩ : ∃ L : Nat, L = (n + 1) / 2 := ⟨_, rfl⟩
    have cL : ((n : Int) + 1) / 2 = ((L : Nat) : Int) := by omega
    refine ⟨_, rfl, _, _, rfl, rfl, _, _, rfl, rfl, ⟨by decide, by decide⟩, ((n : Int) + 1) / 2, rfl, by omega, by omega, fun D nD => ?_⟩
    rw [cL]
    refine lc_range (lo := 0) (n := ((L : Nat) : Int).toNat) (fun i H' => Same H H' ∧ H' D = some (.lst ((List.replicate i e).map V.ref))) ⟨same_new nD, upd_same⟩ ?_ ?_
    · rintro i H' hi ⟨sm, hD⟩
      rw [Int.toNat_natCast] at hi
      refine ⟨rfl, ?_⟩
      refine ⟨_, rfl, _, hD, ?_, same_upd sm nD, ?_⟩
      · rw [List.length_map, List.length_replicate]
        exact small1000 (by omega)
      · rw [upd_same, List.replicate_succ', List.map_append]
        rfl
    rintro H1 ⟨s1, hD⟩
    rw [Int.toNat_natCast] at hD
    have rows0 : Rows (2 * L) 1 (List.replicate L re) := ⟨fun r hr => by
      rw [(List.mem_replicate.mp hr).2]
      exact ⟨lf.ok, by rw [lf.deep]; omega, lf.pows⟩, by
      unfold sumM
      rw [List.map_replicate, List.sum_replicate_nat, List.length_replicate, lf.many]
      omega⟩
    have pr0 : ∀ k : Nat, Paired (fun u r => TrAt H1 r u) (List.replicate k e) (List.replicate k re) := fun k => by
      induction k with
      | zero => exact .nil
      | succ k ih => exact .cons (he.same s1) ih
    refine ⟨fun m σ H2 => ∃ (ly : Addr) (us : List Addr) (rs : List Rk) (t : Nat) (v3 v4 : Option V), m = rs.length ∧ σ = [some (.int (n : Nat)), some (.ref e), some (.ref ly), v3, v4] ∧ Same H H2 ∧ H2 ly = some (.lst (us.map V.ref)) ∧ Paired (fun u r => TrAt H2 r u) us rs ∧ Rows (2 * L) (t + 1) rs ∧ t ≤ 7 ∧ rs.length * 2 ^ t ≤ 64 + 2 ^ t ∧ 1 ≤ rs.length,
      ⟨_, D, List.replicate L e, List.replicate L re, 0, none, none, rfl, rfl, s1, hD, pr0 L, rows0, by omega, by rw [List.length_replicate]; omega, by rw [List.length_replicate]; omega⟩, ?_⟩
    rintro m σ H2 ⟨ly, us, rs, t, v3, v4, em, rfl, sm, hly, pr, rows, ht6, hlt, h1⟩
    have ul := pr.length
    refine ⟨_, rfl, ly, _, rfl, .inl (SqL.of hly), _, _, rfl, rfl, _, rfl, ite2 (fun e2 => ?_) (fun e2 => ?_)⟩
    · have l2 : 2 ≤ rs.length := by
        have := of_decide_eq_true e2
        rw [List.length_map] at this
        omega
      have t6 : t ≤ 6 := Decidable.byContradiction fun z => by
        have h7 : 2 ^ 7 ≤ 2 ^ t := Nat.pow_le_pow_right (by decide) (by omega)
        have h8 : 2 * 2 ^ t ≤ rs.length * 2 ^ t := Nat.mul_le_mul_right _ l2
        omega
      have len65 : rs.length ≤ 200 := by
        have h8 : rs.length * 1 ≤ rs.length * 2 ^ t := Nat.mul_le_mul_left _ (Nat.one_le_two_pow)
        have h9 : 2 ^ t ≤ 2 ^ 6 := Nat.pow_le_pow_right (by decide) t6
        omega
      refine ⟨fun σ' H' => ∃ (ly : Addr) (us : List Addr) (rs' : List Rk) (t : Nat) (v3 v4 : Option V), rs'.length < rs.length ∧ σ' = [some (.int (n : Nat)), some (.ref e), some (.ref ly), v3, v4] ∧ Same H H' ∧ H' ly = some (.lst (us.map V.ref)) ∧ Paired (fun u r => TrAt H' r u) us rs' ∧ Rows (2 * L) (t + 1) rs' ∧ t ≤ 7 ∧ rs'.length * 2 ^ t ≤ 64 + 2 ^ t ∧ 1 ≤ rs'.length,
        fun σ' H' ⟨a1, a2, a3, a4, a5, a6, e1, e2⟩ => ⟨a3.length, by omega, a1, a2, a3, a4, a5, a6, rfl, e2⟩, ?_⟩
      have ck : ((us.map V.ref).length : Int) / 2 = ((rs.length / 2 : Nat) : Int) := by
        rw [List.length_map, ul]
        omega
      refine ⟨_, rfl, ly, _, rfl, .inl (SqL.of hly), _, _, rfl, rfl, ⟨by decide, by decide⟩, _, rfl, by omega, by omega, fun D2 nD2 => ?_⟩
      rw [ck]
      refine lc_range (lo := 0) (n := ((rs.length / 2 : Nat) : Int).toNat) (fun i H' => Same H2 H' ∧ ∃ ws : List Addr, H' D2 = some (.lst (ws.map V.ref)) ∧ Paired (fun u r => TrAt H' r u) ws (pairUp rs i)) ⟨same_new nD2, [], upd_same, .nil⟩ ?_ ?_
      · rintro i H' hi ⟨s3, ws, hD2, pw⟩
        rw [Int.toNat_natCast] at hi
        refine ⟨rfl, ?_⟩
        have j1 : 2 * i < rs.length := by omega
        have j2 : 2 * i + 1 < rs.length := by omega
        have b1 : atI (us.map V.ref) (2 * (0 + (i : Int))) = some (.ref us[2 * i]) := by
          rw [show (2 : Int) * (0 + (i : Int)) = ((2 * i : Nat) : Int) by omega]
          exact atI_nat (by rw [List.getElem?_map, List.getElem?_eq_getElem (by omega)]; rfl)
        have b2 : atI (us.map V.ref) (2 * (0 + (i : Int)) + 1) = some (.ref us[2 * i + 1]) := by
          rw [show (2 : Int) * (0 + (i : Int)) + 1 = ((2 * i + 1 : Nat) : Int) by omega]
          exact atI_nat (by rw [List.getElem?_map, List.getElem?_eq_getElem (by omega)]; rfl)
        have hly3 := s3 _ _ hly
        obtain ⟨r1, hr1, ht1⟩ := paired_ix pr (List.getElem?_eq_getElem (show 2 * i < us.length by omega))
        obtain ⟨r2, hr2, ht2⟩ := paired_ix pr (List.getElem?_eq_getElem (show 2 * i + 1 < us.length by omega))
        refine ⟨_, rfl, _, rfl, _, _, rfl, rfl, .inl ⟨by decide, by decide⟩, ly, _, _, _, rfl, rfl, SqL.of hly3, b1, _, rfl, _, rfl, _, _, rfl, rfl, .inl ⟨by decide, by decide⟩, _, _, rfl, rfl, ly, _, _, _, rfl, rfl, SqL.of hly3, b2, (by show 3 ≤ sizeLine; decide), fun u nu => ?_⟩
        have s4 := same_new (o := .tup [V.str "plus", V.ref us[2 * i], V.ref us[2 * i + 1]]) nu
        have hD4 := s4 _ _ hD2
        refine ⟨_, hD4, ?_, same_upd (s3.trans s4) nD2, ws ++ [u], ?_, ?_⟩
        · rw [List.length_map, pw.length]
          unfold pairUp
          rw [List.length_map, List.length_range]
          exact small1000 (by omega)
        · rw [upd_same, List.map_append]
          rfl
        · have ep : pairUp rs (i + 1) = pairUp rs i ++ [.bin .plus r1 r2] := by
            unfold pairUp
            rw [List.range_succ, List.map_append]
            show _ ++ [Rk.bin .plus (rs.getD (2 * i) .nought) (rs.getD (2 * i + 1) .nought)] = _
            rw [List.getD_eq_getElem?_getD, List.getD_eq_getElem?_getD, hr1, hr2]
            rfl
          rw [ep]
          refine Paired.mono (fun _ _ z => tr_list hD4 z) (Paired.snoc (Paired.mono (fun _ _ z => TrAt.same s4 z) pw) ?_)
          exact ⟨us[2 * i], us[2 * i + 1], upd_same, ht1.same (s3.trans s4), ht2.same (s3.trans s4)⟩
      · rintro H3 ⟨s3, ws, hD2, pw⟩
        rw [Int.toNat_natCast] at pw
        have wl : ws.length = rs.length / 2 := by
          rw [pw.length]
          unfold pairUp
          rw [List.length_map, List.length_range]
        have cw : (2 : Int) * ((ws.map V.ref).length : Int) = ((2 * (rs.length / 2) : Nat) : Int) := by
          rw [List.length_map, wl]
          omega
        refine ⟨_, rfl, _, rfl, _, rfl, D2, _, rfl, .inl (SqL.of hD2), _, _, rfl, rfl, .inl ⟨by decide, by decide⟩, _, rfl, ly, _, rfl, SqL.of (s3 _ _ hly), fun p np => ?_⟩
        rw [cw, cut_drop (by rw [List.length_map]; omega), ← List.map_drop]
        have s4 := same_new (o := .lst ((us.drop (2 * (rs.length / 2))).map V.ref)) np
        refine ⟨D2, p, _, _, rfl, rfl, s4 _ _ hD2, upd_same, ?_, fun q' nq => ?_⟩
        · rw [List.length_map, List.length_map, wl, List.length_drop]
          exact Nat.le_trans (show rs.length / 2 + (us.length - 2 * (rs.length / 2)) ≤ 1000 by omega) (by decide)
        have s5 := same_new (o := .lst (ws.map V.ref ++ (us.drop (2 * (rs.length / 2))).map V.ref)) nq
        have s45 := s4.trans s5
        have nl : (pairUp rs (rs.length / 2) ++ rs.drop (2 * (rs.length / 2))).length = rs.length / 2 + (rs.length - 2 * (rs.length / 2)) := by
          rw [List.length_append, List.length_drop]
          unfold pairUp
          rw [List.length_map, List.length_range]
        refine ⟨q', ws ++ us.drop (2 * (rs.length / 2)), pairUp rs (rs.length / 2) ++ rs.drop (2 * (rs.length / 2)), t + 1, _, _, by rw [nl]; omega, rfl, (sm.trans s3).trans s45, by rw [upd_same, List.map_append], paired_app (Paired.mono (fun _ _ z => TrAt.same s45 z) pw) (Paired.mono (fun _ _ z => TrAt.same (s3.trans s45) z) (paired_drop _ pr)), rows_next rows, by omega, ?_, by rw [nl]; omega⟩
        rw [nl]
        have h8 : (rs.length / 2 + (rs.length - 2 * (rs.length / 2))) * 2 ≤ rs.length + 1 := by omega
        have h9 := Nat.mul_le_mul_right (2 ^ t) h8
        rw [Nat.pow_succ, Nat.mul_comm (2 ^ t) 2, ← Nat.mul_assoc]
        have h10 : (rs.length + 1) * 2 ^ t = rs.length * 2 ^ t + 2 ^ t := by rw [Nat.add_mul, Nat.one_mul]
        omega
    · have l1 : rs.length = 1 := by
        have : ¬ (1 : Int) < ((us.map V.ref).length : Int) := fun z => e2 (decide_eq_true z)
        rw [List.length_map] at this
        omega
      obtain ⟨r, rfl⟩ : ∃ r, rs = [r] := List.length_eq_one_iff.mp l1
      obtain ⟨p, rfl⟩ : ∃ p, us = [p] := List.length_eq_one_iff.mp (ul.trans l1)
      cases pr with
      | cons hr' _ =>
      obtain ⟨o1, o2, o3⟩ := rows.ok r (List.mem_singleton.mpr rfl)
      have sm2 : r.many + 0 + 1 = 2 * L := rows.sum
      have a0 : atI ([p].map V.ref) 0 = some (V.ref p) := rfl
      refine ⟨_, rfl, _, _, rfl, rfl, (by show (0 : Int) < 2; decide), rfl, _, rfl, ite2 (fun e3 => ?_) (fun e3 => ?_)⟩
      · have ev : n % 2 = 0 := by
          have := V.int.inj (of_decide_eq_true e3)
          omega
        refine ⟨_, rfl, ly, _, _, _, rfl, rfl, SqL.of hly, a0, _, rfl, (by show 3 ≤ sizeLine; decide), fun u nu => ?_⟩
        have s4 := same_new (o := .tup [V.str "power", V.ref p, V.int (-4)]) nu
        exact q _ u (.power r (-4)) (sm.trans s4) ⟨p, upd_same, hr'.same s4⟩ ⟨o1, by decide, by decide⟩ (by show 1 + r.deep ≤ 9; omega) (by show 1 + r.many = n; omega) (by show 1 + r.pows ≤ 1; omega)
      · have od : n % 2 = 1 := by
          have : ¬ ((n : Int) % 2 = 0) := fun z => e3 (decide_eq_true (by show V.int ((n : Int) % 2) = V.int 0; rw [z]))
          omega
        exact ⟨_, rfl, ly, _, _, _, rfl, rfl, SqL.of hly, a0, q _ p r sm hr' o1 (by omega) (by omega) (by omega)⟩
end
end MK


set_option Elab.async false
set_option linter.all false
set_option maxRecDepth 100000
set_option maxHeartbeats 4000000
namespace MK
open PySem PySem.Spec PyProof.Rows L2
/-! ### what is drawn -/
theorem sz_nil : ∀ d ∈ ([] : List PyData), SzD d := fun d h => absurd h (by simp)
theorem sz_cons {d : PyData} {ds : List PyData} (h : SzD d) (g : ∀ e ∈ ds, SzD e) : ∀ e ∈ d :: ds, SzD e := fun e he => by
  rcases List.mem_cons.mp he with rfl | he
  · exact h
  · exact g e he
theorem sz_app {xs ys : List PyData} (h : ∀ e ∈ xs, SzD e) (g : ∀ e ∈ ys, SzD e) : ∀ e ∈ xs ++ ys, SzD e := fun e he => by
  rcases List.mem_append.mp he with he | he
  · exact h e he
  · exact g e he
theorem sz_badL {z : Str} (hz : Nm z) : ∀ d ∈ badL z, SzD d := by
  have h1 : z.length ≤ sizeLine := sz8 (Nat.le_trans hz.2.1 (by decide))
  have h2 : (z ++ Str.ofString "abcdefgh").length ≤ sizeLine := sz8 (by
    rw [app_len, show (Str.ofString "abcdefgh").length = 8 by decide +kernel]
    have := hz.2.1
    omega)
  have h3 : (Str.ofString "=" ++ z).length ≤ sizeLine := sz8 (by
    rw [app_len, show (Str.ofString "=").length = 1 by decide +kernel]
    have := hz.2.1
    omega)
  unfold badL
  refine sz_app (sz_app (sz_app (sz_app (sz_app (sz_app (sz_app (sz_app (sz_app (sz_app (sz_app (sz_app (sz_app ?_ ?_) ?_) ?_) ?_) ?_) ?_) ?_) ?_) ?_) ?_) ?_) ?_) ?_
  all_goals
    first | unfold badLS0 | unfold badLS1 | unfold badLS2 | unfold badLS3 | unfold badLS4 | unfold badLS5 | unfold badLS6 | unfold badLS7 | unfold badLS8 | unfold badLS9 | unfold badLS10 | unfold badLS11 | unfold badLS12 | unfold badLS13
    repeat (first | exact sz_nil | refine sz_cons ?_ ?_ | refine .tup ?_ | refine .lst ?_ | exact .int _ | exact .bl _ | exact .non | exact .str h1 | exact .str h2 | exact .str h3 | exact .str (sz8 (by decide +kernel)))
theorem sz_badN {g : PyData} (hg : SzD g) : ∀ d ∈ badN g, SzD d := by
  unfold badN
  refine sz_app (sz_app (sz_app (sz_app (sz_app (sz_app ?_ ?_) ?_) ?_) ?_) ?_) ?_
  all_goals
    first | unfold badNS0 | unfold badNS1 | unfold badNS2 | unfold badNS3 | unfold badNS4 | unfold badNS5 | unfold badNS6
    repeat (first | exact sz_nil | refine sz_cons ?_ ?_ | exact hg | refine .tup ?_ | refine .lst ?_ | exact .int _ | exact .bl _ | exact .non | exact .str (sz8 (by decide +kernel)))
theorem met_trans {a b c : PyData} (h : Met a b) (g : Met b c) : Met a c := by
  induction h with
  | here _ => exact g
  | down h _ ih => exact .down h (ih g)
/-- a thing drawn, and whether it is one -/
def Drawn (K : PySem.W.Frag) (H : Hp) (v : V) (due : Bool) : Prop := ∃ D, Dp K H v D ∧ SzD D ∧ isR D = due ∧ (due = true → ∃ p x, v = .ref p ∧ TrAt H x p ∧ x.deep ≤ 12 ∧ x.many ≤ 100)
theorem drawn_rk {K : PySem.W.Frag} {H : Hp} {p : Addr} {r : Rk} {c : Prop} [Decidable c] (ht : TrAt H r p) (ok : r.Ok) (e : (r.deep ≤ 12 ∧ r.many ≤ 100 ∧ r.pows ≤ 2) ↔ c) : Drawn K H (.ref p) (decide c) := by
  have e2 := isR_rk ok
  by_cases hc : c
  · have h3 := e.mpr hc
    rw [decide_eq_true h3] at e2
    rw [decide_eq_true hc]
    exact ⟨rkD r, tr_dp ht, rk_sz ok, e2, fun _ => ⟨p, r, rfl, ht, h3.1, h3.2.1⟩⟩
  · rw [decide_eq_false (fun z => hc (e.mp z))] at e2
    rw [decide_eq_false hc]
    exact ⟨rkD r, tr_dp ht, rk_sz ok, e2, fun z => nomatch z⟩
theorem drawn_bad {K : PySem.W.Frag} {H : Hp} {v : V} {D x : PyData} (h : Dp K H v D) (z : SzD D) (m : Met D x) (b : formD x = false) : Drawn K H v false := ⟨D, h, z, isR_bad m b, fun z => nomatch z⟩
section
variable {P : Program} {w : World} {K : PySem.W.Frag} {mg : Str → Option Value} {base : Heap}
/-! ### _law_drawn -/
theorem scDrawn : FnScope ["_law_cell", "_law_more", "_law_good", "_law_word", "_law_leaf_here", "_law_way", "_law_size", "_law_many_here"] ["_law_cell", "_law_more", "_law_good", "_law_word"] (defScope sDrawn) := ⟨rfl, rfl, rfl, by decide +kernel, rfl, by decide +kernel, by decide +kernel⟩
def spDrawn (K : PySem.W.Frag) : Sp := fun vs H Q _ => ∃ (c m : Int) (g : Addr) (z : Str) (r : Rk), vs = [.int c, .int m, .ref g, .str z] ∧ 0 ≤ c ∧ 0 ≤ m ∧ Nm z ∧ TrAt H r g ∧ r.Ok ∧ r.deep ≤ 12 ∧ r.many ≤ 100 ∧ r.pows ≤ 2 ∧
  ∀ (H' : Hp) (p : Addr) (v : V) (due : Bool), Same H H' → H' p = some (.tup [v, .bl due]) → Drawn K H' v due → Q (.ref p) H'
theorem two_ii {a b : Int} {i : Int} (h0 : 0 ≤ i) (h1 : i < 2) : ∃ x : Int, atI [V.int a, V.int b] i = some (.int x) ∧ (x = a ∨ x = b) := by
  have : i = 0 ∨ i = 1 := by omega
  rcases this with rfl | rfl
  · exact ⟨a, rfl, .inl rfl⟩
  · exact ⟨b, rfl, .inr rfl⟩
set_option maxHeartbeats 40000000 in
theorem ok_drawn {f : Addr} {fd : FuncData} (F : Fun K "_law_drawn" "_law_drawn" sDrawn f fd)
    {fE : Addr} {dE : FuncData} (FE : Fun K "_law_edge_leaf" "_law_edge_leaf" sEdge fE dE) (bE : Binds K dE ["_law_cell", "_law_word"] []) (gE : mg "_law_edge_leaf" = some (.ref fE)) (GE : FnOk P w K mg base CX0 1 fE dE ["_law_cell", "_law_word"] spEdge)
    {fM : Addr} {dM : FuncData} (FM : Fun K "_law_many" "_law_many" sMany fM dM) (bM : Binds K dM ["_law_tree_here"] []) (gM : mg "_law_many" = some (.ref fM)) (GM : FnOk P w K mg base CX0 22 fM dM ["_law_tree_here"] (spMany 20))
    {fD : Addr} {dD : FuncData} (FD : Fun K "_law_deep" "_law_deep" sDeep fD dD) (bD : Binds K dD ["_law_cell", "_law_many_here", "_law_leaf_here"] []) (gD : mg "_law_deep" = some (.ref fD)) (GD : FnOk P w K mg base CX0 1 fD dD ["_law_cell", "_law_many_here", "_law_leaf_here"] spDeep)
    {fWi : Addr} {dWi : FuncData} (FWi : Fun K "_law_wide" "_law_wide" sWide fWi dWi) (bWi : Binds K dWi ["_law_many_here", "_law_leaf_here"] []) (gWi : mg "_law_wide" = some (.ref fWi)) (GWi : FnOk P w K mg base CX0 1 fWi dWi ["_law_many_here", "_law_leaf_here"] spWide)
    {fPo : Addr} {dPo : FuncData} (FPo : Fun K "_law_powers" "_law_powers" sPows fPo dPo) (bPo : Binds K dPo ["_law_cell", "_law_many_here", "_law_leaf_here"] []) (gPo : mg "_law_powers" = some (.ref fPo)) (GPo : FnOk P w K mg base CX0 1 fPo dPo ["_law_cell", "_law_many_here", "_law_leaf_here"] spPows)
    {fP : Addr} {dP : FuncData} (FP : Fun K "_law_put" "_law_put" sPut fP dP) (bP : Binds K dP ["_law_tree_here", "_law_at", "_law_new"] []) (gP : mg "_law_put" = some (.ref fP)) (GP : FnOk P w K mg base CX0 23 fP dP ["_law_tree_here", "_law_at", "_law_new"] (spPut 20))
    {fN : Addr} {dN : FuncData} (FN : Fun K "_law_bad_node" "_law_bad_node" sBadNode fN dN) (bN : Binds K dN ["_law_cell", "_law_good"] []) (gN : mg "_law_bad_node" = some (.ref fN)) (GN : FnOk P w K mg base CX0 1 fN dN ["_law_cell", "_law_good"] (spBadNode K))
    {fL : Addr} {dL : FuncData} (FL : Fun K "_law_bad_leaf" "_law_bad_leaf" sBadLeaf fL dL) (bL : Binds K dL ["_law_cell", "_law_word"] []) (gL : mg "_law_bad_leaf" = some (.ref fL)) (GL : FnOk P w K mg base CX0 1 fL dL ["_law_cell", "_law_word"] (spBadLeaf K)) :
    FnOk P w K mg base CX0 24 f fd ["_law_cell", "_law_more", "_law_good", "_law_word"] (spDrawn K) := by
  refine F.ok scDrawn (fun vs H Q E h => ?_) (fun cdv A outer s H vs Q E hr h => ?_)
  · obtain ⟨c, m, g, z, r, rfl, _⟩ := h
    rfl
  · obtain ⟨c, m, g, z, r, rfl, c0, m0, hz, hg, ok, rd, rm, rp, q⟩ := h
    have nd := scDrawn.nd
    have hr1 : Room 1 _ := hr.mono (by omega)
    have hr22 : Room 22 _ := hr.mono (by omega)
    have hr23 : Room 23 _ := hr.mono (by omega)
    refine ⟨_, (pss_cons (ps_set (i := 4) nd rfl (.inl rfl) (pe_call GE hr1 (by rfl) gE FE.kp bE .nil pass0 (pa_cons (pv 1) (pa_cons (pv 3) pa_nil))))
      (pss_cons (ps_set (i := 5) nd rfl (.inl rfl) (pe_op op_mod (pv 0) pe_int))
      (pss_cons (ps_set (i := 6) nd rfl (.inl rfl) (pe_call GM hr22 (by rfl) gM FM.kp bM .nil pass0 (pa_cons (pv 2) pa_nil)))
      (pss_cons (ps_if (pt_cmpR op_eq (pv 5) pe_int (nomark _)) (pss_one (ps_ret (pe_tup (pa_cons (pv 2) (pa_cons pe_bl pa_nil))))) pss_nil)
      (pss_cons (ps_if (pt_cmpR op_eq (pv 5) pe_int (nomark _)) (pss_one (ps_ret (pe_tup (pa_cons (pe_call GD hr1 (by rfl) gD FD.kp bD .nil pass0 (pa_cons (pe_op op_fdiv (pv 1) pe_int) (pa_cons (pe_op op_mod (pe_op op_fdiv (pv 0) pe_int) pe_int) (pa_cons (pv 4) pa_nil)))) (pa_cons (pe_cmpR op_lt (pe_op op_mod (pe_op op_fdiv (pv 0) pe_int) pe_int) pe_int (nomark _)) pa_nil))))) pss_nil)
      (pss_cons (ps_if (pt_cmpR op_eq (pv 5) pe_int (nomark _)) (pss_cons (ps_set (i := 7) nd rfl (.inl rfl) (pe_ix ix_list (pe_lst (pa_cons (pe_op op_add pe_int (pe_op op_mod (pe_op op_fdiv (pv 0) pe_int) pe_int)) (pa_cons (pe_op op_add pe_int (pe_op op_mod (pe_op op_fdiv (pv 0) pe_int) pe_int)) pa_nil))) (pe_op op_mod (pe_op op_fdiv (pv 0) pe_int) pe_int) (fun _ _ => rfl)))
      (pss_one (ps_ret (pe_tup (pa_cons (pe_call GWi hr1 (by rfl) gWi FWi.kp bWi .nil pass0 (pa_cons (pv 7) (pa_cons (pv 4) pa_nil))) (pa_cons (pe_cmpR op_le (pv 7) pe_int (nomark _)) pa_nil)))))) pss_nil)
      (pss_cons (ps_if (pt_cmpR op_eq (pv 5) pe_int (nomark _)) (pss_one (ps_ret (pe_tup (pa_cons (pe_call GPo hr1 (by rfl) gPo FPo.kp bPo .nil pass0 (pa_cons (pe_op op_fdiv (pv 1) pe_int) (pa_cons (pe_op op_mod (pe_op op_fdiv (pv 0) pe_int) pe_int) (pa_cons (pv 4) pa_nil)))) (pa_cons (pe_cmpR op_lt (pe_op op_mod (pe_op op_fdiv (pv 0) pe_int) pe_int) pe_int (nomark _)) pa_nil))))) pss_nil)
      (pss_cons (ps_if (pt_cmpR op_eq (pv 5) pe_int (nomark _)) (pss_one (ps_ret (pe_tup (pa_cons (pe_call GP hr23 (by rfl) gP FP.kp bP .nil pass0 (pa_cons (pv 2) (pa_cons (pe_op op_mod (pe_op op_fdiv (pv 0) pe_int) (pv 6)) (pa_cons (pv 4) pa_nil)))) (pa_cons pe_bl pa_nil))))) pss_nil)
      (pss_cons (ps_if (pt_cmpR op_eq (pv 5) pe_int (nomark _)) (pss_one (ps_ret (pe_tup (pa_cons (pe_call GP hr23 (by rfl) gP FP.kp bP .nil pass0 (pa_cons (pv 2) (pa_cons (pe_op op_mod (pe_op op_fdiv (pv 0) pe_int) (pv 6)) (pa_cons (pe_call GN hr1 (by rfl) gN FN.kp bN .nil pass0 (pa_cons (pv 1) (pa_cons (pe_tup (pa_cons pe_str pa_nil)) pa_nil))) pa_nil)))) (pa_cons pe_bl pa_nil))))) pss_nil)
      (pss_cons (ps_if (pt_cmpR op_eq (pv 5) pe_int (nomark _)) (pss_one (ps_ret (pe_tup (pa_cons (pe_call GN hr1 (by rfl) gN FN.kp bN .nil pass0 (pa_cons (pv 1) (pa_cons (pv 2) pa_nil))) (pa_cons pe_bl pa_nil))))) pss_nil)
      (pss_one (ps_ret (pe_tup (pa_cons (pe_call GP hr23 (by rfl) gP FP.kp bP .nil pass0 (pa_cons (pv 2) (pa_cons (pe_op op_mod (pe_op op_fdiv (pv 0) pe_int) (pv 6)) (pa_cons (pe_call GL hr1 (by rfl) gL FL.kp bL .nil pass0 (pa_cons (pv 1) (pa_cons (pv 3) pa_nil))) pa_nil)))) (pa_cons pe_bl pa_nil))))))))))))))), ?_⟩
    refine ⟨_, rfl, _, rfl, m, z, rfl, hz, fun H1 e re s1 lf he => ?_⟩
    have hg1 := hg.same s1
    refine ⟨_, rfl, _, _, rfl, rfl, (by show (0 : Int) < 8; decide), ?_⟩
    refine ⟨_, rfl, g, r, rfl, hg1, (show r.deep ≤ 19 + 1 by omega), fun H2 s2 => ?_⟩
    have s12 := s1.trans s2
    have hg2 := hg1.same s2
    have he2 := he.same s2
    have done : ∀ {H' : Hp} {v : V} {due : Bool}, Same H2 H' → Drawn K H' v due → ∀ p, H' p = none → Q (.ref p) (upd H' p (.tup [v, .bl due])) := fun {H' v due} s ⟨D, d1, d2, d3, d4⟩ p np =>
      q _ p v due (s12.trans (s.trans (same_new np))) upd_same ⟨D, dp_same (same_new np) _ _ d1, d2, d3, fun e => by
        obtain ⟨p', x, e1, e2, e3⟩ := d4 e
        exact ⟨p', x, e1, e2.same (same_new np), e3⟩⟩
    have mpos : (0 : Int) < (r.many : Int) := by
      have := many_parts r
      omega
    have at_ : ∀ k : Int, 0 ≤ k → ∃ n : Nat, k % (r.many : Int) = (n : Int) ∧ n < r.many := fun k k0 => by
      have h1 := Int.emod_nonneg k (Int.ne_of_gt mpos)
      have h2 := Int.emod_lt_of_pos k mpos
      exact ⟨(k % (r.many : Int)).toNat, by omega, by omega⟩
    have c8 : 0 ≤ c / 8 := by omega
    -- 0
    refine ⟨_, rfl, rfl, _, rfl, ite2 (fun _ => ?_) (fun _ => ?_)⟩
    · refine ⟨_, rfl, (by show 2 ≤ sizeLine; decide), fun p np => ?_⟩
      have := drawn_rk (K := K) (c := True) hg2 ok ⟨fun _ => trivial, fun _ => ⟨rd, rm, rp⟩⟩
      exact done (Same.refl _) this p np
    -- 1
    refine ⟨_, rfl, rfl, _, rfl, ite2 (fun _ => ?_) (fun _ => ?_)⟩
    · refine ⟨_, rfl, _, _, rfl, rfl, ⟨by decide, by decide⟩, _, rfl, _, _, rfl, rfl, ⟨by decide, by decide⟩, _, _, rfl, rfl, (by show (0 : Int) < 14; decide), _, rfl, ?_⟩
      obtain ⟨n, en⟩ : ∃ n : Nat, c / 8 % 14 = (n : Int) := ⟨(c / 8 % 14).toNat, by omega⟩
      refine ⟨m / 8, n, e, re, by rw [← en]; rfl, by omega, by omega, he2, lf, fun H3 p3 x s3 hx xo xd xm xp => ?_⟩
      refine ⟨_, rfl, _, _, rfl, rfl, ⟨by decide, by decide⟩, _, _, rfl, rfl, (by show (0 : Int) < 14; decide), _, _, rfl, rfl, (by show 2 ≤ sizeLine; decide), fun p np => ?_⟩
      exact done s3 (drawn_rk hx xo (by omega)) p np
    -- 2
    refine ⟨_, rfl, rfl, _, rfl, ite2 (fun _ => ?_) (fun _ => ?_)⟩
    · refine ⟨_, rfl, _, _, rfl, rfl, ⟨by decide, by decide⟩, _, _, rfl, rfl, (by show (0 : Int) < 110; decide), _, _, rfl, rfl, _, rfl, _, _, rfl, rfl, ⟨by decide, by decide⟩, _, _, rfl, rfl, (by show (0 : Int) < 5; decide), _, _, rfl, rfl, (by show 2 ≤ sizeLine; decide), fun l nl => ?_⟩
      have s3 := same_new (o := .lst [V.int (1 + c / 8 % 110), V.int (98 + c / 8 % 5)]) nl
      refine ⟨_, rfl, _, _, rfl, rfl, ⟨by decide, by decide⟩, _, _, rfl, rfl, (by show (0 : Int) < 2; decide), ?_⟩
      obtain ⟨y, hy1, hy2⟩ := two_ii (a := 1 + c / 8 % 110) (b := 98 + c / 8 % 5) (i := c / 880 % 2) (by omega) (by omega)
      refine ⟨l, _, _, _, rfl, rfl, SqL.of upd_same, hy1, ?_⟩
      obtain ⟨n, en⟩ : ∃ n : Nat, y = (n : Int) := ⟨y.toNat, by omega⟩
      subst en
      refine ⟨_, rfl, _, rfl, n, e, re, rfl, by omega, by omega, he2.same s3, lf, fun H3 p3 x s4 hx xo xd xm xp => ?_⟩
      refine ⟨_, rfl, _, _, rfl, rfl, (by show 2 ≤ sizeLine; decide), fun p np => ?_⟩
      exact done (s3.trans s4) (drawn_rk hx xo (by omega)) p np
    -- 3
    refine ⟨_, rfl, rfl, _, rfl, ite2 (fun _ => ?_) (fun _ => ?_)⟩
    · refine ⟨_, rfl, _, _, rfl, rfl, ⟨by decide, by decide⟩, _, rfl, _, _, rfl, rfl, ⟨by decide, by decide⟩, _, _, rfl, rfl, (by show (0 : Int) < 5; decide), _, rfl, ?_⟩
      obtain ⟨n, en⟩ : ∃ n : Nat, c / 8 % 5 = (n : Int) := ⟨(c / 8 % 5).toNat, by omega⟩
      refine ⟨m / 8, n, e, re, by rw [← en]; rfl, by omega, by omega, he2, lf, fun H3 p3 x s3 hx xo xd xm xp => ?_⟩
      refine ⟨_, rfl, _, _, rfl, rfl, ⟨by decide, by decide⟩, _, _, rfl, rfl, (by show (0 : Int) < 5; decide), _, _, rfl, rfl, (by show 2 ≤ sizeLine; decide), fun p np => ?_⟩
      exact done s3 (drawn_rk hx xo (by omega)) p np
    -- 4
    refine ⟨_, rfl, rfl, _, rfl, ite2 (fun _ => ?_) (fun _ => ?_)⟩
    · obtain ⟨n, en, nl⟩ := at_ (c / 8) c8
      refine ⟨_, rfl, _, rfl, _, _, rfl, rfl, ⟨by decide, by decide⟩, _, rfl, _, _, rfl, rfl, mpos, _, rfl, g, r, n, .ref e, by rw [← en]; rfl, hg2, (show r.deep ≤ 19 + 1 by omega), nl, fun H3 v s3 pa => ?_⟩
      obtain ⟨p3, x, rfl, hx, le⟩ := put_tr (he2.same s3) lf.ok lf.deep lf.many lf.pows pa ok
      refine ⟨(by show 2 ≤ sizeLine; decide), fun p np => ?_⟩
      have := drawn_rk (K := K) (c := True) hx le.ok ⟨fun _ => trivial, fun _ => ⟨Nat.le_trans le.deep rd, Nat.le_trans le.many rm, Nat.le_trans le.pows rp⟩⟩
      exact done s3 this p np
    -- 5
    refine ⟨_, rfl, rfl, _, rfl, ite2 (fun _ => ?_) (fun _ => ?_)⟩
    · obtain ⟨n, en, nl⟩ := at_ (c / 8) c8
      refine ⟨_, rfl, _, rfl, _, _, rfl, rfl, ⟨by decide, by decide⟩, _, rfl, _, _, rfl, rfl, mpos, _, rfl, (by show 1 ≤ sizeLine; decide), fun t nt => ?_⟩
      have s3 := same_new (o := .tup [V.str "nought"]) nt
      refine ⟨m, .ref t, .tuple [.str "nought"], rfl, .tup (SqT.of upd_same) (.cons (.str _) .nil), fun H4 v d s4 hd hv => ?_⟩
      have s34 := s3.trans s4
      refine ⟨g, r, n, v, by rw [← en]; rfl, hg2.same s34, (show r.deep ≤ 19 + 1 by omega), nl, fun H5 u s5 pa => ?_⟩
      have sd : SzD d := sz_badN (.tup (sz_cons (.str (sz8 (by decide +kernel))) sz_nil)) d hd
      obtain ⟨x, mx, bx⟩ := badN_no d hd
      obtain ⟨D, h1, h2, h3⟩ := put_met (dp_same s5 _ _ hv) sd pa ok
      refine ⟨(by show 2 ≤ sizeLine; decide), fun p np => ?_⟩
      exact done (s34.trans s5) (drawn_bad h1 h2 (met_trans h3 mx) bx) p np
    -- 6
    refine ⟨_, rfl, rfl, _, rfl, ite2 (fun _ => ?_) (fun _ => ?_)⟩
    · refine ⟨_, rfl, _, rfl, m, .ref g, rkD r, rfl, tr_dp hg2, fun H4 v d s4 hd hv => ?_⟩
      obtain ⟨x, mx, bx⟩ := badN_no d hd
      refine ⟨(by show 2 ≤ sizeLine; decide), fun p np => ?_⟩
      exact done s4 (drawn_bad hv (sz_badN (rk_sz ok) d hd) mx bx) p np
    -- 7
    obtain ⟨n, en, nl⟩ := at_ (c / 8) c8
    refine ⟨_, rfl, _, rfl, _, _, rfl, rfl, ⟨by decide, by decide⟩, _, rfl, _, _, rfl, rfl, mpos, _, rfl, _, rfl, m, z, rfl, hz, fun H4 v d s4 hd hv => ?_⟩
    refine ⟨g, r, n, v, by rw [← en]; rfl, hg2.same s4, (show r.deep ≤ 19 + 1 by omega), nl, fun H5 u s5 pa => ?_⟩
    obtain ⟨D, h1, h2, h3⟩ := put_met (dp_same s5 _ _ hv) (sz_badL hz d hd) pa ok
    refine ⟨(by show 2 ≤ sizeLine; decide), fun p np => ?_⟩
    exact done (s4.trans s5) (drawn_bad h1 h2 h3 (badL_no hz d hd)) p np
end
end MK


set_option Elab.async false
set_option linter.all false
set_option maxRecDepth 100000
set_option maxHeartbeats 4000000
namespace MK
open PySem PySem.Spec PyProof.Rows L2
theorem pr_kp {P : Addr} {H H' : Hp} (k : Kp P H H') (h : GxR.TabG H P) {ts : List Addr} {m : Ms} (p : Paired (PrAt H) ts m) : Paired (PrAt H') ts m := Paired.mono (fun t q e => k.at h (u := .tup [.str q.1, .int q.2]) e (fun _ z => nomatch z)) p
theorem MsN.kp {P : Addr} {H H' : Hp} (k : Kp P H H') (h : GxR.TabG H P) {b : Addr} {m : Ms} (x : MsN H b m) : MsN H' b m := by
  obtain ⟨ts, ⟨o, e, d⟩, p⟩ := x
  exact ⟨ts, ⟨o, k.at h e (fun _ z => nomatch z), d⟩, pr_kp k h p⟩
theorem TrAt.kp {P : Addr} {H H' : Hp} (k : Kp P H H') (h : GxR.TabG H P) : ∀ {r : Rk} {p : Addr}, TrAt H r p → TrAt H' r p
  | .is x y m, p, ⟨q, b, h1, h2, h3⟩ => ⟨q, b, k.at h h1 (fun _ z => nomatch z), k.at h h2 (fun _ z => nomatch z), h3.kp k h⟩
  | .nought, p, e => k.at h (b := p) e (fun _ z => nomatch z)
  | .input z, p, e => k.at h (b := p) e (fun _ z => nomatch z)
  | .bin o a b, p, ⟨q, r, h1, h2, h3⟩ => ⟨q, r, k.at h h1 (fun _ z => nomatch z), TrAt.kp k h h2, TrAt.kp k h h3⟩
  | .power a n, p, ⟨q, h1, h2⟩ => ⟨q, k.at h h1 (fun _ z => nomatch z), TrAt.kp k h h2⟩
  | .less a b c d, p, ⟨q, r, u, v, h1, h2, h3, h4, h5⟩ => ⟨q, r, u, v, k.at h h1 (fun _ z => nomatch z), TrAt.kp k h h2, TrAt.kp k h h3, TrAt.kp k h h4, TrAt.kp k h h5⟩
/-- what the walk asks of the top -/
structure Txt (K : PySem.W.Frag) (w : World) (mg : Str → Option Value) (pa lt cN pt : Addr) where
  (fX fC fWd fM fSm fS fO fN fL fT fP fMa fPu fBl fBn fE fDe fWi fPo fDr fLi fR fNo fPa fAl fFo fNu fMs fPr fNm fWh : Addr)
  (dX dC dWd dM dSm dS dO dN dL dT dP dMa dPu dBl dBn dE dDe dWi dPo dDr dLi dR dNo dPa dAl dFo dNu dMs dPr dNm dWh : FuncData)
  (tm12 tm100 tm2 tm9 tm6 tm8 tm20 tm4 : Tok)
  FX : Fun K "_law_mix" "_law_mix" sMix fX dX
  FC : Fun K "_law_cell_at" "_law_cell_at" sCell fC dC
  FWd : Fun K "_law_words" "_law_words" sWords fWd dWd
  FM : Fun K "_law_made" "_law_made" sMade fM dM
  FSm : Fun K "_law_small" "_law_small" sSmall fSm dSm
  FS : Fun K "_law_shared" "_law_shared" sShared fS dS
  FO : Fun K "_law_lowest" "_law_lowest" sLowest fO dO
  FN : Fun K "_law_number" "_law_number" sNumber fN dN
  FL : Fun K "_law_leaf" "_law_leaf" sLeaf fL dL
  FT : Fun K "_law_tree" "_law_tree" sTree fT dT
  FP : Fun K "_law_parts" "_law_parts" sParts fP dP
  FMa : Fun K "_law_many" "_law_many" sMany fMa dMa
  FPu : Fun K "_law_put" "_law_put" sPut fPu dPu
  FBl : Fun K "_law_bad_leaf" "_law_bad_leaf" sBadLeaf fBl dBl
  FBn : Fun K "_law_bad_node" "_law_bad_node" sBadNode fBn dBn
  FE : Fun K "_law_edge_leaf" "_law_edge_leaf" sEdge fE dE
  FDe : Fun K "_law_deep" "_law_deep" sDeep fDe dDe
  FWi : Fun K "_law_wide" "_law_wide" sWide fWi dWi
  FPo : Fun K "_law_powers" "_law_powers" sPows fPo dPo
  FDr : Fun K "_law_drawn" "_law_drawn" sDrawn fDr dDr
  FLi : Fun K "_law_noughts_in" "_law_noughts_in" sNouIn fLi dLi
  FR : Fun K "is_reckoning" "is_reckoning" sIsR fR dR
  FNo : Fun K "noughts" "noughts" sNou fNo dNo
  FPa : Fun K "parts" "parts" sPaP fPa dPa
  FAl : Fun K "all_parts" "all_parts" sAll fAl dAl
  FFo : Fun K "_has_form" "_has_form" sForm fFo dFo
  FNu : Fun K "_is_number" "_is_number" sIsN fNu dNu
  FMs : Fun K "_is_measure" "_is_measure" sIsMs fMs dMs
  FPr : Fun K "_is_pair" "_is_pair" sIsPr fPr dPr
  FNm : FunC K "_is_name" "_is_name" sIsNm fNm cN dNm
  FWh : Fun K "_is_whole" "_is_whole" sIsWh fWh dWh
  gX : mg "_law_mix" = some (.ref fX)
  gC : mg "_law_cell_at" = some (.ref fC)
  gWd : mg "_law_words" = some (.ref fWd)
  gM : mg "_law_made" = some (.ref fM)
  gSm : mg "_law_small" = some (.ref fSm)
  gS : mg "_law_shared" = some (.ref fS)
  gO : mg "_law_lowest" = some (.ref fO)
  gN : mg "_law_number" = some (.ref fN)
  gL : mg "_law_leaf" = some (.ref fL)
  gT : mg "_law_tree" = some (.ref fT)
  gP : mg "_law_parts" = some (.ref fP)
  gMa : mg "_law_many" = some (.ref fMa)
  gPu : mg "_law_put" = some (.ref fPu)
  gBl : mg "_law_bad_leaf" = some (.ref fBl)
  gBn : mg "_law_bad_node" = some (.ref fBn)
  gE : mg "_law_edge_leaf" = some (.ref fE)
  gDe : mg "_law_deep" = some (.ref fDe)
  gWi : mg "_law_wide" = some (.ref fWi)
  gPo : mg "_law_powers" = some (.ref fPo)
  gDr : mg "_law_drawn" = some (.ref fDr)
  gLi : mg "_law_noughts_in" = some (.ref fLi)
  gR : mg "is_reckoning" = some (.ref fR)
  gNo : mg "noughts" = some (.ref fNo)
  gPa : mg "parts" = some (.ref fPa)
  gAl : mg "all_parts" = some (.ref fAl)
  gFo : mg "_has_form" = some (.ref fFo)
  gNu : mg "_is_number" = some (.ref fNu)
  gMs : mg "_is_measure" = some (.ref fMs)
  gPr : mg "_is_pair" = some (.ref fPr)
  gNm : mg "_is_name" = some (.ref fNm)
  gWh : mg "_is_whole" = some (.ref fWh)
  ml : mg "len" = none
  mr : mg "range" = none
  ma : mg "abs" = none
  mt : mg "tuple" = none
  mi : mg "isinstance" = none
  mn : mg "int" = none
  mb : mg "bool" = none
  mstr : mg "str" = none
  ms : mg "sorted" = none
  mS : mg "set" = none
  mL : mg "list" = none
  mm : mg "min" = none
  mx : mg "max" = none
  mu : mg "sum" = none
  mty : mg "type" = none
  mal : mg "all" = none
  m12 : mg "MOST_DEEP" = some (.int 12 tm12)
  m100 : mg "MOST_IN_ALL" = some (.int 100 tm100)
  m2 : mg "MOST_POWERS_ON_A_WAY" = some (.int 2 tm2)
  m9 : mg "MOST_NUMBER" = some (.int 1000000000 tm9)
  m6 : mg "MOST_LETTERS" = some (.int 6 tm6)
  m8 : mg "MOST_SIGNS" = some (.int 8 tm8)
  m20 : mg "MOST_LETTER_POWER" = some (.int 20 tm20)
  m4 : mg "MOST_RAISED" = some (.int 4 tm4)
  mG : mg "gcd" = some (.builtin "math.gcd")
  lt : LTab K w mg lt
  pb : PTb K w mg pa
  tp : PTab K w mg pa

section
variable {P : Program} {w : World} {K : PySem.W.Frag} {mg : Str → Option Value} {base : Heap} {pa lt cN pt : Addr}
theorem iteN (c : Bool) : (if c = true then (1 : Int) else 0) = ((if c = true then 1 else 0 : Nat) : Int) := by cases c <;> rfl
def spLaw (K : PySem.W.Frag) (pt : Addr) : Sp := fun vs H Q _ => ∃ (a : Addr) (ns : List Int), vs = [.ref a] ∧ SqL K H a (ns.map V.int) ∧ GxR.TabG H pt ∧ ∀ H', Q (.bl true) H'
abbrev scLawN : List Str := ["_law_script", "_law_words_here", "_law_bases", "_law_good", "_law_k", "_law_thing", "_law_due", "_law_found"]
theorem scLaw : FnScope scLawN ["_law_script"] (defScope sLaw) := ⟨rfl, rfl, rfl, by decide +kernel, rfl, by decide +kernel, by decide +kernel⟩
set_option maxHeartbeats 40000000 in
theorem ok_law {f : Addr} {fd : FuncData} (F : Fun K "law" "law" sLaw f fd) (T : Txt K w mg pa lt cN pt) (TB : GxR.TabB base mg cN pt) :
    FnOk P w K mg base CX0 25 f fd ["_law_script"] (spLaw K pt) := by
  have bX := T.FX.binds (ps := ["_law_cell", "_law_k"]) fun _ _ _ _ _ _ us hl => match us, hl with | [_, _], _ => rfl
  have bC := T.FC.binds (ps := ["_law_script", "_law_k"]) fun _ _ _ _ _ _ us hl => match us, hl with | [_, _], _ => rfl
  have bWd := T.FWd.binds (ps := ["_law_cell", "_law_many_here"]) fun _ _ _ _ _ _ us hl => match us, hl with | [_, _], _ => rfl
  have bM := T.FM.binds (ps := ["_law_powers_here"]) fun _ _ _ _ _ _ us hl => match us, hl with | [_], _ => rfl
  have bSm := T.FSm.binds (ps := ["_law_cell", "_law_letters"]) fun _ _ _ _ _ _ us hl => match us, hl with | [_, _], _ => rfl
  have bS := T.FS.binds (ps := ["_law_one", "_law_other"]) fun _ _ _ _ _ _ us hl => match us, hl with | [_, _], _ => rfl
  have bO := T.FO.binds (ps := ["_law_above", "_law_below"]) fun _ _ _ _ _ _ us hl => match us, hl with | [_, _], _ => rfl
  have bN := T.FN.binds (ps := ["_law_cell"]) fun _ _ _ _ _ _ us hl => match us, hl with | [_], _ => rfl
  have bL := T.FL.binds (ps := ["_law_cell", "_law_words_here", "_law_bases"]) fun _ _ _ _ _ _ us hl => match us, hl with | [_, _, _], _ => rfl
  have bT := T.FT.binds (ps := ["_law_cell", "_law_depth", "_law_names", "_law_powers_here"]) fun _ _ _ _ _ _ us hl => match us, hl with | [_, _, _, _], _ => rfl
  have bP := T.FP.binds (ps := ["_law_tree_here"]) fun _ _ _ _ _ _ us hl => match us, hl with | [_], _ => rfl
  have bMa := T.FMa.binds (ps := ["_law_tree_here"]) fun _ _ _ _ _ _ us hl => match us, hl with | [_], _ => rfl
  have bPu := T.FPu.binds (ps := ["_law_tree_here", "_law_at", "_law_new"]) fun _ _ _ _ _ _ us hl => match us, hl with | [_, _, _], _ => rfl
  have bBl := T.FBl.binds (ps := ["_law_cell", "_law_word"]) fun _ _ _ _ _ _ us hl => match us, hl with | [_, _], _ => rfl
  have bBn := T.FBn.binds (ps := ["_law_cell", "_law_good"]) fun _ _ _ _ _ _ us hl => match us, hl with | [_, _], _ => rfl
  have bE := T.FE.binds (ps := ["_law_cell", "_law_word"]) fun _ _ _ _ _ _ us hl => match us, hl with | [_, _], _ => rfl
  have bDe := T.FDe.binds (ps := ["_law_cell", "_law_many_here", "_law_leaf_here"]) fun _ _ _ _ _ _ us hl => match us, hl with | [_, _, _], _ => rfl
  have bWi := T.FWi.binds (ps := ["_law_many_here", "_law_leaf_here"]) fun _ _ _ _ _ _ us hl => match us, hl with | [_, _], _ => rfl
  have bPo := T.FPo.binds (ps := ["_law_cell", "_law_many_here", "_law_leaf_here"]) fun _ _ _ _ _ _ us hl => match us, hl with | [_, _, _], _ => rfl
  have bDr := T.FDr.binds (ps := ["_law_cell", "_law_more", "_law_good", "_law_word"]) fun _ _ _ _ _ _ us hl => match us, hl with | [_, _, _, _], _ => rfl
  have bLi := T.FLi.binds (ps := ["_law_tree_here"]) fun _ _ _ _ _ _ us hl => match us, hl with | [_], _ => rfl
  have bR := T.FR.binds (ps := ["thing"]) fun _ _ _ _ _ _ us hl => match us, hl with | [_], _ => rfl
  have bNo := T.FNo.binds (ps := ["reckoning"]) fun _ _ _ _ _ _ us hl => match us, hl with | [_], _ => rfl
  have bPa := T.FPa.binds (ps := ["reckoning"]) fun _ _ _ _ _ _ us hl => match us, hl with | [_], _ => rfl
  have bAl := T.FAl.binds (ps := ["reckoning"]) fun _ _ _ _ _ _ us hl => match us, hl with | [_], _ => rfl
  have bFo := T.FFo.binds (ps := ["thing"]) fun _ _ _ _ _ _ us hl => match us, hl with | [_], _ => rfl
  have bNu := T.FNu.binds (ps := ["thing"]) fun _ _ _ _ _ _ us hl => match us, hl with | [_], _ => rfl
  have bMs := T.FMs.binds (ps := ["thing"]) fun _ _ _ _ _ _ us hl => match us, hl with | [_], _ => rfl
  have bPr := T.FPr.binds (ps := ["thing"]) fun _ _ _ _ _ _ us hl => match us, hl with | [_], _ => rfl
  have bNm := T.FNm.fn.binds (ps := ["thing"]) fun _ _ _ _ _ _ us hl => match us, hl with | [_], _ => rfl
  have bWh := T.FWh.binds (ps := ["thing", "low", "high"]) fun _ _ _ _ _ _ us hl => match us, hl with | [_, _, _], _ => rfl
  have lf : LfT K mg := ⟨_, _, _, _, _, _, _, _, _, _, _, _, T.FX, T.FM, T.FS, T.FO, T.FN, T.FSm, T.gX, T.gM, T.gS, T.gO, T.gN, T.gSm, T.mr, T.ml, T.mt, T.ms, T.ma⟩
  have GC : FnOk P w K mg base CX0 1 T.fC T.dC ["_law_script", "_law_k"] (spCell K) := ok_cell T.FC T.ml
  have GX : FnOk P w K mg base CX0 1 T.fX T.dX ["_law_cell", "_law_k"] spMix := ok_mix T.FX
  have GWd : FnOk P w K mg base CX0 1 T.fWd T.dWd ["_law_cell", "_law_many_here"] spWords := ok_words T.FWd T.mr
  have GT : FnOk P w K mg base CX0 8 T.fT T.dT ["_law_cell", "_law_depth", "_law_names", "_law_powers_here"] (spTree 4) := ok_tree T.FT bT T.gT T.FL bL T.gL lf 4
  have GMa : FnOk P w K mg base CX0 22 T.fMa T.dMa ["_law_tree_here"] (spMany 20) := ok_many T.FMa bMa T.gMa T.FP bP T.gP T.mL T.mu 20
  have GPu : FnOk P w K mg base CX0 23 T.fPu T.dPu ["_law_tree_here", "_law_at", "_law_new"] (spPut 20) := ok_put T.FPu bPu T.gPu T.FP bP T.gP T.FMa bMa T.gMa T.mL T.mu T.mr T.ml 20
  have GLi : FnOk P w K mg base CX0 22 T.fLi T.dLi ["_law_tree_here"] (spNouIn 20) := ok_nouIn T.FLi bLi T.gLi T.FP bP T.gP T.mL T.mu T.mn 20
  have GE : FnOk P w K mg base CX0 1 T.fE T.dE ["_law_cell", "_law_word"] spEdge := ok_edge T.FE T.ml
  have GDe : FnOk P w K mg base CX0 1 T.fDe T.dDe ["_law_cell", "_law_many_here", "_law_leaf_here"] spDeep := ok_deep T.FDe T.mr
  have GWi : FnOk P w K mg base CX0 1 T.fWi T.dWi ["_law_many_here", "_law_leaf_here"] spWide := ok_wide T.FWi T.mr T.ml
  have GPo : FnOk P w K mg base CX0 1 T.fPo T.dPo ["_law_cell", "_law_many_here", "_law_leaf_here"] spPows := ok_pows T.FPo T.mr
  have GBn : FnOk P w K mg base CX0 1 T.fBn T.dBn ["_law_cell", "_law_good"] (spBadNode K) := ok_badNode T.FBn T.ml
  have GBl : FnOk P w K mg base CX0 1 T.fBl T.dBl ["_law_cell", "_law_word"] (spBadLeaf K) := ok_badLeaf T.FBl T.ml
  have GDr : FnOk P w K mg base CX0 24 T.fDr T.dDr ["_law_cell", "_law_more", "_law_good", "_law_word"] (spDrawn K) := ok_drawn T.FDr T.FE bE T.gE GE T.FMa bMa T.gMa GMa T.FDe bDe T.gDe GDe T.FWi bWi T.gWi GWi T.FPo bPo T.gPo GPo T.FPu bPu T.gPu GPu T.FBn bBn T.gBn GBn T.FBl bBl T.gBl GBl
  have GWh : FnOk P w K mg base CX0 1 T.fWh T.dWh ["thing", "low", "high"] (spIsWh K) := ok_isWh T.FWh T.mty T.mn
  have GNm : FnOk P w K mg base CX0 1 T.fNm T.dNm ["thing"] (spIsNm K pt) := ok_isNm T.FNm TB T.mty T.mstr T.ml T.mal T.m8
  have GPr : FnOk P w K mg base CX0 2 T.fPr T.dPr ["thing"] (spIsPr K pt) := ok_isPr T.FPr GNm T.FNm.kp bNm T.gNm GWh T.FWh.kp bWh T.gWh T.mty T.mt T.ml T.m20
  have GNu : FnOk P w K mg base CX0 2 T.fNu T.dNu ["thing"] (spIsN K) := ok_isN T.FNu GWh T.FWh.kp bWh T.gWh T.mty T.mt T.ml T.mG T.m9
  have GMs : FnOk P w K mg base CX0 3 T.fMs T.dMs ["thing"] (spIsMs K pt) := ok_isMs T.FMs GPr T.FPr.kp bPr T.gPr T.mty T.mt T.ml T.ms T.mS T.m6
  have GFo : FnOk P w K mg base CX0 4 T.fFo T.dFo ["thing"] (spForm K pt) := ok_form T.FFo GNu T.FNu.kp bNu T.gNu GMs T.FMs.kp bMs T.gMs GNm T.FNm.kp bNm T.gNm GWh T.FWh.kp bWh T.gWh T.lt T.mty T.mt T.mstr T.ml T.m4
  have GPa : FnOk P w K mg base CX0 1 T.fPa T.dPa ["reckoning"] (spPaD K) := ok_paD T.FPa T.pb
  have GR : FnOk P w K mg base CX0 5 T.fR T.dR ["thing"] (spIsR K pt) := ok_isR T.FR GFo T.FFo.kp bFo T.gFo GPa T.FPa.kp bPa T.gPa T.ml T.m2 T.m12 T.m100
  have GNo : FnOk P w K mg base CX0 23 T.fNo T.dNo ["reckoning"] spNouP := ok_nouP T.FNo T.FAl bAl T.gAl T.FPa bPa T.gPa T.tp T.ml
  refine F.ok scLaw (fun vs H Q E h => ?_) (fun cdv A outer s H vs Q E hr h => ?_)
  · obtain ⟨a, ns, rfl, _⟩ := h
    rfl
  · obtain ⟨a, ns, rfl, hS, tg, q⟩ := h
    have nd := scLaw.nd
    have hr1 : Room 1 _ := hr.mono (by omega)
    have hr5 : Room 5 _ := hr.mono (by omega)
    have hr8 : Room 8 _ := hr.mono (by omega)
    have hr22 : Room 22 _ := hr.mono (by omega)
    have hr23 : Room 23 _ := hr.mono (by omega)
    refine ⟨_, (pss_cons (ps_set (i := 1) nd rfl (.inl rfl) (pe_call GWd hr1 (by rfl) T.gWd T.FWd.kp bWd .nil pass0 (pa_cons (pe_call GC hr1 (by rfl) T.gC T.FC.kp bC .nil pass0 (pa_cons (pv 0) (pa_cons pe_int pa_nil))) (pa_cons pe_int pa_nil))))
      (pss_cons (ps_set (i := 2) nd rfl (.inl rfl) (pe_call GWd hr1 (by rfl) T.gWd T.FWd.kp bWd .nil pass0 (pa_cons (pe_call GC hr1 (by rfl) T.gC T.FC.kp bC .nil pass0 (pa_cons (pv 0) (pa_cons (pe_callTy call_int1 (by rfl) T.mn PyProof.Rows.boot_int (pa_cons (pe_cmpR op_gt (pe_op op_mod (pe_call GC hr1 (by rfl) T.gC T.FC.kp bC .nil pass0 (pa_cons (pv 0) (pa_cons pe_int pa_nil))) pe_int) pe_int (nomark _)) pa_nil)) pa_nil))) (pa_cons pe_int pa_nil))))
      (pss_cons (ps_set (i := 3) nd rfl (.inl rfl) (pe_call GT hr8 (by rfl) T.gT T.FT.kp bT .nil pass0 (pa_cons (pe_call GC hr1 (by rfl) T.gC T.FC.kp bC .nil pass0 (pa_cons (pv 0) (pa_cons pe_int pa_nil))) (pa_cons pe_int (pa_cons (pe_tup (pa_cons (pv 1) (pa_cons (pv 2) pa_nil))) (pa_cons pe_int pa_nil))))))
      (pss_cons (ps_for PassesOwn.never rfl (pi_range2 rfl T.mr (pa_cons pe_int (pa_cons (pe_callB (call_min2 rfl) (by rfl) T.mm PyProof.Rows.boot_min (pa_cons pe_int (pa_cons (pe_callB (call_max2 rfl) (by rfl) T.mx PyProof.Rows.boot_max (pa_cons pe_int (pa_cons (pe_callB call_len_seq (by rfl) T.ml PySem.boot_len (pa_cons (pv 0) pa_nil)) pa_nil))) pa_nil))) pa_nil))) (pg_name (i := 4) nd rfl (.inl rfl)) (pss_cons (ps_asg (pe_call GDr hr (by rfl) T.gDr T.FDr.kp bDr .nil pass0 (pa_cons (pe_call GC hr1 (by rfl) T.gC T.FC.kp bC .nil pass0 (pa_cons (pv 0) (pa_cons (pv 4) pa_nil))) (pa_cons (pe_call GX hr1 (by rfl) T.gX T.FX.kp bX .nil pass0 (pa_cons (pe_call GC hr1 (by rfl) T.gC T.FC.kp bC .nil pass0 (pa_cons (pv 0) (pa_cons (pv 4) pa_nil))) (pa_cons (pv 4) pa_nil))) (pa_cons (pv 3) (pa_cons (pe_ix ix_list (pv 1) pe_int (fun _ _ => rfl)) pa_nil))))) (pg_tup rfl (pgs_cons (pg_name (i := 5) nd rfl (.inl rfl)) (pgs_cons (pg_name (i := 6) nd rfl (.inl rfl)) pgs_nil))))
      (pss_cons (ps_set (i := 7) nd rfl (.inl rfl) (pe_call GR hr5 (by rfl) T.gR T.FR.kp bR .nil pass0 (pa_cons (pv 5) pa_nil)))
      (pss_cons (ps_if (pw_or (pt_not (pt_val (pe_callB call_isi (by rfl) T.mi PyProof.Rows.boot_isinstance (pa_cons (pv 7) (pa_cons (pe_bltn (v := .ty "bool") (by rfl) T.mb PyProof.Rows.boot_bool rfl) pa_nil))))) (pw_or1 (pt_cmpR op_ne (pv 7) (pv 6) (nomark _)))).pt (pss_one (ps_ret pe_bl)) pss_nil)
      (pss_one (ps_if (pw_and (pt_val (pv 6)) (pw_and1 (pt_cmpR op_ne (pe_call GNo hr23 (by rfl) T.gNo T.FNo.kp bNo .nil pass0 (pa_cons (pv 5) pa_nil)) (pe_call GLi hr22 (by rfl) T.gLi T.FLi.kp bLi .nil pass0 (pa_cons (pv 5) pa_nil)) (nomark _)))).pt (pss_one (ps_ret pe_bl)) pss_nil))))))
      (pss_cons (ps_set (i := 7) nd rfl (.inl rfl) (pe_call GNo hr23 (by rfl) T.gNo T.FNo.kp bNo .nil pass0 (pa_cons (pv 3) pa_nil)))
      (pss_one (ps_ret (pe_and (pe_callB call_isi (by rfl) T.mi PyProof.Rows.boot_isinstance (pa_cons (pv 7) (pa_cons (pe_bltn (v := .ty "int") (by rfl) T.mn PyProof.Rows.boot_int rfl) pa_nil))) (pe_and (pe_not (pe_callB call_isi (by rfl) T.mi PyProof.Rows.boot_isinstance (pa_cons (pv 7) (pa_cons (pe_bltn (v := .ty "bool") (by rfl) T.mb PyProof.Rows.boot_bool rfl) pa_nil)))) (pe_one (pe_cmpR op_eq (pv 7) (pe_call GLi hr22 (by rfl) T.gLi T.FLi.kp bLi .nil pass0 (pa_cons (pv 3) pa_nil)) (nomark _)))))))))))), ?_⟩
    -- words_here, bases
    refine ⟨_, rfl, a, ns, 0, rfl, hS, fun c0 c00 c01 => ?_⟩
    refine ⟨c0, 4, rfl, c00, by decide, fun H1 p1 ws s1 np1 hp1 hl1 hw1 => ?_⟩
    have hS1 := s1.seq hS
    refine ⟨_, rfl, ?_⟩
    refine ⟨_, rfl, a, ns, 1, rfl, hS1, fun c1 c10 c11 => ?_⟩
    refine ⟨_, _, rfl, rfl, (by show (0 : Int) < 3; decide), _, _, rfl, rfl, .inr ⟨_, rfl, ?_⟩⟩
    refine ⟨a, ns, _, by rw [iteN]; rfl, hS1, fun d1 d10 d11 => ?_⟩
    refine ⟨d1, 3, rfl, d10, by decide, fun H2 p2 bs s2 np2 hp2 hl2 hw2 => ?_⟩
    have hS2 := s2.seq hS1
    have nw : NmsAt H2 p1 ws := ⟨s2 _ _ hp1, (fun e => by rw [e] at hl1; cases hl1), by omega, hw1⟩
    have nb : NmsAt H2 p2 bs := ⟨hp2, (fun e => by rw [e] at hl2; cases hl2), by omega, hw2⟩
    -- the tree
    refine ⟨_, rfl, a, ns, 2, rfl, hS2, fun c2 c20 c21 => ?_⟩
    refine ⟨_, rfl, _, rfl, (by show 2 ≤ sizeLine; decide), fun tu ntu => ?_⟩
    have s4 := same_new (o := .tup [V.ref p1, V.ref p2]) ntu
    refine ⟨c2, 3, 2, tu, p1, p2, ws, bs, rfl, c20, by decide, upd_same, nw.same s4, nb.same s4, fun H3 p3 r s5 np3 h3 i3 => ?_⟩
    have s25 := s4.trans s5
    have hS3 := s25.seq hS2
    have nw3 := nw.same s25
    have k03 := Kp.of tg (s1.trans (s2.trans s25))
    have tg3 := k03.tab
    have ok := i3.ok
    have rd : r.deep ≤ 4 := i3.deep
    have rm := many_by 4 r rd
    have rp : r.pows ≤ 2 := i3.pows
    obtain ⟨z0, ez0, wz0⟩ : ∃ z0, atI (ws.map V.str) 0 = some (.str z0) ∧ Nm z0 := by
      cases hws : ws with
      | nil => rw [hws] at hl1; cases hl1
      | cons z0 zs => exact ⟨z0, atI_nat (j := 0) rfl, hw1 z0 (by rw [hws]; exact List.mem_cons_self)⟩
    -- the things
    refine ⟨_, rfl, a, _, rfl, .inl hS3, _, _, rfl, _, _, rfl, ?_⟩
    obtain ⟨u, hu⟩ : ∃ u : Int, (if (if ((ns.map V.int).length : Int) > 4 then ((ns.map V.int).length : Int) else 4) < 63 then (if ((ns.map V.int).length : Int) > 4 then ((ns.map V.int).length : Int) else 4) else 63) = u := ⟨_, rfl⟩
    have u1 : 4 ≤ u ∧ u ≤ 63 := by
      rw [← hu]
      split <;> split <;> omega
    rw [hu]
    refine ⟨3, u, rfl, ⟨by decide, by decide, by omega, by omega⟩, ?_⟩
    refine for_range (lo := 3) (n := (u - 3).toNat) (fun i σ H' => ∃ v4 v5 v6 v7 : Option V, σ = [some (.ref a), some (.ref p1), some (.ref p2), some (.ref p3), v4, v5, v6, v7] ∧ Kp pt H3 H') ⟨none, none, none, none, rfl, Kp.refl tg3⟩ ?_ ?_
    · rintro i σ H' hi ⟨v4, v5, v6, v7, rfl, k3⟩
      have hS' := k3.sqL tg3 hS3
      have tg' := k3.tab
      have e3i : (3 : Int) + (i : Int) = ((3 + i : Nat) : Int) := by omega
      rw [e3i]
      refine ⟨_, rfl, _, rfl, a, ns, 3 + i, rfl, hS', fun c c0 c1 => ?_⟩
      refine ⟨_, rfl, _, rfl, a, ns, 3 + i, rfl, hS', fun d d0 d1 => ?_⟩
      refine ⟨_, rfl, d, ((3 + i : Nat) : Int), rfl, fun m m0 m1 => ?_⟩
      have hw' := k3.at tg3 nw3.h (fun _ z => nomatch z)
      have ht' := h3.kp k3 tg3
      refine ⟨_, rfl, _, rfl, p1, _, 0, _, rfl, rfl, SqL.of hw', ez0, c, m, p3, z0, r, rfl, c0, m0, wz0, ht', ok, by omega, by omega, rp, fun H4 p v due s4 hp4 dr => ?_⟩
      obtain ⟨D, dv, sz, er, tr⟩ := dr
      have k4 := Kp.of tg' s4
      refine ⟨p, _, rfl, SqT.of hp4, rfl, _, _, rfl, _, _, rfl, rfl, ?_⟩
      refine ⟨_, rfl, v, D, rfl, dv, k4.tab, sz, fun H5 k5 => ?_⟩
      have k35 := k3.trans (k4.trans k5)
      rw [er]
      refine ⟨_, rfl, _, _, _, _, true, rfl, .ty _, .base (.bl _), kit_ty (by decide +kernel), true, rfl, iteF ?_⟩
      refine ⟨_, rfl, _, rfl, rfl, _, rfl, ?_⟩
      rw [show decide (V.bl due = V.bl due) = true from decide_eq_true rfl]
      refine iteF ?_
      refine ⟨_, rfl, ?_⟩
      refine ⟨due, rfl, ?_⟩
      cases due with
      | false => exact iteF ⟨_, _, _, _, rfl, k35⟩
      | true =>
        refine iteT ?_
        obtain ⟨q1, x, rfl, hx, xd, xm⟩ := tr rfl
        have hx5 := hx.kp k5 k4.tab
        refine ⟨_, rfl, q1, x, rfl, hx5, by omega, by omega, fun H6 s6 => ?_⟩
        refine ⟨_, rfl, q1, x, rfl, hx5.same s6, (show x.deep ≤ 19 + 1 by omega), fun H7 s7 => ?_⟩
        refine ⟨rfl, _, rfl, ?_⟩
        rw [show decide (V.int (x.noughts : Nat) = V.int (x.noughts : Nat)) = true from decide_eq_true rfl]
        exact iteF ⟨_, _, _, _, rfl, k35.trans (Kp.of k35.tab (s6.trans s7))⟩
    · rintro σ H' ⟨v4, v5, v6, v7, rfl, k3⟩
      have ht' := h3.kp k3 tg3
      refine ⟨_, rfl, p3, r, rfl, ht', by omega, by omega, fun H6 s6 => ?_⟩
      refine ⟨_, rfl, _, _, _, _, true, rfl, .ty _, .base (.int _), kit_ty (by decide +kernel), true, rfl, iteT ?_⟩
      refine ⟨_, rfl, _, _, _, _, false, rfl, .ty _, .base (.int _), kit_ty (by decide +kernel), false, rfl, true, rfl, iteT ?_⟩
      refine ⟨_, rfl, _, rfl, p3, r, rfl, ht'.same s6, (show r.deep ≤ 19 + 1 by omega), fun H7 s7 => ?_⟩
      refine ⟨rfl, ?_⟩
      rw [show decide (V.int (r.noughts : Nat) = V.int (r.noughts : Nat)) = true from decide_eq_true rfl]
      exact q H7
end
/-! ### the two tables, the table of a def's code -/
def Keyed : List DictEntry → List Str → Prop
  | [], [] => True
  | e :: r, x :: xs => (∃ t, e.key = .str x t) ∧ Keyed r xs
  | _, _ => False
theorem keyed_no : ∀ {es : List DictEntry} {xs : List Str} {z : Str}, Keyed es xs → z ∉ xs → es.find? (·.key.isStr z) = none ∧ es.any (·.refKey) = false
  | [], _, _, _, _ => ⟨rfl, rfl⟩
  | e :: r, [], _, h, _ => h.elim
  | e :: r, x :: xs, z, ⟨⟨t, h⟩, g⟩, n => by
    obtain ⟨h1, h2⟩ := keyed_no g (fun m => n (List.mem_cons_of_mem _ m))
    have hx : ¬ x = z := fun q => n (by rw [q]; exact List.mem_cons_self)
    constructor
    · rw [List.find?_cons]
      have : e.key.isStr z = false := by
        rw [h]
        show (x == z) = false
        rw [beq_eq_false_iff_ne]
        exact hx
      rw [this]
      exact h1
    · rw [List.any_cons, h2]
      have : e.refKey = false := by
        unfold DictEntry.refKey
        rw [h]
      rw [this]
      rfl
theorem ns_no {K : PySem.W.Frag} {a : Addr} {es : Array DictEntry} {n : Nat} {xs : List Str} {z : Str} (l : K.lookup a = some ⟨.type "dict", none, .dict es n, #[]⟩) (k : Keyed es.toList xs) (h : z ∉ xs) : PySem.W.nsIn K a z = some none := by
  obtain ⟨h1, h2⟩ := keyed_no k h
  unfold PySem.W.nsIn
  rw [l]
  dsimp only
  rw [h1]
  dsimp only
  rw [h2]
  rfl
theorem tab_k {K : PySem.W.Frag} {w : World} {a : Addr} {es : Array DictEntry} {n : Nat} (l : K.lookup a = some ⟨.type "dict", none, .dict es n, #[]⟩) (kl : PySem.W.KeysLit w.params es.toList) {T : List (Str × Nat)}
    (h : ∀ q ∈ T, ∃ t, PySem.W.nsIn K a q.1 = some (some (.int (q.2 : Nat) t))) (z : Str) (m : Nat) (e : lk T z = some m) : KDct K w a z (.int (m : Nat)) := by
  obtain ⟨t, ht⟩ := h _ (mem_of_lk e)
  exact ⟨es, n, _, l, kl, ht, t, rfl⟩
/-- the law's end where one def's code object has a table of its own -/
theorem walk_nm {l : PySem.W.OpenLaw} {n k : Nat} {p : Program} {lo : List Str} {XP : (Str → Option Value) → Heap → Prop} {YP : World → Heap → Prop} {r : DefRec} {KK : Params → PySem.W.Frag} {C : World → CXT} {x x0 : Str}
    (h1 : l.most = some n) (h2 : n ≤ sizeLine) (h3 : r.params.defaults = []) (h4 : Room k callerA) (h5 : ((PyProof.Rows.recsOf p).any fun e => e.name == x0) = true) (h6 : ∀ w h, YP w h → (KK w.params).In h)
    (go : ∀ w mg fa h, (KK w.params).In h → h.Ns mainGlobals mg → mg r.name = some (.ref fa) → (∀ f0, mg x0 = some (.ref f0) → LamX.OwnTab (KK w.params) f0 h) → LamX.LawAtS l w (KK w.params) (C w) k n x mg fa h)
    (h7 : ∀ w H s e s', C w [] H s (fun _ _ _ => False) e s' → False) : PySem.W.WalkO p lo XP YP l.row.toRowW r [] (fun f vs => PySem.call f vs) := by
  refine Att.attach_callB h1 h3 fun w s₀ s mg mb fa o pm cd doc a vs ns Gr Y _ _ _ hm hob hin hle hbi hge => ?_
  have X := h6 w _ Y
  have ow : ∀ f0, mg x0 = some (.ref f0) → LamX.OwnTab (KK w.params) f0 s.heap := by
    intro f0 hf c P o1 f1 e d0 us sl q1 q2 q3 q4 q5
    obtain ⟨dr, hdr, hnm⟩ := List.any_eq_true.mp h5
    have hnm : dr.name = x0 := beq_iff_eq.mp hnm
    obtain ⟨b, ob, fb, cb, Pb, g1, g2, g3, g4, _, ⟨⟨_, _, g5, _, g6, g7⟩, g8⟩⟩ := Gr.T.tab dr hdr
    rw [hnm, hf] at g1
    cases g1
    rw [X _ _ q1] at g2
    cases g2
    rw [q2] at g3
    cases g3
    rw [q3] at g4
    cases g4
    rw [X _ _ q4] at g5
    cases g5
    cases g6
    rw [q5] at g7
    cases g7
    exact g8
  obtain ⟨fd, cs, sp, t1, t2, t3, t4, t5, t6⟩ := go w mg fa _ X Gr.T.g hm ow
  refine LamX.law_callTs X Gr.T.g Gr.T.b Gr.T.builtins Gr.T.nolimit hge t1 t2 t3 Gr.T.bmain hob hin ?_ h4 t6 t4 ?_ (fun H e s' => h7 w H s e s')
  · exact Nat.le_trans hle h2
  · exact fun H y1 y2 => t5 H a ns hle hbi y1 y2
/-! ### what the top has written; the law's own head -/
theorem all_mk {l : PySem.W.OpenLaw} {w : World} {K : PySem.W.Frag} {h : Heap} {mg : Str → Option Value} {fa : Addr} (X : K.In h) (G : h.Ns mainGlobals mg) (hfa : mg "law" = some (.ref fa)) (OT : ∀ f0, mg "_is_name" = some (.ref f0) → LamX.OwnTab K f0 h)
    {od0 an0 : Option Addr} {sl0 : Array (Option Value)} {oc0 kV0 dc0 pm0 cd0 ct0 : Value} {f0 : Addr}
    (a0 : PySem.W.nsIn K mainGlobals "_law_mix" = some (some (.ref f0))) (l0 : K.lookup f0 = some ⟨oc0, od0, .func (PySem.W.fnOf "_law_mix" "_law_mix" (defArgs sMix) (defBody sMix) (defScope sMix) .none kV0 dc0 pm0 an0 cd0 ct0), sl0⟩) (c0 : PySem.W.codeIn K cd0 "_law_mix" = true) (k0 : PySem.W.keepIn K (.ref f0) = true)
    {od1 an1 : Option Addr} {sl1 : Array (Option Value)} {oc1 kV1 dc1 pm1 cd1 ct1 : Value} {f1 : Addr}
    (a1 : PySem.W.nsIn K mainGlobals "_law_cell_at" = some (some (.ref f1))) (l1 : K.lookup f1 = some ⟨oc1, od1, .func (PySem.W.fnOf "_law_cell_at" "_law_cell_at" (defArgs sCell) (defBody sCell) (defScope sCell) .none kV1 dc1 pm1 an1 cd1 ct1), sl1⟩) (c1 : PySem.W.codeIn K cd1 "_law_cell_at" = true) (k1 : PySem.W.keepIn K (.ref f1) = true)
    {od2 an2 : Option Addr} {sl2 : Array (Option Value)} {oc2 kV2 dc2 pm2 cd2 ct2 : Value} {f2 : Addr}
    (a2 : PySem.W.nsIn K mainGlobals "_law_words" = some (some (.ref f2))) (l2 : K.lookup f2 = some ⟨oc2, od2, .func (PySem.W.fnOf "_law_words" "_law_words" (defArgs sWords) (defBody sWords) (defScope sWords) .none kV2 dc2 pm2 an2 cd2 ct2), sl2⟩) (c2 : PySem.W.codeIn K cd2 "_law_words" = true) (k2 : PySem.W.keepIn K (.ref f2) = true)
    {od3 an3 : Option Addr} {sl3 : Array (Option Value)} {oc3 kV3 dc3 pm3 cd3 ct3 : Value} {f3 : Addr}
    (a3 : PySem.W.nsIn K mainGlobals "_law_made" = some (some (.ref f3))) (l3 : K.lookup f3 = some ⟨oc3, od3, .func (PySem.W.fnOf "_law_made" "_law_made" (defArgs sMade) (defBody sMade) (defScope sMade) .none kV3 dc3 pm3 an3 cd3 ct3), sl3⟩) (c3 : PySem.W.codeIn K cd3 "_law_made" = true) (k3 : PySem.W.keepIn K (.ref f3) = true)
    {od4 an4 : Option Addr} {sl4 : Array (Option Value)} {oc4 kV4 dc4 pm4 cd4 ct4 : Value} {f4 : Addr}
    (a4 : PySem.W.nsIn K mainGlobals "_law_small" = some (some (.ref f4))) (l4 : K.lookup f4 = some ⟨oc4, od4, .func (PySem.W.fnOf "_law_small" "_law_small" (defArgs sSmall) (defBody sSmall) (defScope sSmall) .none kV4 dc4 pm4 an4 cd4 ct4), sl4⟩) (c4 : PySem.W.codeIn K cd4 "_law_small" = true) (k4 : PySem.W.keepIn K (.ref f4) = true)
    {od5 an5 : Option Addr} {sl5 : Array (Option Value)} {oc5 kV5 dc5 pm5 cd5 ct5 : Value} {f5 : Addr}
    (a5 : PySem.W.nsIn K mainGlobals "_law_shared" = some (some (.ref f5))) (l5 : K.lookup f5 = some ⟨oc5, od5, .func (PySem.W.fnOf "_law_shared" "_law_shared" (defArgs sShared) (defBody sShared) (defScope sShared) .none kV5 dc5 pm5 an5 cd5 ct5), sl5⟩) (c5 : PySem.W.codeIn K cd5 "_law_shared" = true) (k5 : PySem.W.keepIn K (.ref f5) = true)
    {od6 an6 : Option Addr} {sl6 : Array (Option Value)} {oc6 kV6 dc6 pm6 cd6 ct6 : Value} {f6 : Addr}
    (a6 : PySem.W.nsIn K mainGlobals "_law_lowest" = some (some (.ref f6))) (l6 : K.lookup f6 = some ⟨oc6, od6, .func (PySem.W.fnOf "_law_lowest" "_law_lowest" (defArgs sLowest) (defBody sLowest) (defScope sLowest) .none kV6 dc6 pm6 an6 cd6 ct6), sl6⟩) (c6 : PySem.W.codeIn K cd6 "_law_lowest" = true) (k6 : PySem.W.keepIn K (.ref f6) = true)
    {od7 an7 : Option Addr} {sl7 : Array (Option Value)} {oc7 kV7 dc7 pm7 cd7 ct7 : Value} {f7 : Addr}
    (a7 : PySem.W.nsIn K mainGlobals "_law_number" = some (some (.ref f7))) (l7 : K.lookup f7 = some ⟨oc7, od7, .func (PySem.W.fnOf "_law_number" "_law_number" (defArgs sNumber) (defBody sNumber) (defScope sNumber) .none kV7 dc7 pm7 an7 cd7 ct7), sl7⟩) (c7 : PySem.W.codeIn K cd7 "_law_number" = true) (k7 : PySem.W.keepIn K (.ref f7) = true)
    {od8 an8 : Option Addr} {sl8 : Array (Option Value)} {oc8 kV8 dc8 pm8 cd8 ct8 : Value} {f8 : Addr}
    (a8 : PySem.W.nsIn K mainGlobals "_law_leaf" = some (some (.ref f8))) (l8 : K.lookup f8 = some ⟨oc8, od8, .func (PySem.W.fnOf "_law_leaf" "_law_leaf" (defArgs sLeaf) (defBody sLeaf) (defScope sLeaf) .none kV8 dc8 pm8 an8 cd8 ct8), sl8⟩) (c8 : PySem.W.codeIn K cd8 "_law_leaf" = true) (k8 : PySem.W.keepIn K (.ref f8) = true)
    {od9 an9 : Option Addr} {sl9 : Array (Option Value)} {oc9 kV9 dc9 pm9 cd9 ct9 : Value} {f9 : Addr}
    (a9 : PySem.W.nsIn K mainGlobals "_law_tree" = some (some (.ref f9))) (l9 : K.lookup f9 = some ⟨oc9, od9, .func (PySem.W.fnOf "_law_tree" "_law_tree" (defArgs sTree) (defBody sTree) (defScope sTree) .none kV9 dc9 pm9 an9 cd9 ct9), sl9⟩) (c9 : PySem.W.codeIn K cd9 "_law_tree" = true) (k9 : PySem.W.keepIn K (.ref f9) = true)
    {od10 an10 : Option Addr} {sl10 : Array (Option Value)} {oc10 kV10 dc10 pm10 cd10 ct10 : Value} {f10 : Addr}
    (a10 : PySem.W.nsIn K mainGlobals "_law_parts" = some (some (.ref f10))) (l10 : K.lookup f10 = some ⟨oc10, od10, .func (PySem.W.fnOf "_law_parts" "_law_parts" (defArgs sParts) (defBody sParts) (defScope sParts) .none kV10 dc10 pm10 an10 cd10 ct10), sl10⟩) (c10 : PySem.W.codeIn K cd10 "_law_parts" = true) (k10 : PySem.W.keepIn K (.ref f10) = true)
    {od11 an11 : Option Addr} {sl11 : Array (Option Value)} {oc11 kV11 dc11 pm11 cd11 ct11 : Value} {f11 : Addr}
    (a11 : PySem.W.nsIn K mainGlobals "_law_many" = some (some (.ref f11))) (l11 : K.lookup f11 = some ⟨oc11, od11, .func (PySem.W.fnOf "_law_many" "_law_many" (defArgs sMany) (defBody sMany) (defScope sMany) .none kV11 dc11 pm11 an11 cd11 ct11), sl11⟩) (c11 : PySem.W.codeIn K cd11 "_law_many" = true) (k11 : PySem.W.keepIn K (.ref f11) = true)
    {od12 an12 : Option Addr} {sl12 : Array (Option Value)} {oc12 kV12 dc12 pm12 cd12 ct12 : Value} {f12 : Addr}
    (a12 : PySem.W.nsIn K mainGlobals "_law_put" = some (some (.ref f12))) (l12 : K.lookup f12 = some ⟨oc12, od12, .func (PySem.W.fnOf "_law_put" "_law_put" (defArgs sPut) (defBody sPut) (defScope sPut) .none kV12 dc12 pm12 an12 cd12 ct12), sl12⟩) (c12 : PySem.W.codeIn K cd12 "_law_put" = true) (k12 : PySem.W.keepIn K (.ref f12) = true)
    {od13 an13 : Option Addr} {sl13 : Array (Option Value)} {oc13 kV13 dc13 pm13 cd13 ct13 : Value} {f13 : Addr}
    (a13 : PySem.W.nsIn K mainGlobals "_law_bad_leaf" = some (some (.ref f13))) (l13 : K.lookup f13 = some ⟨oc13, od13, .func (PySem.W.fnOf "_law_bad_leaf" "_law_bad_leaf" (defArgs sBadLeaf) (defBody sBadLeaf) (defScope sBadLeaf) .none kV13 dc13 pm13 an13 cd13 ct13), sl13⟩) (c13 : PySem.W.codeIn K cd13 "_law_bad_leaf" = true) (k13 : PySem.W.keepIn K (.ref f13) = true)
    {od14 an14 : Option Addr} {sl14 : Array (Option Value)} {oc14 kV14 dc14 pm14 cd14 ct14 : Value} {f14 : Addr}
    (a14 : PySem.W.nsIn K mainGlobals "_law_bad_node" = some (some (.ref f14))) (l14 : K.lookup f14 = some ⟨oc14, od14, .func (PySem.W.fnOf "_law_bad_node" "_law_bad_node" (defArgs sBadNode) (defBody sBadNode) (defScope sBadNode) .none kV14 dc14 pm14 an14 cd14 ct14), sl14⟩) (c14 : PySem.W.codeIn K cd14 "_law_bad_node" = true) (k14 : PySem.W.keepIn K (.ref f14) = true)
    {od15 an15 : Option Addr} {sl15 : Array (Option Value)} {oc15 kV15 dc15 pm15 cd15 ct15 : Value} {f15 : Addr}
    (a15 : PySem.W.nsIn K mainGlobals "_law_edge_leaf" = some (some (.ref f15))) (l15 : K.lookup f15 = some ⟨oc15, od15, .func (PySem.W.fnOf "_law_edge_leaf" "_law_edge_leaf" (defArgs sEdge) (defBody sEdge) (defScope sEdge) .none kV15 dc15 pm15 an15 cd15 ct15), sl15⟩) (c15 : PySem.W.codeIn K cd15 "_law_edge_leaf" = true) (k15 : PySem.W.keepIn K (.ref f15) = true)
    {od16 an16 : Option Addr} {sl16 : Array (Option Value)} {oc16 kV16 dc16 pm16 cd16 ct16 : Value} {f16 : Addr}
    (a16 : PySem.W.nsIn K mainGlobals "_law_deep" = some (some (.ref f16))) (l16 : K.lookup f16 = some ⟨oc16, od16, .func (PySem.W.fnOf "_law_deep" "_law_deep" (defArgs sDeep) (defBody sDeep) (defScope sDeep) .none kV16 dc16 pm16 an16 cd16 ct16), sl16⟩) (c16 : PySem.W.codeIn K cd16 "_law_deep" = true) (k16 : PySem.W.keepIn K (.ref f16) = true)
    {od17 an17 : Option Addr} {sl17 : Array (Option Value)} {oc17 kV17 dc17 pm17 cd17 ct17 : Value} {f17 : Addr}
    (a17 : PySem.W.nsIn K mainGlobals "_law_wide" = some (some (.ref f17))) (l17 : K.lookup f17 = some ⟨oc17, od17, .func (PySem.W.fnOf "_law_wide" "_law_wide" (defArgs sWide) (defBody sWide) (defScope sWide) .none kV17 dc17 pm17 an17 cd17 ct17), sl17⟩) (c17 : PySem.W.codeIn K cd17 "_law_wide" = true) (k17 : PySem.W.keepIn K (.ref f17) = true)
    {od18 an18 : Option Addr} {sl18 : Array (Option Value)} {oc18 kV18 dc18 pm18 cd18 ct18 : Value} {f18 : Addr}
    (a18 : PySem.W.nsIn K mainGlobals "_law_powers" = some (some (.ref f18))) (l18 : K.lookup f18 = some ⟨oc18, od18, .func (PySem.W.fnOf "_law_powers" "_law_powers" (defArgs sPows) (defBody sPows) (defScope sPows) .none kV18 dc18 pm18 an18 cd18 ct18), sl18⟩) (c18 : PySem.W.codeIn K cd18 "_law_powers" = true) (k18 : PySem.W.keepIn K (.ref f18) = true)
    {od19 an19 : Option Addr} {sl19 : Array (Option Value)} {oc19 kV19 dc19 pm19 cd19 ct19 : Value} {f19 : Addr}
    (a19 : PySem.W.nsIn K mainGlobals "_law_drawn" = some (some (.ref f19))) (l19 : K.lookup f19 = some ⟨oc19, od19, .func (PySem.W.fnOf "_law_drawn" "_law_drawn" (defArgs sDrawn) (defBody sDrawn) (defScope sDrawn) .none kV19 dc19 pm19 an19 cd19 ct19), sl19⟩) (c19 : PySem.W.codeIn K cd19 "_law_drawn" = true) (k19 : PySem.W.keepIn K (.ref f19) = true)
    {od20 an20 : Option Addr} {sl20 : Array (Option Value)} {oc20 kV20 dc20 pm20 cd20 ct20 : Value} {f20 : Addr}
    (a20 : PySem.W.nsIn K mainGlobals "_law_noughts_in" = some (some (.ref f20))) (l20 : K.lookup f20 = some ⟨oc20, od20, .func (PySem.W.fnOf "_law_noughts_in" "_law_noughts_in" (defArgs sNouIn) (defBody sNouIn) (defScope sNouIn) .none kV20 dc20 pm20 an20 cd20 ct20), sl20⟩) (c20 : PySem.W.codeIn K cd20 "_law_noughts_in" = true) (k20 : PySem.W.keepIn K (.ref f20) = true)
    {od21 an21 : Option Addr} {sl21 : Array (Option Value)} {oc21 kV21 dc21 pm21 cd21 ct21 : Value} {f21 : Addr}
    (a21 : PySem.W.nsIn K mainGlobals "is_reckoning" = some (some (.ref f21))) (l21 : K.lookup f21 = some ⟨oc21, od21, .func (PySem.W.fnOf "is_reckoning" "is_reckoning" (defArgs sIsR) (defBody sIsR) (defScope sIsR) .none kV21 dc21 pm21 an21 cd21 ct21), sl21⟩) (c21 : PySem.W.codeIn K cd21 "is_reckoning" = true) (k21 : PySem.W.keepIn K (.ref f21) = true)
    {od22 an22 : Option Addr} {sl22 : Array (Option Value)} {oc22 kV22 dc22 pm22 cd22 ct22 : Value} {f22 : Addr}
    (a22 : PySem.W.nsIn K mainGlobals "noughts" = some (some (.ref f22))) (l22 : K.lookup f22 = some ⟨oc22, od22, .func (PySem.W.fnOf "noughts" "noughts" (defArgs sNou) (defBody sNou) (defScope sNou) .none kV22 dc22 pm22 an22 cd22 ct22), sl22⟩) (c22 : PySem.W.codeIn K cd22 "noughts" = true) (k22 : PySem.W.keepIn K (.ref f22) = true)
    {od23 an23 : Option Addr} {sl23 : Array (Option Value)} {oc23 kV23 dc23 pm23 cd23 ct23 : Value} {f23 : Addr}
    (a23 : PySem.W.nsIn K mainGlobals "parts" = some (some (.ref f23))) (l23 : K.lookup f23 = some ⟨oc23, od23, .func (PySem.W.fnOf "parts" "parts" (defArgs sPaP) (defBody sPaP) (defScope sPaP) .none kV23 dc23 pm23 an23 cd23 ct23), sl23⟩) (c23 : PySem.W.codeIn K cd23 "parts" = true) (k23 : PySem.W.keepIn K (.ref f23) = true)
    {od24 an24 : Option Addr} {sl24 : Array (Option Value)} {oc24 kV24 dc24 pm24 cd24 ct24 : Value} {f24 : Addr}
    (a24 : PySem.W.nsIn K mainGlobals "all_parts" = some (some (.ref f24))) (l24 : K.lookup f24 = some ⟨oc24, od24, .func (PySem.W.fnOf "all_parts" "all_parts" (defArgs sAll) (defBody sAll) (defScope sAll) .none kV24 dc24 pm24 an24 cd24 ct24), sl24⟩) (c24 : PySem.W.codeIn K cd24 "all_parts" = true) (k24 : PySem.W.keepIn K (.ref f24) = true)
    {od25 an25 : Option Addr} {sl25 : Array (Option Value)} {oc25 kV25 dc25 pm25 cd25 ct25 : Value} {f25 : Addr}
    (a25 : PySem.W.nsIn K mainGlobals "_has_form" = some (some (.ref f25))) (l25 : K.lookup f25 = some ⟨oc25, od25, .func (PySem.W.fnOf "_has_form" "_has_form" (defArgs sForm) (defBody sForm) (defScope sForm) .none kV25 dc25 pm25 an25 cd25 ct25), sl25⟩) (c25 : PySem.W.codeIn K cd25 "_has_form" = true) (k25 : PySem.W.keepIn K (.ref f25) = true)
    {od26 an26 : Option Addr} {sl26 : Array (Option Value)} {oc26 kV26 dc26 pm26 cd26 ct26 : Value} {f26 : Addr}
    (a26 : PySem.W.nsIn K mainGlobals "_is_number" = some (some (.ref f26))) (l26 : K.lookup f26 = some ⟨oc26, od26, .func (PySem.W.fnOf "_is_number" "_is_number" (defArgs sIsN) (defBody sIsN) (defScope sIsN) .none kV26 dc26 pm26 an26 cd26 ct26), sl26⟩) (c26 : PySem.W.codeIn K cd26 "_is_number" = true) (k26 : PySem.W.keepIn K (.ref f26) = true)
    {od27 an27 : Option Addr} {sl27 : Array (Option Value)} {oc27 kV27 dc27 pm27 cd27 ct27 : Value} {f27 : Addr}
    (a27 : PySem.W.nsIn K mainGlobals "_is_measure" = some (some (.ref f27))) (l27 : K.lookup f27 = some ⟨oc27, od27, .func (PySem.W.fnOf "_is_measure" "_is_measure" (defArgs sIsMs) (defBody sIsMs) (defScope sIsMs) .none kV27 dc27 pm27 an27 cd27 ct27), sl27⟩) (c27 : PySem.W.codeIn K cd27 "_is_measure" = true) (k27 : PySem.W.keepIn K (.ref f27) = true)
    {od28 an28 : Option Addr} {sl28 : Array (Option Value)} {oc28 kV28 dc28 pm28 cd28 ct28 : Value} {f28 : Addr}
    (a28 : PySem.W.nsIn K mainGlobals "_is_pair" = some (some (.ref f28))) (l28 : K.lookup f28 = some ⟨oc28, od28, .func (PySem.W.fnOf "_is_pair" "_is_pair" (defArgs sIsPr) (defBody sIsPr) (defScope sIsPr) .none kV28 dc28 pm28 an28 cd28 ct28), sl28⟩) (c28 : PySem.W.codeIn K cd28 "_is_pair" = true) (k28 : PySem.W.keepIn K (.ref f28) = true)
    {od29 an29 : Option Addr} {sl29 : Array (Option Value)} {oc29 kV29 dc29 pm29 ct29 : Value} {cN : Addr} {f29 : Addr}
    (a29 : PySem.W.nsIn K mainGlobals "_is_name" = some (some (.ref f29))) (l29 : K.lookup f29 = some ⟨oc29, od29, .func (PySem.W.fnOf "_is_name" "_is_name" (defArgs sIsNm) (defBody sIsNm) (defScope sIsNm) .none kV29 dc29 pm29 an29 (.ref cN) ct29), sl29⟩) (c29 : PySem.W.codeIn K (.ref cN) "_is_name" = true) (k29 : PySem.W.keepIn K (.ref f29) = true)
    {od30 an30 : Option Addr} {sl30 : Array (Option Value)} {oc30 kV30 dc30 pm30 cd30 ct30 : Value} {f30 : Addr}
    (a30 : PySem.W.nsIn K mainGlobals "_is_whole" = some (some (.ref f30))) (l30 : K.lookup f30 = some ⟨oc30, od30, .func (PySem.W.fnOf "_is_whole" "_is_whole" (defArgs sIsWh) (defBody sIsWh) (defScope sIsWh) .none kV30 dc30 pm30 an30 cd30 ct30), sl30⟩) (c30 : PySem.W.codeIn K cd30 "_is_whole" = true) (k30 : PySem.W.keepIn K (.ref f30) = true)
    {od31 an31 : Option Addr} {sl31 : Array (Option Value)} {oc31 kV31 dc31 pm31 cd31 ct31 : Value} {f31 : Addr}
    (a31 : PySem.W.nsIn K mainGlobals "law" = some (some (.ref f31))) (l31 : K.lookup f31 = some ⟨oc31, od31, .func (PySem.W.fnOf "law" "law" (defArgs sLaw) (defBody sLaw) (defScope sLaw) .none kV31 dc31 pm31 an31 cd31 ct31), sl31⟩) (c31 : PySem.W.codeIn K cd31 "law" = true) (k31 : PySem.W.keepIn K (.ref f31) = true)
    (z0 : PySem.W.nsIn K mainGlobals "len" = some none)
    (z1 : PySem.W.nsIn K mainGlobals "range" = some none)
    (z2 : PySem.W.nsIn K mainGlobals "abs" = some none)
    (z3 : PySem.W.nsIn K mainGlobals "tuple" = some none)
    (z4 : PySem.W.nsIn K mainGlobals "isinstance" = some none)
    (z5 : PySem.W.nsIn K mainGlobals "int" = some none)
    (z6 : PySem.W.nsIn K mainGlobals "bool" = some none)
    (z7 : PySem.W.nsIn K mainGlobals "str" = some none)
    (z8 : PySem.W.nsIn K mainGlobals "sorted" = some none)
    (z9 : PySem.W.nsIn K mainGlobals "set" = some none)
    (z10 : PySem.W.nsIn K mainGlobals "list" = some none)
    (z11 : PySem.W.nsIn K mainGlobals "min" = some none)
    (z12 : PySem.W.nsIn K mainGlobals "max" = some none)
    (z13 : PySem.W.nsIn K mainGlobals "sum" = some none)
    (z14 : PySem.W.nsIn K mainGlobals "type" = some none)
    (z15 : PySem.W.nsIn K mainGlobals "all" = some none)
    (gg : PySem.W.nsIn K mainGlobals "gcd" = some (some (.builtin "math.gcd")))
    {tm12 tm100 tm2 tm9 tm6 tm8 tm20 tm4 : Tok}
    (nm12 : PySem.W.nsIn K mainGlobals "MOST_DEEP" = some (some (.int 12 tm12)))
    (nm100 : PySem.W.nsIn K mainGlobals "MOST_IN_ALL" = some (some (.int 100 tm100)))
    (nm2 : PySem.W.nsIn K mainGlobals "MOST_POWERS_ON_A_WAY" = some (some (.int 2 tm2)))
    (nm9 : PySem.W.nsIn K mainGlobals "MOST_NUMBER" = some (some (.int 1000000000 tm9)))
    (nm6 : PySem.W.nsIn K mainGlobals "MOST_LETTERS" = some (some (.int 6 tm6)))
    (nm8 : PySem.W.nsIn K mainGlobals "MOST_SIGNS" = some (some (.int 8 tm8)))
    (nm20 : PySem.W.nsIn K mainGlobals "MOST_LETTER_POWER" = some (some (.int 20 tm20)))
    (nm4 : PySem.W.nsIn K mainGlobals "MOST_RAISED" = some (some (.int 4 tm4)))
    {pa : Addr} {esp : Array DictEntry} {nep : Nat} {pt0 pt1 pt2 pt3 pt4 pt5 pt6 pt7 pt8 : Tok}
    (gp : PySem.W.nsIn K mainGlobals "PARTS" = some (some (.ref pa))) (lp : K.lookup pa = some ⟨.type "dict", none, .dict esp nep, #[]⟩) (kp : PySem.W.KeysLit w.params esp.toList)
    (p0 : PySem.W.nsIn K pa "is" = some (some (.int 0 pt0)))
    (p1 : PySem.W.nsIn K pa "nought" = some (some (.int 0 pt1)))
    (p2 : PySem.W.nsIn K pa "input" = some (some (.int 0 pt2)))
    (p3 : PySem.W.nsIn K pa "plus" = some (some (.int 2 pt3)))
    (p4 : PySem.W.nsIn K pa "minus" = some (some (.int 2 pt4)))
    (p5 : PySem.W.nsIn K pa "times" = some (some (.int 2 pt5)))
    (p6 : PySem.W.nsIn K pa "over" = some (some (.int 2 pt6)))
    (p7 : PySem.W.nsIn K pa "power" = some (some (.int 1 pt7)))
    (p8 : PySem.W.nsIn K pa "less" = some (some (.int 4 pt8)))
    {lt : Addr} {esq : Array DictEntry} {neq : Nat} {qt0 qt1 qt2 qt3 qt4 qt5 qt6 qt7 qt8 : Tok}
    (gq : PySem.W.nsIn K mainGlobals "LENGTHS" = some (some (.ref lt))) (lq : K.lookup lt = some ⟨.type "dict", none, .dict esq neq, #[]⟩) (kq : PySem.W.KeysLit w.params esq.toList)
    (q0 : PySem.W.nsIn K lt "is" = some (some (.int 3 qt0)))
    (q1 : PySem.W.nsIn K lt "nought" = some (some (.int 1 qt1)))
    (q2 : PySem.W.nsIn K lt "input" = some (some (.int 2 qt2)))
    (q3 : PySem.W.nsIn K lt "plus" = some (some (.int 3 qt3)))
    (q4 : PySem.W.nsIn K lt "minus" = some (some (.int 3 qt4)))
    (q5 : PySem.W.nsIn K lt "times" = some (some (.int 3 qt5)))
    (q6 : PySem.W.nsIn K lt "over" = some (some (.int 3 qt6)))
    (q7 : PySem.W.nsIn K lt "power" = some (some (.int 3 qt7)))
    (q8 : PySem.W.nsIn K lt "less" = some (some (.int 5 qt8)))
    (kd : Keyed esq.toList (lenTab.map (·.1))) (sM : (lt == sysModules) = false)
    {ecN : Value} {dcN : Option Addr} {vsN : Array Value} {slN : Array (Option Value)} {pt : Addr} (lc : K.lookup cN = some ⟨ecN, dcN, .fields vsN, slN⟩) (v11 : vsN[11]? = some (.ref pt)) (hd : PySem.W.codeHdIn K cN pt = true) (nP : K.lookup pt = none) :
    LamX.LawAtS l w K CX0 25 63 "_law_script" mg fa h := by
  have e := hfa.symm.trans (PySem.W.mg_of X G a31)
  cases e
  have PB : PTb K w mg pa := ⟨PySem.W.mg_of X G gp, tab_k lp kp (T := partTab) (fun q hq => by
    simp only [partTab, List.mem_cons, List.mem_nil_iff, or_false] at hq
    rcases hq with rfl | rfl | rfl | rfl | rfl | rfl | rfl | rfl | rfl
    · exact ⟨_, p0⟩
    · exact ⟨_, p1⟩
    · exact ⟨_, p2⟩
    · exact ⟨_, p3⟩
    · exact ⟨_, p4⟩
    · exact ⟨_, p5⟩
    · exact ⟨_, p6⟩
    · exact ⟨_, p7⟩
    · exact ⟨_, p8⟩)⟩
  have TP : PTab K w mg pa := PTab.mk' (PySem.W.mg_of X G gp) lp kp p0 p1 p2 p3 p4 p5 p6 p7 p8
  have LT : LTab K w mg lt := ⟨PySem.W.mg_of X G gq, ⟨_, _, lq, kq, sM⟩, tab_k lq kq (T := lenTab) (fun q hq => by
    simp only [lenTab, List.mem_cons, List.mem_nil_iff, or_false] at hq
    rcases hq with rfl | rfl | rfl | rfl | rfl | rfl | rfl | rfl | rfl
    · exact ⟨_, q0⟩
    · exact ⟨_, q1⟩
    · exact ⟨_, q2⟩
    · exact ⟨_, q3⟩
    · exact ⟨_, q4⟩
    · exact ⟨_, q5⟩
    · exact ⟨_, q6⟩
    · exact ⟨_, q7⟩
    · exact ⟨_, q8⟩), fun z hz => ns_no lq kd (lk_none.mp hz)⟩
  have T : Txt K w mg pa lt cN pt := ⟨f0, f1, f2, f3, f4, f5, f6, f7, f8, f9, f10, f11, f12, f13, f14, f15, f16, f17, f18, f19, f20, f21, f22, f23, f24, f25, f26, f27, f28, f29, f30, _, _, _, _, _, _, _, _, _, _, _, _, _, _, _, _, _, _, _, _, _, _, _, _, _, _, _, _, _, _, _, _, _, _, _, _, _, _, _, fun_mk l0 c0 k0, fun_mk l1 c1 k1, fun_mk l2 c2 k2, fun_mk l3 c3 k3, fun_mk l4 c4 k4, fun_mk l5 c5 k5, fun_mk l6 c6 k6, fun_mk l7 c7 k7, fun_mk l8 c8 k8, fun_mk l9 c9 k9, fun_mk l10 c10 k10, fun_mk l11 c11 k11, fun_mk l12 c12 k12, fun_mk l13 c13 k13, fun_mk l14 c14 k14, fun_mk l15 c15 k15, fun_mk l16 c16 k16, fun_mk l17 c17 k17, fun_mk l18 c18 k18, fun_mk l19 c19 k19, fun_mk l20 c20 k20, fun_mk l21 c21 k21, fun_mk l22 c22 k22, fun_mk l23 c23 k23, fun_mk l24 c24 k24, fun_mk l25 c25 k25, fun_mk l26 c26 k26, fun_mk l27 c27 k27, fun_mk l28 c28 k28, ⟨⟨_, _, _, _, _, _, _, _, rfl, l29, c29⟩, k29⟩, fun_mk l30 c30 k30, PySem.W.mg_of X G a0, PySem.W.mg_of X G a1, PySem.W.mg_of X G a2, PySem.W.mg_of X G a3, PySem.W.mg_of X G a4, PySem.W.mg_of X G a5, PySem.W.mg_of X G a6, PySem.W.mg_of X G a7, PySem.W.mg_of X G a8, PySem.W.mg_of X G a9, PySem.W.mg_of X G a10, PySem.W.mg_of X G a11, PySem.W.mg_of X G a12, PySem.W.mg_of X G a13, PySem.W.mg_of X G a14, PySem.W.mg_of X G a15, PySem.W.mg_of X G a16, PySem.W.mg_of X G a17, PySem.W.mg_of X G a18, PySem.W.mg_of X G a19, PySem.W.mg_of X G a20, PySem.W.mg_of X G a21, PySem.W.mg_of X G a22, PySem.W.mg_of X G a23, PySem.W.mg_of X G a24, PySem.W.mg_of X G a25, PySem.W.mg_of X G a26, PySem.W.mg_of X G a27, PySem.W.mg_of X G a28, PySem.W.mg_of X G a29, PySem.W.mg_of X G a30, PySem.W.mg_none_of X G z0, PySem.W.mg_none_of X G z1, PySem.W.mg_none_of X G z2, PySem.W.mg_none_of X G z3, PySem.W.mg_none_of X G z4, PySem.W.mg_none_of X G z5, PySem.W.mg_none_of X G z6, PySem.W.mg_none_of X G z7, PySem.W.mg_none_of X G z8, PySem.W.mg_none_of X G z9, PySem.W.mg_none_of X G z10, PySem.W.mg_none_of X G z11, PySem.W.mg_none_of X G z12, PySem.W.mg_none_of X G z13, PySem.W.mg_none_of X G z14, PySem.W.mg_none_of X G z15, PySem.W.mg_of X G nm12, PySem.W.mg_of X G nm100, PySem.W.mg_of X G nm2, PySem.W.mg_of X G nm9, PySem.W.mg_of X G nm6, PySem.W.mg_of X G nm8, PySem.W.mg_of X G nm20, PySem.W.mg_of X G nm4, PySem.W.mg_of X G gg, LT, PB, TP⟩
  have FL := fun_mk (st := sLaw) l31 c31 k31
  have eT := OT _ (PySem.W.mg_of X G a29) cN pt _ _ _ _ _ _ l29 rfl rfl lc v11
  refine ⟨PySem.W.fnOf "law" "law" (defArgs sLaw) (defBody sLaw) (defScope sLaw) .none kV31 dc31 pm31 an31 cd31 ct31, [(cN, pt)], spLaw K pt, fun p hp => ?_, fun p hp => ?_, fun p hp => ?_, fun s v => .of_eq rfl, fun H a ns _ _ hc hS => ⟨a, ns, rfl, hS, ⟨#[], hc (cN, pt) (List.mem_singleton.mpr rfl), trivial⟩, fun _ => rfl⟩, fun base _ _ tb => ?hF⟩
  case hF =>
    have t := tb (cN, pt) (List.mem_singleton.mpr rfl)
    exact ok_law FL T ⟨t.code, t.bm, t.gP⟩
  · rw [List.mem_singleton.mp hp]
    exact eT
  · rw [List.mem_singleton.mp hp]
    exact nP
  · rw [List.mem_singleton.mp hp]
    exact PySem.W.codeHd_of_K X hd
end MK
open PySem PySem.W PyProof.Rows
set_option maxHeartbeats 0 in
theorem PySem.Challenge.cw_measurekind_k04_reckonings_known_holds : PySem.Challenge.rw_measurekind_k04_reckonings_known.Holds := by
  w_on; o_law; k_head; (case hw => w_witness2)
  k_fill
  refine MK.walk_nm (l := PySem.Challenge.rw_measurekind_k04_reckonings_known) (n := 63) (k := 25) (x := "_law_script") (x0 := "_is_name") (C := fun _ => L2.CX0) rfl (by decide) rfl ⟨rfl, by decide, by decide⟩ (by decide +kernel) (fun w h Y => PySem.W.kIn_of Y) ?F (fun _ _ _ _ _ h => h)
  case F =>
    intro w mg fa h KX G hmg OT
    refine' MK.all_mk KX G hmg OT ?a0 ?l0 ?c0 ?k0 ?a1 ?l1 ?c1 ?k1 ?a2 ?l2 ?c2 ?k2 ?a3 ?l3 ?c3 ?k3 ?a4 ?l4 ?c4 ?k4 ?a5 ?l5 ?c5 ?k5 ?a6 ?l6 ?c6 ?k6 ?a7 ?l7 ?c7 ?k7 ?a8 ?l8 ?c8 ?k8 ?a9 ?l9 ?c9 ?k9 ?a10 ?l10 ?c10 ?k10 ?a11 ?l11 ?c11 ?k11 ?a12 ?l12 ?c12 ?k12 ?a13 ?l13 ?c13 ?k13 ?a14 ?l14 ?c14 ?k14 ?a15 ?l15 ?c15 ?k15 ?a16 ?l16 ?c16 ?k16 ?a17 ?l17 ?c17 ?k17 ?a18 ?l18 ?c18 ?k18 ?a19 ?l19 ?c19 ?k19 ?a20 ?l20 ?c20 ?k20 ?a21 ?l21 ?c21 ?k21 ?a22 ?l22 ?c22 ?k22 ?a23 ?l23 ?c23 ?k23 ?a24 ?l24 ?c24 ?k24 ?a25 ?l25 ?c25 ?k25 ?a26 ?l26 ?c26 ?k26 ?a27 ?l27 ?c27 ?k27 ?a28 ?l28 ?c28 ?k28 ?a29 ?l29 ?c29 ?k29 ?a30 ?l30 ?c30 ?k30 ?a31 ?l31 ?c31 ?k31 ?z0 ?z1 ?z2 ?z3 ?z4 ?z5 ?z6 ?z7 ?z8 ?z9 ?z10 ?z11 ?z12 ?z13 ?z14 ?z15 ?gg ?nm12 ?nm100 ?nm2 ?nm9 ?nm6 ?nm8 ?nm20 ?nm4 ?gp ?lp ?kp ?p0 ?p1 ?p2 ?p3 ?p4 ?p5 ?p6 ?p7 ?p8 ?gq ?lq ?kq ?q0 ?q1 ?q2 ?q3 ?q4 ?q5 ?q6 ?q7 ?q8 ?kd ?sM ?lc ?v11 ?hd ?nP
    (case a0 => k_is)
    (case l0 => k_is)
    (case c0 => k_is)
    (case k0 => k_is)
    (case a1 => k_is)
    (case l1 => k_is)
    (case c1 => k_is)
    (case k1 => k_is)
    (case a2 => k_is)
    (case l2 => k_is)
    (case c2 => k_is)
    (case k2 => k_is)
    (case a3 => k_is)
    (case l3 => k_is)
    (case c3 => k_is)
    (case k3 => k_is)
    (case a4 => k_is)
    (case l4 => k_is)
    (case c4 => k_is)
    (case k4 => k_is)
    (case a5 => k_is)
    (case l5 => k_is)
    (case c5 => k_is)
    (case k5 => k_is)
    (case a6 => k_is)
    (case l6 => k_is)
    (case c6 => k_is)
    (case k6 => k_is)
    (case a7 => k_is)
    (case l7 => k_is)
    (case c7 => k_is)
    (case k7 => k_is)
    (case a8 => k_is)
    (case l8 => k_is)
    (case c8 => k_is)
    (case k8 => k_is)
    (case a9 => k_is)
    (case l9 => k_is)
    (case c9 => k_is)
    (case k9 => k_is)
    (case a10 => k_is)
    (case l10 => k_is)
    (case c10 => k_is)
    (case k10 => k_is)
    (case a11 => k_is)
    (case l11 => k_is)
    (case c11 => k_is)
    (case k11 => k_is)
    (case a12 => k_is)
    (case l12 => k_is)
    (case c12 => k_is)
    (case k12 => k_is)
    (case a13 => k_is)
    (case l13 => k_is)
    (case c13 => k_is)
    (case k13 => k_is)
    (case a14 => k_is)
    (case l14 => k_is)
    (case c14 => k_is)
    (case k14 => k_is)
    (case a15 => k_is)
    (case l15 => k_is)
    (case c15 => k_is)
    (case k15 => k_is)
    (case a16 => k_is)
    (case l16 => k_is)
    (case c16 => k_is)
    (case k16 => k_is)
    (case a17 => k_is)
    (case l17 => k_is)
    (case c17 => k_is)
    (case k17 => k_is)
    (case a18 => k_is)
    (case l18 => k_is)
    (case c18 => k_is)
    (case k18 => k_is)
    (case a19 => k_is)
    (case l19 => k_is)
    (case c19 => k_is)
    (case k19 => k_is)
    (case a20 => k_is)
    (case l20 => k_is)
    (case c20 => k_is)
    (case k20 => k_is)
    (case a21 => k_is)
    (case l21 => k_is)
    (case c21 => k_is)
    (case k21 => k_is)
    (case a22 => k_is)
    (case l22 => k_is)
    (case c22 => k_is)
    (case k22 => k_is)
    (case a23 => k_is)
    (case l23 => k_is)
    (case c23 => k_is)
    (case k23 => k_is)
    (case a24 => k_is)
    (case l24 => k_is)
    (case c24 => k_is)
    (case k24 => k_is)
    (case a25 => k_is)
    (case l25 => k_is)
    (case c25 => k_is)
    (case k25 => k_is)
    (case a26 => k_is)
    (case l26 => k_is)
    (case c26 => k_is)
    (case k26 => k_is)
    (case a27 => k_is)
    (case l27 => k_is)
    (case c27 => k_is)
    (case k27 => k_is)
    (case a28 => k_is)
    (case l28 => k_is)
    (case c28 => k_is)
    (case k28 => k_is)
    (case a29 => k_is)
    (case l29 => k_is)
    (case c29 => k_is)
    (case k29 => k_is)
    (case a30 => k_is)
    (case l30 => k_is)
    (case c30 => k_is)
    (case k30 => k_is)
    (case a31 => k_is)
    (case l31 => k_is)
    (case c31 => k_is)
    (case k31 => k_is)
    (case z0 => k_is)
    (case z1 => k_is)
    (case z2 => k_is)
    (case z3 => k_is)
    (case z4 => k_is)
    (case z5 => k_is)
    (case z6 => k_is)
    (case z7 => k_is)
    (case z8 => k_is)
    (case z9 => k_is)
    (case z10 => k_is)
    (case z11 => k_is)
    (case z12 => k_is)
    (case z13 => k_is)
    (case z14 => k_is)
    (case z15 => k_is)
    (case gg => k_is)
    (case nm12 => k_is)
    (case nm100 => k_is)
    (case nm2 => k_is)
    (case nm9 => k_is)
    (case nm6 => k_is)
    (case nm8 => k_is)
    (case nm20 => k_is)
    (case nm4 => k_is)
    (case gp => k_is)
    (case lp => k_is)
    (case kp => k_keys)
    (case p0 => k_is)
    (case p1 => k_is)
    (case p2 => k_is)
    (case p3 => k_is)
    (case p4 => k_is)
    (case p5 => k_is)
    (case p6 => k_is)
    (case p7 => k_is)
    (case p8 => k_is)
    (case gq => k_is)
    (case lq => k_is)
    (case kq => k_keys)
    (case q0 => k_is)
    (case q1 => k_is)
    (case q2 => k_is)
    (case q3 => k_is)
    (case q4 => k_is)
    (case q5 => k_is)
    (case q6 => k_is)
    (case q7 => k_is)
    (case q8 => k_is)
    (case kd => exact ⟨⟨_, rfl⟩, ⟨_, rfl⟩, ⟨_, rfl⟩, ⟨_, rfl⟩, ⟨_, rfl⟩, ⟨_, rfl⟩, ⟨_, rfl⟩, ⟨_, rfl⟩, ⟨_, rfl⟩, trivial⟩)
    (case sM => rfl)
    (case lc => k_is)
    (case v11 => rfl)
    (case hd => rfl)
    (case nP => rfl)


