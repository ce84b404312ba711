import PyProof.Rows.All
import Wide.All
import OpenK.AllK
import Wide.FinOn
import HandS.ForMost
import HandS.More
import HandS.Wide
import HandS.WideBits
import HandS.SortRule
import HandS.SortInts
import PyProof.StrOps2
import PyProof.Rows.SortShellAny
import HandS.ForExc
import HandS.ExcCtx
import HandS.HotCalls
import HandS.ExcIs
import HandS.Gcd
import HandS.RevRange
import KE.KDictPairs
import HandS.TupSets
import HandS.SetTxt0
import HandS.SetBool
import HandS.Small
import HandS.FStr
import HandS.DictComp
import HandS.Style
import HandS.FStrTup
import PyProof.ReprNest
import PyProof.FitsInt
import HandS.ListEq
import HandS.DeepEq
import PyProof.NeKinds
import KE.DataMinKey
import HandS.Lambda
import HandS.Nested
import HandS.SortKw
import KE.KMathG
import HandS.Words
import HandS.ExcInit
import KE.KExcSuper
import HandS.Hot
import HandS.Iter
import KE.KDictWalk
import PyProof.TupleIter
import HandS.Comp
import HandS.ExcField
import PyProof.Rows.TupIter
import HandS.IsInst
import HandS.Evl
import HandS.Walk
import HandS.Text
import HandS.TryOnly
import HandS.EndTab
import HandS.EndOwn
import PySem.Challenge.RW_measurekind_k09_whole_none_solves
set_option Elab.async false
set_option linter.all false
/-! Measures as lists of pairs: association lists, sums by letter, the one sorted list of a sum. Plain Lean. -/
namespace MK
open PySem

/-! ### association lists -/
section
variable {α : Type}
def lk : List (Str × α) → Str → Option α
  | [], _ => none
  | p :: r, l => if p.1 = l then some p.2 else lk r l
def put : List (Str × α) → Str → α → List (Str × α)
  | [], l, v => [(l, v)]
  | p :: r, l, v => if p.1 = l then (p.1, v) :: r else p :: put r l v
theorem lk_put : ∀ (m : List (Str × α)) (l j : Str) (v : α), lk (put m l v) j = if j = l then some v else lk m j
  | [], l, j, v => by
    by_cases e : l = j
    · simp [put, lk, e]
    · have e' : ¬ j = l := fun z => e z.symm
      simp [put, lk, e, e']
  | p :: r, l, j, v => by
    have ih := lk_put r l j v
    unfold put
    by_cases e : p.1 = l
    · rw [if_pos e]
      by_cases e2 : p.1 = j
      · have : j = l := e2.symm.trans e
        simp [lk, e2, this]
      · have : ¬ j = l := fun z => e2 (e.trans z.symm)
        simp [lk, e2, this]
    · rw [if_neg e]
      by_cases e2 : p.1 = j
      · have : ¬ j = l := fun z => e (e2.trans z)
        simp [lk, e2, this]
      · simp [lk, e2, ih]
theorem put_keys : ∀ (m : List (Str × α)) (l : Str) (v : α), (∀ k, k ∈ (put m l v).map (·.1) ↔ (k = l ∨ k ∈ m.map (·.1)))
  | [], l, v, k => by simp [put]
  | p :: r, l, v, k => by
    have ih := put_keys r l v k
    unfold put
    by_cases e : p.1 = l
    · rw [if_pos e]
      simp only [List.map_cons, List.mem_cons]
      rw [e]
      constructor
      · intro h; rcases h with h | h
        · exact .inl h
        · exact .inr (.inr h)
      · intro h; rcases h with h | h | h
        · exact .inl h
        · exact .inl h
        · exact .inr h
    · rw [if_neg e]
      simp only [List.map_cons, List.mem_cons]
      rw [ih]
      constructor
      · intro h; rcases h with h | h | h
        · exact .inr (.inl h)
        · exact .inl h
        · exact .inr (.inr h)
      · intro h; rcases h with h | h | h
        · exact .inr (.inl h)
        · exact .inl h
        · exact .inr (.inr h)
theorem put_nodup : ∀ {m : List (Str × α)} (l : Str) (v : α), (m.map (·.1)).Nodup → ((put m l v).map (·.1)).Nodup
  | [], l, v, _ => by simp [put]
  | p :: r, l, v, h => by
    have h : (p.1 :: r.map (·.1)).Nodup := h
    obtain ⟨h1, h2⟩ := List.nodup_cons.mp h
    unfold put
    by_cases e : p.1 = l
    · rw [if_pos e]
      exact h
    · rw [if_neg e]
      show (p.1 :: (put r l v).map (·.1)).Nodup
      refine List.nodup_cons.mpr ⟨fun q => ?_, put_nodup l v h2⟩
      rcases (put_keys r l v p.1).mp q with z | z
      · exact e z
      · exact h1 z
theorem put_len : ∀ (m : List (Str × α)) (l : Str) (v : α), (put m l v).length ≤ m.length + 1
  | [], l, v => by simp [put]
  | p :: r, l, v => by
    have ih := put_len r l v
    unfold put
    by_cases e : p.1 = l
    · rw [if_pos e]; simp
    · rw [if_neg e]; simp only [List.length_cons]; omega
theorem put_mem : ∀ {m : List (Str × α)} {l : Str} {v : α} {q : Str × α}, q ∈ put m l v → q = (l, v) ∨ q ∈ m
  | [], l, v, q, h => by
    simp [put] at h
    exact .inl h
  | p :: r, l, v, q, h => by
    unfold put at h
    by_cases e : p.1 = l
    · rw [if_pos e] at h
      rcases List.mem_cons.mp h with z | z
      · exact .inl (by rw [z, e])
      · exact .inr (List.mem_cons_of_mem _ z)
    · rw [if_neg e] at h
      rcases List.mem_cons.mp h with z | z
      · exact .inr (by rw [z]; exact List.mem_cons_self)
      · rcases put_mem z with y | y
        · exact .inl y
        · exact .inr (List.mem_cons_of_mem _ y)
theorem lk_of_mem : ∀ {m : List (Str × α)} {l : Str} {v : α}, (m.map (·.1)).Nodup → (l, v) ∈ m → lk m l = some v
  | p :: r, l, v, h, q => by
    have h : (p.1 :: r.map (·.1)).Nodup := h
    obtain ⟨h1, h2⟩ := List.nodup_cons.mp h
    unfold lk
    rcases List.mem_cons.mp q with z | z
    · rw [← z]
      simp
    · have ne : ¬ p.1 = l := fun e => h1 (by rw [e]; exact List.mem_map.mpr ⟨_, z, rfl⟩)
      rw [if_neg ne]
      exact lk_of_mem h2 z
theorem mem_of_lk : ∀ {m : List (Str × α)} {l : Str} {v : α}, lk m l = some v → (l, v) ∈ m
  | [], l, v, h => by simp [lk] at h
  | p :: r, l, v, h => by
    unfold lk at h
    by_cases e : p.1 = l
    · rw [if_pos e] at h
      have : p.2 = v := Option.some.inj h
      rw [← e, ← this]
      exact List.mem_cons_self
    · rw [if_neg e] at h
      exact List.mem_cons_of_mem _ (mem_of_lk h)
theorem lk_none : ∀ {m : List (Str × α)} {l : Str}, lk m l = none ↔ ¬ l ∈ m.map (·.1)
  | [], l => by simp [lk]
  | p :: r, l => by
    have ih := lk_none (m := r) (l := l)
    unfold lk
    by_cases e : p.1 = l
    · simp [e]
    · rw [if_neg e, ih]
      simp only [List.map_cons, List.mem_cons]
      constructor
      · intro h z
        rcases z with z | z
        · exact e z.symm
        · exact h z
      · exact fun h z => h (.inr z)
end

/-! ### powers by letters -/
abbrev Ms := List (Str × Int)
def at0 (m : Ms) (l : Str) : Int := (lk m l).getD 0
theorem at0_nil (l : Str) : at0 [] l = 0 := rfl
theorem at0_put (m : Ms) (l j : Str) (v : Int) : at0 (put m l v) j = if j = l then v else at0 m j := by
  unfold at0
  rw [lk_put]
  by_cases e : j = l
  · rw [if_pos e, if_pos e]; rfl
  · rw [if_neg e, if_neg e]
/-- the sum of what stands at a letter, however often -/
def sumAt : Ms → Str → Int
  | [], _ => 0
  | p :: r, j => (if p.1 = j then p.2 else 0) + sumAt r j
theorem sumAt_append : ∀ (a b : Ms) (j : Str), sumAt (a ++ b) j = sumAt a j + sumAt b j
  | [], b, j => by simp [sumAt]
  | p :: r, b, j => by
    have ih := sumAt_append r b j
    show (if p.1 = j then p.2 else 0) + sumAt (r ++ b) j = (if p.1 = j then p.2 else 0) + sumAt r j + sumAt b j
    omega
theorem sumAt_one (l : Str) (n : Int) (j : Str) : sumAt [(l, n)] j = if l = j then n else 0 := by
  show (if l = j then n else 0) + 0 = _
  omega
theorem sumAt_no : ∀ {m : Ms} {j : Str}, ¬ j ∈ m.map (·.1) → sumAt m j = 0
  | [], _, _ => rfl
  | p :: r, j, h => by
    have h1 : ¬ p.1 = j := fun e => h (by rw [← e]; exact List.mem_cons_self)
    have h2 : ¬ j ∈ r.map (·.1) := fun e => h (List.mem_cons_of_mem _ e)
    show (if p.1 = j then p.2 else 0) + sumAt r j = 0
    rw [if_neg h1, sumAt_no h2]
    rfl
theorem sumAt_at0 : ∀ {m : Ms} (j : Str), (m.map (·.1)).Nodup → sumAt m j = at0 m j
  | [], _, _ => rfl
  | p :: r, j, h => by
    have h : (p.1 :: r.map (·.1)).Nodup := h
    obtain ⟨h1, h2⟩ := List.nodup_cons.mp h
    show (if p.1 = j then p.2 else 0) + sumAt r j = at0 (p :: r) j
    by_cases e : p.1 = j
    · rw [if_pos e, sumAt_no (by rw [← e]; exact h1)]
      unfold at0 lk
      rw [if_pos e]
      show p.2 + 0 = p.2
      omega
    · rw [if_neg e, sumAt_at0 j h2]
      have q : at0 (p :: r) j = at0 r j := by
        show (if p.1 = j then some p.2 else lk r j).getD 0 = _
        rw [if_neg e]
        rfl
      rw [q]
      omega
def scaled (m : Ms) (n : Int) : Ms := m.map fun p => (p.1, p.2 * n)
theorem sumAt_scaled : ∀ (m : Ms) (n : Int) (j : Str), sumAt (scaled m n) j = sumAt m j * n
  | [], n, j => by show (0 : Int) = 0 * n; omega
  | p :: r, n, j => by
    have ih := sumAt_scaled r n j
    show (if p.1 = j then p.2 * n else 0) + sumAt (scaled r n) j = ((if p.1 = j then p.2 else 0) + sumAt r j) * n
    rw [ih, Int.add_mul]
    by_cases e : p.1 = j
    · rw [if_pos e, if_pos e]
    · rw [if_neg e, if_neg e]; omega
theorem nodup_of_map {β γ : Type} {g : β → γ} {l : List β} (h : (l.map g).Nodup) : l.Nodup := (List.pairwise_map.mp h).imp fun q e => q (congrArg g e)
theorem at0_mem {m : Ms} {j : Str} (h : at0 m j ≠ 0) : (j, at0 m j) ∈ m := by
  unfold at0 at h ⊢
  cases e : lk m j with
  | none => rw [e] at h; exact absurd rfl h
  | some v => exact mem_of_lk e
theorem sumAt_mem {m : Ms} {j : Str} (h : sumAt m j ≠ 0) : j ∈ m.map (·.1) := Decidable.byContradiction fun q => h (sumAt_no q)

/-! ### the order of texts -/
abbrev sLt (a b : Str) : Prop := a.cps.toList < b.cps.toList
theorem sLt_irr (a : Str) : ¬ sLt a a := List.lt_irrefl _
theorem sLt_tr {a b c : Str} (h : sLt a b) (h2 : sLt b c) : sLt a c := List.lt_trans h h2
theorem str_ext {a b : Str} (h : a.cps.toList = b.cps.toList) : a = b := by
  cases a; cases b
  simp at h
  rw [h]
theorem sLt_tri {a b : Str} (h : ¬ sLt a b) (h2 : ¬ sLt b a) : a = b := str_ext (List.le_antisymm (List.not_lt.mp h2) (List.not_lt.mp h))

/-! ### the measures in their one form -/
def Ris (m : List (Str × Int)) : Prop := m.Pairwise fun p q => sLt p.1 q.1
structure Can (m : Ms) : Prop where
  ris : Ris m
  nz : ∀ p ∈ m, p.2 ≠ 0
theorem Ris.nodup {m : Ms} (h : Ris m) : (m.map (·.1)).Nodup := by
  refine List.pairwise_map.mpr (h.imp fun {a b} q => ?_)
  intro e
  rw [e] at q
  exact sLt_irr _ q
theorem ris_ext : ∀ {a b : Ms}, Ris a → Ris b → (∀ p, p ∈ a ↔ p ∈ b) → a = b
  | [], [], _, _, _ => rfl
  | [], p :: r, _, _, h => absurd ((h p).mpr List.mem_cons_self) (by simp)
  | p :: r, [], _, _, h => absurd ((h p).mp List.mem_cons_self) (by simp)
  | p :: r, q :: t, ha, hb, h => by
    obtain ⟨a1, a2⟩ := List.pairwise_cons.mp ha
    obtain ⟨b1, b2⟩ := List.pairwise_cons.mp hb
    have e : p = q := by
      rcases List.mem_cons.mp ((h p).mp List.mem_cons_self) with z | z
      · exact z
      · rcases List.mem_cons.mp ((h q).mpr List.mem_cons_self) with y | y
        · exact y.symm
        · exact absurd (sLt_tr (b1 p z) (a1 q y)) (sLt_irr _)
    subst e
    refine congrArg (p :: ·) (ris_ext a2 b2 fun x => ?_)
    constructor
    · intro hx
      rcases List.mem_cons.mp ((h x).mp (List.mem_cons_of_mem _ hx)) with z | z
      · exact absurd (z ▸ a1 x hx) (sLt_irr _)
      · exact z
    · intro hx
      rcases List.mem_cons.mp ((h x).mpr (List.mem_cons_of_mem _ hx)) with z | z
      · exact absurd (z ▸ b1 x hx) (sLt_irr _)
      · exact z
theorem Can.mem {m : Ms} (h : Can m) (l : Str) (n : Int) : (l, n) ∈ m ↔ n ≠ 0 ∧ at0 m l = n := by
  constructor
  · intro q
    refine ⟨h.nz _ q, ?_⟩
    unfold at0
    rw [lk_of_mem h.ris.nodup q]
    rfl
  · rintro ⟨a, b⟩
    rw [← b]
    exact at0_mem (by rw [b]; exact a)
theorem can_ext {a b : Ms} (ha : Can a) (hb : Can b) (h : ∀ j, at0 a j = at0 b j) : a = b :=
  ris_ext ha.ris hb.ris fun p => by
    rw [show p = (p.1, p.2) from rfl, ha.mem, hb.mem, h]
/-- what the program makes of a dict: its pairs that are not nought, in their order -/
theorem made_prog {d r : Ms} (hd : (d.map (·.1)).Nodup) (hr : Ris r) (hp : ∀ p, p ∈ r ↔ p ∈ d ∧ p.2 ≠ 0) : Can r ∧ ∀ j, at0 r j = at0 d j := by
  have hc : Can r := ⟨hr, fun p q => ((hp p).mp q).2⟩
  refine ⟨hc, fun j => ?_⟩
  by_cases e : at0 d j = 0
  · rw [e]
    refine Decidable.byContradiction fun z => ?_
    have q := (hp _).mp (at0_mem z)
    have q2 : at0 d j = at0 r j := by
      show (lk d j).getD 0 = _
      rw [lk_of_mem hd q.1]
      rfl
    rw [e] at q2
    exact z q2.symm
  · have q := (hp (j, at0 d j)).mpr ⟨at0_mem e, e⟩
    exact ((hc.mem j _).mp q).2
theorem can_nil : Can [] := ⟨List.Pairwise.nil, fun _ h => absurd h (by simp)⟩
/-- the law's reckoning of the same: sorted letters, then their numbers -/
def byKeys (d : Ms) (ks : List Str) : Ms := (ks.filter fun k => decide (at0 d k ≠ 0)).map fun k => (k, at0 d k)
theorem made_law {d : Ms} {ks : List Str} (hd : (d.map (·.1)).Nodup) (hk : ks.Perm (d.map (·.1))) (hs : ks.Pairwise fun a b => ¬ sLt b a) : Can (byKeys d ks) ∧ ∀ j, at0 (byKeys d ks) j = at0 d j := by
  have hn : ks.Nodup := hk.nodup_iff.mpr hd
  have hst : ks.Pairwise sLt := by
    refine (hs.and hn).imp ?_
    rintro a b ⟨h1, h2⟩
    refine Decidable.byContradiction fun h3 => h2 (sLt_tri h3 h1)
  refine made_prog hd ?_ fun p => ?_
  · unfold byKeys
    exact List.pairwise_map.mpr (hst.filter _)
  · unfold byKeys
    rw [List.mem_map]
    constructor
    · rintro ⟨k, q, e⟩
      obtain ⟨q1, q2⟩ := List.mem_filter.mp q
      have q3 : at0 d k ≠ 0 := of_decide_eq_true q2
      rw [← e]
      exact ⟨at0_mem q3, q3⟩
    · rintro ⟨a, b⟩
      have e : at0 d p.1 = p.2 := by
        show (lk d p.1).getD 0 = _
        rw [lk_of_mem hd a]
        rfl
      refine ⟨p.1, List.mem_filter.mpr ⟨hk.mem_iff.mpr (List.mem_map.mpr ⟨p, a, rfl⟩), decide_eq_true (by rw [e]; exact b)⟩, by rw [e]⟩

/-! ### bounds, letters -/
/-- a text of signs that there are -/
def Ok (z : Str) : Prop := ∀ c ∈ z.cps.toList, c < 1114112
/-- .. and not empty -/
def LtOk (z : Str) : Prop := z.cps.toList ≠ [] ∧ Ok z
theorem ok_app {a b : Str} (ha : Ok a) (hb : Ok b) : Ok (a ++ b) := fun c hc => by
  have hc : c ∈ (a.cps ++ b.cps).toList := hc
  rw [Array.toList_append] at hc
  rcases List.mem_append.mp hc with h | h
  · exact ha c h
  · exact hb c h
theorem ok_one {c : Nat} (h : c < 1114112) : Ok ⟨#[c]⟩ := fun x hx => by
  have : x = c := by simpa using hx
  rw [this]
  exact h
theorem ok_string (s : String) : Ok (Str.ofString s) := fun c hc => by
  rw [Str.ofString_eq_toList] at hc
  have hc : c ∈ s.toList.map Char.toNat := by simpa using hc
  obtain ⟨d, _, e⟩ := List.mem_map.mp hc
  have v : d.val.toNat < 0xd800 ∨ (0xdfff < d.val.toNat ∧ d.val.toNat < 0x110000) := d.valid
  have e2 : d.val.toNat = c := e
  omega
theorem ok_fold (c : Array Nat) (hc : ∀ x ∈ c.toList, x < 1114112) : ∀ (k : Nat) (acc : Array Nat), (∀ x ∈ acc.toList, x < 1114112) → ∀ x ∈ ((List.replicate k c).foldl (· ++ ·) acc).toList, x < 1114112
  | 0, acc, h => h
  | k + 1, acc, h => by
    rw [List.replicate_succ, List.foldl_cons]
    refine ok_fold c hc k _ fun x hx => ?_
    rw [Array.toList_append] at hx
    rcases List.mem_append.mp hx with q | q
    · exact h x q
    · exact hc x q
/-- a measure as the law hands it over: in its form, letters that are not empty, numbers below 2 ^ b -/
structure Good (b : Nat) (m : Ms) : Prop where
  can : Can m
  ne : ∀ p ∈ m, LtOk p.1
  lt : ∀ p ∈ m, p.2.natAbs < 2 ^ b
  few : m.length ≤ 1000
theorem Good.at0_lt {b : Nat} {m : Ms} (h : Good b m) (j : Str) : (at0 m j).natAbs < 2 ^ b := by
  by_cases e : at0 m j = 0
  · rw [e]; exact Nat.two_pow_pos b
  · exact h.lt _ (at0_mem e)
theorem good_nil (b : Nat) : Good b [] := ⟨can_nil, fun _ h => absurd h (by simp), fun _ h => absurd h (by simp), by simp⟩
theorem nil_lt {a : Str} (h : a.cps.toList ≠ []) : sLt ⟨#[]⟩ a := by
  show ([] : List Nat) < a.cps.toList
  cases e : a.cps.toList with
  | nil => exact absurd e h
  | cons x r => exact List.nil_lt_cons x r
end MK


set_option Elab.async false
set_option linter.all false
set_option maxRecDepth 100000
set_option maxHeartbeats 4000000
/-! Rules that the layer has not: a text times a number; sorted of texts and of pairs (text, number), any number of them. -/
namespace SrtO
open PySem PyProof.Rows Srt
section
variable {prog : Program} {w : World} {A : Around} {E : Value → Shared → Prop} {s : Shared}
def lexS (p q : PySem.Str × Int) : Bool := if p.1 = q.1 then decide (p.2 < q.2) else decide (p.1.cps.toList < q.1.cps.toList)
theorem lexS_no {p q : PySem.Str × Int} : lexS p q = false ↔ ¬ (MK.sLt p.1 q.1 ∨ (p.1 = q.1 ∧ p.2 < q.2)) := by
  unfold lexS
  by_cases e : p.1 = q.1
  · rw [if_pos e]
    constructor
    · intro h z
      rcases z with z | z
      · rw [e] at z; exact MK.sLt_irr _ z
      · exact of_decide_eq_false h z.2
    · intro h
      exact decide_eq_false fun z => h (.inr ⟨e, z⟩)
  · rw [if_neg e]
    constructor
    · intro h z
      rcases z with z | z
      · exact of_decide_eq_false h z
      · exact e z.1
    · intro h
      exact decide_eq_false fun z => h (.inl z)
theorem lexS_yes {p q : PySem.Str × Int} : lexS p q = true ↔ (MK.sLt p.1 q.1 ∨ (p.1 = q.1 ∧ p.2 < q.2)) := by
  constructor
  · intro h
    refine Decidable.byContradiction fun z => ?_
    rw [lexS_no.mpr z] at h
    cases h
  · intro h
    cases e : lexS p q with
    | true => rfl
    | false => exact absurd h (lexS_no.mp e)
theorem swo_lexS : Swo lexS := by
  refine ⟨fun x y h => ?_, fun x y z h1 h2 => ?_⟩
  · have a := lexS_yes.mp h
    refine lexS_no.mpr fun b => ?_
    rcases a with a | a
    · rcases b with b | b
      · exact MK.sLt_irr _ (MK.sLt_tr a b)
      · rw [b.1] at a; exact MK.sLt_irr _ a
    · rcases b with b | b
      · rw [a.1] at b; exact MK.sLt_irr _ b
      · have := a.2; have := b.2; omega
  · have a := lexS_no.mp h1
    have b := lexS_no.mp h2
    refine lexS_no.mpr fun c => ?_
    have tri : MK.sLt x.1 y.1 ∨ x.1 = y.1 := by
      by_cases h : MK.sLt x.1 y.1
      · exact .inl h
      · exact .inr (MK.sLt_tri h fun q => a (.inl q))
    rcases tri with t | t
    · rcases c with c | c
      · exact b (.inl (MK.sLt_tr c t))
      · rw [← c.1] at t; exact b (.inl t)
    · rcases c with c | c
      · rw [t] at c; exact b (.inl c)
      · have h3 : ¬ y.2 < x.2 := fun q => a (.inr ⟨t.symm, q⟩)
        have h4 : ¬ z.2 < y.2 := fun q => b (.inr ⟨c.1.trans t, q⟩)
        have := c.2
        omega
theorem swo_lexSk (k : Value → PySem.Str × Int) : Swo fun v u => lexS (k v) (k u) := ⟨fun x y => swo_lexS.asym _ _, fun x y z => swo_lexS.tr _ _ _⟩
/-- a tuple (text, number) -/
def IsSP (h : Heap) (v : Value) (x : PySem.Str) (y : Int) : Prop := ∃ a o t u n, v = .ref a ∧ h.get? a = some o ∧ o.cls = .type "tuple" ∧ o.data = .seq #[.str x t, .int y u] n
theorem IsSP.keeps {h h' : Heap} {v : Value} {x : PySem.Str} {y : Int} (p : IsSP h v x y) (k : ∀ b o, h.get? b = some o → o.cls = .type "tuple" → h'.get? b = some o) : IsSP h' v x y := by
  obtain ⟨a, o, t, u, n, e, ho, hc, hd⟩ := p
  exact ⟨a, o, t, u, n, e, k _ _ ho hc, hc, hd⟩
theorem firstsS_of {h : Heap} : ∀ {vs : List Value}, (∀ v ∈ vs, ∃ x y, IsSP h v x y) → ∃ fs : List Value, PySem.W.KatTups h vs fs ∧ fs.length = vs.length ∧ ∀ f ∈ fs, ∃ x t, f = Value.str x t
  | [], _ => ⟨[], PySem.W.KatTups.nil, rfl, fun _ hm => by simp at hm⟩
  | v :: vs, hp => by
    obtain ⟨fs, h1, h2, h3⟩ := firstsS_of (vs := vs) fun v' hm => hp v' (List.mem_cons_of_mem _ hm)
    obtain ⟨x, y, a, o, t, u, n, e, ho, hc, hd⟩ := hp v (List.mem_cons_self ..)
    subst e
    refine ⟨.str x t :: fs, PySem.W.KatTups.cons ho hc hd rfl h1, by rw [List.length_cons, List.length_cons, h2], fun f hm => ?_⟩
    rcases List.mem_cons.mp hm with rfl | hm
    · exact ⟨x, t, rfl⟩
    · exact h3 f hm
theorem pairS_cmp {vs : List Value} {k : Value → PySem.Str × Int} (hp : ∀ v ∈ vs, IsSP s.heap v (k v).1 (k v).2) : Cmp prog w A s (tuples' true) (fun p => p.1 ∈ vs) (lt2 fun v u => lexS (k v) (k u)) := by
  intro p q hm hm'
  have h1 := hp _ hm
  have h2 := hp _ hm'
  show wpAny (model prog w) A (keyLt' (tuples' true) p.1 q.1) (fun r s' => s' = s ∧ r = lexS (k p.1) (k q.1)) (fun _ _ => False) s
  unfold lexS
  generalize (k p.1).1 = x at h1 ⊢
  generalize (k p.1).2 = y at h1 ⊢
  generalize (k q.1).1 = x' at h2 ⊢
  generalize (k q.1).2 = y' at h2 ⊢
  obtain ⟨a, o, t, u, n, e, ho, hc, hd⟩ := h1
  obtain ⟨a', o', t', u', n', e', ho', hc', hd'⟩ := h2
  rw [e, e']
  refine PySem.W.kat_lt ho hd ho' hd' ?_
  show PySem.W.KatLex prog w A true (decide (2 < 2)) _ [(.str x t, .str x' t'), (.int y u, .int y' u')] 0 s
  refine PySem.W.kat_cons (SeqAt.EqAt.str_str x t x' t' prog w _ _ ?_)
  refine PySem.W.kat_go (fun e1 => ?_) (fun e1 => ?_)
  · have ex : x = x' := by simpa using e1
    refine PySem.W.kat_yes (PySem.W.kat_cons (SeqAt.EqAt.int_int y u y' u' prog w _ _ ?_))
    refine PySem.W.kat_go (fun e2 => ?_) (fun e2 => ?_)
    · have ey : y = y' := by simpa using e2
      have e3 : (if x = x' then decide (y < y') else decide (x.cps.toList < x'.cps.toList)) = false := by
        rw [if_pos ex, ey]
        exact decide_eq_false (Int.lt_irrefl _)
      exact PySem.W.kat_yes (PySem.W.kat_nil ⟨rfl, e3.symm⟩)
    · have e3 : (if x = x' then decide (y < y') else decide (x.cps.toList < x'.cps.toList)) = decide (y < y') := if_pos ex
      refine PySem.W.kat_no (PySem.W.kat_one _ _ (PyProof.Rows.lt_int ?_))
      exact (show s = s ∧ decide (y < y') = (if x = x' then decide (y < y') else decide (x.cps.toList < x'.cps.toList)) from ⟨rfl, e3.symm⟩)
  · have ex : ¬ x = x' := by simpa using e1
    have e3 : (if x = x' then decide (y < y') else decide (x.cps.toList < x'.cps.toList)) = decide (x.cps.toList < x'.cps.toList) := if_neg ex
    exact PySem.W.kat_no (oneLt_str ⟨rfl, e3.symm⟩)
theorem pairsS_sortableO {a : Addr} {vs : List Value} {k : Value → PySem.Str × Int} (h0 : 0 < vs.length) (hp : ∀ v ∈ vs, IsSP s.heap v (k v).1 (k v).2) (ha : ∀ o, s.heap.get? a = some o → o.cls ≠ .type "tuple") : SortableO prog w A s a vs fun v u => lexS (k v) (k u) := by
  intro h' keep
  have hp' : ∀ v ∈ vs, IsSP h' v (k v).1 (k v).2 := fun v hm => (hp v hm).keeps fun b o e c => keep b o (fun z => by subst z; exact ha o e c) e
  obtain ⟨fs, h1, h2, h3⟩ := firstsS_of fun v hm => ⟨_, _, hp' v hm⟩
  refine ⟨tuples' true, fun Q E hq => ?_, pairS_cmp hp'⟩
  refine PySem.W.kat_kind (T := .type "str") h1 (by omega) (fun f hm => ?_) (by rfl) ?_
  · obtain ⟨x, t, rfl⟩ := h3 f hm
    exact PySem.W.Looks.now
  · have e : (Value.type "str" != Value.type "tuple") = true := by first | decide +kernel | rfl | decide
    rw [e]
    exact hq
/-- sorted(l) of pairs (text, number), any number of them: sorted by k, stable -/
theorem sorted_pairsS {l : Addr} {vs : List Value} {k : Value → PySem.Str × Int} {Q : Value → Shared → Prop} (hl : s.heap.IsList l vs.toArray) (hz : vs.length ≤ sizeLine) (hp : ∀ v ∈ vs, IsSP s.heap v (k v).1 (k v).2)
    (h : ∀ (h' : Heap) (d : Addr) (out : List Value), Srtd (fun v u => lexS (k v) (k u)) out → Stb (fun v u => lexS (k v) (k u)) out vs → (∀ b o, s.heap.get? b = some o → h'.get? b = some o) → s.heap.objs.size ≤ d → (∃ n, h'.get? d = some (seqObj "list" out.toArray n)) → Q (.ref d) { s with heap := h' }) :
    wpAny (model prog w) A (call (.builtin "sorted") [.ref l]) Q E s := by
  refine sorted_ord (swo_lexSk k) hl hz (fun h2 h₁ a ha kk => ?_) fun out hs hb => ?_
  · refine pairsS_sortableO (s := { s with heap := h₁ }) (by omega) (fun v hm => (hp v hm).keeps fun b o e _ => (kk b o e).2) fun o e => ?_
    have e' : some o = some (seqObj "list" vs.toArray 0) := e.symm.trans ha
    cases e'
    intro c
    exact absurd (Value.type.inj c) (by decide)
  · exact h _ _ out hs hb (fun b o e => sortedAll_old e) (Nat.le_succ _) (sortedAll_at s.heap vs out.toArray)
end
end SrtO

namespace L2
open PySem PySem.Spec PyProof.Rows
/-- sorted(xs), xs a list of pairs (text, number), texts that differ: a new list of the same items, their texts rising -/
def rSortedSP (K : PySem.W.Frag) : List V → Hp → VK → Prop := fun vs H Q => ∃ (a : Addr) (xs : List V) (k : V → Str × Int), vs = [V.ref a] ∧ SqL K H a xs ∧ (∀ x ∈ xs, ∃ t, x = V.ref t ∧ H t = some (.tup [.str (k x).1, .int (k x).2])) ∧
  ∀ ys p, ys.Perm xs → ys.Pairwise (fun x y => SrtO.lexS (k y) (k x) = false) → H p = none → Q (.ref p) (upd H p (.lst ys))
section
variable {X : Cx}
theorem cr_sortedSP : CallR X (.builtin "sorted") (rSortedSP X.K) := by
  intro pins s σ H vs us Q I r h
  obtain ⟨a, xs, k, rfl, hs, hx, q⟩ := h
  obtain ⟨its, rv, hl, hz⟩ := I.list hs
  obtain ⟨u, rfl, ru⟩ := vals1 r
  obtain rfl : u = Value.ref a := ru
  obtain ⟨e1, e2⟩ := refs_back rv fun x m => by
    obtain ⟨t, e, _⟩ := hx x m
    exact ⟨t, e⟩
  refine SrtO.sorted_pairsS (k := fun u => k (backV u)) hl.isList (by rw [← rv.length]; exact hz) (fun v hv => ?_) fun h' d out h1 h2 kp hd hn => ?_
  · obtain ⟨t, rfl⟩ := e2 v hv
    have hm : V.ref t ∈ xs := by rw [e1]; exact List.mem_map.mpr ⟨_, hv, rfl⟩
    obtain ⟨t', e, ht⟩ := hx _ hm
    cases e
    obtain ⟨_, its2, r2, o, ho, hc, n, hd⟩ := I.hok _ _ ht
    obtain ⟨u1, u2, rfl, ri, rj⟩ := vals2 r2
    obtain ⟨t1, rfl⟩ := ri
    obtain ⟨t2, rfl⟩ := rj
    exact ⟨t, o, t1, t2, n, rfl, ho, hc, hd⟩
  · have h3 : ∀ u ∈ out, ∃ a, u = Value.ref a := fun u hu => e2 u (h2.perm.mem_iff.mp hu)
    obtain ⟨n, hn⟩ := hn
    have hb : (out.map backV).Perm xs := by
      rw [e1]
      exact h2.perm.map backV
    refine ⟨.ref d, upd H d (.lst (out.map backV)), I.laid (t' := s.toks) kp hd ⟨?_, out, n, vals_back h3, hn⟩, rfl, q _ d hb (List.pairwise_map.mpr h1) (I.hok.fresh hd)⟩
    rw [hb.length_eq]
    exact hz
/-- sorted(d), d a dict whose keys are texts, any number of them -/
theorem call_sortedDA (hcalm : X.calm = true) : CallR X (.builtin "sorted") (fun xs H Q => ∃ (a : Addr) (kvs : List (Key × V)) (ks : List Str), xs = [.ref a] ∧ Rd H a (.dK kvs) ∧ kvs.map (·.1) = ks.map Sum.inr ∧
    ∀ ys p, ys.Perm ks → sortedS ys = true → H p = none → Q (.ref p) (upd H p (.lst (ys.map V.str)))) := by
  intro pins s σ H xs us Q I r q
  obtain ⟨a, kvs, ks, ex, hd, hks, q⟩ := q
  subst ex
  obtain ⟨u, eu, rx⟩ := vals1 r
  subst eu
  cases rx
  obtain ⟨z, lo, vs, rel, dd⟩ := dk_rd I.hok hd
  obtain ⟨ep, hat⟩ := dd.dictAt
  have hkeys : vs.map (·.1) = ks.map Sum.inr := rel.keys.symm.trans hks
  have hl : vs.length = ks.length := by
    have e := congrArg List.length hkeys
    rw [List.length_map, List.length_map] at e
    exact e
  have h16 : vs.length ≤ sizeLine := by rw [← rel.length]; exact z
  have hks16 : ks.length ≤ sizeLine := by rw [← hl]; exact h16
  refine Calls.call_function_entry PyProof.Rows.kind_sorted PyProof.Rows.plain_sorted PyProof.Rows.entry_sorted (PyProof.Rows.args_sorted1 _) ?_
  unfold Builtin.«sorted»
  refine wpAny_bind (m := checkCount "sorted" 1 1 _) (wpAny_pure ?_)
  refine wpAny_bind (PySem.W.kdu_collect (A := X.A.in1) (PySem.W.kdl_dict (knd := mixKind X.prog X.w) (kvs := vs) (ep := ep) lo) (I.ok.hd hcalm) hat h16 fun h' tk acc hk hacc => ?_)
  have hal : acc.toList.length = ks.length := by rw [Array.length_toList, hacc.1, hl]
  have hS : StrsAre acc.toList ks := strs_at hal fun j v e => by
    obtain ⟨k, x, e1, e2⟩ := hacc.2 j v (by rw [← Array.getElem?_toList]; exact e)
    have e3 : (vs.map (·.1))[j]? = some k := by rw [List.getElem?_map, e1]; all_goals rfl
    rw [hkeys, List.getElem?_map] at e3
    cases e4 : ks[j]? with
    | none => rw [e4] at e3; cases e3
    | some y =>
      rw [e4] at e3
      have e5 : Sum.inr y = k := Option.some.inj e3
      subst e5
      obtain ⟨t, ev⟩ := Value.isStrOf_shape (x := y) (v := v) e2
      exact ⟨y, t, rfl, ev⟩
  have I1 : Inv X pins σ H { s with heap := h', toks := tk } := I.kept hk
  refine wpAny_bind (wpAny_newList ?_ (by rw [hal]; exact hks16))
  have hoL : (h'.push (seqObj "list" acc.toList.toArray 0)).get? h'.objs.size = some (seqObj "list" acc.toList.toArray 0) := Heap.get?_push_size _ rfl
  show wpAny _ _ _ _ _ { s with heap := h'.push (seqObj "list" acc.toList.toArray 0), toks := tk }
  refine wpAny_bind (wpAny_holding (wpAny_call_entry PyProof.Rows.slot_list_sort ⟨_, hoL, rfl⟩ PyProof.Rows.entry_list_sort
    (list_sort_treeKAny strKind_oneLt (s := { s with heap := h'.push (seqObj "list" acc.toList.toArray 0), toks := tk }) hoL hS.keysOf (fun v₁ v₂ rest e => keyKind_strs (by rw [← e]; exact hS)) (by rw [hal]; exact hks16) fun st' hp hs => ⟨_, rfl, ?_⟩)
    (PyProof.Rows.args_list_sort _)))
  obtain ⟨ys, g1, g2, g3⟩ := sorted_out_str hS hp hs
  obtain ⟨e', he'⟩ := PyProof.Rows.sortedHeap_at (vs := acc.toList) (out := (arrOf st').map (·.2)) hoL
  have hlen : (ys.map V.str).length ≤ sizeLine := by
    rw [List.length_map, g2.length_eq]
    exact hks16
  refine wpAny_pure ⟨_, rfl, .ref h'.objs.size, upd H h'.objs.size (.lst (ys.map V.str)), I1.laid (t' := tk) (fun b u e => ?_) (Nat.le_refl _)
    (show ObjOk X.prog X.w _ _ _ (.lst (ys.map V.str)) from ⟨hlen, ((arrOf st').map (·.2)).toList, e', vals_of_strs g1, by rw [Array.toArray_toList]; exact he'⟩), rfl, q ys _ g2 g3 (I1.hok.fresh (Nat.le_refl _))⟩
  have hb : b < h'.objs.size := Heap.lt_size e
  rw [PyProof.Rows.sortedHeap_old (Nat.ne_of_lt hb) (by rw [size_push']; exact Nat.lt_succ_of_lt hb)]
  exact Heap.get?_push_of_some _ e
/-- a text, n times -/
def strRep (x : Str) (n : Int) : Str := if n < 1 then Str.empty else if (n == 1 || x.length == 0) = true then x else ⟨(List.replicate n.toNat x.cps).foldl (· ++ ·) #[]⟩
theorem op_mul_str : OpR X (binaryOp .Mult) (fun x y H Q => ∃ (z : Str) (n : Int), x = .str z ∧ y = .int n ∧ (z.length ≤ 1000 ∧ n ≤ 1000 ∧ -1000 ≤ n) ∧ Q (.str (strRep z n)) H) := by
  intro pins s σ H x y v u Q I rx ry h
  obtain ⟨z, n, rfl, rfl, ⟨hz, h1, h2⟩, q⟩ := h
  obtain ⟨t, rfl⟩ := rx
  obtain ⟨t', rfl⟩ := ry
  have hm : ¬ n < 1 → z.length * n.toNat ≤ 1000 * 1000 := fun h => Nat.mul_le_mul hz (by omega)
  have hl : ¬ n < 1 → (n == 1 || z.length == 0) = false → Builtin.Str.tooLong (z.length * n.toNat) = false := fun h _ => by
    have := hm h
    show decide (z.length * n.toNat > sizeLine) = false
    rw [sizeLine_eq]
    exact decide_eq_false (by omega)
  refine P.mul_str ?_ (fun h _ => ?_) hl ?_
  · rw [decide_eq_false (by omega), decide_eq_false (by omega)]
    rfl
  · have e : (1 : Int) ≤ n := by omega
    have h3 : (1000 : Int) ≤ (2 ^ 63 - 1) / n := (Int.le_ediv_iff_mul_le (by omega)).mpr (by omega)
    omega
  · unfold strRep at q
    by_cases c : n < 1
    · rw [if_pos c] at q ⊢
      exact ⟨by decide, .str Str.empty, H, I.tok _, ⟨_, rfl⟩, q⟩
    · rw [if_neg c] at q ⊢
      by_cases d : (n == 1 || z.length == 0) = true
      · rw [if_pos d] at q ⊢
        exact ⟨.str z, H, I, ⟨_, rfl⟩, q⟩
      · rw [if_neg d] at q ⊢
        exact ⟨fits_reps (hl c (by simpa using d)), .str _, H, I.tok _, ⟨_, rfl⟩, q⟩
end
theorem sLe_tr {a b c : Str} (h : ¬ MK.sLt b a) (h2 : ¬ MK.sLt c b) : ¬ MK.sLt c a := fun q => by
  by_cases e : MK.sLt b c
  · exact h (MK.sLt_tr e q)
  · rw [MK.sLt_tri e h2] at h
    exact h q
theorem risingS_all : ∀ {r : List Str} {p : Str}, risingS p r = true → (∀ x ∈ r, ¬ MK.sLt x p) ∧ r.Pairwise fun a b => ¬ MK.sLt b a
  | [], p, _ => ⟨fun x h => absurd h (by simp), List.Pairwise.nil⟩
  | x :: r, p, h => by
    have h : (!ltCps x.cps.toList p.cps.toList && risingS x r) = true := h
    rw [Bool.and_eq_true] at h
    obtain ⟨h1, h2⟩ := h
    have h3 : ¬ MK.sLt x p := by
      rw [ltCps_eq] at h1
      simpa using h1
    obtain ⟨i1, i2⟩ := risingS_all h2
    refine ⟨fun y hy => ?_, List.pairwise_cons.mpr ⟨fun y hy => i1 y hy, i2⟩⟩
    rcases List.mem_cons.mp hy with e | hy
    · rw [e]; exact h3
    · exact sLe_tr h3 (i1 y hy)
theorem sortedS_pw : ∀ {ys : List Str}, sortedS ys = true → ys.Pairwise fun a b => ¬ MK.sLt b a
  | [], _ => List.Pairwise.nil
  | x :: r, h => by
    obtain ⟨i1, i2⟩ := risingS_all (p := x) (r := r) h
    exact List.pairwise_cons.mpr ⟨i1, i2⟩
/-- [.. for k, v in d.items() ..], d locked: by a word of the turn's number and the heap -/
theorem lc_items {d : Addr} {od : Obj} {kvs : List (Key × V)} {g : TG} {tt : TT} {te : TE} {vs : List Nat} {σ : L2.St} {H1 : Hp} {D : Addr} {Qd : Hp → Prop} (Pv : Nat → Hp → Prop) (h0 : Pv 0 (upd H1 D (.lst [])))
    (hl : ∀ i H, i ≤ kvs.length → Pv i H → H d = some (.frz od (.dK kvs)))
    (hs : ∀ i k v T H, kvs[i]? = some (k, v) → Pv i H → H T = none → g (.ref T) (wipe σ vs) (upd H T (.tup [kV k, v])) fun σ2 H2 => wipe σ2 vs = wipe σ vs ∧ tt σ2 H2 fun b H3 =>
      if b = true then te σ2 H3 fun y H4 => ∃ acc, H4 D = some (.lst acc) ∧ acc.length < sizeLine ∧ Pv (i + 1) (upd H4 D (.lst (acc ++ [y]))) else Pv (i + 1) H3)
    (hd : ∀ H, Pv kvs.length H → Qd H) :
    ∃ W : Nat → Nat → Hp → Prop, (∃ m, W 0 m (upd H1 D (.lst []))) ∧ ∀ i m H, W i m H →
      ((Iti d od kvs).stop i H ∧ Qd H) ∨ ((Iti d od kvs).go i H ∧ ∃ Nx : Hp → Prop, (∀ H', Nx H' → ∃ m', m' < m ∧ W (i + 1) m' H') ∧ ∀ x H', (Iti d od kvs).yld i H x H' → g x (wipe σ vs) H' fun σ2 H2 => wipe σ2 vs = wipe σ vs ∧ tt σ2 H2 fun b H3 =>
        if b = true then te σ2 H3 fun y H4 => ∃ acc, H4 D = some (.lst acc) ∧ acc.length < sizeLine ∧ Nx (upd H4 D (.lst (acc ++ [y]))) else Nx H3) := by
  refine ⟨fun i m H => m = kvs.length - i ∧ i ≤ kvs.length ∧ Pv i H, ⟨kvs.length, by simp, Nat.zero_le _, h0⟩, ?_⟩
  intro i m H ⟨e, hi, p⟩
  have q := hl i H hi p
  by_cases hlt : i < kvs.length
  · refine .inr ⟨⟨q, hlt⟩, Pv (i + 1), fun H' p' => ⟨kvs.length - (i + 1), by omega, rfl, hlt, p'⟩, fun x H' y => ?_⟩
    obtain ⟨T, k, v, hk, ex, hT, eH⟩ := y
    rw [ex, eH]
    exact hs i k v T H hk p hT
  · have e2 : i = kvs.length := by omega
    rw [e2] at p
    exact .inl ⟨⟨q, by omega⟩, hd H p⟩
/-- two dicts of the same pairs, their values the very same objects -/
theorem hits_refs {A : Around} {s : Shared} {ls : List (Key × V)} {vb : List (Key × Value)} (rb : KV ls vb) {ks : List (Key × V)} {va : List (Key × Value)} (ra : KV ks va) : (∀ p ∈ ks, ∃ c, p.2 = .ref c ∧ valV ls p.1 = some (.ref c)) → PySem.W.KeqHits A s vb va true := by
  unfold KV at ra
  induction ra with
  | nil => exact fun _ => .nil
  | @cons p q ps qs h t k =>
    intro hp
    obtain ⟨h1, h2⟩ := h
    obtain ⟨c, ec, e⟩ := hp p List.mem_cons_self
    have rr : RelO (some (.ref c)) (valueAt vb p.1) := by
      rw [← e]
      exact rb.val p.1
    obtain ⟨y, hy, ry⟩ := rr.some_of
    obtain ⟨key, v⟩ := q
    have h1' : p.1 = key := h1
    rw [h1'] at hy
    rw [ec] at h2
    have e1 : v = Value.ref c := h2
    have e2 : y = Value.ref c := ry
    subst e1
    subst e2
    show PySem.W.KeqHits A s vb ((key, Value.ref c) :: qs) (true && true)
    exact .hit hy (SeqAt.EqAt.same _) (k fun p' hm => hp p' (List.mem_cons_of_mem _ hm))
theorem op_ne_dictRef {X : Cx} (hu : X.A.units < cLine) : OpR X (compareOp .NotEq) (fun x y H Q => ∃ a b ks, x = .ref a ∧ y = .ref b ∧ H a = some (.dK ks) ∧ H b = some (.dK ks) ∧ (∀ p ∈ ks, ∃ c, p.2 = .ref c ∧ valV ks p.1 = some (.ref c)) ∧ Q (.bl false) H) := by
  intro pins s σ H x y v u Q I rx ry h
  obtain ⟨a, b, ks, rfl, rfl, ea, eb, hp, q⟩ := h
  obtain rfl : v = Value.ref a := rx
  obtain rfl : u = Value.ref b := ry
  obtain ⟨_, ya, va, ra, da⟩ := (show ObjOk X.prog X.w H s.heap a (.dK ks) from I.hok a _ ea)
  obtain ⟨_, yb, vb, rb, db⟩ := (show ObjOk X.prog X.w H s.heap b (.dK ks) from I.hok b _ eb)
  have hl : va.length = vb.length := by rw [← ra.length, ← rb.length]
  refine PySem.W.keq_ne (knd := mixKind X.prog X.w) (r := true) ya yb da db hu (fun _ => hits_refs rb ra hp) ?_
  rw [show (!(va.length == vb.length && true)) = false by simp [hl]]
  exact ⟨.bl false, H, I, rfl, q⟩
end L2


set_option Elab.async false
set_option linter.all false
set_option maxRecDepth 100000
set_option maxHeartbeats 4000000
namespace MK
open PySem PySem.Spec PyProof.Rows L2
/-! ### measures and dicts as they stand in memory -/
/-- a dict whose keys are texts -/
def encG {α : Type} (g : α → V) (m : List (Str × α)) : List (L2.Key × V) := m.map fun p => (Sum.inr p.1, g p.2)
abbrev enc (m : Ms) : List (L2.Key × V) := encG V.int m
theorem encG_val {α : Type} (g : α → V) : ∀ (m : List (Str × α)) (l : Str), valV (encG g m) (Sum.inr l : L2.Key) = (lk m l).map g
  | [], l => rfl
  | p :: r, l => by
    show valV ((Sum.inr p.1, g p.2) :: encG g r) _ = _
    by_cases e : p.1 = l
    · rw [valV_pos (by rw [e])]
      unfold lk
      rw [if_pos e]
      rfl
    · rw [valV_neg (fun z => e (Sum.inr.inj z)), encG_val g r l]
      rw [show lk (p :: r) l = lk r l from if_neg e]
theorem encG_any {α : Type} (g : α → V) (m : List (Str × α)) (l : Str) : ((encG g m).any fun kv => decide (kv.1 = (Sum.inr l : L2.Key))) = (lk m l).isSome := by
  rw [valV_any, encG_val]
  cases lk m l <;> rfl
theorem encG_map_no {α : Type} (g : α → V) (l : Str) (y : V) : ∀ m : List (Str × α), lk m l = none → (encG g m).map (fun kv => if kv.1 = (Sum.inr l : L2.Key) then (kv.1, y) else kv) = encG g m
  | [], _ => rfl
  | p :: r, h => by
    have e : ¬ p.1 = l := fun z => by
      unfold lk at h
      rw [if_pos z] at h
      cases h
    have h2 : lk r l = none := by
      unfold lk at h
      rw [if_neg e] at h
      exact h
    have ih := encG_map_no g l y r h2
    show (if (Sum.inr p.1 : L2.Key) = Sum.inr l then _ else _) :: List.map _ (encG g r) = _
    rw [if_neg (fun z => e (Sum.inr.inj z)), ih]
    rfl
theorem encG_put {α : Type} (g : α → V) (l : Str) (v : α) : ∀ m : List (Str × α), (m.map (·.1)).Nodup → putK (encG g m) (Sum.inr l : L2.Key) (g v) = encG g (put m l v)
  | [], _ => rfl
  | p :: r, hn => by
    have hn : (p.1 :: r.map (·.1)).Nodup := hn
    obtain ⟨h1, h2⟩ := List.nodup_cons.mp hn
    have ih := encG_put g l v r h2
    unfold putK at ih ⊢
    rw [encG_any] at ih ⊢
    by_cases e : p.1 = l
    · have hs : (lk (p :: r) l).isSome = true := by
        unfold lk
        rw [if_pos e]
        rfl
      rw [if_pos hs]
      have hno : lk r l = none := lk_none.mpr (by rw [← e]; exact h1)
      show (if (Sum.inr p.1 : L2.Key) = Sum.inr l then _ else _) :: List.map _ (encG g r) = _
      rw [if_pos (by rw [e]), encG_map_no g l (g v) r hno]
      show _ = encG g (put (p :: r) l v)
      unfold put
      rw [if_pos e]
      rfl
    · have hl : lk (p :: r) l = lk r l := if_neg e
      rw [hl]
      have hp : put (p :: r) l v = p :: put r l v := if_neg e
      rw [hp]
      by_cases hs : (lk r l).isSome = true
      · rw [if_pos hs] at ih ⊢
        show (if (Sum.inr p.1 : L2.Key) = Sum.inr l then _ else _) :: List.map _ (encG g r) = _
        rw [if_neg (fun z => e (Sum.inr.inj z)), ih]
        rfl
      · rw [if_neg hs] at ih ⊢
        show (Sum.inr p.1, g p.2) :: (encG g r ++ _) = _
        rw [ih]
        rfl
theorem encG_len {α : Type} (g : α → V) (m : List (Str × α)) : (encG g m).length = m.length := List.length_map _
theorem encG_keys {α : Type} (g : α → V) (m : List (Str × α)) : (encG g m).map (·.1) = (m.map (·.1)).map Sum.inr := by
  unfold encG
  rw [List.map_map, List.map_map]
  rfl
/-- at t the pair p -/
def PrAt (H : Hp) (t : Addr) (p : Str × Int) : Prop := H t = some (.tup [.str p.1, .int p.2])
/-- at b the measure m -/
def MsAt (H : Hp) (b : Addr) (m : Ms) : Prop := ∃ ts : List Addr, H b = some (.tup (ts.map V.ref)) ∧ Paired (PrAt H) ts m
theorem MsAt.same {H H' : Hp} {b : Addr} {m : Ms} (s : Same H H') (h : MsAt H b m) : MsAt H' b m := by
  obtain ⟨ts, e, p⟩ := h
  exact ⟨ts, s _ _ e, Paired.mono (fun t q z => s _ _ z) p⟩
theorem paired_ix {α β : Type} {G : α → β → Prop} : ∀ {l : List α} {m : List β} {i : Nat} {a : α}, Paired G l m → l[i]? = some a → ∃ b, m[i]? = some b ∧ G a b
  | _, _, _, _, .nil, e => by simp at e
  | _, _, 0, _, .cons r _, e => by
    simp at e
    subst e
    exact ⟨_, rfl, r⟩
  | _, _, i + 1, _, .cons _ t, e => by
    obtain ⟨b, h1, h2⟩ := paired_ix t (by simpa using e)
    exact ⟨b, by simpa using h1, h2⟩
theorem MsAt.dp {K : PySem.W.Frag} {H : Hp} {b : Addr} {m : Ms} (h : MsAt H b m) : Dp K H (.ref b) (.tuple (m.map fun p => .tuple [.str p.1, .int p.2])) := by
  obtain ⟨ts, e, p⟩ := h
  refine .tup (SqT.of e) ?_
  clear e
  induction p with
  | nil => exact .nil
  | @cons t q _ _ r _ ih => exact .cons (.tup (SqT.of r) (.cons (.str _) (.cons (.int _) .nil))) ih
theorem take_more {α : Type} : ∀ {l : List α} {i : Nat} {x : α}, l[i]? = some x → l.take (i + 1) = l.take i ++ [x] := fun {l i x} h => by
  rw [List.take_add_one, h]
  rfl
theorem byKeys_yes {m : Ms} {ys : List Str} {i : Nat} {k : Str} (h : ys[i]? = some k) (e : at0 m k ≠ 0) : byKeys m (ys.take (i + 1)) = byKeys m (ys.take i) ++ [(k, at0 m k)] := by
  unfold byKeys
  rw [take_more h, List.filter_append, List.map_append]
  congr 1
  rw [List.filter_cons, if_pos (decide_eq_true e)]
  rfl
theorem byKeys_no {m : Ms} {ys : List Str} {i : Nat} {k : Str} (h : ys[i]? = some k) (e : at0 m k = 0) : byKeys m (ys.take (i + 1)) = byKeys m (ys.take i) := by
  unfold byKeys
  rw [take_more h, List.filter_append, List.map_append]
  rw [show [k].filter (fun k => decide (at0 m k ≠ 0)) = [] by
    rw [List.filter_cons, if_neg (by simp [e])]
    rfl]
  simp
theorem at_map {α : Type} {g : α → V} {l : List α} {i : Nat} {y : V} (h : (l.map g)[i]? = some y) : ∃ x, l[i]? = some x ∧ y = g x := by
  rw [List.getElem?_map] at h
  cases e : l[i]? with
  | none =>
    rw [e] at h
    cases h
  | some x =>
    rw [e] at h
    exact ⟨x, rfl, (Option.some.inj h).symm⟩
theorem dget_enc {H : Hp} {d : Addr} {m : Ms} {k : Str} (e : H d = some (.dK (enc m))) (h : k ∈ m.map (·.1)) : DGet H d (.str k) (some (.int (at0 m k))) := by
  have q : DGet H d (kV (Sum.inr k)) (valV (enc m) (Sum.inr k : L2.Key)) := DGet.k e
  rw [encG_val] at q
  unfold at0
  cases e2 : lk m k with
  | none => exact absurd h (lk_none.mp e2)
  | some v =>
    rw [e2] at q
    exact q
theorem dget_enc2 {H : Hp} {d : Addr} {m : Ms} (k : Str) (e : H d = some (.dK (enc m))) : ∃ o, DGet H d (.str k) o ∧ o.getD (.int 0) = .int (at0 m k) := by
  refine ⟨_, DGet.k (k := Sum.inr k) e, ?_⟩
  rw [encG_val]
  unfold at0
  cases lk m k <;> rfl
theorem upd_other {H : Hp} {a b : Addr} {o u : HO} (h : H b = some u) (n : H a = none) : upd H a o b = some u := by
  rw [upd_ne (ne_of_none h n)]
  exact h
theorem same_new {H : Hp} {p : Addr} {o : HO} (h : H p = none) : Same H (upd H p o) := fun b x e => upd_other e h
theorem dput_enc {H : Hp} {d : Addr} {m : Ms} {l : Str} {v : Int} (e : H d = some (.dK (enc m))) (hn : (m.map (·.1)).Nodup) (hl : m.length < sizeLine) : DPut H d (.str l) (.int v) (L2.upd H d (.dK (enc (put m l v)))) := by
  have q : DPut H d (kV (Sum.inr l)) (V.int v) _ := DPut.k (k := Sum.inr l) e (by rw [encG_len]; exact hl)
  rw [show putK (enc m) (Sum.inr l) (V.int v) = enc (put m l v) from encG_put V.int l v m hn] at q
  exact q
theorem small1000' {n : Nat} (h : n ≤ 10000) : n < sizeLine := Nat.lt_of_le_of_lt h (by decide)
/-- a step at an object that came later -/
theorem same_upd {H H1 : Hp} {p : Addr} {o : HO} (s : Same H H1) (h : H p = none) : Same H (L2.upd H1 p o) := fun b x e => by
  rw [upd_ne (ne_of_none e h)]
  exact s b x e
/-- a list that changes is no pair -/
theorem pr_list {H : Hp} {D : Addr} {xs : List V} {o : HO} {ts : List Addr} {m : Ms} (h : H D = some (.lst xs)) (p : Paired (PrAt H) ts m) : Paired (PrAt (L2.upd H D o)) ts m := Paired.mono (fun t q z => by
  show L2.upd H D o t = _
  rw [upd_ne (ne_of z h (fun e => nomatch e))]
  exact z) p
theorem pr_dict {H : Hp} {D : Addr} {kvs : List (L2.Key × V)} {o : HO} {ts : List Addr} {m : Ms} (h : H D = some (.dK kvs)) (p : Paired (PrAt H) ts m) : Paired (PrAt (L2.upd H D o)) ts m := Paired.mono (fun t q z => by
  show L2.upd H D o t = _
  rw [upd_ne (ne_of z h (fun e => nomatch e))]
  exact z) p
theorem pr_same {H H' : Hp} {ts : List Addr} {m : Ms} (s : Same H H') (h : Paired (PrAt H) ts m) : Paired (PrAt H') ts m := Paired.mono (fun t q z => s _ _ z) h
/-! ### parts: measures, each to a power -/
def flat (ps : List (Ms × Int)) : Ms := (ps.map fun q => scaled q.1 q.2).flatten
theorem flat_snoc (ps : List (Ms × Int)) (q : Ms × Int) : flat (ps ++ [q]) = flat ps ++ scaled q.1 q.2 := by
  unfold flat
  rw [List.map_append, List.flatten_append]
  simp
theorem flat_take_le : ∀ (ps : List (Ms × Int)) (i : Nat), (flat (ps.take i)).length ≤ (flat ps).length
  | [], i => by simp [flat]
  | q :: r, 0 => by simp [flat]
  | q :: r, i + 1 => by
    have ih := flat_take_le r i
    show (scaled q.1 q.2 ++ flat (r.take i)).length ≤ (scaled q.1 q.2 ++ flat r).length
    rw [List.length_append, List.length_append]
    omega
def PtAt (H : Hp) (t : Addr) (q : Ms × Int) : Prop := ∃ b, H t = some (.tup [.ref b, .int q.2]) ∧ MsAt H b q.1
theorem PtAt.same {H H' : Hp} {t : Addr} {q : Ms × Int} (s : Same H H') (h : PtAt H t q) : PtAt H' t q := by
  obtain ⟨b, e, m⟩ := h
  exact ⟨b, s _ _ e, m.same s⟩
theorem scaled_take (m : Ms) (n : Int) (k : Nat) : (scaled m n).take k = scaled (m.take k) n := by
  unfold scaled
  rw [List.map_take]
theorem scaled_len (m : Ms) (n : Int) : (scaled m n).length = m.length := by
  unfold scaled
  rw [List.length_map]
theorem scaled_more {m : Ms} {n : Int} {k : Nat} {p : Str × Int} (h : m[k]? = some p) : scaled (m.take (k + 1)) n = scaled (m.take k) n ++ [(p.1, p.2 * n)] := by
  rw [take_more h]
  unfold scaled
  rw [List.map_append]
  rfl
/-- what of a dict is not nought -/
def nz (m : Ms) : Ms := m.filter fun p => decide (p.2 ≠ 0)
theorem nz_yes {m : Ms} {i : Nat} {p : Str × Int} (h : m[i]? = some p) (e : p.2 ≠ 0) : nz (m.take (i + 1)) = nz (m.take i) ++ [p] := by
  unfold nz
  rw [take_more h, List.filter_append]
  congr 1
  rw [List.filter_cons, if_pos (decide_eq_true e)]
  rfl
theorem nz_no {m : Ms} {i : Nat} {p : Str × Int} (h : m[i]? = some p) (e : p.2 = 0) : nz (m.take (i + 1)) = nz (m.take i) := by
  unfold nz
  rw [take_more h, List.filter_append]
  rw [show [p].filter (fun p => decide (p.2 ≠ 0)) = [] by
    rw [List.filter_cons, if_neg (by simp [e])]
    rfl]
  simp
theorem enc_at {m : Ms} {i : Nat} {k : L2.Key} {v : V} (h : (enc m)[i]? = some (k, v)) : ∃ l n, m[i]? = some (l, n) ∧ k = Sum.inr l ∧ v = .int n := by
  unfold enc encG at h
  rw [List.getElem?_map] at h
  cases e : m[i]? with
  | none =>
    rw [e] at h
    cases h
  | some p =>
    rw [e] at h
    obtain ⟨e1, e2⟩ := Prod.mk.inj (Option.some.inj h)
    exact ⟨p.1, p.2, rfl, e1.symm, e2.symm⟩
/-- the sorted list of the pairs of a dict -/
theorem sorted_pairs {H : Hp} {ts : List Addr} {m : Ms} (hn : (m.map (·.1)).Nodup) (p : Paired (PrAt H) ts m) (k : V → Str × Int) (hk : ∀ t q, PrAt H t q → k (.ref t) = q) {ys : List V} (hp : ys.Perm (ts.map V.ref))
    (hs : ys.Pairwise (fun x y => SrtO.lexS (k y) (k x) = false)) : ∃ us : List Addr, ys = us.map V.ref ∧ Paired (PrAt H) us (ys.map k) ∧ (ys.map k).Perm m ∧ Ris (ys.map k) := by
  have hm : (ts.map V.ref).map k = m := by
    clear hp hs hn
    induction p with
    | nil => rfl
    | @cons t q _ _ r _ ih =>
      show k (.ref t) :: _ = _
      rw [hk _ _ r, ih]
  have hpm : (ys.map k).Perm m := by
    rw [← hm]
    exact hp.map k
  have hmem : ∀ y ∈ ys, ∃ t, y = .ref t ∧ PrAt H t (k y) := fun y hy => by
    obtain ⟨t, ht, rfl⟩ := List.mem_map.mp (hp.mem_iff.mp hy)
    obtain ⟨i, hi, e⟩ := List.mem_iff_getElem.mp ht
    obtain ⟨q, _, hq⟩ := paired_ix p (List.getElem?_eq_some_iff.mpr ⟨hi, e⟩)
    refine ⟨t, rfl, ?_⟩
    rw [hk _ _ hq]
    exact hq
  have hnd : ((ys.map k).map (·.1)).Nodup := (hpm.map (·.1)).nodup_iff.mpr hn
  have build : ∀ zs : List V, (∀ y ∈ zs, ∃ t, y = .ref t ∧ PrAt H t (k y)) → ∃ us : List Addr, zs = us.map V.ref ∧ Paired (PrAt H) us (zs.map k) := fun zs => by
    induction zs with
    | nil => exact fun _ => ⟨[], rfl, .nil⟩
    | cons z r ih =>
      intro h
      obtain ⟨t, e, q⟩ := h z List.mem_cons_self
      obtain ⟨us, e1, e2⟩ := ih fun y hy => h y (List.mem_cons_of_mem _ hy)
      refine ⟨t :: us, by rw [e, e1]; rfl, .cons q e2⟩
  obtain ⟨us, e1, e2⟩ := build ys hmem
  refine ⟨us, e1, e2, hpm, ?_⟩
  have h1 : (ys.map k).Pairwise fun p q => SrtO.lexS q p = false := List.pairwise_map.mpr hs
  have h2 : (ys.map k).Pairwise fun p q => p.1 ≠ q.1 := List.pairwise_map.mp hnd
  refine (h1.and h2).imp ?_
  intro a b ⟨h3, h4⟩
  have h5 := SrtO.lexS_no.mp h3
  refine Decidable.byContradiction fun h6 => h4 (sLt_tri h6 fun h7 => h5 (.inl h7))
/-- the pair that stands at a value -/
def prOf : Option HO → Str × Int
  | some (.tup [.str l, .int n]) => (l, n)
  | _ => (⟨#[]⟩, 0)
def kH (H : Hp) : V → Str × Int
  | .ref t => prOf (H t)
  | _ => (⟨#[]⟩, 0)
theorem kH_of {H : Hp} {t : Addr} {q : Str × Int} (h : PrAt H t q) : kH H (.ref t) = q := by
  show prOf (H t) = q
  rw [show H t = _ from h]
  rfl
theorem kH_all {H : Hp} {ts : List Addr} {m : Ms} (p : Paired (PrAt H) ts m) : ∀ x ∈ ts.map V.ref, ∃ t, x = V.ref t ∧ H t = some (.tup [.str (kH H x).1, .int (kH H x).2]) := fun x hx => by
  obtain ⟨t, ht, rfl⟩ := List.mem_map.mp hx
  obtain ⟨i, hi, e⟩ := List.mem_iff_getElem.mp ht
  obtain ⟨q, _, hq⟩ := paired_ix p (List.getElem?_eq_some_iff.mpr ⟨hi, e⟩)
  refine ⟨t, rfl, ?_⟩
  rw [kH_of hq]
  exact hq
theorem ms_list {H : Hp} {D b : Addr} {xs : List V} {o : HO} {m : Ms} (h : H D = some (.lst xs)) (q : MsAt H b m) : MsAt (L2.upd H D o) b m := by
  obtain ⟨ts, e, p⟩ := q
  refine ⟨ts, ?_, pr_list h p⟩
  rw [upd_ne (ne_of e h (fun e => nomatch e))]
  exact e
theorem ms_dict {H : Hp} {D b : Addr} {kvs : List (L2.Key × V)} {o : HO} {m : Ms} (h : H D = some (.dK kvs)) (q : MsAt H b m) : MsAt (L2.upd H D o) b m := by
  obtain ⟨ts, e, p⟩ := q
  refine ⟨ts, ?_, pr_dict h p⟩
  rw [upd_ne (ne_of e h (fun e => nomatch e))]
  exact e
/-! ### fillings -/
def fill (fl : List (Str × Ms)) (l : Str) : Ms := (lk fl l).getD [(l, 1)]
def parts (fl : List (Str × Ms)) (m : Ms) : List (Ms × Int) := m.map fun p => (fill fl p.1, p.2)
abbrev FillR (H : Hp) (x : Str × Addr) (y : Str × Ms) : Prop := x.1 = y.1 ∧ MsAt H x.2 y.2
def FillAt (H : Hp) (d : Addr) (ads : List (Str × Addr)) (fl : List (Str × Ms)) : Prop := H d = some (.dK (encG V.ref ads)) ∧ Paired (FillR H) ads fl
theorem fills_same {H H' : Hp} {ads : List (Str × Addr)} {fl : List (Str × Ms)} (s : Same H H') (p : Paired (FillR H) ads fl) : Paired (FillR H') ads fl := Paired.mono (fun x y z => ⟨z.1, z.2.same s⟩) p
theorem FillAt.same {H H' : Hp} {d : Addr} {ads : List (Str × Addr)} {fl : List (Str × Ms)} (s : Same H H') (h : FillAt H d ads fl) : FillAt H' d ads fl := ⟨s _ _ h.1, fills_same s h.2⟩
theorem fills_lk {H : Hp} {ads : List (Str × Addr)} {fl : List (Str × Ms)} (p : Paired (FillR H) ads fl) (l : Str) : (lk ads l = none ∧ lk fl l = none) ∨ ∃ b m, lk ads l = some b ∧ lk fl l = some m ∧ MsAt H b m := by
  induction p with
  | nil => exact .inl ⟨rfl, rfl⟩
  | @cons x y xs ys h _ ih =>
    obtain ⟨h1, h2⟩ := h
    by_cases e : x.1 = l
    · exact .inr ⟨x.2, y.2, if_pos e, if_pos (h1 ▸ e), h2⟩
    · have e' : ¬ y.1 = l := fun z => e (h1.trans z)
      rw [show lk (x :: xs) l = lk xs l from if_neg e, show lk (y :: ys) l = lk ys l from if_neg e']
      exact ih
/-- filling.get(l, d0), d0 the letter itself -/
theorem fill_get {H : Hp} {d e0 : Addr} {ads : List (Str × Addr)} {fl : List (Str × Ms)} (h : FillAt H d ads fl) (l : Str) (h0 : MsAt H e0 [(l, 1)]) : ∃ o b, DGet H d (.str l) o ∧ o.getD (.ref e0) = .ref b ∧ MsAt H b (fill fl l) := by
  rcases fills_lk h.2 l with ⟨a1, a2⟩ | ⟨b, m, a1, a2, a3⟩
  · refine ⟨_, e0, DGet.k (k := Sum.inr l) h.1, ?_, ?_⟩
    · rw [encG_val, a1]
      rfl
    · unfold fill
      rw [a2]
      exact h0
  · refine ⟨_, b, DGet.k (k := Sum.inr l) h.1, ?_, ?_⟩
    · rw [encG_val, a1]
      rfl
    · unfold fill
      rw [a2]
      exact a3
theorem paired_put {H : Hp} {l : Str} {b : Addr} {m : Ms} (h : MsAt H b m) {ads : List (Str × Addr)} {fl : List (Str × Ms)} (p : Paired (FillR H) ads fl) : Paired (FillR H) (put ads l b) (put fl l m) := by
  induction p with
  | nil => exact .cons ⟨rfl, h⟩ .nil
  | @cons x y xs ys q r ih =>
    obtain ⟨q1, q2⟩ := q
    by_cases e : x.1 = l
    · have e' : y.1 = l := q1 ▸ e
      rw [show put (x :: xs) l b = (x.1, b) :: xs from if_pos e, show put (y :: ys) l m = (y.1, m) :: ys from if_pos e']
      exact .cons ⟨q1, h⟩ r
    · have e' : ¬ y.1 = l := fun z => e (q1.trans z)
      rw [show put (x :: xs) l b = x :: put xs l b from if_neg e, show put (y :: ys) l m = y :: put ys l m from if_neg e']
      exact .cons ⟨q1, q2⟩ ih
theorem dput_encG {α : Type} {g : α → V} {H : Hp} {d : Addr} {m : List (Str × α)} {l : Str} {v : α} (e : H d = some (.dK (encG g m))) (hn : (m.map (·.1)).Nodup) (hl : m.length < sizeLine) : DPut H d (.str l) (g v) (L2.upd H d (.dK (encG g (put m l v)))) := by
  have q : DPut H d (kV (Sum.inr l)) (g v) _ := DPut.k (k := Sum.inr l) e (by rw [encG_len]; exact hl)
  rw [encG_put g l v m hn] at q
  exact q
theorem flat_mem {ps : List (Ms × Int)} {j : Str} (h : j ∈ (flat ps).map (·.1)) : ∃ q ∈ ps, ∃ p ∈ q.1, p.1 = j := by
  obtain ⟨x, hx, rfl⟩ := List.mem_map.mp h
  unfold flat at hx
  obtain ⟨y, hy, hxy⟩ := List.mem_flatten.mp hx
  obtain ⟨q, hq, rfl⟩ := List.mem_map.mp hy
  obtain ⟨p, hp, rfl⟩ := List.mem_map.mp hxy
  exact ⟨q, hq, p, hp, rfl⟩
theorem flat_len_le {n : Nat} : ∀ (ps : List (Ms × Int)), (∀ q ∈ ps, q.1.length ≤ n) → (flat ps).length ≤ ps.length * n
  | [], _ => by simp [flat]
  | q :: r, h => by
    have ih := flat_len_le r fun x hx => h x (List.mem_cons_of_mem _ hx)
    have h1 := h q List.mem_cons_self
    show (scaled q.1 q.2 ++ flat r).length ≤ (r.length + 1) * n
    rw [List.length_append, scaled_len, Nat.succ_mul]
    omega
theorem parts_nil : ∀ (m : Ms) (j : Str), sumAt (flat (parts [] m)) j = sumAt m j
  | [], j => rfl
  | p :: r, j => by
    have ih := parts_nil r j
    show sumAt (scaled [(p.1, 1)] p.2 ++ flat (parts [] r)) j = _
    rw [sumAt_append, ih, sumAt_scaled, sumAt_one]
    show _ = (if p.1 = j then p.2 else 0) + sumAt r j
    by_cases e : p.1 = j
    · rw [if_pos e, if_pos e]
      omega
    · rw [if_neg e, if_neg e]
      omega
end MK


set_option Elab.async false
set_option linter.all false
set_option maxRecDepth 100000
set_option maxHeartbeats 4000000
namespace MK
open PySem
/-! ### fractions: plain Lean -/
/-- in lowest terms, below from 1 on -/
def Red (u v : Int) : Prop := 0 < v ∧ Nat.gcd u.natAbs v.natAbs = 1
/-- what both are divided by -/
def cut (x y : Int) : Int := if y < 0 then -((Nat.gcd x.natAbs y.natAbs : Nat) : Int) else ((Nat.gcd x.natAbs y.natAbs : Nat) : Int)
theorem cut_ne {x y : Int} (hy : y ≠ 0) : cut x y ≠ 0 := by
  have h : Nat.gcd x.natAbs y.natAbs ≠ 0 := fun e => hy (by have := Nat.eq_zero_of_gcd_eq_zero_right e; omega)
  unfold cut
  split <;> omega
theorem cut_le {x y : Int} (hy : y ≠ 0) : (cut x y).natAbs ≤ y.natAbs := by
  have h : Nat.gcd x.natAbs y.natAbs ≤ y.natAbs := Nat.gcd_le_right _ (by omega)
  unfold cut
  split <;> omega
theorem cut_ok {x y : Int} (hy : y ≠ 0) : Red (x.fdiv (cut x y)) (y.fdiv (cut x y)) ∧ x.fdiv (cut x y) * y = x * y.fdiv (cut x y) ∧ (x.fdiv (cut x y)).natAbs ≤ x.natAbs ∧ (y.fdiv (cut x y)).natAbs ≤ y.natAbs := by
  have hG : Nat.gcd x.natAbs y.natAbs ≠ 0 := fun e => hy (by have := Nat.eq_zero_of_gcd_eq_zero_right e; omega)
  obtain ⟨x', hx⟩ : ((Nat.gcd x.natAbs y.natAbs : Nat) : Int) ∣ x := Int.ofNat_dvd_left.mpr (Nat.gcd_dvd_left _ _)
  obtain ⟨y', hy'⟩ : ((Nat.gcd x.natAbs y.natAbs : Nat) : Int) ∣ y := Int.ofNat_dvd_left.mpr (Nat.gcd_dvd_right _ _)
  have hc := cut_ne (x := x) hy
  obtain ⟨s, hs, es⟩ : ∃ s : Int, (s = 1 ∨ s = -1) ∧ cut x y = s * ((Nat.gcd x.natAbs y.natAbs : Nat) : Int) ∧ 0 < s * y := by
    unfold cut
    by_cases c : y < 0
    · rw [if_pos c]
      exact ⟨-1, .inr rfl, by omega, by omega⟩
    · rw [if_neg c]
      exact ⟨1, .inl rfl, by omega, by omega⟩
  obtain ⟨es, sy⟩ := es
  generalize hg : Nat.gcd x.natAbs y.natAbs = G at *
  have ss : s * s = 1 := by rcases hs with e | e <;> rw [e] <;> rfl
  have sa : s.natAbs = 1 := by rcases hs with e | e <;> rw [e] <;> rfl
  have ex : x = cut x y * (s * x') := by
    rw [es, show s * (G : Int) * (s * x') = s * s * ((G : Int) * x') by rw [Int.mul_assoc, Int.mul_assoc, Int.mul_left_comm (G : Int) s x'], ss, Int.one_mul]
    exact hx
  have ey : y = cut x y * (s * y') := by
    rw [es, show s * (G : Int) * (s * y') = s * s * ((G : Int) * y') by rw [Int.mul_assoc, Int.mul_assoc, Int.mul_left_comm (G : Int) s y'], ss, Int.one_mul]
    exact hy'
  have ux : x.fdiv (cut x y) = s * x' := by
    generalize hcc : cut x y = cc at *
    rw [ex]
    exact Int.mul_fdiv_cancel_left _ hc
  have uy : y.fdiv (cut x y) = s * y' := by
    generalize hcc : cut x y = cc at *
    rw [ey]
    exact Int.mul_fdiv_cancel_left _ hc
  rw [ux, uy]
  have pos : 0 < s * y' := by
    have h1 : 0 < (G : Int) := by omega
    have h2 : s * y = (G : Int) * (s * y') := by
      rw [Int.mul_left_comm, ← hy']
    rw [h2] at sy
    exact Int.not_le.mp fun c => Int.not_le.mpr sy (Int.mul_nonpos_of_nonneg_of_nonpos (Int.le_of_lt h1) c)
  have ax : (s * x').natAbs = x'.natAbs := by rw [Int.natAbs_mul, sa, Nat.one_mul]
  have ay : (s * y').natAbs = y'.natAbs := by rw [Int.natAbs_mul, sa, Nat.one_mul]
  have nx : x.natAbs = G * x'.natAbs := by
    rw [hx, Int.natAbs_mul]
    rfl
  have ny : y.natAbs = G * y'.natAbs := by
    rw [hy', Int.natAbs_mul]
    rfl
  have G0 : 0 < G := Nat.pos_of_ne_zero hG
  refine ⟨⟨pos, ?_⟩, ?_, ?_, ?_⟩
  · rw [ax, ay]
    have e : Nat.gcd (G * x'.natAbs) (G * y'.natAbs) = G := by rw [← nx, ← ny]; exact hg
    rw [Nat.gcd_mul_left] at e
    have e2 : G * Nat.gcd x'.natAbs y'.natAbs = G * 1 := by rw [e, Nat.mul_one]
    exact Nat.eq_of_mul_eq_mul_left G0 e2
  · rw [show s * x' * y = s * x' * ((G : Int) * y') from congrArg (s * x' * ·) hy', show x * (s * y') = (G : Int) * x' * (s * y') from congrArg (· * (s * y')) hx]
    rw [Int.mul_assoc, Int.mul_assoc, Int.mul_left_comm s x' _, Int.mul_left_comm s (G : Int) y', Int.mul_left_comm x' (G : Int) (s * y')]
  · rw [ax, nx]
    exact Nat.le_mul_of_pos_left _ G0
  · rw [ay, ny]
    exact Nat.le_mul_of_pos_left _ G0
/-- two in lowest terms, of one value, are one -/
theorem red_uniq {a b c d : Int} (h : Red a b) (h' : Red c d) (e : a * d = c * b) : a = c ∧ b = d := by
  obtain ⟨b0, g1⟩ := h
  obtain ⟨d0, g2⟩ := h'
  have en : a.natAbs * d.natAbs = c.natAbs * b.natAbs := by rw [← Int.natAbs_mul, ← Int.natAbs_mul, e]
  have h1 : b.natAbs ∣ d.natAbs := by
    have : b.natAbs ∣ a.natAbs * d.natAbs := ⟨c.natAbs, by rw [en, Nat.mul_comm]⟩
    exact Nat.Coprime.dvd_of_dvd_mul_left (Nat.Coprime.symm g1) this
  have h2 : d.natAbs ∣ b.natAbs := by
    have : d.natAbs ∣ c.natAbs * b.natAbs := ⟨a.natAbs, by rw [← en, Nat.mul_comm]⟩
    exact Nat.Coprime.dvd_of_dvd_mul_left (Nat.Coprime.symm g2) this
  have h3 := Nat.dvd_antisymm h1 h2
  have hb : b = d := by omega
  rw [hb] at e
  exact ⟨Int.eq_of_mul_eq_mul_right (by omega) e, hb⟩
theorem red_pow {a b : Int} (h : Red a b) (n : Nat) : Red (a ^ n) (b ^ n) := by
  obtain ⟨h1, h2⟩ := h
  refine ⟨Int.pow_pos h1, ?_⟩
  rw [Int.natAbs_pow, Int.natAbs_pow]
  exact Nat.Coprime.pow n n h2
end MK

namespace L2
open PySem PySem.Spec PyProof.Rows
/-- // by what is not nought, below 2 ^ 9000 -/
def CDivWN (_ j : Int) : Prop := j ≠ 0 ∧ j.natAbs.log2 < 9000
section
variable {X : Cx}
theorem op_fdivWN : OpR X (binaryOp .FloorDiv) (rI CDivWN fun i j => .int (i.fdiv j)) := opI fun _ _ _ _ _ _ _ hc q => floordiv_int hc.1 q (.inl (PyProof.noPylong_of_log2 hc.2))
end
theorem divWN_ok {i j : Int} (h : j ≠ 0) (hb : j.natAbs < 2 ^ 8000) : CDivWN i j := ⟨h, Nat.lt_of_lt_of_le (PySem.Flt.log2_lt_of (by decide) hb) (by decide)⟩
/-- no error leaves a call that could let one out -/
theorem passN {X : Cx} : Passes (L2N.CX X.prog X.w) X E0 := fun _ _ _ _ _ _ _ h => by
  obtain ⟨_, _, _, _, _, _, _, _, _, _, _, _, z⟩ := h
  exact z.elim
/-- around a body nothing is let out -/
theorem takesN {X : Cx} : L2N.Takes X (fun _ _ _ _ => False) := fun _ _ x => by
  obtain ⟨_, _, _, _, _, _, _, _, _, _, _, _, _, _, _, _, z⟩ := x
  exact z.elim
theorem bootVE : bootBuiltins "ValueError" = some (.type "ValueError") := by decide +kernel
section
variable {P : Program} {w : World} {K : PySem.W.Frag} {mg : Str → Option Value} {base : Heap}
/-- a def that may raise, its errors' context None -/
theorem Fun.okN {x qual : Str} {st : Stmt} {f : Addr} {fd : FuncData} {N ps : List Str} {k : Nat} {sp : Sp} (F : Fun K x qual st f fd) (S : FnScope N ps (defScope st)) (len : ∀ vs H Q E, sp vs H Q E → vs.length = ps.length)
    (hb : ∀ (cdv : Value) (A : Around) (outer : List Env) (s : Shared) (H : Hp) (vs : List V) (Q : VK) (E : XK), Room k (A.deeper (envOfC qual (defScope st) s.heap.objs.size f cdv)) → sp vs H Q E →
      ∃ t, PSs (cxOf (L2N.CX P w) P w K mg base N qual (defScope st) f cdv A outer s H E) (defBody st) t ∧ t { nx := fun _ H' => Q .non H', rt := Q } (L2.start N vs) H) : FnOk P w K mg base (L2N.CX P w) (k + 1) f fd ps sp := by
  obtain ⟨oc, od, kV, doc, pm, an, cdv, ct, osl, rfl, lk, hcd⟩ := F.ex
  exact fn_of lk hcd S len fun A outer s H vs Q E hr hsp => hb cdv A outer s H vs Q E hr hsp
/-! ### a def called within an except suite, of the error that is handled (its class at D) -/
structure FnHE (P : Program) (w : World) (K : PySem.W.Frag) (mg : Str → Option Value) (base : Heap) (D : Addr) (k : Nat) (f : Addr) (fd : FuncData) (ps : List Str) (sp : Addr → Sp) : Prop where
  len : ∀ a vs H Q E, sp a vs H Q E → vs.length = ps.length
  run : ∀ (A : Around) (outer : List Env) (s : Shared) (H : Hp) (args : Args) (us : List Value) (vs : List V) (Q : VK) (E : XK) (p : Addr × Obj), L2H.RoomH k A → L2H.Hot1 A p → p.2.cls = .ref D → p.2.dict = none → L2H.PinOk outer H s p → Env0 P w K mg base A outer s H → BindsTo s fd args (ps.zip us) →
    Vals vs us → sp p.1 vs H Q E → codeAny (model P w) A (.call (.ref f) args) (CR CX0 outer P w H s Q E) s
theorem Fun.okHE {x qual : Str} {st : Stmt} {f D : Addr} {fd : FuncData} {N ps : List Str} {k : Nat} {sp : Addr → Sp} (F : Fun K x qual st f fd) (S : FnScope N ps (defScope st)) (len : ∀ a vs H Q E, sp a vs H Q E → vs.length = ps.length)
    (hbody : ∀ (cdv : Value) (A : Around) (outer : List Env) (s : Shared) (H : Hp) (vs : List V) (Q : VK) (E : XK) (p : Addr × Obj), L2H.Hot1 A p → p.2.cls = .ref D → p.2.dict = none → L2H.RoomH k (A.deeper (envOfC qual (defScope st) s.heap.objs.size f cdv)) → sp p.1 vs H Q E →
      ∃ t, PSs (L2H.cxH CX0 P w K mg base N qual (defScope st) f cdv A outer s H E p) (defBody st) t ∧ t { nx := fun _ H' => Q .non H', rt := Q } (L2.start N vs) H) : FnHE P w K mg base D (k + 1) f fd ps sp := by
  obtain ⟨oc, od, kV, doc, pm, an, cdv, ct, osl, rfl, lk, hcd⟩ := F.ex
  refine ⟨len, fun A outer s H args us vs Q E p hr hot hD hN hpin e0 hb r hsp => ?_⟩
  have hl := len _ _ _ _ _ hsp
  have keepB : ∀ b o, base.get? b = some o → s.heap.get? b = some o := fun b o e => (e0.bs b o e).1
  have KX : K.In s.heap := e0.mod.kin.keeps keepB
  have lim : s.heap.NoLimit := e0.mod.nolimit.keeps keepB
  have kinds : ∀ y ∈ ps.zip us, (defScope st).names.lookup y.1 = some .local ∨ ((defScope st).names.lookup y.1 = some .cell ∧ ((cellsFrom (s.heap.objs.size + 1) (defScope st).names []).lookup y.1).isSome = true) := by
    rintro ⟨n, v⟩ hy
    rcases S.par n (List.of_mem_zip hy).1 with q | q
    · exact .inl q
    · exact .inr ⟨q, PySem.W.cellsFrom_some _ _ _ (.inl q)⟩
  refine codeAny_call_function hr.depth (KX _ _ lk) rfl S.co S.gen rfl (PySem.W.codeRec_of KX hcd) (hb _ _ _ _ ?_)
  refine wpAny_newFunctionEnv_cells S.kind kinds fun env he s1 x => ?_
  subst he
  refine ⟨lim.keeps x.toInCall.keep, codeAny_func ?_⟩
  obtain ⟨t, ht, hq⟩ := hbody cdv A outer s H vs Q E p hot hD hN (hr.deeper _) hsp
  refine wpAny_mono (ht.run [] s1 (L2.start N vs) H _ (L2H.inv_startH S hpin e0 hl r x) hq) (fun fl s' hs => ?_) fun e s' hs => hs
  cases fl with
  | ret u =>
    obtain ⟨v, σ', H', J, rv, q⟩ := hs
    exact ⟨v, H', J.os, J.bare, J.base, J.hok, rv, q⟩
  | next =>
    obtain ⟨σ', H', J, q⟩ := hs
    exact ⟨V.non, H', J.os, J.bare, J.base, J.hok, rfl, q⟩
  | brk =>
    obtain ⟨_, _, _, q⟩ := hs
    exact False.elim q
  | cont =>
    obtain ⟨_, _, _, q⟩ := hs
    exact False.elim q
end
section
variable {X : Cx} {k : Nat} {f D : Addr} {fd : FuncData} {ps : List Str} {sp : Addr → Sp} {x : Str} {q pos : Pos} {e : Expr} {es : List Expr} {t : TA} {a : Addr} {oe : Obj} {cls : Value} {d : Option Addr} {pn : List (Addr × Obj)}
/-- f(e), within the suite that holds the error at a: asks that the error is the class's own, without a dict -/
theorem pe_callHE (F : FnHE X.prog X.w X.K X.mg X.base D k f fd ps sp) (hr : L2H.RoomH k X.A) (hz : L2N.Zn cls d oe) (hf : ∃ vs, oe.data = .fields vs) (hg : Gl X x) (hm : X.mg x = some (.ref f)) (hk : PySem.W.keepIn X.K (.ref f) = true) (hb : Binds X.K fd ps [])
    (ha : PA (X.suite a ((a, oe) :: pn)) (e :: es) t) (hdb : (x == ("__debug__" : Str)) = false := by decide) (he : starEach (e :: es) X.env = (false, eval e X.env) :: starEach es X.env := by rfl) (hpl : (backTo pos (starEach es X.env)).any (·.1) = false := by rfl) :
    PE (X.suite a ((a, oe) :: pn)) (.Call (.Name x q) (e :: es) [] pos) (fun σ H Q => cls = .ref D ∧ d = none ∧ t σ H fun vs H1 => sp a vs H1 Q E0) := by
  refine ⟨fun pins s σ H Q I h => ?_⟩
  obtain ⟨ec, ed, h⟩ := h
  refine wpAny_Call_Name_kw (ld_glob I hg hm ?_ hdb)
  refine PySem.W.callWith_K (h₀ := X.base) I.ok.mod.kin hk (thn (ha.run pos pins s σ H _ I h) fun us s1 hh => ?_) he hpl
  obtain ⟨vs, H1, I1, r, hsp⟩ := hh
  refine ⟨I1.kIn, ?_⟩
  have hl : us.length = ps.length := by rw [← r.length]; exact F.len _ _ _ _ _ hsp
  have b := hb s1 us I1.kIn (by rw [List.append_nil]; exact hl)
  rw [List.append_nil] at b
  have P1 := I1.pin (a, oe) (List.mem_append_left _ List.mem_cons_self)
  have hpin : L2H.PinOk (X.suite a ((a, oe) :: pn)).stack H1 s1 (a, oe) := ⟨P1.1, P1.2.1, fun hm => (List.mem_cons.mp (I1.stkSub a hm)).elim P1.2.2.1 P1.2.2.2.1, P1.2.2.2.2⟩
  have hot : L2H.Hot1 (X.suite a ((a, oe) :: pn)).A (a, oe) := by
    obtain ⟨vs, hv⟩ := hf
    exact ⟨rfl, vs, hv, hz.2.2 vs hv⟩
  refine wpAny_call (codeAny_mono (F.run _ _ s1 H1 ⟨us, []⟩ us vs Q E0 (a, oe) ⟨hr.dp, hr.un⟩ hot (hz.1.trans ec) (hz.2.1.trans ed) hpin I1.env0 b r hsp) fun res s' hq => ?_)
  cases res with
  | error er => exact hq.elim
  | ok fl =>
    cases fl with
    | ret u => exact I1.after hq
    | next => exact False.elim hq
    | brk => exact False.elim hq
    | cont => exact False.elim hq
/-- isinstance of an error that the context bears -/
theorem call_isP {X : Cx} {D : Addr} {p : Addr × Obj} (C : ExcC X.K D) (hp : p ∈ X.pn) (h1 : p.2.cls = .ref D) (h2 : p.2.dict = none) (hf : ∃ vs, p.2.data = .fields vs) : CallR X (.builtin "isinstance") (rIsE X.K D p.1) := by
  intro pins s σ H xs us Q I r h
  obtain ⟨c, cv, b, rfl, hcv, e, q⟩ := h
  obtain ⟨u1, u2, rfl, rx, rt⟩ := vals2 r
  cases rx
  have ec := hcv _ rt
  subst ec
  have hget := (I.pin p (List.mem_append_left _ hp)).1
  obtain ⟨vs, hv⟩ := hf
  have J : PySem.W.InstAt s.heap p.1 p.2 D none := by
    obtain ⟨a, oc, od, oda, osl⟩ := p
    dsimp only at h1 h2 hv
    subst h1 h2 hv
    exact ⟨hget, rfl, rfl, trivial⟩
  exact PySem.W.kia_one (PySem.W.handS_kitx_exc C.hg C.hk C.hs C.hd C.ha C.hn C.ht C.hm) I.kIn J e (fun z => nomatch z) fun tk => ⟨.bl b, H, I.kept (t' := tk) fun _ _ z => z, rfl, q⟩
/-- isinstance of the error that the suite handles, whatever its class -/
theorem call_isS {X : Cx} {a : Addr} {oe : Obj} {cls : Value} {d : Option Addr} {pn : List (Addr × Obj)} (hz : L2N.Zn cls d oe) (hf : ∃ vs, oe.data = .fields vs) :
    CallR (X.suite a ((a, oe) :: pn)) (.builtin "isinstance") (fun xs H Q => ∃ D, cls = .ref D ∧ d = none ∧ ExcC X.K D ∧ rIsE X.K D a xs H Q) := by
  intro pins s σ H xs us Q I r h
  obtain ⟨D, e1, e2, C, h⟩ := h
  exact call_isP (X := X.suite a ((a, oe) :: pn)) (p := (a, oe)) C List.mem_cons_self (hz.1.trans e1) (hz.2.1.trans e2) hf pins s σ H xs us Q I r h
end
end L2


set_option Elab.async false
set_option linter.all false
set_option maxRecDepth 100000
set_option maxHeartbeats 4000000
/-! New tuples told with their very object (it bears no dict); dict(t) of such a tuple of pairs. -/
namespace L2
open PySem PySem.Spec PyProof.Rows
/-- a tuple that bears no dict -/
def TupN (H : Hp) (a : Addr) (xs : List V) : Prop := ∃ o : Obj, H a = some (.frz o (.tup xs)) ∧ o.dict = none
theorem TupN.sq {K : PySem.W.Frag} {H : Hp} {a : Addr} {xs : List V} (h : TupN H a xs) : SqT K H a xs := by
  obtain ⟨o, h, _⟩ := h
  exact .inl (.inr ⟨o, h⟩)
section
variable {X : Cx} {es : List Expr} {t : TA} {pos : Pos}
/-- a written tuple -/
theorem pe_tupN {x1} (h : PA X es t) : PE X (.Tuple es x1 pos) (fun σ H Q => t σ H fun xs H1 => xs.length ≤ sizeLine ∧ ∀ (p : Addr) (o : Obj), H1 p = none → o.dict = none → Q (.ref p) (upd H1 p (.frz o (.tup xs)))) := by
  refine ⟨fun pins s σ H Q I hq => ?_⟩
  refine wpAny_Tuple_spliced (thn (h.run pos pins s σ H _ I hq) fun us u ⟨xs, H1, J, r, z, q⟩ => ⟨by rw [← r.length]; exact z, ?_⟩)
  refine ⟨.ref u.heap.objs.size, _, J.laid (t' := u.toks) (fun b o e => Heap.get?_push_of_some _ e) (Nat.le_refl _) ?_, rfl, q _ { cls := .type "tuple", data := .seq us.toArray } (J.hok.fresh (Nat.le_refl _)) rfl⟩
  exact ⟨Heap.get?_push_size _ rfl, z, us, r, ⟨_, Heap.get?_push_size _ rfl, rfl, _, rfl⟩⟩
/-- tuple(xs) of a list -/
theorem call_tupleN : CallR X (.type "tuple") (fun xs H Q => ∃ p ys, xs = [.ref p] ∧ SqL X.K H p ys ∧ ∀ (l : Addr) (o : Obj), H l = none → o.dict = none → Q (.ref l) (upd H l (.frz o (.tup ys)))) := by
  intro pins s σ H xs us Q I r h
  obtain ⟨p, ys, rfl, hq, q⟩ := h
  obtain ⟨u, rfl, rx⟩ := vals1 r
  cases rx
  obtain ⟨its, rv, pl, hz⟩ := I.list hq
  have hl := rv.length
  refine call_tuple_list pl.isList (fun h' kp => ?_) (by simp only [List.size_toArray] <;> omega)
  have J : Inv X pins σ H { s with heap := h' } := I.kept (t' := s.toks) kp
  exact ⟨.ref h'.objs.size, _, J.laid (t' := s.toks) (fun b o e => Heap.get?_push_of_some _ e) (Nat.le_refl _) (show ObjOk X.prog X.w _ _ _ (.frz { cls := .type "tuple", data := .seq its.toArray } (.tup ys)) from ⟨Heap.get?_push_size _ rfl, hz, its, rv, IsTup.new _ _⟩), rfl, q _ { cls := .type "tuple", data := .seq its.toArray } (J.hok.fresh (Nat.le_refl _)) rfl⟩
/-- the pairs, as values -/
theorem pairs_at {pins : List (Addr × Obj)} {σ : St} {H : Hp} {s : Shared} (I : Inv X pins σ H s) : ∀ {ps : List Addr} {kvs : List (Key × V)}, Paired (fun p kv => SqT X.K H p [kV kv.1, kv.2]) ps kvs →
    ∃ (prs : List (Key × Value)) (vps : List (Value × Value)), KV kvs prs ∧ prs.length = ps.length ∧ vps.length = ps.length ∧
      ∀ (j : Nat) (b : Addr), ps[j]? = some b → ∃ q u, prs[j]? = some q ∧ vps[j]? = some (u, q.2) ∧ IsTup s.heap b #[u, q.2] ∧ keyIs q.1 u = true
  | _, _, .nil => ⟨[], [], .nil, rfl, rfl, fun j q e => by simp at e⟩
  | _, _, .cons (a := p) (b := kv) h t => by
    obtain ⟨prs, vps, r, l1, l2, hp⟩ := pairs_at I t
    obtain ⟨its, rv, ht, _⟩ := I.tuple h
    obtain ⟨u, y, rfl, ru, ry⟩ := vals2 rv
    refine ⟨(kv.1, y) :: prs, (u, y) :: vps, .cons ⟨rfl, ry⟩ r, by simp [l1], by simp [l2], fun j b e => ?_⟩
    cases j with
    | zero =>
      obtain rfl : p = b := Option.some.inj e
      exact ⟨_, u, rfl, rfl, ht, kV_is (P := X.prog) (w := X.w) ru⟩
    | succ j =>
      obtain ⟨q, u', e1, e2, e3⟩ := hp j b (by simpa using e)
      exact ⟨q, u', by simpa using e1, by simpa using e2, e3⟩
/-- dict(t), t a tuple of pairs -/
theorem call_dictPT (hcalm : X.calm = true) : CallR X (.type "dict") (fun xs H Q => ∃ (a : Addr) (ps : List Addr) (kvs : List (Key × V)), xs = [.ref a] ∧ TupN H a (ps.map V.ref) ∧ Paired (fun p kv => SqT X.K H p [kV kv.1, kv.2]) ps kvs ∧
    ∀ p, H p = none → Q (.ref p) (upd H p (.dK (mergeK [] kvs)))) := by
  intro pins s σ H xs us Q I r q
  obtain ⟨a, ps, kvs, rfl, ⟨o, ha, dn⟩, hp, q⟩ := q
  obtain ⟨u, rfl, rx⟩ := vals1 r
  cases rx
  obtain ⟨go, hz, its, rv, ⟨o', ho', hc, n, hdat⟩⟩ := (show ObjOk X.prog X.w H s.heap a (.frz o (.tup (ps.map V.ref))) from I.hok a _ ha)
  obtain rfl : o = o' := Option.some.inj (go.symm.trans ho')
  have ei := refs_at rv
  subst ei
  rw [List.length_map] at hz
  obtain ⟨prs, vps, rel, l1, l2, hpr⟩ := pairs_at I hp
  have pi : PySem.PairItems s.heap (ps.map Value.ref).toArray (fun j => ps.getD j 0) vps := by
    refine ⟨by simp [l2], fun j k v e => ?_⟩
    have hj : j < ps.length := by rw [← l2]; exact (List.getElem?_eq_some_iff.mp e).1
    obtain ⟨q', u, e1, e2, e3, _⟩ := hpr j ps[j] (List.getElem?_eq_getElem hj)
    have ee : (k, v) = (u, q'.2) := Option.some.inj (e.symm.trans e2)
    obtain ⟨rfl, rfl⟩ := Prod.mk.inj ee
    have gd : ps.getD j 0 = ps[j] := by simp [List.getD, hj]
    refine ⟨by simp [hj], ?_⟩
    show PySem.PairAt s.heap (ps.getD j 0) k q'.2
    rw [gd]
    exact .inl e3
  refine PySem.call_dict_pairs (knd := mixKind X.prog X.w) (kvs := prs) (PySem.PairArg.tuple (prog := X.prog) (w := X.w) a (ps.map Value.ref).toArray (fun j => ps.getD j 0) vps) (I.ok.hd hcalm) ⟨⟨o, n, go, hc, dn, hdat⟩, pi⟩ ⟨by rw [l1, l2], fun i key v e => ?_⟩ (by rw [l2]; exact hz) fun h' tk hd' k => ?_
  · have hj : i < ps.length := by rw [← l2]; exact (List.getElem?_eq_some_iff.mp e).1
    obtain ⟨q', u, e1, e2, _, e4⟩ := hpr i ps[i] (List.getElem?_eq_getElem hj)
    have ee : (key, v) = (u, q'.2) := Option.some.inj (e.symm.trans e2)
    obtain ⟨rfl, rfl⟩ := Prod.mk.inj ee
    exact ⟨q'.1, e1, e4⟩
  · have hm : (s.heap.objs.size == sysModules) = false := beq_eq_false_iff_ne.mpr (Nat.ne_of_gt I.big)
    have hlen : (mergeK [] kvs).length ≤ sizeLine := by
      refine Nat.le_trans (length_mergeK kvs []) ?_
      rw [List.length_nil, Nat.zero_add, rel.length, l1]
      exact hz
    exact ⟨.ref s.heap.objs.size, upd H s.heap.objs.size (.dK (mergeK [] kvs)), I.laid (t' := tk) (fun b o e => k b o (fun z => nomatch z) e) (Nat.le_refl _) (show ObjOk X.prog X.w _ _ _ (.dK (mergeK [] kvs)) from ⟨hlen, hm, merged [] prs, KV.merge rel .nil, hd'⟩), rfl, q _ (I.hok.fresh (Nat.le_refl _))⟩
end
end L2


set_option Elab.async false
set_option linter.all false
set_option maxRecDepth 100000
set_option maxHeartbeats 4000000
/-! Reckonings: their form, where they lie in a heap, what they come to. -/
namespace MK
open PySem PySem.Spec PyProof.Rows L2
/-! ### names -/
/-- signs a to z alone -/
def Az (z : Str) : Prop := ∀ c ∈ z.cps.toList, 97 ≤ c ∧ c ≤ 122
/-- a name: 1 to 8 of them -/
def Nm (z : Str) : Prop := 1 ≤ z.length ∧ z.length ≤ 8 ∧ Az z
theorem Az.ok {z : Str} (h : Az z) : Ok z := fun c hc => by
  have := h c hc
  omega
theorem az_app {a b : Str} (ha : Az a) (hb : Az b) : Az (a ++ b) := fun c hc => by
  have hc : c ∈ (a.cps ++ b.cps).toList := hc
  rw [Array.toList_append] at hc
  rcases List.mem_append.mp hc with h | h
  · exact ha c h
  · exact hb c h
theorem az_one {c : Nat} (h : 97 ≤ c ∧ c ≤ 122) : Az ⟨#[c]⟩ := fun x hx => by
  have : x = c := by simpa using hx
  rw [this]
  exact h
theorem az_fold (c : Array Nat) (hc : ∀ x ∈ c.toList, 97 ≤ x ∧ x ≤ 122) : ∀ (k : Nat) (acc : Array Nat), (∀ x ∈ acc.toList, 97 ≤ x ∧ x ≤ 122) → ∀ x ∈ ((List.replicate k c).foldl (· ++ ·) acc).toList, 97 ≤ x ∧ x ≤ 122
  | 0, acc, h => h
  | k + 1, acc, h => by
    rw [List.replicate_succ, List.foldl_cons]
    refine az_fold c hc k _ fun x hx => ?_
    rw [Array.toList_append] at hx
    rcases List.mem_append.mp hx with q | q
    · exact h x q
    · exact hc x q
theorem az_rep {z : Str} (h : Az z) (n : Int) : Az (strRep z n) := by
  unfold strRep
  by_cases c : n < 1
  · rw [if_pos c]
    exact fun x hx => absurd hx (by simp [Str.empty])
  · rw [if_neg c]
    by_cases d : (n == 1 || z.length == 0) = true
    · rw [if_pos d]
      exact h
    · rw [if_neg d]
      exact az_fold _ h _ _ (fun x hx => absurd hx (by simp))
theorem nm_lt {z : Str} (h : Nm z) : LtOk z := ⟨fun e => by
  have h1 : 1 ≤ z.cps.size := h.1
  rw [← Array.length_toList, e] at h1
  exact absurd h1 (by decide), h.2.2.ok⟩
/-! ### numbers -/
/-- below 2 ^ n either way -/
def Sm (n : Nat) (x : Int) : Prop := x.natAbs < 2 ^ n
theorem Sm.mono {a b : Nat} {x : Int} (h : Sm a x) (l : a ≤ b) : Sm b x := Nat.lt_of_lt_of_le h (Nat.pow_le_pow_right (by decide) l)
theorem Sm.le {a : Nat} {x y : Int} (h : Sm a x) (l : y.natAbs ≤ x.natAbs) : Sm a y := Nat.lt_of_le_of_lt l h
theorem Sm.neg {a : Nat} {x : Int} (h : Sm a x) : Sm a (-x) := by
  unfold Sm at *
  omega
theorem Sm.mul {a b : Nat} {x y : Int} (h : Sm a x) (g : Sm b y) : Sm (a + b) (x * y) := by
  unfold Sm at *
  rw [Int.natAbs_mul, Nat.pow_add]
  exact Nat.mul_lt_mul'' h g
theorem Sm.add {a : Nat} {x y : Int} (h : Sm a x) (g : Sm a y) : Sm (a + 1) (x + y) := by
  unfold Sm at *
  rw [Nat.pow_succ]
  omega
theorem Sm.sub {a : Nat} {x y : Int} (h : Sm a x) (g : Sm a y) : Sm (a + 1) (x - y) := by
  unfold Sm at *
  rw [Nat.pow_succ]
  omega
theorem Sm.pow {a : Nat} {x : Int} (h : Sm a x) : ∀ n : Nat, Sm (a * n + 1) (x ^ n)
  | 0 => by
    show (x ^ 0).natAbs < 2 ^ (a * 0 + 1)
    rw [Int.pow_zero, Nat.mul_zero]
    decide
  | n + 1 => by
    have := (Sm.pow h n).mul h
    rw [← Int.pow_succ] at this
    exact this.mono (by rw [Nat.mul_succ]; omega)
theorem Sm.mulW {a b : Nat} {x y : Int} (h : Sm a x) (g : Sm b y) (l : a + b ≤ 100000) : CMulW x y := by
  have h1 := wide_mul (a := a + 1) (b := b + 1) (h.mono (by omega)) (g.mono (by omega)) (by omega) (by omega) (by omega)
  exact h1
theorem Sm.div {a : Nat} {x : Int} (h : Sm a x) (n : x ≠ 0) (l : a ≤ 8000) : CDivWN 0 x := ⟨n, by
  have := PySem.Flt.log2_lt_of (k := a + 1) (by omega) (Nat.lt_of_lt_of_le h (Nat.pow_le_pow_right (by decide) (by omega)))
  omega⟩
theorem divN_any {i i' j : Int} (h : CDivWN i j) : CDivWN i' j := h
/-! ### the form -/
inductive Op4 where
  | plus | minus | times | over
deriving DecidableEq
def Op4.name : Op4 → Str
  | .plus => "plus" | .minus => "minus" | .times => "times" | .over => "over"
inductive Rk where
  | is (x y : Int) (m : Ms)
  | nought
  | input (s : Str)
  | bin (o : Op4) (a b : Rk)
  | power (a : Rk) (n : Int)
  | less (a b c d : Rk)
/-- at b the measure m, a tuple that bears no dict -/
def MsN (H : Hp) (b : Addr) (m : Ms) : Prop := ∃ ts : List Addr, TupN H b (ts.map V.ref) ∧ Paired (PrAt H) ts m
theorem MsN.same {H H' : Hp} {b : Addr} {m : Ms} (s : Same H H') (h : MsN H b m) : MsN H' b m := by
  obtain ⟨ts, ⟨o, e, d⟩, p⟩ := h
  exact ⟨ts, ⟨o, s _ _ e, d⟩, pr_same s p⟩
abbrev FracAt (H : Hp) (p : Addr) (u v : Int) : Prop := H p = some (.tup [.int u, .int v])
/-- a reckoning as it lies there -/
def TrAt (H : Hp) : Rk → Addr → Prop
  | .is x y m, p => ∃ q b, H p = some (.tup [.str "is", .ref q, .ref b]) ∧ FracAt H q x y ∧ MsN H b m
  | .nought, p => H p = some (.tup [.str "nought"])
  | .input s, p => H p = some (.tup [.str "input", .str s])
  | .bin o a b, p => ∃ q r, H p = some (.tup [.str o.name, .ref q, .ref r]) ∧ TrAt H a q ∧ TrAt H b r
  | .power a n, p => ∃ q, H p = some (.tup [.str "power", .ref q, .int n]) ∧ TrAt H a q
  | .less a b c d, p => ∃ q r s t, H p = some (.tup [.str "less", .ref q, .ref r, .ref s, .ref t]) ∧ TrAt H a q ∧ TrAt H b r ∧ TrAt H c s ∧ TrAt H d t
theorem TrAt.same {H H' : Hp} (s : Same H H') : ∀ {r : Rk} {p : Addr}, TrAt H r p → TrAt H' r p
  | .is x y m, p, ⟨q, b, h1, h2, h3⟩ => ⟨q, b, s _ _ h1, s _ _ h2, h3.same s⟩
  | .nought, p, h => s p _ h
  | .input z, p, h => s p _ h
  | .bin o a b, p, ⟨q, r, h1, h2, h3⟩ => ⟨q, r, s _ _ h1, TrAt.same s h2, TrAt.same s h3⟩
  | .power a n, p, ⟨q, h1, h2⟩ => ⟨q, s _ _ h1, TrAt.same s h2⟩
  | .less a b c d, p, ⟨q, r, u, v, h1, h2, h3, h4, h5⟩ => ⟨q, r, u, v, s _ _ h1, TrAt.same s h2, TrAt.same s h3, TrAt.same s h4, TrAt.same s h5⟩
/-- a measure of an is: in its form, few letters, all of them bases, small powers -/
structure MsIn (m : Ms) : Prop where
  can : Can m
  few : m.length ≤ 6
  nm : ∀ p ∈ m, Nm p.1
  sm : ∀ p ∈ m, p.2.natAbs ≤ 20
/-- within the bounds that its parts have -/
def Rk.Ok : Rk → Prop
  | .is x y m => Red x y ∧ x.natAbs ≤ 10 ^ 9 ∧ y ≤ 10 ^ 9 ∧ MsIn m
  | .nought => True
  | .input s => Nm s
  | .bin _ a b => a.Ok ∧ b.Ok
  | .power a n => a.Ok ∧ -4 ≤ n ∧ n ≤ 4
  | .less a b c d => a.Ok ∧ b.Ok ∧ c.Ok ∧ d.Ok
/-- how deep: one without parts is one deep -/
def Rk.deep : Rk → Nat
  | .bin _ a b => 1 + max a.deep b.deep
  | .power a _ => 1 + a.deep
  | .less a b c d => 1 + max (max a.deep b.deep) (max c.deep d.deep)
  | _ => 1
/-- how many reckonings in all -/
def Rk.many : Rk → Nat
  | .bin _ a b => 1 + (a.many + b.many)
  | .power a _ => 1 + a.many
  | .less a b c d => 1 + (a.many + b.many + c.many + d.many)
  | _ => 1
/-- how many powers within one another -/
def Rk.pows : Rk → Nat
  | .bin _ a b => max a.pows b.pows
  | .power a _ => 1 + a.pows
  | .less a b c d => max (max a.pows b.pows) (max c.pows d.pows)
  | _ => 0
/-- how many noughts -/
def Rk.noughts : Rk → Nat
  | .nought => 1
  | .bin _ a b => a.noughts + b.noughts
  | .power a _ => a.noughts
  | .less a b c d => a.noughts + b.noughts + c.noughts + d.noughts
  | _ => 0
/-- the names of its inputs, as they stand -/
def Rk.ins : Rk → List Str
  | .input s => [s]
  | .bin _ a b => a.ins ++ b.ins
  | .power a _ => a.ins
  | .less a b c d => a.ins ++ b.ins ++ c.ins ++ d.ins
  | _ => []
/-- the letters of its numbers -/
def Rk.lts : Rk → List Str
  | .is _ _ m => m.map (·.1)
  | .bin _ a b => a.lts ++ b.lts
  | .power a _ => a.lts
  | .less a b c d => a.lts ++ b.lts ++ c.lts ++ d.lts
  | _ => []
theorem Rk.deep_pos : ∀ r : Rk, 1 ≤ r.deep
  | .is _ _ _ => Nat.le_refl _ | .nought => Nat.le_refl _ | .input _ => Nat.le_refl _
  | .bin _ _ _ => Nat.le_add_right _ _ | .power _ _ => Nat.le_add_right _ _ | .less _ _ _ _ => Nat.le_add_right _ _
/-! ### what it comes to -/
/-- x over y in lowest terms -/
def norm (x y : Int) : Int × Int := (x.fdiv (cut x y), y.fdiv (cut x y))
theorem norm_red {x y : Int} (h : y ≠ 0) : Red (norm x y).1 (norm x y).2 := (cut_ok h).1
theorem norm_val {x y : Int} (h : y ≠ 0) : (norm x y).1 * y = x * (norm x y).2 := (cut_ok h).2.1
theorem norm_sm {x y : Int} {a : Nat} (h : y ≠ 0) (h1 : Sm a x) (h2 : Sm a y) : Sm a (norm x y).1 ∧ Sm a (norm x y).2 := ⟨h1.le (cut_ok h).2.2.1, h2.le (cut_ok h).2.2.2⟩
theorem norm_is {x y u v : Int} (h : y ≠ 0) (r : Red u v) (e : u * y = x * v) : norm x y = (u, v) := by
  have h1 := norm_red (x := x) h
  have h2 := norm_val (x := x) h
  obtain ⟨e1, e2⟩ := red_uniq h1 r (by
    have h3 : (norm x y).1 * v * y = u * (norm x y).2 * y := by
      rw [Int.mul_right_comm, h2, Int.mul_right_comm u, e, Int.mul_right_comm]
    exact Int.eq_of_mul_eq_mul_right h h3)
  exact Prod.ext e1 e2
def valOp : Op4 → Int × Int → Int × Int → Option (Int × Int)
  | .plus, a, b => some (norm (a.1 * b.2 + b.1 * a.2) (a.2 * b.2))
  | .minus, a, b => some (norm (a.1 * b.2 - b.1 * a.2) (a.2 * b.2))
  | .times, a, b => some (norm (a.1 * b.1) (a.2 * b.2))
  | .over, a, b => if b.1 = 0 then none else some (norm (a.1 * b.2) (a.2 * b.1))
def pwA (x y n : Int) : Int := if n < 0 then y ^ n.natAbs else x ^ n.natAbs
def pwB (x y n : Int) : Int := if n < 0 then x ^ n.natAbs else y ^ n.natAbs
def valPow (a : Int × Int) (n : Int) : Option (Int × Int) := if pwB a.1 a.2 n = 0 then none else some (norm (pwA a.1 a.2 n) (pwB a.1 a.2 n))
def val (env : Str → Option (Int × Int)) : Rk → Option (Int × Int)
  | .is x y _ => some (x, y)
  | .nought => some (0, 1)
  | .input s => env s
  | .bin o a b => (val env a).bind fun u => (val env b).bind fun v => valOp o u v
  | .power a n => (val env a).bind fun u => valPow u n
  | .less a b c d => (val env a).bind fun u => (val env b).bind fun v => if u.1 * v.2 < v.1 * u.2 then val env c else val env d
/-- how many signs (in twos) its value may have -/
def Rk.bits : Rk → Nat
  | .bin _ a b => a.bits + b.bits + 1
  | .power a _ => a.bits * 4 + 1
  | .less a b c d => max (max a.bits b.bits) (max c.bits d.bits)
  | _ => 30
/-- a fraction in lowest terms, below 2 ^ n -/
def FrSm (n : Nat) (u : Int × Int) : Prop := Red u.1 u.2 ∧ Sm n u.1 ∧ Sm n u.2
theorem FrSm.mono {a b : Nat} {u : Int × Int} (h : FrSm a u) (l : a ≤ b) : FrSm b u := ⟨h.1, h.2.1.mono l, h.2.2.mono l⟩
theorem valOp_sm {o : Op4} {u v r : Int × Int} {a b : Nat} (hu : FrSm a u) (hv : FrSm b v) (e : valOp o u v = some r) : FrSm (a + b + 1) r := by
  obtain ⟨ru, u1, u2⟩ := hu
  obtain ⟨rv, v1, v2⟩ := hv
  have n0 : u.2 * v.2 ≠ 0 := Int.ne_of_gt (Int.mul_pos ru.1 rv.1)
  have s0 : Sm (a + b + 1) (u.2 * v.2) := (u2.mul v2).mono (by omega)
  have c1 : Sm (a + b) (u.1 * v.2) := u1.mul v2
  have c2 : Sm (a + b) (v.1 * u.2) := (v1.mul u2).mono (by omega)
  cases o with
  | plus =>
    cases e
    exact ⟨norm_red n0, norm_sm n0 (c1.add c2) s0⟩
  | minus =>
    cases e
    exact ⟨norm_red n0, norm_sm n0 (c1.sub c2) s0⟩
  | times =>
    cases e
    exact ⟨norm_red n0, norm_sm n0 ((u1.mul v1).mono (by omega)) s0⟩
  | over =>
    have e : (if v.1 = 0 then none else some (norm (u.1 * v.2) (u.2 * v.1))) = some r := e
    by_cases z : v.1 = 0
    · rw [if_pos z] at e
      cases e
    · rw [if_neg z] at e
      cases e
      have n1 : u.2 * v.1 ≠ 0 := Int.mul_ne_zero (Int.ne_of_gt ru.1) z
      exact ⟨norm_red n1, norm_sm n1 (c1.mono (by omega)) ((u2.mul v1).mono (by omega))⟩
theorem pw_sm {x y n : Int} {a : Nat} (hx : Sm a x) (hy : Sm a y) (h1 : -4 ≤ n) (h2 : n ≤ 4) : Sm (a * 4 + 1) (pwA x y n) ∧ Sm (a * 4 + 1) (pwB x y n) := by
  have l : a * n.natAbs + 1 ≤ a * 4 + 1 := Nat.add_le_add_right (Nat.mul_le_mul_left _ (by omega)) 1
  unfold pwA pwB
  by_cases e : n < 0
  · rw [if_pos e, if_pos e]
    exact ⟨(hy.pow _).mono l, (hx.pow _).mono l⟩
  · rw [if_neg e, if_neg e]
    exact ⟨(hx.pow _).mono l, (hy.pow _).mono l⟩
theorem valPow_sm {u r : Int × Int} {n : Int} {a : Nat} (hu : FrSm a u) (h1 : -4 ≤ n) (h2 : n ≤ 4) (e : valPow u n = some r) : FrSm (a * 4 + 1) r := by
  unfold valPow at e
  by_cases z : pwB u.1 u.2 n = 0
  · rw [if_pos z] at e
    cases e
  · rw [if_neg z] at e
    cases e
    obtain ⟨s1, s2⟩ := pw_sm hu.2.1 hu.2.2 h1 h2
    exact ⟨norm_red z, norm_sm z s1 s2⟩
theorem bind_some {α β : Type} {o : Option α} {f : α → Option β} {r : β} (e : o.bind f = some r) : ∃ u, o = some u ∧ f u = some r := by
  cases o with
  | none => cases e
  | some u => exact ⟨u, rfl, e⟩
theorem sm30 {x : Int} (h : x.natAbs ≤ 10 ^ 9) : Sm 30 x := Nat.lt_of_le_of_lt h (by decide)
theorem val_sm {env : Str → Option (Int × Int)} (he : ∀ s u, env s = some u → FrSm 30 u) : ∀ {r : Rk} {u : Int × Int}, r.Ok → val env r = some u → FrSm r.bits u
  | .is x y m, u, ⟨h1, h2, h3, _⟩, e => by
    cases e
    exact ⟨h1, sm30 h2, sm30 (by have := h1.1; omega)⟩
  | .nought, u, _, e => by
    cases e
    exact ⟨⟨by decide, by decide⟩, by show (0 : Int).natAbs < 2 ^ 30; decide, by show (1 : Int).natAbs < 2 ^ 30; decide⟩
  | .input s, u, _, e => he s u e
  | .bin o a b, u, ⟨h1, h2⟩, e => by
    obtain ⟨x, e1, e⟩ := bind_some e
    obtain ⟨y, e2, e⟩ := bind_some e
    exact valOp_sm (val_sm he h1 e1) (val_sm he h2 e2) e
  | .power a n, u, ⟨h1, h2, h3⟩, e => by
    obtain ⟨x, e1, e⟩ := bind_some e
    exact valPow_sm (val_sm he h1 e1) h2 h3 e
  | .less a b c d, u, ⟨h1, h2, h3, h4⟩, e => by
    obtain ⟨x, e1, e⟩ := bind_some e
    obtain ⟨y, e2, e⟩ := bind_some e
    by_cases z : x.1 * y.2 < y.1 * x.2
    · rw [if_pos z] at e
      exact (val_sm he h3 e).mono (Nat.le_trans (Nat.le_max_left _ _) (Nat.le_max_right _ _))
    · rw [if_neg z] at e
      exact (val_sm he h4 e).mono (Nat.le_trans (Nat.le_max_right _ _) (Nat.le_max_right _ _))
/-- the most signs by depth and powers: for the law's trees -/
theorem bits_by : ∀ {r : Rk}, r.deep ≤ 4 → r.pows ≤ 2 → r.bits ≤ 1000 := by
  have leaf : ∀ r : Rk, r.deep ≤ 1 → r.bits ≤ 30 ∧ r.pows = 0 := fun r h => by
    cases r with
    | bin o a b => have h : 1 + max a.deep b.deep ≤ 1 := h; have := a.deep_pos; omega
    | power a n => have h : 1 + a.deep ≤ 1 := h; have := a.deep_pos; omega
    | less a b c d => have h : 1 + max (max a.deep b.deep) (max c.deep d.deep) ≤ 1 := h; have := a.deep_pos; omega
    | is _ _ _ => exact ⟨Nat.le_refl _, rfl⟩
    | nought => exact ⟨Nat.le_refl _, rfl⟩
    | input _ => exact ⟨Nat.le_refl _, rfl⟩
  have two : ∀ r : Rk, r.deep ≤ 2 → (r.pows = 0 → r.bits ≤ 61) ∧ r.bits ≤ 121 := fun r h => by
    cases r with
    | bin o a b =>
      have h : 1 + max a.deep b.deep ≤ 2 := h
      have := leaf a (by omega); have := leaf b (by omega)
      show (_ → a.bits + b.bits + 1 ≤ 61) ∧ a.bits + b.bits + 1 ≤ 121
      omega
    | power a n =>
      have h : 1 + a.deep ≤ 2 := h
      have := leaf a (by omega)
      show (1 + a.pows = 0 → _) ∧ a.bits * 4 + 1 ≤ 121
      omega
    | less a b c d =>
      have h : 1 + max (max a.deep b.deep) (max c.deep d.deep) ≤ 2 := h
      have := leaf a (by omega); have := leaf b (by omega); have := leaf c (by omega); have := leaf d (by omega)
      show (_ → max (max a.bits b.bits) (max c.bits d.bits) ≤ 61) ∧ max (max a.bits b.bits) (max c.bits d.bits) ≤ 121
      omega
    | is _ _ _ => exact ⟨fun _ => by show 30 ≤ 61; decide, by show 30 ≤ 121; decide⟩
    | nought => exact ⟨fun _ => by show 30 ≤ 61; decide, by show 30 ≤ 121; decide⟩
    | input _ => exact ⟨fun _ => by show 30 ≤ 61; decide, by show 30 ≤ 121; decide⟩
  have three : ∀ r : Rk, r.deep ≤ 3 → (r.pows ≤ 1 → r.bits ≤ 245) ∧ (r.pows ≤ 2 → r.bits ≤ 485) := fun r h => by
    cases r with
    | bin o a b =>
      have h : 1 + max a.deep b.deep ≤ 3 := h
      have := two a (by omega); have := two b (by omega)
      show (max a.pows b.pows ≤ 1 → a.bits + b.bits + 1 ≤ 245) ∧ (max a.pows b.pows ≤ 2 → a.bits + b.bits + 1 ≤ 485)
      omega
    | power a n =>
      have h : 1 + a.deep ≤ 3 := h
      have := two a (by omega)
      show (1 + a.pows ≤ 1 → a.bits * 4 + 1 ≤ 245) ∧ (1 + a.pows ≤ 2 → a.bits * 4 + 1 ≤ 485)
      omega
    | less a b c d =>
      have h : 1 + max (max a.deep b.deep) (max c.deep d.deep) ≤ 3 := h
      have := two a (by omega); have := two b (by omega); have := two c (by omega); have := two d (by omega)
      show (max (max a.pows b.pows) (max c.pows d.pows) ≤ 1 → max (max a.bits b.bits) (max c.bits d.bits) ≤ 245) ∧ (max (max a.pows b.pows) (max c.pows d.pows) ≤ 2 → max (max a.bits b.bits) (max c.bits d.bits) ≤ 485)
      omega
    | is _ _ _ => exact ⟨fun _ => by show 30 ≤ 245; decide, fun _ => by show 30 ≤ 485; decide⟩
    | nought => exact ⟨fun _ => by show 30 ≤ 245; decide, fun _ => by show 30 ≤ 485; decide⟩
    | input _ => exact ⟨fun _ => by show 30 ≤ 245; decide, fun _ => by show 30 ≤ 485; decide⟩
  intro r h p
  cases r with
  | bin o a b =>
    have h : 1 + max a.deep b.deep ≤ 4 := h
    have p : max a.pows b.pows ≤ 2 := p
    have := three a (by omega); have := three b (by omega)
    show a.bits + b.bits + 1 ≤ 1000
    omega
  | power a n =>
    have h : 1 + a.deep ≤ 4 := h
    have p : 1 + a.pows ≤ 2 := p
    have := three a (by omega)
    show a.bits * 4 + 1 ≤ 1000
    omega
  | less a b c d =>
    have h : 1 + max (max a.deep b.deep) (max c.deep d.deep) ≤ 4 := h
    have p : max (max a.pows b.pows) (max c.pows d.pows) ≤ 2 := p
    have := three a (by omega); have := three b (by omega); have := three c (by omega); have := three d (by omega)
    show max (max a.bits b.bits) (max c.bits d.bits) ≤ 1000
    omega
  | is _ _ _ => show 30 ≤ 1000; decide
  | nought => show 30 ≤ 1000; decide
  | input _ => show 30 ≤ 1000; decide
end MK
namespace MK
open PySem PySem.Spec PyProof.Rows L2
/-- what a dict gives when made: of its pairs -/
theorem made_in {m r : Ms} (hc : Can r) (he : ∀ j, at0 r j = at0 m j) : ∀ x ∈ r, x ∈ m := fun x hx => by
  have q := (hc.mem x.1 x.2).mp hx
  have q2 : at0 m x.1 = x.2 := by rw [← he]; exact q.2
  have q3 := at0_mem (m := m) (j := x.1) (by rw [q2]; exact q.1)
  rw [q2] at q3
  exact q3
theorem made_few {m r : Ms} (hc : Can r) (he : ∀ j, at0 r j = at0 m j) : r.length ≤ m.length := List.Nodup.length_le_of_subset (nodup_of_map hc.ris.nodup) (made_in hc he)
theorem two_val {a b : V} {i : Int} (h0 : 0 ≤ i) (h1 : i < 2) : ∃ v, atI [a, b] i = some v ∧ (v = a ∨ v = b) := by
  have : i = 0 ∨ i = 1 := by omega
  rcases this with rfl | rfl
  · exact ⟨a, rfl, .inl rfl⟩
  · exact ⟨b, rfl, .inr rfl⟩
theorem abs_natI (i : Int) : (if i < 0 then -i else i) = ((i.natAbs : Nat) : Int) := by
  split <;> omega
/-- an item of a list of texts at a place modulo its length -/
theorem mod_at {ws : List Str} (h0 : ws ≠ []) (x : Int) : ∃ z ∈ ws, atI (ws.map V.str) (x % ((ws.map V.str).length : Int)) = some (.str z) := by
  have hl : (0 : Int) < ((ws.map V.str).length : Int) := by
    rw [List.length_map]
    have := List.length_pos_iff.mpr h0
    omega
  obtain ⟨j, ej⟩ := Int.eq_ofNat_of_zero_le (Int.emod_nonneg x (show ((ws.map V.str).length : Int) ≠ 0 by omega))
  have hj : j < ws.length := by
    have := Int.emod_lt_of_pos x hl
    rw [List.length_map] at this ej
    omega
  refine ⟨ws[j], List.getElem_mem hj, ?_⟩
  rw [ej]
  exact atI_nat (by rw [List.getElem?_map, List.getElem?_eq_getElem hj]; rfl)
/-- a list of names -/
structure NmsAt (H : Hp) (a : Addr) (ws : List Str) : Prop where
  h : H a = some (.lst (ws.map V.str))
  n : ws ≠ []
  l : ws.length ≤ 1000
  z : ∀ z ∈ ws, Nm z
theorem NmsAt.same {H H' : Hp} {a : Addr} {ws : List Str} (s : Same H H') (h : NmsAt H a ws) : NmsAt H' a ws := ⟨s _ _ h.h, h.n, h.l, h.z⟩
/-- a reckoning of these names and letters, d deep at most, with at most p powers within one another -/
structure RkIn (ws bs : List Str) (d p : Nat) (r : Rk) : Prop where
  ok : r.Ok
  deep : r.deep ≤ d
  pows : r.pows ≤ p
  ins : ∀ s ∈ r.ins, s ∈ ws
  lts : ∀ s ∈ r.lts, s ∈ bs
theorem RkIn.mono {ws bs : List Str} {d p d' p' : Nat} {r : Rk} (h : RkIn ws bs d p r) (hd : d ≤ d') (hp : p ≤ p') : RkIn ws bs d' p' r := ⟨h.ok, Nat.le_trans h.deep hd, Nat.le_trans h.pows hp, h.ins, h.lts⟩
theorem RkIn.bin {ws bs : List Str} {d p : Nat} {a b : Rk} (o : Op4) (h : RkIn ws bs d p a) (g : RkIn ws bs d p b) : RkIn ws bs (1 + d) p (.bin o a b) := by
  refine ⟨⟨h.ok, g.ok⟩, ?_, ?_, fun s hs => ?_, fun s hs => ?_⟩
  · have := h.deep; have := g.deep
    show 1 + max a.deep b.deep ≤ _
    omega
  · have := h.pows; have := g.pows
    show max a.pows b.pows ≤ _
    omega
  · rcases List.mem_append.mp hs with z | z
    · exact h.ins s z
    · exact g.ins s z
  · rcases List.mem_append.mp hs with z | z
    · exact h.lts s z
    · exact g.lts s z
theorem RkIn.power {ws bs : List Str} {d p : Nat} {a : Rk} {n : Int} (h : RkIn ws bs d p a) (h1 : -4 ≤ n) (h2 : n ≤ 4) : RkIn ws bs (1 + d) (1 + p) (.power a n) := by
  refine ⟨⟨h.ok, h1, h2⟩, ?_, ?_, h.ins, h.lts⟩
  · have := h.deep
    show 1 + a.deep ≤ _
    omega
  · have := h.pows
    show 1 + a.pows ≤ _
    omega
theorem RkIn.less {ws bs : List Str} {d p : Nat} {a b c e : Rk} (h : RkIn ws bs d p a) (g : RkIn ws bs d p b) (i : RkIn ws bs d p c) (j : RkIn ws bs d p e) : RkIn ws bs (1 + d) p (.less a b c e) := by
  have ap : ∀ {s : Str} {k l m n : List Str}, s ∈ k ++ l ++ m ++ n → s ∈ k ∨ s ∈ l ∨ s ∈ m ∨ s ∈ n := fun hs => by
    simp only [List.mem_append] at hs
    rcases hs with ((h1 | h1) | h1) | h1
    · exact .inl h1
    · exact .inr (.inl h1)
    · exact .inr (.inr (.inl h1))
    · exact .inr (.inr (.inr h1))
  refine ⟨⟨h.ok, g.ok, i.ok, j.ok⟩, ?_, ?_, fun s hs => ?_, fun s hs => ?_⟩
  · have := h.deep; have := g.deep; have := i.deep; have := j.deep
    show 1 + max (max a.deep b.deep) (max c.deep e.deep) ≤ _
    omega
  · have := h.pows; have := g.pows; have := i.pows; have := j.pows
    show max (max a.pows b.pows) (max c.pows e.pows) ≤ _
    omega
  · rcases ap hs with z | z | z | z
    · exact h.ins s z
    · exact g.ins s z
    · exact i.ins s z
    · exact j.ins s z
  · rcases ap hs with z | z | z | z
    · exact h.lts s z
    · exact g.lts s z
    · exact i.lts s z
    · exact j.lts s z
theorem RkIn.nought {ws bs : List Str} {d p : Nat} (hd : 1 ≤ d) : RkIn ws bs d p .nought := ⟨trivial, hd, Nat.zero_le _, fun s hs => absurd hs (by show s ∉ []; simp), fun s hs => absurd hs (by show s ∉ []; simp)⟩
theorem RkIn.input {ws bs : List Str} {d p : Nat} {z : Str} (hd : 1 ≤ d) (hz : z ∈ ws) (n : Nm z) : RkIn ws bs d p (.input z) := ⟨n, hd, Nat.zero_le _, fun s hs => by
  have : s = z := List.mem_singleton.mp hs
  rw [this]
  exact hz, fun s hs => absurd hs (by show s ∉ []; simp)⟩
theorem RkIn.is {ws bs : List Str} {d p : Nat} {x y : Int} {m : Ms} (hd : 1 ≤ d) (r : Red x y) (h1 : x.natAbs ≤ 10 ^ 9) (h2 : y ≤ 10 ^ 9) (c : Can m) (l : m.length ≤ 6) (hb : ∀ z ∈ bs, Nm z) (hm : ∀ q ∈ m, q.1 ∈ bs ∧ q.2.natAbs ≤ 20) : RkIn ws bs d p (.is x y m) :=
  ⟨⟨r, h1, h2, c, l, fun q hq => hb _ (hm q hq).1, fun q hq => (hm q hq).2⟩, hd, Nat.zero_le _, fun s hs => absurd hs (by show s ∉ []; simp), fun s hs => by
    obtain ⟨q, hq, e⟩ := List.mem_map.mp hs
    rw [← e]
    exact (hm q hq).1⟩
/-- a def that is never called so -/
def spNo : Sp := fun _ _ _ _ => False
theorem fn_no {P : Program} {w : World} {K : PySem.W.Frag} {mg : Str → Option Value} {base : Heap} {CX : CXT} {k : Nat} {f : Addr} {fd : FuncData} {ps : List Str} : FnOk P w K mg base CX k f fd ps spNo :=
  ⟨fun _ _ _ _ h => h.elim, fun _ _ _ _ _ _ _ _ _ _ _ _ _ h => h.elim⟩
theorem four_op {i : Int} (h0 : 0 ≤ i) (h1 : i < 4) : ∃ o : Op4, atI [V.str "plus", V.str "minus", V.str "times", V.str "over"] i = some (.str o.name) := by
  have : i = 0 ∨ i = 1 ∨ i = 2 ∨ i = 3 := by omega
  rcases this with rfl | rfl | rfl | rfl
  · exact ⟨.plus, rfl⟩
  · exact ⟨.minus, rfl⟩
  · exact ⟨.times, rfl⟩
  · exact ⟨.over, rfl⟩
/-! ### the parts; values by name -/
def Rk.parts : Rk → List Rk
  | .bin _ a b => [a, b]
  | .power a _ => [a]
  | .less a b c d => [a, b, c, d]
  | _ => []
abbrev FrR (H : Hp) (x : Str × Addr) (y : Str × (Int × Int)) : Prop := x.1 = y.1 ∧ FracAt H x.2 y.2.1 y.2.2
/-- a dict of names with fractions -/
def VlAt (H : Hp) (d : Addr) (ads : List (Str × Addr)) (vl : List (Str × (Int × Int))) : Prop := H d = some (.dK (encG V.ref ads)) ∧ Paired (FrR H) ads vl
theorem frs_same {H H' : Hp} {ads : List (Str × Addr)} {vl : List (Str × (Int × Int))} (s : Same H H') (p : Paired (FrR H) ads vl) : Paired (FrR H') ads vl := Paired.mono (fun x y z => ⟨z.1, s _ _ z.2⟩) p
theorem VlAt.same {H H' : Hp} {d : Addr} {ads : List (Str × Addr)} {vl : List (Str × (Int × Int))} (s : Same H H') (h : VlAt H d ads vl) : VlAt H' d ads vl := ⟨s _ _ h.1, frs_same s h.2⟩
theorem frs_lk {H : Hp} {ads : List (Str × Addr)} {vl : List (Str × (Int × Int))} (p : Paired (FrR H) ads vl) (l : Str) : (lk ads l = none ∧ lk vl l = none) ∨ ∃ b u, lk ads l = some b ∧ lk vl l = some u ∧ FracAt H b u.1 u.2 := by
  induction p with
  | nil => exact .inl ⟨rfl, rfl⟩
  | @cons x y xs ys h _ ih =>
    obtain ⟨h1, h2⟩ := h
    by_cases e : x.1 = l
    · exact .inr ⟨x.2, y.2, if_pos e, if_pos (h1 ▸ e), h2⟩
    · have e' : ¬ y.1 = l := fun z => e (h1.trans z)
      rw [show lk (x :: xs) l = lk xs l from if_neg e, show lk (y :: ys) l = lk ys l from if_neg e']
      exact ih
theorem frs_put {H : Hp} {l : Str} {b : Addr} {u : Int × Int} (h : FracAt H b u.1 u.2) {ads : List (Str × Addr)} {vl : List (Str × (Int × Int))} (p : Paired (FrR H) ads vl) : Paired (FrR H) (put ads l b) (put vl l u) := by
  induction p with
  | nil => exact .cons ⟨rfl, h⟩ .nil
  | @cons x y xs ys q r ih =>
    obtain ⟨q1, q2⟩ := q
    by_cases e : x.1 = l
    · have e' : y.1 = l := q1 ▸ e
      rw [show put (x :: xs) l b = (x.1, b) :: xs from if_pos e, show put (y :: ys) l u = (y.1, u) :: ys from if_pos e']
      exact .cons ⟨q1, h⟩ r
    · have e' : ¬ y.1 = l := fun z => e (q1.trans z)
      rw [show put (x :: xs) l b = x :: put xs l b from if_neg e, show put (y :: ys) l u = y :: put ys l u from if_neg e']
      exact .cons ⟨q1, q2⟩ ih
theorem vl_get {H : Hp} {d : Addr} {ads : List (Str × Addr)} {vl : List (Str × (Int × Int))} (h : VlAt H d ads vl) {l : Str} (n : lk vl l ≠ none) : ∃ b u, lk vl l = some u ∧ DGet H d (.str l) (some (.ref b)) ∧ FracAt H b u.1 u.2 := by
  rcases frs_lk h.2 l with ⟨_, a2⟩ | ⟨b, u, a1, a2, a3⟩
  · exact absurd a2 n
  · refine ⟨b, u, a2, ?_, a3⟩
    have := DGet.k (k := Sum.inr l) h.1
    rw [encG_val, a1] at this
    exact this
/-- None, or a fraction that lies there -/
def Told (H : Hp) (o : Option (Int × Int)) (v : V) : Prop := match o with
  | none => v = .non
  | some u => ∃ p, v = .ref p ∧ FracAt H p u.1 u.2
theorem Told.same {H H' : Hp} {o : Option (Int × Int)} {v : V} (s : Same H H') (h : Told H o v) : Told H' o v := by
  cases o with
  | none => exact h
  | some u =>
    obtain ⟨p, e, q⟩ := h
    exact ⟨p, e, s _ _ q⟩
theorem parts_deep : ∀ {r x : Rk}, x ∈ r.parts → x.deep + 1 ≤ r.deep
  | .bin _ a b, x, h => by
    show x.deep + 1 ≤ 1 + max a.deep b.deep
    rcases List.mem_cons.mp h with e | h
    · rw [e]; omega
    · rw [List.mem_singleton.mp h]; omega
  | .power a _, x, h => by
    show x.deep + 1 ≤ 1 + a.deep
    rw [List.mem_singleton.mp h]; omega
  | .less a b c d, x, h => by
    show x.deep + 1 ≤ 1 + max (max a.deep b.deep) (max c.deep d.deep)
    rcases List.mem_cons.mp h with e | h
    · rw [e]; omega
    · rcases List.mem_cons.mp h with e | h
      · rw [e]; omega
      · rcases List.mem_cons.mp h with e | h
        · rw [e]; omega
        · rw [List.mem_singleton.mp h]; omega
theorem ins_parts : ∀ {r : Rk}, (∀ z, r ≠ .input z) → r.ins = r.parts.flatMap Rk.ins
  | .is _ _ _, _ => rfl
  | .nought, _ => rfl
  | .input z, h => absurd rfl (h z)
  | .bin _ a b, _ => by
    show a.ins ++ b.ins = a.ins ++ (b.ins ++ [])
    rw [List.append_nil]
  | .power a _, _ => by
    show a.ins = a.ins ++ []
    rw [List.append_nil]
  | .less a b c d, _ => by
    show a.ins ++ b.ins ++ c.ins ++ d.ins = a.ins ++ (b.ins ++ (c.ins ++ (d.ins ++ [])))
    rw [List.append_nil, List.append_assoc, List.append_assoc]
theorem flat_more {α β : Type} {f : α → List β} {l : List α} {i : Nat} {x : α} (h : l[i]? = some x) : (l.take (i + 1)).flatMap f = (l.take i).flatMap f ++ f x := by
  rw [take_more h, List.flatMap_append]
  show _ ++ (f x ++ []) = _
  rw [List.append_nil]
theorem flat_le {α β : Type} {f : α → List β} (l : List α) (i : Nat) : ((l.take i).flatMap f).length ≤ (l.flatMap f).length := by
  conv => rhs; rw [← List.take_append_drop i l, List.flatMap_append, List.length_append]
  exact Nat.le_add_right _ _
/-- different ones, rising or alike: rising -/
theorem ris_of {ks : List Str} (hs : ks.Pairwise fun a b => ¬ sLt b a) (hn : ks.Nodup) : ks.Pairwise sLt := by
  refine (hs.and hn).imp ?_
  rintro a b ⟨h1, h2⟩
  exact Decidable.byContradiction fun h3 => h2 (sLt_tri h3 h1)
/-- the names of ins, rising, each once -/
structure Names (ins ys : List Str) : Prop where
  ris : ys.Pairwise sLt
  mem : ∀ z, z ∈ ys ↔ z ∈ ins
theorem Names.nodup {ins ys : List Str} (h : Names ins ys) : ys.Nodup := h.ris.imp fun q e => by
  rw [e] at q
  exact sLt_irr _ q
theorem Names.few {ins ys : List Str} (h : Names ins ys) : ys.length ≤ ins.length := List.Nodup.length_le_of_subset h.nodup fun z hz => (h.mem z).mp hz
/-! ### a name taken out -/
def drp {α : Type} (m : List (Str × α)) (l : Str) : List (Str × α) := m.filter fun p => decide (p.1 ≠ l)
theorem drp_enc {α : Type} (g : α → V) (l : Str) : ∀ m : List (Str × α), (encG g m).filter (fun kv => decide (kv.1 ≠ (Sum.inr l : L2.Key))) = encG g (drp m l)
  | [] => rfl
  | p :: r => by
    have ih := drp_enc g l r
    unfold encG drp at *
    by_cases e : p.1 = l
    · have e2 : ¬ (Sum.inr p.1 : L2.Key) ≠ Sum.inr l := fun z => z (by rw [e])
      rw [List.map_cons, List.filter_cons, List.filter_cons, if_neg (by simpa using e2), if_neg (by simpa using e)]
      exact ih
    · have e2 : (Sum.inr p.1 : L2.Key) ≠ Sum.inr l := fun z => e (Sum.inr.inj z)
      rw [List.map_cons, List.filter_cons, List.filter_cons, if_pos (by simpa using e2), if_pos (by simpa using e), List.map_cons]
      rw [ih]
theorem drp_nodup {α : Type} {m : List (Str × α)} {l : Str} (h : (m.map (·.1)).Nodup) : ((drp m l).map (·.1)).Nodup := by
  unfold drp
  exact List.Nodup.sublist (List.Sublist.map _ List.filter_sublist) h
theorem drp_mem {α : Type} {m : List (Str × α)} {l : Str} {p : Str × α} (h : p ∈ drp m l) : p ∈ m := (List.mem_filter.mp h).1
theorem frs_drp {H : Hp} {l : Str} {ads : List (Str × Addr)} {vl : List (Str × (Int × Int))} (p : Paired (FrR H) ads vl) : Paired (FrR H) (drp ads l) (drp vl l) := by
  induction p with
  | nil => exact .nil
  | @cons x y xs ys h _ ih =>
    have e1 := h.1
    unfold drp at *
    by_cases e : x.1 = l
    · rw [List.filter_cons, List.filter_cons, if_neg (by simpa using e), if_neg (by rw [e1] at e; simpa using e)]
      exact ih
    · rw [List.filter_cons, List.filter_cons, if_pos (by simpa using e), if_pos (by rw [e1] at e; simpa using e)]
      exact .cons h ih
theorem frs_dict {H : Hp} {D : Addr} {kvs : List (L2.Key × V)} {o : HO} {ads : List (Str × Addr)} {vl : List (Str × (Int × Int))} (h : H D = some (.dK kvs)) (p : Paired (FrR H) ads vl) : Paired (FrR (L2.upd H D o)) ads vl := Paired.mono (fun x y z => by
  refine ⟨z.1, ?_⟩
  show L2.upd H D o x.2 = _
  rw [upd_ne (ne_of z.2 h (fun e => nomatch e))]
  exact z.2) p
theorem frs_keys {H : Hp} {ads : List (Str × Addr)} {vl : List (Str × (Int × Int))} (p : Paired (FrR H) ads vl) : ads.map (·.1) = vl.map (·.1) := by
  induction p with
  | nil => rfl
  | cons h _ ih => rw [List.map_cons, List.map_cons, h.1, ih]
/-- a dict of names with fractions, as the law has it -/
structure VlOk (H : Hp) (d : Addr) (ads : List (Str × Addr)) (vl : List (Str × (Int × Int))) : Prop where
  v : VlAt H d ads vl
  nd : (vl.map (·.1)).Nodup
  sm : ∀ p ∈ vl, FrSm 30 p.2
  few : vl.length ≤ 4
theorem VlOk.lk {H : Hp} {d : Addr} {ads : List (Str × Addr)} {vl : List (Str × (Int × Int))} (h : VlOk H d ads vl) : ∀ s u, lk vl s = some u → FrSm 30 u := fun s u e => h.sm _ (mem_of_lk e)
theorem VlOk.len {H : Hp} {d : Addr} {ads : List (Str × Addr)} {vl : List (Str × (Int × Int))} (h : VlOk H d ads vl) : ads.length = vl.length := by
  have := congrArg List.length (frs_keys h.v.2)
  rw [List.length_map, List.length_map] at this
  exact this
theorem VlOk.same {H H' : Hp} {d : Addr} {ads : List (Str × Addr)} {vl : List (Str × (Int × Int))} (s : Same H H') (h : VlOk H d ads vl) : VlOk H' d ads vl := ⟨h.v.same s, h.nd, h.sm, h.few⟩
/-- at each key its own value -/
theorem VlOk.hits {H : Hp} {d : Addr} {ads : List (Str × Addr)} {vl : List (Str × (Int × Int))} (h : VlOk H d ads vl) : ∀ p ∈ encG V.ref ads, ∃ c, p.2 = .ref c ∧ valV (encG V.ref ads) p.1 = some (.ref c) := fun p hp => by
  obtain ⟨x, hx, rfl⟩ := List.mem_map.mp hp
  refine ⟨x.2, rfl, ?_⟩
  show valV (encG V.ref ads) (Sum.inr x.1) = _
  rw [encG_val, lk_of_mem (l := x.1) (v := x.2) (by rw [frs_keys h.v.2]; exact h.nd) hx]
  rfl
/-! ### dict of a measure -/
theorem put_new {α : Type} : ∀ {m : List (Str × α)} {l : Str} {v : α}, l ∉ m.map (·.1) → put m l v = m ++ [(l, v)]
  | [], _, _, _ => rfl
  | p :: r, l, v, h => by
    have e : ¬ p.1 = l := fun z => h (by rw [List.map_cons, z]; exact List.mem_cons_self)
    rw [show put (p :: r) l v = p :: put r l v from if_neg e, put_new (m := r) fun z => h (by rw [List.map_cons]; exact List.mem_cons_of_mem _ z)]
    rfl
theorem merge_enc {α : Type} (g : α → V) : ∀ (b a : List (Str × α)), ((a ++ b).map (·.1)).Nodup → mergeK (encG g a) (encG g b) = encG g (a ++ b)
  | [], a, _ => by
    rw [List.append_nil]
    rfl
  | p :: r, a, h => by
    have e : a ++ p :: r = (a ++ [p]) ++ r := by rw [List.append_assoc]; rfl
    have nd : (a.map (·.1)).Nodup := by
      rw [List.map_append] at h
      exact (List.nodup_append.mp h).1
    have np : p.1 ∉ a.map (·.1) := fun z => by
      rw [List.map_append] at h
      exact (List.nodup_append.mp h).2.2 _ z _ (by rw [List.map_cons]; exact List.mem_cons_self) rfl
    have ih := merge_enc g r (a ++ [p]) (by rw [← e]; exact h)
    rw [e, ← ih]
    show mergeK (putK (encG g a) (Sum.inr p.1 : L2.Key) (g p.2)) (encG g r) = _
    rw [encG_put g p.1 p.2 a nd, put_new np]
/-- the pairs of a measure, as dict() reads them -/
theorem ms_pairs {K : PySem.W.Frag} {H : Hp} : ∀ {ts : List Addr} {m : Ms}, Paired (PrAt H) ts m → Paired (fun p kv => SqT K H p [kV kv.1, kv.2]) ts (enc m)
  | _, _, .nil => .nil
  | _, _, .cons h t => .cons (SqT.of h) (ms_pairs t)
end MK


set_option Elab.async false
set_option linter.all false
set_option maxRecDepth 100000
set_option maxHeartbeats 4000000
/-! sorted(set(xs)), xs a list of texts. -/
namespace MKS
open PySem PySem.Spec PyProof.Rows PySem.Froz
variable {P : Program} {w : World} {A : Around} {E : Value → Shared → Prop} {s : Shared}
/-- the texts l lie in the set at a, in an order that can be walked -/
def TxAt (P : Program) (w : World) (h : Heap) (a : Addr) (l : List Str) : Prop :=
  ∃ D : SD, h.get? a = some (sObj "set" D) ∧ TxOk P w D l ∧ l.Nodup ∧ L2.Ris D.2.2.place.toList ∧ (w.params.followText "set-order" = true ∨ D.2.2.led = true)
theorem TxAt.keep {h h' : Heap} {a : Addr} {l : List Str} (x : TxAt P w h a l) (k : ∀ o, h.get? a = some o → h'.get? a = some o) : TxAt P w h' a l := by
  obtain ⟨D, h1, r⟩ := x
  exact ⟨D, k _ h1, r⟩
theorem tail_ris {ep : Nat} {es1 : Array (Int × Value)} {t2 : SetTable} {b : Bool} (r : L2.Ris t2.place.toList) : L2.Ris (tailTx ep es1 t2 b).2.2.place.toList ∧ (tailTx ep es1 t2 b).2.2.led = t2.led := by
  unfold tailTx
  split
  · exact ⟨L2.relayAll_ris _ _ _, L2.relayAll_led _ _ _⟩
  · exact ⟨r, rfl⟩
theorem add_ris {D : SD} {h : Int} {v : Value} (r : L2.Ris D.2.2.place.toList) : L2.Ris (addTx h v D).2.2.place.toList ∧ (addTx h v D).2.2.led = D.2.2.led := by
  unfold addTx
  have h1 := L2.layNew_ris D.2.2 D.1 h v r
  have h2 := L2.layNew_led D.2.2 D.1 h v
  by_cases c : (layNew D.2.2 D.1 h v).2.1.plain = true
  · rw [if_pos c]
    obtain ⟨q1, q2⟩ := tail_ris (ep := D.2.1) (es1 := (layNew D.2.2 D.1 h v).1) (b := (layNew D.2.2 D.1 h v).2.2.1) (t2 := { (layNew D.2.2 D.1 h v).2.1 with plain := false }) h1
    exact ⟨q1, q2.trans h2⟩
  · rw [if_neg c]
    obtain ⟨q1, q2⟩ := tail_ris (ep := D.2.1) (es1 := (layNew D.2.2 D.1 h v).1) (b := (layNew D.2.2 D.1 h v).2.2.1) h1
    exact ⟨q1, q2.trans h2⟩
/-- a text that is there already -/
theorem add_old {a : Addr} {D : SD} {l : List Str} {k : Str} {u : Tok} {Q : Bool → Shared → Prop} (ho : s.heap.get? a = some (sObj "set" D)) (F : TxOk P w D l) (hk : k ∈ l) (hb : l.length < scanBound) (q : Q false s) :
    wpAny (model P w) A (setAddHashed a (.str k u) (hashStr w k)) Q E s := by
  obtain ⟨es, ep, t⟩ := D
  have dd : (sObj "set" (es, ep, t)).data = .set es ep t := rfl
  have ff : t.fits es.size = true := F.fit
  have ee : ElemsOf (strKind P w) es.toList := F.el
  have zz : es.size = l.length := F.sz
  obtain ⟨e, he, hz⟩ := (F.mem k).mp hk
  cases hr : List.findIdx? (fun e => (strKind P w).is k e.2) es.toList with
  | none =>
    have := List.findIdx?_eq_none_iff.mp hr e he
    rw [hz] at this
    cases this
  | some j =>
    unfold setAddHashed setAddHashedIn
    refine wpAny_holding (wpAny_bind (wpAny_setState_of ho dd ff ?_))
    dsimp only
    rw [byScan_of rfl (show es.size < scanBound by omega) ee, if_pos rfl]
    unfold setAddByScan
    refine wpAny_bind (wpAny_bind (wpAny_rule (wpAny_bind (wpAny_setScan_of (knd := strKind P w) (k := k) (is_str k u) ho dd ff ee ?_))))
    rw [hr]
    exact wpAny_pure (wpAny_pure q)
/-- setAdd of a text -/
theorem add_any {a : Addr} {l : List Str} {k : Str} {u : Tok} {Q : Bool → Shared → Prop} (T : TxAt P w s.heap a l) (hb : l.length + 1 < scanBound)
    (q : ∀ b h' l', (∀ c, c ≠ a → h'.get? c = s.heap.get? c) → TxAt P w h' a l' → (∀ z, z ∈ l' ↔ z = k ∨ z ∈ l) → l'.length ≤ l.length + 1 → Q b { s with heap := h' }) :
    wpAny (model P w) A (setAddHashed a (.str k u) (hashStr w k)) Q E s := by
  obtain ⟨D, h1, F, nd, r, ld⟩ := T
  by_cases hk : k ∈ l
  · refine add_old h1 F hk (by omega) ?_
    exact q false s.heap l (fun _ _ => rfl) ⟨D, h1, F, nd, r, ld⟩ (fun z => ⟨.inr, fun y => y.elim (fun e => by rw [e]; exact hk) id⟩) (Nat.le_succ _)
  · refine add_x h1 F hk hb ?_
    obtain ⟨r1, r2⟩ := add_ris (h := hashStr w k) (v := .str k u) r
    refine q true _ (k :: l) (fun c hc => Heap.get?_update_other _ _ (Ne.symm hc)) ⟨_, get_upd _ h1 rfl, add_ok u F, List.nodup_cons.mpr ⟨hk, nd⟩, r1, ld.imp id fun z => by rw [r2]; exact z⟩ (fun z => List.mem_cons) (Nat.le_refl _)
/-- what the loop has made of the first i texts -/
def Mid (P : Program) (w : World) (S : Addr) (xs : List Str) (i : Nat) (h : Heap) : Prop := ∃ l, TxAt P w h S l ∧ (∀ z, z ∈ l ↔ z ∈ xs.take i) ∧ l.length ≤ i
/-- the loop of set.update over a list of texts -/
theorem loop_txt {I : Addr} {fp wr : List Addr} {G : Array GenState → Array GenState → Prop} {n : Nat} {Pv : Nat → Value → Prop} {St : Nat → Shared → Prop} {R : Result → Shared → Prop} (W : WalksS P w A.in1 I fp wr G n Pv St) (S : Addr) (sf : S ∉ fp)
    (xs : List Str) (hn : n = xs.length) (hb : n + 1 < scanBound) (hv : ∀ i v, Pv i v → ∃ x t, xs[i]? = some x ∧ v = .str x t) : ∀ (m i : Nat) (s : Shared), n - i = m → i ≤ n → St i s → Mid P w S xs i s.heap →
      (∀ s', Moved (S :: wr) G s s' → Mid P w S xs n s'.heap → R (.ok (.ret .none)) s') → codeAny (model P w) A (.builtin "set.update.loop" ⟨[.ref S, .ref I], []⟩) R s := by
  have sw : S ∉ wr := fun z => sf (W.sub _ z)
  have up : ∀ b ∈ wr, b ∈ S :: wr := fun b z => .tail _ z
  have keep : ∀ {u v : Shared} {i : Nat}, Moved wr G u v → Mid P w S xs i u.heap → Mid P w S xs i v.heap := fun mv ⟨l, t, e, z⟩ => ⟨l, t.keep fun o q => mv.heap S o sw q, e, z⟩
  intro m
  induction m with
  | zero =>
    intro i s e1 e2 st md fin
    obtain rfl : i = n := by omega
    refine codeAny_builtin F.entry_set_update_loop ?_
    rw [Around.under_plainId F.plain_set_update_loop _]
    exact wpAny_bind (m := pyNext (.ref I)) (W.done s _ _ st fun u mv => wpAny_pure (fin u (mv.mono up) (keep mv md)))
  | succ m ih =>
    intro i s e1 e2 st md fin
    refine codeAny_builtin F.entry_set_update_loop ?_
    rw [Around.under_plainId F.plain_set_update_loop _]
    refine wpAny_bind (m := pyNext (.ref I)) (W.item i s _ _ (by omega) st fun v u pv st1 mv => ?_)
    obtain ⟨x, t, hx, rfl⟩ := hv i v pv
    obtain ⟨l, tx, mem, len⟩ := keep mv md
    refine wpAny_bind (m := holding [Value.str x t] (setAdd S (.str x t))) (wpAny_holding ?_)
    unfold setAdd
    refine wpAny_holding (wpAny_bind ((strKind P w).pyHash (k := x) (is_str x t) ?_))
    refine add_any (s := { u with toks := u.toks + 1 }) tx (by omega) fun b h' l' oth tx' mem' len' => ?_
    refine wpAny_pure ⟨plainId_quiet F.plain_set_update_loop _, ih (i + 1) _ (by omega) (by omega) (W.frame _ u _ _ st1 (Nat.le_succ _) fun c hc o q => ?_) ⟨l', tx', fun z => ?_, by omega⟩ fun r mv2 md2 => ?_⟩
    · rw [oth c fun z => sf (z ▸ hc)]
      exact q
    · rw [mem' z, mem z, MK.take_more hx, List.mem_append, List.mem_singleton]
      exact Or.comm
    · refine fin r (Moved.trans W.gtrans ((mv.mono up).then_heap (Nat.le_succ _) fun c o hc q => ?_) mv2) md2
      rw [oth c fun z => hc (z ▸ .head _)]
      exact q
/-- a new set, empty -/
abbrev newO (w : World) : Obj := { cls := .type "set", dict := none, data := .set #[] 0 (.fresh 0 0 (!w.params.followText "set-order")) }
theorem new_tx {h : Heap} {a : Addr} (e : h.get? a = some (newO w)) : TxAt P w h a [] :=
  ⟨(#[], 0, .fresh 0 0 (!w.params.followText "set-order")), e, TxOk.nil rfl, List.nodup_nil, List.Pairwise.nil, by
    cases c : w.params.followText "set-order"
    · exact .inr rfl
    · exact .inl rfl⟩
theorem txt_item {us : List Value} {xs : List Str} (h : StrsAre us xs) : ∀ {i : Nat} {v : Value}, us[i]? = some v → ∃ x t, xs[i]? = some x ∧ v = .str x t := by
  induction h with
  | nil => exact fun q => by simp at q
  | cons n t _ ih =>
    intro i v q
    cases i with
    | zero => exact ⟨n, t, rfl, (Option.some.inj q).symm⟩
    | succ i => exact ih (by simpa using q)
set_option maxHeartbeats 8000000 in
/-- set(xs), xs a list of texts -/
theorem set_of {l : Addr} {items : Array Value} {xs : List Str} {Q : Value → Shared → Prop} (hh : A.handled = none) (hl : s.heap.IsList l items) (hx : StrsAre items.toList xs) (hb : xs.length + 1 < scanBound)
    (q : ∀ (h' : Heap) (tk : Nat) (ys : List Str), TxAt P w h' s.heap.objs.size ys → (∀ z, z ∈ ys ↔ z ∈ xs) → ys.length ≤ xs.length → (∀ b o, s.heap.get? b = some o → h'.get? b = some o) → Q (.ref s.heap.objs.size) { s with heap := h', toks := tk }) :
    wpAny (model P w) A (call (.type "set") [.ref l]) Q E s := by
  have hn : items.size = xs.length := by rw [← StrsAre.len_eq hx, Array.length_toList]
  obtain ⟨c, tl, hmro⟩ := F.called_set.mro
  have h1 := F.called_set.notType
  have h2 := F.called_set.canCreate
  have h3 := F.called_set.made
  have h4 := F.called_set.sub
  have h5 := F.typeCall_set_1 (.ref l)
  refine wpAny_call (codeAny_of_tree (wpAny_pure ⟨Code.quiet_builtin _ (by decide +kernel), codeAny_builtin F.entry_type_call ?_⟩))
  rw [Around.under_plain (weight_type_call_type "set" [.ref l] []) rfl]
  repeat (any_goals (first | assumption | wp_step))
  refine codeAny_mono (L2.code_set_led1 (.ref l) (E := E) (Q₁ := fun v u => v = .ref s.heap.objs.size ∧ u = { s with heap := s.heap.push (newO w) }) ⟨rfl, rfl⟩) fun r u hr => ?_
  cases r with
  | error e => exact hr
  | ok fl =>
    cases fl with
    | ret v =>
      obtain ⟨rfl, rfl⟩ := hr
      have hS : (s.heap.push (newO w)).get? s.heap.objs.size = some (newO w) := Heap.get?_push_size _ rfl
      have hT : Shared.TypeIs { s with heap := s.heap.push (newO w) } (.ref s.heap.objs.size) "set" := ⟨_, hS, rfl⟩
      have h6 := F.called_set.init.lookup
      have h7 := F.called_set.init.bind (.ref s.heap.objs.size)
      repeat (any_goals (first | assumption | wp_step))
      refine codeAny_mono (codeAny_call_builtin (R := wants (fun v u => v = .none ∧ ∃ h' tk, u = { s with heap := h', toks := tk } ∧ Mid P w s.heap.objs.size xs xs.length h' ∧ (∀ b o, s.heap.get? b = some o → h'.get? b = some o)) E) F.called_set.init.plain F.entry_set_init (check_set_init_1 hT ?_)) fun r u hr => ?_
      · obtain ⟨⟨oc, od, oda, os⟩, e1, e2, nl, e3⟩ := hl
        dsimp only at e2 e3
        subst e2 e3
        have g1 : (s.heap.push (newO w)).get? l = some ⟨.type "list", od, .seq items nl, os⟩ := Heap.get?_push_of_some _ e1
        have g2 : (s.heap.push (newO w)).IsList l items := ⟨_, g1, rfl, nl, rfl⟩
        have g3 := F.sub_list_set
        have g4 := F.sub_list_frozenset
        have g5 : (Value.type "list" == Value.type "dict") = false := by decide
        unfold Builtin.«set.__init__» noKeywords Builtin.Frozenset.updateFrom
        generalize hPI : pyIter = PI
        wp_walk
        subst hPI
        have lt : l < s.heap.objs.size := Heap.lt_size e1
        have sz : (s.heap.push (newO w)).objs.size = s.heap.objs.size + 1 := Heap.size_push ..
        have ne : l ≠ (s.heap.push (newO w)).objs.size := by
          rw [sz]
          exact Nat.ne_of_lt (Nat.lt_succ_of_lt lt)
        refine wpAny_pyIter_list g2 (wpAny_bind (wpAny_runValue ?_))
        refine loop_txt (A := A.in1.in1) ((Walks.list (show A.in1.in1.in1.handled = none by simp [hh]) _ l ne items).toS) s.heap.objs.size (fun z => ?_) xs hn (by omega) (fun i v z => txt_item hx (by rw [Array.getElem?_toList]; exact z)) (items.size - 0) 0 _ rfl (Nat.zero_le _) ⟨⟨_, Heap.get?_push_size _ rfl, rfl, rfl⟩, g2.push _⟩
          ⟨[], new_tx (Heap.get?_push_of_some _ hS), fun z => by simp, Nat.le_refl _⟩ fun u mv md => ?_
        · rcases List.mem_cons.mp z with z | z
          · rw [sz] at z
            exact absurd z (Nat.ne_of_lt (Nat.lt_succ_self _))
          · exact absurd lt (by rw [← List.mem_singleton.mp z]; exact Nat.lt_irrefl _)
        · obtain ⟨h', g', d', tk', os'⟩ := u
          obtain rfl : g' = s.gens := mv.gens
          obtain rfl : d' = s.drawn := mv.drawn
          obtain rfl : os' = s.os := mv.os
          rw [hn] at md
          refine wpAny_pure (wpAny_pure ⟨rfl, h', tk', rfl, md, fun b o z => mv.heap b o (fun y => ?_) (Heap.get?_push_of_some _ (Heap.get?_push_of_some _ z))⟩)
          have := Heap.lt_size z
          rcases List.mem_cons.mp y with y | y
          · exact absurd this (by rw [y]; exact Nat.lt_irrefl _)
          · rw [List.mem_singleton.mp y, sz] at this
            exact absurd this (Nat.not_lt_of_le (Nat.le_succ _))
      · cases r with
        | error e => exact hr
        | ok fl =>
          cases fl with
          | ret v =>
            obtain ⟨rfl, h', tk, rfl, ⟨ys, t, mem, len⟩, kp⟩ := hr
            repeat (any_goals (first | assumption | wp_step))
            exact q h' tk ys t (fun z => by rw [mem z, List.take_length]) len kp
          | _ => exact hr.elim
    | _ => exact hr.elim
/-- as many different ones as the other list has items: the same items -/
theorem perm_few : ∀ {l m : List Str}, l.Nodup → (∀ x ∈ l, x ∈ m) → m.length ≤ l.length → l.Perm m
  | [], m, _, _, h => by
    have : m = [] := List.length_eq_zero_iff.mp (by simpa using h)
    rw [this]
  | x :: r, m, nd, sub, h => by
    obtain ⟨n1, n2⟩ := List.nodup_cons.mp nd
    have hx := sub x (.head _)
    have e := List.length_erase_of_mem hx
    have h' : m.length ≤ r.length + 1 := h
    have p := perm_few (m := m.erase x) n2 (fun y hy => (List.mem_erase_of_ne fun z : y = x => n1 (by rw [← z]; exact hy)).mpr (sub y (.tail _ hy))) (by omega)
    exact (p.cons x).trans (List.perm_cons_erase hx).symm
def keyS (v : Value) : Str := match v with | .str x _ => x | _ => Str.empty
theorem strs_all : ∀ vs : List Value, (∀ v ∈ vs, ∃ x t, v = Value.str x t) → StrsAre vs (vs.map keyS)
  | [], _ => .nil
  | v :: r, h => by
    obtain ⟨x, t, rfl⟩ := h v (.head _)
    exact .cons x t (strs_all r fun u hu => h u (.tail _ hu))
/-- sorted(set) of texts -/
theorem sorted_txt {a : Addr} {l : List Str} {Q : Value → Shared → Prop} (T : TxAt P w s.heap a l) (hh : A.handled = none) (hb : l.length < scanBound)
    (q : ∀ s' p (out : Array Value) (c : Nat) (ys : List Str), (∀ b o, s.heap.get? b = some o → s'.heap.get? b = some o) → s'.gens = s.gens → s'.os = s.os → s.heap.objs.size ≤ p → s'.heap.get? p = some (seqObj "list" out c) → StrsAre out.toList ys → ys.Perm l → sortedS ys = true → Q (.ref p) s') :
    wpAny (model P w) A (call (.builtin "sorted") [.ref a]) Q E s := by
  obtain ⟨⟨es, ep, t⟩, h1, F, nd, r, ld⟩ := T
  have zz : es.size = l.length := F.sz
  have fit : t.fits es.size = true := F.fit
  refine Calls.call_function_entry PyProof.Rows.kind_sorted PyProof.Rows.plain_sorted PyProof.Rows.entry_sorted (PyProof.Rows.args_sorted1 _) ?_
  unfold Builtin.«sorted»
  refine wpAny_bind (m := checkCount "sorted" 1 1 _) (wpAny_pure (wpAny_bind (L2.collect_set (A := A.in1) hh ⟨_, h1, rfl, rfl⟩ fit (show es.size < scanBound by omega) r ld fun u vs k1 sz g1 o1 pm => ?_)))
  have dv : (sObj "set" (es, ep, t)).data = .set es ep t := rfl
  have el : ElemsOf (strKind P w) es.toList := F.el
  have vl : vs.length = l.length := by rw [pm.length_eq, List.length_map, Array.length_toList, zz]
  obtain ⟨ks, hk, pk⟩ : ∃ ks : List Str, StrsAre vs ks ∧ ks.Perm l := by
    have st : ∀ e ∈ es.toList, ∃ x t, e.2 = Value.str x t := fun e he => by
      obtain ⟨⟨x, hx, _⟩, _⟩ := el e he
      obtain ⟨t, ht⟩ := Value.isStrOf_shape (show Value.isStrOf x e.2 = true from hx)
      exact ⟨x, t, ht⟩
    refine ⟨vs.map keyS, strs_all vs fun v hv => ?_, ?_⟩
    · obtain ⟨e, he, rfl⟩ := List.mem_map.mp (pm.mem_iff.mp hv)
      exact st e he
    · have p2 : (vs.map keyS).Perm ((es.toList.map (·.2)).map keyS) := pm.map keyS
      refine p2.trans (perm_few nd (fun x hx => ?_) ?_).symm
      · obtain ⟨e, he, hz⟩ := (F.mem x).mp hx
        obtain ⟨t, ht⟩ := Value.isStrOf_shape (show Value.isStrOf x e.2 = true from hz)
        refine List.mem_map.mpr ⟨e.2, List.mem_map.mpr ⟨e, he, rfl⟩, ?_⟩
        rw [ht]
        rfl
      · rw [List.length_map, List.length_map, Array.length_toList]
        omega
  have lz : vs.length ≤ sizeLine := by rw [vl]; exact Nat.le_trans (Nat.le_of_lt hb) (by decide)
  refine wpAny_bind (wpAny_newList ?_ lz)
  have hoL : (u.heap.push (seqObj "list" vs.toArray 0)).get? u.heap.objs.size = some (seqObj "list" vs.toArray 0) := Heap.get?_push_size _ rfl
  refine wpAny_bind (wpAny_holding (wpAny_call_entry PyProof.Rows.slot_list_sort ⟨_, hoL, rfl⟩ PyProof.Rows.entry_list_sort
    (list_sort_treeKAny strKind_oneLt (s := { u with heap := u.heap.push (seqObj "list" vs.toArray 0) }) hoL hk.keysOf (fun v₁ v₂ rest e => keyKind_strs (by rw [← e]; exact hk)) lz fun st' hp hs => ⟨_, rfl, ?_⟩)
    (PyProof.Rows.args_list_sort _)))
  obtain ⟨ys, y1, y2, y3⟩ := sorted_out_str hk hp hs
  obtain ⟨c, hc⟩ := PyProof.Rows.sortedHeap_at (vs := vs) (out := (arrOf st').map (·.2)) hoL
  refine wpAny_pure ⟨_, rfl, q _ u.heap.objs.size _ c ys (fun b o e => ?_) g1 o1 sz hc y1 (y2.trans pk) y3⟩
  have lt := Heap.lt_size (k1 b o e)
  rw [PyProof.Rows.sortedHeap_old (Nat.ne_of_lt lt) (by rw [size_push']; exact Nat.lt_succ_of_lt lt)]
  exact Heap.get?_push_of_some _ (k1 b o e)
end MKS
namespace L2
open PySem PySem.Spec PyProof.Rows
/-- a set of texts, as it lies there -/
def TxO (P : Program) (w : World) (a : Addr) (l : List Str) : HO := .ext fun h => MKS.TxAt P w h a l
theorem txO_new {P : Program} {w : World} {H : Hp} {h : Heap} {a : Addr} {l : List Str} (t : MKS.TxAt P w h a l) : ObjOk P w H h a (TxO P w a l) := by
  obtain ⟨D, h1, r⟩ := id t
  refine ⟨t, ⟨_, h1⟩, fun h1 h2 p k => ?_⟩
  exact MKS.TxAt.keep p fun o e => k o e
section
variable {X : Cx}
/-- set(xs), xs a list of texts -/
def rSetTx (K : PySem.W.Frag) (P : Program) (w : World) : List V → Hp → VK → Prop := fun xs H Q => ∃ (l : Addr) (zs : List Str), xs = [V.ref l] ∧ SqL K H l (zs.map V.str) ∧ zs.length ≤ 1000 ∧
  ∀ a ys, H a = none → (∀ z, z ∈ ys ↔ z ∈ zs) → ys.length ≤ zs.length → Q (.ref a) (upd H a (TxO P w a ys))
theorem strs_vals : ∀ {zs : List Str} {us : List Value}, Vals (zs.map V.str) us → StrsAre us zs
  | [], _, .nil => .nil
  | z :: zs, _, .cons r t => by
    obtain ⟨k, rfl⟩ := r
    exact .cons z k (strs_vals t)
theorem cr_setTx (hc : X.calm = true) : CallR X (.type "set") (rSetTx X.K X.prog X.w) := by
  intro pins s σ H xs us Q I r h
  obtain ⟨l, zs, rfl, hl, hf, q⟩ := h
  rw [Vals.ref1 r]
  obtain ⟨its, rv, pl, hz⟩ := I.list hl
  refine MKS.set_of (P := X.prog) (w := X.w) (I.ok.hd hc) pl.isList (by simpa using strs_vals rv) (Nat.lt_of_le_of_lt (Nat.add_le_add_right hf 1) (by decide)) fun h' tk ys t mem len k => ?_
  exact ⟨.ref s.heap.objs.size, upd H s.heap.objs.size (TxO X.prog X.w s.heap.objs.size ys), I.laid (t' := tk) k (Nat.le_refl _) (txO_new t), rfl, q _ ys (I.hok.fresh (Nat.le_refl _)) mem len⟩
/-- sorted(s), s a set of texts: a new list of these, rising -/
def rSortedTx (P : Program) (w : World) : List V → Hp → VK → Prop := fun xs H Q => ∃ (a : Addr) (l : List Str), xs = [V.ref a] ∧ H a = some (TxO P w a l) ∧ l.length ≤ 1000 ∧
  ∀ ys p, ys.Perm l → ys.Nodup → sortedS ys = true → H p = none → Q (.ref p) (upd H p (.lst (ys.map V.str)))
theorem vals_txt : ∀ {us : List Value} {ys : List Str}, StrsAre us ys → Vals (ys.map V.str) us := fun h => by
  induction h with
  | nil => exact .nil
  | cons n t _ ih => exact .cons ⟨t, rfl⟩ ih
theorem cr_sortedTx (hc : X.calm = true) : CallR X (.builtin "sorted") (rSortedTx X.prog X.w) := by
  intro pins s σ H xs us Q I r h
  obtain ⟨a, l, rfl, ha, hf, q⟩ := h
  have t : MKS.TxAt X.prog X.w s.heap a l := (I.hok a _ ha).1
  rw [Vals.ref1 r]
  have nd : l.Nodup := by
    obtain ⟨_, _, _, z, _⟩ := id t
    exact z
  refine MKS.sorted_txt t (I.ok.hd hc) (Nat.lt_of_le_of_lt hf (by decide)) fun s' p out c ys k g o hp hg hy pm so => ?_
  have hn : H p = none := I.hok.fresh hp
  have lz : (ys.map V.str).length ≤ sizeLine := by
    rw [List.length_map, pm.length_eq]
    exact Nat.le_trans hf (by decide)
  have J : Inv X pins σ (upd H p (.lst (ys.map V.str))) { s with heap := s'.heap, gens := s'.gens, drawn := s'.drawn, toks := s'.toks } :=
    I.call (ch := []) (Un.laid k hp hn) (I.hok.laid k hp ⟨lz, out.toList, c, vals_txt hy, hg⟩) (by rw [g]; exact I.bare) (fun _ z => nomatch z)
  have e : s' = { s with heap := s'.heap, gens := s'.gens, drawn := s'.drawn, toks := s'.toks } := by
    obtain ⟨_, _, _, _, _⟩ := s'
    obtain ⟨_, _, _, _, _⟩ := s
    obtain rfl := o
    rfl
  rw [e]
  exact ⟨.ref p, _, J, rfl, q ys p pm (pm.nodup_iff.mpr nd) so hn⟩
end
end L2


set_option Elab.async false
set_option linter.all false
set_option maxRecDepth 100000
set_option maxHeartbeats 4000000
/-! What a reckoning's measure is by a choice, part by part, and what has to be alike. -/
namespace MK
open PySem PySem.Spec PyProof.Rows L2
/-- one's powers, and x times the other's -/
def IsTms (m n : Ms) (x : Int) (r : Ms) : Prop := Can r ∧ ∀ j, at0 r j = at0 m j + at0 n j * x
open Classical in
/-- the one measure of these powers -/
noncomputable def mulC (m n : Ms) (x : Int) : Ms := if h : ∃ r, IsTms m n x r then h.choose else []
theorem mulC_is {m n r : Ms} {x : Int} (h : IsTms m n x r) : mulC m n x = r := by
  have e : ∃ r, IsTms m n x r := ⟨r, h⟩
  unfold mulC
  rw [dif_pos e]
  have c := e.choose_spec
  exact can_ext c.1 h.1 fun j => (c.2 j).trans (h.2 j).symm
/-- a measure of at most l letters, powers below 2 ^ b -/
structure MsB (l b : Nat) (m : Ms) : Prop where
  can : Can m
  few : m.length ≤ l
  sm : ∀ p ∈ m, p.2.natAbs < 2 ^ b
theorem MsB.mono {l b l' b' : Nat} {m : Ms} (h : MsB l b m) (hl : l ≤ l') (hb : b ≤ b') : MsB l' b' m := ⟨h.can, Nat.le_trans h.few hl, fun p hp => Nat.lt_of_lt_of_le (h.sm p hp) (Nat.pow_le_pow_right (by decide) hb)⟩
theorem MsB.nil {l b : Nat} : MsB l b [] := ⟨can_nil, Nat.zero_le _, fun p hp => absurd hp (by simp)⟩
theorem MsB.at {l b : Nat} {m : Ms} (h : MsB l b m) (j : Str) : (at0 m j).natAbs < 2 ^ b := by
  by_cases e : at0 m j = 0
  · rw [e]
    exact Nat.two_pow_pos b
  · exact h.sm _ (at0_mem e)
theorem MsB.tms {l k b : Nat} {m n r : Ms} {x : Int} (h : MsB l b m) (g : MsB k b n) (hx : x.natAbs ≤ 4) (t : IsTms m n x r) : MsB (l + k) (b + 3) r := by
  obtain ⟨c, e⟩ := t
  refine ⟨c, ?_, fun p hp => ?_⟩
  · have sub : ∀ z ∈ r.map (·.1), z ∈ m.map (·.1) ++ n.map (·.1) := fun z hz => by
      obtain ⟨p, hp, rfl⟩ := List.mem_map.mp hz
      have q := (c.mem p.1 p.2).mp hp
      by_cases z1 : at0 m p.1 = 0
      · refine List.mem_append_right _ (List.mem_map.mpr ⟨_, at0_mem (m := n) (j := p.1) fun z2 => q.1 ?_, rfl⟩)
        rw [← q.2, e, z1, z2]
        omega
      · exact List.mem_append_left _ (List.mem_map.mpr ⟨_, at0_mem z1, rfl⟩)
    have := List.Nodup.length_le_of_subset c.ris.nodup sub
    rw [List.length_map, List.length_append, List.length_map, List.length_map] at this
    have := h.few
    have := g.few
    omega
  · have q := (c.mem p.1 p.2).mp hp
    have a1 := h.at p.1
    have a2 := g.at p.1
    rw [← q.2, e]
    have a3 : (at0 n p.1 * x).natAbs ≤ (at0 n p.1).natAbs * 4 := by
      rw [Int.natAbs_mul]
      exact Nat.mul_le_mul_left _ hx
    have e8 : 2 ^ (b + 3) = 2 ^ b * 8 := Nat.pow_add 2 b 3
    omega
/-- how many leaves -/
def Rk.lvs : Rk → Nat
  | .bin _ a b => a.lvs + b.lvs
  | .power a _ => a.lvs
  | .less a b c d => a.lvs + b.lvs + c.lvs + d.lvs
  | _ => 1
/-- its measure, and what has to be alike, by a choice -/
noncomputable def walk (env : Str → Ms) : Rk → List Ms → Ms × List Ms
  | .is _ _ m, _ => (m, [])
  | .nought, g => (g.headD [], [])
  | .input s, _ => (env s, [])
  | .bin o a b, g => match o with
    | .times => (mulC (walk env a g).1 (walk env b (g.drop a.noughts)).1 1, (walk env a g).2 ++ (walk env b (g.drop a.noughts)).2)
    | .over => (mulC (walk env a g).1 (walk env b (g.drop a.noughts)).1 (-1), (walk env a g).2 ++ (walk env b (g.drop a.noughts)).2)
    | _ => ((walk env a g).1, (walk env a g).2 ++ (walk env b (g.drop a.noughts)).2 ++ [mulC (walk env a g).1 (walk env b (g.drop a.noughts)).1 (-1)])
  | .power a n, g => (mulC [] (walk env a g).1 n, (walk env a g).2)
  | .less a b c d, g => ((walk env c (g.drop (a.noughts + b.noughts))).1,
      (walk env a g).2 ++ (walk env b (g.drop a.noughts)).2 ++ (walk env c (g.drop (a.noughts + b.noughts))).2 ++ (walk env d (g.drop (a.noughts + b.noughts + c.noughts))).2 ++
        [mulC (walk env a g).1 (walk env b (g.drop a.noughts)).1 (-1)] ++ [mulC (walk env c (g.drop (a.noughts + b.noughts))).1 (walk env d (g.drop (a.noughts + b.noughts + c.noughts))).1 (-1)])
/-- the parts, each by what is left of the noughts -/
noncomputable def walks (env : Str → Ms) : List Rk → List Ms → List (Ms × List Ms)
  | [], _ => []
  | x :: r, g => walk env x g :: walks env r (g.drop x.noughts)
theorem walks_len (env : Str → Ms) : ∀ (l : List Rk) (g : List Ms), (walks env l g).length = l.length
  | [], _ => rfl
  | x :: r, g => congrArg (· + 1) (walks_len env r (g.drop x.noughts))
def nsum (l : List Rk) : Nat := (l.map Rk.noughts).sum
theorem walks_at (env : Str → Ms) : ∀ (l : List Rk) (g : List Ms) {i : Nat} {x : Rk}, l[i]? = some x → (walks env l g)[i]? = some (walk env x (g.drop (nsum (l.take i))))
  | [], g, i, x, h => by simp at h
  | y :: r, g, 0, x, h => by
    obtain rfl : y = x := Option.some.inj h
    show some (walk env y g) = _
    rw [List.take_zero]
    rfl
  | y :: r, g, i + 1, x, h => by
    have e := walks_at env r (g.drop y.noughts) (i := i) (x := x) (by simpa using h)
    show (walks env r (g.drop y.noughts))[i]? = _
    rw [e, List.drop_drop]
    rfl
theorem nsum_more {l : List Rk} {i : Nat} {x : Rk} (h : l[i]? = some x) : nsum (l.take (i + 1)) = nsum (l.take i) + x.noughts := by
  unfold nsum
  rw [take_more h, List.map_append, List.sum_append]
  show _ + (x.noughts + 0) = _
  omega
theorem mulC_b {l k b : Nat} {m n : Ms} {x : Int} (h : MsB l b m) (g : MsB k b n) (hx : x.natAbs ≤ 4) : MsB (l + k) (b + 3) (mulC m n x) := by
  by_cases e : ∃ r, IsTms m n x r
  · obtain ⟨r, t⟩ := e
    rw [mulC_is t]
    exact h.tms g hx t
  · unfold mulC
    rw [dif_neg e]
    exact .nil
/-! ### in the heap -/
theorem fne {H : Hp} {D p : Addr} {xs : List V} {o : HO} {u : HO} (h : H D = some (.lst xs)) (e : H p = some u) (n : u ≠ .lst xs) : L2.upd H D o p = some u := by
  rw [upd_ne (fun z => n (by rw [z, h] at e; exact (Option.some.inj e).symm))]
  exact e
theorem MsN.lst {H : Hp} {D b : Addr} {xs : List V} {o : HO} {m : Ms} (h : H D = some (.lst xs)) (q : MsN H b m) : MsN (L2.upd H D o) b m := by
  obtain ⟨ts, ⟨ob, e, d⟩, p⟩ := q
  exact ⟨ts, ⟨ob, fne h e (fun z => nomatch z), d⟩, pr_list h p⟩
theorem tr_list {H : Hp} {D : Addr} {xs : List V} {o : HO} (h : H D = some (.lst xs)) : ∀ {r : Rk} {p : Addr}, TrAt H r p → TrAt (L2.upd H D o) r p
  | .is x y m, p, ⟨q, b, h1, h2, h3⟩ => ⟨q, b, fne h h1 (fun z => nomatch z), fne h h2 (fun z => nomatch z), h3.lst h⟩
  | .nought, p, e => fne h e (fun z => nomatch z)
  | .input z, p, e => fne h e (fun z => nomatch z)
  | .bin op a b, p, ⟨q, r, h1, h2, h3⟩ => ⟨q, r, fne h h1 (fun z => nomatch z), tr_list h h2, tr_list h h3⟩
  | .power a n, p, ⟨q, h1, h2⟩ => ⟨q, fne h h1 (fun z => nomatch z), tr_list h h2⟩
  | .less a b c d, p, ⟨q, r, u, v, h1, h2, h3, h4, h5⟩ => ⟨q, r, u, v, fne h h1 (fun z => nomatch z), tr_list h h2, tr_list h h3, tr_list h h4, tr_list h h5⟩
abbrev NmR (H : Hp) (x : Str × Addr) (y : Str × Ms) : Prop := x.1 = y.1 ∧ MsN H x.2 y.2
/-- a dict of names with measures -/
def NmAt (H : Hp) (d : Addr) (ads : List (Str × Addr)) (fl : List (Str × Ms)) : Prop := H d = some (.dK (encG V.ref ads)) ∧ Paired (NmR H) ads fl
theorem NmAt.same {H H' : Hp} {d : Addr} {ads : List (Str × Addr)} {fl : List (Str × Ms)} (s : Same H H') (h : NmAt H d ads fl) : NmAt H' d ads fl := ⟨s _ _ h.1, Paired.mono (fun x y z => ⟨z.1, z.2.same s⟩) h.2⟩
theorem nm_lk {H : Hp} {ads : List (Str × Addr)} {fl : List (Str × Ms)} (p : Paired (NmR H) ads fl) (l : Str) : (lk ads l = none ∧ lk fl l = none) ∨ ∃ b m, lk ads l = some b ∧ lk fl l = some m ∧ MsN H b m := by
  induction p with
  | nil => exact .inl ⟨rfl, rfl⟩
  | @cons x y xs ys h _ ih =>
    obtain ⟨h1, h2⟩ := h
    by_cases e : x.1 = l
    · exact .inr ⟨x.2, y.2, if_pos e, if_pos (h1 ▸ e), h2⟩
    · have e' : ¬ y.1 = l := fun z => e (h1.trans z)
      rw [show lk (x :: xs) l = lk xs l from if_neg e, show lk (y :: ys) l = lk ys l from if_neg e']
      exact ih
theorem nm_get {H : Hp} {d : Addr} {ads : List (Str × Addr)} {fl : List (Str × Ms)} (h : NmAt H d ads fl) {l : Str} (n : lk fl l ≠ none) : ∃ b m, lk fl l = some m ∧ DGet H d (.str l) (some (.ref b)) ∧ MsN H b m := by
  rcases nm_lk h.2 l with ⟨_, a2⟩ | ⟨b, m, a1, a2, a3⟩
  · exact absurd a2 n
  · refine ⟨b, m, a2, ?_, a3⟩
    have := DGet.k (k := Sum.inr l) h.1
    rw [encG_val, a1] at this
    exact this
theorem cut_drop {xs : List V} {k : Nat} (h : k ≤ xs.length) : cutV xs (some (k : Int)) none = xs.drop k := by
  unfold cutV
  rw [HT.sIx_nat, HT.sIx_none, Nat.min_eq_left h, List.take_of_length_le (by rw [List.length_drop]; exact Nat.le_refl _)]
theorem paired_drop {α β : Type} {G : α → β → Prop} : ∀ (k : Nat) {l : List α} {m : List β}, Paired G l m → Paired G (l.drop k) (m.drop k)
  | 0, _, _, p => p
  | _ + 1, _, _, .nil => .nil
  | k + 1, _, _, .cons _ t => paired_drop k t
/-! ### of the parts -/
theorem part_of {r x : Rk} (h : x ∈ r.parts) (ok : r.Ok) : x.Ok ∧ (∀ s ∈ x.ins, s ∈ r.ins) ∧ x.lvs ≤ r.lvs := by
  cases r with
  | is _ _ _ => exact absurd h (by show x ∉ []; simp)
  | nought => exact absurd h (by show x ∉ []; simp)
  | input _ => exact absurd h (by show x ∉ []; simp)
  | bin o a b =>
    obtain ⟨o1, o2⟩ := ok
    rcases List.mem_cons.mp h with e | h
    · rw [e]; exact ⟨o1, fun s hs => List.mem_append_left _ hs, Nat.le_add_right _ _⟩
    · rw [List.mem_singleton.mp h]; exact ⟨o2, fun s hs => List.mem_append_right _ hs, Nat.le_add_left _ _⟩
  | power a n =>
    rw [List.mem_singleton.mp h]
    exact ⟨ok.1, fun s hs => hs, Nat.le_refl _⟩
  | less a b c d =>
    obtain ⟨o1, o2, o3, o4⟩ := ok
    have e : (Rk.less a b c d).lvs = a.lvs + b.lvs + c.lvs + d.lvs := rfl
    rcases List.mem_cons.mp h with q | h
    · rw [q]; exact ⟨o1, fun s hs => List.mem_append_left _ (List.mem_append_left _ (List.mem_append_left _ hs)), by omega⟩
    · rcases List.mem_cons.mp h with q | h
      · rw [q]; exact ⟨o2, fun s hs => List.mem_append_left _ (List.mem_append_left _ (List.mem_append_right _ hs)), by omega⟩
      · rcases List.mem_cons.mp h with q | h
        · rw [q]; exact ⟨o3, fun s hs => List.mem_append_left _ (List.mem_append_right _ hs), by omega⟩
        · rw [List.mem_singleton.mp h]; exact ⟨o4, fun s hs => List.mem_append_right _ hs, by omega⟩
theorem nsum_parts (r : Rk) : nsum r.parts ≤ r.noughts := by
  cases r with
  | is _ _ _ => exact Nat.zero_le _
  | nought => exact Nat.zero_le _
  | input _ => exact Nat.zero_le _
  | bin o a b =>
    show a.noughts + (b.noughts + 0) ≤ a.noughts + b.noughts
    omega
  | power a n =>
    show a.noughts + 0 ≤ a.noughts
    omega
  | less a b c d =>
    show a.noughts + (b.noughts + (c.noughts + (d.noughts + 0))) ≤ a.noughts + b.noughts + c.noughts + d.noughts
    omega
theorem nsum_le : ∀ (l : List Rk) (i : Nat), nsum (l.take i) ≤ nsum l
  | [], i => by rw [List.take_nil]; exact Nat.le_refl _
  | x :: r, 0 => Nat.zero_le _
  | x :: r, i + 1 => by
    have := nsum_le r i
    show x.noughts + nsum (r.take i) ≤ x.noughts + nsum r
    omega
theorem walk_len (env : Str → Ms) : ∀ (r : Rk) (g : List Ms), (walk env r g).2.length + 1 ≤ r.lvs
  | .is _ _ _, _ => Nat.le_refl _
  | .nought, _ => Nat.le_refl _
  | .input _, _ => Nat.le_refl _
  | .bin o a b, g => by
    have h1 := walk_len env a g
    have h2 := walk_len env b (g.drop a.noughts)
    have e : (Rk.bin o a b).lvs = a.lvs + b.lvs := rfl
    cases o with
    | times =>
      show ((walk env a g).2 ++ (walk env b (g.drop a.noughts)).2).length + 1 ≤ _
      rw [List.length_append]; omega
    | over =>
      show ((walk env a g).2 ++ (walk env b (g.drop a.noughts)).2).length + 1 ≤ _
      rw [List.length_append]; omega
    | plus =>
      show ((walk env a g).2 ++ (walk env b (g.drop a.noughts)).2 ++ [_]).length + 1 ≤ _
      rw [List.length_append, List.length_append, List.length_singleton]; omega
    | minus =>
      show ((walk env a g).2 ++ (walk env b (g.drop a.noughts)).2 ++ [_]).length + 1 ≤ _
      rw [List.length_append, List.length_append, List.length_singleton]; omega
  | .power a n, g => walk_len env a g
  | .less a b c d, g => by
    have h1 := walk_len env a g
    have h2 := walk_len env b (g.drop a.noughts)
    have h3 := walk_len env c (g.drop (a.noughts + b.noughts))
    have h4 := walk_len env d (g.drop (a.noughts + b.noughts + c.noughts))
    have e : (Rk.less a b c d).lvs = a.lvs + b.lvs + c.lvs + d.lvs := rfl
    show ((walk env a g).2 ++ (walk env b (g.drop a.noughts)).2 ++ (walk env c (g.drop (a.noughts + b.noughts))).2 ++ (walk env d (g.drop (a.noughts + b.noughts + c.noughts))).2 ++ [_] ++ [_]).length + 1 ≤ _
    rw [List.length_append, List.length_append, List.length_append, List.length_append, List.length_append, List.length_singleton, List.length_singleton]; omega
theorem walks_flat (env : Str → Ms) : ∀ (l : List Rk) (g : List Ms), ((walks env l g).flatMap (·.2)).length ≤ (l.map Rk.lvs).sum
  | [], _ => Nat.zero_le _
  | x :: r, g => by
    have h1 := walk_len env x g
    have h2 := walks_flat env r (g.drop x.noughts)
    show ((walk env x g).2 ++ (walks env r (g.drop x.noughts)).flatMap (·.2)).length ≤ x.lvs + (r.map Rk.lvs).sum
    rw [List.length_append]
    omega
theorem lvs_parts (r : Rk) : (r.parts.map Rk.lvs).sum ≤ r.lvs := by
  cases r with
  | is _ _ _ => exact Nat.zero_le _
  | nought => exact Nat.zero_le _
  | input _ => exact Nat.zero_le _
  | bin o a b =>
    show a.lvs + (b.lvs + 0) ≤ a.lvs + b.lvs
    omega
  | power a n =>
    show a.lvs + 0 ≤ a.lvs
    omega
  | less a b c d =>
    show a.lvs + (b.lvs + (c.lvs + (d.lvs + 0))) ≤ a.lvs + b.lvs + c.lvs + d.lvs
    omega
theorem TupN.lst {H : Hp} {D p : Addr} {xs ys : List V} {o : HO} (h : H D = some (.lst xs)) (q : TupN H p ys) : TupN (L2.upd H D o) p ys := by
  obtain ⟨ob, e, d⟩ := q
  exact ⟨ob, fne h e (fun z => nomatch z), d⟩
theorem TupN.same {H H' : Hp} {p : Addr} {ys : List V} (s : Same H H') (q : TupN H p ys) : TupN H' p ys := by
  obtain ⟨ob, e, d⟩ := q
  exact ⟨ob, s _ _ e, d⟩
theorem paired_app {α β : Type} {G : α → β → Prop} : ∀ {l : List α} {m : List β} {l' : List α} {m' : List β}, Paired G l m → Paired G l' m' → Paired G (l ++ l') (m ++ m')
  | _, _, _, _, .nil, q => q
  | _, _, _, _, .cons h t, q => .cons h (paired_app t q)
/-- how great a reckoning's measure may be -/
theorem walk_b {env : Str → Ms} {l b : Nat} (he : ∀ s, MsB l b (env s)) (l6 : 6 ≤ l) (b5 : 5 ≤ b) : ∀ {r : Rk} {g : List Ms}, r.Ok → (∀ m ∈ g, MsB l b m) → MsB (l * r.lvs) (b + 3 * r.deep) (walk env r g).1
  | .is x y m, g, ⟨_, _, _, h⟩, _ => ⟨h.can, Nat.le_trans h.few (by show 6 ≤ l * 1; omega), fun p hp => Nat.lt_of_le_of_lt (h.sm p hp) (Nat.lt_of_lt_of_le (show 20 < 2 ^ 5 by decide) (Nat.pow_le_pow_right (by decide) (by omega)))⟩
  | .nought, g, _, hg => by
    cases g with
    | nil => exact .nil
    | cons m g => exact (hg m List.mem_cons_self).mono (by show l ≤ l * 1; omega) (by omega)
  | .input s, g, _, _ => (he s).mono (by show l ≤ l * 1; omega) (by omega)
  | .bin o a c, g, ⟨o1, o2⟩, hg => by
    have h1 := walk_b he l6 b5 (g := g) o1 hg
    have h2 := walk_b he l6 b5 (g := g.drop a.noughts) o2 fun m hm => hg m (List.mem_of_mem_drop hm)
    have e : (Rk.bin o a c).deep = 1 + max a.deep c.deep := rfl
    have e2 : l * (Rk.bin o a c).lvs = l * a.lvs + l * c.lvs := Nat.mul_add l a.lvs c.lvs
    have k1 := h1.mono (l' := l * a.lvs) (b' := b + 3 * max a.deep c.deep) (Nat.le_refl _) (by omega)
    have k2 := h2.mono (l' := l * c.lvs) (b' := b + 3 * max a.deep c.deep) (Nat.le_refl _) (by omega)
    cases o with
    | times => exact (mulC_b k1 k2 (by decide)).mono (by omega) (by omega)
    | over => exact (mulC_b k1 k2 (by decide)).mono (by omega) (by omega)
    | plus => exact h1.mono (by omega) (by omega)
    | minus => exact h1.mono (by omega) (by omega)
  | .power a n, g, ⟨o1, n1, n2⟩, hg => by
    have h1 := walk_b he l6 b5 (g := g) o1 hg
    have e : (Rk.power a n).deep = 1 + a.deep := rfl
    have e2 : (Rk.power a n).lvs = a.lvs := rfl
    exact (mulC_b (MsB.nil (l := 0) (b := b + 3 * a.deep)) h1 (by omega)).mono (by rw [e2]; omega) (by omega)
  | .less a c d f, g, ⟨o1, o2, o3, o4⟩, hg => by
    have h3 := walk_b he l6 b5 (g := g.drop (a.noughts + c.noughts)) o3 fun m hm => hg m (List.mem_of_mem_drop hm)
    have e : (Rk.less a c d f).deep = 1 + max (max a.deep c.deep) (max d.deep f.deep) := rfl
    have e2 : l * d.lvs ≤ l * (Rk.less a c d f).lvs := Nat.mul_le_mul_left _ (by show d.lvs ≤ a.lvs + c.lvs + d.lvs + f.lvs; omega)
    exact h3.mono e2 (by omega)
end MK


set_option Elab.async false
set_option linter.all false
set_option maxRecDepth 100000
set_option maxHeartbeats 4000000
/-! All the reckonings within one, from left to right; what a reckoning's tuple holds; how many there are by depth. -/
namespace MK
open PySem PySem.Spec PyProof.Rows L2
/-- the first text -/
def Rk.kind : Rk → Str
  | .is _ _ _ => "is" | .nought => "nought" | .input _ => "input" | .bin o _ _ => o.name | .power _ _ => "power" | .less _ _ _ _ => "less"
/-- itself and all within, from left to right -/
def Rk.all : Rk → List Rk
  | .bin o a b => .bin o a b :: (a.all ++ b.all)
  | .power a n => .power a n :: a.all
  | .less a b c d => .less a b c d :: (a.all ++ b.all ++ c.all ++ d.all)
  | .is x y m => [.is x y m]
  | .nought => [.nought]
  | .input s => [.input s]
theorem all_eq : ∀ r : Rk, r.all = r :: r.parts.flatMap Rk.all
  | .is _ _ _ => rfl
  | .nought => rfl
  | .input _ => rfl
  | .bin o a b => by
    show _ :: (a.all ++ b.all) = _ :: (a.all ++ (b.all ++ []))
    rw [List.append_nil]
  | .power a n => by
    show _ :: a.all = _ :: (a.all ++ [])
    rw [List.append_nil]
  | .less a b c d => by
    show _ :: (a.all ++ b.all ++ c.all ++ d.all) = _ :: (a.all ++ (b.all ++ (c.all ++ (d.all ++ []))))
    rw [List.append_nil, List.append_assoc, List.append_assoc]
theorem all_len : ∀ r : Rk, r.all.length = r.many
  | .is _ _ _ => rfl
  | .nought => rfl
  | .input _ => rfl
  | .bin o a b => by
    have := all_len a; have := all_len b
    show (a.all ++ b.all).length + 1 = 1 + (a.many + b.many)
    rw [List.length_append]
    omega
  | .power a n => by
    have := all_len a
    show a.all.length + 1 = 1 + a.many
    omega
  | .less a b c d => by
    have := all_len a; have := all_len b; have := all_len c; have := all_len d
    show (a.all ++ b.all ++ c.all ++ d.all).length + 1 = 1 + (a.many + b.many + c.many + d.many)
    rw [List.length_append, List.length_append, List.length_append]
    omega
def inpName : Rk → Option Str
  | .input s => some s
  | _ => none
def isNou : Rk → Bool
  | .nought => true
  | _ => false
theorem all_ins : ∀ r : Rk, r.all.filterMap inpName = r.ins
  | .is _ _ _ => rfl
  | .nought => rfl
  | .input _ => rfl
  | .bin o a b => by
    show (a.all ++ b.all).filterMap inpName = _
    rw [List.filterMap_append, all_ins a, all_ins b]
    rfl
  | .power a n => all_ins a
  | .less a b c d => by
    show (a.all ++ b.all ++ c.all ++ d.all).filterMap inpName = _
    rw [List.filterMap_append, List.filterMap_append, List.filterMap_append, all_ins a, all_ins b, all_ins c, all_ins d]
    rfl
theorem all_nou : ∀ r : Rk, (r.all.filter isNou).length = r.noughts
  | .is _ _ _ => rfl
  | .nought => rfl
  | .input _ => rfl
  | .bin o a b => by
    have := all_nou a; have := all_nou b
    show ((a.all ++ b.all).filter isNou).length = a.noughts + b.noughts
    rw [List.filter_append, List.length_append]
    omega
  | .power a n => all_nou a
  | .less a b c d => by
    have := all_nou a; have := all_nou b; have := all_nou c; have := all_nou d
    show ((a.all ++ b.all ++ c.all ++ d.all).filter isNou).length = a.noughts + b.noughts + c.noughts + d.noughts
    rw [List.filter_append, List.filter_append, List.filter_append, List.length_append, List.length_append, List.length_append]
    omega
/-- a reckoning's tuple: its kind, its parts, what stands behind -/
theorem tr_tup {H : Hp} : ∀ {r : Rk} {t : Addr}, TrAt H r t → ∃ (ps : List Addr) (zs : List V), H t = some (.tup (V.str r.kind :: (ps.map V.ref ++ zs))) ∧ Paired (fun q x => TrAt H x q) ps r.parts
  | .is x y m, t, ⟨q, b, h1, _⟩ => ⟨[], _, h1, .nil⟩
  | .nought, t, h => ⟨[], _, h, .nil⟩
  | .input z, t, h => ⟨[], _, h, .nil⟩
  | .bin o a b, t, ⟨q, r, h1, h2, h3⟩ => ⟨[q, r], [], h1, .cons h2 (.cons h3 .nil)⟩
  | .power a n, t, ⟨q, h1, h2⟩ => ⟨[q], _, h1, .cons h2 .nil⟩
  | .less a b c d, t, ⟨q, r, u, v, h1, h2, h3, h4, h5⟩ => ⟨[q, r, u, v], [], h1, .cons h2 (.cons h3 (.cons h4 (.cons h5 .nil)))⟩
theorem cut_parts (x : V) (us zs : List V) : cutV (x :: (us ++ zs)) (some 1) (some (1 + (us.length : Int))) = us := by
  have h1 : HT.sIx (x :: (us ++ zs)).length 0 (some 1) = 1 := by
    rw [show (1 : Int) = ((1 : Nat) : Int) from rfl, HT.sIx_nat]
    simp only [List.length_cons]
    omega
  have h2 : HT.sIx (x :: (us ++ zs)).length (x :: (us ++ zs)).length (some (1 + (us.length : Int))) = 1 + us.length := by
    rw [show (1 : Int) + (us.length : Int) = ((1 + us.length : Nat) : Int) by omega, HT.sIx_nat]
    simp only [List.length_cons, List.length_append]
    omega
  unfold cutV
  rw [h1, h2]
  show ((us ++ zs).take (1 + us.length - 1)) = us
  rw [Nat.add_sub_cancel_left, List.take_left]
theorem cut_some (x : V) (us zs : List V) {j : Option Int} : ¬ (HT.sIx (x :: (us ++ zs)).length 0 (some 1) = 0 ∧ HT.sIx (x :: (us ++ zs)).length (x :: (us ++ zs)).length j = (x :: (us ++ zs)).length) := by
  rintro ⟨h, _⟩
  rw [show (1 : Int) = ((1 : Nat) : Int) from rfl, HT.sIx_nat] at h
  simp only [List.length_cons] at h
  omega
theorem many_by : ∀ (n : Nat) (r : Rk), r.deep ≤ n → 3 * r.many + 1 ≤ 4 ^ n := by
  intro n
  induction n with
  | zero =>
    intro r h
    have := r.deep_pos
    omega
  | succ n ih =>
    intro r h
    have e : 4 ^ (n + 1) = 4 ^ n * 4 := Nat.pow_succ ..
    have p1 : 1 ≤ 4 ^ n := Nat.one_le_pow n 4 (by decide)
    cases r with
    | bin o a b =>
      have h : 1 + max a.deep b.deep ≤ n + 1 := h
      have := ih a (by omega); have := ih b (by omega)
      show 3 * (1 + (a.many + b.many)) + 1 ≤ _
      omega
    | power a m =>
      have h : 1 + a.deep ≤ n + 1 := h
      have := ih a (by omega)
      show 3 * (1 + a.many) + 1 ≤ _
      omega
    | less a b c d =>
      have h : 1 + max (max a.deep b.deep) (max c.deep d.deep) ≤ n + 1 := h
      have := ih a (by omega); have := ih b (by omega); have := ih c (by omega); have := ih d (by omega)
      show 3 * (1 + (a.many + b.many + c.many + d.many)) + 1 ≤ _
      omega
    | is _ _ _ =>
      show 3 * 1 + 1 ≤ _
      omega
    | nought =>
      show 3 * 1 + 1 ≤ _
      omega
    | input _ =>
      show 3 * 1 + 1 ≤ _
      omega
theorem many_pos : ∀ r : Rk, 1 ≤ r.many
  | .is _ _ _ => Nat.le_refl _ | .nought => Nat.le_refl _ | .input _ => Nat.le_refl _
  | .bin _ _ _ => Nat.le_add_right _ _ | .power _ _ => Nat.le_add_right _ _ | .less _ _ _ _ => Nat.le_add_right _ _
theorem parts_many : ∀ {r x : Rk}, x ∈ r.parts → x.many < r.many
  | .bin _ a b, x, h => by
    show x.many < 1 + (a.many + b.many)
    rcases List.mem_cons.mp h with e | h
    · rw [e]; omega
    · rw [List.mem_singleton.mp h]; omega
  | .power a _, x, h => by
    show x.many < 1 + a.many
    rw [List.mem_singleton.mp h]; omega
  | .less a b c d, x, h => by
    show x.many < 1 + (a.many + b.many + c.many + d.many)
    rcases List.mem_cons.mp h with e | h
    · rw [e]; omega
    · rcases List.mem_cons.mp h with e | h
      · rw [e]; omega
      · rcases List.mem_cons.mp h with e | h
        · rw [e]; omega
        · rw [List.mem_singleton.mp h]; omega
theorem ins_nm : ∀ {r : Rk}, r.Ok → ∀ {z : Str}, z ∈ r.ins → Nm z
  | .is _ _ _, _, _, h => absurd (show _ ∈ [] from h) (by simp)
  | .nought, _, _, h => absurd (show _ ∈ [] from h) (by simp)
  | .input s, ok, z, h => by
    rw [List.mem_singleton.mp (show z ∈ [s] from h)]
    exact ok
  | .bin _ a b, ⟨h1, h2⟩, z, h => (List.mem_append.mp (show z ∈ a.ins ++ b.ins from h)).elim (ins_nm h1) (ins_nm h2)
  | .power a _, ⟨h1, _⟩, z, h => ins_nm h1 (show z ∈ a.ins from h)
  | .less a b c d, ⟨h1, h2, h3, h4⟩, z, h => (List.mem_append.mp (show z ∈ a.ins ++ b.ins ++ c.ins ++ d.ins from h)).elim (fun h => (List.mem_append.mp h).elim (fun h => (List.mem_append.mp h).elim (ins_nm h1) (ins_nm h2)) (ins_nm h3)) (ins_nm h4)
theorem kind_inp : ∀ {r : Rk}, (∀ z, r ≠ .input z) → decide (V.str r.kind = V.str "input") = false
  | .is _ _ _, _ => (by decide +kernel : decide (V.str "is" = V.str "input") = false)
  | .nought, _ => (by decide +kernel : decide (V.str "nought" = V.str "input") = false)
  | .input z, h => absurd rfl (h z)
  | .bin .plus _ _, _ => (by decide +kernel : decide (V.str "plus" = V.str "input") = false)
  | .bin .minus _ _, _ => (by decide +kernel : decide (V.str "minus" = V.str "input") = false)
  | .bin .times _ _, _ => (by decide +kernel : decide (V.str "times" = V.str "input") = false)
  | .bin .over _ _, _ => (by decide +kernel : decide (V.str "over" = V.str "input") = false)
  | .power _ _, _ => (by decide +kernel : decide (V.str "power" = V.str "input") = false)
  | .less _ _ _ _, _ => (by decide +kernel : decide (V.str "less" = V.str "input") = false)
theorem kind_nou : ∀ {r : Rk}, isNou r = false → decide (V.str r.kind = V.str "nought") = false
  | .is _ _ _, _ => (by decide +kernel : decide (V.str "is" = V.str "nought") = false)
  | .nought, h => nomatch h
  | .input z, h => (by decide +kernel : decide (V.str "input" = V.str "nought") = false)
  | .bin .plus _ _, _ => (by decide +kernel : decide (V.str "plus" = V.str "nought") = false)
  | .bin .minus _ _, _ => (by decide +kernel : decide (V.str "minus" = V.str "nought") = false)
  | .bin .times _ _, _ => (by decide +kernel : decide (V.str "times" = V.str "nought") = false)
  | .bin .over _ _, _ => (by decide +kernel : decide (V.str "over" = V.str "nought") = false)
  | .power _ _, _ => (by decide +kernel : decide (V.str "power" = V.str "nought") = false)
  | .less _ _ _ _, _ => (by decide +kernel : decide (V.str "less" = V.str "nought") = false)
/-- the table of how many parts a form has -/
structure PTab (K : PySem.W.Frag) (w : World) (mg : Str → Option Value) (pt : Addr) : Prop where
  g : mg "PARTS" = some (.ref pt)
  k : ∀ r : Rk, KDct K w pt r.kind (.int (r.parts.length : Nat))
theorem PTab.mk' {K : PySem.W.Frag} {w : World} {mg : Str → Option Value} {pt : Addr} {es : Array DictEntry} {n : Nat} {t1 t2 t3 t4 t5 t6 t7 t8 t9 : Tok}
    (g : mg "PARTS" = some (.ref pt)) (l : K.lookup pt = some ⟨.type "dict", none, .dict es n, #[]⟩) (kl : PySem.W.KeysLit w.params es.toList)
    (e1 : PySem.W.nsIn K pt "is" = some (some (.int 0 t1))) (e2 : PySem.W.nsIn K pt "nought" = some (some (.int 0 t2))) (e3 : PySem.W.nsIn K pt "input" = some (some (.int 0 t3)))
    (e4 : PySem.W.nsIn K pt "plus" = some (some (.int 2 t4))) (e5 : PySem.W.nsIn K pt "minus" = some (some (.int 2 t5))) (e6 : PySem.W.nsIn K pt "times" = some (some (.int 2 t6)))
    (e7 : PySem.W.nsIn K pt "over" = some (some (.int 2 t7))) (e8 : PySem.W.nsIn K pt "power" = some (some (.int 1 t8))) (e9 : PySem.W.nsIn K pt "less" = some (some (.int 4 t9))) : PTab K w mg pt :=
  ⟨g, fun r => match r with
    | .is _ _ _ => ⟨es, n, _, l, kl, e1, _, rfl⟩
    | .nought => ⟨es, n, _, l, kl, e2, _, rfl⟩
    | .input _ => ⟨es, n, _, l, kl, e3, _, rfl⟩
    | .bin .plus _ _ => ⟨es, n, _, l, kl, e4, _, rfl⟩
    | .bin .minus _ _ => ⟨es, n, _, l, kl, e5, _, rfl⟩
    | .bin .times _ _ => ⟨es, n, _, l, kl, e6, _, rfl⟩
    | .bin .over _ _ => ⟨es, n, _, l, kl, e7, _, rfl⟩
    | .power _ _ => ⟨es, n, _, l, kl, e8, _, rfl⟩
    | .less _ _ _ _ => ⟨es, n, _, l, kl, e9, _, rfl⟩⟩
end MK


set_option Elab.async false
set_option linter.all false
set_option maxRecDepth 100000
set_option maxHeartbeats 4000000
/-! {elt for target in iter if ..}, elt a text. An own error of any arguments, its context None. -/
namespace L2
open PySem PySem.Spec PyProof.Rows PpSet PySem.Froz
section
variable {X : Cx}
/-- set.add of a text -/
theorem addTx_ok {pins : List (Addr × Obj)} {σ : L2.St} {H : Hp} {s : Shared} {E : Value → Shared → Prop} {D : Addr} {l : List Str} {y : Str} {t : Tok} {Q : Value → Shared → Prop} (I : Inv X pins σ H s) (hD : H D = some (TxO X.prog X.w D l)) (room : l.length + 1 < scanBound)
    (h : ∀ s' l', (∀ z, z ∈ l' ↔ z = y ∨ z ∈ l) → l'.length ≤ l.length + 1 → Inv X pins σ (upd H D (TxO X.prog X.w D l')) s' → Q .none s') : wpAny (model X.prog X.w) X.A (call (.builtin "set.add") [.ref D, .str y t]) Q E s := by
  have R : MKS.TxAt X.prog X.w s.heap D l := (I.hok D _ hD).1
  have hT : Shared.TypeIs s (.ref D) "set" := by
    obtain ⟨d, e, _⟩ := id R
    exact ⟨_, e, rfl⟩
  refine wpAny_call_entry F.slot_set_add hT F.entry_set_add ?_ (F.args_set_add_2 _ _)
  unfold Builtin.«set.add» Builtin.Frozenset.oneOther
  simp only [List.isEmpty_nil, bind_assoc]
  unfold Builtin.Frozenset.addrOf setAdd
  refine wpAny_bind (wpAny_pure ?_)
  try dsimp only
  refine wpAny_bind (wpAny_pure ?_)
  try dsimp only
  refine wpAny_bind ?_
  refine wpAny_holding ?_
  refine wpAny_bind ((strKind X.prog X.w).pyHash (k := y) (is_str y t) ?_)
  refine MKS.add_any (s := { s with toks := s.toks + 1 }) R room fun b h' l' oth tx' mem' len' => ?_
  show wpAny _ _ (ret Value.none) _ _ _
  have he : ∃ u, h'.get? D = some u := by
    obtain ⟨d, e, _⟩ := id tx'
    exact ⟨_, e⟩
  exact wpAny_pure ⟨_, rfl, h _ l' mem' len' (I.write (e := D) (t' := s.toks + 1) (by rw [hD]; trivial) (.inl rfl) (fun b u hb hu => (oth b hb).trans hu) he (txO_new tx'))⟩
/-- {elt for target in iter if ..}, elt a text: D the new set -/
def tScT (P : Program) (w : World) (wi : TI) (g : TG) (tt : TT) (te : TE) (vs : List Nat) : TE := fun σ H Q => wi σ H fun J H1 => ∀ D, H1 D = none → ∃ W : Nat → Nat → Hp → Prop, (∃ m, W 0 m (upd H1 D (TxO P w D []))) ∧ ∀ i m H, W i m H →
  (J.stop i H ∧ Q (.ref D) H) ∨ (J.go i H ∧ ∃ Nx : Hp → Prop, (∀ H', Nx H' → ∃ m', m' < m ∧ W (i + 1) m' H') ∧ ∀ x H', J.yld i H x H' → g x (wipe σ vs) H' fun σ2 H2 => wipe σ2 vs = wipe σ vs ∧ tt σ2 H2 fun b H3 =>
    if b = true then te σ2 H3 fun y H4 => ∃ (z : Str) (l : List Str), y = .str z ∧ H4 D = some (TxO P w D l) ∧ l.length + 1 < scanBound ∧ ∀ l', (∀ u, u ∈ l' ↔ u = z ∨ u ∈ l) → l'.length ≤ l.length + 1 → Nx (upd H4 D (TxO P w D l')) else Nx H3)
theorem scT_core {pins : List (Addr × Obj)} {s : Shared} {σ : L2.St} {H : Hp} {Q : VK} {elt tg iter : Expr} {ifs : List Expr} {scope : Scope} {own : List (PySem.Str × Nat)} {pos pos' : Pos} {wi : TI} {g : TG} {tt : TT} {te : TE} {use : Option (Value → Sem Unit)} {Qf : Value → Shared → Prop}
    (hc : X.calm = true) (hN : X.N.Nodup) (I : Inv X pins σ H s) (hi : PI X tg iter wi) (ok : BlkOk X.N X.env.scope scope own)
    (hg : ∀ (s : Shared) (H : Hp) (C : Addr) (cl : List (PySem.Str × Addr)) (fp : List Addr), PG (X.blk s H scope (compEnvC scope cl C X.env) fp) tg g) (ht : ∀ (s : Shared) (H : Hp) (C : Addr) (cl : List (PySem.Str × Addr)) (fp : List Addr), PTs (X.blk s H scope (compEnvC scope cl C X.env) fp) ifs tt)
    (he : ∀ (s : Shared) (H : Hp) (C : Addr) (cl : List (PySem.Str × Addr)) (fp : List Addr), PE (X.blk s H scope (compEnvC scope cl C X.env) fp) elt te) (hs : ∀ x, foldedSetIterable iter X.env x = pure x)
    (h : tScT X.prog X.w wi g tt te (own.map (·.2)) σ H Q)
    (hRR : ∀ D C s' m H', Inv X pins σ H' s' → Q (.ref D) H' → s'.heap.Ns C m → FpOk X pins H' C → compPost (model X.prog X.w) X.A X.xe use Qf (.ref D) C (.ok .next) s') :
    wpAny (model X.prog X.w) X.A (comprehension (.SetComp elt [⟨tg, iter, ifs, 0⟩] scope pos) scope X.env pos' (newSet (.type "set")) false (eval iter X.env) use) Qf X.xe s := by
  have hfree : ∀ y ∈ scope.names, y.2 = .free → ∃ c, X.env.cells.lookup y.1 = some c := fun y hy e => by
    rcases ok.free y hy e with k | k
    · exact I.ok.has _ (.inl k)
    · exact I.ok.has _ (.inr k)
  refine wpAny_comprehension_free (use := use) rfl hs (closure_ok hfree) ok.kind (fun y hy e => by rw [ok.uniq y hy, e])
    (thn (hi.run pins s σ H _ I h) fun xv s1 hx => thn hx fun itv s2 h2 => ?_)
  obtain ⟨it, fp, tn, J, H2, e, I2, T, st2, f2, q⟩ := h2
  subst e
  refine newSet_ok (newEnv_comp ?_)
  generalize hD : s2.heap.objs.size = D
  have hDn : H2 D = none := I2.hok.fresh (Nat.le_of_eq hD)
  obtain ⟨W, ⟨m0, w0⟩, turn⟩ := q D hDn
  generalize hs3 : ({ s2 with heap := s2.heap.push { cls := .type "set", dict := none, data := .set #[] 0 (.fresh 0 0 (!X.w.params.followText "set-order")) } } : Shared) = s3
  have I3 : Inv X pins σ (upd H2 D (TxO X.prog X.w D [])) s3 := by
    rw [← hs3]
    refine I2.laid (t' := s2.toks) (fun b o e => Heap.get?_push_of_some _ e) (Nat.le_of_eq hD) ?_
    rw [← hD]
    exact txO_new (MKS.new_tx (Heap.get?_push_size _ rfl))
  have h3 : s3.heap = s2.heap.push { cls := .type "set", dict := none, data := .set #[] 0 (.fresh 0 0 (!X.w.params.followText "set-order")) } := by rw [← hs3]
  have sz : ∀ b ∈ fp, b < s2.heap.objs.size := fun b hb => by
    obtain ⟨o, e, _⟩ := T.obj _ _ st2 b hb
    exact Heap.lt_size e
  have f3 : ∀ b ∈ fp, FpOk X pins (upd H2 D (TxO X.prog X.w D [])) b ∧ b < s3.heap.objs.size := fun b hb => by
    have hlt := sz b hb
    refine ⟨⟨?_, (f2 b hb).2⟩, by rw [h3, Heap.size_push]; exact Nat.lt_succ_of_lt hlt⟩
    rw [upd_ne (by rw [← hD]; exact Nat.ne_of_lt hlt)]
    exact (f2 b hb).1
  have st3 : tn 0 s3.heap := T.keep _ _ _ st2 fun b _ o e => by rw [h3]; exact Heap.get?_push_of_some _ e
  have I4 := block_start I3 ok hN f3
  have pg := hg s3 (upd H2 D (TxO X.prog X.w D [])) s3.heap.objs.size (cellsFrom (s3.heap.objs.size + 1) scope.names (cloFrom X.env.cells scope.names [])) fp
  have pt := ht s3 (upd H2 D (TxO X.prog X.w D [])) s3.heap.objs.size (cellsFrom (s3.heap.objs.size + 1) scope.names (cloFrom X.env.cells scope.names [])) fp
  have pe := he s3 (upd H2 D (TxO X.prog X.w D [])) s3.heap.objs.size (cellsFrom (s3.heap.objs.size + 1) scope.names (cloFrom X.env.cells scope.names [])) fp
  show codeAny _ _ (.compStart (.SetComp elt [⟨tg, iter, ifs, 0⟩] scope pos) 0 (.ref it) (.ref D) (compEnvC scope (cellsFrom (s3.heap.objs.size + 1) scope.names (cloFrom X.env.cells scope.names [])) s3.heap.objs.size X.env)) (compPost (model X.prog X.w) X.A X.xe use Qf (.ref D) s3.heap.objs.size) { s3 with heap := pushCells (s3.heap.push { cls := .type "dict", data := .dict #[] }) scope.names }
  have nfp : ∀ b ∈ fp, (upd H2 D (TxO X.prog X.w D [])) b = none := fun b hb => (f3 b hb).1.1
  generalize hce : compEnvC scope (cellsFrom (s3.heap.objs.size + 1) scope.names (cloFrom X.env.cells scope.names [])) s3.heap.objs.size X.env = ce at I4 pg pt pe ⊢
  have cL : ce.locals = s3.heap.objs.size := by subst hce; rfl
  generalize hH3 : upd H2 D (TxO X.prog X.w D []) = H3 at I3 I4 pg pt pe w0 nfp f3
  generalize hs4 : ({ s3 with heap := pushCells (s3.heap.push { cls := .type "dict", data := .dict #[] }) scope.names } : Shared) = s4 at I4 ⊢
  have st4 : tn 0 s4.heap := T.keep _ _ _ st3 fun b _ o e => by rw [← hs4]; exact pushCells_keeps _ _ _ _ (Heap.get?_push_of_some _ e)
  have stat : ∀ {σ' : L2.St} {H' : Hp} {s' : Shared}, Inv (X.blk s3 H3 scope ce fp) [] σ' H' s' → (∀ b ∈ fp, H' b = none) → ∀ b ∈ fp, FpOk (X.blk s3 H3 scope ce fp) [] H' b := fun {σ' H' s'} I' hn b hb =>
    ⟨hn b hb, (I'.ok.exf b hb).1, I'.ok.exfs b hb, .inl hb, fun x c e => (I'.ok.exf b hb).2 x c e, fun p hp => absurd (show p ∈ ([] : List (Addr × Obj)) ++ [] from hp) (by simp)⟩
  have loop : codeAny (model X.prog X.w) X.A (.compLoop (.SetComp elt [⟨tg, iter, ifs, 0⟩] scope pos) 0 (.ref it) (.ref D) ce) (compPost (model X.prog X.w) X.A X.xe use Qf (.ref D) s3.heap.objs.size) s4 := by
    refine compLoopS_any (fun n s' => ∃ i H', Inv (X.blk s3 H3 scope ce fp) [] (wipe σ (own.map (·.2))) H' s' ∧ tn i s'.heap ∧ (∀ b ∈ fp, H' b = none) ∧ W i n H') ?_ m0 ⟨0, H3, I4, st4, nfp, w0⟩
    rintro n s5 ⟨i, H5, I5, st5, n5, w5⟩
    rcases turn i n H5 w5 with ⟨stop, qq⟩ | ⟨go, Nx, hNx, step⟩
    · have td := T.done (X.blk s3 H3 scope ce fp) rfl rfl rfl hc i [] s5 _ H5 (fun _ _ => False) I5 (stat I5 n5) st5 stop
      refine thnF td fun r s6 ⟨hr, I6⟩ => ?_
      subst hr
      have I7 : Inv X pins σ H5 s6 := I3.call' (ch := fp) I6.os I6.base I6.hok I6.bare fun b hb => ⟨(f3 b hb).1.2.2.2.1, (f3 b hb).1.2.1, (f3 b hb).1.2.2.2.2.1, (f3 b hb).1.2.2.2.2.2⟩
      have nC : H5 s3.heap.objs.size = none := by
        have z : H5 ce.locals = none := I6.free
        rw [cL] at z
        exact z
      obtain ⟨m, hn, _⟩ := I6.loc
      have hn : s6.heap.Ns ce.locals m := hn
      rw [cL] at hn
      exact hRR D s3.heap.objs.size s6 m H5 I7 qq hn (I3.fpOk (Nat.le_refl _) nC)
    · have ti := T.item (X.blk s3 H3 scope ce fp) rfl rfl rfl hc i [] s5 _ H5 (fun _ _ => False) I5 (stat I5 n5) st5 go
      refine thnF ti fun r s6 ⟨u, hr, h6⟩ => ?_
      subst hr
      refine thnF h6 fun _ s7 ⟨x, H7, I7, r7, y7, st7, n7⟩ => ?_
      have I7' := I7.pinned (stat I7 n7) (T.obj _ _ st7)
      refine thnF (pg.run _ s7 _ H7 x u _ I7' r7 (step x H7 y7)) fun _ s8 ⟨σ8, H8, I8, hw8, q8⟩ => ?_
      refine thnF (pt.run _ s8 σ8 H8 _ I8 q8) fun b s9 ⟨H9, I9, q9⟩ => ?_
      have fin : ∀ {s' : Shared} {H' : Hp}, Inv (X.blk s3 H3 scope ce fp) ([] ++ pinsAt fp s7.heap) σ8 H' s' → Nx H' → ∃ m, m < n ∧ ∃ i H', Inv (X.blk s3 H3 scope ce fp) [] (wipe σ (own.map (·.2))) H' s' ∧ tn i s'.heap ∧ (∀ b ∈ fp, H' b = none) ∧ W i m H' := fun {s' H'} I' nx => by
        obtain ⟨m', hm, w'⟩ := hNx H' nx
        have pin' : ∀ b ∈ fp, ∀ o, s7.heap.get? b = some o → s'.heap.get? b = some o ∧ H' b = none := fun b hb o e =>
          let z := I'.pin (b, o) (List.mem_append_right _ (List.mem_append_right _ (mem_pinsAt hb e)))
          ⟨z.1, z.2.1⟩
        have hl : (wipe σ (own.map (·.2))).length = σ8.length := by rw [← hw8, wipe_length]
        refine ⟨m', hm, i + 1, H', (I'.unpinned (pins := [])).weak hl (fun j v e => ?_), T.keep _ _ _ st7 fun b hb o e => (pin' b hb o e).1, fun b hb => ?_, w'⟩
        · rw [← hw8] at e
          exact (wipe_some e).1
        · obtain ⟨o, e, _⟩ := T.obj _ _ st7 b hb
          exact (pin' b hb o e).2
      cases b with
      | false =>
        simp only [Bool.false_eq_true, if_false] at q9 ⊢
        exact fin I9 q9
      | true =>
        simp only [if_true] at q9 ⊢
        refine thnF (pe.run _ s9 σ8 H9 _ I9 q9) fun z s10 ⟨yv, H10, I10, r10, zb, l0, ey, hD10, hz10, nx⟩ => ?_
        subst ey
        obtain ⟨t10, ez⟩ := (show ∃ t, z = Value.str zb t from r10)
        subst ez
        exact addTx_ok (X := X.blk s3 H3 scope ce fp) I10 hD10 hz10 fun s11 l' hm hl I11 => fin I11 (nx l' hm hl)
  exact codeAny_compStart_set loop (T.self X.A 0 _ _ _ st4 loop)
/-- as a value -/
theorem pe_scT {elt tg iter : Expr} {ifs : List Expr} {scope : Scope} {own : List (PySem.Str × Nat)} {pos : Pos} {wi : TI} {g : TG} {tt : TT} {te : TE} (hc : X.calm = true) (hN : X.N.Nodup) (hi : PI X tg iter wi) (ok : BlkOk X.N X.env.scope scope own)
    (hg : ∀ (s : Shared) (H : Hp) (C : Addr) (cl : List (PySem.Str × Addr)) (fp : List Addr), PG (X.blk s H scope (compEnvC scope cl C X.env) fp) tg g) (ht : ∀ (s : Shared) (H : Hp) (C : Addr) (cl : List (PySem.Str × Addr)) (fp : List Addr), PTs (X.blk s H scope (compEnvC scope cl C X.env) fp) ifs tt)
    (he : ∀ (s : Shared) (H : Hp) (C : Addr) (cl : List (PySem.Str × Addr)) (fp : List Addr), PE (X.blk s H scope (compEnvC scope cl C X.env) fp) elt te) (hs : ∀ x, foldedSetIterable iter X.env x = pure x := by intro _; rfl) :
    PE X (.SetComp elt [⟨tg, iter, ifs, 0⟩] scope pos) (tScT X.prog X.w wi g tt te (own.map (·.2))) := by
  refine ⟨fun pins s σ H Q I h => ?_⟩
  rw [eval_SetComp]
  refine scT_core hc hN I hi ok hg ht he hs h fun D C s' m H' I' q hn f => ⟨m, hn, fun h'' sb => ?_⟩
  obtain ⟨f0, f1, f2, f3, f4, f5⟩ := f
  exact ⟨.ref D, H', I'.turned (t' := s'.toks) (fun b o hb e => (sb.2 b hb).trans e) f0 f1 f3 f4 f5, rfl, q⟩
end
/-- over a list that the block leaves as it is -/
theorem scT_list {P : Program} {w : World} {K : PySem.W.Frag} {a : Addr} {xs : List V} {g : TG} {tt : TT} {te : TE} {vs : List Nat} {σ : L2.St} {H1 : Hp} {D : Addr} {Qd : Hp → Prop} (Pv : Nat → Hp → Prop) (h0 : Pv 0 (upd H1 D (TxO P w D []))) (hl : ∀ i H, i ≤ xs.length → Pv i H → SqL K H a xs)
    (hs : ∀ i x H, xs[i]? = some x → Pv i H → g x (wipe σ vs) H fun σ2 H2 => wipe σ2 vs = wipe σ vs ∧ tt σ2 H2 fun b H3 =>
      if b = true then te σ2 H3 fun y H4 => ∃ (z : Str) (l : List Str), y = .str z ∧ H4 D = some (TxO P w D l) ∧ l.length + 1 < scanBound ∧ ∀ l', (∀ u, u ∈ l' ↔ u = z ∨ u ∈ l) → l'.length ≤ l.length + 1 → Pv (i + 1) (upd H4 D (TxO P w D l')) else Pv (i + 1) H3) (hd : ∀ H, Pv xs.length H → Qd H) :
    ∃ W : Nat → Nat → Hp → Prop, (∃ m, W 0 m (upd H1 D (TxO P w D []))) ∧ ∀ i m H, W i m H →
      ((Itl K a).stop i H ∧ Qd H) ∨ ((Itl K a).go i H ∧ ∃ Nx : Hp → Prop, (∀ H', Nx H' → ∃ m', m' < m ∧ W (i + 1) m' H') ∧ ∀ x H', (Itl K a).yld i H x H' → g x (wipe σ vs) H' fun σ2 H2 => wipe σ2 vs = wipe σ vs ∧ tt σ2 H2 fun b H3 =>
        if b = true then te σ2 H3 fun y H4 => ∃ (z : Str) (l : List Str), y = .str z ∧ H4 D = some (TxO P w D l) ∧ l.length + 1 < scanBound ∧ ∀ l', (∀ u, u ∈ l' ↔ u = z ∨ u ∈ l) → l'.length ≤ l.length + 1 → Nx (upd H4 D (TxO P w D l')) else Nx H3) := by
  refine ⟨fun i m H => m = xs.length - i ∧ i ≤ xs.length ∧ Pv i H, ⟨xs.length, by simp, Nat.zero_le _, h0⟩, ?_⟩
  rintro i m H ⟨rfl, hi, p⟩
  have q := hl i H hi p
  by_cases hlt : i < xs.length
  · refine .inr ⟨⟨xs, xs[i], q, by simp [hlt]⟩, Pv (i + 1), fun H' p' => ⟨xs.length - (i + 1), by omega, rfl, hlt, p'⟩, fun x H' y => ?_⟩
    obtain ⟨e, y⟩ := y
    subst e
    exact hs i x _ (y xs q) p
  · have e : i = xs.length := by omega
    subst e
    exact .inl ⟨⟨xs, q, Nat.le_refl _⟩, hd H p⟩
end L2
namespace L2N
open PySem PySem.Spec PyProof.Rows L2
/-- X(e, ..), X an own error class without own __init__ -/
theorem pmk_ownA {X : Cx} {pos : Pos} {C : Addr} {bmB : List Value} {B newId initId : String} {x : Str} {p : Pos} {e : Expr} {es : List Expr} {t : TA} (F : ExcBaseFacts B newId initId bmB) (q : PySem.W.excIn X.K C bmB newId = true) (gC : X.mg x = some (.ref C))
    (kC : PySem.W.keepIn X.K (.ref C) = true) (r : Raises X (.ref C)) (hg : Gl X x) (ha : PA X (e :: es) t) (hdb : (x == ("__debug__" : Str)) = false := by decide)
    (he : starEach (e :: es) X.env = (false, eval e X.env) :: starEach es X.env := by rfl) (hpl : (backTo pos (starEach es X.env)).any (·.1) = false := by rfl) :
    PMk X (.Call (.Name x p) (e :: es) [] pos) (fun σ H Q => t σ H fun vs H1 => vs.length ≤ sizeLine ∧ Q (.ref C) none H1) := by
  intro pins s σ H Q I h
  refine wpAny_Call_Name_kw (ld_glob I hg gC ?_ hdb)
  refine PySem.W.callWith_K (h₀ := X.base) I.ok.mod.kin kC (thn (ha.run pos pins s σ H _ I h) fun us s1 ⟨vs, H1, I1, r1, hz, q1⟩ => ⟨I1.kIn, ?_⟩) he hpl
  show wpAny _ _ (call (.ref C) us) _ _ _
  obtain ⟨bm, N, nm, qn, bs, hdct, sn, sub, ab, col, dd, k0, k1, k2, k3, k5, mN, hC, hN, hni, T⟩ := exc_obj I1.kIn q
  refine wpAny_call_exc_subT F T hC hN hni (fun h' e hm => ?_) (by rw [← r1.length]; exact hz)
  exact mk_of I1 hm r q1 (I1.hok.gone hm.new)
end L2N


set_option Elab.async false
set_option linter.all false
set_option maxRecDepth 100000
set_option maxHeartbeats 4000000
/-! The pairs that have to be alike; heaps that are alike but at two lists. -/
namespace MK
open PySem PySem.Spec PyProof.Rows L2
/-- the pairs of measures that have to be alike, from left to right -/
noncomputable def prs (env : Str → Ms) : Rk → List Ms → List (Ms × Ms)
  | .is _ _ _, _ => []
  | .nought, _ => []
  | .input _, _ => []
  | .bin o a b, g => match o with
    | .times => prs env a g ++ prs env b (g.drop a.noughts)
    | .over => prs env a g ++ prs env b (g.drop a.noughts)
    | _ => prs env a g ++ prs env b (g.drop a.noughts) ++ [((walk env a g).1, (walk env b (g.drop a.noughts)).1)]
  | .power a _, g => prs env a g
  | .less a b c d, g => prs env a g ++ prs env b (g.drop a.noughts) ++ prs env c (g.drop (a.noughts + b.noughts)) ++ prs env d (g.drop (a.noughts + b.noughts + c.noughts)) ++
      [((walk env a g).1, (walk env b (g.drop a.noughts)).1)] ++ [((walk env c (g.drop (a.noughts + b.noughts))).1, (walk env d (g.drop (a.noughts + b.noughts + c.noughts))).1)]
/-- one over the other -/
noncomputable def ovr (p : Ms × Ms) : Ms := mulC p.1 p.2 (-1)
theorem prs_rows (env : Str → Ms) : ∀ (r : Rk) (g : List Ms), (walk env r g).2 = (prs env r g).map ovr
  | .is _ _ _, _ => rfl
  | .nought, _ => rfl
  | .input _, _ => rfl
  | .bin .times a b, g => by
    show (walk env a g).2 ++ (walk env b (g.drop a.noughts)).2 = (prs env a g ++ prs env b (g.drop a.noughts)).map ovr
    rw [List.map_append, prs_rows env a, prs_rows env b]
  | .bin .over a b, g => by
    show (walk env a g).2 ++ (walk env b (g.drop a.noughts)).2 = (prs env a g ++ prs env b (g.drop a.noughts)).map ovr
    rw [List.map_append, prs_rows env a, prs_rows env b]
  | .bin .plus a b, g => by
    show (walk env a g).2 ++ (walk env b (g.drop a.noughts)).2 ++ [_] = (prs env a g ++ prs env b (g.drop a.noughts) ++ [_]).map ovr
    rw [List.map_append, List.map_append, prs_rows env a, prs_rows env b]
    rfl
  | .bin .minus a b, g => by
    show (walk env a g).2 ++ (walk env b (g.drop a.noughts)).2 ++ [_] = (prs env a g ++ prs env b (g.drop a.noughts) ++ [_]).map ovr
    rw [List.map_append, List.map_append, prs_rows env a, prs_rows env b]
    rfl
  | .power a n, g => prs_rows env a g
  | .less a b c d, g => by
    show (walk env a g).2 ++ (walk env b (g.drop a.noughts)).2 ++ (walk env c (g.drop (a.noughts + b.noughts))).2 ++ (walk env d (g.drop (a.noughts + b.noughts + c.noughts))).2 ++ [_] ++ [_] =
      (prs env a g ++ prs env b (g.drop a.noughts) ++ prs env c (g.drop (a.noughts + b.noughts)) ++ prs env d (g.drop (a.noughts + b.noughts + c.noughts)) ++ [_] ++ [_]).map ovr
    rw [List.map_append, List.map_append, List.map_append, List.map_append, List.map_append, prs_rows env a, prs_rows env b, prs_rows env c, prs_rows env d]
    rfl
theorem prs_len (env : Str → Ms) (r : Rk) (g : List Ms) : (prs env r g).length + 1 ≤ r.lvs := by
  have h := walk_len env r g
  rw [prs_rows, List.length_map] at h
  exact h
noncomputable def prss (env : Str → Ms) : List Rk → List Ms → List (List (Ms × Ms))
  | [], _ => []
  | x :: r, g => prs env x g :: prss env r (g.drop x.noughts)
theorem prss_len (env : Str → Ms) : ∀ (l : List Rk) (g : List Ms), (prss env l g).length = l.length
  | [], _ => rfl
  | x :: r, g => congrArg (· + 1) (prss_len env r (g.drop x.noughts))
theorem prss_at (env : Str → Ms) : ∀ (l : List Rk) (g : List Ms) {i : Nat} {x : Rk}, l[i]? = some x → (prss env l g)[i]? = some (prs env x (g.drop (nsum (l.take i))))
  | [], g, i, x, h => by simp at h
  | y :: r, g, 0, x, h => by
    obtain rfl : y = x := Option.some.inj h
    show some (prs env y g) = _
    rw [List.take_zero]
    rfl
  | y :: r, g, i + 1, x, h => by
    have e := prss_at env r (g.drop y.noughts) (i := i) (x := x) (by simpa using h)
    show (prss env r (g.drop y.noughts))[i]? = _
    rw [e, List.drop_drop]
    rfl
theorem prss_flat (env : Str → Ms) : ∀ (l : List Rk) (g : List Ms), (prss env l g).flatten.length ≤ (l.map Rk.lvs).sum
  | [], _ => Nat.zero_le _
  | x :: r, g => by
    have h1 := prs_len env x g
    have h2 := prss_flat env r (g.drop x.noughts)
    show (prs env x g ++ (prss env r (g.drop x.noughts)).flatten).length ≤ x.lvs + (r.map Rk.lvs).sum
    rw [List.length_append]
    omega
theorem prss_take (env : Str → Ms) : ∀ (l : List Rk) (g : List Ms) (i : Nat), (prss env l g).take i = prss env (l.take i) g
  | [], _, i => by
    rw [List.take_nil]
    exact List.take_nil
  | x :: r, g, 0 => rfl
  | x :: r, g, i + 1 => congrArg (_ :: ·) (prss_take env r (g.drop x.noughts) i)
theorem lvs_take : ∀ {l : List Rk} {i : Nat} {x : Rk}, l[i]? = some x → ((l.take i).map Rk.lvs).sum + x.lvs ≤ (l.map Rk.lvs).sum
  | [], i, x, h => by simp at h
  | y :: r, 0, x, h => by
    obtain rfl : y = x := Option.some.inj h
    show 0 + y.lvs ≤ y.lvs + (r.map Rk.lvs).sum
    omega
  | y :: r, i + 1, x, h => by
    have := lvs_take (l := r) (i := i) (x := x) (by simpa using h)
    show y.lvs + ((r.take i).map Rk.lvs).sum + x.lvs ≤ y.lvs + (r.map Rk.lvs).sum
    omega
theorem flatten_more {α : Type} {l : List (List α)} {i : Nat} {x : List α} (h : l[i]? = some x) : (l.take (i + 1)).flatten = (l.take i).flatten ++ x := by
  rw [take_more h, List.flatten_append]
  show _ ++ (x ++ []) = _
  rw [List.append_nil]
theorem flatten_le {α : Type} (l : List (List α)) (i : Nat) : (l.take i).flatten.length ≤ l.flatten.length := by
  conv => rhs; rw [← List.take_append_drop i l, List.flatten_append, List.length_append]
  exact Nat.le_add_right _ _
/-- each pair's measures are small -/
theorem prs_b {env : Str → Ms} {l b : Nat} (he : ∀ s, MsB l b (env s)) (l6 : 6 ≤ l) (b5 : 5 ≤ b) : ∀ {r : Rk} {g : List Ms}, r.Ok → (∀ m ∈ g, MsB l b m) → ∀ p ∈ prs env r g, MsB (l * r.lvs) (b + 3 * r.deep) p.1 ∧ MsB (l * r.lvs) (b + 3 * r.deep) p.2
  | .is _ _ _, g, _, _, p, hp => absurd (show p ∈ [] from hp) (by simp)
  | .nought, g, _, _, p, hp => absurd (show p ∈ [] from hp) (by simp)
  | .input _, g, _, _, p, hp => absurd (show p ∈ [] from hp) (by simp)
  | .bin o a c, g, ⟨o1, o2⟩, hg, p, hp => by
    have hd : ∀ m ∈ g.drop a.noughts, MsB l b m := fun m hm => hg m (List.mem_of_mem_drop hm)
    have w1 := walk_b he l6 b5 (g := g) o1 hg
    have w2 := walk_b he l6 b5 (g := g.drop a.noughts) o2 hd
    have e : (Rk.bin o a c).deep = 1 + max a.deep c.deep := rfl
    have e2 : l * (Rk.bin o a c).lvs = l * a.lvs + l * c.lvs := Nat.mul_add l a.lvs c.lvs
    have h1 : p ∈ prs env a g → MsB (l * (Rk.bin o a c).lvs) (b + 3 * (Rk.bin o a c).deep) p.1 ∧ MsB (l * (Rk.bin o a c).lvs) (b + 3 * (Rk.bin o a c).deep) p.2 := fun h =>
      ⟨(prs_b he l6 b5 o1 hg p h).1.mono (by omega) (by omega), (prs_b he l6 b5 o1 hg p h).2.mono (by omega) (by omega)⟩
    have h2 : p ∈ prs env c (g.drop a.noughts) → MsB (l * (Rk.bin o a c).lvs) (b + 3 * (Rk.bin o a c).deep) p.1 ∧ MsB (l * (Rk.bin o a c).lvs) (b + 3 * (Rk.bin o a c).deep) p.2 := fun h =>
      ⟨(prs_b he l6 b5 o2 hd p h).1.mono (by omega) (by omega), (prs_b he l6 b5 o2 hd p h).2.mono (by omega) (by omega)⟩
    have h3 : p = ((walk env a g).1, (walk env c (g.drop a.noughts)).1) → MsB (l * (Rk.bin o a c).lvs) (b + 3 * (Rk.bin o a c).deep) p.1 ∧ MsB (l * (Rk.bin o a c).lvs) (b + 3 * (Rk.bin o a c).deep) p.2 := fun h => by
      rw [h]
      exact ⟨w1.mono (by omega) (by omega), w2.mono (by omega) (by omega)⟩
    cases o with
    | times => exact (List.mem_append.mp (show p ∈ prs env a g ++ prs env c (g.drop a.noughts) from hp)).elim h1 h2
    | over => exact (List.mem_append.mp (show p ∈ prs env a g ++ prs env c (g.drop a.noughts) from hp)).elim h1 h2
    | plus => exact (List.mem_append.mp (show p ∈ prs env a g ++ prs env c (g.drop a.noughts) ++ [_] from hp)).elim (fun h => (List.mem_append.mp h).elim h1 h2) fun h => h3 (List.mem_singleton.mp h)
    | minus => exact (List.mem_append.mp (show p ∈ prs env a g ++ prs env c (g.drop a.noughts) ++ [_] from hp)).elim (fun h => (List.mem_append.mp h).elim h1 h2) fun h => h3 (List.mem_singleton.mp h)
  | .power a n, g, ⟨o1, _, _⟩, hg, p, hp => by
    have e : (Rk.power a n).deep = 1 + a.deep := rfl
    have e2 : (Rk.power a n).lvs = a.lvs := rfl
    have h := prs_b he l6 b5 o1 hg p hp
    rw [e2]
    exact ⟨h.1.mono (Nat.le_refl _) (by omega), h.2.mono (Nat.le_refl _) (by omega)⟩
  | .less a c d f, g, ⟨o1, o2, o3, o4⟩, hg, p, hp => by
    have hd : ∀ k, ∀ m ∈ g.drop k, MsB l b m := fun k m hm => hg m (List.mem_of_mem_drop hm)
    have e : (Rk.less a c d f).deep = 1 + max (max a.deep c.deep) (max d.deep f.deep) := rfl
    have e2 : l * (Rk.less a c d f).lvs = l * a.lvs + l * c.lvs + l * d.lvs + l * f.lvs := by
      show l * (a.lvs + c.lvs + d.lvs + f.lvs) = _
      rw [Nat.mul_add, Nat.mul_add, Nat.mul_add]
    have up : ∀ {x : Rk} {k : Nat}, x.Ok → x.deep < (Rk.less a c d f).deep → l * x.lvs ≤ l * (Rk.less a c d f).lvs → p ∈ prs env x (g.drop k) → MsB (l * (Rk.less a c d f).lvs) (b + 3 * (Rk.less a c d f).deep) p.1 ∧ MsB (l * (Rk.less a c d f).lvs) (b + 3 * (Rk.less a c d f).deep) p.2 → True := fun _ _ _ _ _ => trivial
    have w1 := walk_b he l6 b5 (g := g) o1 hg
    have w2 := walk_b he l6 b5 (g := g.drop a.noughts) o2 (hd _)
    have w3 := walk_b he l6 b5 (g := g.drop (a.noughts + c.noughts)) o3 (hd _)
    have w4 := walk_b he l6 b5 (g := g.drop (a.noughts + c.noughts + d.noughts)) o4 (hd _)
    have hp : p ∈ prs env a g ++ prs env c (g.drop a.noughts) ++ prs env d (g.drop (a.noughts + c.noughts)) ++ prs env f (g.drop (a.noughts + c.noughts + d.noughts)) ++
      [((walk env a g).1, (walk env c (g.drop a.noughts)).1)] ++ [((walk env d (g.drop (a.noughts + c.noughts))).1, (walk env f (g.drop (a.noughts + c.noughts + d.noughts))).1)] := hp
    simp only [List.mem_append, List.mem_singleton] at hp
    rcases hp with ((((h | h) | h) | h) | h) | h
    · exact ⟨(prs_b he l6 b5 o1 hg p h).1.mono (by omega) (by omega), (prs_b he l6 b5 o1 hg p h).2.mono (by omega) (by omega)⟩
    · exact ⟨(prs_b he l6 b5 o2 (hd _) p h).1.mono (by omega) (by omega), (prs_b he l6 b5 o2 (hd _) p h).2.mono (by omega) (by omega)⟩
    · exact ⟨(prs_b he l6 b5 o3 (hd _) p h).1.mono (by omega) (by omega), (prs_b he l6 b5 o3 (hd _) p h).2.mono (by omega) (by omega)⟩
    · exact ⟨(prs_b he l6 b5 o4 (hd _) p h).1.mono (by omega) (by omega), (prs_b he l6 b5 o4 (hd _) p h).2.mono (by omega) (by omega)⟩
    · rw [h]
      exact ⟨w1.mono (by omega) (by omega), w2.mono (by omega) (by omega)⟩
    · rw [h]
      exact ⟨w3.mono (by omega) (by omega), w4.mono (by omega) (by omega)⟩
/-! ### letters -/
theorem mulC_in {m n : Ms} {x : Int} {G : Str → Prop} (hm : ∀ p ∈ m, G p.1) (hn : ∀ p ∈ n, G p.1) : ∀ p ∈ mulC m n x, G p.1 := fun p hp => by
  by_cases e : ∃ r, IsTms m n x r
  · obtain ⟨r, t⟩ := e
    rw [mulC_is t] at hp
    obtain ⟨c, eq⟩ := t
    have q := (c.mem p.1 p.2).mp hp
    by_cases z1 : at0 m p.1 = 0
    · refine hn (p.1, at0 n p.1) (at0_mem fun z2 => q.1 ?_)
      rw [← q.2, eq, z1, z2]
      omega
    · exact hm (p.1, at0 m p.1) (at0_mem z1)
  · unfold mulC at hp
    rw [dif_neg e] at hp
    exact absurd hp (by simp)
theorem walk_in {env : Str → Ms} {G : Str → Prop} (he : ∀ s, ∀ p ∈ env s, G p.1) (hG : ∀ z, Nm z → G z) : ∀ {r : Rk} {g : List Ms}, r.Ok → (∀ m ∈ g, ∀ p ∈ m, G p.1) → ∀ p ∈ (walk env r g).1, G p.1
  | .is x y m, g, ⟨_, _, _, h⟩, _ => fun p hp => hG _ (h.nm p hp)
  | .nought, g, _, hg => fun p hp => by
    cases g with
    | nil => exact absurd (show p ∈ [] from hp) (by simp)
    | cons m g => exact hg m List.mem_cons_self p hp
  | .input s, g, _, _ => he s
  | .bin o a c, g, ⟨o1, o2⟩, hg => by
    have h1 := walk_in he hG (g := g) o1 hg
    have h2 := walk_in he hG (g := g.drop a.noughts) o2 fun m hm => hg m (List.mem_of_mem_drop hm)
    cases o with
    | times => exact mulC_in h1 h2
    | over => exact mulC_in h1 h2
    | plus => exact h1
    | minus => exact h1
  | .power a n, g, ⟨o1, _, _⟩, hg => mulC_in (fun p hp => absurd hp (by simp)) (walk_in he hG (g := g) o1 hg)
  | .less a c d f, g, ⟨_, _, o3, _⟩, hg => walk_in he hG (g := g.drop (a.noughts + c.noughts)) o3 fun m hm => hg m (List.mem_of_mem_drop hm)
theorem prs_in {env : Str → Ms} {G : Str → Prop} (he : ∀ s, ∀ p ∈ env s, G p.1) (hG : ∀ z, Nm z → G z) : ∀ {r : Rk} {g : List Ms}, r.Ok → (∀ m ∈ g, ∀ p ∈ m, G p.1) → ∀ q ∈ prs env r g, (∀ p ∈ q.1, G p.1) ∧ ∀ p ∈ q.2, G p.1
  | .is _ _ _, g, _, _, q, hq => absurd (show q ∈ [] from hq) (by simp)
  | .nought, g, _, _, q, hq => absurd (show q ∈ [] from hq) (by simp)
  | .input _, g, _, _, q, hq => absurd (show q ∈ [] from hq) (by simp)
  | .bin o a c, g, ⟨o1, o2⟩, hg, q, hq => by
    have hd : ∀ m ∈ g.drop a.noughts, ∀ p ∈ m, G p.1 := fun m hm => hg m (List.mem_of_mem_drop hm)
    have w1 := walk_in he hG (g := g) o1 hg
    have w2 := walk_in he hG (g := g.drop a.noughts) o2 hd
    have h1 := prs_in he hG (g := g) o1 hg q
    have h2 := prs_in he hG (g := g.drop a.noughts) o2 hd q
    have h3 : q = ((walk env a g).1, (walk env c (g.drop a.noughts)).1) → (∀ p ∈ q.1, G p.1) ∧ ∀ p ∈ q.2, G p.1 := fun h => by
      rw [h]
      exact ⟨w1, w2⟩
    cases o with
    | times => exact (List.mem_append.mp (show q ∈ prs env a g ++ prs env c (g.drop a.noughts) from hq)).elim h1 h2
    | over => exact (List.mem_append.mp (show q ∈ prs env a g ++ prs env c (g.drop a.noughts) from hq)).elim h1 h2
    | plus => exact (List.mem_append.mp (show q ∈ prs env a g ++ prs env c (g.drop a.noughts) ++ [_] from hq)).elim (fun h => (List.mem_append.mp h).elim h1 h2) fun h => h3 (List.mem_singleton.mp h)
    | minus => exact (List.mem_append.mp (show q ∈ prs env a g ++ prs env c (g.drop a.noughts) ++ [_] from hq)).elim (fun h => (List.mem_append.mp h).elim h1 h2) fun h => h3 (List.mem_singleton.mp h)
  | .power a n, g, ⟨o1, _, _⟩, hg, q, hq => prs_in he hG o1 hg q hq
  | .less a c d f, g, ⟨o1, o2, o3, o4⟩, hg, q, hq => by
    have hd : ∀ k, ∀ m ∈ g.drop k, ∀ p ∈ m, G p.1 := fun k m hm => hg m (List.mem_of_mem_drop hm)
    have hq : q ∈ prs env a g ++ prs env c (g.drop a.noughts) ++ prs env d (g.drop (a.noughts + c.noughts)) ++ prs env f (g.drop (a.noughts + c.noughts + d.noughts)) ++
      [((walk env a g).1, (walk env c (g.drop a.noughts)).1)] ++ [((walk env d (g.drop (a.noughts + c.noughts))).1, (walk env f (g.drop (a.noughts + c.noughts + d.noughts))).1)] := hq
    simp only [List.mem_append, List.mem_singleton] at hq
    rcases hq with ((((h | h) | h) | h) | h) | h
    · exact prs_in he hG o1 hg q h
    · exact prs_in he hG o2 (hd _) q h
    · exact prs_in he hG o3 (hd _) q h
    · exact prs_in he hG o4 (hd _) q h
    · rw [h]
      exact ⟨walk_in he hG o1 hg, walk_in he hG o2 (hd _)⟩
    · rw [h]
      exact ⟨walk_in he hG o3 (hd _), walk_in he hG o4 (hd _)⟩
/-! ### heaps -/
/-- what stands there stays, but at a and b -/
def But (a b : Addr) (H H' : Hp) : Prop := ∀ c x, c ≠ a → c ≠ b → H c = some x → H' c = some x
theorem But.of {a b : Addr} {H H' : Hp} (s : Same H H') : But a b H H' := fun c x _ _ h => s c x h
theorem But.trans {a b : Addr} {H H1 H2 : Hp} (h : But a b H H1) (g : But a b H1 H2) : But a b H H2 := fun c x n1 n2 e => g c x n1 n2 (h c x n1 n2 e)
theorem But.upd1 {a b : Addr} {H H' : Hp} {o : HO} (h : But a b H H') : But a b H (L2.upd H' a o) := fun c x n1 n2 e => by
  rw [upd_ne n1]
  exact h c x n1 n2 e
theorem But.upd2 {a b : Addr} {H H' : Hp} {o : HO} (h : But a b H H') : But a b H (L2.upd H' b o) := fun c x n1 n2 e => by
  rw [upd_ne n2]
  exact h c x n1 n2 e
theorem But.updN {a b d : Addr} {H H' : Hp} {o : HO} (h : But a b H H') (n : H d = none) : But a b H (L2.upd H' d o) := fun c x n1 n2 e => by
  rw [upd_ne (fun z => by rw [z, n] at e; cases e)]
  exact h c x n1 n2 e
/-- what is no list stays -/
def Fx (H H' : Hp) : Prop := ∀ c x, (∀ zs, x ≠ .lst zs) → H c = some x → H' c = some x
theorem Fx.of {H H' : Hp} (s : Same H H') : Fx H H' := fun c x _ h => s c x h
theorem Fx.trans {H H1 H2 : Hp} (h : Fx H H1) (g : Fx H1 H2) : Fx H H2 := fun c x n e => g c x n (h c x n e)
theorem Fx.lst {H : Hp} {d : Addr} {xs : List V} {o : HO} (h : H d = some (.lst xs)) : Fx H (L2.upd H d o) := fun c x n e => fne h e fun z => n _ z
theorem But.fx {a b : Addr} {H H' : Hp} {xs ys : List V} (h : But a b H H') (ha : H a = some (.lst xs)) (hb : H b = some (.lst ys)) : Fx H H' := fun c x n e =>
  h c x (fun z => n _ (by rw [z, ha] at e; exact (Option.some.inj e).symm)) (fun z => n _ (by rw [z, hb] at e; exact (Option.some.inj e).symm)) e
theorem pr_fx {H H' : Hp} {ts : List Addr} {m : Ms} (s : Fx H H') (p : Paired (PrAt H) ts m) : Paired (PrAt H') ts m := Paired.mono (fun _ q z => s _ (.tup [.str q.1, .int q.2]) (fun _ e => nomatch e) z) p
theorem MsN.fx {H H' : Hp} {b : Addr} {m : Ms} (s : Fx H H') (h : MsN H b m) : MsN H' b m := by
  obtain ⟨ts, ⟨o, e, d⟩, p⟩ := h
  exact ⟨ts, ⟨o, s _ _ (fun _ e => nomatch e) e, d⟩, pr_fx s p⟩
theorem TrAt.fx {H H' : Hp} (s : Fx H H') : ∀ {r : Rk} {p : Addr}, TrAt H r p → TrAt H' r p
  | .is x y m, p, ⟨q, b, h1, h2, h3⟩ => ⟨q, b, s _ _ (fun _ e => nomatch e) h1, s _ _ (fun _ e => nomatch e) h2, h3.fx s⟩
  | .nought, p, h => s p _ (fun _ e => nomatch e) h
  | .input z, p, h => s p _ (fun _ e => nomatch e) h
  | .bin o a b, p, ⟨q, r, h1, h2, h3⟩ => ⟨q, r, s _ _ (fun _ e => nomatch e) h1, TrAt.fx s h2, TrAt.fx s h3⟩
  | .power a n, p, ⟨q, h1, h2⟩ => ⟨q, s _ _ (fun _ e => nomatch e) h1, TrAt.fx s h2⟩
  | .less a b c d, p, ⟨q, r, u, v, h1, h2, h3, h4, h5⟩ => ⟨q, r, u, v, s _ _ (fun _ e => nomatch e) h1, TrAt.fx s h2, TrAt.fx s h3, TrAt.fx s h4, TrAt.fx s h5⟩
theorem NmAt.fx {H H' : Hp} {d : Addr} {ads : List (Str × Addr)} {fl : List (Str × Ms)} (s : Fx H H') (h : NmAt H d ads fl) : NmAt H' d ads fl := ⟨s _ _ (fun _ e => nomatch e) h.1, Paired.mono (fun x y z => ⟨z.1, z.2.fx s⟩) h.2⟩
/-- at q the pair of two measures -/
def PrMs (H : Hp) (q : Addr) (p : Ms × Ms) : Prop := ∃ a b, H q = some (.tup [.ref a, .ref b]) ∧ MsN H a p.1 ∧ MsN H b p.2
theorem PrMs.fx {H H' : Hp} {q : Addr} {p : Ms × Ms} (s : Fx H H') (h : PrMs H q p) : PrMs H' q p := by
  obtain ⟨a, b, h1, h2, h3⟩ := h
  exact ⟨a, b, s _ _ (fun _ e => nomatch e) h1, h2.fx s, h3.fx s⟩
theorem nmr_keys {H : Hp} {ads : List (Str × Addr)} {fl : List (Str × Ms)} (p : Paired (NmR H) ads fl) : ads.map (·.1) = fl.map (·.1) := by
  induction p with
  | nil => rfl
  | cons h _ ih => rw [List.map_cons, List.map_cons, h.1, ih]
theorem msN_dict {H : Hp} {D b : Addr} {kvs : List (L2.Key × V)} {o : HO} {m : Ms} (h : MsN H b m) (hD : H D = some (.dK kvs)) : MsN (L2.upd H D o) b m := by
  obtain ⟨ts, ⟨ob, e, d⟩, p⟩ := h
  refine ⟨ts, ⟨ob, ?_, d⟩, Paired.mono (fun t q z => ?_) p⟩
  · rw [upd_ne (ne_of e hD (fun e => nomatch e))]
    exact e
  · show L2.upd H D o t = _
    rw [upd_ne (ne_of z hD (fun e => nomatch e))]
    exact z
end MK


set_option Elab.async false
set_option linter.all false
set_option maxRecDepth 100000
set_option maxHeartbeats 4000000
/-! Dict comprehensions: over a list, over a dict's items, stored in a name; a new dict locked from here on. -/
namespace L2
open PySem PySem.Spec PyProof.Rows
section
variable {X : Cx}
/-- the object that e tells, locked from here on -/
def tFrz (t : TE) : TE := fun σ H Q => t σ H fun x H1 => ∃ d u, x = .ref d ∧ H1 d = some u ∧ Mut (some u) ∧ ∀ od, Q (.ref d) (upd H1 d (.frz od u))
theorem pe_frz {e : Expr} {t : TE} (h : PE X e t) : PE X e (tFrz t) := by
  refine ⟨fun pins s σ H Q I hw => ?_⟩
  refine thn (h.run pins s σ H _ I hw) fun v s1 ⟨x, H1, I1, r, d, u, ex, hd, mu, q⟩ => ?_
  subst ex
  obtain ⟨od, I2⟩ := I1.lock hd mu
  exact ⟨_, _, I2, r, q od⟩
/-- a written tuple that bears no dict, under a name -/
def tTupN (t : TA) : TE := fun σ H Q => t σ H fun xs H1 => xs.length ≤ sizeLine ∧ ∀ (p : Addr) (o : Obj), H1 p = none → o.dict = none → Q (.ref p) (upd H1 p (.frz o (.tup xs)))
theorem pe_tupM {es : List Expr} {t : TA} {pos : Pos} {x1 : Nat} (h : PA X es t) : PE X (.Tuple es x1 pos) (tTupN t) := pe_tupN h
/-- a dict comprehension, as it is stored in a name -/
theorem sw_trueD {kx vx : Expr} {gs : List Comprehension} {scope : Scope} {pos py : Pos} {y : Str} {l : Nat} {env : Env} (hk : env.scope.kind = .function) (hy : env.scope.names.lookup y = some .local) (hl : (py.line == pos.line) = true)
    (ha : (scope.names.any fun (n, k) => n == y && (k == .local || k == .cell)) = false) : swapsWith (.DictComp kx vx gs scope pos) (some (.Name y py)) l env = pure true := by
  have ky : env.kindOf y = some .local := hy
  have hb : env.blockKind = .function := by unfold Env.blockKind; rw [hk]; rfl
  unfold swapsWith
  simp only [hb, ky, ha, Expr.pos, hl]
  rfl
theorem ps_setDc {i : Nat} {y : Str} {py : Pos} {kx vx tg iter : Expr} {ifs : List Expr} {scope : Scope} {own : List (Str × Nat)} {pos spos : Pos} {wi : TI} {g : TG} {tt : TT} {tk tv : TE} (hc : X.calm = true) (hN : X.N.Nodup) (hy : X.N[i]? = some y) (hyl : X.env.scope.names.lookup y = some .local)
    (hsw : swapsWith (.DictComp kx vx [⟨tg, iter, ifs, 0⟩] scope pos) (some (.Name y py)) spos.line X.env = pure true) (hi : PI X tg iter wi) (ok : BlkOk X.N X.env.scope scope own)
    (hg : ∀ (s : Shared) (H : Hp) (C : Addr) (cl : List (Str × Addr)) (fp : List Addr), PG (X.blk s H scope (compEnvC scope cl C X.env) fp) tg g) (ht : ∀ (s : Shared) (H : Hp) (C : Addr) (cl : List (Str × Addr)) (fp : List Addr), PTs (X.blk s H scope (compEnvC scope cl C X.env) fp) ifs tt)
    (hk : ∀ (s : Shared) (H : Hp) (C : Addr) (cl : List (Str × Addr)) (fp : List Addr), PE (X.blk s H scope (compEnvC scope cl C X.env) fp) kx tk)
    (he : ∀ (s : Shared) (H : Hp) (C : Addr) (cl : List (Str × Addr)) (fp : List Addr), PE (X.blk s H scope (compEnvC scope cl C X.env) fp) vx tv) (hs : ∀ x, foldedSetIterable iter X.env x = pure x := by intro _; rfl) :
    PS X (.Assign [.Name y py] (.DictComp kx vx [⟨tg, iter, ifs, 0⟩] scope pos) spos) (tAsg (tDc wi g tt tk tv (own.map (·.2))) (gName i)) := by
  refine ⟨fun pins s σ H D I h => ?_⟩
  rw [exec_Assign_Name_used _ _ _ _ hsw]
  refine wpAny_bind (wpAny_standAt (wpAny_bind ?_))
  show wpAny _ X.A (do let _ ← comprehension (.DictComp kx vx [⟨tg, iter, ifs, 0⟩] scope pos) scope X.env (firstIterPos [⟨tg, iter, ifs, 0⟩] pos) newDict false (eval iter X.env) (some (assign (.Name y py) X.env))) _ _ s
  have h : tDc wi g tt tk tv (own.map (·.2)) σ H (fun x H1 => gName i x σ H1 D.nx) := h
  refine wpAny_bind (thn (dc_core (Qf := fun _ s' => SP X pins D .next s') hc hN I hi ok hg ht hk he hs h fun L C s' m H' I' q hn f => ?_) fun _ s' hq => wpAny_pure (wpAny_pure hq))
  show wpAny _ _ (assign (.Name y py) X.env (.ref L)) _ _ _
  refine wpAny_assign_Name (store_ok2 (v := V.ref L) I' hN hy (.inl hyl) rfl (fun s2 I2 ⟨a, sb, ha⟩ => ?_) (.inr hyl))
  obtain ⟨f0, f1, f2, f3, f4, f5⟩ := f
  have haC : C ≠ a := by
    rcases ha with z | z
    · rw [z]; exact f1
    · exact fun e => f4 y a z e.symm
  refine ⟨m, hn.sameBut sb haC, fun h3 sb3 => ?_⟩
  exact ⟨_, H', I2.turned (t' := s2.toks) (fun b o hb e => (sb3.2 b hb).trans e) f0 f1 f3 f4 f5, q⟩
end
/-- over a list that the block leaves as it is -/
theorem dc_list {K : PySem.W.Frag} {a : Addr} {xs : List V} {g : TG} {tt : TT} {tk tv : TE} {vs : List Nat} {σ : L2.St} {H1 : Hp} {D : Addr} {Qd : Hp → Prop} (Pv : Nat → Hp → Prop) (h0 : Pv 0 (upd H1 D (.dK []))) (hl : ∀ i H, i ≤ xs.length → Pv i H → SqL K H a xs)
    (hs : ∀ i x H, xs[i]? = some x → Pv i H → g x (wipe σ vs) H fun σ2 H2 => wipe σ2 vs = wipe σ vs ∧ tt σ2 H2 fun b H3 =>
      if b = true then tk σ2 H3 fun y H4 => tv σ2 H4 fun z H5 => ∃ kvs k, y = kV k ∧ H5 D = some (.dK kvs) ∧ kvs.length < sizeLine ∧ Pv (i + 1) (upd H5 D (.dK (putK kvs k z))) else Pv (i + 1) H3) (hd : ∀ H, Pv xs.length H → Qd H) :
    ∃ W : Nat → Nat → Hp → Prop, (∃ m, W 0 m (upd H1 D (.dK []))) ∧ ∀ i m H, W i m H →
      ((Itl K a).stop i H ∧ Qd H) ∨ ((Itl K a).go i H ∧ ∃ Nx : Hp → Prop, (∀ H', Nx H' → ∃ m', m' < m ∧ W (i + 1) m' H') ∧ ∀ x H', (Itl K a).yld i H x H' → g x (wipe σ vs) H' fun σ2 H2 => wipe σ2 vs = wipe σ vs ∧ tt σ2 H2 fun b H3 =>
        if b = true then tk σ2 H3 fun y H4 => tv σ2 H4 fun z H5 => ∃ kvs k, y = kV k ∧ H5 D = some (.dK kvs) ∧ kvs.length < sizeLine ∧ Nx (upd H5 D (.dK (putK kvs k z))) else Nx H3) := by
  refine ⟨fun i m H => m = xs.length - i ∧ i ≤ xs.length ∧ Pv i H, ⟨xs.length, by simp, Nat.zero_le _, h0⟩, ?_⟩
  rintro i m H ⟨rfl, hi, p⟩
  have q := hl i H hi p
  by_cases hlt : i < xs.length
  · refine .inr ⟨⟨xs, xs[i], q, by simp [hlt]⟩, Pv (i + 1), fun H' p' => ⟨xs.length - (i + 1), by omega, rfl, hlt, p'⟩, fun x H' y => ?_⟩
    obtain ⟨e, y⟩ := y
    subst e
    exact hs i x _ (y xs q) p
  · have e : i = xs.length := by omega
    subst e
    exact .inl ⟨⟨xs, q, Nat.le_refl _⟩, hd H p⟩
/-- over the items of a locked dict -/
theorem dc_items {d : Addr} {od : Obj} {kvs : List (Key × V)} {g : TG} {tt : TT} {tk tv : TE} {vs : List Nat} {σ : L2.St} {H1 : Hp} {D : Addr} {Qd : Hp → Prop} (Pv : Nat → Hp → Prop) (h0 : Pv 0 (upd H1 D (.dK [])))
    (hl : ∀ i H, i ≤ kvs.length → Pv i H → H d = some (.frz od (.dK kvs)))
    (hs : ∀ i k v T H, kvs[i]? = some (k, v) → Pv i H → H T = none → g (.ref T) (wipe σ vs) (upd H T (.tup [kV k, v])) fun σ2 H2 => wipe σ2 vs = wipe σ vs ∧ tt σ2 H2 fun b H3 =>
      if b = true then tk σ2 H3 fun y H4 => tv σ2 H4 fun z H5 => ∃ kv k, y = kV k ∧ H5 D = some (.dK kv) ∧ kv.length < sizeLine ∧ Pv (i + 1) (upd H5 D (.dK (putK kv k z))) else Pv (i + 1) H3)
    (hd : ∀ H, Pv kvs.length H → Qd H) :
    ∃ W : Nat → Nat → Hp → Prop, (∃ m, W 0 m (upd H1 D (.dK []))) ∧ ∀ i m H, W i m H →
      ((Iti d od kvs).stop i H ∧ Qd H) ∨ ((Iti d od kvs).go i H ∧ ∃ Nx : Hp → Prop, (∀ H', Nx H' → ∃ m', m' < m ∧ W (i + 1) m' H') ∧ ∀ x H', (Iti d od kvs).yld i H x H' → g x (wipe σ vs) H' fun σ2 H2 => wipe σ2 vs = wipe σ vs ∧ tt σ2 H2 fun b H3 =>
        if b = true then tk σ2 H3 fun y H4 => tv σ2 H4 fun z H5 => ∃ kv k, y = kV k ∧ H5 D = some (.dK kv) ∧ kv.length < sizeLine ∧ Nx (upd H5 D (.dK (putK kv k z))) else Nx H3) := by
  refine ⟨fun i m H => m = kvs.length - i ∧ i ≤ kvs.length ∧ Pv i H, ⟨kvs.length, by simp, Nat.zero_le _, h0⟩, ?_⟩
  intro i m H ⟨e, hi, p⟩
  have q := hl i H hi p
  by_cases hlt : i < kvs.length
  · refine .inr ⟨⟨q, hlt⟩, Pv (i + 1), fun H' p' => ⟨kvs.length - (i + 1), by omega, rfl, hlt, p'⟩, fun x H' y => ?_⟩
    obtain ⟨T, k, v, hk, ex, hT, eH⟩ := y
    rw [ex, eH]
    exact hs i k v T H hk p hT
  · have e2 : i = kvs.length := by omega
    rw [e2] at p
    exact .inl ⟨⟨q, by omega⟩, hd H p⟩
end L2


set_option Elab.async false
set_option linter.all false
set_option maxRecDepth 100000
set_option maxHeartbeats 4000000
/-! Measures, and lists of them, as plain data. -/
namespace MK
open PySem PySem.Spec PyProof.Rows L2
def msD (m : Ms) : PyData := .tuple (m.map fun p => .tuple [.str p.1, .int p.2])
theorem strOkN {z : Str} (h : Ok z) : PyData.strOk z = true := by
  unfold PyData.strOk
  rw [← Array.all_toList, List.all_eq_true]
  exact fun c hc => decide_eq_true (h c hc)
theorem msD_lay : ∀ {m : Ms}, (∀ p ∈ m, LtOk p.1) → PyData.canLayAll0 (m.map fun p => PyData.tuple [.str p.1, .int p.2]) = true
  | [], _ => rfl
  | p :: r, h => by
    have ih := msD_lay (m := r) fun q hq => h q (List.mem_cons_of_mem _ hq)
    simp only [List.map_cons, PyData.canLayAll0, PyData.canLay0, ih, Bool.and_true]
    exact strOkN (h p List.mem_cons_self).2
theorem msD_depth (m : Ms) : PyData.depthAll (m.map fun p => PyData.tuple [.str p.1, .int p.2]) ≤ 1 := by
  induction m with
  | nil => simp [PyData.depthAll]
  | cons p r ih =>
    simp only [List.map_cons, PyData.depthAll, PyData.depth]
    omega
theorem msD_shaped {m : Ms} (h : ∀ p ∈ m, LtOk p.1) : SeqAt.shaped (msD m) = true := by
  unfold SeqAt.shaped msD
  rw [Bool.and_eq_true, decide_eq_true_eq]
  constructor
  · simp only [PyData.canLay0]
    exact msD_lay h
  · have := msD_depth m
    simp only [PyData.depth]
    omega
theorem msD_eqv {m : Ms} (h : ∀ p ∈ m, LtOk p.1) : PyData.eqv (msD m) (msD m) = true := SeqAt.eqv_refl _ (SeqAt.canLay_of_shaped (msD_shaped h))
theorem MsN.dp {K : PySem.W.Frag} {H : Hp} {b : Addr} {m : Ms} (h : MsN H b m) : Dp K H (.ref b) (msD m) := by
  obtain ⟨ts, e, p⟩ := h
  refine .tup (TupN.sq e) ?_
  clear e
  induction p with
  | nil => exact .nil
  | @cons t q _ _ r _ ih => exact .cons (.tup (SqT.of r) (.cons (.str _) (.cons (.int _) .nil))) ih
/-- a list of measures -/
def rowsD (rs : List Ms) : PyData := .list (rs.map msD)
theorem rowsD_dp {K : PySem.W.Frag} {H : Hp} {a : Addr} {us : List Addr} {rs : List Ms} (h : H a = some (.lst (us.map V.ref))) (p : Paired (MsN H) us rs) : Dp K H (.ref a) (rowsD rs) := by
  refine .lst (SqL.of h) ?_
  clear h
  induction p with
  | nil => exact .nil
  | cons q _ ih => exact .cons q.dp ih
theorem rowsD_lay : ∀ {rs : List Ms}, (∀ m ∈ rs, ∀ p ∈ m, LtOk p.1) → PyData.canLayAll0 (rs.map msD) = true
  | [], _ => rfl
  | m :: r, h => by
    have ih := rowsD_lay (rs := r) fun q hq => h q (List.mem_cons_of_mem _ hq)
    have h1 : PyData.canLay0 (msD m) = true := by
      unfold msD
      simp only [PyData.canLay0]
      exact msD_lay (h m List.mem_cons_self)
    simp only [List.map_cons, PyData.canLayAll0, ih, h1, Bool.and_true]
theorem rowsD_depth (rs : List Ms) : PyData.depthAll (rs.map msD) ≤ 2 := by
  induction rs with
  | nil => simp [PyData.depthAll]
  | cons m r ih =>
    have := msD_depth m
    have e : PyData.depth (msD m) ≤ 2 := by
      unfold msD
      simp only [PyData.depth]
      omega
    simp only [List.map_cons, PyData.depthAll]
    omega
theorem rowsD_shaped {rs : List Ms} (h : ∀ m ∈ rs, ∀ p ∈ m, LtOk p.1) : SeqAt.shaped (rowsD rs) = true := by
  unfold SeqAt.shaped rowsD
  rw [Bool.and_eq_true, decide_eq_true_eq]
  constructor
  · simp only [PyData.canLay0]
    exact rowsD_lay h
  · have := rowsD_depth rs
    simp only [PyData.depth]
    omega
theorem rowsD_eqv {rs : List Ms} (h : ∀ m ∈ rs, ∀ p ∈ m, LtOk p.1) : PyData.eqv (rowsD rs) (rowsD rs) = true := SeqAt.eqv_refl _ (SeqAt.canLay_of_shaped (rowsD_shaped h))
/-- what a product's letters are -/
theorem mulC_can (m n : Ms) (x : Int) : Can (mulC m n x) := by
  by_cases e : ∃ r, IsTms m n x r
  · obtain ⟨r, t⟩ := e
    rw [mulC_is t]
    exact t.1
  · unfold mulC
    rw [dif_neg e]
    exact can_nil
theorem lvs_many : ∀ r : Rk, r.lvs ≤ r.many
  | .is _ _ _ => Nat.le_refl _
  | .nought => Nat.le_refl _
  | .input _ => Nat.le_refl _
  | .bin _ a b => by
    have := lvs_many a; have := lvs_many b
    show a.lvs + b.lvs ≤ 1 + (a.many + b.many)
    omega
  | .power a _ => by
    have := lvs_many a
    show a.lvs ≤ 1 + a.many
    omega
  | .less a b c d => by
    have := lvs_many a; have := lvs_many b; have := lvs_many c; have := lvs_many d
    show a.lvs + b.lvs + c.lvs + d.lvs ≤ 1 + (a.many + b.many + c.many + d.many)
    omega
theorem nm_ltok {z : Str} (h : Nm z) : LtOk z := nm_lt h
end MK


set_option Elab.async false
set_option linter.all false
set_option maxRecDepth 100000
set_option maxHeartbeats 4000000
/-! {m}, m a measure, in an f-string: some text, not too long. -/
namespace PySem
open PySem.Spec PyProof.Rows
section
variable {prog : Program} {w : World}
/-- x's text, whatever it is, has at most N signs -/
def ReprB (prog : Program) (w : World) (h₀ : Heap) (d : Nat) (x : Value) (N : Nat) : Prop :=
  ∀ (b : Nat), b + N ≤ sizeLine → ∀ (A : Around) (E : Value → Shared → Prop) (s : Shared) (Q : Str → Shared → Prop), s.heap = h₀ → A.units + d < cLine → (∀ t tk, t.length ≤ N → Q t { s with toks := tk }) → wpAny (model prog w) A (pyReprUnder b x) Q E s
theorem rb_tuple {h₀ : Heap} {a : Addr} {o : Obj} {items : Array Value} {n N : Nat} {ts : List Str} (ha : h₀.get? a = some o) (hc : o.cls = .type "tuple") (hd : o.data = .seq items n) (hT : ReprAll prog w items.toList ts) (hN : (tupleText ts).length + 5 ≤ N) :
    ReprB prog w h₀ 1 (.ref a) N := by
  intro b hb A E s Q hh hu hQ
  subst hh
  refine wpAny_pyReprUnder_ref (by omega) (wpAny_pyReprObjUnder_twin (twin := "tuple.__repr__.under") ⟨o, ha, hc⟩ F.slot_tuple_repr rfl (by omega) ?_)
  refine call_twin_own (F.quiet_tuple_repr_under _) F.entry_tuple_repr_under F.check_tuple_repr_under ⟨o, ha, hc⟩ F.slot_tuple_repr (F.args_tuple_repr_1 _) (wpOwn_of_wpAny ?_)
  show wpAny _ _ (Builtin.tupleReprAt b ⟨[.ref a], []⟩) _ _ s
  rw [tuple_repr_tree]
  refine wpAny_bind (fmt_underWay fun c => ?_)
  cases c with
  | true =>
    refine PySem.W.KFB.if_so rfl ?_
    refine wpAny_bind (wpAny_rule ?_)
    refine wpAny_bind (wpAny_mkStr (wpAny_pure ?_) (by decide +kernel))
    exact ⟨⟨_, _, rfl⟩, _, _, rfl, hQ "(...)" _ (Nat.le_trans fmt_way (by omega))⟩
  | false =>
    refine PySem.W.KFB.if_not rfl ?_
    refine wpAny_tupleReprRest ha hd hT (fun u tk => ?_) (by omega)
    exact ⟨⟨_, _, rfl⟩, _, _, rfl, hQ (tupleText ts) tk (by omega)⟩
theorem fold_rb {A : Around} {E : Value → Shared → Prop} {N d : Nat} {h₀ : Heap} (hu : A.units + d < cLine) : ∀ (l : List Value) (acc : Array Str) (n : Nat) (s : Shared) (Q : (Array Str × Nat) → Shared → Prop), (∀ x ∈ l, ReprB prog w h₀ d x N) → n + l.length * (N + 2) ≤ sizeLine → s.heap = h₀ →
    (∀ (ts : List Str) k tk, ts.length = l.length → (∀ t ∈ ts, t.length ≤ N) → Q ⟨acc ++ ts.toArray, k⟩ { s with toks := tk }) → wpAny (model prog w) A (forIn l (⟨acc, n⟩ : (Array Str × Nat)) tupBody) Q E s := by
  intro l
  induction l with
  | nil =>
    intro acc n s Q hT hn hh h
    have h0 := h [] n s.toks rfl fun _ h => absurd h (by simp)
    simp only [List.forIn_nil]
    exact wpAny_pure (by simpa using h0)
  | cons x l ih =>
    intro acc n s Q hT hn hh h
    rw [List.length_cons, Nat.succ_mul] at hn
    rw [List.forIn_cons]
    refine wpAny_bind (wpAny_bind (hT x List.mem_cons_self (n + 1) (by omega) _ _ _ _ hh hu fun t tk ht => wpAny_pure ?_))
    refine ih (acc.push t) (n + (t.length + 2)) _ Q (fun y hy => hT y (List.mem_cons_of_mem _ hy)) (by omega) hh fun ts k tk' h1 h2 => ?_
    have h3 := h (t :: ts) k tk' (by rw [List.length_cons, h1, List.length_cons]) fun y hy => by
      rcases List.mem_cons.mp hy with e | e
      · rw [e]; exact ht
      · exact h2 y e
    simpa using h3
theorem piled_le {N : Nat} : ∀ {ts : List Str}, (∀ t ∈ ts, t.length ≤ N) → piled ts ≤ ts.length * (N + 2)
  | [], _ => Nat.zero_le _
  | t :: r, h => by
    have h1 := h t List.mem_cons_self
    have h2 := piled_le (ts := r) fun y hy => h y (List.mem_cons_of_mem _ hy)
    rw [piled_cons, List.length_cons, Nat.succ_mul]
    omega
/-- {t} -/
theorem fmt_rb {A : Around} {E : Value → Shared → Prop} {s : Shared} {a : Addr} {o : Obj} {items : Array Value} {n N : Nat} {Q : Value → Shared → Prop} (hu : A.units + 8 < cLine) (ha : s.heap.get? a = some o) (hc : o.cls = .type "tuple") (hd : o.data = .seq items n)
    (hT : ∀ x ∈ items.toList, ReprB prog w s.heap 1 x N) (hsz : items.size * (N + 2) + 8 ≤ sizeLine)
    (h : ∀ (m : Str) (u tk : Tok), m.length ≤ items.size * (N + 2) + 8 → Q (.str m u) { s with toks := tk }) : wpAny (model prog w) A (formatField (.ref a) Str.empty) Q E s := by
  refine wpAny_formatField_slot (fun _ _ => nofun) (by omega) ⟨o, ha, hc⟩ F.slot_tuple_format F.slot_tuple_str F.slot_tuple_repr ?_
  refine wpAny_call (codeAny_call_builtin_own (Code.quiet_builtin _ (by decide +kernel)) F.entry_tuple_repr (F.slot_tuple_repr.check _ _ _ _ _ _ _ _ ⟨o, ha, hc⟩ (F.args_tuple_repr_1 _) (wpOwn_of_wpAny ?_)))
  show wpAny _ _ (Builtin.tupleReprAt 0 ⟨[.ref a], []⟩) _ _ { s with toks := s.toks + 1 }
  rw [tuple_repr_tree]
  refine wpAny_bind (fmt_underWay fun b => ?_)
  cases b with
  | true =>
    refine PySem.W.KFB.if_so rfl ?_
    refine wpAny_bind (wpAny_rule ?_)
    refine wpAny_bind (wpAny_mkStr (wpAny_pure ?_) (by decide +kernel))
    exact ⟨_, _, rfl, h "(...)" _ _ (Nat.le_trans fmt_way (by omega))⟩
  | false =>
    refine PySem.W.KFB.if_not rfl ?_
    unfold tupleReprRest Builtin.Tuple.tupleItemsOf
    refine wpAny_bind (wpAny_bind (wpAny_seqItems (s := { s with toks := s.toks + 1 }) ha hd (wpAny_pure ?_)))
    rw [← Array.forIn_toList]
    have hl : items.toList.length = items.size := Array.length_toList
    refine wpAny_bind (fold_rb (N := N) (d := 1) (h₀ := s.heap) (by simp only [units_under_tuple_repr, Around.in1_units]; omega) items.toList #[] 0 _ _ hT (by rw [hl]; omega) rfl fun ts k tk h1 h2 => ?_)
    have hp := piled_le h2
    rw [h1, hl] at hp
    have ht := fmt_text ts
    have e : tupleText ts = (("(" : Str) ++ Str.join ", " (#[] ++ ts.toArray).toList ++ (if items.size == 1 then ",)" else ")" : String)) := by
      unfold tupleText
      rw [h1, hl]
      simp
    rw [← e]
    refine wpAny_bind (wpAny_mkStr (wpAny_pure ?_) (by omega))
    exact ⟨_, _, rfl, h (tupleText ts) _ _ (by omega)⟩
end
end PySem
namespace L2
open PySem PySem.Spec PyProof.Rows MK
section
variable {X : Cx}
/-- {m}, m a measure of few letters: some text -/
def tFmtM (te : TE) : TE := fun σ H Q => te σ H fun x H1 => ∃ (a : Addr) (m : Ms), x = .ref a ∧ MsN H1 a m ∧ (∀ p ∈ m, Ok p.1 ∧ p.1.length ≤ 20 ∧ p.2.natAbs < 2 ^ 250) ∧ m.length ≤ 1000 ∧ ∀ t : Str, t.length ≤ 2000000 → Q (.str t) H1
theorem pe_fmtM {e : Expr} {te : TE} {pos : Pos} (hu : X.A.units + 8 < cLine) (he : PE X e te) : PE X (.FormattedValue e (-1) none pos) (tFmtM te) := by
  refine ⟨fun pins s σ H Q I h => ?_⟩
  refine wpAny_FormattedValue_plain (thn (he.run pins s σ H _ I h) fun v s1 hv => ?_)
  obtain ⟨x, H1, I1, r1, a, m, rfl, ⟨ts, htu, pr⟩, hb, hl, q⟩ := hv
  cases r1
  obtain ⟨its, rv, ⟨o, ho, hcl, n, hd⟩, _⟩ := I1.tuple (TupN.sq htu)
  have sz : its.length = m.length := by rw [← rv.length, List.length_map, pr.length]
  have sl := sizeLine_eq
  refine fmt_rb (N := 900) hu ho hcl hd (fun y hy => ?_) ?_ fun t u tk ht => ⟨.str t, H1, I1.tok _, ⟨u, rfl⟩, q t ?_⟩
  · have hy : y ∈ its := by simpa using hy
    obtain ⟨i, hi⟩ := List.getElem?_of_mem hy
    obtain ⟨k, hk⟩ : ∃ k, ts[i]? = some k := by
      have h1 : i < its.length := (List.getElem?_eq_some_iff.mp hi).1
      have h2 := rv.length
      rw [List.length_map] at h2
      exact ⟨ts[i]'(by omega), List.getElem?_eq_getElem _⟩
    obtain ⟨p, hp, hpk⟩ := paired_ix pr hk
    obtain ⟨u, hu2, ru⟩ := Vals.get rv (show (ts.map V.ref)[i]? = some (V.ref k) by rw [List.getElem?_map, hk]; rfl)
    rw [hi] at hu2
    obtain rfl : y = u := Option.some.inj hu2
    obtain rfl : y = Value.ref k := ru
    obtain ⟨_, its2, r2, o2, ho2, hc2, n2, hd2⟩ := I1.hok _ _ (show H1 k = some (.tup [.str p.1, .int p.2]) from hpk)
    obtain ⟨u1, u2, rfl, ri, rj⟩ := vals2 r2
    obtain ⟨t1, rfl⟩ := ri
    obtain ⟨t2, rfl⟩ := rj
    obtain ⟨b1, b2, b3⟩ := hb p (List.mem_of_getElem? hp)
    have l1 := StrLaws.reprText_len p.1 (fun c hc => Nat.lt_trans (b1 c hc) (by decide))
    have lg : p.2.natAbs.log2 < 251 := PySem.Flt.log2_lt_of (by decide) (Nat.lt_trans b3 (by decide))
    have l2 := int_text_length_le (k := 251) (by decide) lg
    have l2' : (Str.ofString (toString p.2)).length ≤ 252 := by rw [PySem.ofString_length]; exact l2
    refine rb_tuple (ts := [reprText p.1, Str.ofString (toString p.2)]) ho2 hc2 hd2 ?_ ?_
    · exact .cons (ReprIs.str p.1 t1 (by omega)) (.cons (ReprIs.int t2 (by omega)) .nil)
    · have := fmt_text [reprText p.1, Str.ofString (toString p.2)]
      rw [piled_cons, piled_cons, piled_nil] at this
      omega
  · show its.toArray.size * (900 + 2) + 8 ≤ _
    rw [List.size_toArray, sz]
    have : m.length * 902 ≤ 1000 * 902 := Nat.mul_le_mul_right _ hl
    omega
  · have ht : t.length ≤ its.toArray.size * (900 + 2) + 8 := ht
    rw [List.size_toArray, sz] at ht
    have : m.length * 902 ≤ 1000 * 902 := Nat.mul_le_mul_right _ hl
    omega
end
end L2


set_option Elab.async false
set_option linter.all false
set_option maxRecDepth 100000
set_option maxHeartbeats 4000000
/-! Each two measures have a product; a quotient is () just where both are alike; measures compared. -/
namespace MK
open PySem PySem.Spec PyProof.Rows L2
/-- v more at l -/
def insM : Ms → Str → Int → Ms
  | [], l, v => if v = 0 then [] else [(l, v)]
  | p :: r, l, v => if p.1 = l then (if p.2 + v = 0 then r else (l, p.2 + v) :: r) else if l.cps.toList < p.1.cps.toList then (if v = 0 then p :: r else (l, v) :: p :: r) else p :: insM r l v
theorem insM_keys : ∀ {m : Ms} {l : Str} {v : Int} {q : Str × Int}, q ∈ insM m l v → q.1 = l ∨ q ∈ m
  | [], l, v, q, h => by
    unfold insM at h
    by_cases e : v = 0
    · rw [if_pos e] at h
      exact absurd h (by simp)
    · rw [if_neg e] at h
      exact .inl (by rw [List.mem_singleton.mp h])
  | p :: r, l, v, q, h => by
    unfold insM at h
    by_cases e : p.1 = l
    · rw [if_pos e] at h
      by_cases e2 : p.2 + v = 0
      · rw [if_pos e2] at h
        exact .inr (List.mem_cons_of_mem _ h)
      · rw [if_neg e2] at h
        rcases List.mem_cons.mp h with z | z
        · exact .inl (by rw [z])
        · exact .inr (List.mem_cons_of_mem _ z)
    · rw [if_neg e] at h
      by_cases e2 : l.cps.toList < p.1.cps.toList
      · rw [if_pos e2] at h
        by_cases e3 : v = 0
        · rw [if_pos e3] at h
          exact .inr h
        · rw [if_neg e3] at h
          rcases List.mem_cons.mp h with z | z
          · exact .inl (by rw [z])
          · exact .inr z
      · rw [if_neg e2] at h
        rcases List.mem_cons.mp h with z | z
        · exact .inr (by rw [z]; exact List.mem_cons_self)
        · exact (insM_keys z).imp id (List.mem_cons_of_mem _)
theorem can_cons {p : Str × Int} {r : Ms} (h : Can (p :: r)) : Can r ∧ p.2 ≠ 0 ∧ ∀ q ∈ r, sLt p.1 q.1 := by
  obtain ⟨h1, h2⟩ := List.pairwise_cons.mp h.ris
  exact ⟨⟨h2, fun q hq => h.nz q (List.mem_cons_of_mem _ hq)⟩, h.nz p List.mem_cons_self, h1⟩
theorem at0_cons (p : Str × Int) (r : Ms) (j : Str) : at0 (p :: r) j = if p.1 = j then p.2 else at0 r j := by
  show (if p.1 = j then some p.2 else lk r j).getD 0 = _
  by_cases e : p.1 = j
  · rw [if_pos e, if_pos e]; rfl
  · rw [if_neg e, if_neg e]; rfl
theorem at0_none {m : Ms} {j : Str} (h : ∀ q ∈ m, q.1 ≠ j) : at0 m j = 0 := by
  unfold at0
  rw [lk_none.mpr fun z => by
    obtain ⟨q, hq, e⟩ := List.mem_map.mp z
    exact h q hq e]
  rfl
theorem insM_ok : ∀ {m : Ms} (l : Str) (v : Int), Can m → Can (insM m l v) ∧ ∀ j, at0 (insM m l v) j = at0 m j + if j = l then v else 0
  | [], l, v, _ => by
    unfold insM
    by_cases e : v = 0
    · rw [if_pos e]
      refine ⟨can_nil, fun j => ?_⟩
      rw [e, at0_nil]
      split <;> rfl
    · rw [if_neg e]
      refine ⟨⟨List.pairwise_singleton _ _, fun p hp => by rw [List.mem_singleton.mp hp]; exact e⟩, fun j => ?_⟩
      rw [at0_cons, at0_nil]
      by_cases e2 : j = l
      · rw [if_pos e2, if_pos e2.symm]; omega
      · rw [if_neg e2, if_neg (fun z => e2 z.symm)]; rfl
  | p :: r, l, v, h => by
    obtain ⟨hr, hp, hlt⟩ := can_cons h
    unfold insM
    by_cases e : p.1 = l
    · rw [if_pos e]
      have no : at0 r l = 0 := at0_none fun q hq z => by
        have := hlt q hq
        rw [z, e] at this
        exact sLt_irr _ this
      by_cases e2 : p.2 + v = 0
      · rw [if_pos e2]
        refine ⟨hr, fun j => ?_⟩
        rw [at0_cons]
        by_cases e3 : j = l
        · rw [if_pos e3, if_pos (by rw [e3]; exact e), e3, no]; omega
        · rw [if_neg e3, if_neg (by rw [e]; exact fun z => e3 z.symm)]; omega
      · rw [if_neg e2]
        refine ⟨⟨List.pairwise_cons.mpr ⟨fun q hq => by rw [← e]; exact hlt q hq, hr.ris⟩, fun q hq => ?_⟩, fun j => ?_⟩
        · rcases List.mem_cons.mp hq with z | z
          · rw [z]; exact e2
          · exact hr.nz q z
        · rw [at0_cons, at0_cons]
          by_cases e3 : j = l
          · rw [if_pos e3, if_pos e3.symm, if_pos (by rw [e3]; exact e)]
          · rw [if_neg e3, if_neg (fun z => e3 z.symm), if_neg (by rw [e]; exact fun z => e3 z.symm)]; omega
    · rw [if_neg e]
      by_cases e2 : l.cps.toList < p.1.cps.toList
      · rw [if_pos e2]
        have nol : at0 (p :: r) l = 0 := at0_none fun q hq z => by
          rcases List.mem_cons.mp hq with y | y
          · exact e (by rw [← y]; exact z)
          · have h1 := hlt q y
            rw [z] at h1
            exact sLt_irr _ (sLt_tr e2 h1)
        by_cases e3 : v = 0
        · rw [if_pos e3]
          refine ⟨h, fun j => ?_⟩
          rw [e3]
          split <;> omega
        · rw [if_neg e3]
          refine ⟨⟨List.pairwise_cons.mpr ⟨fun q hq => ?_, h.ris⟩, fun q hq => ?_⟩, fun j => ?_⟩
          · rcases List.mem_cons.mp hq with y | y
            · rw [y]; exact e2
            · exact sLt_tr e2 (hlt q y)
          · rcases List.mem_cons.mp hq with y | y
            · rw [y]; exact e3
            · exact h.nz q y
          · rw [at0_cons (l, v)]
            by_cases e4 : j = l
            · rw [if_pos e4, if_pos e4.symm, e4, nol]; omega
            · rw [if_neg e4, if_neg (fun z => e4 z.symm)]; omega
      · rw [if_neg e2]
        obtain ⟨c1, c2⟩ := insM_ok l v hr
        have pl : sLt p.1 l := Decidable.byContradiction fun z => e (sLt_tri z e2)
        refine ⟨⟨List.pairwise_cons.mpr ⟨fun q hq => ?_, c1.ris⟩, fun q hq => ?_⟩, fun j => ?_⟩
        · rcases insM_keys hq with y | y
          · rw [y]; exact pl
          · exact hlt q y
        · rcases List.mem_cons.mp hq with y | y
          · rw [y]; exact hp
          · exact c1.nz q y
        · rw [at0_cons, at0_cons, c2]
          by_cases e3 : p.1 = j
          · rw [if_pos e3, if_pos e3, if_neg (by rw [← e3]; exact e)]; omega
          · rw [if_neg e3, if_neg e3]
theorem tms_ex : ∀ (n : Ms) {m : Ms} (x : Int), Can m → Can n → ∃ r, IsTms m n x r
  | [], m, x, hm, _ => ⟨m, hm, fun j => by rw [at0_nil]; omega⟩
  | p :: n, m, x, hm, hn => by
    obtain ⟨hr, hp, hlt⟩ := can_cons hn
    obtain ⟨c1, c2⟩ := insM_ok p.1 (p.2 * x) hm
    obtain ⟨r, r1, r2⟩ := tms_ex n x c1 hr
    refine ⟨r, r1, fun j => ?_⟩
    rw [r2, c2, at0_cons]
    by_cases e : p.1 = j
    · have no : at0 n j = 0 := at0_none fun q hq z => by
        have h1 := hlt q hq
        rw [z, e] at h1
        exact sLt_irr _ h1
      rw [if_pos e, if_pos e.symm, no]; omega
    · rw [if_neg e, if_neg (fun z => e z.symm)]; omega
theorem mulC_ok {m n : Ms} (x : Int) (hm : Can m) (hn : Can n) : IsTms m n x (mulC m n x) := by
  obtain ⟨r, h⟩ := tms_ex n x hm hn
  rw [mulC_is h]
  exact h
theorem mulC_nil {m n : Ms} (hm : Can m) (hn : Can n) : mulC m n (-1) = [] ↔ m = n := by
  constructor
  · intro h
    have t := mulC_ok (-1) hm hn
    rw [h] at t
    refine can_ext hm hn fun j => ?_
    have := t.2 j
    rw [at0_nil] at this
    omega
  · rintro rfl
    exact mulC_is ⟨can_nil, fun j => by rw [at0_nil]; omega⟩
/-! ### compared -/
theorem msD_all : ∀ {m n : Ms}, PyData.eqvAll (m.map fun p => PyData.tuple [.str p.1, .int p.2]) (n.map fun p => PyData.tuple [.str p.1, .int p.2]) = decide (m = n)
  | [], [] => rfl
  | [], q :: n => by
    simp [PyData.eqvAll]
  | p :: m, [] => by
    simp [PyData.eqvAll]
  | p :: m, q :: n => by
    have ih := msD_all (m := m) (n := n)
    simp only [List.map_cons, PyData.eqvAll, PyData.eqv, ih]
    obtain ⟨a, b⟩ := p
    obtain ⟨c, d⟩ := q
    by_cases e1 : a = c <;> by_cases e2 : b = d <;> by_cases e3 : m = n <;> simp [e1, e2, e3]
theorem msD_dec (m n : Ms) : PyData.eqv (msD m) (msD n) = decide (m = n) := by
  unfold msD
  simp only [PyData.eqv]
  exact msD_all
end MK


set_option Elab.async false
set_option linter.all false
set_option maxRecDepth 100000
set_option maxHeartbeats 4000000
/-! a != b of two tuples whose items are equal, a dict among them. -/
namespace PySem.SeqAt
open AutoSeq1 (wpAny_loadPart')
open MeetsSeq MeetsSeq2 MeetsSeq3 SeqRoads2
section
variable {prog : Program} {w : World}
theorem mk_tuple_ne (l b : Addr) (xs ys : Array Value) (n m : Nat) (d1 d2 : Option Addr) (s1 s2 : Array (Option Value)) (sz : xs.size = ys.size) :
    MeetsIn prog w (Builtin.«tuple.__ne__» ⟨[.ref l, .ref b], []⟩)
      (fun A R s => s.heap.get? l = some ⟨.type "tuple", d1, .seq xs n, s1⟩ ∧ s.heap.get? b = some ⟨.type "tuple", d2, .seq ys m, s2⟩ ∧
        (∀ j (h1 : j < xs.size) (h2 : j < ys.size), EqP prog w A.in1 s xs[j] ys[j] true) ∧ R (.ok (.ret (.bool false))) s) := by
  intro A R s h
  obtain ⟨hp, g, d, tk, os⟩ := s
  obtain ⟨hl, hb, he, h⟩ := h
  have f2 := AutoSeq1.sub_tuple_tuple
  have hZ : (xs.toList.zip ys.toList).length = xs.size := by simp [sz]
  wp_walk using wpAny_loadPart' hl, wpAny_loadPart' hb, wpAny_forIn_list _ (fun rest b s' => b.1 = none ∧ s' = ⟨hp, g, d, tk, os⟩ ∧ ∃ i, rest = (xs.toList.zip ys.toList).drop i) _
  case turn =>
    rintro ⟨y, x⟩ rest b s' ⟨hb', rfl, i, hz⟩
    have hlt : i < (xs.toList.zip ys.toList).length := by
      rcases Nat.lt_or_ge i (xs.toList.zip ys.toList).length with q | q
      · exact q
      · rw [List.drop_of_length_le q] at hz
        cases hz
    have h1 : i < xs.size := hZ ▸ hlt
    have h2 : i < ys.size := sz ▸ h1
    rw [List.drop_eq_getElem_cons hlt] at hz
    injection hz with e1 e2
    obtain rfl : y = xs[i] := by simpa using congrArg Prod.fst e1
    obtain rfl : x = ys[i] := by simpa using congrArg Prod.snd e1
    refine wpAny_bind (he i h1 h2 _ _ ?_)
    wp_walk
    exact ⟨rfl, rfl, i + 1, e2⟩
  case fin =>
    rintro ⟨b1, b2⟩ s' ⟨hb', rfl, i, hz⟩
    simp only at hb'
    subst hb'
    wp_walk
    simpa [Builtin.Tuple.tupleCompareSizes, bne, sz] using h
  case h => exact ⟨rfl, rfl, 0, rfl⟩
theorem mk_ne_tuples {A : Around} {s : Shared} {l b : Addr} {xs ys : Array Value} (hl : s.heap.IsTuple l xs) (hb : s.heap.IsTuple b ys) (sz : xs.size = ys.size) (hu : A.units < cLine)
    (he : ∀ j (h1 : j < xs.size) (h2 : j < ys.size), EqP prog w A.in1 s xs[j] ys[j] true) (E Q : Value → Shared → Prop) (h : Q (.bool false) s) : wpAny (model prog w) A (compareOp .NotEq (.ref l) (.ref b)) Q E s := by
  obtain ⟨⟨c1, d1, t1, s1⟩, ho, hc, n, hd⟩ := id hl
  obtain ⟨⟨c2, d2, t2, s2⟩, ho2, hc2, m, hd2⟩ := id hb
  simp only at hc hd hc2 hd2
  subst hc hd hc2 hd2
  have ta : s.TypeIs (.ref l) "tuple" := ⟨_, ho, rfl⟩
  have tb : s.TypeIs (.ref b) "tuple" := ⟨_, ho2, rfl⟩
  exact wpAny_richCompare_same_room (op := .NotEq) ta tb F.slot_tuple_ne (call_meetsIn F.slot_tuple_ne ta F.entry_tuple_ne (F.args_tuple_ne_2 _ _) (mk_tuple_ne l b xs ys n m d1 d2 s1 s2 sz)
    ⟨ho, ho2, he, show Value.bool false ≠ Value.notImplemented ∧ Q (.bool false) s from ⟨(fun x => nomatch x), h⟩⟩) hu
end
end PySem.SeqAt
namespace L2
open PySem PySem.Spec PyProof.Rows
section
variable {X : Cx}
/-- x != y, two tuples whose items are equal, of nesting below 60: False -/
def rNeTV (K : PySem.W.Frag) : R2 := fun x y H Q => ∃ a b xs ys n, x = .ref a ∧ y = .ref b ∧ SqT K H a xs ∧ SqT K H b ys ∧ n ≤ 60 ∧ Paired (EqV K H n) xs ys ∧ Q (.bl false) H
theorem op_neTV (hu : X.A.units + 64 < cLine) : OpR X (compareOp .NotEq) (rNeTV X.K) := by
  intro pins s σ H x y v u Q I rx ry h
  obtain ⟨a, b, xs, ys, n, rfl, rfl, ha, hb, hn, hp, q⟩ := h
  cases (show v = Value.ref a from rx)
  cases (show u = Value.ref b from ry)
  obtain ⟨us, r1, p1, _⟩ := I.tuple ha
  obtain ⟨ws, r2, p2, _⟩ := I.tuple hb
  have sz : us.toArray.size = ws.toArray.size := by
    rw [List.size_toArray, List.size_toArray, ← r1.length, ← r2.length]
    exact Paired.length hp
  refine SeqAt.mk_ne_tuples p1 p2 sz (by omega) (fun j h1 h2 => ?_) _ _ ⟨.bl false, H, I, rfl, q⟩
  have k := items_run (fun x y v u e rx ry => eqV_run I n X.A.in1 (by show X.A.units + 1 + n < cLine; omega) x y v u e rx ry) hp r1 r2 j (by simpa using h1) (by simpa using h2)
  simpa using k
end
end L2


set_option Elab.async false
set_option linter.all false
set_option maxRecDepth 100000
set_option maxHeartbeats 4000000
namespace MK
/-! ### sums and products of fractions by what they share: plain Lean -/
/-- what both are divided by, from nought on -/
abbrev gc (x y : Int) : Int := ((Nat.gcd x.natAbs y.natAbs : Nat) : Int)
theorem gc_dl (x y : Int) : gc x y ∣ x := Int.ofNat_dvd_left.mpr (Nat.gcd_dvd_left _ _)
theorem gc_dr (x y : Int) : gc x y ∣ y := Int.ofNat_dvd_left.mpr (Nat.gcd_dvd_right _ _)
theorem gc_pos {x y : Int} (h : y ≠ 0) : 0 < gc x y := by
  have : Nat.gcd x.natAbs y.natAbs ≠ 0 := fun e => h (by have := Nat.eq_zero_of_gcd_eq_zero_right e; omega)
  show 0 < ((Nat.gcd x.natAbs y.natAbs : Nat) : Int)
  omega
/-- both are what is shared times two that share nothing -/
theorem gc_split {x y : Int} (h : y ≠ 0) : ∃ x' y', x = gc x y * x' ∧ y = gc x y * y' ∧ Nat.gcd x'.natAbs y'.natAbs = 1 ∧ x.fdiv (gc x y) = x' ∧ y.fdiv (gc x y) = y' := by
  obtain ⟨x', hx⟩ := gc_dl x y
  obtain ⟨y', hy⟩ := gc_dr x y
  have p := gc_pos (x := x) h
  refine ⟨x', y', hx, hy, ?_, ?_, ?_⟩
  · have nx : x.natAbs = Nat.gcd x.natAbs y.natAbs * x'.natAbs := by
      have := congrArg Int.natAbs hx
      rw [Int.natAbs_mul] at this
      exact this
    have ny : y.natAbs = Nat.gcd x.natAbs y.natAbs * y'.natAbs := by
      have := congrArg Int.natAbs hy
      rw [Int.natAbs_mul] at this
      exact this
    have p' : 0 < Nat.gcd x.natAbs y.natAbs := by
      have : 0 < ((Nat.gcd x.natAbs y.natAbs : Nat) : Int) := p
      omega
    generalize hg : Nat.gcd x.natAbs y.natAbs = G at *
    have e : Nat.gcd (G * x'.natAbs) (G * y'.natAbs) = G := by rw [← nx, ← ny]; exact hg
    rw [Nat.gcd_mul_left] at e
    exact Nat.eq_of_mul_eq_mul_left p' (by rw [e, Nat.mul_one])
  · generalize gc x y = g at *
    rw [hx]
    exact Int.mul_fdiv_cancel_left _ (by omega)
  · generalize gc x y = g at *
    rw [hy]
    exact Int.mul_fdiv_cancel_left _ (by omega)
theorem fdiv_le {x g : Int} (hg : 0 < g) (hd : g ∣ x) : (x.fdiv g).natAbs ≤ x.natAbs := by
  obtain ⟨z, rfl⟩ := hd
  rw [Int.mul_fdiv_cancel_left _ (by omega), Int.natAbs_mul]
  exact Nat.le_mul_of_pos_left _ (by omega)
theorem pos_of {g x : Int} (hg : 0 < g) (h : 0 < g * x) : 0 < x := Int.not_le.mp fun c => Int.not_le.mpr h (Int.mul_nonpos_of_nonneg_of_nonpos (Int.le_of_lt hg) c)
theorem cop_mulr {x y z : Nat} (h : Nat.gcd x y = 1) (h' : Nat.gcd x z = 1) : Nat.gcd x (y * z) = 1 := Nat.Coprime.mul_right h h'
theorem cop_mull {x y z : Nat} (h : Nat.gcd x z = 1) (h' : Nat.gcd y z = 1) : Nat.gcd (x * y) z = 1 := Nat.Coprime.mul_left h h'
theorem cop_dl {x y z : Nat} (h : Nat.gcd x z = 1) (d : y ∣ x) : Nat.gcd y z = 1 := Nat.Coprime.coprime_dvd_left d h
theorem cop_dr {x y z : Nat} (h : Nat.gcd x z = 1) (d : y ∣ z) : Nat.gcd x y = 1 := Nat.Coprime.coprime_dvd_right d h
theorem abs_dl (x y : Int) : x.natAbs ∣ (x * y).natAbs := by rw [Int.natAbs_mul]; exact ⟨_, rfl⟩
theorem abs_dr (x y : Int) : y.natAbs ∣ (x * y).natAbs := by rw [Int.natAbs_mul]; exact ⟨_, Nat.mul_comm _ _⟩
/-- what sums of two share with one part is shared by the other -/
theorem cop_sum {p q m : Int} (h : Nat.gcd p.natAbs m.natAbs = 1) : Nat.gcd (p + m * q).natAbs m.natAbs = 1 := by
  have e := Int.gcd_add_mul_left_right m p q
  rw [Int.gcd_comm m p, show p.gcd m = 1 from h, Int.gcd_comm] at e
  exact e
/-- one and another fraction, together, as it is worked out -/
def togA (a b c d : Int) : Int := (a * d.fdiv (gc b d) + c * b.fdiv (gc b d)).fdiv (gc (a * d.fdiv (gc b d) + c * b.fdiv (gc b d)) (gc b d))
def togB (a b c d : Int) : Int := b.fdiv (gc b d) * d.fdiv (gc (a * d.fdiv (gc b d) + c * b.fdiv (gc b d)) (gc b d))
theorem tog_ok {a b c d : Int} (h : Red a b) (h' : Red c d) : Red (togA a b c d) (togB a b c d) ∧ togA a b c d * (b * d) = (a * d + c * b) * togB a b c d := by
  obtain ⟨b0, g1⟩ := h
  obtain ⟨d0, g2⟩ := h'
  have dn : d ≠ 0 := by omega
  have sp := gc_pos (x := b) dn
  unfold togA togB
  obtain ⟨b', d', eb, ed, cbd, fb, fd⟩ := gc_split (x := b) dn
  rw [fb, fd]
  generalize gc b d = s at *
  generalize hw : a * d' + c * b' = whole at *
  obtain ⟨w', s', ew, es, cws, fw, fs⟩ := gc_split (x := whole) (y := s) (by omega)
  have gp := gc_pos (x := whole) (y := s) (by omega)
  rw [fw]
  generalize gc whole s = g at *
  have dd : d = g * (s' * d') := by rw [ed, ← Int.mul_assoc, ← es]
  have fdd : d.fdiv g = s' * d' := by
    rw [dd]
    exact Int.mul_fdiv_cancel_left _ (by omega)
  rw [fdd]
  have cwb : Nat.gcd whole.natAbs b'.natAbs = 1 := by
    have h1 : Nat.gcd (a * d').natAbs b'.natAbs = 1 := by
      rw [Int.natAbs_mul]
      refine cop_mull (cop_dr g1 ?_) (by rw [Nat.gcd_comm]; exact cbd)
      rw [eb]
      exact abs_dr _ _
    rw [← hw, Int.mul_comm c b']
    exact cop_sum h1
  have cwd : Nat.gcd whole.natAbs d'.natAbs = 1 := by
    have h1 : Nat.gcd (c * b').natAbs d'.natAbs = 1 := by
      rw [Int.natAbs_mul]
      refine cop_mull (cop_dr g2 ?_) cbd
      rw [ed]
      exact abs_dr _ _
    rw [← hw, Int.add_comm, Int.mul_comm a d']
    exact cop_sum h1
  have ww : w'.natAbs ∣ whole.natAbs := by
    rw [ew]
    exact abs_dr _ _
  refine ⟨⟨?_, ?_⟩, ?_⟩
  · have p1 : 0 < b' := pos_of sp (by rw [← eb]; exact b0)
    have p2 : 0 < s' * d' := pos_of gp (by rw [← dd]; exact d0)
    exact Int.mul_pos p1 p2
  · rw [Int.natAbs_mul, Int.natAbs_mul]
    exact cop_mulr (cop_dl cwb ww) (cop_mulr cws (cop_dl cwd ww))
  · have e1 : a * d + c * b = s * whole := by
      rw [ed, eb, ← hw, Int.mul_add, Int.mul_left_comm a s d', Int.mul_left_comm c s b']
    rw [e1, dd, ew, eb]
    simp only [Int.mul_assoc, Int.mul_comm, Int.mul_left_comm]
/-- their product, as it is worked out -/
def proA (a b c d : Int) : Int := a.fdiv (gc a d) * c.fdiv (gc c b)
def proB (a b c d : Int) : Int := b.fdiv (gc c b) * d.fdiv (gc a d)
theorem pro_ok {a b c d : Int} (h : Red a b) (h' : Red c d) : Red (proA a b c d) (proB a b c d) ∧ proA a b c d * (b * d) = a * c * proB a b c d := by
  obtain ⟨b0, g1⟩ := h
  obtain ⟨d0, g2⟩ := h'
  obtain ⟨a', d', ea, ed, cad, fa, fd⟩ := gc_split (x := a) (y := d) (by omega)
  obtain ⟨c', b', ec, eb, ccb, fc, fb⟩ := gc_split (x := c) (y := b) (by omega)
  have p1 := gc_pos (x := a) (y := d) (by omega)
  have p2 := gc_pos (x := c) (y := b) (by omega)
  unfold proA proB
  rw [fa, fd, fc, fb]
  generalize gc a d = g at *
  generalize gc c b = k at *
  refine ⟨⟨Int.mul_pos (pos_of p2 (by rw [← eb]; exact b0)) (pos_of p1 (by rw [← ed]; exact d0)), ?_⟩, ?_⟩
  · have da : a'.natAbs ∣ a.natAbs := by rw [ea]; exact abs_dr _ _
    have dc : c'.natAbs ∣ c.natAbs := by rw [ec]; exact abs_dr _ _
    have db : b'.natAbs ∣ b.natAbs := by rw [eb]; exact abs_dr _ _
    have dd : d'.natAbs ∣ d.natAbs := by rw [ed]; exact abs_dr _ _
    rw [Int.natAbs_mul, Int.natAbs_mul]
    exact cop_mull (cop_mulr (cop_dl (cop_dr g1 db) da) cad) (cop_mulr ccb (cop_dl (cop_dr g2 dd) dc))
  · rw [ea, ed, ec, eb]
    simp only [Int.mul_assoc, Int.mul_comm, Int.mul_left_comm]
/-- one over it, as it is worked out -/
def trnA (a b : Int) : Int := if a < 0 then -b else b
def trnB (a b : Int) : Int := if a < 0 then -a else a
theorem trn_ok {a b : Int} (h : Red a b) (n : a ≠ 0) : Red (trnA a b) (trnB a b) ∧ trnA a b * a = b * trnB a b := by
  obtain ⟨b0, g⟩ := h
  unfold trnA trnB
  split
  · refine ⟨⟨by omega, ?_⟩, ?_⟩
    · rw [Int.natAbs_neg, Int.natAbs_neg, Nat.gcd_comm]
      exact g
    · rw [Int.neg_mul, Int.mul_neg]
  · exact ⟨⟨by omega, by rw [Nat.gcd_comm]; exact g⟩, rfl⟩
theorem trn_le (a b : Int) : (trnA a b).natAbs = b.natAbs ∧ (trnB a b).natAbs = a.natAbs := by
  unfold trnA trnB
  split <;> constructor <;> omega
end MK


set_option Elab.async false
set_option linter.all false
set_option maxRecDepth 100000
set_option maxHeartbeats 4000000
/-! min(xs, key=lambda x: ..) in a def, the lambda capturing names of it: an item with the least key. -/
namespace MM
open PySem PySem.Spec PyProof.Rows L2 LamX NdefX
theorem arg_lt (bt : Nat → Nat → Bool) (k : Nat → Int) (h : ∀ i j, bt i j = decide (k i < k j)) : ∀ n, argBest bt n ≤ n ∧ ∀ i ≤ n, k (argBest bt n) ≤ k i
  | 0 => ⟨Nat.le_refl _, fun i hi => by
    obtain rfl : i = 0 := Nat.le_zero.mp hi
    exact Int.le_refl _⟩
  | n + 1 => by
    obtain ⟨h1, h2⟩ := arg_lt bt k h n
    show (if bt (n + 1) (argBest bt n) then n + 1 else argBest bt n) ≤ n + 1 ∧ ∀ i ≤ n + 1, k (if bt (n + 1) (argBest bt n) then n + 1 else argBest bt n) ≤ k i
    rw [h]
    by_cases c : k (n + 1) < k (argBest bt n)
    · rw [if_pos (decide_eq_true c)]
      refine ⟨Nat.le_refl _, fun i hi => ?_⟩
      rcases Nat.lt_or_ge i (n + 1) with l | l
      · have := h2 i (by omega)
        omega
      · rw [show i = n + 1 by omega]
        exact Int.le_refl _
    · rw [if_neg (by rw [decide_eq_false c]; exact Bool.false_ne_true)]
      refine ⟨by omega, fun i hi => ?_⟩
      rcases Nat.lt_or_ge i (n + 1) with l | l
      · exact h2 i (by omega)
      · rw [show i = n + 1 by omega]
        omega
theorem int_of {v : Value} {n : Int} (r : RelV (.int n) v) : ∃ t, v = .int n t := r
section
variable {X : Cx}
/-- the lambda's words, as those of a nested def -/
def lamNF (X : Cx) (params : Arguments) (scope : Scope) (c' : Addr) : NF := ⟨"<lambda>", X.env.qual ++ "<lambda>", params, [], scope, cloFrom X.env.cells scope.names [], c'⟩
/-- the reading: the list is locked (by the caller); tb: the lambda's body, read with the item first, then the captured names -/
def MinW (T : List (Addr × Str)) (N : List Str) (js : List Nat) (tb : TE) (σ : L2.St) (Q : VK) : V → Hp → Prop := fun x H1 => Tabs T H1 ∧ ∃ (l : Addr) (od : Obj) (ns : List Int) (kf : Int → Int), x = .ref l ∧ H1 l = some (.frz od (.lst (ns.map V.int))) ∧ ns ≠ [] ∧
  ∀ H2, ExtN H1 H2 → Tabs T H2 → (∀ n ∈ ns, tb (startF N [.int n] (js.map (slotAt σ))) H2 fun v H3 => v = .int (kf n) ∧ H3 = H2) ∧ ∀ m ∈ ns, (∀ n ∈ ns, kf m ≤ kf n) → Q (.int m) H2
def tMinLam (T : List (Addr × Str)) (N : List Str) (js : List Nat) (te tb : TE) : TE := fun σ H Q => te σ H (MinW T N js tb σ Q)
def oneV (f : V → Hp → Prop) : List V → Hp → Prop
  | [x], H => f x H
  | _, _ => False
theorem fresh_frs {pins : List (Addr × Obj)} {σ : L2.St} {H : Hp} {s : Shared} (I : Inv X pins σ H s) {b : Addr} (h : s.heap.objs.size ≤ b) : b ∉ frs X.stack := fun z => by
  rcases List.mem_cons.mp (I.stkSub _ z) with e | e
  · have h1 := I.lt
    rw [← e] at h1
    exact Nat.lt_irrefl _ (Nat.lt_of_lt_of_le h1 h)
  · exact I.nofs h e
theorem pe_minLam {T : List (Addr × Str)} {N fr : List Str} {js : List Nat} {k : Nat} {c P : Addr} {y z : Str} {zp : Pos} {te tb : TE} {params : Arguments} {body : Expr} {scope : Scope} {p pos lpos kpos : Pos}
    (hcl : X.calm = true) (hg : Gl X "min") (hm : X.mg "min" = none) (ha : PE X (.Name z zp) te) (TB : TabB X.base X.mg c P) (hcode : X.env.code = .ref c) (hmT : (P, X.env.qual ++ "<lambda>") ∈ T) (hu : ∀ p ∈ T, p.1 = P → p.2 = X.env.qual ++ "<lambda>")
    (S : NScope N [y] fr scope) (cp : X.Ok → Caps X (cloFrom X.env.cells scope.names []) fr js) (hfree : X.Ok → ∀ y ∈ scope.names, y.2 = .free → ∃ c, X.env.cells.lookup y.1 = some c) (hdef : defaultsOf params X.env = ([], []))
    (hbind : ∀ (q : Str) (cl : List (Str × Addr)) (pm cv ctv u : Value), bindArgs (PySem.W.kla_fn "<lambda>" q params body scope cl pm cv ctv) ⟨[u], []⟩ = pure [(y, u)]) (hr : Room (k + 2) X.A)
    (hbody : ∀ (A : Around) (outer : List Env) (s : Shared) (H : Hp) (f c' : Addr), Room k (A.deeper (envF (lamNF X params scope c') f s.heap.objs.size)) → PE (ncx C8.CX0 X.prog X.w X.K X.mg X.base N (lamNF X params scope c') f A outer s H C8.E0) body tb) :
    PE X (.Call (.Name "min" p) [.Name z zp] [⟨some "key", .Lambda params body scope lpos, kpos⟩] pos) (tMinLam T N js te tb) := by
  refine ⟨fun pins s σ H Q I h => ?_⟩
  refine wpAny_Call_Name_kw (ld_blt I hg hm (PyProof.Rows.boot_min) ?_)
  refine PyProof.Rows.callWith_kw (thn ((pa_cons ha pa_nil).run pos pins s σ H (oneV (MinW T N js tb σ Q)) I h) fun us s1 ⟨vs, H1, I1, r1, q1⟩ => ?_) (by rfl) (by rfl) (by rfl) (by rfl)
  obtain ⟨x, u, rfl, rfl, ru⟩ : ∃ x u, vs = [x] ∧ us = [u] ∧ RelV x u := by
    cases r1 with
    | nil => exact (show False from q1).elim
    | cons a b =>
      cases b with
      | nil => exact ⟨_, _, rfl, rfl, a⟩
      | cons _ _ => exact (show False from q1).elim
  obtain ⟨hT, l, od, ns, kf, rfl, hl, hne, hw⟩ := q1
  obtain rfl : u = .ref l := ru
  show wpAny _ _ (evalAll ((do let v ← eval (.Lambda params body scope lpos) X.env; standAt pos; pure v) :: [])) _ _ s1
  refine wpAny_evalAll_cons (wpAny_bind (lam_make2 I1 TB hcode hmT hu hT hdef (hfree I.ok) fun f c' pm ctv H2 s2 I2 eN T2 hf hfn hfr hco => wpAny_bind (wpAny_standAt (wpAny_pure (wpAny_evalAll_nil ?_)))))
  show wpAny _ _ (call (.builtin "min") [.ref l] [(Str.ofString "key", .ref f)]) (EP X pins σ Q) X.xe s2
  obtain ⟨hb, hq⟩ := hw H2 eN T2
  have hl2 : H2 l = some (.frz od (.lst (ns.map V.int))) := eN _ _ hl (fun _ e => nomatch e)
  obtain ⟨its, rv, hls, hz⟩ := I2.list (xs := ns.map V.int) (.inl (.inr ⟨od, hl2⟩))
  have hlen : its.length = ns.length := by rw [← rv.length, List.length_map]
  have hit : ∀ (i : Nat) (v : Value), its[i]? = some v → ∃ n t, ns[i]? = some n ∧ v = .int n t := fun i v hv => by
    have hi : i < ns.length := by rw [← hlen]; exact (List.getElem?_eq_some_iff.mp hv).1
    obtain ⟨u, hu1, hu2⟩ := rv.get (i := i) (x := .int ns[i]) (by rw [List.getElem?_map, List.getElem?_eq_getElem hi]; rfl)
    rw [hv] at hu1
    cases hu1
    obtain ⟨t, e⟩ := int_of hu2
    exact ⟨ns[i], t, List.getElem?_eq_getElem hi, e⟩
  have hlo : ∀ {s' : Shared} {σ' : L2.St}, Inv X pins σ' H2 s' → s'.heap.get? l = some od := fun J => (show ObjOk X.prog X.w H2 _ l (.frz od (.lst (ns.map V.int))) from J.hok l _ hl2).1
  have hlL : ∀ {s' : Shared}, s'.heap.get? l = some od → s'.heap.IsList l its.toArray := fun {s'} e => by
    obtain ⟨o, e1, r⟩ := hls.isList
    rw [hlo I2] at e1
    cases e1
    exact ⟨od, e, r⟩
  refine call_min_walkK (PySem.W.iter_listW (I2.ok.hd hcl) hls.isList fun s₃ e3 W st hfp hnb hkp => ?_)
  have hfs : f < s2.heap.objs.size := Heap.lt_size hf
  have s3z : s2.heap.objs.size ≤ s₃.heap.objs.size := by
    rw [e3]
    show s2.heap.objs.size ≤ (s2.heap.push _).objs.size
    exact Nat.le_of_lt (Heap.lt_size (Heap.get?_push_size _ rfl))
  have I3 : Inv X pins σ H2 s₃ := by
    rw [e3]
    exact I2.kept (t' := s2.toks) fun b o e => Heap.get?_push_of_some _ e
  have hl3 : l < s2.heap.objs.size := Heap.lt_size (hlo I2)
  have hf3 : s₃.heap.get? f = some (PySem.W.kla_obj "<lambda>" (X.env.qual ++ "<lambda>") params body scope (cloFrom X.env.cells scope.names []) pm c' ctv) := hkp _ _ hf
  have fpS : FpOk X pins H2 s₃.heap.objs.size := I2.fpOk s3z (I2.hok.fresh s3z)
  have fpI : FpOk X pins H2 s2.heap.objs.size := I2.fpOk (Nat.le_refl _) (I2.hok.fresh (Nat.le_refl _))
  have frS : s₃.heap.objs.size ∉ frs X.stack := fresh_frs I2 s3z
  have frI : s2.heap.objs.size ∉ frs X.stack := fresh_frs I2 (Nat.le_refl _)
  have hne0 : 0 < its.toArray.size := by
    rw [List.size_toArray, hlen]
    exact List.length_pos_iff.mpr hne
  refine ⟨_, _, _, _, _, _, _, fun s' => Inv X pins σ H2 s' ∧ s'.heap.get? f = some (PySem.W.kla_obj "<lambda>" (X.env.qual ++ "<lambda>") params body scope (cloFrom X.env.cells scope.names []) pm c' ctv), fun i kv _ => ∃ t, kv = .int (kf (ns.getD i 0)) t, fun i j => decide (kf (ns.getD i 0) < kf (ns.getD j 0)), rfl, W, st, hfp, hne0, ?_, ⟨I3, hf3⟩, fun v s' hv ⟨J, _⟩ => ?_⟩
  · refine ⟨fun s s' ⟨J, hfo⟩ hm => ?_, fun i k s s' h _ => h, fun i v s o Q' E' hi hP ⟨J, hfo⟩ ⟨st1, st2⟩ hS hc => ?_, fun i j ki kj s Q' E' _ ⟨t1, e1⟩ ⟨t2, e2⟩ h => ?_⟩
    · have fp : ∀ b ∈ [s₃.heap.objs.size, s2.heap.objs.size], FpOk X pins H2 b := fun b hb => by
        rcases List.mem_cons.mp hb with e | e
        · rw [e]; exact fpS
        · rw [List.mem_singleton.mp e]; exact fpI
      have eg : s'.gens = s.gens := hm.gens
      have ed := hm.drawn
      have eo := hm.os
      have eh := hm.heap
      obtain ⟨hh, g, d, tk, os'⟩ := s'
      dsimp only at eg ed eo eh ⊢
      subst eg
      subst ed
      subst eo
      refine ⟨J.turnedL (t' := tk) (fun b o hb e => eh b o hb e) fp, eh f _ (fun z => ?_) hfo⟩
      rcases List.mem_cons.mp z with e | e
      · rw [e] at hfs
        exact Nat.lt_irrefl _ (Nat.lt_of_lt_of_le hfs s3z)
      · rw [List.mem_singleton.mp e] at hfs
        exact Nat.lt_irrefl _ hfs
    · obtain ⟨n, t, hn, rfl⟩ := hit i v (by simpa using hP)
      have gn : ns.getD i 0 = n := by rw [List.getD_eq_getElem?_getD, hn]; rfl
      have nm : n ∈ ns := List.mem_of_getElem? hn
      have r1 : Room (k + 1) X.A.in1 := Room.in1 hr
      have C := cells_of J (cp J.ok)
      obtain ⟨c2, oc, vs, tv, ec, hoc, hdc, hvc⟩ := codeO_at J.hok hco
      have lim : s.heap.NoLimit := J.env0.mod.nolimit.keeps fun b o e => (J.env0.bs b o e).1
      have rc : codeAny (model X.prog X.w) X.A.in1 (.call (.ref f) ⟨[.int n t], []⟩) (CR C8.CX0 X.stack X.prog X.w H2 s (fun v H3 => v = .int (kf n) ∧ H3 = H2) C8.E0) s := by
        refine PySem.W.kla_callFunE r1.depth hfo rfl S.co S.gen rfl ⟨c2, oc, vs, tv, ec, hoc, hdc, hvc⟩ ?_
        rw [hbind]
        refine wpAny_pure (wpAny_newFunctionEnv S.nocell (fun ⟨a, _⟩ hy => ?_) (fun h₁ hns hsb => ⟨lim.fresh _ hsb, ?_⟩) S.kind)
        · have : a = y := by simpa using congrArg Prod.fst (List.mem_singleton.mp hy)
          rw [this]
          exact S.par y List.mem_cons_self
        show codeAny _ _ (.expr body (envF (lamNF X params scope c') f s.heap.objs.size)) _ _
        have kp : ∀ b o, s.heap.get? b = some o → h₁.get? b = some o := fun b o e => hsb.extBut b o (Nat.ne_of_lt (Heap.lt_size e)) (Heap.get?_push_of_some _ e)
        have J2 : Inv (ncx C8.CX0 X.prog X.w X.K X.mg X.base N (lamNF X params scope c') f X.A.in1 X.stack s H2 C8.E0) [] (startF N [.int n] (js.map (slotAt σ))) H2 { s with heap := h₁, toks := s.toks + [(y, Value.int n t)].length } :=
          inv_startN (ps := [y]) (us := [.int n t]) S r1.hd J.env0.in1 rfl (.cons ⟨t, rfl⟩ .nil) C hns kp
        refine PySem.W.kla_codeExpr (wpAny_mono ((hbody _ _ s H2 f c' (r1.deeper _)).run [] _ _ H2 _ J2 (hb n nm)) (fun v s' hq => ?_) fun e s' hq => hq)
        obtain ⟨w', H', J', rv, q⟩ := hq
        exact ⟨w', H', J'.os, J'.bare, J'.base, J'.hok, rv, q⟩
      refine wpAny_call (codeAny_mono rc fun r s' hq => ?_)
      cases r with
      | error e => exact (show False from hq).elim
      | ok fl =>
        cases fl with
        | ret u =>
          have hq2 := hq
          obtain ⟨w', H', J', rv, e4, e5⟩ := J.after (s' := s') hq
          rw [e5] at J'
          rw [e4] at rv
          obtain ⟨_, _, _, _, un, _, _, _, e2⟩ := hq2
          rw [e2] at un
          obtain ⟨t2, rfl⟩ := int_of rv
          have ki : ∀ b o, s.heap.get? b = some o → H2 b = none → b ∉ frs X.stack → s'.heap.get? b = some o := fun b o e n z => un.keep b o e n z (by simp)
          have kI : ∀ o, s.heap.get? s2.heap.objs.size = some o → s'.heap.get? s2.heap.objs.size = some o := fun o e => ki _ o e fpI.1 frI
          refine hc _ s' ⟨J', ki f _ hfo hfn hfr⟩ ⟨?_, hlL (hlo J')⟩ (ki _ _ hS fpS.1 frS) ⟨t2, by rw [gn]⟩ fun _ _ h => h
          obtain ⟨o1, e1, e3⟩ := st1
          exact ⟨o1, kI _ e1, e3⟩
        | next => exact False.elim hq
        | brk => exact False.elim hq
        | cont => exact False.elim hq
    · subst e1
      subst e2
      exact lt_int h
  · obtain ⟨n, t, hn, rfl⟩ := hit _ v (by rw [List.getElem?_toArray] at hv; exact hv)
    obtain ⟨a1, a2⟩ := arg_lt (fun i j => decide (kf (ns.getD i 0) < kf (ns.getD j 0))) (fun i => kf (ns.getD i 0)) (fun _ _ => rfl) (its.toArray.size - 1)
    refine ⟨.int n, H2, J, ⟨t, rfl⟩, hq n (List.mem_of_getElem? hn) fun n' hn' => ?_⟩
    obtain ⟨j, hj⟩ := List.mem_iff_getElem?.mp hn'
    have hjl : j < ns.length := (List.getElem?_eq_some_iff.mp hj).1
    have a3 := a2 j (by rw [List.size_toArray, hlen]; omega)
    rw [List.getD_eq_getElem?_getD, hn, List.getD_eq_getElem?_getD, hj] at a3
    exact a3
end
end MM


set_option Elab.async false
set_option linter.all false
set_option maxRecDepth 100000
set_option maxHeartbeats 4000000
/-! math.lcm of two numbers up to 2 ^ 8000 -/
namespace MK
open PySem PySem.Spec PyProof.Rows L2
theorem log_of {n k : Nat} (h : n < 2 ^ (k + 1)) : n.log2 ≤ k := PySem.W.mg_log h
theorem lcm_of {prog : Program} {w : World} {A : Around} {E : Value → Shared → Prop} {s : Shared} {Q : Value → Shared → Prop} {a b : Int} {t u : Tok} (ha : a.natAbs < 2 ^ 8000) (hb : b.natAbs < 2 ^ 8000) (h : Q (.int ((a.natAbs.lcm b.natAbs : Nat) : Int) s.toks) { s with toks := s.toks + 1 }) :
    wpAny (model prog w) A (call (.builtin "math.lcm") [.int a t, .int b u]) Q E s := by
  have p1 : 1 < 2 ^ 8000 := Nat.one_lt_two_pow (by decide)
  have h1 : (max 1 a.natAbs).log2 ≤ 7999 := log_of (k := 7999) (Nat.max_lt.mpr ⟨p1, ha⟩)
  have h2 : (max a.natAbs b.natAbs).log2 ≤ 7999 := log_of (k := 7999) (Nat.max_lt.mpr ⟨ha, hb⟩)
  have e1 : Nat.lcm 1 a.natAbs = a.natAbs := by simp [Nat.lcm]
  have hl : (a.natAbs.lcm b.natAbs) < 2 ^ (15999 + 1) := by
    have : a.natAbs.lcm b.natAbs ≤ a.natAbs * b.natAbs := by
      unfold Nat.lcm
      exact Nat.div_le_self _ _
    have m : a.natAbs * b.natAbs < 2 ^ 8000 * 2 ^ 8000 := by
      rcases Nat.eq_zero_or_pos a.natAbs with z | z
      · rw [z, Nat.zero_mul]
        exact Nat.mul_pos (Nat.pow_pos (by decide)) (Nat.pow_pos (by decide))
      · exact Nat.lt_of_le_of_lt (Nat.mul_le_mul_right _ (Nat.le_of_lt ha)) (Nat.mul_lt_mul_of_pos_left hb (Nat.pow_pos (by decide)))
    rw [← Nat.pow_add] at m
    omega
  have sz : ((((Nat.lcm 1 a.natAbs).lcm b.natAbs : Nat) : Int)).natAbs.log2 < bitsLine := by
    rw [e1, Int.natAbs_natCast]
    exact Nat.lt_of_le_of_lt (log_of hl) (by decide)
  have g := PySem.W.mg_run_lcm a t b u (by omega) (by omega) sz
  rw [e1] at g
  exact call_function_meets PySem.W.MGF.kind_lcm PySem.W.MGF.plain_lcm PySem.W.MGF.entry_lcm (PySem.W.MGF.args_lcm _ _) g.meets h
section
variable {X : Cx}
def rLcm : List V → Hp → VK → Prop := fun vs H Q => ∃ a b : Int, vs = [.int a, .int b] ∧ a.natAbs < 2 ^ 8000 ∧ b.natAbs < 2 ^ 8000 ∧ Q (.int ((a.natAbs.lcm b.natAbs : Nat) : Int)) H
theorem cr_lcm : CallR X (.builtin "math.lcm") rLcm := by
  intro pins s σ H vs us Q I r h
  obtain ⟨a, b, rfl, ha, hb, q⟩ := h
  obtain ⟨t, u, rfl⟩ := Vals.int2 r
  exact lcm_of ha hb ⟨.int _, H, I.tok _, ⟨_, rfl⟩, q⟩
end
end MK


set_option Elab.async false
set_option linter.all false
set_option maxRecDepth 100000
set_option maxHeartbeats 4000000
/-! an own exception's __init__ whose first statement is super().__init__(text): the def closes over __class__. -/
namespace SupI
open PySem PySem.Spec PyProof.Rows L2 NdefX
/-- what the written part says of the class at C, of its __init__ at f -/
structure SupT (P : Program) (K : PySem.W.Frag) (mg : Str → Option Value) (C f cc : Addr) (F : NF) (fd : FuncData) : Prop where
  T : OexC K C
  fn : ∃ (oc kV doc pm ct : Value) (od an : Option Addr) (osl : Array (Option Value)), fd = PySem.W.fnX F.name F.qual F.params F.body F.scope F.cl .none kV doc pm an (.ref F.c) ct ∧ K.lookup f = some ⟨oc, od, .func fd, osl⟩
  hcd : PySem.W.codeIn K (.ref F.c) F.qual = true
  cl : F.cl = [(("__class__" : Str), cc)]
  code : ∃ (ccl : Value) (cdd : Option Addr) (vs : Array Value) (ccs : Array (Option Value)) (file : Str) (tf : Tok), K.lookup F.c = some ⟨ccl, cdd, .fields vs, ccs⟩ ∧ vs[2]? = some (.str file tf) ∧ ((P.main.file : Str) == file) = true
  cell : ∃ (cl : Value) (cld : Option Addr) (csl : Array (Option Value)), K.lookup cc = some ⟨cl, cld, .cell (some (.ref C)), csl⟩
  sub : PySem.W.mroIn K C (.ref C) = some true
  sup : mg "super" = none
  m : PySem.W.ks_superIn K C C "__init__" = some (some (.builtin "ValueError.__init__"))
  b : PySem.W.subIn K (.ref C) (.type "ValueError") = some true
  opq : PySem.W.nsIn K cStatics "thirdparty.any" = some none
  top : (P.main.scope.names.lookup ("super" : Str)).isSome = false
section
variable {P : Program} {w : World} {K : PySem.W.Frag} {mg : Str → Option Value} {base : Heap} {C f cc : Addr} {F : NF} {fd : FuncData} {N ps : List Str} {sp : Sp} {k : Nat} {rest : List Stmt} {ar : Arg} {msg : Str} {j : Nat} {p0 p1 p2 p3 p4 p5 : Pos}
theorem ok_sup {pl : Addr → Sem Bool} (G : SupT P K mg C f cc F fd) (S : NScope N ps ["__class__"] F.scope) (hb0 : F.body = .Expr (.Call (.Attribute (.Call (.Name "super" p0) [] [] p1) "__init__" p2) [.Constant (.str msg) j p3] [] p4) p5 :: rest)
    (hp : (F.params.posonlyargs ++ F.params.args).head? = some ar) (hN : ps[0]? = some ar.arg) (hks : F.scope.names.lookup ("super" : Str) = some .globalImplicit)
    (hcall : ∀ L : Addr, eval (.Call (.Attribute (.Call (.Name "super" p0) [] [] p1) "__init__" p2) [.Constant (.str msg) j p3] [] p4) (envF F f L) = (do
      let ov ← attributeBase (.Call (.Name "super" p0) [] [] p1) "__init__" (envF F f L) (eval (.Call (.Name "super" p0) [] [] p1) (envF F f L))
      standAt p2.atName
      let (f', first) ← holding [ov] (getMethod ov "__init__" (pl L))
      callWith p4 f' first (backTo p4 (starEach [.Constant (.str msg) j p3] (envF F f L))) []))
    (len : ∀ vs H Q E, sp vs H Q E → vs.length = ps.length)
    (hrest : ∀ (A : Around) (outer : List Env) (s : Shared) (H : Hp) (vs : List V) (Q : VK) (E : XK), Room k (A.deeper (envF F f s.heap.objs.size)) → sp vs H Q E →
      (∃ (x : Addr) (vs' : List V), vs = .ref x :: vs' ∧ H x = some (exo x C none)) ∧ ∃ t, PSs (ncx CX0 P w K mg base N F f A outer s H E) rest t ∧ t { nx := fun _ H' => Q .non H', rt := Q } (startF N vs [none]) H) :
    FnOk P w K mg base CX0 (k + 1) f fd ps sp := by
  refine ⟨len, fun A outer s H args us vs Q E hr e0 hb r hsp => ?_⟩
  have hl := len _ _ _ _ hsp
  have lim : s.heap.NoLimit := e0.mod.nolimit.keeps fun b o e => (e0.bs b o e).1
  have Ks : K.In s.heap := e0.mod.kin.keeps fun b o e => (e0.bs b o e).1
  obtain ⟨oc, kV, doc, pm, ct, od, an, osl, hfd, lk⟩ := G.fn
  obtain ⟨⟨x, vs', ev, hx⟩, t, ht, hq⟩ := hrest A outer s H vs Q E (hr.deeper _) hsp
  obtain ⟨cl0, cld, csl, hcell⟩ := G.cell
  have hcs := e0.bs _ _ (e0.mod.kin _ _ hcell)
  have CA : CellsAt F.cl ["__class__"] [none] s.heap H := by
    rw [G.cl]
    have lk1 : ∀ y c, List.lookup y [(("__class__" : Str), cc)] = some c → y = "__class__" ∧ c = cc := fun y c e => by
      by_cases h : y = "__class__"
      · subst h
        have : List.lookup ("__class__" : Str) [(("__class__" : Str), cc)] = some cc := by simp [List.lookup]
        rw [this] at e
        exact ⟨rfl, (Option.some.inj e).symm⟩
      · have q : (y == ("__class__" : Str)) = false := by simpa using h
        have : List.lookup y [(("__class__" : Str), cc)] = none := by simp [List.lookup, q]
        rw [this] at e
        cases e
    refine ⟨rfl, fun y c e => ?_, fun a b c e1 e2 => ((lk1 _ _ e1).1.trans (lk1 _ _ e2).1.symm), fun i y h => ?_⟩
    · obtain ⟨_, rfl⟩ := lk1 y c e
      exact ⟨hcs.2, _, _, hcs.1, rfl⟩
    · cases i with
      | zero =>
        obtain rfl : "__class__" = y := Option.some.inj h
        exact ⟨cc, by simp [List.lookup], fun v e => by cases e⟩
      | succ i => cases h
  subst hfd
  have hfo := (e0.bs _ _ (e0.mod.kin _ _ lk)).1
  refine PySem.ks_codeAny_call_defAt (body := F.body) hr.depth hfo rfl lim (PySem.W.codeRec_of Ks G.hcd) rfl hb S.nocell (fun ⟨n, _⟩ hy => S.par n (List.of_mem_zip hy).1) (fun h₁ hns kp => ?_) S.co S.gen S.kind
  have I : Inv (ncx CX0 P w K mg base N F f A outer s H E) [] (startF N vs [none]) H { s with heap := h₁, toks := s.toks + (ps.zip us).length } := inv_startN S hr.hd e0 hl r CA hns kp
  show _root_.PySem.wpAt (model P w) (A.deeper (envF F f s.heap.objs.size)) (.func F.body (envF F f s.heap.objs.size)) (execs F.body (envF F f s.heap.objs.size)) _ _ _
  have fin : ∀ {σ' : L2.St} {H' : Hp} {v : V} {u : Value} {s' : Shared}, Inv (ncx CX0 P w K mg base N F f A outer s H E) [] σ' H' s' → L2.RelV v u → Q v H' → CE outer P w H s Q u s' :=
    fun {σ' H' v u s'} J rv q => ⟨v, H', J.os, J.bare, J.base, J.hok, rv, q⟩
  obtain ⟨nm, qn, N', bs, bm, sn, sub, ab, col, dd, k0, k1, k2, k3, k5, hC, hbm⟩ := G.T.cls
  have hcl : PySem.W.clsIn K C = some { name := nm, bases := bs, mro := .ref C :: bm, ns := N', qualname := qn, hasDict := true, slotNames := sn, subclasses := sub, abstract := ab, collection := col, hasDel := false } := by unfold PySem.W.clsIn; rw [hC] <;> rfl
  obtain ⟨t1, hox⟩ := exo_at I.hok hx
  have hm := G.m
  unfold PySem.W.ks_superIn at hm
  rw [hcl] at hm
  obtain ⟨ccl, cdd, cvs, ccs, file, tf, hcode, hvs, hfile⟩ := G.code
  have hX := I.kIn
  have bk : ∀ {a : Addr} {o : Obj}, K.lookup a = some o → h₁.get? a = some o := fun {a o} e => hX a o e
  have hsz := I.lt
  obtain ⟨os1, gen1, h1eq⟩ : ∃ os1 gen1, ({ s with heap := h₁, toks := s.toks + (ps.zip us).length } : Shared) = ⟨h₁, gen1, s.drawn, s.toks + (ps.zip us).length, os1⟩ := ⟨_, _, rfl⟩
  rw [hb0]
  refine PySem.ks_wpAt_execs_cons (PySem.ks_wpAt_Expr_any ?_ (hi := by unfold interactive; rw [show (envF F f s.heap.objs.size).scope.kind = .function from S.kind]; rfl))
  refine PySem.ks_wpAt_MethodCall ?_ (he := hcall _)
  have us0 : ∃ ur, us = Value.ref x :: ur := by
    subst ev
    cases r with
    | cons ra rw' => 
      obtain rfl := ra
      exact ⟨_, rfl⟩
  obtain ⟨ur, rfl⟩ := us0
  have hself : (ps.zip (Value.ref x :: ur)).reverse.lookup ar.arg = some (.ref x) := zip_look (i := 0) (by
    have q := S.nd.sublist (List.take_sublist (ps.length + [(Str.ofString "__class__")].length) N)
    rw [S.pre] at q
    exact (List.nodup_append.mp q).1) hN rfl
  refine PySem.ks_wpAt_super_base (env := envF F f s.heap.objs.size) hks (S.frk _ (List.mem_singleton.mpr rfl)) (by decide) rfl (bk lk) rfl hp rfl (bk hcode) rfl hvs hfile G.top ?_
  obtain ⟨mb, hb1, hb2⟩ := I.mod.blt
  refine PySem.W.ks_loadName_global S.kind hks (Calls.loadGlobal_builtin (env := envF F f s.heap.objs.size) (I.mod.glob.keeps I.bk) G.sup (hb1.keeps I.bk) ((hb2 _ (by decide)).trans (by first | rfl | kernel_rfl)) ⟨rfl, ?_⟩)
  have hcl2 : (envF F f s.heap.objs.size).cells.lookup ("__class__" : Str) = some cc := by
    show F.cl.lookup ("__class__" : Str) = some cc
    rw [G.cl]
    simp [List.lookup]
  refine wpAny_loadName_free S.kind (S.frk _ (List.mem_singleton.mpr rfl)) hcl2 ⟨_, bk hcell, rfl⟩ ?_
  refine wpAny_loadName_local S.kind (S.par _ (List.mem_of_getElem? hN)) hns hself ?_
  have IA : PySem.W.InstAt h₁ x { cls := .ref C, dict := none, data := .fields #[.ref t1, .none, .none, .none, .bool false, .none] } C none := ⟨hox, rfl, rfl, trivial⟩
  refine ks_wpAny_isType_cls (bk hC) rfl ⟨rfl, ?_⟩
  refine ks_wpAny_call_super (bk hC) rfl hox rfl (fun c e => nomatch e) (PySem.W.looks_mroIn hX G.sub) (fun h2 e2 k2 => ?_)
  have X2 : K.In h2 := hX.keeps k2
  have IA2 : PySem.W.InstAt h2 x { cls := .ref C, dict := none, data := .fields #[.ref t1, .none, .none, .none, .bool false, .none] } C none := ⟨k2 _ _ hox, rfl, rfl, trivial⟩
  refine PySem.W.kxs_getMethod PySem.W.kxs_ValueError e2 (PySem.W.looks_opaque X2 G.opq) (l₀ := .ref C :: bm) ((PySem.W.looks_clsIn X2 hcl).andThen .now) rfl X2 hm (IA2.type.andThen (PySem.W.looks_subIn X2 G.b)) (PySem.W.ks_ne X2 IA2 hcl) (by decide) ?_
  have k3 : ∀ b o, h2.get? b = some o → (h2.push (PySem.W.kxs_mw "ValueError.__init__" x)).get? b = some o := fun b o e => Heap.get?_push_of_some _ e
  have hu : (h2.push (PySem.W.kxs_mw "ValueError.__init__" x)).get? h2.objs.size = some (PySem.W.kxs_mw "ValueError.__init__" x) := Heap.get?_push_at rfl rfl
  have hx3 := k3 _ _ (k2 _ _ hox)
  have hC3 := k3 _ _ (k2 _ _ (bk hC))
  have k13 : ∀ b o, h₁.get? b = some o → (h2.push (PySem.W.kxs_mw "ValueError.__init__" x)).get? b = some o := fun b o e => k3 b o (k2 b o e)
  generalize h2.push (PySem.W.kxs_mw "ValueError.__init__" x) = h3 at hu hx3 hC3 k13 ⊢
  refine PySem.W.kxs_callWith (i := "ValueError.__init__") (x := x) rfl ?_
  show wpAny _ _ (evalArgs (.ref h2.objs.size) true [(false, eval (.Constant (.str msg) j p3) (envF F f s.heap.objs.size))] []) _ _ _
  refine Calls.evalArgs_plain (Calls.spliced_cons (Calls.Constant_str (Calls.spliced_nil ⟨hu, ?_⟩)))
  refine wpAny_call (codeAny_of_tree ?_)
  show wpAny _ (A.deeper (envF F f s.heap.objs.size)).in1 (callAny (.ref h2.objs.size) ⟨_, []⟩) _ _ _
  simp only [callAny]
  refine wpAny_bind (wpAny_load hu ?_)
  simp only [PySem.W.kxs_mw, show (Value.type "method-wrapper" == Value.type "method" || Value.type "method-wrapper" == Value.type "builtin_function_or_method" || Value.type "method-wrapper" == Value.type "method-wrapper") = true by decide, if_true]
  refine PySem.W.KFB.if_so (by decide) ?_
  refine wpAny_bind (PySem.W.check_bound_init PySem.F.excBase_ValueError.toExcCallFacts hC3 hx3 rfl ?_)
  refine wpAny_bind (wpAny_pure (wpAny_pure ?_))
  refine ⟨plainId_quiet PySem.F.excBase_ValueError.init.plain _, codeAny_builtin PySem.F.excBase_ValueError.initEntry ?_⟩
  refine PySem.W.exc_init_tree (cls := .ref C) (t0 := t1) (dv := none) (c2 := .none) (c3 := .none) (b4 := .bool false) hx3 (by show 1 ≤ sizeLine; decide) (fun h4 k4 e4 _ => ?_)
  have k14 : ∀ b o, b ≠ x → h₁.get? b = some o → h4.get? b = some o := fun b o n e => k4 b o n (k13 b o e)
  have J0 := I.write (t' := s.toks + (ps.zip (Value.ref x :: ur)).length + 1 + 1) (x := x) (e := x) (o := exo x C none) (by rw [hx]; exact True.intro) (.inl rfl) k14 ⟨_, e4⟩ (exo_ok e4)
  have eu : upd H x (exo x C none) = H := by
    funext b
    by_cases hb : b = x
    · rw [hb, upd_same, hx]
    · rw [upd_ne hb]
  rw [eu] at J0
  refine wpAt_of_wpAny (wpAny_mono (ht.run [] _ (startF N vs [none]) H _ J0 hq) (fun fl s' hs => ?_) fun e s' hs => hs)
  cases fl with
  | ret u =>
    obtain ⟨v, σ', H', J, rv, q⟩ := hs
    exact fin J rv q
  | next =>
    obtain ⟨σ', H', J, q⟩ := hs
    exact fin (v := V.non) (u := Value.none) J rfl q
  | brk =>
    obtain ⟨_, _, _, q⟩ := hs
    exact False.elim q
  | cont =>
    obtain ⟨_, _, _, q⟩ := hs
    exact False.elim q
end
/-- C(e, ..), C's own __init__ keeping sp: what it makes has no context -/
theorem pmk_oexN {X : Cx} {e : Expr} {es : List Expr} {ta : TA} {p pos : Pos} {CX : CXT} {x : Str} {C fI : Addr} {k : Nat} {fd : FuncData} {ps : List Str} {sp : Sp} (T : OexC X.K C) (iC : PySem.W.findIn X.K (.ref C) "__init__" = some (some (.ref fI))) (tI : PySem.W.typeIn X.K (.ref fI) = some (.type "function"))
    (F1 : FnOk X.prog X.w X.K X.mg X.base CX k fI fd ps sp) (hr : Room (k + 1) X.A) (hb : Binds X.K fd ps []) (hx : Passes CX X (fun _ _ _ => False)) (hg : Gl X x) (hm : X.mg x = some (.ref C)) (ha : PA X (e :: es) ta)
    (hdb : (x == ("__debug__" : Str)) = false := by decide) (he : starEach (e :: es) X.env = (false, eval e X.env) :: starEach es X.env := by rfl) (hpl : (backTo pos (starEach es X.env)).any (·.1) = false := by rfl) :
    L2N.PMk X (.Call (.Name x p) (e :: es) [] pos) (tMkO C sp [] ta) := by
  intro pins s σ H Q I h
  obtain ⟨nm, q, N, bs, bm, sn, sub, ab, col, dd, k0, k1, k2, k3, k5, hC, hbm⟩ := T.cls
  refine wpAny_Call_Name_kw (ld_glob I hg hm ?_ hdb)
  refine PySem.W.callWith_K (h₀ := X.base) I.ok.mod.kin T.kC (thn (ha.run pos pins s σ H _ I h) fun us s1 ⟨vs, H1, I1, r1, hz, q1⟩ => ⟨I1.kIn, ?_⟩) he hpl
  rw [List.append_nil] at q1
  obtain ⟨hp, g, dr, tk, os⟩ := s1
  have hsz : hp.objs.size ≤ hp.objs.size + 1 := Nat.le_succ _
  have hn : H1 (hp.objs.size + 1) = none := I1.hok.fresh hsz
  have hq := q1 (hp.objs.size + 1) hn
  have kk : ∀ b o, hp.get? b = some o → ((hp.push (PySem.W.kdv_tup us)).push (PySem.HandSPX.excO C hp.objs.size)).get? b = some o := fun b o e => Heap.get?_push_of_some _ (Heap.get?_push_of_some _ e)
  have hget : ((hp.push (PySem.W.kdv_tup us)).push (PySem.HandSPX.excO C hp.objs.size)).get? (hp.objs.size + 1) = some (PySem.HandSPX.excO C hp.objs.size) := by heap_get
  have I2 : Inv X pins σ (upd H1 (hp.objs.size + 1) (exo (hp.objs.size + 1) C none)) ⟨(hp.push (PySem.W.kdv_tup us)).push (PySem.HandSPX.excO C hp.objs.size), g, dr, tk, os⟩ :=
    I1.laid (t' := tk) (a := hp.objs.size + 1) (o := exo (hp.objs.size + 1) C none) (h' := (hp.push (PySem.W.kdv_tup us)).push (PySem.HandSPX.excO C hp.objs.size)) kk hsz (exo_ok hget)
  have r2 : Vals (V.ref (hp.objs.size + 1) :: vs) (Value.ref (hp.objs.size + 1) :: us) := .cons rfl r1
  have hl : (Value.ref (hp.objs.size + 1) :: us).length = ps.length := by
    have e := r2.length
    rw [F1.len _ _ _ _ hq] at e
    exact e.symm
  have hus : us.length ≤ sizeLine := by
    rw [← Paired.length r1, sizeLine_eq]
    omega
  have hbn := hb (⟨(hp.push (PySem.W.kdv_tup us)).push (PySem.HandSPX.excO C hp.objs.size), g, dr, tk, os⟩ : Shared) (Value.ref (hp.objs.size + 1) :: us) I2.kIn (by rw [List.append_nil]; exact hl)
  rw [List.append_nil] at hbn
  refine wpAny_call (PySem.HandSPX.call_own PySem.F.excBase_ValueError (fun Y => PySem.HandSPX.refsVE_contains Y bm hbm) (I1.kIn _ _ hC) (PySem.W.looks_findIn I1.kIn iC) (fun self => PySem.W.bind_fn I1.kIn self tI) hus
    (codeAny_mono (F1.run _ X.stack _ _ ⟨Value.ref (hp.objs.size + 1) :: us, []⟩ (Value.ref (hp.objs.size + 1) :: us) _ _ (fun _ _ _ => False) (hr.make C us []) (I2.env0.make C us []) hbn r2 hq) fun r s' hq' => ?_))
  cases r with
  | error er => exact hx pins σ _ _ er s' I2 hq'
  | ok fl =>
    cases fl with
    | ret u =>
      obtain ⟨v, H2, os2, bare2, un2, hok2, rv, ev, d, fs, ea, ed, hd1, q2⟩ := hq'
      subst ev
      obtain ⟨h2, g2, d2, t2, os'⟩ := s'
      obtain ⟨t0, G, J, kG, ge, hoe, na⟩ := mk_end0 (d2 := d2) (t2 := t2) I1 hsz kk un2 hok2 os2 bare2 ea ed hd1
      exact ⟨rv, _, _, _, ⟨G, g2, d2, t2, os'⟩, _, .ref C, some d, rfl, J, kG, ge, hoe, ⟨rfl, rfl, fun vs e => by cases e; rfl⟩, rfl, rfl, na, rfl, bare2, raises_own T.exC T.tyC, q2⟩
    | next => exact False.elim hq'
    | brk => exact False.elim hq'
    | cont => exact False.elim hq'
end SupI


set_option Elab.async false
set_option linter.all false
set_option maxRecDepth 100000
set_option maxHeartbeats 4000000
/-! walks over a tuple, a list, a dict's keys while an error is handled. -/
namespace HotX
open PySem PySem.Spec PyProof.Rows
section
variable {prog : Program} {w : World} {A : Around} {E : Value → Shared → Prop} {s : Shared}
theorem tuple_end_hot {it t x1 : Addr} {i : Nat} {items : Array Value} {Q : Option Value → Shared → Prop} (hot : HotAt A x1 s.heap) (hit : s.heap.IsTupleIter it t i) (ht : s.heap.IsTuple t items) (hx : items[i]? = none)
    (hQ : ∀ h', (∀ b o, b ≠ it → s.heap.get? b = some o → h'.get? b = some o) → Q none { s with heap := h' }) : wpAny (model prog w) A (pyNext (.ref it)) Q E s := by
  obtain ⟨o, ho, hc, hd⟩ := id hit
  obtain ⟨ol, hol, _, nl, hdl⟩ := ht
  obtain ⟨hh, o1, vs1, h1, d1, c1⟩ := hot
  have ne : x1 ≠ it := fun z => by
    rw [z, ho] at h1
    cases h1
    rw [hd] at d1
    cases d1
    cases c1
  unfold pyNext
  refine wpAny_bind (wpAny_attempt (wpAny_callSpecial?_slot (name := Str.ofString "__next__") hit.typeIs F.slot_tuple_iterator_next
    (wpAny_call_entry F.slot_tuple_iterator_next hit.typeIs F.entry_tuple_iterator_next ?_ (F.args_tuple_iterator_next_1 _))))
  show wpAny _ _ (field (.ref it) 0 >>= _) _ _ s
  refine wpAny_bind (wpAny_field ho hd (x := .ref t) rfl ?_)
  show wpAny _ _ (if (Value.ref t == Value.none) = true then _ else _) _ _ s
  rw [if_neg (show ¬ ((Value.ref t == Value.none) = true) from Bool.false_ne_true)]
  show wpAny _ _ (field (.ref it) 1 >>= _) _ _ s
  refine wpAny_bind (wpAny_field ho hd (x := .int i 0) rfl ?_)
  show wpAny _ _ (seqItems? (.ref t) >>= _) _ _ s
  refine wpAny_bind (wpAny_seqItems hol hdl ?_)
  simp only [Int.toNat_natCast, hx]
  refine wpAny_bind (wpAny_rule (wpAny_bind (wpAny_setField ho hd (by simp) ?_)))
  have up : ∀ b o, b ≠ it → s.heap.get? b = some o → (s.heap.update it (Obj.mapFields (·.setIfInBounds 0 .none))).get? b = some o := fun b o n e => by
    rw [Heap.get?_update_other _ _ (Ne.symm n)]
    exact e
  show wpAny _ _ (newExc (.type "StopIteration") [] >>= _) _ _ _
  refine wpAny_bind ?_
  simp only [newExc, newTuple]
  refine wpAny_bind (wpAny_newObj_type ?_ (by size_fits))
  refine wpAny_bind (m := firstArgMember _ _) (wpAny_of_eq (a := Value.none) (by first | rfl | (simp only [firstArgMember]; rfl)) ?_)
  refine wpAny_newObj_type ?_ (by size_fits)
  have h1u := up _ _ ne h1
  generalize s.heap.update it (Obj.mapFields (·.setIfInBounds 0 .none)) = hp at up h1u ⊢
  refine raiseNew_hot ⟨hh, o1, vs1, Heap.get?_push_of_some _ (Heap.get?_push_of_some _ h1u), d1, c1⟩ (Nat.ne_of_lt (Heap.lt_size (Heap.get?_push_of_some _ h1u))) (Heap.get?_push_size _ rfl) rfl (by first | (simp; done) | (simp; omega) | (simp only [Array.size_append]; simp; omega)) ?_
  refine wpAny_bind (wpAny_isInstance (T := "StopIteration") (b := true) ⟨_, Heap.get?_update_self _ (Heap.get?_push_size _ rfl) rfl, rfl⟩ isSubtype_stop ?_)
  refine wpAny_pure (hQ _ fun b o n e => ?_)
  have e := up _ _ n e
  rw [Heap.get?_update_other _ _ (Nat.ne_of_gt (Heap.lt_size (Heap.get?_push_of_some _ e)))]
  exact Heap.get?_push_of_some _ (Heap.get?_push_of_some _ e)
theorem list_end_hot {it t x1 : Addr} {i : Nat} {items : Array Value} {Q : Option Value → Shared → Prop} (hot : HotAt A x1 s.heap) (hit : s.heap.IsListIter it t i) (ht : s.heap.IsList t items) (hx : items[i]? = none)
    (hQ : ∀ h', (∀ b o, b ≠ it → s.heap.get? b = some o → h'.get? b = some o) → Q none { s with heap := h' }) : wpAny (model prog w) A (pyNext (.ref it)) Q E s := by
  obtain ⟨o, ho, hc, hd⟩ := id hit
  obtain ⟨ol, hol, _, nl, hdl⟩ := ht
  obtain ⟨hh, o1, vs1, h1, d1, c1⟩ := hot
  have ne : x1 ≠ it := fun z => by
    rw [z, ho] at h1
    cases h1
    rw [hd] at d1
    cases d1
    cases c1
  unfold pyNext
  refine wpAny_bind (wpAny_attempt (wpAny_callSpecial?_slot (name := Str.ofString "__next__") hit.typeIs slot_listiter_next
    (wpAny_call_entry slot_listiter_next hit.typeIs entry_listiter_next ?_ (args_listiter_next _))))
  show wpAny _ _ (field (.ref it) 0 >>= _) _ _ s
  refine wpAny_bind (wpAny_field ho hd (x := .ref t) rfl ?_)
  show wpAny _ _ (if (Value.ref t == Value.none) = true then _ else _) _ _ s
  rw [if_neg (show ¬ ((Value.ref t == Value.none) = true) from Bool.false_ne_true)]
  show wpAny _ _ (field (.ref it) 1 >>= _) _ _ s
  refine wpAny_bind (wpAny_field ho hd (x := .int i 0) rfl ?_)
  show wpAny _ _ (seqItems? (.ref t) >>= _) _ _ s
  refine wpAny_bind (wpAny_seqItems hol hdl ?_)
  simp only [Int.toNat_natCast, hx]
  refine wpAny_bind (wpAny_rule (wpAny_bind (wpAny_setField ho hd (by simp) ?_)))
  have up : ∀ b o, b ≠ it → s.heap.get? b = some o → (s.heap.update it (Obj.mapFields (·.setIfInBounds 0 .none))).get? b = some o := fun b o n e => by
    rw [Heap.get?_update_other _ _ (Ne.symm n)]
    exact e
  show wpAny _ _ (newExc (.type "StopIteration") [] >>= _) _ _ _
  refine wpAny_bind ?_
  simp only [newExc, newTuple]
  refine wpAny_bind (wpAny_newObj_type ?_ (by size_fits))
  refine wpAny_bind (m := firstArgMember _ _) (wpAny_of_eq (a := Value.none) (by first | rfl | (simp only [firstArgMember]; rfl)) ?_)
  refine wpAny_newObj_type ?_ (by size_fits)
  have h1u := up _ _ ne h1
  generalize s.heap.update it (Obj.mapFields (·.setIfInBounds 0 .none)) = hp at up h1u ⊢
  refine raiseNew_hot ⟨hh, o1, vs1, Heap.get?_push_of_some _ (Heap.get?_push_of_some _ h1u), d1, c1⟩ (Nat.ne_of_lt (Heap.lt_size (Heap.get?_push_of_some _ h1u))) (Heap.get?_push_size _ rfl) rfl (by first | (simp; done) | (simp; omega) | (simp only [Array.size_append]; simp; omega)) ?_
  refine wpAny_bind (wpAny_isInstance (T := "StopIteration") (b := true) ⟨_, Heap.get?_update_self _ (Heap.get?_push_size _ rfl) rfl, rfl⟩ isSubtype_stop ?_)
  refine wpAny_pure (hQ _ fun b o n e => ?_)
  have e := up _ _ n e
  rw [Heap.get?_update_other _ _ (Nat.ne_of_gt (Heap.lt_size (Heap.get?_push_of_some _ e)))]
  exact Heap.get?_push_of_some _ (Heap.get?_push_of_some _ e)
theorem key_end_hot {it d x1 : Addr} {i n ep : Nat} {od : Obj} {es : Array DictEntry} {Q : Option Value → Shared → Prop} (hot : HotAt A x1 s.heap) (hit : s.heap.IsKeyIter it d i n ep) (hod : s.heap.get? d = some od) (hdd : od.data = .dict es ep)
    (hsz : es.size = n) (hge : n ≤ i) (hQ : ∀ h', (∀ b o, b ≠ it → s.heap.get? b = some o → h'.get? b = some o) → Q none { s with heap := h' }) : wpAny (model prog w) A (pyNext (.ref it)) Q E s := by
  obtain ⟨o, ho, hc, hd⟩ := id hit
  obtain ⟨hh, o1, vs1, h1, d1, c1⟩ := hot
  have ne : x1 ≠ it := fun z => by
    rw [z, ho] at h1
    cases h1
    rw [hd] at d1
    cases d1
    cases c1
  unfold pyNext
  refine wpAny_bind (wpAny_attempt (wpAny_callSpecial?_slot (name := Str.ofString "__next__") hit.typeIs F.slot_dict_keyiterator_next
    (wpAny_call_entry F.slot_dict_keyiterator_next hit.typeIs F.entry_dict_keyiterator_next ?_ (F.args_dict_keyiterator_next_1 _))))
  refine wpAny_bind (wpAny_pure ?_)
  refine wpAny_bind ?_
  refine wpAny_bind ?_
  first | refine wpAny_bind (wpAny_typeNameOfWhole_keyiter hit.typeIs (wpAny_pure ?_)) | refine wpAny_bind (wpAny_typeNameOf_keyiter hit.typeIs (wpAny_pure ?_))
  refine wpAny_bind (wpAny_fieldsOf ho hd ?_)
  have hown : Builtin.Dict_items.ownsTuple "dict_keyiterator" = false := by decide
  simp only [hown, Bool.false_eq_true, if_false]
  show wpAny _ _ (if (Value.ref d == Value.none) = true then _ else _) _ _ s
  rw [if_neg (show ¬ ((Value.ref d == Value.none) = true) from Bool.false_ne_true)]
  refine wpAny_bind (wpAny_pure ?_)
  refine wpAny_bind (wpAny_dictEntries hod hdd ?_)
  rw [if_neg (by rw [hsz]; simp)]
  refine wpAny_bind (wpAny_pure ?_)
  refine wpAny_bind (wpAny_dictEpoch hod hdd ?_)
  rw [if_neg (by simp)]
  refine wpAny_pure ?_
  have hge' : es.size ≤ i := by rw [hsz]; exact hge
  simp only [show ¬ ((i : Int) < 0) from by omega, if_false, Int.toNat_natCast, Array.getElem?_eq_none hge']
  refine wpAny_bind ?_
  first | refine wpAny_bind (wpAny_typeNameOfWhole_keyiter hit.typeIs (wpAny_pure ?_)) | refine wpAny_bind (wpAny_typeNameOf_keyiter hit.typeIs (wpAny_pure ?_))
  show wpAny _ _ (setField (.ref it) 0 .none >>= _) _ _ s
  refine wpAny_bind (wpAny_setField ho hd (by simp) ?_)
  have up : ∀ b o, b ≠ it → s.heap.get? b = some o → (s.heap.update it (Obj.mapFields (·.setIfInBounds 0 .none))).get? b = some o := fun b o n e => by
    rw [Heap.get?_update_other _ _ (Ne.symm n)]
    exact e
  show wpAny _ _ (newExc (.type "StopIteration") [] >>= _) _ _ _
  refine wpAny_bind ?_
  simp only [newExc, newTuple]
  refine wpAny_bind (wpAny_newObj_type ?_ (by size_fits))
  refine wpAny_bind (m := firstArgMember _ _) (wpAny_of_eq (a := Value.none) (by first | rfl | (simp only [firstArgMember]; rfl)) ?_)
  refine wpAny_newObj_type ?_ (by size_fits)
  have h1u := up _ _ ne h1
  generalize s.heap.update it (Obj.mapFields (·.setIfInBounds 0 .none)) = hp at up h1u ⊢
  refine raiseNew_hot ⟨hh, o1, vs1, Heap.get?_push_of_some _ (Heap.get?_push_of_some _ h1u), d1, c1⟩ (Nat.ne_of_lt (Heap.lt_size (Heap.get?_push_of_some _ h1u))) (Heap.get?_push_size _ rfl) rfl (by first | (simp; done) | (simp; omega) | (simp only [Array.size_append]; simp; omega)) ?_
  refine wpAny_bind (wpAny_isInstance (T := "StopIteration") (b := true) ⟨_, Heap.get?_update_self _ (Heap.get?_push_size _ rfl) rfl, rfl⟩ isSubtype_stop ?_)
  refine wpAny_pure (hQ _ fun b o n e => ?_)
  have e := up _ _ n e
  rw [Heap.get?_update_other _ _ (Nat.ne_of_gt (Heap.lt_size (Heap.get?_push_of_some _ e)))]
  exact Heap.get?_push_of_some _ (Heap.get?_push_of_some _ e)
end
end HotX

namespace L2H
open PySem PySem.Spec PyProof.Rows L2 HotX
/-- an iterator's turns where the handled error is known at each heap -/
structure TurnX (P : Program) (w : World) (K : PySem.W.Frag) (tg : Expr) (J : It) (fp : List Addr) (it : Addr) (tn : Nat → Heap → Prop) : Prop where
  mem : it ∈ fp
  obj : ∀ i h, tn i h → ∀ b ∈ fp, ∃ o, h.get? b = some o ∧ ∀ v, o.data ≠ .cell v
  keep : ∀ i h h', tn i h → (∀ b ∈ fp, ∀ o, h.get? b = some o → h'.get? b = some o) → tn i h'
  item : ∀ (X : Cx), X.prog = P → X.w = w → X.K = K → ∀ (i : Nat) (pins : List (Addr × Obj)) (s : Shared) (σ : St) (H : Hp) (E : Value → Shared → Prop), Inv X pins σ H s → (∀ b ∈ fp, FpOk X pins H b) → tn i s.heap → J.go i H →
    wpAny (model P w) X.A (pyNext (.ref it)) (fun r s1 => ∃ u, r = some u ∧
      wpAny (model P w) X.A (letOwnedTupleGo tg (.ref it) u) (fun _ s2 => ∃ x H', Inv X pins σ H' s2 ∧ RelV x u ∧ J.yld i H x H' ∧ tn (i + 1) s2.heap ∧ ∀ b ∈ fp, H' b = none) E s1) E s
  done : ∀ (X : Cx), X.prog = P → X.w = w → X.K = K → ∀ (i : Nat) (pins : List (Addr × Obj)) (s : Shared) (σ : St) (H : Hp) (E : Value → Shared → Prop), (∃ x1, HotAt X.A x1 s.heap) → Inv X pins σ H s → (∀ b ∈ fp, FpOk X pins H b) → tn i s.heap → J.stop i H →
    wpAny (model P w) X.A (pyNext (.ref it)) (fun r s1 => r = none ∧ Inv X pins σ H s1) E s
  self : ∀ (A : Around) (i : Nat) (s : Shared) (Q : Value → Shared → Prop) (E : Value → Shared → Prop), tn i s.heap → Q (.ref it) s → wpAny (model P w) A (pyIter (.ref it)) Q E s
theorem TurnX.h {P : Program} {w : World} {K : PySem.W.Frag} {tg : Expr} {J : It} {fp : List Addr} {it : Addr} {tn : Nat → Heap → Prop} (t : TurnX P w K tg J fp it tn) : TurnH P w K tg J fp it tn :=
  ⟨t.mem, t.obj, t.keep, fun X h1 h2 h3 _ => t.item X h1 h2 h3, fun X h1 h2 h3 hc i pins s σ H E I => t.done X h1 h2 h3 i pins s σ H E (hc.at I) I, t.self⟩
def PIEX (X : Cx) (pins : List (Addr × Obj)) (σ : St) (tg : Expr) (R : It → Hp → Prop) (itv : Value) (s2 : Shared) : Prop :=
  ∃ (it : Addr) (fp : List Addr) (tn : Nat → Heap → Prop) (J : It) (H' : Hp), itv = .ref it ∧ Inv X pins σ H' s2 ∧ TurnX X.prog X.w X.K tg J fp it tn ∧ tn 0 s2.heap ∧ (∀ b ∈ fp, FpOk X pins H' b) ∧ R J H'
structure PIX (X : Cx) (tg iter : Expr) (wi : TI) : Prop where
  run : ∀ (pins : List (Addr × Obj)) (s : Shared) (σ : St) (H : Hp) (R : It → Hp → Prop), Inv X pins σ H s → wi σ H R →
    wpAny (model X.prog X.w) X.A (eval iter X.env) (fun v s1 => wpAny (model X.prog X.w) X.A (pyIter v) (PIEX X pins σ tg R) X.xe s1) X.xe s
theorem PIX.h {X : Cx} {tg iter : Expr} {wi : TI} (p : PIX X tg iter wi) : PIH X tg iter wi := ⟨fun pins s σ H R I h => thn (p.run pins s σ H R I h) fun v s1 h1 => thn h1 fun itv s2 h2 => by
  obtain ⟨it, fp, tn, J, H', e, I2, T, r⟩ := h2
  exact ⟨it, fp, tn, J, H', e, I2, T.h, r⟩⟩
section
variable {P : Program} {w : World} {K : PySem.W.Frag} {tg : Expr}
theorem turn_tupleX (a it : Addr) : TurnX P w K tg (Itt K a) [it] it (fun i h => h.IsTupleIter it a i) where
  mem := by simp
  obj := fun i h st b hb => by
    have e : b = it := by simpa using hb
    subst e
    obtain ⟨o, e, c, d⟩ := st
    exact ⟨o, e, fun v z => by rw [d] at z; cases z⟩
  keep := fun i h h' st k => st.at fun o e => k it (by simp) o e
  item := by
    intro X hP hw hK i pins s σ H E I hf st hg
    subst hP hw hK
    obtain ⟨xs, x, hq, hx⟩ := hg
    obtain ⟨its, rv, p, hz⟩ := I.tuple hq
    obtain ⟨u, hu, ru⟩ := rv.get hx
    obtain ⟨f0, f1, f2, f3, f4, f5⟩ := hf it (by simp)
    refine wpAny_pyNext_tuple_item st (show s.heap.IsTuple a its.toArray from p) (x := u) (by simpa using hu) fun h' st' sb => ?_
    have I1 : Inv X pins σ H { s with heap := h' } := I.turned (t' := s.toks) (fun b o hb e => (sb.2 b hb).trans e) f0 f1 f3 f4 f5
    obtain ⟨o, e, c, d⟩ := id st'
    exact ⟨u, rfl, go_of (s := { s with heap := h' }) e c d (by decide) ⟨x, H, I1, ru, ⟨rfl, fun ys hy => by rw [I.tuple_inj hy hq]; exact hx⟩, st', fun b hb => (hf b hb).1⟩⟩
  done := by
    intro X hP hw hK i pins s σ H E hc I hf st hg
    subst hP hw hK
    obtain ⟨xs, hq, hx⟩ := hg
    obtain ⟨its, rv, p, hz⟩ := I.tuple hq
    obtain ⟨f0, f1, f2, f3, f4, f5⟩ := hf it (by simp)
    have hl := rv.length
    obtain ⟨x1, hot⟩ := hc
    exact tuple_end_hot hot st (show s.heap.IsTuple a its.toArray from p) (by simp; omega) fun h' eb => ⟨rfl, I.turned (t' := s.toks) (fun b o hb e => eb b o hb e) f0 f1 f3 f4 f5⟩
  self := fun _ _ _ _ _ st h => wpAny_pyIter_tupleiter st h
theorem turn_listX (a it : Addr) : TurnX P w K tg (Itl K a) [it] it (fun i h => h.IsListIter it a i) where
  mem := by simp
  obj := fun i h st b hb => by
    have e : b = it := by simpa using hb
    subst e
    obtain ⟨o, e, c, d⟩ := st
    exact ⟨o, e, fun v z => by rw [d] at z; cases z⟩
  keep := fun i h h' st k => st.at fun o e => k it (by simp) o e
  item := by
    intro X hP hw hK i pins s σ H E I hf st hg
    subst hP hw hK
    obtain ⟨xs, x, hq, hx⟩ := hg
    obtain ⟨its, rv, p, hz⟩ := I.list hq
    obtain ⟨u, hu, ru⟩ := rv.get hx
    obtain ⟨f0, f1, f2, f3, f4, f5⟩ := hf it (by simp)
    refine wpAny_pyNext_list_item st p.isList (x := u) (by simpa using hu) fun h' st' sb => ?_
    have I1 : Inv X pins σ H { s with heap := h' } := I.turned (t' := s.toks) (fun b o hb e => (sb.2 b hb).trans e) f0 f1 f3 f4 f5
    obtain ⟨o, e, c, d⟩ := id st'
    exact ⟨u, rfl, go_of (s := { s with heap := h' }) e c d (by decide) ⟨x, H, I1, ru, ⟨rfl, fun ys hy => by rw [I.list_inj hy hq]; exact hx⟩, st', fun b hb => (hf b hb).1⟩⟩
  done := by
    intro X hP hw hK i pins s σ H E hc I hf st hg
    subst hP hw hK
    obtain ⟨xs, hq, hx⟩ := hg
    obtain ⟨its, rv, p, hz⟩ := I.list hq
    obtain ⟨f0, f1, f2, f3, f4, f5⟩ := hf it (by simp)
    have hl := rv.length
    obtain ⟨x1, hot⟩ := hc
    exact list_end_hot hot st p.isList (by simp; omega) fun h' eb => ⟨rfl, I.turned (t' := s.toks) (fun b o hb e => eb b o hb e) f0 f1 f3 f4 f5⟩
  self := fun _ _ _ _ _ st h => wpAny_pyIter_listiter st h
theorem turn_keysX {d : Addr} {o : Obj} {es : Array DictEntry} {ep : Nat} {kvs : List (Key × V)} (it : Addr) (hod : o.data = .dict es ep) : TurnX P w K tg (Itk d o kvs) [it] it (fun i h => h.IsKeyIter it d i kvs.length ep) where
  mem := by simp
  obj := fun i h st b hb => by
    have e : b = it := by simpa using hb
    subst e
    obtain ⟨oi, e, c, dd⟩ := st
    exact ⟨oi, e, fun v z => by rw [dd] at z; cases z⟩
  keep := fun i h h' st k => st.at fun oi e => k it (by simp) oi e
  item := by
    intro X hP hw hK i pins s σ H E I hf st hg
    subst hP hw hK
    obtain ⟨hd, hi⟩ := hg
    obtain ⟨f0, f1, f2, f3, f4, f5⟩ := hf it (by simp)
    obtain ⟨hs, hgd, hx, es', ep', vs, hdt, hsz, kv, hm⟩ := I.frzK hd
    obtain ⟨rfl, rfl⟩ := dict_ep hod hdt
    obtain ⟨⟨k, v⟩, hkv⟩ : ∃ p, kvs[i]? = some p := ⟨kvs[i], List.getElem?_eq_getElem hi⟩
    obtain ⟨u, hu, ru⟩ := kv_get kv hkv
    have hl : kvs.length = vs.length := Paired.length kv
    rw [hl] at st
    refine wpAny_pyNext_dict_item st hm hu fun key h' hkey st' sb => ?_
    have I1 : Inv X pins σ H { s with heap := h' } := I.turned (t' := s.toks) (fun b ob hb e => (sb.2 b hb).trans e) f0 f1 f3 f4 f5
    obtain ⟨oi, e, c, dd⟩ := id st'
    refine ⟨key, rfl, go_of (s := { s with heap := h' }) e c dd (by decide) ⟨kV k, H, I1, relV_key (show keyIs k key = true from hkey), ⟨rfl, k, v, hkv, rfl⟩, ?_, fun b hb => (hf b hb).1⟩⟩
    show h'.IsKeyIter it d (i + 1) kvs.length _
    rw [hl]
    exact st'
  done := by
    intro X hP hw hK i pins s σ H E hc I hf st hg
    subst hP hw hK
    obtain ⟨hd, hi⟩ := hg
    obtain ⟨f0, f1, f2, f3, f4, f5⟩ := hf it (by simp)
    obtain ⟨hs, hgd, hx, es', ep', vs, hdt, hsz, kv, hm⟩ := I.frzK hd
    obtain ⟨rfl, rfl⟩ := dict_ep hod hdt
    obtain ⟨x1, hot⟩ := hc
    exact key_end_hot hot st hgd hdt hsz hi fun h' eb => ⟨rfl, I.turned (t' := s.toks) (fun b ob hb e => eb b ob hb e) f0 f1 f3 f4 f5⟩
  self := fun A i s Q E st h => wpAny_pyIter_keyiter st h
end
section
variable {X : Cx} {tg e : Expr} {td : TE}
theorem pi_tupX (hl : PE X e td) : PIX X tg e (iTup X.K td) := by
  refine ⟨fun pins s σ H R I h => ?_⟩
  refine thn (hl.run pins s σ H _ I h) fun v s1 ⟨x, H1, I1, r1, q1⟩ => ?_
  obtain ⟨a, e, ⟨xs, hq⟩, q⟩ := q1
  subst e
  cases r1
  obtain ⟨its, rv, p, hz⟩ := I1.tuple hq
  refine wpAny_pyIter_tuple (show s1.heap.IsTuple a its.toArray from p) ?_
  refine ⟨s1.heap.objs.size, [s1.heap.objs.size], _, _, H1, rfl, I1.kept (t' := s1.toks) fun b o e => Heap.get?_push_of_some _ e, turn_tupleX a _, ⟨_, Heap.get?_push_size _ rfl, rfl, rfl⟩, fun b hb => ?_, q⟩
  have e : b = s1.heap.objs.size := by simpa using hb
  subst e
  exact I1.fpOk (Nat.le_refl _) (I1.hok.fresh (Nat.le_refl _))
theorem pi_listX (hl : PE X e td) : PIX X tg e (iList X.K td) := by
  refine ⟨fun pins s σ H R I h => ?_⟩
  refine thn (hl.run pins s σ H _ I h) fun v s1 ⟨x, H1, I1, r1, q1⟩ => ?_
  obtain ⟨a, e, ⟨xs, hq⟩, q⟩ := q1
  subst e
  cases r1
  obtain ⟨its, rv, p, hz⟩ := I1.list hq
  refine wpAny_pyIter_list p.isList ?_
  refine ⟨s1.heap.objs.size, [s1.heap.objs.size], _, _, H1, rfl, I1.kept (t' := s1.toks) fun b o e => Heap.get?_push_of_some _ e, turn_listX a _, ⟨_, Heap.get?_push_size _ rfl, rfl, rfl⟩, fun b hb => ?_, q⟩
  have e : b = s1.heap.objs.size := by simpa using hb
  subst e
  exact I1.fpOk (Nat.le_refl _) (I1.hok.fresh (Nat.le_refl _))
/-- a dict's keys, the dict locked -/
theorem pi_keysX (he : PE X e td) : PIX X tg e (fun σ H R => td σ H fun x H1 => ∃ (d : Addr) (o : Obj) (kvs : List (Key × V)), x = .ref d ∧ H1 d = some (.frz o (.dK kvs)) ∧ R (Itk d o kvs) H1) := by
  refine ⟨fun pins s σ H R I h => ?_⟩
  refine thn (he.run pins s σ H _ I h) fun u s1 ⟨x, H1, I1, rx, d, o, kvs, ex, hd, q⟩ => ?_
  subst ex
  obtain rfl : u = Value.ref d := rx
  obtain ⟨hs, hgd, hx, es, ep, vs, hdt, hsz, kv, hm⟩ := I1.frzK hd
  refine iter_keys hs hgd hx hdt ?_
  refine ⟨s1.heap.objs.size, [s1.heap.objs.size], _, _, H1, rfl, I1.kept (t' := s1.toks) fun b o e => Heap.get?_push_of_some _ e, turn_keysX _ hdt, ⟨_, Heap.get?_push_size _ rfl, rfl, ?_⟩, fun b hb => ?_, q⟩
  · rw [hsz] <;> rfl
  · have e : b = s1.heap.objs.size := by simpa using hb
    subst e
    exact I1.fpOk (Nat.le_refl _) (I1.hok.fresh (Nat.le_refl _))
end
end L2H


set_option Elab.async false
set_option linter.all false
set_option maxRecDepth 100000
set_option maxHeartbeats 4000000
/-! a list comprehension while an error is handled. -/
namespace L2H
open PySem PySem.Spec PyProof.Rows L2 HotX
section
variable {X : Cx}
theorem lc_coreH {pins : List (Addr × Obj)} {s : Shared} {σ : St} {H : Hp} {Q : VK} {elt tg iter : Expr} {ifs : List Expr} {scope : Scope} {own : List (Str × Nat)} {pos pos' : Pos} {wi : TI} {g : TG} {tt : TT} {te : TE} {use : Option (Value → Sem Unit)} {Qf : Value → Shared → Prop}
    (hc : HotC X) (hN : X.N.Nodup) (I : Inv X pins σ H s) (hi : PIX X tg iter wi) (ok : BlkOk X.N X.env.scope scope own)
    (hg : ∀ (s : Shared) (H : Hp) (C : Addr) (cl : List (Str × Addr)) (fp : List Addr), PG (X.blk s H scope (compEnvC scope cl C X.env) fp) tg g) (ht : ∀ (s : Shared) (H : Hp) (C : Addr) (cl : List (Str × Addr)) (fp : List Addr), PTs (X.blk s H scope (compEnvC scope cl C X.env) fp) ifs tt)
    (he : ∀ (s : Shared) (H : Hp) (C : Addr) (cl : List (Str × Addr)) (fp : List Addr), PE (X.blk s H scope (compEnvC scope cl C X.env) fp) elt te) (hs : ∀ x, foldedSetIterable iter X.env x = pure x)
    (h : tLc wi g tt te (own.map (·.2)) σ H Q)
    (hRR : ∀ D C s' m H', Inv X pins σ H' s' → Q (.ref D) H' → s'.heap.Ns C m → FpOk X pins H' C → compPost (model X.prog X.w) X.A X.xe use Qf (.ref D) C (.ok .next) s') :
    wpAny (model X.prog X.w) X.A (comprehension (.ListComp elt [⟨tg, iter, ifs, 0⟩] scope pos) scope X.env pos' (newList []) false (eval iter X.env) use) Qf X.xe s := by
  have hfree : ∀ y ∈ scope.names, y.2 = .free → ∃ c, X.env.cells.lookup y.1 = some c := fun y hy e => by
    rcases ok.free y hy e with k | k
    · exact I.ok.has _ (.inl k)
    · exact I.ok.has _ (.inr k)
  refine wpAny_comprehension_free (use := use) rfl hs (closure_ok hfree) ok.kind (fun y hy e => by rw [ok.uniq y hy, e])
    (thn (hi.run pins s σ H _ I h) fun xv s1 hx => thn hx fun itv s2 h2 => ?_)
  obtain ⟨it, fp, tn, J, H2, e, I2, T, st2, f2, q⟩ := h2
  subst e
  refine wpAny_newObj_type (newEnv_comp ?_) (by show 0 ≤ sizeLine; decide)
  generalize hD : s2.heap.objs.size = D
  have hDn : H2 D = none := I2.hok.fresh (Nat.le_of_eq hD)
  obtain ⟨W, ⟨m0, w0⟩, turn⟩ := q D hDn
  generalize hs3 : ({ s2 with heap := s2.heap.push { cls := .type "list", data := .seq ([] : List Value).toArray } } : Shared) = s3
  have I3 : Inv X pins σ (upd H2 D (.lst [])) s3 := by
    rw [← hs3]
    refine I2.laid (t' := s2.toks) (fun b o e => Heap.get?_push_of_some _ e) (Nat.le_of_eq hD) ⟨Nat.zero_le _, [], 0, .nil, ?_⟩
    rw [← hD]
    exact Heap.get?_push_size _ rfl
  have h3 : s3.heap = s2.heap.push { cls := .type "list", data := .seq ([] : List Value).toArray } := by rw [← hs3]
  have sz : ∀ b ∈ fp, b < s2.heap.objs.size := fun b hb => by
    obtain ⟨o, e, _⟩ := T.obj _ _ st2 b hb
    exact Heap.lt_size e
  have f3 : ∀ b ∈ fp, FpOk X pins (upd H2 D (.lst [])) b ∧ b < s3.heap.objs.size := fun b hb => by
    have hlt := sz b hb
    refine ⟨⟨?_, (f2 b hb).2⟩, by rw [h3, Heap.size_push]; exact Nat.lt_succ_of_lt hlt⟩
    rw [upd_ne (by rw [← hD]; exact Nat.ne_of_lt hlt)]
    exact (f2 b hb).1
  have st3 : tn 0 s3.heap := T.keep _ _ _ st2 fun b _ o e => by rw [h3]; exact Heap.get?_push_of_some _ e
  have I4 := block_start I3 ok hN f3
  have pg := hg s3 (upd H2 D (.lst [])) s3.heap.objs.size (cellsFrom (s3.heap.objs.size + 1) scope.names (cloFrom X.env.cells scope.names [])) fp
  have pt := ht s3 (upd H2 D (.lst [])) s3.heap.objs.size (cellsFrom (s3.heap.objs.size + 1) scope.names (cloFrom X.env.cells scope.names [])) fp
  have pe := he s3 (upd H2 D (.lst [])) s3.heap.objs.size (cellsFrom (s3.heap.objs.size + 1) scope.names (cloFrom X.env.cells scope.names [])) fp
  show codeAny _ _ (.compStart (.ListComp elt [⟨tg, iter, ifs, 0⟩] scope pos) 0 (.ref it) (.ref D) (compEnvC scope (cellsFrom (s3.heap.objs.size + 1) scope.names (cloFrom X.env.cells scope.names [])) s3.heap.objs.size X.env)) (compPost (model X.prog X.w) X.A X.xe use Qf (.ref D) s3.heap.objs.size) { s3 with heap := pushCells (s3.heap.push { cls := .type "dict", data := .dict #[] }) scope.names }
  have nfp : ∀ b ∈ fp, (upd H2 D (.lst [])) b = none := fun b hb => (f3 b hb).1.1
  generalize hce : compEnvC scope (cellsFrom (s3.heap.objs.size + 1) scope.names (cloFrom X.env.cells scope.names [])) s3.heap.objs.size X.env = ce at I4 pg pt pe ⊢
  have cL : ce.locals = s3.heap.objs.size := by subst hce; rfl
  generalize hH3 : upd H2 D (.lst []) = H3 at I3 I4 pg pt pe w0 nfp f3
  generalize hs4 : ({ s3 with heap := pushCells (s3.heap.push { cls := .type "dict", data := .dict #[] }) scope.names } : Shared) = s4 at I4 ⊢
  have st4 : tn 0 s4.heap := T.keep _ _ _ st3 fun b _ o e => by rw [← hs4]; exact pushCells_keeps _ _ _ _ (Heap.get?_push_of_some _ e)
  have stat : ∀ {σ' : St} {H' : Hp} {s' : Shared}, Inv (X.blk s3 H3 scope ce fp) [] σ' H' s' → (∀ b ∈ fp, H' b = none) → ∀ b ∈ fp, FpOk (X.blk s3 H3 scope ce fp) [] H' b := fun {σ' H' s'} I' hn b hb =>
    ⟨hn b hb, (I'.ok.exf b hb).1, I'.ok.exfs b hb, .inl hb, fun x c e => (I'.ok.exf b hb).2 x c e, fun p hp => absurd (show p ∈ ([] : List (Addr × Obj)) ++ [] from hp) (by simp)⟩
  -- the handled error stays as it is
  have hotB : ∀ {σ' : St} {H' : Hp} {s' : Shared}, Inv (X.blk s3 H3 scope ce fp) [] σ' H' s' → ∃ x1, HotAt X.A x1 s'.heap := fun {σ' H' s'} I' => by
    obtain ⟨p, ⟨hh, v1, e1, c1⟩, hp⟩ := hc
    have hp' : p ∈ X.pn ++ pins := List.mem_append_left _ hp
    obtain ⟨g1, g2, g3, g4, _⟩ := I3.pin p hp'
    refine ⟨p.1, hh, p.2, v1, I'.base.keep p.1 p.2 g1 g2 (fun z => ?_) (fun z => ?_), e1, c1⟩
    · rcases List.mem_cons.mp (I3.stkSub p.1 z) with z | z
      · exact g3 z
      · exact g4 z
    · exact (f3 p.1 z).1.2.2.2.2.2 p hp' rfl
  have loop : codeAny (model X.prog X.w) X.A (.compLoop (.ListComp elt [⟨tg, iter, ifs, 0⟩] scope pos) 0 (.ref it) (.ref D) ce) (compPost (model X.prog X.w) X.A X.xe use Qf (.ref D) s3.heap.objs.size) s4 := by
    refine compLoop_any (fun n s' => ∃ i H', Inv (X.blk s3 H3 scope ce fp) [] (wipe σ (own.map (·.2))) H' s' ∧ tn i s'.heap ∧ (∀ b ∈ fp, H' b = none) ∧ W i n H') ?_ m0 ⟨0, H3, I4, st4, nfp, w0⟩
    rintro n s5 ⟨i, H5, I5, st5, n5, w5⟩
    rcases turn i n H5 w5 with ⟨stop, qq⟩ | ⟨go, Nx, hNx, step⟩
    · have td := T.done (X.blk s3 H3 scope ce fp) rfl rfl rfl i [] s5 _ H5 (fun _ _ => False) (hotB I5) I5 (stat I5 n5) st5 stop
      refine thnF td fun r s6 ⟨hr, I6⟩ => ?_
      subst hr
      have I7 : Inv X pins σ H5 s6 := I3.call' (ch := fp) I6.os I6.base I6.hok I6.bare fun b hb => ⟨(f3 b hb).1.2.2.2.1, (f3 b hb).1.2.1, (f3 b hb).1.2.2.2.2.1, (f3 b hb).1.2.2.2.2.2⟩
      have nC : H5 s3.heap.objs.size = none := by
        have z : H5 ce.locals = none := I6.free
        rw [cL] at z
        exact z
      obtain ⟨m, hn, _⟩ := I6.loc
      have hn : s6.heap.Ns ce.locals m := hn
      rw [cL] at hn
      exact hRR D s3.heap.objs.size s6 m H5 I7 qq hn (I3.fpOk (Nat.le_refl _) nC)
    · have ti := T.item (X.blk s3 H3 scope ce fp) rfl rfl rfl i [] s5 _ H5 (fun _ _ => False) I5 (stat I5 n5) st5 go
      refine thnF ti fun r s6 ⟨u, hr, h6⟩ => ?_
      subst hr
      refine thnF h6 fun _ s7 ⟨x, H7, I7, r7, y7, st7, n7⟩ => ?_
      have I7' := I7.pinned (stat I7 n7) (T.obj _ _ st7)
      refine thnF (pg.run _ s7 _ H7 x u _ I7' r7 (step x H7 y7)) fun _ s8 ⟨σ8, H8, I8, hw8, q8⟩ => ?_
      refine thnF (pt.run _ s8 σ8 H8 _ I8 q8) fun b s9 ⟨H9, I9, q9⟩ => ?_
      have fin : ∀ {s' : Shared} {H' : Hp}, Inv (X.blk s3 H3 scope ce fp) ([] ++ pinsAt fp s7.heap) σ8 H' s' → Nx H' → ∃ m, m < n ∧ ∃ i H', Inv (X.blk s3 H3 scope ce fp) [] (wipe σ (own.map (·.2))) H' s' ∧ tn i s'.heap ∧ (∀ b ∈ fp, H' b = none) ∧ W i m H' := fun {s' H'} I' nx => by
        obtain ⟨m', hm, w'⟩ := hNx H' nx
        have pin' : ∀ b ∈ fp, ∀ o, s7.heap.get? b = some o → s'.heap.get? b = some o ∧ H' b = none := fun b hb o e =>
          let z := I'.pin (b, o) (List.mem_append_right _ (List.mem_append_right _ (mem_pinsAt hb e)))
          ⟨z.1, z.2.1⟩
        have hl : (wipe σ (own.map (·.2))).length = σ8.length := by rw [← hw8, wipe_length]
        refine ⟨m', hm, i + 1, H', (I'.unpinned (pins := [])).weak hl (fun j v e => ?_), T.keep _ _ _ st7 fun b hb o e => (pin' b hb o e).1, fun b hb => ?_, w'⟩
        · rw [← hw8] at e
          exact (wipe_some e).1
        · obtain ⟨o, e, _⟩ := T.obj _ _ st7 b hb
          exact (pin' b hb o e).2
      cases b with
      | false =>
        simp only [Bool.false_eq_true, if_false] at q9 ⊢
        exact fin I9 q9
      | true =>
        simp only [if_true] at q9 ⊢
        refine thnF (pe.run _ s9 σ8 H9 _ I9 q9) fun z s10 ⟨yv, H10, I10, r10, acc, hD10, hz10, nx⟩ => ?_
        exact app_ok (X := X.blk s3 H3 scope ce fp) I10 hD10 hz10 r10 fun s11 I11 => fin I11 nx
  exact codeAny_compStart_list loop (T.self X.A 0 _ _ _ st4 loop)
theorem pe_lcH {elt tg iter : Expr} {ifs : List Expr} {scope : Scope} {own : List (Str × Nat)} {pos : Pos} {wi : TI} {g : TG} {tt : TT} {te : TE} (hc : HotC X) (hN : X.N.Nodup) (hi : PIX X tg iter wi) (ok : BlkOk X.N X.env.scope scope own)
    (hg : ∀ (s : Shared) (H : Hp) (C : Addr) (cl : List (Str × Addr)) (fp : List Addr), PG (X.blk s H scope (compEnvC scope cl C X.env) fp) tg g) (ht : ∀ (s : Shared) (H : Hp) (C : Addr) (cl : List (Str × Addr)) (fp : List Addr), PTs (X.blk s H scope (compEnvC scope cl C X.env) fp) ifs tt)
    (he : ∀ (s : Shared) (H : Hp) (C : Addr) (cl : List (Str × Addr)) (fp : List Addr), PE (X.blk s H scope (compEnvC scope cl C X.env) fp) elt te) (hs : ∀ x, foldedSetIterable iter X.env x = pure x := by intro _; rfl) :
    PE X (.ListComp elt [⟨tg, iter, ifs, 0⟩] scope pos) (tLc wi g tt te (own.map (·.2))) := by
  refine ⟨fun pins s σ H Q I h => ?_⟩
  rw [eval_ListComp]
  refine lc_coreH hc hN I hi ok hg ht he hs h fun D C s' m H' I' q hn f => ⟨m, hn, fun h'' sb => ?_⟩
  obtain ⟨f0, f1, f2, f3, f4, f5⟩ := f
  exact ⟨.ref D, H', I'.turned (t' := s'.toks) (fun b o hb e => (sb.2 b hb).trans e) f0 f1 f3 f4 f5, rfl, q⟩
theorem ps_setLcH {i : Nat} {y : Str} {py : Pos} {elt tg iter : Expr} {ifs : List Expr} {scope : Scope} {own : List (Str × Nat)} {pos spos : Pos} {wi : TI} {g : TG} {tt : TT} {te : TE} (hc : HotC X) (hN : X.N.Nodup) (hy : X.N[i]? = some y) (hyl : X.env.scope.names.lookup y = some .local)
    (hsw : swapsWith (.ListComp elt [⟨tg, iter, ifs, 0⟩] scope pos) (some (.Name y py)) spos.line X.env = pure true) (hi : PIX X tg iter wi) (ok : BlkOk X.N X.env.scope scope own)
    (hg : ∀ (s : Shared) (H : Hp) (C : Addr) (cl : List (Str × Addr)) (fp : List Addr), PG (X.blk s H scope (compEnvC scope cl C X.env) fp) tg g) (ht : ∀ (s : Shared) (H : Hp) (C : Addr) (cl : List (Str × Addr)) (fp : List Addr), PTs (X.blk s H scope (compEnvC scope cl C X.env) fp) ifs tt)
    (he : ∀ (s : Shared) (H : Hp) (C : Addr) (cl : List (Str × Addr)) (fp : List Addr), PE (X.blk s H scope (compEnvC scope cl C X.env) fp) elt te) (hs : ∀ x, foldedSetIterable iter X.env x = pure x := by intro _; rfl) :
    PS X (.Assign [.Name y py] (.ListComp elt [⟨tg, iter, ifs, 0⟩] scope pos) spos) (tAsg (tLc wi g tt te (own.map (·.2))) (gName i)) := by
  refine ⟨fun pins s σ H D I h => ?_⟩
  rw [exec_Assign_Name_used _ _ _ _ hsw]
  refine wpAny_bind (wpAny_standAt (wpAny_bind ?_))
  show wpAny _ X.A (do let _ ← comprehension (.ListComp elt [⟨tg, iter, ifs, 0⟩] scope pos) scope X.env (firstIterPos [⟨tg, iter, ifs, 0⟩] pos) (newList []) false (eval iter X.env) (some (assign (.Name y py) X.env))) _ _ s
  have h : tLc wi g tt te (own.map (·.2)) σ H (fun x H1 => gName i x σ H1 D.nx) := h
  refine wpAny_bind (thn (lc_coreH (Qf := fun _ s' => SP X pins D .next s') hc hN I hi ok hg ht he hs h fun L C s' m H' I' q hn f => ?_) fun _ s' hq => wpAny_pure (wpAny_pure hq))
  show wpAny _ _ (assign (.Name y py) X.env (.ref L)) _ _ _
  refine wpAny_assign_Name (store_ok2 (v := V.ref L) I' hN hy (.inl hyl) rfl (fun s2 I2 ⟨a, sb, ha⟩ => ?_) (.inr hyl))
  obtain ⟨f0, f1, f2, f3, f4, f5⟩ := f
  have haC : C ≠ a := by
    rcases ha with z | z
    · rw [z]; exact f1
    · exact fun e => f4 y a z e.symm
  refine ⟨m, hn.sameBut sb haC, fun h3 sb3 => ?_⟩
  exact ⟨_, H', I2.turned (t' := s2.toks) (fun b o hb e => (sb3.2 b hb).trans e) f0 f1 f3 f4 f5, q⟩
end
end L2H


set_option Elab.async false
set_option linter.all false
set_option maxRecDepth 100000
set_option maxHeartbeats 4000000
/-! isinstance of a handled error that bears a dict; a def called with it within the suite. -/
namespace HotX
open PySem PySem.Spec PyProof.Rows PySem.Calls
section
variable {prog : Program} {w : World} {A : Around} {E : Value → Shared → Prop} {s : Shared}
theorem unpack_items_hot {t x1 : Addr} {items : Array Value} {Q : List Value → Shared → Prop} (hot : HotAt A x1 s.heap) (ht : IsTup s.heap t items)
    (hQ : ∀ h', Heap.ExtBut s.heap.objs.size s.heap h' → Q items.toList { s with heap := h' }) : wpAny (model prog w) A (unpackItems (.ref t) items.size none) Q E s := by
  have hlt : t ≠ s.heap.objs.size := by obtain ⟨o, ho, _⟩ := ht; exact Nat.ne_of_lt (Heap.lt_size ho)
  obtain ⟨hh, o1, vs1, h1, d1, c1⟩ := hot
  unfold unpackItems
  refine wpAny_bind ?_
  · unfold notIterableAtAll
    refine wpAny_bind (wpAny_specialOf ht.typeIs slot_tuple_iter.lookup ?_)
    refine wpAny_pure ?_
    simp only [Bool.false_eq_true, if_false]
    refine wpAny_bind (wpAny_holding (iter_tuple ht ?_))
    refine wpAny_bind (wpAny_holding (draw_tuple hlt items.size 0 _ _ ⟨_, Heap.get?_push_size _ rfl, rfl, rfl⟩ (ht.push _) (by omega) fun h₁ hit₁ hs₁ => ?_))
    have hall : List.take items.size (List.drop 0 items.toList) = items.toList := by
      rw [List.drop_zero]; exact List.take_of_length_le (by simp)
    rw [hall]
    rw [if_neg (by simp)]
    have ht₁ : IsTup h₁ t items := (ht.push _).extBut hs₁.extBut hlt
    have h1' : h₁.get? x1 = some o1 := hs₁.extBut x1 o1 (Nat.ne_of_lt (Heap.lt_size h1)) (Heap.get?_push_of_some _ h1)
    refine wpAny_bind (wpAny_holding (tuple_end_hot (i := 0 + items.size) ⟨hh, o1, vs1, h1', d1, c1⟩ hit₁ ht₁ (by simp) fun h₂ he₂ => ?_))
    simp only [Option.isSome_none, Bool.false_eq_true, if_false]
    refine wpAny_pure (hQ h₂ fun b o hb e => he₂ b o hb (hs₁.extBut b o hb (Heap.get?_push_of_some _ e)))
theorem assign_tuple_hot {env : Env} {elts : List Expr} {k : Nat} {pos : Pos} {t x1 : Addr} {items : Array Value} {Q : Unit → Shared → Prop} (hot : HotAt A x1 s.heap) (ht : IsTup s.heap t items)
    (hn : (assignEach elts env).length = items.size) (hstar : (assignEach elts env).findIdx? (·.1) = none)
    (h : ∀ h', Heap.ExtBut s.heap.objs.size s.heap h' → wpAny (model prog w) A (assignInOrder ((assignEach elts env).map (·.2)) items.toList) Q E { s with heap := h' }) :
    wpAny (model prog w) A (assign (.Tuple elts k pos) env (.ref t)) Q E s := by
  rw [assign_Tuple]
  refine wpAny_bind (wpAny_standAt ?_)
  unfold unpack
  rw [hn, hstar]
  exact wpAny_bind (wpAny_holding (unpack_items_hot hot ht h))
end
end HotX
namespace L2H
open PySem PySem.Spec PyProof.Rows L2 HotX
theorem pg_tupH {X : Cx} {es : List Expr} {k : Nat} {pos : Pos} {t : TGs} {n : Nat} (hc : HotC X) (h : PGs X es t)
    (hn : (assignEach es X.env).length = n := by rfl) (hst : (assignEach es X.env).findIdx? (·.1) = none := by rfl) : PG X (.Tuple es k pos) (gTup X.K n t) := by
  refine ⟨fun pins s σ H v u Q I r hw => ?_⟩
  obtain ⟨a, xs, e1, hq, hl, hw⟩ := hw
  subst e1
  cases r
  obtain ⟨its, rv, ht, hz⟩ := I.tuple hq
  obtain ⟨x1, hot⟩ := hc.at I
  refine assign_tuple_hot hot ht (by simp [hn, ← hl, rv.length]) hst fun h' hx => ?_
  have I1 : Inv X pins σ H { s with heap := h' } := I.kept (t' := s.toks) fun b o e => hx b o (Nat.ne_of_lt (Heap.lt_size e)) e
  exact h.run pins _ σ H xs _ Q I1 (by simpa using rv) hw
end L2H
namespace PySem.W
open PySem PySem.Spec PySem.Calls PyProof.Rows
section
variable {prog : Program} {w : World} {A : Around} {E : Value → Shared → Prop} {s : Shared} {K : Frag} {x D : Addr} {ox : Obj} {od : Option Obj}
theorem findObj_dataO {C : Addr} {name : Str} {a g : Value} (hc : (clsIn K C).isSome = true) (ha : findIn K (.ref C) name = some (some a)) (hg : specialIn K a "__get__" = some (some g)) (ht : takesIn K a = some true) : findObj K C od name = some (.bind g a) := by
  obtain ⟨cd, hc⟩ := Option.isSome_iff_exists.mp hc
  unfold findObj
  rw [hc, Option.bind_some, ha, Option.bind_some]
  simp [hg, ht]
theorem kin_classO {Q : Option Value → Shared → Prop} (hga : findIn K (.ref D) "__getattribute__" = some (some (.builtin "BaseException.__getattribute__"))) (hgt : findIn K (.ref D) "__getattr__" = some none) (hsub : subIn K (.ref D) (.type "BaseException") = some true)
    (hdct : hasDictIn K D = true) (ha : findIn K (.ref D) "__class__" = some (some (.builtin "object.__class__")))
    (hn : specialIn K (.builtin "object.__class__") "__get__" = some (some (.builtin "getset_descriptor.__get__"))) (htk : takesIn K (.builtin "object.__class__") = some true) (hm : mroIn K D (.type "object") = some true)
    (X : K.In s.heap) (I : InstAt s.heap x ox D od) (h : Q (some (.ref D)) { s with toks := s.toks + 1 }) : wpAny (model prog w) A (getAttr? (.ref x) "__class__") Q E s := by
  have hf : findObj K D od "__class__" = some (.bind (.builtin "getset_descriptor.__get__") (.builtin "object.__class__")) := findObj_dataO (by obtain ⟨cd, hc, _⟩ := any_some hdct; rw [hc]; rfl) ha hn htk
  obtain ⟨hp, g, d, t, os⟩ := s
  have L0 := I.type (M := model prog w)
  have L1 := looks_findIn (M := model prog w) X hga
  have L2 := looks_findIn (M := model prog w) X hgt
  have L3 := looks_find (M := model prog w) X I hf
  have sub : Looks (model prog w) hp (isInstance (.ref x) (.type "BaseException")) true := L0.andThen (looks_subIn X hsub)
  have hx0 : (false && onTheHeap (Value.builtin "BaseException.__getattribute__")) = false := rfl
  have hx2 : (Value.builtin "BaseException.__getattribute__" == Value.builtin "object.__getattribute__") = false := by decide +kernel
  have hx1 : (onTheHeap (Value.ref D) && Value.builtin "BaseException.__getattribute__" == Value.builtin "object.__getattribute__") = false := by rw [hx2]; rfl
  unfold getAttr? getAttrBy? getAttrBy
  refine wpAny_bind (wpAny_mkText (wpAny_bind (wpAny_attempt (wpAny_holding (wpAny_bind (L0.at (wpAny_bind (L1.at ?_))))))))
  show wpAny _ _ (if (onTheHeap (Value.ref D) && Value.builtin "BaseException.__getattribute__" == Value.builtin "object.__getattribute__") = true then _ else _) _ _ _
  rw [hx1, if_neg Bool.false_ne_true]
  unfold getAttrByItsOwn hookBefore
  refine wpAny_bind ?_
  rw [if_pos (show onTheHeap (Value.ref D) = true from rfl)]
  refine L2.at ?_
  refine wpAny_bind (wpAny_attempt (wpAny_holding ?_))
  unfold callGetattribute
  rw [hx0, if_neg Bool.false_ne_true]
  unfold boundAndCalled
  rw [PySem.F.excAttr_ValueError.ga.bind (.ref x)]
  refine wpAny_bind (wpAny_pure ?_)
  show wpAny _ _ (call (.builtin "BaseException.__getattribute__") [.ref x, .str "__class__" t]) _ _ _
  refine wpAny_call (codeAny_call_builtin PySem.F.excAttr_ValueError.ga.plain PySem.F.entry_bexc_ga ?_)
  refine @check_slot (model prog w) _ _ ⟨hp, g, d, t + 1, os⟩ "BaseException.__getattribute__" "BaseException" "__getattribute__" (.ref x) [.str "__class__" t] [] _ (by decide +kernel) (by decide +kernel) sub (PySem.F.args_bexc_ga (.ref x) (.str "__class__" t)) ?_
  unfold Builtin.«object.__getattribute__»
  refine wpAny_bind (wpAny_of_eq (a := ((Value.ref x : Value), [Value.str "__class__" t])) (by first | rfl | (simp only [slotArgs]; rfl)) ?_)
  refine wpAny_bind (wpAny_pure (wpAny_bind (L0.at (wpAny_bind (L3.at ?_)))))
  show wpAny _ _ (holding [Value.builtin "object.__class__"] (call (.builtin "getset_descriptor.__get__") [.builtin "object.__class__", .ref x, .ref D]) >>= ret) _ _ _
  refine wpAny_bind (wpAny_holding (wpAny_call (class_get (s := ⟨hp, g, d, t + 1, os⟩) (ox := ox) (od := od) X I hm ?_)))
  refine wpAny_pure ?_
  show wpAny _ _ (handedOut (.ref D)) _ _ _
  rw [handedOut_of (v := .ref D) rfl]
  first
    | exact wpAny_pure (wpAny_pure h)
    | exact wpAny_pure h
    | exact wpAny_pure (wpAny_bind (wpAny_pure (wpAny_pure h)))
theorem kitx_excO (hga : findIn K (.ref D) "__getattribute__" = some (some (.builtin "BaseException.__getattribute__"))) (hgt : findIn K (.ref D) "__getattr__" = some none) (hsub : subIn K (.ref D) (.type "BaseException") = some true) (hdct : hasDictIn K D = true) (ha : findIn K (.ref D) "__class__" = some (some (.builtin "object.__class__")))
    (hn : specialIn K (.builtin "object.__class__") "__get__" = some (some (.builtin "getset_descriptor.__get__"))) (htk : takesIn K (.builtin "object.__class__") = some true) (hm : mroIn K D (.type "object") = some true) :
    KitX K (.ref x) (.ref D) (fun h => InstAt h x ox D od) where
  ty := fun _ _ _ I => I.type
  it := fun _ _ X _ => by
    obtain ⟨cdD, hcD, _⟩ := any_some hdct
    unfold clsIn at hcD
    split at hcD
    · rename_i c' d' cd' sl' ho
      intro A' Q' E' s' k q
      unfold isType loadHead
      exact wpAny_bind (wpAny_loadPart (k _ _ (X _ _ ho)) (wpAny_pure q))
    · cases hcD
  ne := fun h tp dd its n sl X htp => by
    obtain ⟨cdD, hcD, _⟩ := any_some hdct
    refine Bool.eq_false_iff.mpr fun q => ?_
    have e : D = tp := Value.ref.inj (beq_iff_eq.mp q)
    subst e
    unfold clsIn at hcD
    split at hcD
    · rename_i c' d' cd' sl' ho
      have z := (X _ _ ho).symm.trans htp
      cases z
    · cases hcD
  ca := fun X I k => kin_classO hga hgt hsub hdct ha hn htk hm X I k
end
end PySem.W
namespace L2
open PySem PySem.Spec PyProof.Rows
/-- isinstance of an error that the context bears, with a dict -/
theorem call_isPD {X : Cx} {D dx : Addr} {p : Addr × Obj} (C : ExcC X.K D) (hp : p ∈ X.pn) (h1 : p.2.cls = .ref D) (h2 : p.2.dict = some dx) (hf : ∃ vs, p.2.data = .fields vs) : CallR X (.builtin "isinstance") (fun xs H Q => ∃ fs, H dx = some (.xd fs) ∧ rIsE X.K D p.1 xs H Q) := by
  intro pins s σ H xs us Q I r h
  obtain ⟨fs, hdx, c, cv, b, rfl, hcv, e, q⟩ := h
  obtain ⟨u1, u2, rfl, rx, rt⟩ := vals2 r
  cases rx
  have ec := hcv _ rt
  subst ec
  have hget := (I.pin p (List.mem_append_left _ hp)).1
  obtain ⟨vs, hv⟩ := hf
  have hx : ObjOk X.prog X.w H s.heap dx (.xd fs) := I.hok dx _ hdx
  obtain ⟨mA, hns, hr⟩ := hx
  obtain ⟨od, ho, hl⟩ := lookIn_ns hns
  have J : PySem.W.InstAt s.heap p.1 p.2 D (some od) := by
    obtain ⟨a, oc, od', oda, osl⟩ := p
    dsimp only at h1 h2 hv
    subst h1 h2 hv
    exact ⟨hget, rfl, rfl, ho⟩
  exact PySem.W.kia_one (PySem.W.kitx_excO C.hg C.hk C.hs C.hd C.ha C.hn C.ht C.hm) I.kIn J e (fun z => nomatch z) fun tk => ⟨.bl b, H, I.kept (t' := tk) fun _ _ z => z, rfl, q⟩
section
variable {P : Program} {w : World} {K : PySem.W.Frag} {mg : Str → Option Value} {base : Heap}
/-! ### a def called within an except suite, of the error that is handled (its class at D) -/
structure FnHD (P : Program) (w : World) (K : PySem.W.Frag) (mg : Str → Option Value) (base : Heap) (D : Addr) (k : Nat) (f : Addr) (fd : FuncData) (ps : List Str) (sp : Addr → Addr → Sp) : Prop where
  len : ∀ a dx vs H Q E, sp a dx vs H Q E → vs.length = ps.length
  run : ∀ (A : Around) (outer : List Env) (s : Shared) (H : Hp) (args : Args) (us : List Value) (vs : List V) (Q : VK) (E : XK) (p : Addr × Obj) (dx : Addr), L2H.RoomH k A → L2H.Hot1 A p → p.2.cls = .ref D → p.2.dict = some dx → L2H.PinOk outer H s p → Env0 P w K mg base A outer s H → BindsTo s fd args (ps.zip us) →
    Vals vs us → sp p.1 dx vs H Q E → codeAny (model P w) A (.call (.ref f) args) (CR CX0 outer P w H s Q E) s
theorem Fun.okHD {x qual : Str} {st : Stmt} {f D : Addr} {fd : FuncData} {N ps : List Str} {k : Nat} {sp : Addr → Addr → Sp} (F : Fun K x qual st f fd) (S : FnScope N ps (defScope st)) (len : ∀ a dx vs H Q E, sp a dx vs H Q E → vs.length = ps.length)
    (hbody : ∀ (cdv : Value) (A : Around) (outer : List Env) (s : Shared) (H : Hp) (vs : List V) (Q : VK) (E : XK) (p : Addr × Obj) (dx : Addr), L2H.Hot1 A p → p.2.cls = .ref D → p.2.dict = some dx → L2H.RoomH k (A.deeper (envOfC qual (defScope st) s.heap.objs.size f cdv)) → sp p.1 dx vs H Q E →
      ∃ t, PSs (L2H.cxH CX0 P w K mg base N qual (defScope st) f cdv A outer s H E p) (defBody st) t ∧ t { nx := fun _ H' => Q .non H', rt := Q } (L2.start N vs) H) : FnHD P w K mg base D (k + 1) f fd ps sp := by
  obtain ⟨oc, od, kV, doc, pm, an, cdv, ct, osl, rfl, lk, hcd⟩ := F.ex
  refine ⟨len, fun A outer s H args us vs Q E p dx hr hot hD hN hpin e0 hb r hsp => ?_⟩
  have hl := len _ _ _ _ _ _ hsp
  have keepB : ∀ b o, base.get? b = some o → s.heap.get? b = some o := fun b o e => (e0.bs b o e).1
  have KX : K.In s.heap := e0.mod.kin.keeps keepB
  have lim : s.heap.NoLimit := e0.mod.nolimit.keeps keepB
  have kinds : ∀ y ∈ ps.zip us, (defScope st).names.lookup y.1 = some .local ∨ ((defScope st).names.lookup y.1 = some .cell ∧ ((cellsFrom (s.heap.objs.size + 1) (defScope st).names []).lookup y.1).isSome = true) := by
    rintro ⟨n, v⟩ hy
    rcases S.par n (List.of_mem_zip hy).1 with q | q
    · exact .inl q
    · exact .inr ⟨q, PySem.W.cellsFrom_some _ _ _ (.inl q)⟩
  refine codeAny_call_function hr.depth (KX _ _ lk) rfl S.co S.gen rfl (PySem.W.codeRec_of KX hcd) (hb _ _ _ _ ?_)
  refine wpAny_newFunctionEnv_cells S.kind kinds fun env he s1 x => ?_
  subst he
  refine ⟨lim.keeps x.toInCall.keep, codeAny_func ?_⟩
  obtain ⟨t, ht, hq⟩ := hbody cdv A outer s H vs Q E p dx hot hD hN (hr.deeper _) hsp
  refine wpAny_mono (ht.run [] s1 (L2.start N vs) H _ (L2H.inv_startH S hpin e0 hl r x) hq) (fun fl s' hs => ?_) fun e s' hs => hs
  cases fl with
  | ret u =>
    obtain ⟨v, σ', H', J, rv, q⟩ := hs
    exact ⟨v, H', J.os, J.bare, J.base, J.hok, rv, q⟩
  | next =>
    obtain ⟨σ', H', J, q⟩ := hs
    exact ⟨V.non, H', J.os, J.bare, J.base, J.hok, rfl, q⟩
  | brk =>
    obtain ⟨_, _, _, q⟩ := hs
    exact False.elim q
  | cont =>
    obtain ⟨_, _, _, q⟩ := hs
    exact False.elim q
end
section
variable {X : Cx} {k : Nat} {f D : Addr} {fd : FuncData} {ps : List Str} {sp : Addr → Addr → Sp} {x : Str} {q pos : Pos} {e : Expr} {es : List Expr} {t : TA} {a : Addr} {oe : Obj} {cls : Value} {d : Option Addr} {pn : List (Addr × Obj)}
/-- f(e), within the suite that holds the error at a: asks that the error is the class's own, with its dict -/
theorem pe_callHD (F : FnHD X.prog X.w X.K X.mg X.base D k f fd ps sp) (hr : L2H.RoomH k X.A) (hz : L2N.Zn cls d oe) (hf : ∃ vs, oe.data = .fields vs) (hg : Gl X x) (hm : X.mg x = some (.ref f)) (hk : PySem.W.keepIn X.K (.ref f) = true) (hb : Binds X.K fd ps [])
    (ha : PA (X.suite a ((a, oe) :: pn)) (e :: es) t) (hdb : (x == ("__debug__" : Str)) = false := by decide) (he : starEach (e :: es) X.env = (false, eval e X.env) :: starEach es X.env := by rfl) (hpl : (backTo pos (starEach es X.env)).any (·.1) = false := by rfl) :
    PE (X.suite a ((a, oe) :: pn)) (.Call (.Name x q) (e :: es) [] pos) (fun σ H Q => cls = .ref D ∧ ∃ dx, d = some dx ∧ t σ H fun vs H1 => sp a dx vs H1 Q E0) := by
  refine ⟨fun pins s σ H Q I h => ?_⟩
  obtain ⟨ec, dx, ed, h⟩ := h
  refine wpAny_Call_Name_kw (ld_glob I hg hm ?_ hdb)
  refine PySem.W.callWith_K (h₀ := X.base) I.ok.mod.kin hk (thn (ha.run pos pins s σ H _ I h) fun us s1 hh => ?_) he hpl
  obtain ⟨vs, H1, I1, r, hsp⟩ := hh
  refine ⟨I1.kIn, ?_⟩
  have hl : us.length = ps.length := by rw [← r.length]; exact F.len _ _ _ _ _ _ hsp
  have b := hb s1 us I1.kIn (by rw [List.append_nil]; exact hl)
  rw [List.append_nil] at b
  have P1 := I1.pin (a, oe) (List.mem_append_left _ List.mem_cons_self)
  have hpin : L2H.PinOk (X.suite a ((a, oe) :: pn)).stack H1 s1 (a, oe) := ⟨P1.1, P1.2.1, fun hm => (List.mem_cons.mp (I1.stkSub a hm)).elim P1.2.2.1 P1.2.2.2.1, P1.2.2.2.2⟩
  have hot : L2H.Hot1 (X.suite a ((a, oe) :: pn)).A (a, oe) := by
    obtain ⟨vs, hv⟩ := hf
    exact ⟨rfl, vs, hv, hz.2.2 vs hv⟩
  refine wpAny_call (codeAny_mono (F.run _ _ s1 H1 ⟨us, []⟩ us vs Q E0 (a, oe) dx ⟨hr.dp, hr.un⟩ hot (hz.1.trans ec) (hz.2.1.trans ed) hpin I1.env0 b r hsp) fun res s' hq => ?_)
  cases res with
  | error er => exact hq.elim
  | ok fl =>
    cases fl with
    | ret u => exact I1.after hq
    | next => exact False.elim hq
    | brk => exact False.elim hq
    | cont => exact False.elim hq
end
section
variable {P : Program} {w : World} {K : PySem.W.Frag} {mg : Str → Option Value} {base : Heap}
/-- a def called within an except suite -/
theorem Fun.okH {x qual : Str} {st : Stmt} {f : Addr} {fd : FuncData} {N ps : List Str} {k : Nat} {sp : Sp} (F : Fun K x qual st f fd) (S : FnScope N ps (defScope st)) (len : ∀ vs H Q E, sp vs H Q E → vs.length = ps.length)
    (hbody : ∀ (cdv : Value) (A : Around) (outer : List Env) (s : Shared) (H : Hp) (vs : List V) (Q : VK) (E : XK) (p : Addr × Obj), L2H.Hot1 A p → L2H.RoomH k (A.deeper (envOfC qual (defScope st) s.heap.objs.size f cdv)) → sp vs H Q E →
      ∃ t, PSs (L2H.cxH CX0 P w K mg base N qual (defScope st) f cdv A outer s H E p) (defBody st) t ∧ t { nx := fun _ H' => Q .non H', rt := Q } (L2.start N vs) H) : L2H.FnH P w K mg base CX0 (k + 1) f fd ps sp := by
  obtain ⟨oc, od, kV, doc, pm, an, cdv, ct, osl, rfl, lk, hcd⟩ := F.ex
  exact L2H.fn_ofH lk hcd S len fun A outer s H vs Q E p hot hr hsp => hbody cdv A outer s H vs Q E p hot hr hsp
end
end L2


set_option Elab.async false
set_option linter.all false
set_option maxRecDepth 100000
set_option maxHeartbeats 4000000
namespace MK
open PySem PySem.Spec PyProof.Rows L2
def topS (i : Nat) : Stmt := PySem.Challenge.pw_measurekind_k09_whole_none_solves.main.body.getD i (.Pass ⟨0, 0, 0, 0⟩)
abbrev sAdd : Stmt := topS 8
abbrev sProd : Stmt := topS 9
abbrev sQuo : Stmt := topS 10
abbrev sTog : Stmt := topS 11
abbrev sTrn : Stmt := topS 12
abbrev sClsN : Stmt := topS 3
abbrev sGath : Stmt := topS 14
abbrev sClsU : Stmt := topS 16
abbrev sClsS : Stmt := topS 17
abbrev sSolved : Stmt := topS 18
abbrev sPowers : Stmt := topS 19
abbrev sMeas : Stmt := topS 20
abbrev sSummed : Stmt := topS 21
abbrev sBrought : Stmt := topS 22
abbrev sNear : Stmt := topS 23
abbrev sShift : Stmt := topS 24
abbrev sRest : Stmt := topS 25
abbrev sHind : Stmt := topS 26
abbrev sLeast : Stmt := topS 27
abbrev sShown : Stmt := topS 28
abbrev sTold : Stmt := topS 29
abbrev sCell : Stmt := topS 31
abbrev sMix : Stmt := topS 32
abbrev sWords : Stmt := topS 33
abbrev sMade : Stmt := topS 34
abbrev sWhole : Stmt := topS 35
abbrev sIsM : Stmt := topS 36
abbrev sSmall : Stmt := topS 37
abbrev sFilled : Stmt := topS 38
abbrev sIsUn : Stmt := topS 39
abbrev sFormed : Stmt := topS 40
abbrev sSolves : Stmt := topS 41
abbrev sShows : Stmt := topS 42
abbrev sNone : Stmt := topS 43
abbrev sSomeL : Stmt := topS 44
abbrev sShare : Stmt := topS 45
abbrev sRows : Stmt := topS 46
abbrev sTimes : Stmt := topS 47
abbrev sSpoilt : Stmt := topS 48
abbrev sLaw : Stmt := topS 49
end MK


set_option Elab.async false
set_option linter.all false
set_option maxRecDepth 100000
set_option maxHeartbeats 4000000
namespace MK
open PySem PySem.Spec PyProof.Rows L2
/-! ### whole numbers in a row -/
/-- one less n times the other, place by place -/
def lessL (n : Int) (s t : List Int) : List Int := List.zipWith (fun a b => a - n * b) s t
def moreL (n : Int) (s t : List Int) : List Int := List.zipWith (fun a b => a + n * b) s t
def dotL (r s : List Int) : Int := (List.zipWith (fun a b => a * b) r s).sum
/-- all of k bits -/
def SmL (k : Nat) (s : List Int) : Prop := ∀ x ∈ s, Sm k x
theorem SmL.mono {k k' : Nat} {s : List Int} (h : SmL k s) (l : k ≤ k') : SmL k' s := fun x hx => (h x hx).mono l
theorem SmL.at_ {k : Nat} {s : List Int} (h : SmL k s) {i : Nat} {x : Int} (e : s[i]? = some x) : Sm k x := h x (List.mem_of_getElem? e)
theorem ints_get {s : List Int} {i : Nat} {v : V} (h : (s.map V.int)[i]? = some v) : ∃ x, s[i]? = some x ∧ v = .int x := by
  rw [List.getElem?_map] at h
  cases e : s[i]? with
  | none => rw [e] at h; cases h
  | some x => rw [e] at h; exact ⟨x, rfl, (Option.some.inj h).symm⟩
theorem zip_more {s t : List Int} (f : Int → Int → Int) {i : Nat} {x y : Int} (hx : s[i]? = some x) (hy : t[i]? = some y) : (List.zipWith f s t).take (i + 1) = (List.zipWith f s t).take i ++ [f x y] := by
  refine take_more ?_
  rw [List.getElem?_zipWith, hx, hy]
theorem mapInt_snoc (cs : List Int) (c : Int) : cs.map V.int ++ [V.int c] = (cs ++ [c]).map V.int := by
  rw [List.map_append]
  rfl
/-! ### an unknown as it stands -/
theorem kSM : ¬ (("stands" : Str) = "made") := by decide +kernel
def fldsU (s m : Addr) : List (Str × V) := [("stands", V.ref s), ("made", V.ref m)]
theorem fldsU_s (s m : Addr) : (fldsU s m).lookup ("stands" : Str) = some (.ref s) := by rw [fldsU, List.lookup_cons_self]
theorem fldsU_m (s m : Addr) : (fldsU s m).lookup ("made" : Str) = some (.ref m) := by
  have e : (("made" : Str) == ("stands" : Str)) = false := by decide +kernel
  rw [fldsU, List.lookup_cons, e]
  exact List.lookup_cons_self
theorem putU_s (s m t : Addr) : putF "stands" (.ref t) (fldsU s m) = fldsU t m := by
  show (if ("stands" : Str) = "stands" then _ else _) = _
  rw [if_pos rfl]
  rfl
theorem putU_m (s m t : Addr) : putF "made" (.ref t) (fldsU s m) = fldsU s t := by
  show (if ("stands" : Str) = "made" then _ else (("stands" : Str), V.ref s) :: (if ("made" : Str) = "made" then _ else _)) = _
  rw [if_neg kSM, if_pos rfl]
  rfl
/-- at p an unknown: what stands, what it is made of -/
def UnkAt (C : Addr) (H : Hp) (p : Addr) (s m : List Int) : Prop := ∃ dx sa ma, H p = some (.ins C dx (fldsU sa ma)) ∧ H sa = some (.lst (s.map V.int)) ∧ H ma = some (.lst (m.map V.int))
/-- the same, neither of its lists at X -/
def UnkX (C X : Addr) (H : Hp) (p : Addr) (s m : List Int) : Prop := ∃ dx sa ma, H p = some (.ins C dx (fldsU sa ma)) ∧ H sa = some (.lst (s.map V.int)) ∧ H ma = some (.lst (m.map V.int)) ∧ sa ≠ X ∧ ma ≠ X
theorem UnkX.at_ {C X : Addr} {H : Hp} {p : Addr} {s m : List Int} (h : UnkX C X H p s m) : UnkAt C H p s m := by
  obtain ⟨dx, sa, ma, h1, h2, h3, _⟩ := h
  exact ⟨dx, sa, ma, h1, h2, h3⟩
theorem UnkAt.x {C X : Addr} {H : Hp} {p : Addr} {s m : List Int} (h : UnkAt C H p s m) (n : H X = none) : UnkX C X H p s m := by
  obtain ⟨dx, sa, ma, h1, h2, h3⟩ := h
  exact ⟨dx, sa, ma, h1, h2, h3, ne_of_none h2 n, ne_of_none h3 n⟩
/-- what is asked of the class of unknowns -/
structure ClU (K : PySem.W.Frag) (C : Addr) : Prop where
  cl : Cls K C
  nS : NoAttr K C "stands"
  nM : NoAttr K C "made"
section
variable {P : Program} {w : World} {K : PySem.W.Frag} {mg : Str → Option Value} {base : Heap}
/-! ### _nearest -/
theorem scNear : FnScope ["above", "below"] ["above", "below"] (defScope sNear) := ⟨rfl, rfl, rfl, by decide +kernel, rfl, by decide +kernel, by decide +kernel⟩
def nearest (a b : Int) : Int := (2 * a + b).fdiv (2 * b)
def spNear : Sp := fun vs H Q _ => ∃ (a b : Int) (k : Nat), vs = [.int a, .int b] ∧ b ≠ 0 ∧ Sm k a ∧ Sm k b ∧ k ≤ 7990 ∧ Q (.int (nearest a b)) H
theorem ok_near {f : Addr} {fd : FuncData} (F : Fun K "_nearest" "_nearest" sNear f fd) : FnOk P w K mg base CX0 1 f fd ["above", "below"] spNear := by
  refine F.ok scNear (fun vs H Q E h => ?_) (fun cdv A outer s H vs Q E hr h => ?_)
  · obtain ⟨a, b, k, rfl, _⟩ := h
    rfl
  · obtain ⟨a, b, k, rfl, b0, ha, hb, hk, q⟩ := h
    refine ⟨_, pss_one (ps_ret (pe_op op_fdivWN (pe_op op_add (pe_op op_mulW pe_int (pv 0)) (pv 1)) (pe_op op_mulW pe_int (pv 1)))), ?_⟩
    have two : Sm 2 (2 : Int) := by show (2 : Int).natAbs < 2 ^ 2; decide
    have b2 : Sm (2 + k) (2 * b) := two.mul hb
    refine ⟨_, rfl, _, _, rfl, rfl, two.mulW ha (by omega), _, rfl, _, _, rfl, rfl, _, rfl, _, _, rfl, rfl, two.mulW hb (by omega), _, _, rfl, rfl, b2.div (Int.mul_ne_zero (by decide) b0) (by omega), ?_⟩
    exact q
/-! ### _shift -/
theorem scShift : FnScope ["one", "other", "n", "many", "less", "more"] ["one", "other", "n"] (defScope sShift) := ⟨rfl, rfl, rfl, by decide +kernel, rfl, by decide +kernel, by decide +kernel⟩
def spShift (C : Addr) : Sp := fun vs H Q _ => ∃ (p q X : Addr) (n : Int) (s m s' m' : List Int) (N k : Nat), vs = [.ref p, .ref q, .int n] ∧ p ≠ q ∧ (∃ o, H X = some o) ∧ UnkX C X H p s m ∧ UnkX C X H q s' m' ∧ s.length = N ∧ m.length = N ∧ s'.length = N ∧ m'.length = N ∧ N ≤ 1000 ∧
  Sm k n ∧ SmL k m ∧ SmL k s' ∧ k ≤ 49000 ∧ ∀ H', (∀ c x, c ≠ p → c ≠ q → H c = some x → H' c = some x) → UnkX C X H' p (lessL n s s') m → UnkX C X H' q s' (moreL n m' m) → Q .non H'
theorem ok_shift {C f : Addr} {fd : FuncData} (F : Fun K "_shift" "_shift" sShift f fd) (c : ClU K C) (mz : mg "zip" = none) : FnOk P w K mg base CX0 1 f fd ["one", "other", "n"] (spShift C) := by
  refine F.ok scShift (fun vs H Q E h => ?_) (fun cdv A outer s H vs Q E hr h => ?_)
  · obtain ⟨p, q, X, n, s, m, s', m', N, k, rfl, _⟩ := h
    rfl
  · obtain ⟨p, q, X, n, s, m, s', m', N, k, rfl, pq, ⟨oX, hX⟩, hp, hq, l1, l2, l3, l4, lN, bn, bm, bs, hk, qq⟩ := h
    have nd := scShift.nd
    refine ⟨_, pss_cons (ps_fld (pv 0) (pe_lc (own := [("many", 3), ("less", 4)]) (g := gTup K 2 (gCons (gName 3) (gCons (gName 4) gNil))) (tt := tYes) rfl nd (pi_zip (by rfl) mz (pa_cons (pe_fld (pv 0) rfl) (pa_cons (pe_fld (pv 1) rfl) pa_nil)))
          (blkOk_by (N := ["one", "other", "n", "many", "less", "more"]) (sc := defScope sShift) (by decide +kernel)) (fun _ _ _ _ _ => by exact pg_tup rfl (pgs_cons (pg_name (i := 3) nd rfl (Or.inl rfl)) (pgs_cons (pg_name (i := 4) nd rfl (Or.inl rfl)) pgs_nil))) (fun _ _ _ _ _ => pts_nil)
          (fun _ _ _ _ _ => pe_op op_sub (pv 3) (pe_op op_mulW (pv 2) (pv 4)))) rfl)
      (pss_one (ps_fld (pv 1) (pe_lc (own := [("many", 3), ("more", 5)]) (g := gTup K 2 (gCons (gName 3) (gCons (gName 5) gNil))) (tt := tYes) rfl nd (pi_zip (by rfl) mz (pa_cons (pe_fld (pv 1) rfl) (pa_cons (pe_fld (pv 0) rfl) pa_nil)))
          (blkOk_by (N := ["one", "other", "n", "many", "less", "more"]) (sc := defScope sShift) (by decide +kernel)) (fun _ _ _ _ _ => by exact pg_tup rfl (pgs_cons (pg_name (i := 3) nd rfl (Or.inl rfl)) (pgs_cons (pg_name (i := 5) nd rfl (Or.inl rfl)) pgs_nil))) (fun _ _ _ _ _ => pts_nil)
          (fun _ _ _ _ _ => pe_op op_add (pv 3) (pe_op op_mulW (pv 2) (pv 5)))) rfl)), ?_⟩
    obtain ⟨dx, sa, ma, h1, h2, h3, x1, x2⟩ := hp
    obtain ⟨dx', sb, mb, g1, g2, g3, x3, x4⟩ := hq
    have kS : sizeLine = 16777216 := sizeLine_eq
    refine ⟨_, rfl, p, C, dx, _, _, rfl, h1, c.cl, c.nS, fldsU_s _ _, _, rfl, q, C, dx', _, _, rfl, g1, c.cl, c.nS, fldsU_s _ _, ?_⟩
    refine ⟨sa, sb, _, _, rfl, SqL.of h2, SqL.of g2, fun D nD => ?_⟩
    have ll : (lessL n s s').length = N := by unfold lessL; rw [List.length_zipWith, l1, l3, Nat.min_self]
    have lm : (moreL n m' m).length = N := by unfold moreL; rw [List.length_zipWith, l4, l2, Nat.min_self]
    refine lc_it (walk_zip (n := N) (by rw [List.length_map, List.length_map, l1, l3, Nat.min_self])) (fun i H' => Same H H' ∧ H' D = some (.lst (((lessL n s s').take i).map V.int))) ⟨same_new nD, upd_same⟩ (fun i H' _ z => ⟨SqL.of (z.1 _ _ h2), SqL.of (z.1 _ _ g2)⟩) ?_ ?_
    · rintro i x H2 H3 hi ⟨sm, hD⟩ ⟨T, u, v, rfl, hT, rfl, hu, hv⟩
      obtain ⟨a, ha, rfl⟩ := ints_get hu
      obtain ⟨b, hb, rfl⟩ := ints_get hv
      have sT := same_new (o := .tup [V.int a, V.int b]) hT
      refine ⟨T, _, rfl, SqT.of upd_same, rfl, _, _, rfl, _, _, rfl, rfl, rfl, ?_⟩
      refine ⟨_, rfl, _, rfl, _, rfl, _, _, rfl, rfl, bn.mulW (bs.at_ hb) (by omega), _, _, rfl, rfl, ?_⟩
      refine ⟨_, sT _ _ hD, ?_, same_upd (sm.trans sT) nD, ?_⟩
      · rw [List.length_map, List.length_take]
        omega
      · rw [upd_same, mapInt_snoc]
        unfold lessL
        rw [zip_more (fun a b => a - n * b) ha hb]
    rintro H2 ⟨s2, hD⟩
    rw [← ll, List.take_length] at hD
    have pD : p ≠ D := ne_of_none h1 nD
    have DX : D ≠ X := fun e => by rw [e, hX] at nD; cases nD
    have qD : q ≠ D := ne_of_none g1 nD
    have aD : sa ≠ D := ne_of_none h2 nD
    refine ⟨_, rfl, p, C, dx, _, rfl, s2 _ _ h1, c.cl, c.nS, (by show 2 < 1000; decide), ?_⟩
    rw [putU_s]
    have keep2 : ∀ {c x}, c ≠ p → H c = some x → upd H2 p (.ins C dx (fldsU D ma)) c = some x := fun hc e => by
      rw [upd_ne hc]
      exact s2 _ _ e
    have np : ∀ {c : Addr} {xs : List V}, H c = some (.lst xs) → c ≠ p := fun e z => by rw [z, h1] at e; cases e
    have nq : ∀ {c : Addr} {xs : List V}, H c = some (.lst xs) → c ≠ q := fun e z => by rw [z, g1] at e; cases e
    have Dp : D ≠ p := pD.symm
    have hD3 : upd H2 p (.ins C dx (fldsU D ma)) D = some (.lst ((lessL n s s').map V.int)) := by rw [upd_ne Dp]; exact hD
    have hp3 : upd H2 p (.ins C dx (fldsU D ma)) p = some (.ins C dx (fldsU D ma)) := upd_same
    generalize upd H2 p (.ins C dx (fldsU D ma)) = H3 at keep2 hD3 hp3 ⊢
    refine ⟨_, rfl, q, C, dx', _, _, rfl, keep2 pq.symm g1, c.cl, c.nM, fldsU_m _ _, _, rfl, p, C, dx, _, _, rfl, hp3, c.cl, c.nM, fldsU_m _ _, ?_⟩
    have hm3 := keep2 (np h3) h3
    have hb3 := keep2 (np g3) g3
    refine ⟨mb, ma, _, _, rfl, SqL.of hb3, SqL.of hm3, fun D2 nD2 => ?_⟩
    refine lc_it (walk_zip (n := N) (by rw [List.length_map, List.length_map, l4, l2, Nat.min_self])) (fun i H' => Same H3 H' ∧ H' D2 = some (.lst (((moreL n m' m).take i).map V.int))) ⟨same_new nD2, upd_same⟩ (fun i H' _ z => ⟨SqL.of (z.1 _ _ hb3), SqL.of (z.1 _ _ hm3)⟩) ?_ ?_
    · rintro i x H4 H5 hi ⟨sm, hD⟩ ⟨T, u, v, rfl, hT, rfl, hu, hv⟩
      obtain ⟨a, ha, rfl⟩ := ints_get hu
      obtain ⟨b, hb, rfl⟩ := ints_get hv
      have sT := same_new (o := .tup [V.int a, V.int b]) hT
      refine ⟨T, _, rfl, SqT.of upd_same, rfl, _, _, rfl, _, _, rfl, rfl, rfl, ?_⟩
      refine ⟨_, rfl, _, rfl, _, rfl, _, _, rfl, rfl, bn.mulW (bm.at_ hb) (by omega), _, _, rfl, rfl, ?_⟩
      refine ⟨_, sT _ _ hD, ?_, same_upd (sm.trans sT) nD2, ?_⟩
      · rw [List.length_map, List.length_take]
        omega
      · rw [upd_same, mapInt_snoc]
        unfold moreL
        rw [zip_more (fun a b => a + n * b) ha hb]
    rintro H4 ⟨s4, hD2⟩
    rw [← lm, List.take_length] at hD2
    have hq3 := keep2 pq.symm g1
    have D2X : D2 ≠ X := fun e => by
      by_cases z : X = p
      · rw [e, z, hp3] at nD2
        cases nD2
      · have := keep2 z hX
        rw [e, this] at nD2
        cases nD2
    have qD2 : q ≠ D2 := ne_of_none hq3 nD2
    refine ⟨_, rfl, q, C, dx', _, rfl, s4 _ _ hq3, c.cl, c.nM, (by show 2 < 1000; decide), ?_⟩
    rw [putU_m]
    have nq3 : ∀ {c : Addr} {xs : List V}, H3 c = some (.lst xs) → c ≠ q := fun e z => by rw [z, hq3] at e; cases e
    refine qq _ (fun c x hcp hcq e => ?_) ⟨dx, D, ma, ?_, ?_, ?_, DX, x2⟩ ⟨dx', sb, D2, upd_same, ?_, ?_, x3, D2X⟩
    · rw [upd_ne hcq]
      exact s4 _ _ (keep2 hcp e)
    · rw [upd_ne pq]
      exact s4 _ _ hp3
    · rw [upd_ne (nq3 hD3)]
      exact s4 _ _ hD3
    · rw [upd_ne (nq3 hm3)]
      exact s4 _ _ hm3
    · rw [upd_ne (nq g2)]
      exact s4 _ _ (keep2 (np g2) g2)
    · rw [upd_ne qD2.symm]
      exact hD2
end
end MK


set_option Elab.async false
set_option linter.all false
set_option maxRecDepth 100000
set_option maxHeartbeats 4000000
namespace MK
open PySem PySem.Spec PyProof.Rows L2
/-- a measure and to which power, in a tuple -/
def PtN (H : Hp) (t : Addr) (q : Ms × Int) : Prop := ∃ b, H t = some (.tup [.ref b, .int q.2]) ∧ MsN H b q.1
theorem PtN.same {H H' : Hp} {t : Addr} {q : Ms × Int} (s : Same H H') (h : PtN H t q) : PtN H' t q := by
  obtain ⟨b, e, m⟩ := h
  exact ⟨b, s _ _ e, m.same s⟩
theorem SqT.ofz {K : PySem.W.Frag} {H : Hp} {a : Addr} {o : Obj} {xs : List V} (h : H a = some (.frz o (.tup xs))) : SqT K H a xs := .inl (.inr ⟨o, h⟩)
section
variable {P : Program} {w : World} {K : PySem.W.Frag} {mg : Str → Option Value} {base : Heap}
/-! ### gathered -/
def spGath : Sp := fun vs H Q _ => ∃ (a : Addr) (ts : List Addr) (ps : List (Ms × Int)), vs = [.ref a] ∧ H a = some (.lst (ts.map V.ref)) ∧ Paired (PtN H) ts ps ∧ (flat ps).length ≤ 10000 ∧
  (∀ q ∈ ps, Sm 49000 q.2 ∧ ∀ p ∈ q.1, Sm 49000 p.2) ∧
  ∀ (H' : Hp) (p : Addr) (r : Ms), Same H H' → H p = none → MsN H' p r → Can r → (∀ j, at0 r j = sumAt (flat ps) j) → Q (.ref p) H'
theorem scGath : FnScope ["parts", "powers", "measure", "n", "letter", "many"] ["parts"] (defScope sGath) := ⟨rfl, rfl, rfl, by decide +kernel, rfl, by decide +kernel, by decide +kernel⟩
theorem ok_gath {f : Addr} {fd : FuncData} (F : Fun K "gathered" "gathered" sGath f fd) (mt : mg "tuple" = none) (ms : mg "sorted" = none) : FnOk P w K mg base CX0 1 f fd ["parts"] spGath := by
  refine F.ok scGath (fun vs H Q E h => ?_) (fun cdv A outer s H vs Q E hr h => ?_)
  · obtain ⟨a, ts, ps, rfl, _⟩ := h
    rfl
  · obtain ⟨a, ts, ps, rfl, ha, hps, hfl, hb, q⟩ := h
    have nd := scGath.nd
    have hu := hu_of hr
    refine ⟨_, pss_cons (ps_set (i := 1) nd rfl (.inl rfl) pe_dnewK)
      (pss_cons (ps_for PassesOwn.never rfl (pi_list (pv 0)) (pg_tup rfl (pgs_cons (pg_name (i := 2) nd rfl (.inl rfl)) (pgs_cons (pg_name (i := 3) nd rfl (.inl rfl)) pgs_nil)))
        (pss_one (ps_for PassesOwn.never rfl (pi_tup (pv 2)) (pg_tup rfl (pgs_cons (pg_name (i := 4) nd rfl (.inl rfl)) (pgs_cons (pg_name (i := 5) nd rfl (.inl rfl)) pgs_nil)))
          (pss_one (ps_dput hu (pv 1) (pv 4) (pe_op op_add (pe_dget2 hu (pv 1) (pv 4) pe_int ⟨rfl, rfl, rfl, rfl⟩) (pe_op op_mulW (pv 5) (pv 3))) rfl)))))
      (pss_one (ps_ret (pe_callTy call_tupleN rfl mt boot_tuple (pa_cons (pe_callB cr_sortedSP rfl ms boot_sorted (pa_cons (pe_lock
        (pe_lc (own := [("letter", 4), ("many", 5)]) (g := gTup K 2 (gCons (gName 4) (gCons (gName 5) gNil))) rfl nd (pi_items (pv 1)) (blkOk_by (N := ["parts", "powers", "measure", "n", "letter", "many"]) (sc := defScope sGath) (by decide +kernel))
          (fun _ _ _ _ _ => by exact pg_tup rfl (pgs_cons (pg_name (i := 4) nd rfl (Or.inl rfl)) (pgs_cons (pg_name (i := 5) nd rfl (Or.inl rfl)) pgs_nil)))
          (fun _ _ _ _ _ => pts_one (pt_cmpR op_ne (pv 5) pe_int (nomark _)))
          (fun _ _ _ _ _ => pe_tup (pa_cons (pv 4) (pa_cons (pv 5) pa_nil))))) pa_nil)) pa_nil))))), ?_⟩
    intro d nd0
    have s0 : Same H (upd H d (.dK [])) := same_new nd0
    (repeat (first | refine ⟨_, rfl, ?_⟩ | refine ⟨_, _, rfl, rfl, ?_⟩ | refine ⟨(by show (0 : Int) < _; decide), ?_⟩ | refine ⟨⟨by decide, by decide⟩, ?_⟩ | refine ⟨.inr (by decide), ?_⟩ | refine ⟨.inl (by decide), ?_⟩ | refine ⟨rfl, ?_⟩))
    refine ⟨⟨_, SqL.of (s0 _ _ ha)⟩, for_list (xs := ts.map V.ref) (fun i σ H2 => ∃ (v2 v3 v4 v5 : Option V) (m : Ms), σ = [some (.ref a), some (.ref d), v2, v3, v4, v5] ∧ Same H H2 ∧ H2 d = some (.dK (enc m)) ∧ (m.map (·.1)).Nodup ∧ m.length ≤ (flat (ps.take i)).length ∧ ∀ j, at0 m j = sumAt (flat (ps.take i)) j)
      ⟨none, none, none, none, [], rfl, s0, upd_same, List.nodup_nil, Nat.zero_le _, fun j => rfl⟩ (fun i σ H2 _ z => ?_) ?_ ?_⟩
    · obtain ⟨_, _, _, _, _, _, z, _⟩ := z
      exact SqL.of (z _ _ ha)
    · rintro i x σ H2 hx ⟨v2, v3, v4, v5, m, rfl, sm, hd, hn, hml, hat⟩
      obtain ⟨t, ht, rfl⟩ := at_map hx
      obtain ⟨qq, hq, b, htup, hms⟩ := paired_ix hps ht
      obtain ⟨mm, n⟩ := qq
      obtain ⟨us, ⟨ob, hus, _⟩, pr⟩ := id hms
      have htk : ps.take (i + 1) = ps.take i ++ [(mm, n)] := take_more hq
      obtain ⟨hbn, hbp⟩ := hb _ (List.mem_of_getElem? hq)
      have hlu : us.length = mm.length := pr.length
      refine ⟨t, _, rfl, SqT.of (sm _ _ htup), rfl, _, _, rfl, _, _, rfl, rfl, ?_⟩
      (repeat (first | refine ⟨_, rfl, ?_⟩ | refine ⟨_, _, rfl, rfl, ?_⟩ | refine ⟨(by show (0 : Int) < _; decide), ?_⟩ | refine ⟨⟨by decide, by decide⟩, ?_⟩ | refine ⟨.inr (by decide), ?_⟩ | refine ⟨.inl (by decide), ?_⟩ | refine ⟨rfl, ?_⟩))
      have hfl2 : (flat (ps.take i)).length + mm.length ≤ 10000 := by
        have e1 := flat_take_le ps (i + 1)
        rw [htk, flat_snoc, List.length_append] at e1
        have e2 : (scaled mm n).length = mm.length := scaled_len _ _
        have e3 : (flat (ps.take i)).length + (scaled mm n).length ≤ (flat ps).length := e1
        omega
      refine ⟨⟨_, SqT.ofz (sm _ _ hus)⟩, for_tup (xs := us.map V.ref) (fun k σ H3 => ∃ (v4 v5 : Option V) (m : Ms), σ = [some (.ref a), some (.ref d), some (.ref b), some (.int n), v4, v5] ∧ Same H H3 ∧ H3 d = some (.dK (enc m)) ∧ (m.map (·.1)).Nodup ∧ m.length ≤ (flat (ps.take i)).length + k ∧ ∀ j, at0 m j = sumAt (flat (ps.take i) ++ scaled (mm.take k) n) j)
        ⟨_, _, m, rfl, sm, hd, hn, hml, fun j => by rw [hat, sumAt_append]; show _ = _ + 0; omega⟩ (fun k σ H3 _ z => ?_) ?_ ?_⟩
      · obtain ⟨_, _, _, _, z, _⟩ := z
        exact SqT.ofz (z _ _ hus)
      · rintro k x σ H3 hx ⟨v4, v5, m, rfl, sm, hd, hn, hml, hat⟩
        obtain ⟨u, hu1, rfl⟩ := at_map hx
        obtain ⟨p, hp, hup⟩ := paired_ix pr hu1
        have hk : k < us.length := (List.getElem?_eq_some_iff.mp hu1).1
        refine ⟨u, _, rfl, SqT.of (sm _ _ hup), rfl, _, _, rfl, _, _, rfl, rfl, ?_⟩
        (repeat (first | refine ⟨_, rfl, ?_⟩ | refine ⟨_, _, rfl, rfl, ?_⟩ | refine ⟨(by show (0 : Int) < _; decide), ?_⟩ | refine ⟨⟨by decide, by decide⟩, ?_⟩ | refine ⟨.inr (by decide), ?_⟩ | refine ⟨.inl (by decide), ?_⟩ | refine ⟨rfl, ?_⟩))
        obtain ⟨o, ho, ho2⟩ := dget_enc2 p.1 hd
        refine ⟨.inl ⟨_, .inl hd⟩, _, rfl, o, ho, ?_⟩
        rw [ho2]
        (repeat (first | refine ⟨_, rfl, ?_⟩ | refine ⟨_, _, rfl, rfl, ?_⟩ | refine ⟨(by show (0 : Int) < _; decide), ?_⟩ | refine ⟨⟨by decide, by decide⟩, ?_⟩ | refine ⟨.inr (by decide), ?_⟩ | refine ⟨.inl (by decide), ?_⟩ | refine ⟨rfl, ?_⟩))
        refine ⟨(hbp _ (List.mem_of_getElem? hp)).mulW hbn (by decide), ?_⟩
        (repeat (first | refine ⟨_, rfl, ?_⟩ | refine ⟨_, _, rfl, rfl, ?_⟩ | refine ⟨(by show (0 : Int) < _; decide), ?_⟩ | refine ⟨⟨by decide, by decide⟩, ?_⟩ | refine ⟨.inr (by decide), ?_⟩ | refine ⟨.inl (by decide), ?_⟩ | refine ⟨rfl, ?_⟩))
        refine ⟨d, _, rfl, dput_enc hd hn (small1000' (by omega)), ?_⟩
        refine ⟨_, _, put m p.1 (at0 m p.1 + p.2 * n), rfl, same_upd sm nd0, upd_same, put_nodup _ _ hn, Nat.le_trans (put_len _ _ _) (by omega), fun j => ?_⟩
        rw [at0_put, scaled_more hp, ← List.append_assoc, sumAt_append, ← hat, sumAt_one]
        by_cases e : j = p.1
        · rw [if_pos e, if_pos e.symm, e]
        · rw [if_neg e, if_neg (fun z => e z.symm)]
          omega
      · rintro σ H3 ⟨v4, v5, m, rfl, sm, hd, hn, hml, hat⟩
        rw [List.length_map, hlu, List.take_length] at hat
        refine ⟨_, _, _, _, m, rfl, sm, hd, hn, ?_, fun j => by rw [htk, flat_snoc]; exact hat j⟩
        rw [List.length_map, hlu] at hml
        rw [htk, flat_snoc, List.length_append, scaled_len]
        exact hml
    · rintro σ H2 ⟨v2, v3, v4, v5, m, rfl, sm, hd, hn, hml, hat⟩
      have hlen := hps.length
      rw [List.length_map, hlen, List.take_length] at hml hat
      -- the pairs that are not nought, sorted
      refine ⟨d, _, hd, trivial, fun od => ?_⟩
      have sl : Same H (upd H2 d (.frz od (.dK (enc m)))) := same_upd sm nd0
      refine ⟨_, rfl, d, od, enc m, rfl, upd_same, fun D nD => ?_⟩
      have nDd : D ≠ d := fun e => by
        rw [e, upd_same] at nD
        cases nD
      have nDH : H D = none := sl.free nD
      have henc : (enc m).length = m.length := encG_len _ _
      refine lc_items (fun i H3 => Same H H3 ∧ H3 d = some (.frz od (.dK (enc m))) ∧ ∃ us : List Addr, H3 D = some (.lst (us.map V.ref)) ∧ Paired (PrAt H3) us (nz (m.take i)) ∧ us.length ≤ i)
        ⟨sl.trans (same_new nD), upd_other upd_same nD, [], upd_same, .nil, Nat.le_refl _⟩ (fun i H3 _ z => z.2.1) ?_ ?_
      · rintro i k v T H3 hk ⟨s3, hd3, us, hD, pr, hus⟩ nT
        obtain ⟨l, n, hm, rfl, rfl⟩ := enc_at hk
        have hi : i < m.length := (List.getElem?_eq_some_iff.mp hm).1
        have sT := s3.trans (same_new (o := .tup [kV (Sum.inr l), V.int n]) nT)
        refine ⟨T, _, rfl, SqT.of upd_same, rfl, _, _, rfl, _, _, rfl, rfl, rfl, ?_⟩
        (repeat (first | refine ⟨_, rfl, ?_⟩ | refine ⟨_, _, rfl, rfl, ?_⟩ | refine ⟨(by show (0 : Int) < _; decide), ?_⟩ | refine ⟨⟨by decide, by decide⟩, ?_⟩ | refine ⟨.inr (by decide), ?_⟩ | refine ⟨.inl (by decide), ?_⟩ | refine ⟨rfl, ?_⟩))
        refine ite2 (fun e => ?_) (fun e => ?_)
        · have e1 : n ≠ 0 := by simpa using e
          (repeat (first | refine ⟨_, rfl, ?_⟩ | refine ⟨_, _, rfl, rfl, ?_⟩ | refine ⟨(by show (0 : Int) < _; decide), ?_⟩ | refine ⟨⟨by decide, by decide⟩, ?_⟩ | refine ⟨.inr (by decide), ?_⟩ | refine ⟨.inl (by decide), ?_⟩ | refine ⟨rfl, ?_⟩))
          refine ⟨(by show 2 ≤ sizeLine; decide), fun t nt => ?_⟩
          refine ⟨_, upd_other (upd_other hD nT) nt, ?_, same_upd (sT.trans (same_new nt)) nDH, ?_, us ++ [t], ?_, ?_, ?_⟩
          · rw [List.length_map]
            exact small1000' (by omega)
          · rw [upd_ne nDd.symm]
            exact upd_other (upd_other hd3 nT) nt
          · rw [upd_same, List.map_append]
            rfl
          · rw [nz_yes hm e1]
            exact pr_list (upd_other (upd_other hD nT) nt) (Paired.snoc (pr_same (same_new nt) (pr_same (same_new nT) pr)) upd_same)
          · rw [List.length_append]
            exact Nat.add_le_add_right hus 1
        · have e1 : n = 0 := by simpa using e
          refine ⟨sT, upd_other hd3 nT, us, upd_other hD nT, ?_, by omega⟩
          rw [nz_no hm e1]
          exact pr_same (same_new nT) pr
      · rintro H3 ⟨s3, hd3, us, hD, pr, hus⟩
        rw [henc, List.take_length] at pr
        refine ⟨hd3, ?_⟩
        have s4 : Same H (upd H3 d (.dK (enc m))) := same_upd s3 nd0
        have hD4 : (upd H3 d (.dK (enc m))) D = some (.lst (us.map V.ref)) := by
          rw [upd_ne nDd]
          exact hD
        have pr4 : Paired (PrAt (upd H3 d (.dK (enc m)))) us (nz m) := Paired.mono (fun t q z => by
          show upd H3 d _ t = _
          rw [upd_ne (ne_of z hd3 (fun e => nomatch e))]
          exact z) pr
        generalize upd H3 d (.dK (enc m)) = H4 at s4 hD4 pr4
        refine ⟨D, us.map V.ref, kH H4, rfl, SqL.of hD4, kH_all pr4, fun ys p hp hs np => ?_⟩
        have hnz : ((nz m).map (·.1)).Nodup := by
          unfold nz
          exact List.Nodup.sublist (List.Sublist.map _ List.filter_sublist) hn
        obtain ⟨vs, rfl, pv1, hperm, hris⟩ := sorted_pairs hnz pr4 (kH H4) (fun t q z => kH_of z) hp hs
        obtain ⟨f1, f2⟩ := made_prog hn hris fun x => by
          rw [hperm.mem_iff]
          unfold nz
          rw [List.mem_filter, decide_eq_true_eq]
        refine ⟨p, vs.map V.ref, rfl, SqL.of upd_same, fun l o nl dn => ?_⟩
        have s5 : Same H4 (upd (upd H4 p (.lst (vs.map V.ref))) l (.frz o (.tup (vs.map V.ref)))) := (same_new np).trans (same_new nl)
        exact q _ l _ (s4.trans s5) ((s4.trans (same_new np)).free nl) ⟨vs, ⟨o, upd_same, dn⟩, pr_same s5 pv1⟩ f1 fun j => by rw [f2, hat]
end
end MK


set_option Elab.async false
set_option linter.all false
set_option maxRecDepth 100000
set_option maxHeartbeats 4000000
namespace MK
open PySem PySem.Spec PyProof.Rows L2
section
variable {P : Program} {w : World} {K : PySem.W.Frag} {mg : Str → Option Value} {base : Heap}
/-! ### _summed -/
theorem scSummed : FnScope ["row", "stands", "many", "n"] ["row", "stands"] (defScope sSummed) := ⟨rfl, rfl, rfl, by decide +kernel, rfl, by decide +kernel, by decide +kernel⟩
def spSummed : Sp := fun vs H Q _ => ∃ (a b : Addr) (r s : List Int) (N k : Nat), vs = [.ref a, .ref b] ∧ H a = some (.lst (r.map V.int)) ∧ H b = some (.lst (s.map V.int)) ∧ r.length = N ∧ s.length = N ∧ N ≤ 1000 ∧ SmL k r ∧ SmL k s ∧ k ≤ 49000 ∧ ∀ H', Same H H' → Q (.int (dotL r s)) H'
theorem ok_summed {f : Addr} {fd : FuncData} (F : Fun K "_summed" "_summed" sSummed f fd) (mu : mg "sum" = none) (mz : mg "zip" = none) : FnOk P w K mg base CX0 1 f fd ["row", "stands"] spSummed := by
  refine F.ok scSummed (fun vs H Q E h => ?_) (fun cdv A outer s H vs Q E hr h => ?_)
  · obtain ⟨a, b, r, s, N, k, rfl, _⟩ := h
    rfl
  · obtain ⟨a, b, r, s, N, k, rfl, h1, h2, l1, l2, lN, b1, b2, hk, q⟩ := h
    have nd := scSummed.nd
    have kS : sizeLine = 16777216 := sizeLine_eq
    refine ⟨_, pss_one (ps_ret (pe_callB (cr_sum rfl) (by rfl) mu PyProof.Rows.boot_sum (pa_cons (pe_lc (own := [("many", 2), ("n", 3)]) (g := gTup K 2 (gCons (gName 2) (gCons (gName 3) gNil))) rfl nd (pi_zip (by rfl) mz (pa_cons (pv 0) (pa_cons (pv 1) pa_nil)))
          (blkOk_by (N := ["row", "stands", "many", "n"]) (sc := defScope sSummed) (by decide +kernel)) (fun _ _ _ _ _ => by exact pg_tup rfl (pgs_cons (pg_name (i := 2) nd rfl (Or.inl rfl)) (pgs_cons (pg_name (i := 3) nd rfl (Or.inl rfl)) pgs_nil))) (fun _ _ _ _ _ => pts_one (pt_cmpR op_ne (pv 2) pe_int (nomark _)))
          (fun _ _ _ _ _ => pe_op op_mulW (pv 2) (pv 3))) pa_nil))), ?_⟩
    refine ⟨_, rfl, _, rfl, a, b, _, _, rfl, SqL.of h1, SqL.of h2, fun D nD => ?_⟩
    refine lc_it (walk_zip (n := N) (by rw [List.length_map, List.length_map, l1, l2, Nat.min_self])) (fun i H' => Same H H' ∧ ∃ cs : List Int, H' D = some (.lst (cs.map V.int)) ∧ cs.length ≤ i ∧ cs.sum = ((List.zipWith (fun a b => a * b) r s).take i).sum) ⟨same_new nD, [], upd_same, Nat.le_refl _, rfl⟩ (fun i H' _ z => ⟨SqL.of (z.1 _ _ h1), SqL.of (z.1 _ _ h2)⟩) ?_ ?_
    · rintro i x H2 H3 hi ⟨sm, cs, hD, cl, ce⟩ ⟨T, u, v, rfl, hT, rfl, hu, hv⟩
      obtain ⟨x, hx, rfl⟩ := ints_get hu
      obtain ⟨y, hy, rfl⟩ := ints_get hv
      have sT := same_new (o := .tup [V.int x, V.int y]) hT
      have e3 := zip_more (fun a b => a * b) hx hy
      refine ⟨T, _, rfl, SqT.of upd_same, rfl, _, _, rfl, _, _, rfl, rfl, rfl, ?_⟩
      refine ⟨_, rfl, rfl, _, rfl, ?_⟩
      by_cases x0 : x = 0
      · rw [show decide (V.int x = V.int 0) = true from decide_eq_true (by rw [x0])]
        refine ⟨sm.trans sT, cs, sT _ _ hD, by omega, ?_⟩
        rw [e3, List.sum_append, ce, x0]
        show _ = _ + (0 * y + 0)
        omega
      · rw [show decide (V.int x = V.int 0) = false from decide_eq_false fun e => x0 (V.int.inj e)]
        refine ⟨_, rfl, _, rfl, _, _, rfl, rfl, (b1.at_ hx).mulW (b2.at_ hy) (by omega), ?_⟩
        refine ⟨_, sT _ _ hD, ?_, same_upd (sm.trans sT) nD, cs ++ [x * y], ?_, ?_, ?_⟩
        · rw [List.length_map]
          omega
        · rw [upd_same, mapInt_snoc]
        · rw [List.length_append]
          exact Nat.add_le_add_right cl 1
        · rw [e3, List.sum_append, List.sum_append, ce]
    · rintro H2 ⟨sm, cs, hD, cl, ce⟩
      refine ⟨D, cs, rfl, SqL.of hD, ?_⟩
      have e4 : cs.sum = dotL r s := by
        rw [ce, List.take_of_length_le]
        · rfl
        · rw [List.length_zipWith, l1, l2, Nat.min_self]
          exact Nat.le_refl _
      rw [e4]
      exact q _ sm
/-! ### _powers_of -/
theorem scPowers : FnScope ["measure", "letters", "powers", "letter", "many"] ["measure", "letters"] (defScope sPowers) := ⟨rfl, rfl, rfl, by decide +kernel, rfl, by decide +kernel, by decide +kernel⟩
def powersOf (m : Ms) (ls : List Str) : List Int := ls.map (at0 m)
def spPowers : Sp := fun vs H Q _ => ∃ (b a : Addr) (m : Ms) (ls : List Str), vs = [.ref b, .ref a] ∧ MsN H b m ∧ (m.map (·.1)).Nodup ∧ m.length ≤ 1000 ∧ H a = some (.lst (ls.map V.str)) ∧ ls.length ≤ 1000 ∧ ∀ H' p, Same H H' → H p = none → H' p = some (.lst ((powersOf m ls).map V.int)) → Q (.ref p) H'
theorem ok_powers {f : Addr} {fd : FuncData} (F : Fun K "_powers_of" "_powers_of" sPowers f fd) : FnOk P w K mg base CX0 1 f fd ["measure", "letters"] spPowers := by
  refine F.ok scPowers (fun vs H Q E h => ?_) (fun cdv A outer s H vs Q E hr h => ?_)
  · obtain ⟨b, a, m, ls, rfl, _⟩ := h
    rfl
  · obtain ⟨b, a, m, ls, rfl, hb, nk, ml, ha, ll, q⟩ := h
    have nd := scPowers.nd
    have hu := hu_of hr
    have kS : sizeLine = 16777216 := sizeLine_eq
    refine ⟨_, pss_cons (ps_set (i := 2) nd rfl (.inr rfl) (pe_dc (own := [("letter", 3), ("many", 4)]) (g := gTup K 2 (gCons (gName 3) (gCons (gName 4) gNil))) (tt := tYes) rfl nd (pi_tup (pv 0))
          (blkOk_by (N := ["measure", "letters", "powers", "letter", "many"]) (sc := defScope sPowers) (by decide +kernel)) (fun _ _ _ _ _ => by exact pg_tup rfl (pgs_cons (pg_name (i := 3) nd rfl (Or.inl rfl)) (pgs_cons (pg_name (i := 4) nd rfl (Or.inl rfl)) pgs_nil))) (fun _ _ _ _ _ => pts_nil)
          (fun _ _ _ _ _ => pv 3) (fun _ _ _ _ _ => pv 4)))
      (pss_one (ps_ret (pe_lc (own := [("letter", 3)]) (g := gName 3) (tt := tYes) rfl nd (pi_list (pv 1)) (blkOk_by (N := ["measure", "letters", "powers", "letter", "many"]) (sc := defScope sPowers) (by decide +kernel)) (fun _ _ _ _ _ => pg_name (i := 3) nd rfl (Or.inl rfl)) (fun _ _ _ _ _ => pts_nil)
          (fun _ _ _ _ _ => pe_dget2 hu (pv 2) (pv 3) pe_int ⟨rfl, rfl, rfl, rfl⟩)))), ?_⟩
    obtain ⟨ts, tn, pm⟩ := hb
    have tl := pm.length
    refine ⟨_, rfl, b, rfl, ⟨_, TupN.sq tn⟩, fun D nD => ?_⟩
    refine dc_tup (xs := ts.map V.ref) (fun i H2 => Same H H2 ∧ H2 D = some (.dK (enc (m.take i)))) ⟨same_new nD, upd_same⟩ (fun i H2 _ z => TupN.sq (by obtain ⟨o, e, d⟩ := tn; exact ⟨o, z.1 _ _ e, d⟩)) ?_ ?_
    · rintro i x H2 hx ⟨sm, hD⟩
      obtain ⟨t, ht, rfl⟩ := at_map hx
      obtain ⟨p, hp, htp⟩ := paired_ix pm ht
      have htp : H t = some (.tup [.str p.1, .int p.2]) := htp
      refine ⟨t, _, rfl, SqT.of (sm _ _ htp), rfl, _, _, rfl, _, _, rfl, rfl, rfl, ?_⟩
      have hi : i < m.length := (List.getElem?_eq_some_iff.mp hp).1
      have nz : p.1 ∉ (m.take i).map (·.1) := fun h => by
        have hn := nk
        rw [← List.take_append_drop i m, List.map_append] at hn
        refine (List.nodup_append.mp hn).2.2 p.1 h p.1 (List.mem_map.mpr ⟨p, List.mem_of_getElem? (i := 0) ?_, rfl⟩) rfl
        rw [List.getElem?_drop]
        exact hp
      have ep := encG_put V.int p.1 p.2 (m.take i) (List.Nodup.sublist (List.Sublist.map _ (List.take_sublist _ _)) nk)
      rw [put_new nz] at ep
      refine ⟨_, rfl, _, rfl, enc (m.take i), Sum.inr p.1, rfl, hD, ?_, same_upd sm nD, ?_⟩
      · rw [encG_len, List.length_take]
        omega
      · rw [upd_same, take_more hp]
        exact congrArg (fun z => some (HO.dK z)) ep
    rintro H2 ⟨s2, hD⟩
    rw [List.length_map, tl, List.take_length] at hD
    refine ⟨_, rfl, a, rfl, ⟨_, SqL.of (s2 _ _ ha)⟩, fun D2 nD2 => ?_⟩
    refine lc_list (xs := ls.map V.str) (fun i H3 => Same H2 H3 ∧ H3 D2 = some (.lst (((powersOf m ls).take i).map V.int))) ⟨same_new nD2, upd_same⟩ (fun i H3 _ z => SqL.of (z.1 _ _ (s2 _ _ ha))) ?_ ?_
    · rintro i x H3 hx ⟨sm, hD3⟩
      obtain ⟨z, hz, rfl⟩ := at_map hx
      have hi : i < ls.length := (List.getElem?_eq_some_iff.mp hz).1
      obtain ⟨o, ho, ho2⟩ := dget_enc2 z (sm _ _ hD)
      refine ⟨rfl, _, rfl, D, rfl, .inl ⟨_, .inl (sm _ _ hD)⟩, _, rfl, o, ho, ?_⟩
      rw [ho2]
      refine ⟨_, hD3, ?_, same_upd sm nD2, ?_⟩
      · rw [List.length_map, List.length_take]
        omega
      · have e : (powersOf m ls)[i]? = some (at0 m z) := by
          unfold powersOf
          rw [List.getElem?_map, hz]
          rfl
        rw [upd_same, mapInt_snoc, take_more e]
    · rintro H3 ⟨sm, hD3⟩
      rw [List.length_map] at hD3
      have e : (powersOf m ls).take ls.length = powersOf m ls := by
        rw [List.take_of_length_le]
        unfold powersOf
        rw [List.length_map]
        exact Nat.le_refl _
      rw [e] at hD3
      exact q _ D2 (s2.trans sm) (s2.free nD2) hD3
end
end MK


set_option Elab.async false
set_option linter.all false
set_option maxRecDepth 100000
set_option maxHeartbeats 4000000
namespace MK
open PySem PySem.Spec PyProof.Rows L2
/-! ### a measure of letters and powers -/
def unitP (z : Str × Int) : Ms × Int := ([(z.1, 1)], z.2)
theorem flat_unit : ∀ (l : List (Str × Int)) (j : Str), sumAt (flat (l.map unitP)) j = sumAt l j
  | [], j => rfl
  | z :: l, j => by
    have e : flat ((z :: l).map unitP) = scaled [(z.1, 1)] z.2 ++ flat (l.map unitP) := rfl
    rw [e, sumAt_append, flat_unit l j]
    show ((if z.1 = j then 1 * z.2 else 0) + 0) + sumAt l j = (if z.1 = j then z.2 else 0) + sumAt l j
    rw [Int.one_mul, Int.add_zero]
theorem flat_unit_len (l : List (Str × Int)) : (flat (l.map unitP)).length = l.length := by
  induction l with
  | nil => rfl
  | cons z l ih =>
    have e : flat ((z :: l).map unitP) = scaled [(z.1, 1)] z.2 ++ flat (l.map unitP) := rfl
    rw [e, List.length_append, ih, List.length_cons]
    show 1 + l.length = _
    omega
def unitL (pl : Nat) (n : Nat) : List Int := (List.range n).map fun i => if i = pl then 1 else 0
abbrev sInitU : Stmt := inClass sClsU 0
abbrev sInitS : Stmt := inClass sClsS 0
/-! ### a settled one as it stands -/
def fldsS (nb : Int) (s : Addr) (sh : Int) (b : Addr) : List (Str × V) := [("number", V.int nb), ("stands", V.ref s), ("share", V.int sh), ("measure", V.ref b)]
theorem kf1 : (("number" : Str) == ("stands" : Str)) = false ∧ (("stands" : Str) == ("number" : Str)) = false ∧ (("share" : Str) == ("number" : Str)) = false ∧ (("share" : Str) == ("stands" : Str)) = false ∧ (("measure" : Str) == ("number" : Str)) = false ∧ (("measure" : Str) == ("stands" : Str)) = false ∧ (("measure" : Str) == ("share" : Str)) = false := by decide +kernel
theorem fldsS_n (nb : Int) (s : Addr) (sh : Int) (b : Addr) : (fldsS nb s sh b).lookup ("number" : Str) = some (.int nb) := by rw [fldsS, List.lookup_cons_self]
theorem fldsS_s (nb : Int) (s : Addr) (sh : Int) (b : Addr) : (fldsS nb s sh b).lookup ("stands" : Str) = some (.ref s) := by
  rw [fldsS, List.lookup_cons, kf1.2.1]
  exact List.lookup_cons_self
theorem fldsS_h (nb : Int) (s : Addr) (sh : Int) (b : Addr) : (fldsS nb s sh b).lookup ("share" : Str) = some (.int sh) := by
  rw [fldsS, List.lookup_cons, kf1.2.2.1, List.lookup_cons, kf1.2.2.2.1]
  exact List.lookup_cons_self
theorem fldsS_m (nb : Int) (s : Addr) (sh : Int) (b : Addr) : (fldsS nb s sh b).lookup ("measure" : Str) = some (.ref b) := by
  rw [fldsS, List.lookup_cons, kf1.2.2.2.2.1, List.lookup_cons, kf1.2.2.2.2.2.1, List.lookup_cons, kf1.2.2.2.2.2.2]
  exact List.lookup_cons_self
/-- a settled one: its row's number, what stands, its share, its measure -/
structure Stl where
  nb : Int
  s : List Int
  sh : Int
  m : Ms
def SetAt (D : Addr) (H : Hp) (p : Addr) (x : Stl) : Prop := ∃ dx sa b, H p = some (.ins D dx (fldsS x.nb sa x.sh b)) ∧ H sa = some (.lst (x.s.map V.int)) ∧ MsN H b x.m
/-- what is asked of the class of settled ones -/
structure ClS (K : PySem.W.Frag) (D : Addr) : Prop where
  cl : Cls K D
  nN : NoAttr K D "number"
  nS : NoAttr K D "stands"
  nH : NoAttr K D "share"
  nM : NoAttr K D "measure"
section
variable {P : Program} {w : World} {K : PySem.W.Frag} {mg : Str → Option Value} {base : Heap}
/-! ### _measure -/
theorem scMeas : FnScope ["letters", "powers", "letter", "many"] ["letters", "powers"] (defScope sMeas) := ⟨rfl, rfl, rfl, by decide +kernel, rfl, by decide +kernel, by decide +kernel⟩
def spMeasL : Sp := fun vs H Q _ => ∃ (a b : Addr) (ls : List Str) (s : List Int) (N : Nat), vs = [.ref a, .ref b] ∧ H a = some (.lst (ls.map V.str)) ∧ H b = some (.lst (s.map V.int)) ∧ ls.length = N ∧ s.length = N ∧ N ≤ 1000 ∧ SmL 49000 s ∧
  ∀ (H' : Hp) (p : Addr) (r : Ms), Same H H' → H p = none → MsN H' p r → Can r → (∀ j, at0 r j = sumAt (ls.zip s) j) → Q (.ref p) H'
theorem ok_measL {f fG : Addr} {fd dG : FuncData} (F : Fun K "_measure" "_measure" sMeas f fd) (FG : Fun K "gathered" "gathered" sGath fG dG) (bG : Binds K dG ["parts"] []) (gG : mg "gathered" = some (.ref fG)) (mt : mg "tuple" = none) (ms : mg "sorted" = none) (mz : mg "zip" = none) : FnOk P w K mg base CX0 2 f fd ["letters", "powers"] spMeasL := by
  have GG : FnOk P w K mg base CX0 1 fG dG ["parts"] spGath := ok_gath FG mt ms
  refine F.ok scMeas (fun vs H Q E h => ?_) (fun cdv A outer s H vs Q E hr h => ?_)
  · obtain ⟨a, b, ls, s, N, rfl, _⟩ := h
    rfl
  · obtain ⟨a, b, ls, s, N, rfl, h1, h2, l1, l2, lN, bs, q⟩ := h
    have nd := scMeas.nd
    have kS : sizeLine = 16777216 := sizeLine_eq
    refine ⟨_, pss_one (ps_ret (pe_call GG hr (by rfl) gG FG.kp bG .nil pass0 (pa_cons (pe_lc (own := [("letter", 2), ("many", 3)]) (g := gTup K 2 (gCons (gName 2) (gCons (gName 3) gNil))) (tt := tYes) rfl nd (pi_zip (by rfl) mz (pa_cons (pv 0) (pa_cons (pv 1) pa_nil)))
          (blkOk_by (N := ["letters", "powers", "letter", "many"]) (sc := defScope sMeas) (by decide +kernel)) (fun _ _ _ _ _ => by exact pg_tup rfl (pgs_cons (pg_name (i := 2) nd rfl (Or.inl rfl)) (pgs_cons (pg_name (i := 3) nd rfl (Or.inl rfl)) pgs_nil))) (fun _ _ _ _ _ => pts_nil)
          (fun _ _ _ _ _ => pe_tup (pa_cons (pe_tupM (pa_cons (pe_tup (pa_cons (pv 2) (pa_cons pe_int pa_nil))) pa_nil)) (pa_cons (pv 3) pa_nil)))) pa_nil))), ?_⟩
    refine ⟨_, rfl, _, rfl, a, b, _, _, rfl, SqL.of h1, SqL.of h2, fun D nD => ?_⟩
    refine lc_it (walk_zip (n := N) (by rw [List.length_map, List.length_map, l1, l2, Nat.min_self])) (fun i H' => Same H H' ∧ ∃ ts : List Addr, H' D = some (.lst (ts.map V.ref)) ∧ Paired (PtN H') ts (((ls.zip s).map unitP).take i)) ⟨same_new nD, [], upd_same, .nil⟩ (fun i H' _ z => ⟨SqL.of (z.1 _ _ h1), SqL.of (z.1 _ _ h2)⟩) ?_ ?_
    · rintro i x H2 H3 hi ⟨sm, ts, hD, pr⟩ ⟨T, u, v, rfl, hT, rfl, hu, hv⟩
      obtain ⟨z, hz, rfl⟩ := at_map hu
      obtain ⟨y, hy, rfl⟩ := ints_get hv
      have sT := same_new (o := .tup [V.str z, V.int y]) hT
      refine ⟨T, _, rfl, SqT.of upd_same, rfl, _, _, rfl, _, _, rfl, rfl, rfl, ?_⟩
      refine ⟨_, rfl, (by show 2 ≤ sizeLine; decide), fun t1 n1 => ?_⟩
      refine ⟨(by show 1 ≤ sizeLine; decide), fun t2 o2 n2 d2 => ?_⟩
      refine ⟨_, rfl, (by show 2 ≤ sizeLine; decide), fun t3 n3 => ?_⟩
      have s1 := same_new (o := .tup [V.str z, V.int 1]) n1
      have s2 := same_new (o := .frz o2 (.tup [V.ref t1])) n2
      have s3 := same_new (o := .tup [V.ref t2, V.int y]) n3
      have s13 := sT.trans (s1.trans (s2.trans s3))
      have hD3 := s13 _ _ hD
      have tl := pr.length
      rw [List.length_take] at tl
      have hzy : ((ls.zip s).map unitP)[i]? = some (unitP (z, y)) := by
        have : (ls.zip s)[i]? = some (z, y) := by
          rw [List.getElem?_zip_eq_some]
          exact ⟨hz, hy⟩
        rw [List.getElem?_map, this]
        rfl
      refine ⟨_, hD3, ?_, same_upd (sm.trans s13) nD, ts ++ [t3], ?_, ?_⟩
      · rw [List.length_map]
        omega
      · rw [upd_same, List.map_append]
        rfl
      · have mv : ∀ {t q}, PtN (upd (upd (upd (upd H2 T (.tup [V.str z, V.int y])) t1 (.tup [V.str z, V.int 1])) t2 (.frz o2 (.tup [V.ref t1]))) t3 (.tup [V.ref t2, V.int y])) t q → PtN (upd (upd (upd (upd (upd H2 T (.tup [V.str z, V.int y])) t1 (.tup [V.str z, V.int 1])) t2 (.frz o2 (.tup [V.ref t1]))) t3 (.tup [V.ref t2, V.int y])) D (.lst (ts.map V.ref ++ [V.ref t3]))) t q := fun h => by
          obtain ⟨b, e, m⟩ := h
          exact ⟨b, fne hD3 e (fun z => nomatch z), m.lst hD3⟩
        rw [take_more hzy]
        refine Paired.snoc (Paired.mono (fun _ _ h => mv (h.same s13)) pr) (mv ⟨t2, upd_same, [t1], ⟨o2, ?_, d2⟩, .cons ?_ .nil⟩)
        · exact s3 _ _ upd_same
        · exact s3 _ _ (s2 _ _ upd_same)
    · rintro H2 ⟨sm, ts, hD, pr⟩
      have e : ((ls.zip s).map unitP).take N = (ls.zip s).map unitP := by
        rw [List.take_of_length_le]
        rw [List.length_map, List.length_zip, l1, l2, Nat.min_self]
        exact Nat.le_refl _
      rw [e] at pr
      refine ⟨D, ts, _, rfl, hD, pr, ?_, fun q hq => ?_, fun H' p r s2 np hp hc ha => q H' p r (sm.trans s2) (sm.free np) hp hc fun j => ?_⟩
      · rw [flat_unit_len, List.length_zip]
        omega
      · obtain ⟨z, hz, rfl⟩ := List.mem_map.mp hq
        refine ⟨bs _ (List.of_mem_zip (show (z.1, z.2) ∈ _ from hz)).2, fun p hp => ?_⟩
        rw [List.mem_singleton.mp hp]
        exact Sm.mono (a := 1) (by show (1 : Int).natAbs < 2 ^ 1; decide) (by decide)
      · rw [ha, flat_unit]
/-! ### Unknown(place, many) -/
theorem scInitU : FnScope ["self", "place", "many", "at"] ["self", "place", "many"] (defScope sInitU) := ⟨rfl, rfl, rfl, by decide +kernel, rfl, by decide +kernel, by decide +kernel⟩
def spInitU (C : Addr) : Sp := fun vs H Q _ => ∃ (p dx : Addr) (pl N : Nat), vs = [.ref p, .int pl, .int N] ∧ H p = some (.ins C dx []) ∧ N ≤ 1000 ∧ ∀ H', (∀ c x, c ≠ p → H c = some x → H' c = some x) → UnkAt C H' p (unitL pl N) (unitL pl N) → Q .non H'
theorem ok_initU {C f : Addr} {fd : FuncData} (F : Fun K "__init__" "Unknown.__init__" sInitU f fd) (c : ClU K C) (mr : mg "range" = none) (mL : mg "list" = none) : FnOk P w K mg base CX0 1 f fd ["self", "place", "many"] (spInitU C) := by
  refine F.ok scInitU (fun vs H Q E h => ?_) (fun cdv A outer s H vs Q E hr h => ?_)
  · obtain ⟨p, dx, pl, N, rfl, _⟩ := h
    rfl
  · obtain ⟨p, dx, pl, N, rfl, hp, lN, q⟩ := h
    have nd := scInitU.nd
    have kS : sizeLine = 16777216 := sizeLine_eq
    refine ⟨_, pss_cons (ps_fld (pv 0) (pe_lc (own := [("at", 3)]) (g := gName 3) (tt := tYes) rfl nd (pi_range1 (by rfl) mr (pa_cons (pv 2) pa_nil)) (blkOk_by (N := ["self", "place", "many", "at"]) (sc := defScope sInitU) (by decide +kernel)) (fun _ _ _ _ _ => pg_name (i := 3) nd rfl (Or.inl rfl)) (fun _ _ _ _ _ => pts_nil)
          (fun _ _ _ _ _ => pe_ifExp (pt_cmpR op_eq (pv 3) (pv 1) (nomark _)) pe_int pe_int)) rfl)
      (pss_one (ps_fld (pv 0) (pe_callTy call_list_of (by rfl) mL PyProof.Rows.boot_list (pa_cons (pe_fld (pv 0) rfl) pa_nil)) rfl)), ?_⟩
    refine ⟨_, rfl, _, rfl, by omega, by omega, fun D nD => ?_⟩
    refine lc_range (n := ((N : Nat) : Int).toNat) (fun i H' => Same H H' ∧ H' D = some (.lst (((unitL pl N).take i).map V.int))) ⟨same_new nD, upd_same⟩ ?_ ?_
    · rintro i H2 hi ⟨sm, hD⟩
      rw [Int.toNat_natCast] at hi
      have e : (unitL pl N)[i]? = some (if i = pl then 1 else 0) := by
        unfold unitL
        rw [List.getElem?_map, List.getElem?_range hi]
        rfl
      refine ⟨rfl, ?_⟩
      refine ⟨_, rfl, _, rfl, rfl, ?_⟩
      have fin : upd H2 D (.lst (((unitL pl N).take i).map V.int ++ [V.int (if i = pl then 1 else 0)])) D = some (.lst (((unitL pl N).take (i + 1)).map V.int)) := by
        rw [upd_same, mapInt_snoc, take_more e]
      have len : (((unitL pl N).take i).map V.int).length < sizeLine := by
        rw [List.length_map, List.length_take]
        omega
      by_cases e0 : i = pl
      · rw [if_pos e0] at fin
        rw [show decide (V.int (0 + (i : Int)) = V.int (pl : Int)) = true from decide_eq_true (by rw [e0, Int.zero_add])]
        exact ⟨_, rfl, iteT ⟨_, hD, len, same_upd sm nD, fin⟩⟩
      · rw [if_neg e0] at fin
        rw [show decide (V.int (0 + (i : Int)) = V.int (pl : Int)) = false from decide_eq_false fun z => e0 (by have := V.int.inj z; omega)]
        exact ⟨_, rfl, iteF ⟨_, hD, len, same_upd sm nD, fin⟩⟩
    rintro H2 ⟨sm, hD⟩
    have e : (unitL pl N).take ((N : Nat) : Int).toNat = unitL pl N := by
      rw [Int.toNat_natCast, List.take_of_length_le]
      unfold unitL
      rw [List.length_map, List.length_range]
      exact Nat.le_refl _
    rw [e] at hD
    have pD : p ≠ D := ne_of_none hp nD
    refine ⟨_, rfl, p, C, dx, [], rfl, sm _ _ hp, c.cl, c.nS, (by show 0 < 1000; decide), ?_⟩
    have hp3 : upd H2 p (.ins C dx (putF "stands" (.ref D) [])) p = some (.ins C dx [("stands", V.ref D)]) := upd_same
    have keep : ∀ {c x}, c ≠ p → H c = some x → upd H2 p (.ins C dx (putF "stands" (.ref D) [])) c = some x := fun hc e => by
      rw [upd_ne hc]
      exact sm _ _ e
    have hD3 : upd H2 p (.ins C dx (putF "stands" (.ref D) [])) D = some (.lst ((unitL pl N).map V.int)) := by rw [upd_ne pD.symm]; exact hD
    generalize upd H2 p (.ins C dx (putF "stands" (.ref D) [])) = H3 at hp3 keep hD3 ⊢
    have lk1 : ([(("stands" : Str), V.ref D)] : List (Str × V)).lookup ("stands" : Str) = some (.ref D) := List.lookup_cons_self
    refine ⟨_, rfl, p, C, dx, _, _, rfl, hp3, c.cl, c.nS, lk1, D, _, rfl, .inl (SqL.of hD3), fun D2 nD2 => ?_⟩
    have s4 := same_new (o := .lst ((unitL pl N).map V.int)) nD2
    have pD2 : p ≠ D2 := ne_of_none hp3 nD2
    refine ⟨_, rfl, p, C, dx, _, rfl, s4 _ _ hp3, c.cl, c.nM, (by show 1 < 1000; decide), ?_⟩
    refine q _ (fun c x hc e => ?_) ⟨dx, D, D2, ?_, ?_, ?_⟩
    · rw [upd_ne hc]
      exact s4 _ _ (keep hc e)
    · rw [upd_same]
      have : putF "made" (.ref D2) [(("stands" : Str), V.ref D)] = fldsU D D2 := by
        show (if ("stands" : Str) = "made" then _ else (("stands" : Str), V.ref D) :: putF "made" (.ref D2) []) = _
        rw [if_neg kSM]
        rfl
      rw [this]
    · rw [upd_ne pD.symm]
      exact s4 _ _ hD3
    · rw [upd_ne pD2.symm]
      exact upd_same
end
end MK


set_option Elab.async false
set_option linter.all false
set_option maxRecDepth 100000
set_option maxHeartbeats 4000000
namespace L2
open PySem PySem.Spec PyProof.Rows
section
variable {X : Cx}
/-- % by what is not nought -/
theorem op_modW : OpR X (binaryOp .Mod) (rI (fun _ j => j ≠ 0) fun i j => .int (i.fmod j)) := opI fun _ _ _ _ _ _ _ hc q => mod_int hc q
end
end L2
namespace MK
open PySem PySem.Spec PyProof.Rows L2
section
variable {P : Program} {w : World} {K : PySem.W.Frag} {mg : Str → Option Value} {base : Heap}
/-! ### Settled(number, stands, share, measure) -/
theorem scInitS : FnScope ["self", "number", "stands", "share", "measure"] ["self", "number", "stands", "share", "measure"] (defScope sInitS) := ⟨rfl, rfl, rfl, by decide +kernel, rfl, by decide +kernel, by decide +kernel⟩
def spInitS (D : Addr) : Sp := fun vs H Q _ => ∃ (p dx : Addr) (nb : Int) (sa : Addr) (sh : Int) (b : Addr), vs = [.ref p, .int nb, .ref sa, .int sh, .ref b] ∧ H p = some (.ins D dx []) ∧ Q .non (upd H p (.ins D dx (fldsS nb sa sh b)))
theorem kn1 : ¬ ("number" : Str) = "stands" := by decide +kernel
theorem kn2 : ¬ ("number" : Str) = "share" := by decide +kernel
theorem kn3 : ¬ ("stands" : Str) = "share" := by decide +kernel
theorem kn4 : ¬ ("number" : Str) = "measure" := by decide +kernel
theorem kn5 : ¬ ("stands" : Str) = "measure" := by decide +kernel
theorem kn6 : ¬ ("share" : Str) = "measure" := by decide +kernel
theorem upd_upd {H : Hp} {p : Addr} {o u : HO} : upd (upd H p o) p u = upd H p u := by
  funext c
  by_cases h : c = p
  · rw [h, upd_same, upd_same]
  · rw [upd_ne h, upd_ne h, upd_ne h]
theorem ok_initS {D f : Addr} {fd : FuncData} (F : Fun K "__init__" "Settled.__init__" sInitS f fd) (c : ClS K D) : FnOk P w K mg base CX0 1 f fd ["self", "number", "stands", "share", "measure"] (spInitS D) := by
  refine F.ok scInitS (fun vs H Q E h => ?_) (fun cdv A outer s H vs Q E hr h => ?_)
  · obtain ⟨p, dx, nb, sa, sh, b, rfl, _⟩ := h
    rfl
  · obtain ⟨p, dx, nb, sa, sh, b, rfl, hp, q⟩ := h
    refine ⟨_, pss_cons (ps_fld (pv 0) (pv 1) rfl) (pss_cons (ps_fld (pv 0) (pv 2) rfl) (pss_cons (ps_fld (pv 0) (pv 3) rfl) (pss_one (ps_fld (pv 0) (pv 4) rfl)))), ?_⟩
    have e2 : putF "stands" (V.ref sa) [(("number" : Str), V.int nb)] = [(("number" : Str), V.int nb), (("stands" : Str), V.ref sa)] := by
      show (if ("number" : Str) = "stands" then _ else (("number" : Str), V.int nb) :: putF "stands" (.ref sa) []) = _
      rw [if_neg kn1]
      rfl
    have e3 : putF "share" (V.int sh) [(("number" : Str), V.int nb), (("stands" : Str), V.ref sa)] = [(("number" : Str), V.int nb), (("stands" : Str), V.ref sa), (("share" : Str), V.int sh)] := by
      show (if ("number" : Str) = "share" then _ else (("number" : Str), V.int nb) :: (if ("stands" : Str) = "share" then _ else (("stands" : Str), V.ref sa) :: putF "share" (.int sh) [])) = _
      rw [if_neg kn2, if_neg kn3]
      rfl
    have e4 : putF "measure" (V.ref b) [(("number" : Str), V.int nb), (("stands" : Str), V.ref sa), (("share" : Str), V.int sh)] = fldsS nb sa sh b := by
      show (if ("number" : Str) = "measure" then _ else (("number" : Str), V.int nb) :: (if ("stands" : Str) = "measure" then _ else (("stands" : Str), V.ref sa) :: (if ("share" : Str) = "measure" then _ else (("share" : Str), V.int sh) :: putF "measure" (.ref b) []))) = _
      rw [if_neg kn4, if_neg kn5, if_neg kn6]
      rfl
    refine ⟨_, rfl, _, rfl, p, D, dx, [], rfl, hp, c.cl, c.nN, (by show 0 < 1000; decide), ?_⟩
    refine ⟨_, rfl, _, rfl, p, D, dx, [(("number" : Str), V.int nb)], rfl, upd_same, c.cl, c.nS, (by show 1 < 1000; decide), ?_⟩
    rw [e2, upd_upd]
    refine ⟨_, rfl, _, rfl, p, D, dx, _, rfl, upd_same, c.cl, c.nH, (by show 2 < 1000; decide), ?_⟩
    rw [e3, upd_upd]
    refine ⟨_, rfl, _, rfl, p, D, dx, _, rfl, upd_same, c.cl, c.nM, (by show 3 < 1000; decide), ?_⟩
    rw [e4, upd_upd]
    exact q
/-! ### _least_not_dividing -/
theorem scLeast : FnScope ["number", "by"] ["number"] (defScope sLeast) := ⟨rfl, rfl, rfl, by decide +kernel, rfl, by decide +kernel, by decide +kernel⟩
def spLeast : Sp := fun vs H Q _ => ∃ (n : Int), vs = [.int n] ∧ n ≠ 0 ∧ ∀ by' : Int, 2 ≤ by' → by'.natAbs ≤ n.natAbs + 1 → ¬ by' ∣ n → Q (.int by') H
theorem ok_least {f : Addr} {fd : FuncData} (F : Fun K "_least_not_dividing" "_least_not_dividing" sLeast f fd) : FnOk P w K mg base CX0 1 f fd ["number"] spLeast := by
  refine F.ok scLeast (fun vs H Q E h => ?_) (fun cdv A outer s H vs Q E hr h => ?_)
  · obtain ⟨n, rfl, _⟩ := h
    rfl
  · obtain ⟨n, rfl, n0, q⟩ := h
    have nd := scLeast.nd
    refine ⟨_, pss_cons (ps_set (i := 1) nd rfl (.inl rfl) pe_int)
      (pss_cons (ps_while PassesOwn.never (pt_cmpR op_eq (pe_op op_mod (pv 0) (pv 1)) pe_int (nomark _)) (pss_one (ps_aug (i := 1) nd rfl (.inl rfl) pe_int ip_add)))
      (pss_one (ps_ret (pv 1)))), ?_⟩
    refine ⟨fun m σ H' => ∃ k : Nat, m = n.natAbs + 1 - k ∧ 2 ≤ k ∧ k ≤ n.natAbs + 1 ∧ σ = [some (.int n), some (.int k)] ∧ H' = H, ⟨_, 2, rfl, Nat.le_refl _, by omega, rfl, rfl⟩, ?_⟩
    rintro m σ H' ⟨k, em, hk, hkn, rfl, rfl⟩
    refine ⟨_, rfl, _, rfl, _, _, rfl, rfl, (by omega), rfl, _, rfl, ?_⟩
    by_cases e : n % (k : Int) = 0
    · rw [show decide (V.int (n % (k : Int)) = V.int 0) = true from decide_eq_true (by rw [e])]
      have hle : k ≤ n.natAbs := by
        have d := Int.dvd_of_emod_eq_zero e
        have := Int.natAbs_dvd_natAbs.mpr d
        rw [Int.natAbs_natCast] at this
        exact Nat.le_of_dvd (by omega) this
      refine ⟨fun σ' H'' => σ' = [some (.int n), some (.int ((k + 1 : Nat) : Int))] ∧ H'' = H', fun σ' H'' ⟨h1, h2⟩ => ⟨n.natAbs + 1 - (k + 1), by omega, k + 1, rfl, by omega, by omega, h1, h2⟩, ?_⟩
      refine ⟨_, rfl, k, 1, rfl, rfl, ?_⟩
      exact ⟨rfl, rfl⟩
    · rw [show decide (V.int (n % (k : Int)) = V.int 0) = false from decide_eq_false fun z => e (V.int.inj z)]
      exact ⟨_, rfl, q _ (by omega) (by rw [Int.natAbs_natCast]; exact hkn) fun d => e (Int.emod_eq_zero_of_dvd d)⟩
end
end MK


set_option Elab.async false
set_option linter.all false
set_option maxRecDepth 100000
set_option maxHeartbeats 4000000
namespace MK
open PySem PySem.Spec PyProof.Rows L2
/-- the powers that are not of these letters -/
def notIn (ls : List Str) (m : Ms) : Ms := m.filter fun p => !decide (p.1 ∈ ls)
/-- what is left of a row, besides its letters -/
def restAt (m : Ms) (ls : List Str) (row : List Int) (sets : List Stl) (j : Str) : Int := sumAt (notIn ls m) j + (sets.map fun x => sumAt x.m j * dotL row x.s).sum
theorem SetAt.same {D : Addr} {H H' : Hp} {p : Addr} {x : Stl} (s : Same H H') (h : SetAt D H p x) : SetAt D H' p x := by
  obtain ⟨dx, sa, b, h1, h2, h3⟩ := h
  exact ⟨dx, sa, b, s _ _ h1, s _ _ h2, h3.same s⟩
theorem flat_len : ∀ ps : List (Ms × Int), (flat ps).length = (ps.map fun q => q.1.length).sum
  | [] => rfl
  | q :: ps => by
    have e : flat (q :: ps) = scaled q.1 q.2 ++ flat ps := rfl
    rw [e, List.length_append, flat_len ps, scaled_len, List.map_cons, List.sum_cons]
theorem flat_sum : ∀ (ps : List (Ms × Int)) (j : Str), sumAt (flat ps) j = (ps.map fun q => sumAt q.1 j * q.2).sum
  | [], j => rfl
  | q :: ps, j => by
    have e : flat (q :: ps) = scaled q.1 q.2 ++ flat ps := rfl
    rw [e, sumAt_append, flat_sum ps j, sumAt_scaled, List.map_cons, List.sum_cons]
def ptOf (row : List Int) (x : Stl) : Ms × Int := (x.m, dotL row x.s)
theorem inV_strs (z : Str) : ∀ ls : List Str, inV (.str z) (ls.map V.str) = decide (z ∈ ls)
  | [] => rfl
  | a :: ls => by
    have ih := inV_strs z ls
    unfold inV at ih ⊢
    rw [List.map_cons, List.any_cons, ih]
    have e : eqV (.str a) (.str z) = decide (a = z) := rfl
    rw [e]
    by_cases h : a = z
    · rw [decide_eq_true h, Bool.true_or, decide_eq_true]
      rw [h]
      exact List.mem_cons_self
    · rw [decide_eq_false h, Bool.false_or]
      by_cases h2 : z ∈ ls
      · rw [decide_eq_true h2, decide_eq_true (List.mem_cons_of_mem _ h2)]
      · rw [decide_eq_false h2, decide_eq_false]
        intro h3
        rcases List.mem_cons.mp h3 with e | e
        · exact h e.symm
        · exact h2 e
theorem flat_strs (ls : List Str) : (ls.map V.str).all flatV = true := by
  induction ls with
  | nil => rfl
  | cons a l ih => rw [List.map_cons, List.all_cons, ih]; rfl
section
variable {P : Program} {w : World} {K : PySem.W.Frag} {mg : Str → Option Value} {base : Heap}
/-! ### _hindrance -/
theorem scHind : FnScope ["rest", "share", "_", "many"] ["rest", "share"] (defScope sHind) := ⟨rfl, rfl, rfl, by decide +kernel, rfl, by decide +kernel, by decide +kernel⟩
def spHind : Sp := fun vs H Q _ => ∃ (b : Addr) (sh : Int) (r : Ms), vs = [.ref b, .int sh] ∧ MsN H b r ∧ (∀ p ∈ r, p.2 ≠ 0) ∧
  ((sh = 0 → r = []) → (∀ p ∈ r, sh ∣ p.2) → Q (.int 0) H) ∧ (∀ by' : Int, 2 ≤ by' → ((sh = 0 ∧ ∃ p ∈ r, by'.natAbs ≤ p.2.natAbs + 1) ∨ by' = (sh.natAbs : Nat)) → (∃ p ∈ r, ¬ by' ∣ p.2) → Q (.int by') H)
theorem ok_hind {f fL : Addr} {fd dL : FuncData} (F : Fun K "_hindrance" "_hindrance" sHind f fd) (FL : Fun K "_least_not_dividing" "_least_not_dividing" sLeast fL dL) (bL : Binds K dL ["number"] []) (gL : mg "_least_not_dividing" = some (.ref fL)) (ma : mg "abs" = none) : FnOk P w K mg base CX0 2 f fd ["rest", "share"] spHind := by
  have GL : FnOk P w K mg base CX0 1 fL dL ["number"] spLeast := ok_least FL
  refine F.ok scHind (fun vs H Q E h => ?_) (fun cdv A outer s H vs Q E hr h => ?_)
  · obtain ⟨b, sh, r, rfl, _⟩ := h
    rfl
  · obtain ⟨b, sh, r, rfl, hb, nz, q0, q1⟩ := h
    have nd := scHind.nd
    refine ⟨_, pss_cons (ps_for PassesOwn.never rfl (pi_tup (pv 0)) (pg_tup rfl (pgs_cons (pg_name (i := 2) nd rfl (.inl rfl)) (pgs_cons (pg_name (i := 3) nd rfl (.inl rfl)) pgs_nil)))
        (pss_cons (ps_if (pt_cmpR op_eq (pv 1) pe_int (nomark _)) (pss_one (ps_ret (pe_call GL hr (by rfl) gL FL.kp bL .nil pass0 (pa_cons (pv 3) pa_nil)))) pss_nil)
        (pss_one (ps_if (pt_cmpR op_ne (pe_op op_modW (pv 3) (pv 1)) pe_int (nomark _)) (pss_one (ps_ret (pe_callB call_abs (by rfl) ma PyProof.Rows.boot_abs (pa_cons (pv 1) pa_nil)))) pss_nil))))
      (pss_one (ps_ret pe_int)), ?_⟩
    obtain ⟨ts, tn, pm⟩ := hb
    have tl := pm.length
    refine ⟨_, rfl, b, rfl, ⟨_, TupN.sq tn⟩, for_tup (xs := ts.map V.ref) (fun i σ H2 => ∃ v2 v3 : Option V, σ = [some (.ref b), some (.int sh), v2, v3] ∧ H2 = H ∧ (0 < i → sh ≠ 0) ∧ ∀ p ∈ r.take i, sh ∣ p.2)
      ⟨none, none, rfl, rfl, fun h => absurd h (Nat.lt_irrefl 0), fun p hp => absurd hp (by simp)⟩ (fun i σ H2 _ z => by obtain ⟨_, _, _, e, _⟩ := z; rw [e]; exact TupN.sq tn) ?_ ?_⟩
    · rintro i x σ H2 hx ⟨v2, v3, rfl, rfl, hs0, hd⟩
      obtain ⟨t, ht, rfl⟩ := at_map hx
      obtain ⟨p, hp, htp⟩ := paired_ix pm ht
      have htp : H2 t = some (.tup [.str p.1, .int p.2]) := htp
      have pm' := List.mem_of_getElem? hp
      refine ⟨t, _, rfl, SqT.of htp, rfl, _, _, rfl, _, _, rfl, rfl, ?_⟩
      refine ⟨_, rfl, rfl, _, rfl, ?_⟩
      by_cases e0 : sh = 0
      · rw [show decide (V.int sh = V.int 0) = true from decide_eq_true (by rw [e0])]
        refine iteT ?_
        exact ⟨_, rfl, p.2, rfl, nz p pm', fun by' h2 hle hn => q1 by' h2 (.inl ⟨e0, p, pm', hle⟩) ⟨p, pm', hn⟩⟩
      · rw [show decide (V.int sh = V.int 0) = false from decide_eq_false fun z => e0 (V.int.inj z)]
        refine iteF ?_
        refine ⟨_, rfl, _, rfl, _, _, rfl, rfl, e0, rfl, _, rfl, ?_⟩
        by_cases e1 : p.2.fmod sh = 0
        · rw [show (!decide (V.int (p.2.fmod sh) = V.int 0)) = false by rw [e1]; rfl]
          refine iteF ?_
          refine ⟨_, _, rfl, rfl, fun _ => e0, fun q hq => ?_⟩
          rw [take_more hp, List.mem_append, List.mem_singleton] at hq
          rcases hq with hq | rfl
          · exact hd q hq
          · exact Int.dvd_of_fmod_eq_zero e1
        · rw [show (!decide (V.int (p.2.fmod sh) = V.int 0)) = true by rw [decide_eq_false (fun z => e1 (V.int.inj z))]; rfl]
          refine iteT ?_
          have nd2 : ¬ sh ∣ p.2 := fun d => e1 (Int.fmod_eq_zero_of_dvd d)
          refine ⟨_, rfl, sh, rfl, ?_⟩
          rw [abs_natI]
          have n1 : sh.natAbs ≠ 1 := fun h => nd2 (by
            have : sh.natAbs ∣ p.2.natAbs := by rw [h]; exact Nat.one_dvd _
            exact Int.natAbs_dvd_natAbs.mp this)
          refine q1 _ (by omega) (.inr rfl) ⟨p, pm', fun d => nd2 ?_⟩
          have := Int.natAbs_dvd_natAbs.mpr d
          rw [Int.natAbs_natCast] at this
          exact Int.natAbs_dvd_natAbs.mp this
    · rintro σ H2 ⟨v2, v3, rfl, rfl, hs0, hd⟩
      rw [List.length_map, tl] at hs0 hd
      rw [List.take_length] at hd
      refine q0 (fun e => ?_) hd
      cases r with
      | nil => rfl
      | cons a l => exact absurd e (hs0 (Nat.succ_pos _))
/-! ### _rest -/
theorem scRest : FnScope ["measure", "letters", "row", "settled", "others", "letter", "many", "one"] ["measure", "letters", "row", "settled"] (defScope sRest) := ⟨rfl, rfl, rfl, by decide +kernel, rfl, by decide +kernel, by decide +kernel⟩
def spRest (D : Addr) : Sp := fun vs H Q _ => ∃ (b a rw tl : Addr) (m : Ms) (ls : List Str) (row : List Int) (ps : List Addr) (sets : List Stl) (N k : Nat), vs = [.ref b, .ref a, .ref rw, .ref tl] ∧ MsN H b m ∧ H a = some (.lst (ls.map V.str)) ∧ H rw = some (.lst (row.map V.int)) ∧
  H tl = some (.lst (ps.map V.ref)) ∧ Paired (SetAt D H) ps sets ∧ row.length = N ∧ N ≤ 1000 ∧ SmL k row ∧ k ≤ 49000 ∧ sets.length ≤ 1000 ∧ (∀ x ∈ sets, x.s.length = N ∧ SmL k x.s ∧ Sm 49000 (dotL row x.s) ∧ ∀ p ∈ x.m, Sm 49000 p.2) ∧ (∀ p ∈ m, Sm 49000 p.2) ∧
  m.length + (sets.map fun x => x.m.length).sum ≤ 10000 ∧ ∀ (H' : Hp) (p : Addr) (r : Ms), Same H H' → H p = none → MsN H' p r → Can r → (∀ j, at0 r j = restAt m ls row sets j) → Q (.ref p) H'
theorem ok_rest {D f fG fS : Addr} {fd dG dS : FuncData} (F : Fun K "_rest" "_rest" sRest f fd) (c : ClS K D) (FG : Fun K "gathered" "gathered" sGath fG dG) (bG : Binds K dG ["parts"] []) (gG : mg "gathered" = some (.ref fG)) (FS : Fun K "_summed" "_summed" sSummed fS dS) (bS : Binds K dS ["row", "stands"] []) (gS : mg "_summed" = some (.ref fS))
    (mt : mg "tuple" = none) (ms : mg "sorted" = none) (mz : mg "zip" = none) (mu : mg "sum" = none) : FnOk P w K mg base CX0 2 f fd ["measure", "letters", "row", "settled"] (spRest D) := by
  have GG : FnOk P w K mg base CX0 1 fG dG ["parts"] spGath := ok_gath FG mt ms
  have GS : FnOk P w K mg base CX0 1 fS dS ["row", "stands"] spSummed := ok_summed FS mu mz
  refine F.ok scRest (fun vs H Q E h => ?_) (fun cdv A outer s H vs Q E hr h => ?_)
  · obtain ⟨b, a, rw, tl, m, ls, row, ps, sets, N, k, rfl, _⟩ := h
    rfl
  · obtain ⟨b, a, rw, tl, m, ls, row, ps, sets, N, k, rfl, hb, ha, hrw, htl, prs, lrow, lN, brow, hk, few, hset, hm, tot, q⟩ := h
    have nd := scRest.nd
    have kS : sizeLine = 16777216 := sizeLine_eq
    refine ⟨_, pss_cons (ps_set (i := 4) nd rfl (.inl rfl) (pe_callTy call_tupleN (by rfl) mt boot_tuple (pa_cons (pe_lc (own := [("letter", 5), ("many", 6)]) (g := gTup K 2 (gCons (gName 5) (gCons (gName 6) gNil))) rfl nd (pi_tup (pv 0))
          (blkOk_by (N := ["measure", "letters", "row", "settled", "others", "letter", "many", "one"]) (sc := defScope sRest) (by decide +kernel)) (fun _ _ _ _ _ => by exact pg_tup rfl (pgs_cons (pg_name (i := 5) nd rfl (Or.inl rfl)) (pgs_cons (pg_name (i := 6) nd rfl (Or.inl rfl)) pgs_nil))) (fun _ _ _ _ _ => pts_one (pt_cmpR (show OpR _ _ (rIn K true) from op_notIn_seq) (pv 5) (pv 1) (by rfl)))
          (fun _ _ _ _ _ => pe_tup (pa_cons (pv 5) (pa_cons (pv 6) pa_nil)))) pa_nil)))
      (pss_one (ps_ret (pe_call GG hr (by rfl) gG FG.kp bG .nil pass0 (pa_cons (pe_op op_cat (pe_lst (pa_cons (pe_tup (pa_cons (pv 4) (pa_cons pe_int pa_nil))) pa_nil))
          (pe_lc (own := [("one", 7)]) (g := gName 7) (tt := tYes) rfl nd (pi_list (pv 3)) (blkOk_by (N := ["measure", "letters", "row", "settled", "others", "letter", "many", "one"]) (sc := defScope sRest) (by decide +kernel)) (fun _ _ _ _ _ => pg_name (i := 7) nd rfl (Or.inl rfl)) (fun _ _ _ _ _ => pts_nil)
            (fun _ _ _ _ _ => pe_tup (pa_cons (show PE _ _ (tFld K (tVar 7) "measure") from pe_fld (pv 7) rfl) (pa_cons (pe_call GS hr (by rfl) gS FS.kp bS .nil pass0 (pa_cons (pv 2) (pa_cons (show PE _ _ (tFld K (tVar 7) "stands") from pe_fld (pv 7) rfl) pa_nil))) pa_nil))))) pa_nil)))), ?_⟩
    obtain ⟨ts, tn, pm⟩ := hb
    have tl' := pm.length
    refine ⟨_, rfl, b, rfl, ⟨_, TupN.sq tn⟩, fun D1 nD1 => ?_⟩
    refine lc_tup (xs := ts.map V.ref) (fun i H2 => Same H H2 ∧ ∃ us : List Addr, H2 D1 = some (.lst (us.map V.ref)) ∧ Paired (PrAt H2) us (notIn ls (m.take i)) ∧ us.length ≤ i) ⟨same_new nD1, [], upd_same, .nil, Nat.le_refl _⟩ (fun i H2 _ z => TupN.sq (by obtain ⟨o, e, d⟩ := tn; exact ⟨o, z.1 _ _ e, d⟩)) ?_ ?_
    · rintro i x H2 hx ⟨sm, us, hD, pr, ul⟩
      obtain ⟨t, ht, rfl⟩ := at_map hx
      obtain ⟨p, hp, htp⟩ := paired_ix pm ht
      have htp : H t = some (.tup [.str p.1, .int p.2]) := htp
      have hi : i < m.length := (List.getElem?_eq_some_iff.mp hp).1
      refine ⟨t, _, rfl, SqT.of (sm _ _ htp), rfl, _, _, rfl, _, _, rfl, rfl, rfl, ?_⟩
      refine ⟨_, rfl, _, rfl, a, _, rfl, .inl (SqL.of (sm _ _ ha)), rfl, flat_strs ls, _, rfl, ?_⟩
      rw [inV_strs]
      have e : notIn ls (m.take (i + 1)) = notIn ls (m.take i) ++ (if p.1 ∈ ls then [] else [p]) := by
        unfold notIn
        rw [take_more hp, List.filter_append]
        by_cases h : p.1 ∈ ls
        · rw [if_pos h, List.filter_cons, decide_eq_true h]
          rfl
        · rw [if_neg h, List.filter_cons, decide_eq_false h]
          rfl
      by_cases h : p.1 ∈ ls
      · rw [decide_eq_true h]
        refine ⟨sm, us, hD, ?_, by omega⟩
        rw [e, if_pos h, List.append_nil]
        exact pr
      · rw [decide_eq_false h]
        refine ⟨_, rfl, _, rfl, (by show 2 ≤ sizeLine; decide), fun t2 n2 => ?_⟩
        have s2 := same_new (o := .tup [V.str p.1, V.int p.2]) n2
        have hD2 := s2 _ _ hD
        refine ⟨_, hD2, ?_, same_upd (sm.trans s2) nD1, us ++ [t2], ?_, ?_, ?_⟩
        · rw [List.length_map]
          omega
        · rw [upd_same, List.map_append]
          rfl
        · rw [e, if_neg h]
          refine pr_list hD2 (Paired.snoc (pr_same s2 pr) upd_same)
        · rw [List.length_append]
          exact Nat.add_le_add_right ul 1
    rintro H2 ⟨s2, us, hD, pr, _⟩
    rw [List.length_map, tl', List.take_length] at pr
    refine ⟨D1, _, rfl, SqL.of hD, fun lo o nlo dn => ?_⟩
    have s3 := same_new (o := .frz o (.tup (us.map V.ref))) nlo
    have mo : MsN (upd H2 lo (.frz o (.tup (us.map V.ref)))) lo (notIn ls m) := ⟨us, ⟨o, upd_same, dn⟩, pr_same s3 pr⟩
    refine ⟨_, rfl, (by show 2 ≤ sizeLine; decide), fun t1 n1 => ⟨(by show 1 ≤ sizeLine; decide), fun l1 nl1 => ?_⟩⟩
    have s4 := same_new (o := .tup [V.ref lo, V.int 1]) n1
    have s5 := same_new (o := .lst [V.ref t1]) nl1
    have s25 := s2.trans (s3.trans (s4.trans s5))
    have pt1 : PtN (upd (upd (upd H2 lo (.frz o (.tup (us.map V.ref)))) t1 (.tup [V.ref lo, V.int 1])) l1 (.lst [V.ref t1])) t1 (notIn ls m, 1) := ⟨lo, s5 _ _ upd_same, mo.same (s4.trans s5)⟩
    have hl1 : upd (upd (upd H2 lo (.frz o (.tup (us.map V.ref)))) t1 (.tup [V.ref lo, V.int 1])) l1 (.lst [V.ref t1]) l1 = some (.lst [V.ref t1]) := upd_same
    generalize upd (upd (upd H2 lo (.frz o (.tup (us.map V.ref)))) t1 (.tup [V.ref lo, V.int 1])) l1 (.lst [V.ref t1]) = H3 at s25 pt1 hl1 ⊢
    have pl := prs.length
    refine ⟨_, rfl, tl, rfl, ⟨_, SqL.of (s25 _ _ htl)⟩, fun D2 nD2 => ?_⟩
    refine lc_list (xs := ps.map V.ref) (fun i H' => Same H3 H' ∧ ∃ qs : List Addr, H' D2 = some (.lst (qs.map V.ref)) ∧ Paired (PtN H') qs ((sets.map (ptOf row)).take i)) ⟨same_new nD2, [], upd_same, .nil⟩ (fun i H' _ z => SqL.of (z.1 _ _ (s25 _ _ htl))) ?_ ?_
    · rintro i x H4 hx ⟨sm, qs, hD2, pr2⟩
      obtain ⟨p, hp, rfl⟩ := at_map hx
      obtain ⟨y, hy, hys⟩ := paired_ix prs hp
      have ym := List.mem_of_getElem? hy
      obtain ⟨g1, g2, g3, g4⟩ := hset y ym
      obtain ⟨dx, sa, b2, f1, f2, f3⟩ := hys.same (s25.trans sm)
      have ql := pr2.length
      rw [List.length_take, List.length_map] at ql
      refine ⟨rfl, ?_⟩
      refine ⟨_, rfl, p, D, dx, _, _, rfl, f1, c.cl, c.nM, fldsS_m _ _ _ _, _, rfl, _, rfl, p, D, dx, _, _, rfl, f1, c.cl, c.nS, fldsS_s _ _ _ _, ?_⟩
      refine ⟨rw, sa, row, y.s, N, k, rfl, (s25.trans sm) _ _ hrw, f2, lrow, g1, lN, brow, g2, hk, fun H5 s6 => ?_⟩
      refine ⟨(by show 2 ≤ sizeLine; decide), fun t3 n3 => ?_⟩
      have s7 := s6.trans (same_new (o := .tup [V.ref b2, V.int (dotL row y.s)]) n3)
      have hD3 := s7 _ _ hD2
      have ey : (sets.map (ptOf row))[i]? = some (ptOf row y) := by rw [List.getElem?_map, hy]; rfl
      refine ⟨_, hD3, ?_, same_upd (sm.trans s7) nD2, qs ++ [t3], ?_, ?_⟩
      · rw [List.length_map]
        omega
      · rw [upd_same, List.map_append]
        rfl
      · have mv : ∀ {t q}, PtN (upd H5 t3 (.tup [V.ref b2, V.int (dotL row y.s)])) t q → PtN (upd (upd H5 t3 (.tup [V.ref b2, V.int (dotL row y.s)])) D2 (.lst (qs.map V.ref ++ [V.ref t3]))) t q := fun h => by
          obtain ⟨b, e, m⟩ := h
          exact ⟨b, fne hD3 e (fun z => nomatch z), m.lst hD3⟩
        rw [take_more ey]
        exact Paired.snoc (Paired.mono (fun _ _ h => mv (h.same s7)) pr2) (mv ⟨b2, upd_same, f3.same s7⟩)
    rintro H4 ⟨sm, qs, hD2, pr2⟩
    rw [List.length_map, pl] at pr2
    have e1 : (sets.map (ptOf row)).take sets.length = sets.map (ptOf row) := by rw [List.take_of_length_le]; rw [List.length_map]; exact Nat.le_refl _
    rw [e1] at pr2
    have ql := pr2.length
    rw [List.length_map] at ql
    refine ⟨l1, D2, [V.ref t1], qs.map V.ref, rfl, rfl, sm _ _ hl1, hD2, ?_, fun d nd0 => ?_⟩
    · rw [List.length_map]
      show 1 + qs.length ≤ _
      omega
    have s8 := same_new (o := .lst ([V.ref t1] ++ qs.map V.ref)) nd0
    have sum1 : (sets.map (ptOf row)).map (fun q => q.1.length) = sets.map fun x => x.m.length := by rw [List.map_map]; rfl
    have nl : (notIn ls m).length ≤ m.length := List.length_filter_le _ _
    refine ⟨d, t1 :: qs, (notIn ls m, 1) :: sets.map (ptOf row), rfl, upd_same, .cons ((pt1.same sm).same s8) (Paired.mono (fun _ _ h => h.same s8) pr2), ?_, fun q hq => ?_, fun H' p r s9 np hp hc hat => q H' p r (s25.trans (sm.trans (s8.trans s9))) ((s25.trans (sm.trans s8)).free np) hp hc fun j => ?_⟩
    · rw [flat_len, List.map_cons, List.sum_cons, sum1]
      show (notIn ls m).length + _ ≤ _
      omega
    · rcases List.mem_cons.mp hq with rfl | hq
      · exact ⟨Sm.mono (a := 1) (by show (1 : Int).natAbs < 2 ^ 1; decide) (by decide), fun p hp => hm p (List.mem_filter.mp hp).1⟩
      · obtain ⟨x, hx, rfl⟩ := List.mem_map.mp hq
        obtain ⟨_, _, g3, g4⟩ := hset x hx
        exact ⟨g3, g4⟩
    · rw [hat, flat_sum, List.map_cons, List.sum_cons, List.map_map]
      show sumAt (notIn ls m) j * 1 + _ = _
      rw [Int.mul_one]
      rfl
end
end MK


set_option Elab.async false
set_option linter.all false
set_option maxRecDepth 100000
set_option maxHeartbeats 4000000
namespace MK
open PySem PySem.Spec PyProof.Rows L2
/-! ### shifting columns: the whole numbers -/
abbrev Col := List Int × List Int
def LeL (M : Nat) (s : List Int) : Prop := ∀ x ∈ s, x.natAbs ≤ M
theorem LeL.mono {M M' : Nat} {s : List Int} (h : LeL M s) (l : M ≤ M') : LeL M' s := fun x hx => Nat.le_trans (h x hx) l
theorem LeL.sm {M k : Nat} {s : List Int} (h : LeL M s) (l : M < 2 ^ k) : SmL k s := fun x hx => Nat.lt_of_le_of_lt (h x hx) l
theorem near_ok {a b : Int} (b0 : b ≠ 0) : 2 * (a - nearest a b * b).natAbs ≤ b.natAbs ∧ (nearest a b).natAbs * b.natAbs ≤ a.natAbs + b.natAbs := by
  have e : (2 * a + b) = 2 * b * nearest a b + (2 * a + b).fmod (2 * b) := by
    have := Int.mul_fdiv_add_fmod (2 * a + b) (2 * b)
    exact this.symm
  have hr : ((2 * a + b).fmod (2 * b) - b).natAbs ≤ b.natAbs := by
    rcases Int.lt_or_gt_of_ne b0 with h | h
    · have e1 : (2 * a + b).fmod (2 * b) = (2 * a + b) % (2 * b) + if 0 ≤ 2 * b ∨ 2 * b ∣ 2 * a + b then 0 else 2 * b := Int.fmod_eq_emod
      have e2 := Int.emod_nonneg (2 * a + b) (show 2 * b ≠ 0 by omega)
      have e3 := Int.emod_lt (2 * a + b) (show 2 * b ≠ 0 by omega)
      by_cases c : 0 ≤ 2 * b ∨ 2 * b ∣ 2 * a + b
      · rw [if_pos c] at e1
        rcases c with c | c
        · omega
        · have := Int.emod_eq_zero_of_dvd c
          omega
      · rw [if_neg c] at e1
        omega
    · have h1 : 0 ≤ (2 * a + b).fmod (2 * b) := Int.fmod_nonneg_of_pos (2 * a + b) (by omega)
      have h2 : (2 * a + b).fmod (2 * b) < 2 * b := Int.fmod_lt_of_pos (2 * a + b) (by omega)
      omega
  generalize (2 * a + b).fmod (2 * b) = r at e hr
  generalize nearest a b = n at e ⊢
  have e2 : 2 * b * n = 2 * (n * b) := by rw [Int.mul_assoc, Int.mul_comm b n]
  rw [e2] at e
  constructor
  · omega
  · rw [← Int.natAbs_mul]
    omega
theorem dot_less (n : Int) : ∀ (r s t : List Int), s.length = r.length → t.length = r.length → dotL r (lessL n s t) = dotL r s - n * dotL r t
  | [], [], [], _, _ => by show (0 : Int) = 0 - n * 0; omega
  | x :: r, a :: s, b :: t, h1, h2 => by
    have ih := dot_less n r s t (by simpa using h1) (by simpa using h2)
    show x * (a - n * b) + dotL r (lessL n s t) = (x * a + dotL r s) - n * (x * b + dotL r t)
    rw [ih, Int.mul_sub, Int.mul_add]
    have : x * (n * b) = n * (x * b) := by rw [← Int.mul_assoc, Int.mul_comm x n, Int.mul_assoc]
    rw [this]
    omega
theorem dot_more (n : Int) : ∀ (r s t : List Int), s.length = r.length → t.length = r.length → dotL r (moreL n s t) = dotL r s + n * dotL r t
  | [], [], [], _, _ => by show (0 : Int) = 0 + n * 0; omega
  | x :: r, a :: s, b :: t, h1, h2 => by
    have ih := dot_more n r s t (by simpa using h1) (by simpa using h2)
    show x * (a + n * b) + dotL r (moreL n s t) = (x * a + dotL r s) + n * (x * b + dotL r t)
    rw [ih, Int.mul_add, Int.mul_add]
    have : x * (n * b) = n * (x * b) := by rw [← Int.mul_assoc, Int.mul_comm x n, Int.mul_assoc]
    rw [this]
    omega
theorem zip_mem {f : Int → Int → Int} {s t : List Int} {x : Int} (h : x ∈ List.zipWith f s t) : ∃ a ∈ s, ∃ b ∈ t, x = f a b := by
  obtain ⟨i, hi⟩ := List.mem_iff_getElem?.mp h
  rw [List.getElem?_zipWith] at hi
  cases ha : s[i]? with
  | none => rw [ha] at hi; cases hi
  | some a =>
    cases hb : t[i]? with
    | none => rw [ha, hb] at hi; cases hi
    | some b =>
      rw [ha, hb] at hi
      exact ⟨a, List.mem_of_getElem? ha, b, List.mem_of_getElem? hb, (Option.some.inj hi).symm⟩
theorem less_le {n : Int} {M N : Nat} {s t : List Int} (hs : LeL M s) (ht : LeL N t) : LeL (M + n.natAbs * N) (lessL n s t) := fun x hx => by
  obtain ⟨a, ha, b, hb, rfl⟩ := zip_mem hx
  have h1 := hs a ha
  have h2 : (n * b).natAbs ≤ n.natAbs * N := by rw [Int.natAbs_mul]; exact Nat.mul_le_mul_left _ (ht b hb)
  omega
theorem more_le {n : Int} {M N : Nat} {s t : List Int} (hs : LeL M s) (ht : LeL N t) : LeL (M + n.natAbs * N) (moreL n s t) := fun x hx => by
  obtain ⟨a, ha, b, hb, rfl⟩ := zip_mem hx
  have h1 := hs a ha
  have h2 : (n * b).natAbs ≤ n.natAbs * N := by rw [Int.natAbs_mul]; exact Nat.mul_le_mul_left _ (ht b hb)
  omega
/-! ### what keeps the numbers small -/
theorem pot1 {M x L W : Nat} (h : x * L ≤ 3 * W) (l : L ≤ W) : M * x * L ^ 3 ≤ 3 * M * W ^ 3 := by
  calc M * x * L ^ 3 = M * (x * L) * L ^ 2 := by rw [Nat.pow_succ L 2, Nat.mul_comm (L ^ 2) L]; simp only [Nat.mul_assoc]
    _ ≤ M * (3 * W) * W ^ 2 := Nat.mul_le_mul (Nat.mul_le_mul_left _ h) (Nat.pow_le_pow_left l 2)
    _ = 3 * M * W ^ 3 := by rw [Nat.pow_succ W 2]; simp only [Nat.mul_assoc, Nat.mul_comm, Nat.mul_left_comm]
theorem pot2 {M x L W : Nat} (h : x * L ≤ 3 * W) (l : 2 * L ≤ W) : M * x * L ^ 3 ≤ M * W ^ 3 := by
  have l2 : 4 * L ^ 2 ≤ W ^ 2 := by
    have := Nat.pow_le_pow_left l 2
    rw [Nat.mul_pow] at this
    exact this
  calc M * x * L ^ 3 = M * (x * L) * L ^ 2 := by rw [Nat.pow_succ L 2, Nat.mul_comm (L ^ 2) L]; simp only [Nat.mul_assoc]
    _ ≤ M * (3 * W) * L ^ 2 := Nat.mul_le_mul_right _ (Nat.mul_le_mul_left _ h)
    _ = M * W * (3 * L ^ 2) := by simp only [Nat.mul_assoc, Nat.mul_comm, Nat.mul_left_comm]
    _ ≤ M * W * W ^ 2 := Nat.mul_le_mul_left _ (by omega)
    _ = M * W ^ 3 := by rw [Nat.pow_succ W 2]; simp only [Nat.mul_assoc, Nat.mul_comm, Nat.mul_left_comm]
theorem pot3 {M y u L W : Nat} (h : y * L ≤ 4 * u * W) (l : L ≤ W) : M * y * L ^ 8 ≤ 4 * u * M * W ^ 8 := by
  calc M * y * L ^ 8 = M * (y * L) * L ^ 7 := by rw [Nat.pow_succ L 7, Nat.mul_comm (L ^ 7) L]; simp only [Nat.mul_assoc]
    _ ≤ M * (4 * u * W) * W ^ 7 := Nat.mul_le_mul (Nat.mul_le_mul_left _ h) (Nat.pow_le_pow_left l 7)
    _ = 4 * u * M * W ^ 8 := by rw [Nat.pow_succ W 7]; simp only [Nat.mul_assoc, Nat.mul_comm, Nat.mul_left_comm]
theorem pot4 {M y u L W : Nat} (h : y * L ≤ 4 * u * W) (l : 2 * L ≤ W) (hu : u ≤ 32) : M * y * L ^ 8 ≤ M * W ^ 8 := by
  have l2 : 128 * L ^ 7 ≤ W ^ 7 := by
    have := Nat.pow_le_pow_left l 7
    rw [Nat.mul_pow] at this
    exact this
  have l3 : 4 * u * L ^ 7 ≤ W ^ 7 := Nat.le_trans (Nat.mul_le_mul_right _ (by omega)) l2
  calc M * y * L ^ 8 = M * (y * L) * L ^ 7 := by rw [Nat.pow_succ L 7, Nat.mul_comm (L ^ 7) L]; simp only [Nat.mul_assoc]
    _ ≤ M * (4 * u * W) * L ^ 7 := Nat.mul_le_mul_right _ (Nat.mul_le_mul_left _ h)
    _ = M * W * (4 * u * L ^ 7) := by simp only [Nat.mul_assoc, Nat.mul_comm, Nat.mul_left_comm]
    _ ≤ M * W * W ^ 7 := Nat.mul_le_mul_left _ l3
    _ = M * W ^ 8 := by rw [Nat.pow_succ W 7]; simp only [Nat.mul_assoc, Nat.mul_comm, Nat.mul_left_comm]
/-! ### shifts, one after another -/
def dots (row : List Int) (cs : List Col) : List Int := cs.map fun c => dotL row c.1
inductive Shf : List Col → List Col → Prop
  | refl (c : List Col) : Shf c c
  | step {c d : List Col} {i j : Nat} {s m s' m' : List Int} (n : Int) : Shf c d → i ≠ j → d[i]? = some (s, m) → d[j]? = some (s', m') → Shf c ((d.set i (lessL n s s', m)).set j (s', moreL n m' m))
def ColN (N : Nat) (cs : List Col) : Prop := ∀ c ∈ cs, c.1.length = N ∧ c.2.length = N
theorem less_len {n : Int} {s t : List Int} (h : s.length = t.length) : (lessL n s t).length = s.length := by unfold lessL; rw [List.length_zipWith, h, Nat.min_self]
theorem more_len {n : Int} {s t : List Int} (h : s.length = t.length) : (moreL n s t).length = s.length := by unfold moreL; rw [List.length_zipWith, h, Nat.min_self]
theorem ColN.shf {N : Nat} {cs : List Col} (h : ColN N cs) {i j : Nat} {s m s' m' : List Int} {n : Int} (hi : cs[i]? = some (s, m)) (hj : cs[j]? = some (s', m')) : ColN N ((cs.set i (lessL n s s', m)).set j (s', moreL n m' m)) := fun c hc => by
  obtain ⟨h1, h2⟩ := h _ (List.mem_of_getElem? hi)
  obtain ⟨h3, h4⟩ := h _ (List.mem_of_getElem? hj)
  have h1 : s.length = N := h1
  have h2 : m.length = N := h2
  have h3 : s'.length = N := h3
  have h4 : m'.length = N := h4
  rcases List.mem_or_eq_of_mem_set hc with hc | rfl
  · rcases List.mem_or_eq_of_mem_set hc with hc | rfl
    · exact h c hc
    · exact ⟨by show (lessL n s s').length = N; rw [less_len (by omega)]; exact h1, h2⟩
  · exact ⟨h3, by show (moreL n m' m).length = N; rw [more_len (by omega)]; exact h4⟩
theorem Shf.len {c d : List Col} (h : Shf c d) : d.length = c.length := by
  induction h with
  | refl => rfl
  | step n _ _ _ _ ih => rw [List.length_set, List.length_set, ih]
theorem Shf.trans {a b c : List Col} (h : Shf a b) (g : Shf b c) : Shf a c := by
  induction g with
  | refl => exact h
  | step n _ ne hi hj ih => exact .step n ih ne hi hj
theorem dots_shf {N : Nat} {row : List Int} {cs : List Col} (h : ColN N cs) (lr : row.length = N) {i j : Nat} {s m s' m' : List Int} {n : Int} (ij : i ≠ j) (hi : cs[i]? = some (s, m)) (hj : cs[j]? = some (s', m')) :
    dots row ((cs.set i (lessL n s s', m)).set j (s', moreL n m' m)) = (dots row cs).set i (dotL row s - n * dotL row s') := by
  obtain ⟨h1, _⟩ := h _ (List.mem_of_getElem? hi)
  obtain ⟨h3, _⟩ := h _ (List.mem_of_getElem? hj)
  have h1 : s.length = N := h1
  have h3 : s'.length = N := h3
  unfold dots
  rw [List.map_set, List.map_set, dot_less n row s s' (by omega) (by omega)]
  refine List.ext_getElem? fun k => ?_
  rw [List.getElem?_set]
  split
  · rename_i e
    subst e
    have hl : j < cs.length := (List.getElem?_eq_some_iff.mp hj).1
    rw [if_pos (by rw [List.length_set, List.length_map]; exact hl), List.getElem?_set_ne ij, List.getElem?_map, hj]
    rfl
  · rfl
end MK


set_option Elab.async false
set_option linter.all false
set_option maxRecDepth 100000
set_option maxHeartbeats 4000000
namespace MK
open PySem PySem.Spec PyProof.Rows L2
/-! ### the unknowns as they stand -/
theorem paired_of {α β : Type} {R : α → β → Prop} : ∀ {xs : List α} {ys : List β}, xs.length = ys.length → (∀ (i : Nat) x y, xs[i]? = some x → ys[i]? = some y → R x y) → Paired R xs ys
  | [], [], _, _ => .nil
  | x :: xs, y :: ys, l, h => .cons (h 0 x y rfl rfl) (paired_of (by simpa using l) fun i a b e1 e2 => h (i + 1) a b e1 e2)
theorem nd_inj {α : Type} {xs : List α} (h : xs.Nodup) {a b : Nat} {z : α} (e1 : xs[a]? = some z) (e2 : xs[b]? = some z) : a = b := by
  obtain ⟨l1, f1⟩ := List.getElem?_eq_some_iff.mp e1
  obtain ⟨l2, f2⟩ := List.getElem?_eq_some_iff.mp e2
  have k := List.pairwise_iff_getElem.mp h
  rcases Nat.lt_trichotomy a b with c | c | c
  · exact absurd (f1.trans f2.symm) (k a b l1 l2 c)
  · exact c
  · exact absurd (f2.trans f1.symm) (k b a l2 l1 c)
/-- all but these, and but tables, stays -/
def Ux (ex : List Addr) (H H' : Hp) : Prop := ∀ c x, c ∉ ex → (∀ q, x ≠ .tbl q) → H c = some x → H' c = some x
theorem Ux.trans {ex : List Addr} {H H' H'' : Hp} (a : Ux ex H H') (b : Ux ex H' H'') : Ux ex H H'' := fun c x n t e => b c x n t (a c x n t e)
theorem Ux.same {ex : List Addr} {H H' H'' : Hp} (a : Ux ex H H') (b : Same H' H'') : Ux ex H H'' := fun c x n t e => b c x (a c x n t e)
theorem Ux.of {ex : List Addr} {H H' : Hp} (b : Same H H') : Ux ex H H' := fun c x _ _ e => b c x e
theorem Ux.upd {ex : List Addr} {H H' : Hp} {p : Addr} {o : HO} (a : Ux ex H H') (h : H p = none) : Ux ex H (upd H' p o) := fun c x n t e => by
  rw [upd_ne (ne_of_none e h)]
  exact a c x n t e
structure UkL (C : Addr) (H : Hp) (ul : Addr) (ps : List Addr) (cs : List Col) : Prop where
  l : H ul = some (.lst (ps.map V.ref))
  nd : ps.Nodup
  u : Paired (fun p c => UnkAt C H p c.1 c.2) ps cs
theorem UkL.len {C : Addr} {H : Hp} {ul : Addr} {ps : List Addr} {cs : List Col} (h : UkL C H ul ps cs) : ps.length = cs.length := h.u.length
theorem UkL.ins {C : Addr} {H : Hp} {ul : Addr} {ps : List Addr} {cs : List Col} (h : UkL C H ul ps cs) {p : Addr} (hp : p ∈ ps) : ∃ dx sa ma, H p = some (.ins C dx (fldsU sa ma)) := by
  obtain ⟨i, hi⟩ := List.mem_iff_getElem?.mp hp
  obtain ⟨c, _, dx, sa, ma, e, _⟩ := paired_ix h.u hi
  exact ⟨dx, sa, ma, e⟩
theorem UkL.notL {C : Addr} {H : Hp} {ul : Addr} {ps : List Addr} {cs : List Col} (h : UkL C H ul ps cs) {c : Addr} {xs : List V} (e : H c = some (.lst xs)) : c ∉ ps := fun hc => by
  obtain ⟨_, _, _, e2⟩ := h.ins hc
  rw [e] at e2
  cases e2
theorem UnkAt.keep {C : Addr} {H H' : Hp} {p : Addr} {s m : List Int} (h : UnkAt C H p s m) (hp : ∀ x, H p = some x → (∀ q, x ≠ .tbl q) → H' p = some x) (hl : ∀ c xs, H c = some (.lst xs) → H' c = some (.lst xs)) : UnkAt C H' p s m := by
  obtain ⟨dx, sa, ma, h1, h2, h3⟩ := h
  exact ⟨dx, sa, ma, hp _ h1 (fun _ e => nomatch e), hl _ _ h2, hl _ _ h3⟩
theorem UkL.same {C : Addr} {H H' : Hp} {ul : Addr} {ps : List Addr} {cs : List Col} (s : Same H H') (h : UkL C H ul ps cs) : UkL C H' ul ps cs :=
  ⟨s _ _ h.l, h.nd, Paired.mono (fun _ _ u => u.keep (fun x e _ => s _ _ e) fun c xs e => s _ _ e) h.u⟩
/-- over what changes neither the list nor the unknowns nor lists -/
theorem UkL.ext {C : Addr} {H H' : Hp} {ul : Addr} {ps : List Addr} {cs : List Col} (s : ∀ c x, (∀ q, x ≠ .tbl q) → H c = some x → H' c = some x) (h : UkL C H ul ps cs) : UkL C H' ul ps cs :=
  ⟨s _ _ (fun _ e => nomatch e) h.l, h.nd, Paired.mono (fun _ _ u => u.keep (fun x e t => s _ _ t e) fun c xs e => s _ _ (fun _ e => nomatch e) e) h.u⟩
/-- the same, none of their lists at X -/
structure UkX (C X : Addr) (H : Hp) (ul : Addr) (ps : List Addr) (cs : List Col) : Prop where
  l : H ul = some (.lst (ps.map V.ref))
  nd : ps.Nodup
  u : Paired (fun p c => UnkX C X H p c.1 c.2) ps cs
  ux : ul ≠ X
theorem UkX.at_ {C X : Addr} {H : Hp} {ul : Addr} {ps : List Addr} {cs : List Col} (h : UkX C X H ul ps cs) : UkL C H ul ps cs := ⟨h.l, h.nd, Paired.mono (fun _ _ u => u.at_) h.u⟩
theorem UkL.x {C X : Addr} {H : Hp} {ul : Addr} {ps : List Addr} {cs : List Col} (h : UkL C H ul ps cs) (n : H X = none) : UkX C X H ul ps cs := ⟨h.l, h.nd, Paired.mono (fun _ _ u => u.x n) h.u, ne_of_none h.l n⟩
theorem UnkX.keep {C X : Addr} {H H' : Hp} {p : Addr} {s m : List Int} (h : UnkX C X H p s m) (hp : ∀ x, H p = some x → (∀ q, x ≠ .tbl q) → H' p = some x) (hl : ∀ c xs, c ≠ X → H c = some (.lst xs) → H' c = some (.lst xs)) : UnkX C X H' p s m := by
  obtain ⟨dx, sa, ma, h1, h2, h3, x1, x2⟩ := h
  exact ⟨dx, sa, ma, hp _ h1 (fun _ e => nomatch e), hl _ _ x1 h2, hl _ _ x2 h3, x1, x2⟩
/-- over what changes but X, which is a list, and tables -/
theorem UkX.ext {C X : Addr} {H H' : Hp} {ul : Addr} {ps : List Addr} {cs : List Col} {xs : List V} (hX : H X = some (.lst xs)) (s : ∀ c x, c ≠ X → (∀ q, x ≠ .tbl q) → H c = some x → H' c = some x) (h : UkX C X H ul ps cs) : UkX C X H' ul ps cs := by
  have nX : X ∉ ps := h.at_.notL hX
  refine ⟨s _ _ h.ux (fun _ e => nomatch e) h.l, h.nd, paired_of h.u.length fun i p c hp hc => ?_, h.ux⟩
  obtain ⟨c', hc', u⟩ := paired_ix h.u hp
  rw [hc] at hc'
  cases hc'
  exact u.keep (fun x e t => s _ _ (fun z => nX (by rw [← z]; exact List.mem_of_getElem? hp)) t e) fun c xs n e => s _ _ n (fun _ e => nomatch e) e
theorem UkX.shift {C X : Addr} {H H' : Hp} {ul : Addr} {ps : List Addr} {d : List Col} {i j : Nat} {s m s' m' : List Int} {p q : Addr} {n : Int} (h : UkX C X H ul ps d) (ij : i ≠ j) (hi : d[i]? = some (s, m)) (hj : d[j]? = some (s', m')) (pi : ps[i]? = some p) (pj : ps[j]? = some q)
    (kp : ∀ c x, c ≠ p → c ≠ q → H c = some x → H' c = some x) (h1 : UnkX C X H' p (lessL n s s') m) (h2 : UnkX C X H' q s' (moreL n m' m)) : UkX C X H' ul ps ((d.set i (lessL n s s', m)).set j (s', moreL n m' m)) := by
  have hl : ∀ c xs, H c = some (.lst xs) → H' c = some (.lst xs) := fun c xs e => kp c _ (fun z => h.at_.notL e (by rw [z]; exact List.mem_of_getElem? pi)) (fun z => h.at_.notL e (by rw [z]; exact List.mem_of_getElem? pj)) e
  refine ⟨hl _ _ h.l, h.nd, paired_of (by rw [List.length_set, List.length_set]; exact h.at_.len) fun k x y hx hy => ?_, h.ux⟩
  have inj : ∀ {a b : Nat} {z : Addr}, ps[a]? = some z → ps[b]? = some z → a = b := fun e1 e2 => nd_inj h.nd e1 e2
  have li : i < d.length := (List.getElem?_eq_some_iff.mp hi).1
  have lj : j < d.length := (List.getElem?_eq_some_iff.mp hj).1
  by_cases kj : j = k
  · subst kj
    rw [List.getElem?_set_self (by rw [List.length_set]; exact lj)] at hy
    cases hy
    rw [pj] at hx
    cases hx
    exact h2
  · rw [List.getElem?_set_ne kj] at hy
    by_cases ki : i = k
    · subst ki
      rw [List.getElem?_set_self li] at hy
      cases hy
      rw [pi] at hx
      cases hx
      exact h1
    · rw [List.getElem?_set_ne ki] at hy
      obtain ⟨y', hy', u⟩ := paired_ix h.u hx
      rw [hy] at hy'
      cases hy'
      exact u.keep (fun z e _ => kp _ _ (fun w => ki (inj pi (by rw [← w]; exact hx))) (fun w => kj (inj pj (by rw [← w]; exact hx))) e) fun c xs _ e => hl c xs e
/-- the list's order changed -/
theorem UkL.turn {C : Addr} {H : Hp} {ul : Addr} {ps : List Addr} {d : List Col} {l : Nat} {p : Addr} {c : Col} (h : UkL C H ul ps d) (pl : ps[l]? = some p) (dl : d[l]? = some c) : UkL C (upd H ul (.lst ((ps.eraseIdx l ++ [p]).map V.ref))) ul (ps.eraseIdx l ++ [p]) (d.eraseIdx l ++ [c]) := by
  have pm := List.mem_of_getElem? pl
  have nul : ul ∉ ps := h.notL h.l
  have hl : ∀ (x : List Int) (a : Addr), H a = some (.lst (x.map V.int)) → upd H ul (.lst ((ps.eraseIdx l ++ [p]).map V.ref)) a = some (.lst (x.map V.int)) := fun x a e => by
    refine fne h.l e fun z => ?_
    have z := HO.lst.inj z
    cases ps with
    | nil => cases pm
    | cons a ps =>
      cases x with
      | nil => cases z
      | cons b x => exact absurd (List.cons.inj z).1 (fun e => nomatch e)
  have mv : ∀ {a : Addr} {c : Col}, a ∈ ps → UnkAt C H a c.1 c.2 → UnkAt C (upd H ul (.lst ((ps.eraseIdx l ++ [p]).map V.ref))) a c.1 c.2 := fun {a c} ha u => by
    obtain ⟨dx, sa, ma, h1, h2, h3⟩ := u
    exact ⟨dx, sa, ma, by rw [upd_ne (fun z => nul (by rw [← z]; exact ha))]; exact h1, hl _ _ h2, hl _ _ h3⟩
  have er : ∀ {xs : List Addr} {ys : List Col} {k : Nat}, Paired (fun p c => UnkAt C H p c.1 c.2) xs ys → Paired (fun p c => UnkAt C H p c.1 c.2) (xs.eraseIdx k) (ys.eraseIdx k) := fun {xs ys k} g => by
    induction g generalizing k with
    | nil => exact .nil
    | cons a b ih =>
      cases k with
      | zero => exact b
      | succ k => exact .cons a ih
  obtain ⟨c', hc', uc⟩ := paired_ix h.u pl
  rw [dl] at hc'
  cases hc'
  refine ⟨upd_same, ?_, ?_⟩
  · rw [List.nodup_append]
    refine ⟨List.Nodup.sublist (List.eraseIdx_sublist _ _) h.nd, List.pairwise_singleton _ _, fun a ha b hb e => ?_⟩
    rw [List.mem_singleton.mp hb] at e
    rw [e] at ha
    obtain ⟨k, hk, ek⟩ := List.mem_eraseIdx_iff_getElem?.mp ha
    exact hk (nd_inj h.nd ek pl)
  · refine Paired.snoc ?_ (mv pm uc)
    have e := er (k := l) h.u
    refine paired_of e.length fun i x y hx hy => ?_
    obtain ⟨y', hy', u⟩ := paired_ix e hx
    rw [hy] at hy'
    cases hy'
    exact mv (List.mem_of_mem_eraseIdx (List.mem_of_getElem? hx)) u
end MK


set_option Elab.async false
set_option linter.all false
set_option maxRecDepth 100000
set_option maxHeartbeats 4000000
namespace MK
open PySem PySem.Spec PyProof.Rows L2
/-! ### one round: all that is left brought nearer to nought by the least -/
structure InIt (row : List Int) (d0 d : List Col) (lf : List Nat) (k e L M M' q : Nat) : Prop where
  p1 : ∀ (i : Nat) (c : Col), d[i]? = some c → (i ∉ lf.take k ∨ i = e) → ∃ c0 : Col, d0[i]? = some c0 ∧ c.1 = c0.1
  p2 : ∀ (i : Nat) (c : Col), d[i]? = some c → i ≠ e → ∃ c0 : Col, d0[i]? = some c0 ∧ c.2 = c0.2
  p3 : ∀ (i : Nat) (c : Col), d[i]? = some c → i ∈ lf.take k → i ≠ e → 2 * (dotL row c.1).natAbs ≤ L ∧ LeL (M * (1 + q)) c.1
  p4 : ∀ c : Col, d[e]? = some c → LeL (M' * (1 + k * q)) c.2
theorem InIt.start {row : List Int} {d0 : List Col} {lf : List Nat} {e L M M' q : Nat} (h : ∀ c ∈ d0, LeL M c.1 ∧ LeL M' c.2) : InIt row d0 d0 lf 0 e L M M' q :=
  ⟨fun i c hc _ => ⟨c, hc, rfl⟩, fun i c hc _ => ⟨c, hc, rfl⟩, fun i c _ hi => absurd hi (by simp), fun c hc => (h c (List.mem_of_getElem? hc)).2.mono (by rw [Nat.zero_mul, Nat.add_zero, Nat.mul_one]; exact Nat.le_refl _)⟩
theorem InIt.skip {row : List Int} {d0 d : List Col} {lf : List Nat} {k e L M M' q : Nat} (h : InIt row d0 d lf k e L M M' q) (hk : lf[k]? = some e) : InIt row d0 d lf (k + 1) e L M M' q := by
  have mem : ∀ i, i ∈ lf.take (k + 1) ↔ i ∈ lf.take k ∨ i = e := fun i => by rw [take_more hk, List.mem_append, List.mem_singleton]
  refine ⟨fun i c hc hi => h.p1 i c hc ?_, h.p2, fun i c hc hi ne => h.p3 i c hc (((mem i).mp hi).resolve_right ne) ne, fun c hc => (h.p4 c hc).mono (Nat.mul_le_mul_left _ ?_)⟩
  · rcases hi with hi | hi
    · exact .inl fun z => hi ((mem i).mpr (.inl z))
    · exact .inr hi
  · rw [Nat.add_mul]
    omega
theorem InIt.step {row : List Int} {d0 d : List Col} {lf : List Nat} {k e L M M' q i : Nat} {s m s' m' : List Int} {n : Int} (h : InIt row d0 d lf k e L M M' q) (hk : lf[k]? = some i) (ie : i ≠ e) (nd : lf.Nodup) (hd : ∀ c ∈ d0, LeL M c.1 ∧ LeL M' c.2)
    (hi : d[i]? = some (s, m)) (he : d[e]? = some (s', m')) (nq : n.natAbs ≤ q) (hn : 2 * (dotL row (lessL n s s')).natAbs ≤ L) : InIt row d0 ((d.set i (lessL n s s', m)).set e (s', moreL n m' m)) lf (k + 1) e L M M' q := by
  have mem : ∀ j, j ∈ lf.take (k + 1) ↔ j ∈ lf.take k ∨ j = i := fun j => by rw [take_more hk, List.mem_append, List.mem_singleton]
  have ni : i ∉ lf.take k := fun z => by
    obtain ⟨j, hj⟩ := List.mem_iff_getElem?.mp z
    rw [List.getElem?_take] at hj
    split at hj
    · rename_i l
      have := nd_inj nd hj hk
      omega
    · cases hj
  have li : i < d.length := (List.getElem?_eq_some_iff.mp hi).1
  have le : e < d.length := (List.getElem?_eq_some_iff.mp he).1
  obtain ⟨ci, gi, ei⟩ := h.p1 i _ hi (.inl ni)
  obtain ⟨ce, ge, ee⟩ := h.p1 e _ he (.inr rfl)
  obtain ⟨ci', gi', ei'⟩ := h.p2 i _ hi ie
  have ei : s = ci.1 := ei
  have ee : s' = ce.1 := ee
  have ei' : m = ci'.2 := ei'
  have bs : LeL M s := by rw [ei]; exact (hd _ (List.mem_of_getElem? gi)).1
  have bs' : LeL M s' := by rw [ee]; exact (hd _ (List.mem_of_getElem? ge)).1
  have bm : LeL M' m := by rw [ei']; exact (hd _ (List.mem_of_getElem? gi')).2
  have bm' := h.p4 _ he
  have gete : ((d.set i (lessL n s s', m)).set e (s', moreL n m' m))[e]? = some (s', moreL n m' m) := List.getElem?_set_self (by rw [List.length_set]; exact le)
  have geti : ((d.set i (lessL n s s', m)).set e (s', moreL n m' m))[i]? = some (lessL n s s', m) := by rw [List.getElem?_set_ne (fun z => ie z.symm), List.getElem?_set_self li]
  have geto : ∀ j, j ≠ i → j ≠ e → ((d.set i (lessL n s s', m)).set e (s', moreL n m' m))[j]? = d[j]? := fun j h1 h2 => by rw [List.getElem?_set_ne (fun z => h2 z.symm), List.getElem?_set_ne (fun z => h1 z.symm)]
  refine ⟨fun j c hc hj => ?_, fun j c hc hj => ?_, fun j c hc hj ne => ?_, fun c hc => ?_⟩
  · by_cases je : j = e
    · rw [je, gete] at hc
      cases hc
      rw [je]
      exact ⟨ce, ge, ee⟩
    · have hj := hj.resolve_right je
      have ji : j ≠ i := fun z => hj ((mem j).mpr (.inr z))
      rw [geto j ji je] at hc
      exact h.p1 j c hc (.inl fun z => hj ((mem j).mpr (.inl z)))
  · by_cases ji : j = i
    · rw [ji, geti] at hc
      cases hc
      rw [ji]
      exact ⟨ci', gi', ei'⟩
    · rw [geto j ji hj] at hc
      exact h.p2 j c hc hj
  · by_cases ji : j = i
    · rw [ji, geti] at hc
      cases hc
      refine ⟨hn, (less_le bs bs').mono ?_⟩
      rw [Nat.mul_add, Nat.mul_one, Nat.mul_comm M q]
      have := Nat.mul_le_mul_right M nq
      omega
    · rw [geto j ji ne] at hc
      exact h.p3 j c hc (((mem j).mp hj).resolve_right ji) ne
  · rw [gete] at hc
    cases hc
    refine (more_le bm' bm).mono ?_
    have e1 : M' * (1 + (k + 1) * q) = M' * (1 + k * q) + q * M' := by
      rw [show 1 + (k + 1) * q = (1 + k * q) + q by rw [Nat.add_mul]; omega, Nat.mul_add, Nat.mul_comm M' q]
    rw [e1]
    have := Nat.mul_le_mul_right M' nq
    omega
/-- the state ahead of a round -/
structure Wst (row : List Int) (d : List Col) (lf : List Nat) (u M M' W F F' : Nat) (b : Bool) : Prop where
  nd : lf.Nodup
  lt : ∀ k ∈ lf, k < d.length
  iff : ∀ (k : Nat) (c : Col), d[k]? = some c → (k ∈ lf ↔ dotL row c.1 ≠ 0)
  w1 : 1 ≤ W
  pw : ∀ (k : Nat) (c : Col), k ∈ lf → d[k]? = some c → (dotL row c.1).natAbs ≤ W
  st : ∀ c ∈ d, LeL M c.1 ∧ LeL M' c.2
  pot : (b = false ∧ 3 * M * W ^ 3 ≤ F ∧ 4 * u * M' * W ^ 8 ≤ F') ∨ (b = true ∧ (∃ e, ∀ (k : Nat) (c : Col), k ∈ lf → k ≠ e → d[k]? = some c → 2 * (dotL row c.1).natAbs ≤ W) ∧ M * W ^ 3 ≤ F ∧ M' * W ^ 8 ≤ F')
theorem le_pow1 {M W k : Nat} (h : 1 ≤ W) : M ≤ M * W ^ k := Nat.le_mul_of_pos_right _ (Nat.pow_pos h)
theorem Wst.le {row : List Int} {d : List Col} {lf : List Nat} {u M M' W F F' : Nat} {b : Bool} (h : Wst row d lf u M M' W F F' b) (u1 : 1 ≤ u) : M ≤ F ∧ M' ≤ F' := by
  rcases h.pot with ⟨_, h1, h2⟩ | ⟨_, _, h1, h2⟩
  · constructor
    · have := le_pow1 (M := 3 * M) (k := 3) h.w1
      omega
    · have := le_pow1 (M := 4 * u * M') (k := 8) h.w1
      have h3 : M' ≤ 4 * u * M' := Nat.le_mul_of_pos_left _ (by omega)
      omega
  · exact ⟨Nat.le_trans (le_pow1 h.w1) h1, Nat.le_trans (le_pow1 h.w1) h2⟩
theorem Wst.next {row : List Int} {d0 d : List Col} {lf lf' : List Nat} {u M M' W F F' e L : Nat} {b : Bool} {c0 : Col} (h : Wst row d0 lf u M M' W F F' b) (hd : d.length = d0.length) (hu : d0.length = u) (u32 : u ≤ 32) (l2 : 2 ≤ lf.length) (he : e ∈ lf) (hc0 : d0[e]? = some c0) (hL : (dotL row c0.1).natAbs = L)
    (mn : ∀ (k : Nat) (c : Col), k ∈ lf → d0[k]? = some c → L ≤ (dotL row c.1).natAbs) (I : InIt row d0 d lf lf.length e L M M' (W / L + 1)) (nd' : lf'.Nodup) (hlf : ∀ k, k ∈ lf' ↔ k ∈ lf ∧ ∃ c : Col, d[k]? = some c ∧ dotL row c.1 ≠ 0) :
    Wst row d lf' u (M * (1 + (W / L + 1))) (M' * (1 + u * (W / L + 1))) L F F' true ∧ 2 * L < (if b = true then 2 * W else 2 * W + 1) := by
  have tk : lf.take lf.length = lf := List.take_length
  have Lpos : 1 ≤ L := by
    have := (h.iff e c0 hc0).mp he
    omega
  have LW : L ≤ W := by
    have := h.pw e c0 he hc0
    omega
  have u2 : lf.length ≤ u := by
    have : ∀ x ∈ lf, x ∈ List.range u := fun x hx => List.mem_range.mpr (by have := h.lt x hx; omega)
    have := List.Nodup.length_le_of_subset h.nd this
    rw [List.length_range] at this
    exact this
  have dq : W / L * L ≤ W := Nat.div_mul_le_self W L
  have hx : (1 + (W / L + 1)) * L ≤ 3 * W := by
    rw [Nat.add_mul, Nat.add_mul]
    omega
  have hy : (1 + u * (W / L + 1)) * L ≤ 4 * u * W := by
    have e1 : (1 + u * (W / L + 1)) * L = L + u * (W / L * L + L) := by
      rw [Nat.add_mul, Nat.one_mul, Nat.mul_assoc, Nat.add_mul, Nat.one_mul]
    have e2 : u * (W / L * L + L) ≤ u * (2 * W) := Nat.mul_le_mul_left _ (by omega)
    have e3 : W ≤ u * W := Nat.le_mul_of_pos_left _ (by omega)
    have e4 : u * (2 * W) = 2 * (u * W) := by rw [← Nat.mul_assoc, Nat.mul_comm u 2, Nat.mul_assoc]
    have e5 : 4 * u * W = 4 * (u * W) := Nat.mul_assoc _ _ _
    omega
  have half : b = true → 2 * L ≤ W := fun hb => by
    rcases h.pot with ⟨z, _⟩ | ⟨_, ⟨e', hh⟩, _⟩
    · rw [hb] at z
      cases z
    · obtain ⟨k, hk, ke⟩ : ∃ k ∈ lf, k ≠ e' := by
        have h0 : lf[0]? = some (lf[0]'(by omega)) := List.getElem?_eq_getElem _
        have h1 : lf[1]? = some (lf[1]'(by omega)) := List.getElem?_eq_getElem _
        by_cases z : lf[0]'(by omega) = e'
        · refine ⟨_, List.mem_of_getElem? h1, fun z2 => ?_⟩
          have := nd_inj h.nd (z := e') (by rw [← z]; exact h0) (by rw [← z2]; exact h1)
          omega
        · exact ⟨_, List.mem_of_getElem? h0, z⟩
      have hkl := h.lt k hk
      have hkc := List.getElem?_eq_getElem hkl
      have a1 := hh k _ hk ke hkc
      have a2 := mn k _ hk hkc
      omega
  have bs : ∀ c ∈ d, LeL (M * (1 + (W / L + 1))) c.1 ∧ LeL (M' * (1 + u * (W / L + 1))) c.2 := fun c hc => by
    obtain ⟨i, hi⟩ := List.mem_iff_getElem?.mp hc
    have m1 : M ≤ M * (1 + (W / L + 1)) := Nat.le_mul_of_pos_right _ (by rw [Nat.add_comm]; exact Nat.succ_pos _)
    have m2 : M' ≤ M' * (1 + u * (W / L + 1)) := Nat.le_mul_of_pos_right _ (by rw [Nat.add_comm]; exact Nat.succ_pos _)
    by_cases ie : i = e
    · rw [ie] at hi
      obtain ⟨c1, g1, g2⟩ := I.p1 e c hi (.inr rfl)
      refine ⟨by rw [g2]; exact (h.st c1 (List.mem_of_getElem? g1)).1.mono m1, (I.p4 c hi).mono (Nat.mul_le_mul_left _ ?_)⟩
      have := Nat.mul_le_mul_right (W / L + 1) u2
      omega
    · obtain ⟨c2, g3, g4⟩ := I.p2 i c hi ie
      refine ⟨?_, by rw [g4]; exact (h.st c2 (List.mem_of_getElem? g3)).2.mono m2⟩
      by_cases il : i ∈ lf
      · exact (I.p3 i c hi (by rw [tk]; exact il) ie).2
      · obtain ⟨c1, g1, g2⟩ := I.p1 i c hi (.inl (by rw [tk]; exact il))
        rw [g2]
        exact (h.st c1 (List.mem_of_getElem? g1)).1.mono m1
  have deq : ∀ c : Col, d[e]? = some c → dotL row c.1 = dotL row c0.1 := fun c hc => by
    obtain ⟨c1, g1, g2⟩ := I.p1 e c hc (.inr rfl)
    rw [hc0] at g1
    cases g1
    rw [g2]
  refine ⟨⟨nd', fun k hk => ?_, fun k c hc => ?_, Lpos, fun k c hk hc => ?_, bs, .inr ⟨rfl, ⟨e, fun k c hk ke hc => ?_⟩, ?_, ?_⟩⟩, ?_⟩
  · obtain ⟨_, c, hc, _⟩ := (hlf k).mp hk
    exact (List.getElem?_eq_some_iff.mp hc).1
  · rw [hlf]
    constructor
    · rintro ⟨_, c', hc', n⟩
      rw [hc] at hc'
      cases hc'
      exact n
    · intro n
      refine ⟨?_, c, hc, n⟩
      by_cases il : k ∈ lf
      · exact il
      · obtain ⟨c1, g1, g2⟩ := I.p1 k c hc (.inl (by rw [tk]; exact il))
        rw [g2] at n
        exact (h.iff k c1 g1).mpr n
  · have kl := ((hlf k).mp hk).1
    by_cases ke : k = e
    · rw [ke] at hc
      rw [deq c hc]
      omega
    · have := (I.p3 k c hc (by rw [tk]; exact kl) ke).1
      omega
  · exact (I.p3 k c hc (by rw [tk]; exact ((hlf k).mp hk).1) ke).1
  · rcases h.pot with ⟨_, h1, _⟩ | ⟨hb, _, h1, _⟩
    · exact Nat.le_trans (pot1 hx LW) h1
    · exact Nat.le_trans (pot2 hx (half hb)) h1
  · rcases h.pot with ⟨_, _, h1⟩ | ⟨hb, _, _, h1⟩
    · exact Nat.le_trans (pot3 hy LW) h1
    · exact Nat.le_trans (pot4 hy (half hb) u32) h1
  · split
    · rename_i hb
      have := half hb
      have := h.w1
      omega
    · omega
end MK


set_option Elab.async false
set_option linter.all false
set_option maxRecDepth 100000
set_option maxHeartbeats 4000000
namespace MK
open PySem PySem.Spec PyProof.Rows L2
/-- a def whose code object is known -/
structure FunC (K : PySem.W.Frag) (x qual : Str) (st : Stmt) (f c : Addr) (fd : FuncData) : Prop where
  ex : ∃ (oc : Value) (od : Option Addr) (kV doc pm : Value) (an : Option Addr) (ct : Value) (osl : Array (Option Value)),
    fd = PySem.W.fnOf x qual (defArgs st) (defBody st) (defScope st) .none kV doc pm an (.ref c) ct ∧ K.lookup f = some ⟨oc, od, .func fd, osl⟩ ∧ PySem.W.codeIn K (.ref c) qual = true
  kp : PySem.W.keepIn K (.ref f) = true
theorem FunC.fn {K : PySem.W.Frag} {x qual : Str} {st : Stmt} {f c : Addr} {fd : FuncData} (F : FunC K x qual st f c fd) : Fun K x qual st f fd := by
  obtain ⟨⟨oc, od, kV, doc, pm, an, ct, osl, e, l, h⟩, kp⟩ := F
  exact ⟨⟨oc, od, kV, doc, pm, an, .ref c, ct, osl, e, l, h⟩, kp⟩
section
variable {P : Program} {w : World} {K : PySem.W.Frag} {mg : Str → Option Value} {base : Heap} {pt : Addr}
theorem FunC.ok {x qual : Str} {st : Stmt} {f c : Addr} {fd : FuncData} {N ps : List Str} {k : Nat} {sp : Sp} (F : FunC K x qual st f c fd) (S : FnScope N ps (defScope st)) (len : ∀ vs H Q E, sp vs H Q E → vs.length = ps.length)
    (hbody : ∀ (A : Around) (outer : List Env) (s : Shared) (H : Hp) (vs : List V) (Q : VK) (E : XK), Room k (A.deeper (envOfC qual (defScope st) s.heap.objs.size f (.ref c))) → sp vs H Q E →
      ∃ t, PSs (cxOf CX0 P w K mg base N qual (defScope st) f (.ref c) A outer s H E).nox (defBody st) t ∧ t { nx := fun _ H' => Q .non H', rt := Q } (start N vs) H) : FnOk P w K mg base CX0 (k + 1) f fd ps sp := by
  obtain ⟨oc, od, kV, doc, pm, an, ct, osl, rfl, lk, hcd⟩ := F.ex
  refine fn_of lk hcd S len fun A outer s H vs Q E hr hsp => ?_
  obtain ⟨t, h, q⟩ := hbody A outer s H vs Q E hr hsp
  exact ⟨t, h.nox, q⟩
/-! ### _brought_together -/
abbrev scBrN : List Str := ["row", "unknowns", "powers", "left", "least", "at", "n", "unknown", "many"]
theorem scBr : FnScope scBrN ["row", "unknowns"] (defScope sBrought) := ⟨rfl, rfl, rfl, by decide +kernel, rfl, by decide +kernel, by decide +kernel⟩
abbrev qLam : Str := "_brought_together.<locals>.<lambda>"
abbrev brT (pt : Addr) : List (Addr × Str) := [(pt, qLam)]
/-- what is asked: a row, the unknowns, bounds -/
structure BrIn (C : Addr) (H : Hp) (a ul : Addr) (row : List Int) (ps : List Addr) (cols : List Col) (N u M M' W F F' : Nat) : Prop where
  r : H a = some (.lst (row.map V.int))
  lr : row.length = N
  lN : N ≤ 1000
  uk : UkL C H ul ps cols
  cn : ColN N cols
  lu : cols.length = u
  u32 : u ≤ 32
  br : SmL 48000 row
  w1 : 1 ≤ W
  pw : ∀ c ∈ cols, (dotL row c.1).natAbs ≤ W
  st : ∀ c ∈ cols, LeL M c.1 ∧ LeL M' c.2
  f1 : 3 * M * W ^ 3 ≤ F
  f2 : 4 * u * M' * W ^ 8 ≤ F'
  f3 : M' ≤ F'
  b1 : F < 2 ^ 48000
  b2 : F' < 2 ^ 48000
  bw : W < 2 ^ 7980
/-- what comes out: nought, or the last one's share -/
def BrOut (row : List Int) (ps ps' : List Addr) (d cols' : List Col) (res : Int) : Prop :=
  (res = 0 ∧ ps' = ps ∧ cols' = d ∧ ∀ c ∈ d, dotL row c.1 = 0) ∨ (res ≠ 0 ∧ ∃ (l : Nat) (p : Addr) (c : Col), ps[l]? = some p ∧ d[l]? = some c ∧ ps' = ps.eraseIdx l ++ [p] ∧ cols' = d.eraseIdx l ++ [c] ∧ dotL row c.1 = res ∧ ∀ (i : Nat) (x : Col), d[i]? = some x → i ≠ l → dotL row x.1 = 0)
def spBr (C pt : Addr) : Sp := fun vs H Q _ => ∃ (a ul : Addr) (row : List Int) (ps : List Addr) (cols : List Col) (N u M M' W F F' : Nat), vs = [.ref a, .ref ul] ∧ BrIn C H a ul row ps cols N u M M' W F F' ∧ LamX.Tabs (brT pt) H ∧
  ∀ (H' : Hp) (d cols' : List Col) (ps' : List Addr) (res : Int), Ux (ul :: ps) H H' → LamX.Tabs (brT pt) H' → Shf cols d → ColN N d → (∀ c ∈ d, LeL F c.1 ∧ LeL F' c.2) → UkL C H' ul ps' cols' → BrOut row ps ps' d cols' res → (res = 0 → d = cols) → Q (.int res) H'
abbrev natL (lf : List Nat) : List Int := lf.map fun k => ((k : Nat) : Int)
/-- ahead of each round -/
def BrS (C pt a ul pl : Addr) (row : List Int) (ps : List Addr) (cols : List Col) (H0 : Hp) (N u F F' : Nat) (m : Nat) (σ : L2.St) (H' : Hp) : Prop := ∃ (d : List Col) (lf : List Nat) (la : Addr) (v4 v5 v6 : Option V) (M M' W : Nat) (b : Bool),
  σ = [some (.ref a), some (.ref ul), some (.ref pl), some (.ref la), v4, v5, v6, none, none] ∧ m = (if b = true then 2 * W else 2 * W + 1) ∧ Ux ps H0 H' ∧ LamX.Tabs (brT pt) H' ∧ H' pl = some (.lst ((dots row d).map V.int)) ∧ H' la = some (.lst ((natL lf).map V.int)) ∧
  la ≠ pl ∧ UkX C pl H' ul ps d ∧ Shf cols d ∧ ColN N d ∧ d.length = u ∧ Wst row d lf u M M' W F F' b ∧ M ≤ F ∧ M' ≤ F' ∧ W < 2 ^ 7980 ∧ (lf = [] → d = cols)
theorem tabs_by {T : List (Addr × Str)} {H H' : Hp} (t : LamX.Tabs T H) (h : ∀ (c : Addr) (x : HO), ((∃ q, x = .tbl q) ∨ ∃ a q, x = LamX.CodeO a q) → H c = some x → H' c = some x) : LamX.Tabs T H' := fun p hp => by
  obtain ⟨ps, h1, h2, h3⟩ := t p hp
  refine ⟨ps, h _ _ (.inl ⟨_, rfl⟩) h1, h2, fun pos cv hc => ?_⟩
  obtain ⟨c, e1, e2⟩ := h3 pos cv hc
  exact ⟨c, e1, h _ _ (.inr ⟨_, _, rfl⟩) e2⟩
theorem tabs_upd {T : List (Addr × Str)} {H : Hp} {l : Addr} {x o : HO} (t : LamX.Tabs T H) (h : H l = some x) (n1 : ∀ q, x ≠ .tbl q) (n2 : ∀ a q, x ≠ LamX.CodeO a q) : LamX.Tabs T (upd H l o) := tabs_by t fun c y hy e => by
  rw [upd_ne]
  · exact e
  · intro z
    rw [z, h] at e
    cases e
    rcases hy with ⟨q, rfl⟩ | ⟨a, q, rfl⟩
    · exact n1 _ rfl
    · exact n2 _ _ rfl
theorem lst_code {xs : List V} (a : Addr) (q : Str) : HO.lst xs ≠ LamX.CodeO a q := fun z => by
  unfold LamX.CodeO at z
  cases z
theorem frz_code {o : Obj} {u : HO} (a : Addr) (q : Str) : HO.frz o u ≠ LamX.CodeO a q := fun z => by
  unfold LamX.CodeO at z
  cases z
theorem ins_code {C dx : Addr} {fs : List (Str × V)} (a : Addr) (q : Str) : HO.ins C dx fs ≠ LamX.CodeO a q := fun z => by
  unfold LamX.CodeO at z
  cases z
theorem map_erase {α β : Type} (f : α → β) : ∀ (xs : List α) (k : Nat), (xs.map f).eraseIdx k = (xs.eraseIdx k).map f
  | [], _ => rfl
  | _ :: _, 0 => rfl
  | x :: xs, k + 1 => congrArg (List.cons (f x)) (map_erase f xs k)
theorem dots_get {row : List Int} {d : List Col} {k : Nat} {c : Col} (h : d[k]? = some c) : (dots row d)[k]? = some (dotL row c.1) := by
  unfold dots
  rw [List.getElem?_map, h]
  rfl
theorem atI_get {xs : List Int} {k : Nat} {x : Int} (h : xs[k]? = some x) : atI (xs.map V.int) ((k : Nat) : Int) = some (.int x) := atI_nat (by rw [List.getElem?_map, h]; rfl)
theorem natL_get {lf : List Nat} {i : Nat} {v : V} (h : ((natL lf).map V.int)[i]? = some v) : ∃ k, lf[i]? = some k ∧ v = .int (k : Int) := by
  obtain ⟨x, hx, rfl⟩ := ints_get h
  rw [List.getElem?_map] at hx
  cases e : lf[i]? with
  | none => rw [e] at hx; cases hx
  | some k => rw [e] at hx; exact ⟨k, rfl, by rw [← Option.some.inj hx]⟩
theorem ok_br {C f c fS fN fH : Addr} {fd dS dN dH : FuncData} (F : FunC K "_brought_together" "_brought_together" sBrought f c fd) (cu : ClU K C) (FS : Fun K "_summed" "_summed" sSummed fS dS) (bS : Binds K dS ["row", "stands"] []) (gS : mg "_summed" = some (.ref fS))
    (FN : Fun K "_nearest" "_nearest" sNear fN dN) (bN : Binds K dN ["above", "below"] []) (gN : mg "_nearest" = some (.ref fN)) (FH : Fun K "_shift" "_shift" sShift fH dH) (bH : Binds K dH ["one", "other", "n"] []) (gH : mg "_shift" = some (.ref fH))
    (TB : LamX.TabB base mg c pt) (mz : mg "zip" = none) (mu : mg "sum" = none) (me : mg "enumerate" = none) (ml : mg "len" = none) (mm : mg "min" = none) (ma : mg "abs" = none) : FnOk P w K mg base CX0 4 f fd ["row", "unknowns"] (spBr C pt) := by
  have GS : FnOk P w K mg base CX0 1 fS dS ["row", "stands"] spSummed := ok_summed FS mu mz
  have GN : FnOk P w K mg base CX0 1 fN dN ["above", "below"] spNear := ok_near FN
  have GH : FnOk P w K mg base CX0 1 fH dH ["one", "other", "n"] (spShift C) := ok_shift FH cu mz
  refine F.ok scBr (fun vs H Q E h => ?_) (fun A outer s H vs Q E hr h => ?_)
  · obtain ⟨a, ul, row, ps, cols, N, u, M, M', W, F, F', rfl, _⟩ := h
    rfl
  · obtain ⟨a, ul, row, ps, cols, N, u, M0, M0', W0, F1, F1', rfl, bi, tb, q⟩ := h
    have nd := scBr.nd
    have hr1 : Room 1 _ := hr.mono (by omega)
    refine ⟨_, pss_cons (ps_set (i := 2) nd rfl (.inr rfl) (pe_lc (own := [("unknown", 7)]) (g := gName 7) (tt := tYes) rfl nd (pi_list (pv 1)) (blkOk_by (N := scBrN) (sc := defScope sBrought) (by decide +kernel)) (fun _ _ _ _ _ => pg_name (i := 7) nd rfl (Or.inl rfl)) (fun _ _ _ _ _ => pts_nil)
          (fun _ _ _ _ _ => pe_call GS hr1 (by rfl) gS FS.kp bS .nil pass0 (pa_cons (pv 0) (pa_cons (show PE _ _ (tFld K (tVar 7) "stands") from pe_fld (pv 7) rfl) pa_nil)))))
      (pss_cons (ps_setLc (i := 3) rfl nd rfl rfl rfl (own := [("at", 5), ("many", 8)]) (g := gTup K 2 (gCons (gName 5) (gCons (gName 8) gNil))) (pi_enum (by rfl) me (pa_cons (pv 2) pa_nil)) (blkOk_by (N := scBrN) (sc := defScope sBrought) (by decide +kernel)) (fun _ _ _ _ _ => by exact pg_tup rfl (pgs_cons (pg_name (i := 5) nd rfl (Or.inl rfl)) (pgs_cons (pg_name (i := 8) nd rfl (Or.inl rfl)) pgs_nil)))
          (fun _ _ _ _ _ => pts_one (pt_cmpR op_ne (pv 8) pe_int (nomark _))) (fun _ _ _ _ _ => pv 5))
      (pss_cons (ps_while PassesOwn.never (pt_cmpR op_gt (pe_callB call_len_seq (by rfl) ml PySem.boot_len (pa_cons (pv 3) pa_nil)) pe_int (nomark _))
        (pss_cons (ps_set (i := 4) nd rfl (.inl rfl) (pe_lock (MM.pe_minLam (T := [(pt, qLam)]) (N := ["place", "powers"]) (fr := ["powers"]) (js := [2]) (k := 0) (y := "place") rfl (by rfl) mm (pv 3) TB rfl (List.mem_singleton.mpr rfl) (fun p hp _ => by rw [List.mem_singleton.mp hp]; rfl)
            (NdefX.nscope_by (by decide +kernel)) (fun ok => NdefX.Caps.made ok (NdefX.ndef_free (sc := defScope sBrought) (fr := ["powers"]) (by decide +kernel)) (NdefX.ndef_fr (sc := defScope sBrought) (by decide +kernel)) rfl) (fun ok y hy e => (NdefX.ndef_free (sc := defScope sBrought) (fr := ["powers"]) (by decide +kernel) y hy e).elim (fun z => ok.has _ (.inl z)) fun z => ok.has _ (.inr z)) rfl (fun _ _ _ _ _ _ => rfl) (hr.mono (by omega))
            (fun _ _ _ _ _ _ _ => pe_callB call_abs (by rfl) ma PyProof.Rows.boot_abs (pa_cons (pe_ix (show IxR _ (rIxL K) from ix_list) (pv 1) (pv 0) (fun _ _ => rfl)) pa_nil)))))
        (pss_cons (ps_for PassesOwn.never rfl (pi_list (pv 3)) (pg_name (i := 5) nd rfl (.inl rfl))
          (pss_one (ps_if (pt_cmpR op_ne (pv 5) (pv 4) (nomark _))
            (pss_cons (ps_set (i := 6) nd rfl (.inl rfl) (pe_call GN hr1 (by rfl) gN FN.kp bN .nil pass0 (pa_cons (pe_ix ix_list (pv 2) (pv 5) (fun _ _ => rfl)) (pa_cons (pe_ix ix_list (pv 2) (pv 4) (fun _ _ => rfl)) pa_nil))))
            (pss_cons (ps_asg (pe_op op_sub (pe_ix ix_list (pv 2) (pv 5) (fun _ _ => rfl)) (pe_op op_mulW (pv 6) (pe_ix ix_list (pv 2) (pv 4) (fun _ _ => rfl)))) (pg_sub (pv 2) (pv 5) set_list))
            (pss_one (ps_expr (pe_call GH hr1 (by rfl) gH FH.kp bH .nil pass0 (pa_cons (pe_ix ix_list (pv 1) (pv 5) (fun _ _ => rfl)) (pa_cons (pe_ix ix_list (pv 1) (pv 4) (fun _ _ => rfl)) (pa_cons (pv 6) pa_nil)))))))) pss_nil)))
        (pss_one (ps_setLc (i := 3) rfl nd rfl rfl rfl (own := [("at", 5)]) (g := gName 5) (pi_list (pv 3)) (blkOk_by (N := scBrN) (sc := defScope sBrought) (by decide +kernel)) (fun _ _ _ _ _ => pg_name (i := 5) nd rfl (Or.inl rfl))
          (fun _ _ _ _ _ => pts_one (pt_cmpR op_ne (pe_ix (show IxR _ (rIxL K) from ix_list) (pv 2) (pv 5) (fun _ _ => rfl)) pe_int (nomark _))) (fun _ _ _ _ _ => pv 5))))))
      (pss_cons (ps_if (pt_cmpR op_eq (pe_callB call_len_seq (by rfl) ml PySem.boot_len (pa_cons (pv 3) pa_nil)) pe_int (nomark _)) (pss_one (ps_ret pe_int)) pss_nil)
      (pss_cons (ps_expr (pe_bm PySem.F.plainAttrs_list PySem.F.slot_list_append PySem.F.type_list_append mt_append (pv 1) (pa_cons (pe_bm PySem.F.plainAttrs_list PySem.F.slot_list_pop PySem.F.type_list_pop mt_popAt (pv 1) (pa_cons (pe_ix ix_list (pv 3) pe_int (fun _ _ => rfl)) pa_nil)) pa_nil)))
      (pss_one (ps_ret (pe_ix ix_list (pv 2) (pe_ix ix_list (pv 3) pe_int (fun _ _ => rfl)) (fun _ _ => rfl)))))))), ?_⟩
    have kS : sizeLine = 16777216 := sizeLine_eq
    have u32 := bi.u32
    have lu := bi.lu
    have lp := bi.uk.len
    -- powers
    refine ⟨_, rfl, ul, rfl, ⟨_, SqL.of bi.uk.l⟩, fun pl npl => ?_⟩
    have sm0 : ∀ c ∈ cols, SmL 48000 c.1 := fun c hc => ((bi.st c hc).1).sm (Nat.lt_of_le_of_lt (by
      have := le_pow1 (M := 3 * M0) (k := 3) bi.w1
      have := bi.f1
      omega) bi.b1)
    refine lc_list (xs := ps.map V.ref) (fun i H2 => Same H H2 ∧ H2 pl = some (.lst (((dots row cols).take i).map V.int))) ⟨same_new npl, upd_same⟩ (fun i H2 _ z => SqL.of (z.1 _ _ bi.uk.l)) ?_ ?_
    · rintro i x H2 hx ⟨sm, hD⟩
      obtain ⟨p, hp, rfl⟩ := at_map hx
      obtain ⟨c, hc, hu⟩ := paired_ix bi.uk.u hp
      have cm := List.mem_of_getElem? hc
      have hi : i < cols.length := (List.getElem?_eq_some_iff.mp hc).1
      obtain ⟨dx, sa, ma, h1, h2, h3⟩ := hu
      refine ⟨rfl, ?_⟩
      refine ⟨_, rfl, _, rfl, p, C, dx, _, _, rfl, sm _ _ h1, cu.cl, cu.nS, fldsU_s _ _, ?_⟩
      refine ⟨a, sa, row, c.1, N, 48000, rfl, sm _ _ bi.r, sm _ _ h2, bi.lr, (bi.cn c cm).1, bi.lN, bi.br, sm0 c cm, by decide, fun H3 s3 => ?_⟩
      refine ⟨_, s3 _ _ hD, ?_, same_upd (sm.trans s3) npl, ?_⟩
      · rw [List.length_map, List.length_take]
        omega
      · rw [upd_same, mapInt_snoc, take_more (dots_get hc)]
    rintro H1 ⟨s1, hpl⟩
    have e1 : (dots row cols).take (ps.map V.ref).length = dots row cols := by
      rw [List.take_of_length_le]
      unfold dots
      rw [List.length_map, List.length_map]
      omega
    rw [e1] at hpl
    have dl : (dots row cols).length = u := by unfold dots; rw [List.length_map]; exact lu
    -- left
    refine ⟨_, rfl, pl, _, rfl, SqL.of hpl, fun la nla => ?_⟩
    refine lc_it walk_enum (fun i H2 => Same H1 H2 ∧ ∃ lf : List Nat, H2 la = some (.lst ((natL lf).map V.int)) ∧ lf.Nodup ∧ lf.length ≤ i ∧ ∀ k, k ∈ lf ↔ k < i ∧ ∃ x, (dots row cols)[k]? = some x ∧ x ≠ 0) ⟨same_new nla, [], upd_same, List.nodup_nil, Nat.le_refl _, fun k => ⟨fun h => absurd h (by simp), fun h => absurd h.1 (Nat.not_lt_zero _)⟩⟩ (fun i H2 _ z => SqL.of (z.1 _ _ hpl)) ?_ ?_
    · rintro i x H2 H3 hi ⟨sm, lf, hD, nd1, len, mem⟩ ⟨T, y, v, rfl, hT, rfl, hy, hv⟩
      obtain rfl : V.int (i : Nat) = y := Option.some.inj hy
      obtain ⟨x, hx, rfl⟩ := ints_get hv
      have sT := same_new (o := .tup [V.int (i : Nat), V.int x]) hT
      refine ⟨T, _, rfl, SqT.of upd_same, rfl, _, _, rfl, _, _, rfl, rfl, rfl, ?_⟩
      refine ⟨_, rfl, rfl, _, rfl, ?_⟩
      have hi2 : i < u := by rw [← dl]; exact (List.getElem?_eq_some_iff.mp hx).1
      by_cases x0 : x = 0
      · rw [show (!decide (V.int x = V.int 0)) = false by rw [x0]; rfl]
        refine ⟨sm.trans sT, lf, sT _ _ hD, nd1, by omega, fun k => ?_⟩
        rw [mem]
        constructor
        · rintro ⟨h1, h2⟩
          exact ⟨by omega, h2⟩
        · rintro ⟨h1, y, h2, h3⟩
          refine ⟨?_, y, h2, h3⟩
          have : k ≠ i := fun z => by
            rw [z, hx] at h2
            cases h2
            exact h3 x0
          omega
      · rw [show (!decide (V.int x = V.int 0)) = true by rw [decide_eq_false fun z => x0 (V.int.inj z)]; rfl]
        refine ⟨_, rfl, _, sT _ _ hD, ?_, same_upd (sm.trans sT) nla, lf ++ [i], ?_, ?_, ?_, fun k => ?_⟩
        · rw [List.length_map, List.length_map]
          omega
        · rw [upd_same]
          unfold natL
          rw [List.map_append, List.map_append]
          rfl
        · rw [List.nodup_append]
          refine ⟨nd1, List.pairwise_singleton _ _, fun a ha b hb e => ?_⟩
          rw [List.mem_singleton.mp hb] at e
          rw [e, mem] at ha
          omega
        · rw [List.length_append]
          exact Nat.add_le_add_right len 1
        · rw [List.mem_append, List.mem_singleton, mem]
          constructor
          · rintro (⟨h1, h2⟩ | rfl)
            · exact ⟨by omega, h2⟩
            · exact ⟨by omega, x, hx, x0⟩
          · rintro ⟨h1, h2⟩
            by_cases z : k = i
            · exact .inr z
            · exact .inl ⟨by omega, h2⟩
    rintro H2 ⟨s2, lf, hla, nd1, len, mem⟩
    rw [List.length_map, dl] at mem
    have s12 := s1.trans s2
    have hpl2 := s2 _ _ hpl
    refine ⟨BrS C pt a ul pl row ps cols H N u F1 F1', ⟨_, cols, lf, la, none, none, none, M0, M0', W0, false, rfl, rfl, .of s12, tb.ext s12, hpl2, hla, (fun e => by rw [e, hpl] at nla; cases nla), ⟨s12 _ _ bi.uk.l, bi.uk.nd, Paired.mono (fun _ _ u => (u.x npl).keep (fun x e _ => s12 _ _ e) fun c xs _ e => s12 _ _ e) bi.uk.u, ne_of_none bi.uk.l npl⟩, .refl _, bi.cn, lu, ?_, ?_, ?_, bi.bw, fun _ => rfl⟩, ?_⟩
    · refine ⟨nd1, fun k hk => ?_, fun k c hc => ?_, bi.w1, fun k c hk hc => bi.pw c (List.mem_of_getElem? hc), bi.st, .inl ⟨rfl, bi.f1, bi.f2⟩⟩
      · have := ((mem k).mp hk).1
        omega
      · rw [mem]
        have hk : k < u := by rw [← lu]; exact (List.getElem?_eq_some_iff.mp hc).1
        constructor
        · rintro ⟨_, x, hx, x0⟩
          rw [dots_get hc] at hx
          cases hx
          exact x0
        · intro n
          exact ⟨hk, _, dots_get hc, n⟩
    · have := le_pow1 (M := 3 * M0) (k := 3) bi.w1
      have := bi.f1
      omega
    · exact bi.f3
    clear s2 hla nd1 len mem s12 hpl2 lf la nla
    rintro mm σ H3 ⟨d, lf, la, v4, v5, v6, M, M', W, b, rfl, em, ux, tb3, hpl3, hla3, lapl, ukx, shf, cn, ld, ws, mf, mf', bw, lfe⟩
    have nlen : ((natL lf).map V.int).length = lf.length := by rw [List.length_map, List.length_map]
    refine ⟨_, rfl, la, _, rfl, .inl (SqL.of hla3), _, _, rfl, rfl, _, rfl, ?_⟩
    rw [nlen]
    by_cases big : 1 < lf.length
    · rw [decide_eq_true (show (1 : Int) < (lf.length : Int) by omega)]
      refine ⟨fun σ' H'' => ∃ m', m' < mm ∧ BrS C pt a ul pl row ps cols H N u F1 F1' m' σ' H'', fun _ _ h => h, ?_⟩
      -- the least
      refine ⟨la, .lst ((natL lf).map V.int), hla3, trivial, fun od => ?_⟩
      have lfn : natL lf ≠ [] := fun e => by
        have := congrArg List.length e
        rw [List.length_map] at this
        have : lf.length = 0 := this
        omega
      refine ⟨_, rfl, tabs_upd tb3 hla3 (fun _ e => nomatch e) lst_code, la, od, natL lf, fun z => (((dots row d).getD z.toNat 0).natAbs : Nat), rfl, upd_same, lfn, fun H4 eN T4 => ?_⟩
      have kf : ∀ {k : Nat} {c : Col}, d[k]? = some c → (dots row d).getD ((k : Nat) : Int).toNat 0 = dotL row c.1 := fun hc => by
        rw [Int.toNat_natCast, List.getD_eq_getElem?_getD, dots_get hc]
        rfl
      have k34 : ∀ c x, (∀ q, x ≠ .tbl q) → c ≠ la → H3 c = some x → H4 c = some x := fun c x n hc e => eN c x (by rw [upd_ne hc]; exact e) n
      have hla4 : H4 la = some (.frz od (.lst ((natL lf).map V.int))) := eN _ _ upd_same (fun _ e => nomatch e)
      have hpl4 : H4 pl = some (.lst ((dots row d).map V.int)) := k34 _ _ (fun _ e => nomatch e) lapl.symm hpl3
      refine ⟨fun n hn => ?_, fun n hn hmin => ?_⟩
      · obtain ⟨k, hk, rfl⟩ := List.mem_map.mp hn
        have hc := List.getElem?_eq_getElem (ws.lt k hk)
        refine ⟨_, rfl, _, rfl, pl, _, _, _, rfl, rfl, SqL.of hpl4, atI_get (dots_get hc), _, rfl, ?_, rfl⟩
        show V.int _ = V.int (((dots row d).getD ((k : Nat) : Int).toNat 0).natAbs : Nat)
        rw [abs_natI, kf hc]
      obtain ⟨e, he, rfl⟩ := List.mem_map.mp hn
      have hce := List.getElem?_eq_getElem (ws.lt e he)
      refine ⟨hla4, ?_⟩
      have k35 : ∀ c x, (∀ q, x ≠ .tbl q) → H3 c = some x → upd H4 la (.lst ((natL lf).map V.int)) c = some x := fun c x n ec => by
        by_cases z : c = la
        · rw [z, hla3] at ec
          cases ec
          rw [z, upd_same]
        · rw [upd_ne z]
          exact k34 c x n z ec
      have tb5 : LamX.Tabs (brT pt) (upd H4 la (.lst ((natL lf).map V.int))) := tabs_upd T4 hla4 (fun _ e => nomatch e) frz_code
      generalize upd H4 la (.lst ((natL lf).map V.int)) = H5 at k35 tb5 ⊢
      obtain ⟨L, hL⟩ : ∃ L, (dotL row (d[e]'(ws.lt e he)).1).natAbs = L := ⟨_, rfl⟩
      have mn : ∀ (k : Nat) (c : Col), k ∈ lf → d[k]? = some c → L ≤ (dotL row c.1).natAbs := fun k c hk hc => by
        have this : ((((dots row d).getD ((e : Nat) : Int).toNat 0).natAbs : Nat) : Int) ≤ ((((dots row d).getD ((k : Nat) : Int).toNat 0).natAbs : Nat) : Int) := hmin _ (List.mem_map.mpr ⟨k, hk, rfl⟩)
        rw [kf hce, kf hc, hL] at this
        omega
      have dne : dotL row (d[e]'(ws.lt e he)).1 ≠ 0 := (ws.iff e _ hce).mp he
      have Lpos : 1 ≤ L := by omega
      have LW : L ≤ W := by
        have := ws.pw e _ he hce
        omega
      have qW : W / L + 1 < 2 ^ 7981 := by
        have := Nat.div_le_self W L
        have h2 : (2 : Nat) ^ 7981 = 2 * 2 ^ 7980 := by rw [Nat.pow_succ, Nat.mul_comm]
        omega
      -- all others nearer to nought
      refine ⟨_, rfl, la, rfl, ⟨_, SqL.of (k35 _ _ (fun _ e => nomatch e) hla3)⟩, for_list (xs := (natL lf).map V.int) (fun i σ H' => ∃ (d' : List Col) (v5 v6 : Option V), σ = [some (.ref a), some (.ref ul), some (.ref pl), some (.ref la), some (.int ((e : Nat) : Int)), v5, v6, none, none] ∧ Ux ps H H' ∧ LamX.Tabs (brT pt) H' ∧
          H' pl = some (.lst ((dots row d').map V.int)) ∧ H' la = some (.lst ((natL lf).map V.int)) ∧ UkX C pl H' ul ps d' ∧ Shf cols d' ∧ ColN N d' ∧ d'.length = u ∧ InIt row d d' lf i e L M M' (W / L + 1))
        ⟨d, v5, v6, rfl, fun c x n t ec => k35 c x t (ux c x n t ec), tb5, k35 _ _ (fun _ e => nomatch e) hpl3, k35 _ _ (fun _ e => nomatch e) hla3, ukx.ext hpl3 (fun c x _ t ec => k35 c x t ec), shf, cn, ld, .start ws.st⟩ (fun i σ H' _ z => by obtain ⟨_, _, _, _, _, _, _, h, _⟩ := z; exact SqL.of h) ?_ ?_⟩
      · rintro i x σ H6 hx ⟨d', w5, w6, rfl, ux6, tb6, hpl6, hla6, uk6, shf6, cn6, ld6, I6⟩
        obtain ⟨t, ht, rfl⟩ := natL_get hx
        have tl : t ∈ lf := List.mem_of_getElem? ht
        have tlt : t < d'.length := by have := ws.lt t tl; omega
        have elt : e < d'.length := by have := ws.lt e he; omega
        refine ⟨_, rfl, _, rfl, rfl, _, rfl, ?_⟩
        by_cases te : t = e
        · rw [show (!decide (V.int ((t : Nat) : Int) = V.int ((e : Nat) : Int))) = false by rw [te, decide_eq_true rfl]; rfl]
          refine iteF ?_
          exact ⟨d', _, w6, rfl, ux6, tb6, hpl6, hla6, uk6, shf6, cn6, ld6, I6.skip (by rw [← te]; exact ht)⟩
        · rw [show (!decide (V.int ((t : Nat) : Int) = V.int ((e : Nat) : Int))) = true by rw [decide_eq_false fun z => te (by have := V.int.inj z; omega)]; rfl]
          refine iteT ?_
          obtain ⟨⟨s1, m1⟩, hct⟩ : ∃ c : Col, d'[t]? = some c := ⟨_, List.getElem?_eq_getElem tlt⟩
          obtain ⟨⟨s2, m2⟩, hce'⟩ : ∃ c : Col, d'[e]? = some c := ⟨_, List.getElem?_eq_getElem elt⟩
          have nt : t ∉ lf.take i := fun z => by
            obtain ⟨j, hj⟩ := List.mem_iff_getElem?.mp z
            rw [List.getElem?_take] at hj
            split at hj
            · have := nd_inj ws.nd hj ht
              omega
            · cases hj
          obtain ⟨c1, g1, f1⟩ := I6.p1 t _ hct (.inl nt)
          obtain ⟨c2, g2, f2⟩ := I6.p1 e _ hce' (.inr rfl)
          obtain ⟨c3, g3, f3⟩ := I6.p2 t _ hct te
          have f1 : s1 = c1.1 := f1
          have f2 : s2 = c2.1 := f2
          have f3 : m1 = c3.2 := f3
          rw [hce] at g2
          cases g2
          have pA : (dotL row s1).natAbs ≤ W := by rw [f1]; exact ws.pw t c1 tl g1
          have pB : (dotL row s2).natAbs = L := by rw [f2]; exact hL
          have b0 : dotL row s2 ≠ 0 := by rw [f2]; exact dne
          have smA : Sm 7985 (dotL row s1) := Sm.mono (a := 7980) (Nat.lt_of_le_of_lt pA bw) (by decide)
          have smB : Sm 7985 (dotL row s2) := Sm.mono (a := 7980) (show (dotL row s2).natAbs < 2 ^ 7980 by omega) (by decide)
          obtain ⟨n1, n2⟩ := near_ok (a := dotL row s1) b0
          have nq : (nearest (dotL row s1) (dotL row s2)).natAbs ≤ W / L + 1 := by
            rw [pB] at n2
            have h3 : (nearest (dotL row s1) (dotL row s2)).natAbs * L ≤ W + L := by omega
            have h4 : (W + L) / L = W / L + 1 := Nat.add_div_right W (by omega)
            rw [← h4]
            exact (Nat.le_div_iff_mul_le (by omega)).mpr h3
          have smn : Sm 7985 (nearest (dotL row s1) (dotL row s2)) := Sm.mono (a := 7981) (Nat.lt_of_le_of_lt nq qW) (by decide)
          refine ⟨_, rfl, _, rfl, pl, _, _, _, rfl, rfl, SqL.of hpl6, atI_get (dots_get hct), _, rfl, _, rfl, pl, _, _, _, rfl, rfl, SqL.of hpl6, atI_get (dots_get hce'), ?_⟩
          refine ⟨_, _, 7985, rfl, b0, smA, smB, by decide, ?_⟩
          generalize nearest (dotL row s1) (dotL row s2) = n at n1 n2 nq smn ⊢
          refine ⟨_, rfl, _, rfl, pl, _, _, _, rfl, rfl, SqL.of hpl6, atI_get (dots_get hct), _, rfl, _, rfl, _, rfl, pl, _, _, _, rfl, rfl, SqL.of hpl6, atI_get (dots_get hce'), _, _, rfl, rfl, smn.mulW smB (by decide), _, _, rfl, rfl, ?_⟩
          have tl2 : t < ((dots row d').map V.int).length := by unfold dots; rw [List.length_map, List.length_map]; exact tlt
          refine ⟨_, rfl, _, rfl, pl, _, _, t, rfl, rfl, hpl6, Evl.ixN_nat tl2, ?_⟩
          have k67 : ∀ c x, c ≠ pl → H6 c = some x → upd H6 pl (.lst (((dots row d').map V.int).set t (V.int (dotL row s1 - n * dotL row s2)))) c = some x := fun c x hc ec => by rw [upd_ne hc]; exact ec
          have uk7 := uk6.ext (H' := upd H6 pl (.lst (((dots row d').map V.int).set t (V.int (dotL row s1 - n * dotL row s2))))) hpl6 fun c x hc _ ec => k67 c x hc ec
          have tb7 : LamX.Tabs (brT pt) (upd H6 pl (.lst (((dots row d').map V.int).set t (V.int (dotL row s1 - n * dotL row s2))))) := tabs_upd tb6 hpl6 (fun _ e => nomatch e) lst_code
          have ux7 : Ux ps H (upd H6 pl (.lst (((dots row d').map V.int).set t (V.int (dotL row s1 - n * dotL row s2))))) := ux6.upd npl
          have hpl7 : upd H6 pl (.lst (((dots row d').map V.int).set t (V.int (dotL row s1 - n * dotL row s2)))) pl = some (.lst (((dots row d').map V.int).set t (V.int (dotL row s1 - n * dotL row s2)))) := upd_same
          have hla7 := k67 la _ lapl hla6
          generalize upd H6 pl (.lst (((dots row d').map V.int).set t (V.int (dotL row s1 - n * dotL row s2)))) = H7 at uk7 tb7 ux7 hpl7 hla7 ⊢
          have lps : ps.length = d'.length := uk7.at_.len
          obtain ⟨p, hp⟩ : ∃ p, ps[t]? = some p := ⟨_, List.getElem?_eq_getElem (by omega)⟩
          obtain ⟨p', hp'⟩ : ∃ p, ps[e]? = some p := ⟨_, List.getElem?_eq_getElem (by omega)⟩
          have pp : p ≠ p' := fun z => te (nd_inj uk7.nd hp (by rw [z]; exact hp'))
          obtain ⟨y1, hy1, un1⟩ := paired_ix uk7.u hp
          rw [hct] at hy1
          cases hy1
          obtain ⟨y2, hy2, un2⟩ := paired_ix uk7.u hp'
          rw [hce'] at hy2
          cases hy2
          have atp : ∀ {k : Nat} {p : Addr}, ps[k]? = some p → atI (ps.map V.ref) ((k : Nat) : Int) = some (.ref p) := fun h => atI_nat (by rw [List.getElem?_map, h]; rfl)
          obtain ⟨l1, l2⟩ := cn6 _ (List.mem_of_getElem? hct)
          obtain ⟨l3, l4⟩ := cn6 _ (List.mem_of_getElem? hce')
          refine ⟨_, rfl, _, rfl, ul, _, _, _, rfl, rfl, SqL.of uk7.l, atp hp, _, rfl, _, rfl, ul, _, _, _, rfl, rfl, SqL.of uk7.l, atp hp', _, rfl, ?_⟩
          refine ⟨p, p', pl, n, s1, m1, s2, m2, N, 48000, rfl, pp, ⟨_, hpl7⟩, un1, un2, l1, l2, l3, l4, bi.lN, smn.mono (by decide), ?_, ?_, by decide, fun H8 kp u1 u2 => ?_⟩
          · rw [f3]
            exact ((ws.st c3 (List.mem_of_getElem? g3)).2).sm (Nat.lt_of_le_of_lt mf' bi.b2)
          · rw [f2]
            exact ((ws.st _ (List.mem_of_getElem? hce)).1).sm (Nat.lt_of_le_of_lt mf bi.b1)
          have npp : ∀ {c : Addr} {x : HO}, (∀ dx fs, x ≠ .ins C dx fs) → H7 c = some x → H8 c = some x := fun {c x} nx ec => by
            obtain ⟨dx1, sa1, ma1, e1, _⟩ := un1
            obtain ⟨dx2, sa2, ma2, e2, _⟩ := un2
            refine kp c x (fun z => ?_) (fun z => ?_) ec
            · rw [z, e1] at ec
              cases ec
              exact nx _ _ rfl
            · rw [z, e2] at ec
              cases ec
              exact nx _ _ rfl
          have lr := bi.lr
          have ln : dotL row (lessL n s1 s2) = dotL row s1 - n * dotL row s2 := dot_less n row s1 s2 (by have : s1.length = N := l1; omega) (by have : s2.length = N := l3; omega)
          refine ⟨(d'.set t (lessL n s1 s2, m1)).set e (s2, moreL n m2 m1), _, _, rfl, fun c x hc tx ec => ?_, ?_, ?_, npp (fun _ _ e => nomatch e) hla7, uk7.shift te hct hce' hp hp' kp u1 u2, .step n shf6 te hct hce', cn6.shf hct hce', by rw [List.length_set, List.length_set]; exact ld6, I6.step ht te ws.nd ws.st hct hce' nq ?_⟩
          · exact kp c x (fun z => hc (by rw [z]; exact List.mem_of_getElem? hp)) (fun z => hc (by rw [z]; exact List.mem_of_getElem? hp')) (ux7 c x hc tx ec)
          · refine tabs_by tb7 fun c x hx ec => npp (fun dx fs z => ?_) ec
            rcases hx with ⟨q, rfl⟩ | ⟨a, q, rfl⟩
            · cases z
            · exact ins_code _ _ z.symm
          · rw [dots_shf cn6 lr te hct hce', List.map_set]
            exact npp (fun _ _ e => nomatch e) hpl7
          · rw [ln]
            omega
      · rintro σ H6 ⟨d', w5, w6, rfl, ux6, tb6, hpl6, hla6, uk6, shf6, cn6, ld6, I6⟩
        rw [nlen] at I6
        refine ⟨_, rfl, la, rfl, ⟨_, SqL.of hla6⟩, fun lb nlb => ?_⟩
        refine lc_list (xs := (natL lf).map V.int) (fun i H7 => Same H6 H7 ∧ H7 lb = some (.lst ((natL ((lf.take i).filter fun k => decide ((dots row d').getD k 0 ≠ 0))).map V.int))) ⟨same_new nlb, upd_same⟩ (fun i H7 _ z => SqL.of (z.1 _ _ hla6)) ?_ ?_
        · rintro i x H7 hx ⟨sm, hlb⟩
          obtain ⟨t, ht, rfl⟩ := natL_get hx
          have tl : t ∈ lf := List.mem_of_getElem? ht
          have tlt : t < d'.length := by have := ws.lt t tl; omega
          have hct := List.getElem?_eq_getElem tlt
          have eg : (dots row d').getD t 0 = dotL row (d'[t]'tlt).1 := by
            rw [List.getD_eq_getElem?_getD, dots_get hct]
            rfl
          have il : i < lf.length := (List.getElem?_eq_some_iff.mp ht).1
          have e : (lf.take (i + 1)).filter (fun k => decide ((dots row d').getD k 0 ≠ 0)) = (lf.take i).filter (fun k => decide ((dots row d').getD k 0 ≠ 0)) ++ (if dotL row (d'[t]'tlt).1 = 0 then [] else [t]) := by
            rw [take_more ht, List.filter_append, List.filter_cons, eg]
            by_cases z : dotL row (d'[t]'tlt).1 = 0
            · rw [if_pos z, decide_eq_false (fun h => h z)]
              rfl
            · rw [if_neg z, decide_eq_true z]
              rfl
          refine ⟨rfl, _, rfl, _, rfl, pl, _, _, _, rfl, rfl, SqL.of (sm _ _ hpl6), atI_get (dots_get hct), rfl, _, rfl, ?_⟩
          by_cases z : dotL row (d'[t]'tlt).1 = 0
          · rw [show (!decide (V.int (dotL row (d'[t]'tlt).1) = V.int 0)) = false by rw [z]; rfl]
            refine ⟨sm, ?_⟩
            rw [e, if_pos z, List.append_nil]
            exact hlb
          · rw [show (!decide (V.int (dotL row (d'[t]'tlt).1) = V.int 0)) = true by rw [decide_eq_false fun h => z (V.int.inj h)]; rfl]
            refine ⟨_, rfl, _, hlb, ?_, same_upd sm nlb, ?_⟩
            · have := List.length_filter_le (fun k => decide ((dots row d').getD k 0 ≠ 0)) (lf.take i)
              rw [List.length_take] at this
              have u2 : lf.length ≤ u := by
                have : ∀ x ∈ lf, x ∈ List.range u := fun x hx => List.mem_range.mpr (by have := ws.lt x hx; omega)
                have := List.Nodup.length_le_of_subset ws.nd this
                rw [List.length_range] at this
                exact this
              rw [List.length_map, List.length_map]
              omega
            · rw [upd_same, e, if_neg z]
              unfold natL
              rw [List.map_append, List.map_append]
              rfl
        rintro H7 ⟨sm, hlb⟩
        rw [nlen, List.take_length] at hlb
        have nx := ws.next (d := d') (lf' := lf.filter fun k => decide ((dots row d').getD k 0 ≠ 0)) (by omega) ld u32 big he hce hL mn I6 (List.Nodup.sublist List.filter_sublist ws.nd) (fun k => by
          rw [List.mem_filter, decide_eq_true_eq]
          constructor
          · rintro ⟨h1, h2⟩
            have kl : k < d'.length := by have := ws.lt k h1; omega
            have hk := List.getElem?_eq_getElem kl
            rw [List.getD_eq_getElem?_getD, dots_get hk] at h2
            exact ⟨h1, _, hk, h2⟩
          · rintro ⟨h1, c, hk, h2⟩
            rw [List.getD_eq_getElem?_getD, dots_get hk]
            exact ⟨h1, h2⟩)
        have u1 : 1 ≤ u := by have := ws.lt e he; omega
        obtain ⟨n3, n4⟩ := nx.1.le u1
        have ein : e ∈ lf.filter (fun k => decide ((dots row d').getD k 0 ≠ 0)) := by
          have elt : e < d'.length := by have := ws.lt e he; omega
          have hc := List.getElem?_eq_getElem elt
          obtain ⟨c2, g2, f2⟩ := I6.p1 e _ hc (.inr rfl)
          rw [hce] at g2
          cases g2
          rw [List.mem_filter, decide_eq_true_eq, List.getD_eq_getElem?_getD, dots_get hc]
          exact ⟨he, by show dotL row _ ≠ 0; rw [f2]; exact dne⟩
        exact ⟨2 * L, by rw [em]; exact nx.2, d', _, lb, _, _, _, _, _, L, true, rfl, rfl, ux6.same sm, tb6.ext sm, sm _ _ hpl6, hlb, (fun z => by rw [z, hpl6] at nlb; cases nlb), uk6.ext hpl6 (fun c x _ _ ec => sm c x ec), shf6, cn6, ld6, nx.1, n3, n4, by omega, fun z => by rw [z] at ein; exact absurd ein List.not_mem_nil⟩
    · rw [decide_eq_false (show ¬ (1 : Int) < (lf.length : Int) by omega)]
      have fb : ∀ c ∈ d, LeL F1 c.1 ∧ LeL F1' c.2 := fun c hc => ⟨(ws.st c hc).1.mono mf, (ws.st c hc).2.mono mf'⟩
      have uxx : Ux (ul :: ps) H H3 := fun c x hc t ec => ux c x (fun z => hc (List.mem_cons_of_mem _ z)) t ec
      refine ⟨_, rfl, la, _, rfl, .inl (SqL.of hla3), rfl, _, rfl, ?_⟩
      rw [nlen]
      cases lf with
      | nil =>
        refine iteT ?_
        refine q H3 d d ps 0 uxx tb3 shf cn fb ukx.at_ (.inl ⟨rfl, rfl, rfl, fun c hc => ?_⟩) (fun _ => lfe rfl)
        obtain ⟨k, hk⟩ := List.mem_iff_getElem?.mp hc
        by_cases z : dotL row c.1 = 0
        · exact z
        · exact absurd ((ws.iff k c hk).mpr z) (by simp)
      | cons l r =>
        obtain rfl : r = [] := by
          cases r with
          | nil => rfl
          | cons _ _ => exact absurd (show 1 < _ + 1 + 1 by omega) big
        refine iteF ?_
        have ll := ws.lt l List.mem_cons_self
        have hcl := List.getElem?_eq_getElem ll
        have lps : ps.length = d.length := ukx.at_.len
        obtain ⟨p, hp⟩ : ∃ p, ps[l]? = some p := ⟨_, List.getElem?_eq_getElem (by omega)⟩
        have a0 : atI ((natL [l]).map V.int) 0 = some (.int ((l : Nat) : Int)) := rfl
        have f0 : W < 2 ^ 7980 := bw
        have l63 : (l : Int) < 2 ^ 63 := by have : l < 32 := by omega
                                            omega
        refine ⟨_, rfl, .inl ⟨rfl, _, SqL.of ukx.l⟩, _, rfl, .inl ⟨rfl, _, SqL.of ukx.l⟩, _, rfl, la, _, 0, _, rfl, rfl, SqL.of hla3, a0, ?_⟩
        have ixl : seqIndex? ((l : Nat) : Int) (ps.map V.ref).length = some l := by
          exact (ixN_seq (Evl.ixN_nat (n := (ps.map V.ref).length) (j := l) (by rw [List.length_map]; omega))).1
        refine ⟨ul, ps.map V.ref, ((l : Nat) : Int), l, .ref p, rfl, rfl, ukx.l, by omega, l63, ixl, by rw [List.getElem?_map, hp]; rfl, ?_⟩
        refine ⟨ul, _, .ref p, rfl, rfl, upd_same, ?_, ?_⟩
        · have := List.length_eraseIdx_le (ps.map V.ref) l
          rw [List.length_map] at this
          omega
        rw [upd_upd]
        have er : (ps.map V.ref).eraseIdx l ++ [V.ref p] = (ps.eraseIdx l ++ [p]).map V.ref := by
          rw [List.map_append, map_erase]
          rfl
        rw [er]
        have nla2 : upd H3 ul (.lst ((ps.eraseIdx l ++ [p]).map V.ref)) la = some (.lst ((natL [l]).map V.int)) := fne ukx.l hla3 fun z => by
          have z := HO.lst.inj z
          cases ps with
          | nil => cases z
          | cons x y => exact absurd (List.cons.inj z).1 (fun e => nomatch e)
        have npl2 : upd H3 ul (.lst ((ps.eraseIdx l ++ [p]).map V.ref)) pl = some (.lst ((dots row d).map V.int)) := by
          rw [upd_ne ukx.ux.symm]
          exact hpl3
        refine ⟨_, rfl, _, rfl, la, _, 0, _, rfl, rfl, SqL.of nla2, a0, pl, _, _, _, rfl, rfl, SqL.of npl2, atI_get (dots_get hcl), ?_⟩
        refine q _ d _ _ _ (fun c x hc tx ec => ?_) (tabs_upd tb3 ukx.l (fun _ e => nomatch e) lst_code) shf cn fb (ukx.at_.turn hp hcl) (.inr ⟨(ws.iff l _ hcl).mp List.mem_cons_self, l, p, _, hp, hcl, rfl, rfl, rfl, fun i x hi ne => ?_⟩) (fun z => absurd z ((ws.iff l _ hcl).mp List.mem_cons_self))
        · rw [upd_ne (fun z => hc (by rw [z]; exact List.mem_cons_self))]
          exact uxx c x hc tx ec
        · by_cases z : dotL row x.1 = 0
          · exact z
          · exact absurd (List.mem_singleton.mp ((ws.iff i x hi).mpr z)) ne
end
end MK


set_option Elab.async false
set_option linter.all false
set_option maxRecDepth 100000
set_option maxHeartbeats 4000000
namespace MK
open PySem PySem.Spec PyProof.Rows L2
/-! ### what stands and what it is made of: inverse to each other -/
def atP (s : List Int) (p : Nat) : Int := s.getD p 0
/-- each made of what stands of it alone -/
def Dual (cs : List Col) : Prop := (∀ c ∈ cs, dotL c.2 c.1 = 1) ∧ cs.Pairwise fun c d => dotL c.2 d.1 = 0 ∧ dotL d.2 c.1 = 0
/-- all letters are told by them -/
def Full (N : Nat) (cs : List Col) : Prop := ∀ p q, p < N → q < N → (cs.map fun c => atP c.1 p * atP c.2 q).sum = if p = q then 1 else 0
theorem dual_ix {cs : List Col} : Dual cs ↔ ∀ (i j : Nat) (c d : Col), cs[i]? = some c → cs[j]? = some d → dotL c.2 d.1 = if i = j then 1 else 0 := by
  constructor
  · rintro ⟨h1, h2⟩ i j c d hc hd
    obtain ⟨li, ei⟩ := List.getElem?_eq_some_iff.mp hc
    obtain ⟨lj, ej⟩ := List.getElem?_eq_some_iff.mp hd
    have k := List.pairwise_iff_getElem.mp h2
    rcases Nat.lt_trichotomy i j with l | l | l
    · have := (k i j li lj l).1
      rw [ei, ej] at this
      rw [if_neg (by omega)]
      exact this
    · subst l
      rw [hc] at hd
      cases hd
      rw [if_pos rfl]
      exact h1 c (List.mem_of_getElem? hc)
    · have := (k j i lj li l).2
      rw [ei, ej] at this
      rw [if_neg (by omega)]
      exact this
  · intro h
    refine ⟨fun c hc => ?_, List.pairwise_iff_getElem.mpr fun i j hi hj l => ?_⟩
    · obtain ⟨i, hi⟩ := List.mem_iff_getElem?.mp hc
      have := h i i c c hi hi
      rwa [if_pos rfl] at this
    · have a := h i j _ _ (List.getElem?_eq_getElem hi) (List.getElem?_eq_getElem hj)
      have b := h j i _ _ (List.getElem?_eq_getElem hj) (List.getElem?_eq_getElem hi)
      rw [if_neg (by omega)] at a b
      exact ⟨a, b⟩
theorem Dual.perm {cs ds : List Col} (h : Dual cs) (p : cs.Perm ds) : Dual ds := ⟨fun c hc => h.1 c (p.mem_iff.mpr hc), (p.pairwise_iff (fun h => ⟨h.2, h.1⟩)).mp h.2⟩
theorem sum_perm {α : Type} (f : α → Int) {xs ys : List α} (p : xs.Perm ys) : (xs.map f).sum = (ys.map f).sum := by
  induction p with
  | nil => rfl
  | cons x _ ih => rw [List.map_cons, List.map_cons, List.sum_cons, List.sum_cons, ih]
  | swap x y l => simp only [List.map_cons, List.sum_cons]; omega
  | trans _ _ a b => exact a.trans b
theorem Full.perm {N : Nat} {cs ds : List Col} (h : Full N cs) (p : cs.Perm ds) : Full N ds := fun a b ha hb => by rw [← sum_perm _ p]; exact h a b ha hb
theorem atP_less {n : Int} {s t : List Int} {p : Nat} (l : s.length = t.length) : atP (lessL n s t) p = atP s p - n * atP t p := by
  unfold atP lessL
  rw [List.getD_eq_getElem?_getD, List.getElem?_zipWith, List.getD_eq_getElem?_getD, List.getD_eq_getElem?_getD]
  by_cases h : p < s.length
  · rw [List.getElem?_eq_getElem h, List.getElem?_eq_getElem (show p < t.length by omega)]
    rfl
  · rw [List.getElem?_eq_none (by omega), List.getElem?_eq_none (show t.length ≤ p by omega)]
    show (0 : Int) = 0 - n * 0
    omega
theorem atP_more {n : Int} {s t : List Int} {p : Nat} (l : s.length = t.length) : atP (moreL n s t) p = atP s p + n * atP t p := by
  unfold atP moreL
  rw [List.getD_eq_getElem?_getD, List.getElem?_zipWith, List.getD_eq_getElem?_getD, List.getD_eq_getElem?_getD]
  by_cases h : p < s.length
  · rw [List.getElem?_eq_getElem h, List.getElem?_eq_getElem (show p < t.length by omega)]
    rfl
  · rw [List.getElem?_eq_none (by omega), List.getElem?_eq_none (show t.length ≤ p by omega)]
    show (0 : Int) = 0 + n * 0
    omega
theorem dotL_more0 (n : Int) : ∀ (t r s : List Int), r.length = t.length → s.length = t.length → dotL (moreL n r s) t = dotL r t + n * dotL s t
  | [], [], [], _, _ => by show (0 : Int) = 0 + n * 0; omega
  | x :: t, a :: r, b :: s, h1, h2 => by
    have ih := dotL_more0 n t r s (by simpa using h1) (by simpa using h2)
    show (a + n * b) * x + dotL (moreL n r s) t = (a * x + dotL r t) + n * (b * x + dotL s t)
    rw [ih, Int.add_mul, Int.mul_add, Int.mul_assoc]
    omega
theorem dotL_more' (n : Int) (r s t : List Int) (h1 : r.length = t.length) (h2 : s.length = t.length) : dotL (moreL n r s) t = dotL r t + n * dotL s t := dotL_more0 n t r s h1 h2
theorem sum_set {α : Type} (f : α → Int) : ∀ (xs : List α) (i : Nat) (x y : α), xs[i]? = some x → ((xs.set i y).map f).sum = (xs.map f).sum - f x + f y
  | a :: xs, 0, x, y, h => by
    cases h
    simp only [List.set_cons_zero, List.map_cons, List.sum_cons]
    omega
  | a :: xs, i + 1, x, y, h => by
    have ih := sum_set f xs i x y h
    simp only [List.set_cons_succ, List.map_cons, List.sum_cons, ih]
    omega
theorem Shf.app {a b : List Col} (A : List Col) (h : Shf a b) : Shf (A ++ a) (A ++ b) := by
  induction h with
  | refl => exact .refl _
  | @step d i j s m s' m' n _ ne hi hj ih =>
    have e := Shf.step (i := A.length + i) (j := A.length + j) n ih (by omega) (by rw [List.getElem?_append_right (by omega), Nat.add_sub_cancel_left]; exact hi) (by rw [List.getElem?_append_right (by omega), Nat.add_sub_cancel_left]; exact hj)
    rw [List.set_append_right _ _ (by omega), Nat.add_sub_cancel_left, List.set_append_right _ _ (by omega), Nat.add_sub_cancel_left] at e
    exact e
theorem shf_keep {N : Nat} {a b : List Col} (h : Shf a b) (cn : ColN N a) : ColN N b ∧ (Dual a → Dual b) ∧ (Full N a → Full N b) := by
  induction h with
  | refl => exact ⟨cn, id, id⟩
  | @step d i j s m s' m' n _ ne hi hj ih =>
    obtain ⟨c1, d1, f1⟩ := ih
    obtain ⟨l1, l2⟩ := c1 _ (List.mem_of_getElem? hi)
    obtain ⟨l3, l4⟩ := c1 _ (List.mem_of_getElem? hj)
    have l1 : s.length = N := l1
    have l2 : m.length = N := l2
    have l3 : s'.length = N := l3
    have l4 : m'.length = N := l4
    refine ⟨c1.shf hi hj, fun ha => ?_, fun ha => ?_⟩
    · have k := dual_ix.mp (d1 ha)
      have li : i < d.length := (List.getElem?_eq_some_iff.mp hi).1
      have lj : j < d.length := (List.getElem?_eq_some_iff.mp hj).1
      have gj : ((d.set i (lessL n s s', m)).set j (s', moreL n m' m))[j]? = some (s', moreL n m' m) := List.getElem?_set_self (by rw [List.length_set]; exact lj)
      have gi : ((d.set i (lessL n s s', m)).set j (s', moreL n m' m))[i]? = some (lessL n s s', m) := by rw [List.getElem?_set_ne (fun z => ne z.symm), List.getElem?_set_self li]
      have go : ∀ x, x ≠ i → x ≠ j → ((d.set i (lessL n s s', m)).set j (s', moreL n m' m))[x]? = d[x]? := fun x h1 h2 => by rw [List.getElem?_set_ne (fun z => h2 z.symm), List.getElem?_set_ne (fun z => h1 z.symm)]
      refine dual_ix.mpr fun x y c e hc he => ?_
      -- made of x, standing of y
      have mk : ∃ cx : Col, d[x]? = some cx ∧ ((x ≠ j ∧ c.2 = cx.2) ∨ (x = j ∧ c.2 = moreL n m' m)) := by
        by_cases xj : x = j
        · rw [xj, gj] at hc
          cases hc
          exact ⟨_, by rw [xj]; exact hj, .inr ⟨xj, rfl⟩⟩
        · by_cases xi : x = i
          · rw [xi, gi] at hc
            cases hc
            exact ⟨(s, m), by rw [xi]; exact hi, .inl ⟨xj, rfl⟩⟩
          · rw [go x xi xj] at hc
            exact ⟨c, hc, .inl ⟨xj, rfl⟩⟩
      have sk : ∃ cy : Col, d[y]? = some cy ∧ ((y ≠ i ∧ e.1 = cy.1) ∨ (y = i ∧ e.1 = lessL n s s')) := by
        by_cases yi : y = i
        · rw [yi, gi] at he
          cases he
          exact ⟨_, by rw [yi]; exact hi, .inr ⟨yi, rfl⟩⟩
        · by_cases yj : y = j
          · rw [yj, gj] at he
            cases he
            exact ⟨(s', m'), by rw [yj]; exact hj, .inl ⟨yi, rfl⟩⟩
          · rw [go y yi yj] at he
            exact ⟨e, he, .inl ⟨yi, rfl⟩⟩
      obtain ⟨cx, hx, ex⟩ := mk
      obtain ⟨cy, hy, ey⟩ := sk
      have cl := c1 _ (List.mem_of_getElem? hx)
      have el := c1 _ (List.mem_of_getElem? hy)
      have k0 := k x y cx cy hx hy
      have kxj := k x j cx _ hx hj
      have kxi := k x i cx _ hx hi
      have kjy := k j y _ cy hj hy
      have kiy := k i y _ cy hi hy
      have kij := k i j _ _ hi hj
      have kii := k i i _ _ hi hi
      have kjj := k j j _ _ hj hj
      have kji := k j i _ _ hj hi
      have kxj : dotL cx.2 s' = if x = j then 1 else 0 := kxj
      have kxi : dotL cx.2 s = if x = i then 1 else 0 := kxi
      have kjy : dotL m' cy.1 = if j = y then 1 else 0 := kjy
      have kiy : dotL m cy.1 = if i = y then 1 else 0 := kiy
      have kij : dotL m s' = if i = j then 1 else 0 := kij
      have kii : dotL m s = if i = i then 1 else 0 := kii
      have kjj : dotL m' s' = if j = j then 1 else 0 := kjj
      have kji : dotL m' s = if j = i then 1 else 0 := kji
      rw [if_neg ne] at kij
      rw [if_pos rfl] at kii kjj
      rw [if_neg (fun z => ne z.symm)] at kji
      rcases ex with ⟨xj, ex⟩ | ⟨xj, ex⟩
      · rcases ey with ⟨yi, ey⟩ | ⟨yi, ey⟩
        · rw [ex, ey]
          exact k0
        · rw [ex, ey, dot_less n cx.2 s s' (by rw [cl.2]; exact l1) (by rw [cl.2]; exact l3), kxi, kxj, yi, if_neg xj]
          omega
      · rcases ey with ⟨yi, ey⟩ | ⟨yi, ey⟩
        · rw [ex, ey, dotL_more' n m' m cy.1 (by rw [el.1]; exact l4) (by rw [el.1]; exact l2), kjy, kiy, xj, if_neg (fun z : i = y => yi z.symm)]
          omega
        · rw [ex, ey, dotL_more' n m' m (lessL n s s') (by rw [less_len (by omega)]; omega) (by rw [less_len (by omega)]; omega), dot_less n m' s s' (by omega) (by omega), dot_less n m s s' (by omega) (by omega), kji, kjj, kii, kij, xj, yi, if_neg (fun z => ne z.symm)]
          omega
    · intro p q hp hq
      have k := f1 ha p q hp hq
      have hj2 : (d.set i (lessL n s s', m))[j]? = some (s', m') := by rw [List.getElem?_set_ne ne]; exact hj
      rw [sum_set _ _ j _ _ hj2, sum_set _ _ i _ _ hi, k]
      show _ - atP s p * atP m q + atP (lessL n s s') p * atP m q - atP s' p * atP m' q + atP s' p * atP (moreL n m' m) q = _
      rw [atP_less (by omega), atP_more (by omega), Int.sub_mul, Int.mul_add]
      have : n * atP s' p * atP m q = atP s' p * (n * atP m q) := by rw [Int.mul_comm n, Int.mul_assoc]
      rw [this]
      omega
end MK


set_option Elab.async false
set_option linter.all false
set_option maxRecDepth 100000
set_option maxHeartbeats 4000000
namespace MK
open PySem PySem.Spec PyProof.Rows L2
/-! ### what a row is over the columns, where all letters are told by them -/
abbrev SumF {α : Type} (xs : List α) (f : α → Int) : Int := (xs.map f).sum
theorem sf_congr {α : Type} {f g : α → Int} : ∀ {xs : List α}, (∀ x ∈ xs, f x = g x) → SumF xs f = SumF xs g := fun h => by
  show (List.map f _).sum = (List.map g _).sum
  rw [List.map_congr_left h]
theorem sf_mul {α : Type} (a : Int) (f : α → Int) : ∀ xs : List α, a * SumF xs f = SumF xs fun x => a * f x
  | [] => Int.mul_zero a
  | x :: xs => by
    have ih := sf_mul a f xs
    show a * (f x + SumF xs f) = a * f x + SumF xs fun x => a * f x
    rw [Int.mul_add, ih]
theorem sf_mulr {α : Type} (a : Int) (f : α → Int) (xs : List α) : SumF xs f * a = SumF xs fun x => f x * a := by
  rw [Int.mul_comm, sf_mul]
  exact sf_congr fun x _ => Int.mul_comm _ _
theorem sf_add {α : Type} (f g : α → Int) : ∀ xs : List α, SumF xs f + SumF xs g = SumF xs fun x => f x + g x
  | [] => rfl
  | x :: xs => by
    have ih := sf_add f g xs
    show (f x + SumF xs f) + (g x + SumF xs g) = (f x + g x) + SumF xs fun x => f x + g x
    rw [← ih]
    omega
theorem sf_zero {α : Type} {f : α → Int} : ∀ {xs : List α}, (∀ x ∈ xs, f x = 0) → SumF xs f = 0
  | [], _ => rfl
  | x :: xs, h => by
    show f x + SumF xs f = 0
    rw [h x (List.mem_cons_self ..), sf_zero fun y hy => h y (List.mem_cons_of_mem _ hy)]
    rfl
theorem sf_app {α : Type} (f : α → Int) (xs ys : List α) : SumF (xs ++ ys) f = SumF xs f + SumF ys f := by
  show (List.map f (xs ++ ys)).sum = _
  rw [List.map_append, List.sum_append]
theorem sf_swap {α β : Type} (f : α → β → Int) (ys : List β) : ∀ xs : List α, (SumF xs fun a => SumF ys fun b => f a b) = SumF ys fun b => SumF xs fun a => f a b
  | [] => (sf_zero fun _ _ => rfl).symm
  | x :: xs => by
    have ih := sf_swap f ys xs
    show SumF ys (fun b => f x b) + (SumF xs fun a => SumF ys fun b => f a b) = SumF ys fun b => f x b + SumF xs fun a => f a b
    rw [ih, sf_add]
theorem sf_range {f : Nat → Int} (n : Nat) : SumF (List.range (n + 1)) f = f 0 + SumF (List.range n) fun p => f (p + 1) := by
  show (List.map f (List.range (n + 1))).sum = _
  rw [List.range_succ_eq_map, List.map_cons, List.sum_cons, List.map_map]
  rfl
theorem sf_delta (g : Nat → Int) : ∀ (n p : Nat), p < n → (SumF (List.range n) fun q => g q * if p = q then 1 else 0) = g p
  | 0, _, h => by omega
  | n + 1, 0, _ => by
    rw [sf_range, sf_zero fun q _ => by rw [if_neg (by omega), Int.mul_zero]]
    rw [if_pos rfl]
    omega
  | n + 1, p + 1, h => by
    have ih := sf_delta (fun q => g (q + 1)) n p (by omega)
    rw [sf_range, if_neg (by omega), Int.mul_zero, Int.zero_add, ← ih]
    refine sf_congr fun q _ => ?_
    by_cases e : p = q
    · rw [if_pos e, if_pos (by omega)]
    · rw [if_neg e, if_neg (by omega)]
theorem dot_range : ∀ (r s : List Int), r.length = s.length → dotL r s = SumF (List.range s.length) fun p => atP r p * atP s p
  | [], [], _ => rfl
  | a :: r, b :: s, h => by
    have ih := dot_range r s (by simpa using h)
    show a * b + dotL r s = SumF (List.range (s.length + 1)) _
    rw [sf_range, ih]
    rfl
theorem mul4 (a b c d : Int) : (a * b) * (c * d) = (a * d) * (b * c) := by
  rw [Int.mul_assoc a, Int.mul_assoc a, ← Int.mul_assoc b, Int.mul_comm (b * c) d]
theorem full_dot {N : Nat} {cs : List Col} (cn : ColN N cs) (fu : Full N cs) {row x : List Int} (h1 : row.length = N) (h2 : x.length = N) : dotL row x = SumF cs fun c => dotL row c.1 * dotL c.2 x := by
  have e : (SumF cs fun c => dotL row c.1 * dotL c.2 x) = SumF cs fun c => SumF (List.range N) fun p => SumF (List.range N) fun q => (atP row p * atP x q) * (atP c.1 p * atP c.2 q) := sf_congr fun c hc => by
    obtain ⟨l1, l2⟩ := cn c hc
    rw [dot_range row c.1 (by omega), dot_range c.2 x (by omega), l1, h2, sf_mulr]
    refine sf_congr fun p _ => ?_
    rw [sf_mul]
    refine sf_congr fun q _ => ?_
    exact mul4 _ _ _ _
  rw [e, sf_swap, dot_range row x (by omega), h2]
  refine sf_congr fun p hp => ?_
  rw [sf_swap]
  have e2 : (SumF (List.range N) fun q => SumF cs fun c => (atP row p * atP x q) * (atP c.1 p * atP c.2 q)) = SumF (List.range N) fun q => (atP row p * atP x q) * if p = q then 1 else 0 := sf_congr fun q hq => by
    rw [← sf_mul, ← fu p q (List.mem_range.mp hp) (List.mem_range.mp hq)]
  rw [e2, sf_delta (fun q => atP row p * atP x q) N p (List.mem_range.mp hp)]
/-! ### what the choice makes of the settled ones -/
/-- settled ones with what each is made of: for each letter of the others, x being the choice's powers of it, what is settled is the choice's own -/
def Own (xs : Str → List Int) (sg : List (Stl × List Int)) : Prop := ∀ g ∈ sg, ∀ j, sumAt g.1.m j = dotL g.2 (xs j)
abbrev colsG (sg : List (Stl × List Int)) : List Col := sg.map fun g => (g.1.s, g.2)
theorem rest_own {N : Nat} {sg : List (Stl × List Int)} {cols : List Col} {m : Ms} {ls : List Str} {row : List Int} {xs : Str → List Int} (cn : ColN N (colsG sg ++ cols)) (fu : Full N (colsG sg ++ cols)) (hr : row.length = N) (hx : ∀ j, (xs j).length = N) (ow : Own xs sg)
    (hm : ∀ j, sumAt (notIn ls m) j + dotL row (xs j) = 0) (j : Str) : restAt m ls row (sg.map (·.1)) j = - SumF cols fun c => dotL row c.1 * dotL c.2 (xs j) := by
  have k := full_dot cn fu hr (hx j)
  rw [sf_app] at k
  have e : (SumF (colsG sg) fun c => dotL row c.1 * dotL c.2 (xs j)) = ((sg.map (·.1)).map fun x => sumAt x.m j * dotL row x.s).sum := by
    show (List.map _ (List.map _ sg)).sum = _
    rw [List.map_map, List.map_map]
    refine congrArg List.sum (List.map_congr_left fun g hg => ?_)
    show dotL row g.1.s * dotL g.2 (xs j) = sumAt g.1.m j * dotL row g.1.s
    rw [ow g hg j, Int.mul_comm]
  have h := hm j
  unfold restAt
  rw [← e]
  omega
theorem rest_none {N : Nat} {sg : List (Stl × List Int)} {cols : List Col} {m : Ms} {ls : List Str} {row : List Int} {xs : Str → List Int} (cn : ColN N (colsG sg ++ cols)) (fu : Full N (colsG sg ++ cols)) (hr : row.length = N) (hx : ∀ j, (xs j).length = N) (ow : Own xs sg)
    (hm : ∀ j, sumAt (notIn ls m) j + dotL row (xs j) = 0) (h0 : ∀ c ∈ cols, dotL row c.1 = 0) (j : Str) : restAt m ls row (sg.map (·.1)) j = 0 := by
  rw [rest_own cn fu hr hx ow hm, sf_zero fun c hc => by rw [h0 c hc, Int.zero_mul]]
  rfl
theorem rest_last {N : Nat} {sg : List (Stl × List Int)} {cols : List Col} {q : Col} {m : Ms} {ls : List Str} {row : List Int} {xs : Str → List Int} (cn : ColN N (colsG sg ++ (cols ++ [q]))) (fu : Full N (colsG sg ++ (cols ++ [q]))) (hr : row.length = N) (hx : ∀ j, (xs j).length = N) (ow : Own xs sg)
    (hm : ∀ j, sumAt (notIn ls m) j + dotL row (xs j) = 0) (h0 : ∀ c ∈ cols, dotL row c.1 = 0) (j : Str) : restAt m ls row (sg.map (·.1)) j = - (dotL row q.1 * dotL q.2 (xs j)) := by
  rw [rest_own cn fu hr hx ow hm, sf_app, sf_zero fun c hc => by rw [h0 c hc, Int.zero_mul]]
  show -(0 + (dotL row q.1 * dotL q.2 (xs j) + 0)) = _
  omega
/-- nought at each unknown stays so when they are shifted -/
theorem shf_nought {N : Nat} {row : List Int} (hr : row.length = N) {a b : List Col} (h : Shf a b) (cn : ColN N a) (h0 : ∀ c ∈ a, dotL row c.1 = 0) : ∀ c ∈ b, dotL row c.1 = 0 := by
  induction h with
  | refl => exact h0
  | @step d i j s m s' m' n sh ne hi hj ih =>
    have c1 := (shf_keep sh cn).1
    obtain ⟨l1, l2⟩ := c1 _ (List.mem_of_getElem? hi)
    obtain ⟨l3, l4⟩ := c1 _ (List.mem_of_getElem? hj)
    have l1 : s.length = N := l1
    have l3 : s'.length = N := l3
    have z1 : dotL row s = 0 := ih _ (List.mem_of_getElem? hi)
    have z2 : dotL row s' = 0 := ih _ (List.mem_of_getElem? hj)
    intro c hc
    rcases List.mem_or_eq_of_mem_set hc with hc | rfl
    · rcases List.mem_or_eq_of_mem_set hc with hc | rfl
      · exact ih c hc
      · show dotL row (lessL n s s') = 0
        rw [dot_less n row s s' (by omega) (by omega), z1, z2]
        omega
    · exact z2
end MK


set_option Elab.async false
set_option linter.all false
set_option maxRecDepth 100000
set_option maxHeartbeats 4000000
namespace MK
open PySem PySem.Spec PyProof.Rows L2
/-- the measure of the i-th letter -/
def toldSum (sets : List Stl) (cs : List Col) (ns : List Str) (i : Nat) (j : Str) : Int := (sets.map fun x => sumAt x.m j * atP x.s i).sum + sumAt (ns.zip (cs.map fun c => atP c.1 i)) j
def IsTold (sets : List Stl) (cs : List Col) (ns : List Str) (i : Nat) (r : Ms) : Prop := Can r ∧ ∀ j, at0 r j = toldSum sets cs ns i j
/-- what is asked of _told -/
structure ToIn (C D : Addr) (H : Hp) (a tl ul na : Addr) (ls : List Str) (qs : List Addr) (sets : List Stl) (ps : List Addr) (cs : List Col) (ns : List Str) (N : Nat) : Prop where
  l : H a = some (.lst (ls.map V.str))
  ll : ls.length = N
  lN : N ≤ 1000
  nd : ls.Nodup
  t : H tl = some (.lst (qs.map V.ref))
  ts : Paired (SetAt D H) qs sets
  fs : sets.length ≤ 1000
  us : UkL C H ul ps cs
  n : H na = some (.lst (ns.map V.str))
  nn : ns.length = cs.length
  nu : ns.Nodup
  fc : cs.length ≤ 1000
  ss : ∀ x ∈ sets, x.s.length = N ∧ SmL 49000 x.s ∧ ∀ p ∈ x.m, Sm 49000 p.2
  cc : ∀ c ∈ cs, c.1.length = N ∧ SmL 49000 c.1
  tot : (sets.map fun x => x.m.length).sum + cs.length ≤ 10000
theorem ToIn.same {C D : Addr} {H H' : Hp} {a tl ul na : Addr} {ls : List Str} {qs : List Addr} {sets : List Stl} {ps : List Addr} {cs : List Col} {ns : List Str} {N : Nat} (s : Same H H') (h : ToIn C D H a tl ul na ls qs sets ps cs ns N) : ToIn C D H' a tl ul na ls qs sets ps cs ns N :=
  ⟨s _ _ h.l, h.ll, h.lN, h.nd, s _ _ h.t, Paired.mono (fun _ _ z => z.same s) h.ts, h.fs, h.us.same s, s _ _ h.n, h.nn, h.nu, h.fc, h.ss, h.cc, h.tot⟩
theorem sum_nodup : ∀ {l : Ms} {j : Str} {v : Int}, (l.map (·.1)).Nodup → (j, v) ∈ l → sumAt l j = v
  | [], _, _, _, h => by cases h
  | p :: r, j, v, hn, h => by
    have hn : (p.1 :: r.map (·.1)).Nodup := hn
    obtain ⟨h1, h2⟩ := List.nodup_cons.mp hn
    rcases List.mem_cons.mp h with e | h
    · subst e
      show (if j = j then v else 0) + sumAt r j = v
      rw [if_pos rfl, sumAt_no h1]
      omega
    · have := sum_nodup h2 h
      show (if p.1 = j then p.2 else 0) + sumAt r j = v
      rw [if_neg, this]
      · omega
      · intro e
        exact h1 (by rw [e]; exact List.mem_map.mpr ⟨(j, v), h, rfl⟩)
theorem can_sum' {m : Ms} (h : Can m) (j : Str) : sumAt m j = at0 m j := by
  by_cases hj : j ∈ m.map (·.1)
  · obtain ⟨p, hp, rfl⟩ := List.mem_map.mp hj
    rw [sum_nodup h.ris.nodup (show (p.1, p.2) ∈ m from hp)]
    show p.2 = (lk m p.1).getD 0
    rw [lk_of_mem h.ris.nodup (show (p.1, p.2) ∈ m from hp)]
    rfl
  · rw [sumAt_no hj]
    show 0 = (lk m j).getD 0
    rw [lk_none.mpr hj]
    rfl
/-- no more letters than what it is summed of -/
theorem can_few {r l : Ms} (h : Can r) (e : ∀ j, at0 r j = sumAt l j) : r.length ≤ l.length := by
  have sub : ∀ k ∈ r.map (·.1), k ∈ l.map (·.1) := fun k hk => by
    obtain ⟨p, hp, rfl⟩ := List.mem_map.mp hk
    by_cases z : p.1 ∈ l.map (·.1)
    · exact z
    · have := e p.1
      rw [sumAt_no z, ← can_sum' h, sum_nodup h.ris.nodup (show (p.1, p.2) ∈ r from hp)] at this
      exact absurd this (h.nz p hp)
  have := List.Nodup.length_le_of_subset h.ris.nodup sub
  rw [List.length_map, List.length_map] at this
  exact this
theorem zip_keys {ns : List Str} {xs : List Int} (h : ns.length = xs.length) : (ns.zip xs).map (·.1) = ns := List.map_fst_zip (Nat.le_of_eq h)
def ptAt (i : Nat) (x : Stl) : Ms × Int := (x.m, atP x.s i)
section
variable {P : Program} {w : World} {K : PySem.W.Frag} {mg : Str → Option Value} {base : Heap}
abbrev scToN : List Str := ["letters", "settled", "unknowns", "names", "told", "place", "letter", "parts", "one", "unknown"]
theorem scTo : FnScope scToN ["letters", "settled", "unknowns", "names"] (defScope sTold) := ⟨rfl, rfl, rfl, by decide +kernel, rfl, by decide +kernel, by decide +kernel⟩
def spTo (C D : Addr) : Sp := fun vs H Q _ => ∃ (a tl ul na : Addr) (ls : List Str) (qs : List Addr) (sets : List Stl) (ps : List Addr) (cs : List Col) (ns : List Str) (N : Nat), vs = [.ref a, .ref tl, .ref ul, .ref na] ∧ ToIn C D H a tl ul na ls qs sets ps cs ns N ∧
  ∀ (H' : Hp) (p : Addr) (ads : List (Str × Addr)) (tm : List (Str × Ms)), Same H H' → H p = none → NmAt H' p ads tm → tm.map (·.1) = ls → (∀ (i : Nat) (z : Str × Ms), tm[i]? = some z → IsTold sets cs ns i z.2) → Q (.ref p) H'
theorem ok_to {C D f fG fM : Addr} {fd dG dM : FuncData} (F : Fun K "_told" "_told" sTold f fd) (cu : ClU K C) (cs' : ClS K D) (FG : Fun K "gathered" "gathered" sGath fG dG) (bG : Binds K dG ["parts"] []) (gG : mg "gathered" = some (.ref fG)) (FM : Fun K "_measure" "_measure" sMeas fM dM) (bM : Binds K dM ["letters", "powers"] []) (gM : mg "_measure" = some (.ref fM))
    (mt : mg "tuple" = none) (ms : mg "sorted" = none) (mz : mg "zip" = none) (me : mg "enumerate" = none) : FnOk P w K mg base CX0 3 f fd ["letters", "settled", "unknowns", "names"] (spTo C D) := by
  have GG : FnOk P w K mg base CX0 1 fG dG ["parts"] spGath := ok_gath FG mt ms
  have GM : FnOk P w K mg base CX0 2 fM dM ["letters", "powers"] spMeasL := ok_measL FM FG bG gG mt ms mz
  refine F.ok scTo (fun vs H Q E h => ?_) (fun cdv A outer s H vs Q E hr h => ?_)
  · obtain ⟨a, tl, ul, na, ls, qs, sets, ps, cs, ns, N, rfl, _⟩ := h
    rfl
  · obtain ⟨a, tl, ul, na, ls, qs, sets, ps, cs, ns, N, rfl, ti, q⟩ := h
    have nd := scTo.nd
    have hu := hu_of hr
    have kS : sizeLine = 16777216 := sizeLine_eq
    have hr1 : Room 1 _ := hr.mono (by omega)
    refine ⟨_, pss_cons (ps_set (i := 4) nd rfl (.inl rfl) pe_dnewK)
      (pss_cons (ps_for PassesOwn.never rfl (pi_enum (by rfl) me (pa_cons (pv 0) pa_nil)) (pg_tup rfl (pgs_cons (pg_name (i := 5) nd rfl (.inr rfl)) (pgs_cons (pg_name (i := 6) nd rfl (.inl rfl)) pgs_nil)))
        (pss_cons (ps_setLc (i := 7) rfl nd rfl rfl rfl (own := [("one", 8)]) (g := gName 8) (tt := tYes) (pi_list (pv 1)) (blkOk_by (N := scToN) (sc := defScope sTold) (by decide +kernel)) (fun _ _ _ _ _ => pg_name (i := 8) nd rfl (Or.inl rfl)) (fun _ _ _ _ _ => pts_nil)
            (fun _ _ _ _ _ => pe_tup (pa_cons (show PE _ _ (tFld K (tVar 8) "measure") from pe_fld (pv 8) rfl) (pa_cons (pe_ix (show IxR _ (rIxL K) from ix_list) (show PE _ _ (tFld K (tVar 8) "stands") from pe_fld (pv 8) rfl) (pv 5) (fun _ _ => rfl)) pa_nil))))
        (pss_cons (ps_expr (pe_bm PySem.F.plainAttrs_list PySem.F.slot_list_append PySem.F.type_list_append mt_append (pv 7) (pa_cons (pe_tup (pa_cons (pe_call GM hr (by rfl) gM FM.kp bM .nil pass0 (pa_cons (pv 3) (pa_cons
              (pe_lc (own := [("unknown", 9)]) (g := gName 9) (tt := tYes) rfl nd (pi_list (pv 2)) (blkOk_by (N := scToN) (sc := defScope sTold) (by decide +kernel)) (fun _ _ _ _ _ => pg_name (i := 9) nd rfl (Or.inl rfl)) (fun _ _ _ _ _ => pts_nil)
                (fun _ _ _ _ _ => pe_ix (show IxR _ (rIxL K) from ix_list) (show PE _ _ (tFld K (tVar 9) "stands") from pe_fld (pv 9) rfl) (pv 5) (fun _ _ => rfl))) pa_nil))) (pa_cons pe_int pa_nil))) pa_nil)))
        (pss_one (ps_dput hu (pv 4) (pv 6) (pe_call GG hr1 (by rfl) gG FG.kp bG .nil pass0 (pa_cons (pv 7) pa_nil)) rfl)))))
      (pss_one (ps_ret (pv 4)))), ?_⟩
    refine fun dd ndd => ?_
    have lls := ti.ll
    refine ⟨_, rfl, a, _, rfl, SqL.of ((same_new ndd) _ _ ti.l), for_it walk_enum (fun i σ H2 => ∃ (v5 v6 v7 : Option V) (ads : List (Str × Addr)) (tm : List (Str × Ms)), σ = [some (.ref a), some (.ref tl), some (.ref ul), some (.ref na), some (.ref dd), v5, v6, v7, none, none] ∧ Same H H2 ∧ NmAt H2 dd ads tm ∧ tm.map (·.1) = ls.take i ∧
        ∀ (k : Nat) (z : Str × Ms), tm[k]? = some z → IsTold sets cs ns k z.2)
      ⟨none, none, none, [], [], rfl, same_new ndd, ⟨upd_same, .nil⟩, rfl, fun k z h => by cases h⟩ (fun i σ H2 _ z => by obtain ⟨_, _, _, _, _, _, h, _⟩ := z; exact SqL.of (h _ _ ti.l)) ?_ ?_⟩
    · rintro i x σ H2 H3 hi ⟨v5, v6, v7, ads, tm, rfl, sm, hn, hk, ht⟩ ⟨T, y, v, rfl, hT, rfl, hy, hv⟩
      obtain rfl : V.int (i : Nat) = y := Option.some.inj hy
      obtain ⟨z, hz, rfl⟩ := at_map hv
      have hiN : i < N := by rw [← lls]; exact (List.getElem?_eq_some_iff.mp hz).1
      have sT := same_new (o := .tup [V.int (i : Nat), V.str z]) hT
      refine ⟨T, _, rfl, SqT.of upd_same, rfl, _, _, rfl, _, _, rfl, rfl, ?_⟩
      have s3 := sm.trans sT
      have t3 := ti.same s3
      have n3 := hn.same sT
      generalize upd H2 T (.tup [V.int (i : Nat), V.str z]) = H3 at s3 t3 n3 ⊢
      have getI : ∀ {s : List Int}, s.length = N → s[i]? = some (atP s i) := fun {s} e => by
        unfold atP
        rw [List.getD_eq_getElem?_getD, List.getElem?_eq_getElem (by omega)]
        rfl
      have atG : ∀ {s : List Int}, s.length = N → atI (s.map V.int) ((i : Nat) : Int) = some (.int (atP s i)) := fun e => atI_nat (by rw [List.getElem?_map, getI e]; rfl)
      -- parts
      refine ⟨_, rfl, tl, rfl, ⟨_, SqL.of t3.t⟩, fun pa npa => ?_⟩
      refine lc_list (xs := qs.map V.ref) (fun k H' => Same H3 H' ∧ ∃ ws : List Addr, H' pa = some (.lst (ws.map V.ref)) ∧ Paired (PtN H') ws ((sets.map (ptAt i)).take k)) ⟨same_new npa, [], upd_same, .nil⟩ (fun k H' _ z => SqL.of (z.1 _ _ t3.t)) ?_ ?_
      · rintro k x H4 hx ⟨s4, ws, hpa, pr⟩
        obtain ⟨p, hp, rfl⟩ := at_map hx
        obtain ⟨y, hy, hys⟩ := paired_ix t3.ts hp
        have ym := List.mem_of_getElem? hy
        obtain ⟨g1, g2, g3⟩ := ti.ss y ym
        obtain ⟨dx, sa, b2, f1, f2, f3⟩ := hys.same s4
        have wl := pr.length
        rw [List.length_take, List.length_map] at wl
        have fs := ti.fs
        refine ⟨rfl, ?_⟩
        refine ⟨_, rfl, p, D, dx, _, _, rfl, f1, cs'.cl, cs'.nM, fldsS_m _ _ _ _, _, rfl, p, D, dx, _, _, rfl, f1, cs'.cl, cs'.nS, fldsS_s _ _ _ _, _, rfl, sa, _, _, _, rfl, rfl, SqL.of f2, atG g1, ?_⟩
        refine ⟨(by show 2 ≤ sizeLine; decide), fun t1 n1 => ?_⟩
        have s5 := same_new (o := .tup [V.ref b2, V.int (atP y.s i)]) n1
        have hp5 := s5 _ _ hpa
        have ey : (sets.map (ptAt i))[k]? = some (ptAt i y) := by rw [List.getElem?_map, hy]; rfl
        refine ⟨_, hp5, ?_, same_upd (s4.trans s5) npa, ws ++ [t1], ?_, ?_⟩
        · rw [List.length_map]
          omega
        · rw [upd_same, List.map_append]
          rfl
        · have mv : ∀ {t q}, PtN (upd H4 t1 (.tup [V.ref b2, V.int (atP y.s i)])) t q → PtN (upd (upd H4 t1 (.tup [V.ref b2, V.int (atP y.s i)])) pa (.lst (ws.map V.ref ++ [V.ref t1]))) t q := fun h => by
            obtain ⟨b, e, m⟩ := h
            exact ⟨b, fne hp5 e (fun z => nomatch z), m.lst hp5⟩
          rw [take_more ey]
          exact Paired.snoc (Paired.mono (fun _ _ h => mv (h.same s5)) pr) (mv ⟨b2, upd_same, f3.same s5⟩)
      rintro H4 ⟨s4, ws, hpa, pr⟩
      have e1 : (sets.map (ptAt i)).take (qs.map V.ref).length = sets.map (ptAt i) := by
        rw [List.take_of_length_le]
        rw [List.length_map, List.length_map, t3.ts.length]
        exact Nat.le_refl _
      rw [e1] at pr
      have t4 := t3.same s4
      -- the unknowns' share
      refine ⟨_, rfl, .inl ⟨rfl, _, SqL.of hpa⟩, _, rfl, _, rfl, ul, rfl, ⟨_, SqL.of t4.us.l⟩, fun pb npb => ?_⟩
      refine lc_list (xs := ps.map V.ref) (fun k H' => Same H4 H' ∧ H' pb = some (.lst (((cs.map fun c => atP c.1 i).take k).map V.int))) ⟨same_new npb, upd_same⟩ (fun k H' _ z => SqL.of (z.1 _ _ t4.us.l)) ?_ ?_
      · rintro k x H5 hx ⟨s5, hpb⟩
        obtain ⟨p, hp, rfl⟩ := at_map hx
        obtain ⟨c, hc, dx, sa, ma, f1, f2, f3⟩ := paired_ix t4.us.u hp
        obtain ⟨g1, g2⟩ := ti.cc c (List.mem_of_getElem? hc)
        have fc := ti.fc
        have kl : k < cs.length := (List.getElem?_eq_some_iff.mp hc).1
        refine ⟨rfl, ?_⟩
        refine ⟨_, rfl, p, C, dx, _, _, rfl, s5 _ _ f1, cu.cl, cu.nS, fldsU_s _ _, _, rfl, sa, _, _, _, rfl, rfl, SqL.of (s5 _ _ f2), atG g1, ?_⟩
        have ec : (cs.map fun c => atP c.1 i)[k]? = some (atP c.1 i) := by rw [List.getElem?_map, hc]; rfl
        refine ⟨_, hpb, ?_, same_upd s5 npb, ?_⟩
        · rw [List.length_map, List.length_take, List.length_map]
          omega
        · rw [upd_same, mapInt_snoc, take_more ec]
      rintro H5 ⟨s5, hpb⟩
      have e2 : (cs.map fun c => atP c.1 i).take (ps.map V.ref).length = cs.map fun c => atP c.1 i := by
        rw [List.take_of_length_le]
        rw [List.length_map, List.length_map, t4.us.len]
        exact Nat.le_refl _
      rw [e2] at hpb
      have t5 := t4.same s5
      have lc : (cs.map fun c => atP c.1 i).length = cs.length := List.length_map ..
      refine ⟨na, pb, ns, _, cs.length, rfl, t5.n, hpb, ti.nn, lc, ti.fc, fun x hx => ?_, fun H6 p r s6 np hr cr hat => ?_⟩
      · obtain ⟨c, hc, rfl⟩ := List.mem_map.mp hx
        obtain ⟨g1, g2⟩ := ti.cc c hc
        exact g2 _ (List.mem_of_getElem? (getI g1))
      refine ⟨(by show 2 ≤ sizeLine; decide), fun t1 n1 => ?_⟩
      have s7 := same_new (o := .tup [V.ref p, V.int 1]) n1
      have s47 := s5.trans (s6.trans s7)
      have hp7 := s47 _ _ hpa
      have wl := pr.length
      rw [List.length_map] at wl
      have fs := ti.fs
      refine ⟨pa, _, .ref t1, rfl, rfl, hp7, by rw [List.length_map]; omega, ?_⟩
      have mv : ∀ {t q}, PtN (upd H6 t1 (.tup [V.ref p, V.int 1])) t q → PtN (upd (upd H6 t1 (.tup [V.ref p, V.int 1])) pa (.lst (ws.map V.ref ++ [V.ref t1]))) t q := fun h => by
        obtain ⟨b, e, m⟩ := h
        exact ⟨b, fne hp7 e (fun z => nomatch z), m.lst hp7⟩
      have pr8 : Paired (PtN (upd (upd H6 t1 (.tup [V.ref p, V.int 1])) pa (.lst (ws.map V.ref ++ [V.ref t1])))) (ws ++ [t1]) (sets.map (ptAt i) ++ [(r, 1)]) := Paired.snoc (Paired.mono (fun _ _ h => mv (h.same s47)) pr) (mv ⟨p, upd_same, hr.same s7⟩)
      have s38 : Same H3 (upd (upd H6 t1 (.tup [V.ref p, V.int 1])) pa (.lst (ws.map V.ref ++ [V.ref t1]))) := same_upd (s4.trans s47) npa
      have hp8 : upd (upd H6 t1 (.tup [V.ref p, V.int 1])) pa (.lst (ws.map V.ref ++ [V.ref t1])) pa = some (.lst ((ws ++ [t1]).map V.ref)) := by
        rw [upd_same, List.map_append]
        rfl
      generalize upd (upd H6 t1 (.tup [V.ref p, V.int 1])) pa (.lst (ws.map V.ref ++ [V.ref t1])) = H8 at pr8 s38 hp8 ⊢
      have zl : ns.length = (cs.map fun c => atP c.1 i).length := by rw [lc]; exact ti.nn
      have rf := can_few cr hat
      rw [List.length_zip, lc, ti.nn, Nat.min_self] at rf
      have sum1 : (sets.map (ptAt i)).map (fun q => q.1.length) = sets.map fun x => x.m.length := by rw [List.map_map]; rfl
      have tot := ti.tot
      have s48 := s38
      refine ⟨_, rfl, pa, _, _, rfl, hp8, pr8, ?_, fun q hq => ?_, fun H9 p9 r9 s9 np9 h9 c9 a9 => ?_⟩
      · rw [flat_len, List.map_append, List.sum_append, sum1]
        show _ + (r.length + 0) ≤ _
        omega
      · rcases List.mem_append.mp hq with hq | hq
        · obtain ⟨x, hx, rfl⟩ := List.mem_map.mp hq
          obtain ⟨g1, g2, g3⟩ := ti.ss x hx
          exact ⟨g2 _ (List.mem_of_getElem? (getI g1)), g3⟩
        · rw [List.mem_singleton.mp hq]
          refine ⟨Sm.mono (a := 1) (by show (1 : Int).natAbs < 2 ^ 1; decide) (by decide), fun x hx => ?_⟩
          have e4 : x.2 = sumAt (ns.zip (cs.map fun c => atP c.1 i)) x.1 := by
            rw [← hat, ← can_sum' cr, sum_nodup cr.ris.nodup (show (x.1, x.2) ∈ r from hx)]
          have hx1 : x.1 ∈ (ns.zip (cs.map fun c => atP c.1 i)).map (·.1) := by
            by_cases z : x.1 ∈ (ns.zip (cs.map fun c => atP c.1 i)).map (·.1)
            · exact z
            · rw [sumAt_no z] at e4
              exact absurd e4 (cr.nz x hx)
          obtain ⟨y, hy, ey⟩ := List.mem_map.mp hx1
          have e5 : sumAt (ns.zip (cs.map fun c => atP c.1 i)) y.1 = y.2 := sum_nodup (by rw [zip_keys zl]; exact ti.nu) (show (y.1, y.2) ∈ _ from hy)
          rw [e4, ← ey, e5]
          obtain ⟨c, hc, ec⟩ := List.mem_map.mp (List.of_mem_zip (show (y.1, y.2) ∈ _ from hy)).2
          obtain ⟨g1, g2⟩ := ti.cc c hc
          rw [← ec]
          exact g2 _ (List.mem_of_getElem? (getI g1))
      have n9 := (n3.same s38).same s9
      have sm9 := s3.trans (s38.trans s9)
      have adk : ads.map (·.1) = ls.take i := by rw [nmr_keys hn.2]; exact hk
      have tn : (ls.take i).Nodup := List.Nodup.sublist (List.take_sublist _ _) ti.nd
      have nz : z ∉ ls.take i := fun h => by
        obtain ⟨k, hk⟩ := List.mem_iff_getElem?.mp h
        rw [List.getElem?_take] at hk
        split at hk
        · have := nd_inj ti.nd hk hz
          omega
        · cases hk
      have al : ads.length ≤ 1000 := by
        have e := congrArg List.length adk
        rw [List.length_map, List.length_take] at e
        have := ti.lN
        omega
      refine ⟨_, rfl, _, rfl, dd, _, rfl, dput_encG (g := V.ref) n9.1 (by rw [adk]; exact tn) (small1000 al), ?_⟩
      rw [put_new (by rw [adk]; exact nz)]
      refine ⟨_, _, _, ads ++ [(z, p9)], tm ++ [(z, r9)], rfl, same_upd sm9 ndd, ⟨upd_same, ?_⟩, ?_, fun k y hky => ?_⟩
      · exact Paired.snoc (Paired.mono (fun _ _ h => ⟨h.1, msN_dict h.2 n9.1⟩) n9.2) ⟨rfl, msN_dict h9 n9.1⟩
      · rw [List.map_append, hk, take_more hz]
        rfl
      · have tl9 : tm.length = i := by
          have e := congrArg List.length hk
          rw [List.length_map, List.length_take] at e
          have : i < ls.length := (List.getElem?_eq_some_iff.mp hz).1
          omega
        rw [List.getElem?_append] at hky
        split at hky
        · exact ht k y hky
        · have hk0 : k - tm.length = 0 := by
            rcases Nat.eq_zero_or_pos (k - tm.length) with h | h
            · exact h
            · rw [List.getElem?_eq_none (by show 1 ≤ _; omega)] at hky
              cases hky
          rw [hk0] at hky
          cases hky
          have ki : k = i := by omega
          rw [ki]
          refine ⟨c9, fun j => ?_⟩
          rw [a9, flat_sum, List.map_append, List.sum_append, List.map_map]
          show _ + (sumAt r j * 1 + 0) = _
          rw [can_sum' cr, hat, Int.mul_one, Int.add_zero]
          rfl
    · rintro σ H2 ⟨v5, v6, v7, ads, tm, rfl, sm, hn, hk, ht⟩
      rw [List.length_map, List.take_length] at hk
      exact ⟨_, rfl, q _ dd ads tm sm ndd hn hk ht⟩
end
end MK


set_option Elab.async false
set_option linter.all false
set_option maxRecDepth 100000
set_option maxHeartbeats 4000000
namespace MK
open PySem PySem.Spec PyProof.Rows L2
/-! ### one row of `solved` on the numbers -/
def ovW (res : Int) (r : Ms) : Ms := r.map fun p => (p.1, p.2.fdiv (-res))
theorem at0_key {r : Ms} (c : Can r) {p : Str × Int} (hp : p ∈ r) : at0 r p.1 = p.2 := by
  rw [← can_sum' c]
  exact sum_nodup (c.ris.nodup) hp
theorem ovr_div {r : Ms} {res : Int} {k : Str → Int} (c : Can r) (h : ∀ j, at0 r j = -(res * k j)) : ∀ p ∈ r, res ∣ p.2 := fun p hp => by
  rw [← at0_key c hp, h]
  exact Int.dvd_neg.mpr (Int.dvd_mul_right _ _)
theorem ovr_one {res k : Int} (h : res ≠ 0) : (-(res * k)).fdiv (-res) = k := by
  rw [← Int.neg_mul]
  exact Int.mul_fdiv_cancel_left k (by omega)
theorem ovr_val {r : Ms} {res : Int} {k : Str → Int} (h0 : res ≠ 0) (c : Can r) (h : ∀ j, at0 r j = -(res * k j)) : ∀ p ∈ ovW res r, p.2 = k p.1 := fun p hp => by
  obtain ⟨q, hq, rfl⟩ := List.mem_map.mp hp
  show q.2.fdiv (-res) = k q.1
  rw [← at0_key c hq, h, ovr_one h0]
theorem ovr_keys (res : Int) (r : Ms) : (ovW res r).map (·.1) = r.map (·.1) := by
  unfold ovW
  rw [List.map_map]
  rfl
theorem ovr_sum {r : Ms} {res : Int} {k : Str → Int} (h0 : res ≠ 0) (c : Can r) (h : ∀ j, at0 r j = -(res * k j)) (j : Str) : sumAt (ovW res r) j = k j := by
  by_cases e : k j = 0
  · have z : at0 r j = 0 := by rw [h, e, Int.mul_zero]; rfl
    rw [e]
    refine sumAt_no ?_
    rw [ovr_keys]
    intro hj
    obtain ⟨p, hp, rfl⟩ := List.mem_map.mp hj
    rw [at0_key c hp] at z
    exact c.2 p hp z
  · have nz : at0 r j ≠ 0 := by
      rw [h]
      intro z
      rcases Int.mul_eq_zero.mp (Int.neg_eq_zero.mp z) with z | z
      · exact h0 z
      · exact e z
    have hm := at0_mem nz
    have hm2 : (j, (at0 r j).fdiv (-res)) ∈ ovW res r := List.mem_map.mpr ⟨_, hm, rfl⟩
    rw [sum_nodup (by rw [ovr_keys]; exact c.ris.nodup) hm2, h, ovr_one h0]
/-- the rows done, the settled ones each with what it is made of, the unknowns, bounds -/
structure Sv (xs : Str → List Int) (R : List (List Int)) (sg : List (Stl × List Int)) (cols : List Col) (N M M' : Nat) : Prop where
  cn : ColN N (colsG sg ++ cols)
  du : Dual (colsG sg ++ cols)
  fu : Full N (colsG sg ++ cols)
  ow : Own xs sg
  nz : ∀ row ∈ R, ∀ c ∈ cols, dotL row c.1 = 0
  rl : ∀ row ∈ R, row.length = N
  bd : ∀ c ∈ colsG sg ++ cols, LeL M c.1 ∧ LeL M' c.2
theorem Sv.shf {xs : Str → List Int} {R : List (List Int)} {sg : List (Stl × List Int)} {cols d : List Col} {N M M' F F' : Nat} (h : Sv xs R sg cols N M M') (s : Shf cols d) (l1 : M ≤ F) (l2 : M' ≤ F') (b : ∀ c ∈ d, LeL F c.1 ∧ LeL F' c.2) : Sv xs R sg d N F F' := by
  obtain ⟨c1, d1, f1⟩ := shf_keep (s.app (colsG sg)) h.cn
  refine ⟨c1, d1 h.du, f1 h.fu, h.ow, fun row hr => shf_nought (h.rl row hr) s (fun c hc => h.cn c (List.mem_append_right _ hc)) (h.nz row hr), h.rl, fun c hc => ?_⟩
  rcases List.mem_append.mp hc with hc | hc
  · obtain ⟨a, a'⟩ := h.bd c (List.mem_append_left _ hc)
    exact ⟨a.mono l1, a'.mono l2⟩
  · exact b c hc
theorem Sv.none {xs : Str → List Int} {R : List (List Int)} {sg : List (Stl × List Int)} {cols : List Col} {N M M' : Nat} (h : Sv xs R sg cols N M M') {row : List Int} (hr : row.length = N) (h0 : ∀ c ∈ cols, dotL row c.1 = 0) : Sv xs (R ++ [row]) sg cols N M M' :=
  ⟨h.cn, h.du, h.fu, h.ow, fun r hm => by
    rcases List.mem_append.mp hm with hm | hm
    · exact h.nz r hm
    · rw [List.mem_singleton.mp hm]
      exact h0, fun r hm => by
    rcases List.mem_append.mp hm with hm | hm
    · exact h.rl r hm
    · rw [List.mem_singleton.mp hm]
      exact hr, h.bd⟩
theorem erase_perm {α : Type} : ∀ {xs : List α} {l : Nat} {x : α}, xs[l]? = some x → xs.Perm (xs.eraseIdx l ++ [x])
  | a :: xs, 0, x, h => by
    cases h
    exact (List.perm_append_singleton _ _).symm
  | a :: xs, l + 1, x, h => by
    have ih := erase_perm (xs := xs) (l := l) (x := x) (by simpa using h)
    exact List.Perm.cons a ih
theorem erase_mem {α : Type} : ∀ {xs : List α} {l : Nat} {y : α}, y ∈ xs.eraseIdx l → ∃ i : Nat, i ≠ l ∧ xs[i]? = some y
  | a :: xs, 0, y, h => by
    obtain ⟨i, hi⟩ := List.mem_iff_getElem?.mp (show y ∈ xs from h)
    exact ⟨i + 1, by omega, hi⟩
  | a :: xs, l + 1, y, h => by
    rcases List.mem_cons.mp (show y ∈ a :: xs.eraseIdx l from h) with rfl | h
    · exact ⟨0, by omega, rfl⟩
    · obtain ⟨i, n, hi⟩ := erase_mem h
      exact ⟨i + 1, by omega, hi⟩
/-- the last unknown is settled -/
theorem Sv.last {xs : Str → List Int} {R : List (List Int)} {sg : List (Stl × List Int)} {d : List Col} {N M M' : Nat} (h : Sv xs R sg d N M M') {row : List Int} (hr : row.length = N) (hx : ∀ j, (xs j).length = N) {m : Ms} {ls : List Str} (hm : ∀ j, sumAt (notIn ls m) j + dotL row (xs j) = 0)
    {l : Nat} {c : Col} {res : Int} (hc : d[l]? = some c) (hd : dotL row c.1 = res) (h0 : ∀ (i : Nat) (x : Col), d[i]? = some x → i ≠ l → dotL row x.1 = 0) (rn : res ≠ 0) :
    (∀ j, restAt m ls row (sg.map (·.1)) j = -(res * dotL c.2 (xs j))) ∧ ∀ t : Stl, t.s = c.1 → (∀ j, sumAt t.m j = dotL c.2 (xs j)) → Sv xs (R ++ [row]) (sg ++ [(t, c.2)]) (d.eraseIdx l) N M M' := by
  have pe := erase_perm hc
  have p1 : (colsG sg ++ d).Perm (colsG sg ++ (d.eraseIdx l ++ [c])) := pe.append_left _
  have z : ∀ x ∈ d.eraseIdx l, dotL row x.1 = 0 := fun x hx => by
    obtain ⟨i, n, hi⟩ := erase_mem hx
    exact h0 i x hi n
  constructor
  · intro j
    rw [rest_last (fun x hx => h.cn x (p1.mem_iff.mpr hx)) (h.fu.perm p1) hr hx h.ow hm z j, hd]
  · intro t ts tm
    have ec : colsG (sg ++ [(t, c.2)]) ++ d.eraseIdx l = colsG sg ++ ([c] ++ d.eraseIdx l) := by
      unfold colsG
      rw [List.map_append, List.append_assoc]
      show _ ++ ((t.s, c.2) :: _) = _
      rw [ts]
      rfl
    have p2 : (colsG sg ++ d).Perm (colsG (sg ++ [(t, c.2)]) ++ d.eraseIdx l) := by
      rw [ec]
      exact p1.trans (List.perm_append_comm.append_left _)
    refine ⟨fun x hx => h.cn x (p2.mem_iff.mpr hx), h.du.perm p2, h.fu.perm p2, fun g hg j => ?_, fun r hm2 x hx => ?_, fun r hm2 => ?_, fun x hx => h.bd x (p2.mem_iff.mpr hx)⟩
    · rcases List.mem_append.mp hg with hg | hg
      · exact h.ow g hg j
      · rw [List.mem_singleton.mp hg]
        exact tm j
    · rcases List.mem_append.mp hm2 with hm2 | hm2
      · exact h.nz r hm2 x (List.mem_of_mem_eraseIdx hx)
      · rw [List.mem_singleton.mp hm2]
        exact z x hx
    · rcases List.mem_append.mp hm2 with hm2 | hm2
      · exact h.rl r hm2
      · rw [List.mem_singleton.mp hm2]
        exact hr
theorem Sv.noneRest {xs : Str → List Int} {R : List (List Int)} {sg : List (Stl × List Int)} {d : List Col} {N M M' : Nat} (h : Sv xs R sg d N M M') {row : List Int} (hr : row.length = N) (hx : ∀ j, (xs j).length = N) {m : Ms} {ls : List Str} (hm : ∀ j, sumAt (notIn ls m) j + dotL row (xs j) = 0)
    (h0 : ∀ c ∈ d, dotL row c.1 = 0) (j : Str) : restAt m ls row (sg.map (·.1)) j = 0 := rest_none h.cn h.fu hr hx h.ow hm h0 j
/-! ### at the start -/
theorem unit_at (p n q : Nat) : atP (unitL p n) q = if q < n ∧ q = p then 1 else 0 := by
  unfold atP unitL
  rw [List.getD_eq_getElem?_getD, List.getElem?_map]
  by_cases h : q < n
  · rw [List.getElem?_range h]
    by_cases e : q = p
    · rw [if_pos ⟨h, e⟩]
      show (if q = p then (1 : Int) else 0) = 1
      rw [if_pos e]
    · rw [if_neg (fun z => e z.2)]
      show (if q = p then (1 : Int) else 0) = 0
      rw [if_neg e]
  · rw [if_neg (fun z => h z.1), List.getElem?_eq_none (by rw [List.length_range]; omega)]
    rfl
abbrev unitC (N : Nat) : List Col := (List.range N).map fun p => (unitL p N, unitL p N)
theorem unit_len (p N : Nat) : (unitL p N).length = N := by unfold unitL; rw [List.length_map, List.length_range]
theorem unit_dot {N p : Nat} {s : List Int} (hp : p < N) (h : s.length = N) : dotL s (unitL p N) = atP s p := by
  rw [dot_range _ _ (by rw [unit_len, h]), unit_len, ← sf_delta (fun q => atP s q) N p hp]
  refine sf_congr fun q hq => ?_
  rw [unit_at]
  have hq := List.mem_range.mp hq
  by_cases e : p = q
  · rw [if_pos ⟨hq, e.symm⟩, if_pos e]
  · rw [if_neg (fun z => e z.2.symm), if_neg e]
theorem sv_start (xs : Str → List Int) (N : Nat) : Sv xs [] [] (unitC N) N 1 1 := by
  have key : ∀ c ∈ unitC N, ∃ p, p < N ∧ c = (unitL p N, unitL p N) := fun c hc => by
    obtain ⟨p, hp, rfl⟩ := List.mem_map.mp hc
    exact ⟨p, List.mem_range.mp hp, rfl⟩
  refine ⟨fun c hc => ?_, dual_ix.mpr fun i j c d hc hd => ?_, fun p q hp hq => ?_, (fun _ h => absurd h List.not_mem_nil), (fun _ h => absurd h List.not_mem_nil), (fun _ h => absurd h List.not_mem_nil), fun c hc => ?_⟩
  · obtain ⟨p, hp, rfl⟩ := key c hc
    exact ⟨unit_len _ _, unit_len _ _⟩
  · have g : ∀ {i : Nat} {c : Col}, (unitC N)[i]? = some c → i < N ∧ c = (unitL i N, unitL i N) := fun {i c} h => by
      have li : i < N := by
        have := (List.getElem?_eq_some_iff.mp h).1
        rwa [List.length_map, List.length_range] at this
      rw [List.getElem?_map, List.getElem?_range li] at h
      cases h
      exact ⟨li, rfl⟩
    obtain ⟨li, rfl⟩ := g hc
    obtain ⟨lj, rfl⟩ := g hd
    show dotL (unitL i N) (unitL j N) = _
    rw [unit_dot lj (unit_len _ _), unit_at]
    by_cases e : i = j
    · rw [if_pos ⟨lj, e.symm⟩, if_pos e]
    · rw [if_neg (fun z => e z.2.symm), if_neg e]
  · show (List.map _ (List.map _ (List.range N))).sum = _
    rw [List.map_map]
    show (SumF (List.range N) fun k => atP (unitL k N) p * atP (unitL k N) q) = _
    have e1 : (SumF (List.range N) fun k => atP (unitL k N) p * atP (unitL k N) q) = SumF (List.range N) fun k => atP (unitL k N) q * if p = k then 1 else 0 := sf_congr fun k _ => by
      rw [unit_at k N p, Int.mul_comm]
      by_cases e : p = k
      · rw [if_pos ⟨hp, e⟩, if_pos e]
      · rw [if_neg (fun z => e z.2), if_neg e]
    rw [e1, sf_delta (fun k => atP (unitL k N) q) N p hp, unit_at]
    by_cases e : p = q
    · rw [if_pos ⟨hq, e.symm⟩, if_pos e]
    · rw [if_neg (fun z => e z.2.symm), if_neg e]
  · obtain ⟨p, hp, rfl⟩ := key c hc
    have : LeL 1 (unitL p N) := fun x hx => by
      unfold unitL at hx
      obtain ⟨i, _, rfl⟩ := List.mem_map.mp hx
      by_cases e : i = p
      · rw [if_pos e]
        decide
      · rw [if_neg e]
        decide
    exact ⟨this, this⟩
end MK


set_option Elab.async false
set_option linter.all false
set_option maxRecDepth 100000
set_option maxHeartbeats 4000000
namespace MK
open PySem PySem.Spec PyProof.Rows L2
/-! ### what is told solves the rows -/
theorem sumzip {α : Type} (f : α → Int) (j : Str) : ∀ (ns : List Str) (cs : List α), sumAt (ns.zip (cs.map f)) j = SumF (ns.zip cs) fun z => if z.1 = j then f z.2 else 0
  | [], _ => rfl
  | _ :: _, [] => rfl
  | n :: ns, c :: cs => by
    have ih := sumzip f j ns cs
    show (if n = j then f c else 0) + sumAt (ns.zip (cs.map f)) j = (if n = j then f c else 0) + SumF (ns.zip cs) _
    rw [ih]
/-- the power of j, all letters filled in, of what has the powers r -/
def fillT (r : List Int) (sets : List Stl) (cs : List Col) (ns : List Str) (N : Nat) (j : Str) : Int := SumF (List.range N) fun i => atP r i * toldSum sets cs ns i j
theorem fill_told {r : List Int} {sets : List Stl} {cs : List Col} {ns : List Str} {N : Nat} (hr : r.length = N) (h1 : ∀ x ∈ sets, x.s.length = N) (h2 : ∀ c ∈ cs, c.1.length = N) (j : Str) :
    fillT r sets cs ns N j = (SumF sets fun x => sumAt x.m j * dotL r x.s) + SumF (ns.zip cs) fun z => if z.1 = j then dotL r z.2.1 else 0 := by
  have e1 : fillT r sets cs ns N j = (SumF (List.range N) fun i => SumF sets fun x => sumAt x.m j * (atP r i * atP x.s i)) + SumF (List.range N) fun i => SumF (ns.zip cs) fun z => if z.1 = j then atP r i * atP z.2.1 i else 0 := by
    unfold fillT
    rw [sf_add]
    refine sf_congr fun i _ => ?_
    unfold toldSum
    rw [Int.mul_add, sumzip (fun c : Col => atP c.1 i) j ns cs]
    have a := sf_mul (atP r i) (fun x : Stl => sumAt x.m j * atP x.s i) sets
    have b := sf_mul (atP r i) (fun z : Str × Col => if z.1 = j then atP z.2.1 i else 0) (ns.zip cs)
    have a2 : (SumF sets fun x : Stl => atP r i * (sumAt x.m j * atP x.s i)) = SumF sets fun x => sumAt x.m j * (atP r i * atP x.s i) := sf_congr fun x _ => Int.mul_left_comm _ _ _
    have b2 : (SumF (ns.zip cs) fun z : Str × Col => atP r i * if z.1 = j then atP z.2.1 i else 0) = SumF (ns.zip cs) fun z => if z.1 = j then atP r i * atP z.2.1 i else 0 := sf_congr fun z _ => by
      by_cases e : z.1 = j
      · rw [if_pos e, if_pos e]
      · rw [if_neg e, if_neg e, Int.mul_zero]
    rw [← a2, ← b2, ← a, ← b]
  rw [e1]
  congr 1
  · rw [sf_swap]
    refine sf_congr fun x hx => ?_
    have l := h1 x hx
    rw [dot_range r x.s (by omega), l, sf_mul]
  · rw [sf_swap]
    refine sf_congr fun z hz => ?_
    have l := h2 z.2 (List.of_mem_zip hz).2
    by_cases e : z.1 = j
    · rw [if_pos e, dot_range r z.2.1 (by omega), l]
      exact sf_congr fun i _ => by rw [if_pos e]
    · rw [if_neg e]
      exact sf_zero fun i _ => by rw [if_neg e]
theorem Sv.lens {xs : Str → List Int} {R : List (List Int)} {sg : List (Stl × List Int)} {cols : List Col} {N M M' : Nat} (h : Sv xs R sg cols N M M') : (∀ x ∈ sg.map (·.1), x.s.length = N) ∧ ∀ c ∈ cols, c.1.length = N := by
  refine ⟨fun x hx => ?_, fun c hc => (h.cn c (List.mem_append_right _ hc)).1⟩
  obtain ⟨g, hg, rfl⟩ := List.mem_map.mp hx
  exact (h.cn (g.1.s, g.2) (List.mem_append_left _ (List.mem_map.mpr ⟨g, hg, rfl⟩))).1
/-- each row is solved -/
theorem Sv.solves {xs : Str → List Int} {R : List (List Int)} {sg : List (Stl × List Int)} {cols : List Col} {N M M' : Nat} (h : Sv xs R sg cols N M M') {row : List Int} (hR : row ∈ R) (hx : ∀ j, (xs j).length = N) {m : Ms} {ls : List Str} (hm : ∀ j, sumAt (notIn ls m) j + dotL row (xs j) = 0) (ns : List Str) (j : Str) :
    sumAt (notIn ls m) j + fillT row (sg.map (·.1)) cols ns N j = 0 := by
  have k := h.noneRest (h.rl row hR) hx hm (h.nz row hR) j
  unfold restAt at k
  rw [fill_told (h.rl row hR) h.lens.1 h.lens.2, sf_zero (xs := ns.zip cols) fun z hz => by rw [h.nz row hR z.2 (List.of_mem_zip hz).2, ite_self]]
  have k : sumAt (notIn ls m) j + (SumF (sg.map (·.1)) fun x => sumAt x.m j * dotL row x.s) = 0 := k
  omega
theorem sum_pick : ∀ {ns : List Str} {cs : List Col} {f : Col → Int} {j n : Str} {k : Nat}, ns.Nodup → ns[k]? = some n → (∀ (i : Nat) (x : Col), cs[i]? = some x → f x = if i = k then 1 else 0) → k < cs.length → (SumF (ns.zip cs) fun z => if z.1 = j then f z.2 else 0) = if n = j then 1 else 0
  | [], _, _, _, _, _, _, h, _, _ => by cases h
  | _ :: _, [], _, _, _, _, _, _, _, h => by cases h
  | a :: ns, c :: cs, f, j, n, 0, nd, h, hf, _ => by
    cases h
    obtain ⟨n1, n2⟩ := List.nodup_cons.mp nd
    show (if a = j then f c else 0) + SumF (ns.zip cs) _ = _
    have e0 : f c = 1 := by rw [hf 0 c rfl, if_pos rfl]
    have ez : (SumF (ns.zip cs) fun z => if z.1 = j then f z.2 else 0) = 0 := sf_zero fun z hz => by
      obtain ⟨i, hi⟩ := List.mem_iff_getElem?.mp (List.of_mem_zip hz).2
      have e : f z.2 = 0 := by rw [hf (i + 1) z.2 hi, if_neg (by omega)]
      rw [e, ite_self]
    rw [e0, ez]
    omega
  | a :: ns, c :: cs, f, j, n, k + 1, nd, h, hf, hl => by
    obtain ⟨n1, n2⟩ := List.nodup_cons.mp nd
    have ih := sum_pick (cs := cs) (f := f) (j := j) n2 (show ns[k]? = some n by simpa using h) (fun i x hi => by
      have e := hf (i + 1) x hi
      rw [e]
      by_cases q : i = k
      · rw [if_pos q, if_pos (by omega)]
      · rw [if_neg q, if_neg (by omega)]) (by simpa using hl)
    show (if a = j then f c else 0) + SumF (ns.zip cs) _ = _
    have e0 : f c = 0 := by rw [hf 0 c rfl, if_neg (by omega)]
    rw [e0, ite_self, ih]
    omega
/-- each unknown, its letters filled in, is itself -/
theorem Sv.itself {xs : Str → List Int} {R : List (List Int)} {sg : List (Stl × List Int)} {cols : List Col} {N M M' : Nat} (h : Sv xs R sg cols N M M') {ns : List Str} (nn : ns.Nodup) {k : Nat} {c : Col} {n : Str} (hc : cols[k]? = some c) (hn : ns[k]? = some n) (j : Str) :
    fillT c.2 (sg.map (·.1)) cols ns N j = if n = j then 1 else 0 := by
  have du := dual_ix.mp h.du
  have hk : (colsG sg ++ cols)[(colsG sg).length + k]? = some c := by rw [List.getElem?_append_right (by omega), Nat.add_sub_cancel_left]; exact hc
  rw [fill_told (h.cn c (List.mem_append_right _ (List.mem_of_getElem? hc))).2 h.lens.1 h.lens.2]
  rw [sf_zero (xs := sg.map (·.1)) fun x hx => by
    obtain ⟨g, hg, rfl⟩ := List.mem_map.mp hx
    obtain ⟨i, hi⟩ := List.mem_iff_getElem?.mp hg
    have li : i < sg.length := (List.getElem?_eq_some_iff.mp hi).1
    have hi2 : (colsG sg ++ cols)[i]? = some (g.1.s, g.2) := by
      rw [List.getElem?_append_left (by unfold colsG; rw [List.length_map]; exact li), List.getElem?_map, hi]
      rfl
    have e := du _ i c _ hk hi2
    rw [if_neg (by unfold colsG; rw [List.length_map]; omega)] at e
    rw [e, Int.mul_zero]]
  rw [sum_pick (f := fun x : Col => dotL c.2 x.1) nn hn (fun i x hi => by
    have hi2 : (colsG sg ++ cols)[(colsG sg).length + i]? = some x := by rw [List.getElem?_append_right (by omega), Nat.add_sub_cancel_left]; exact hi
    rw [du _ _ c x hk hi2]
    by_cases q : i = k
    · rw [if_pos (by omega), if_pos q]
    · rw [if_neg (by omega), if_neg q]) (List.getElem?_eq_some_iff.mp hc).1]
  omega
end MK


set_option Elab.async false
set_option linter.all false
set_option maxRecDepth 100000
set_option maxHeartbeats 4000000
namespace MK
open PySem PySem.Spec PyProof.Rows L2
/-! ### how the numbers may grow from row to row -/
structure Gro (K u n : Nat) (mm mm' ww : Nat → Nat) : Prop where
  o : 1 ≤ mm 0 ∧ 1 ≤ mm' 0
  w1 : ∀ i, i < n → 1 ≤ ww i
  w2 : ∀ i, i < n → K * mm i ≤ ww i
  g1 : ∀ i, i < n → 3 * mm i * ww i ^ 3 ≤ mm (i + 1)
  g2 : ∀ i, i < n → 4 * u * mm' i * ww i ^ 8 ≤ mm' (i + 1)
  g3 : ∀ i, i < n → mm' i ≤ mm' (i + 1)
  b1 : ∀ i, i ≤ n → mm i < 2 ^ 48000
  b2 : ∀ i, i ≤ n → mm' i < 2 ^ 48000
  bw : ∀ i, i < n → ww i < 2 ^ 7980
theorem Gro.up {K u n : Nat} {mm mm' ww : Nat → Nat} (g : Gro K u n mm mm' ww) {i : Nat} (h : i < n) : mm i ≤ mm (i + 1) := by
  have a := g.g1 i h
  have p : 1 ≤ ww i ^ 3 := Nat.pow_pos (g.w1 i h)
  have : 3 * mm i * 1 ≤ 3 * mm i * ww i ^ 3 := Nat.mul_le_mul_left _ p
  omega
theorem dot_le {R M : Nat} : ∀ {r s : List Int}, LeL R r → LeL M s → (dotL r s).natAbs ≤ s.length * (R * M)
  | [], s, _, _ => by
    cases s <;> exact Nat.zero_le _
  | _ :: _, [], _, _ => Nat.zero_le _
  | a :: r, b :: s, h1, h2 => by
    have ih := dot_le (r := r) (s := s) (fun x hx => h1 x (List.mem_cons_of_mem _ hx)) (fun x hx => h2 x (List.mem_cons_of_mem _ hx))
    have k : (a * b).natAbs ≤ R * M := by
      rw [Int.natAbs_mul]
      exact Nat.mul_le_mul (h1 a (List.mem_cons_self ..)) (h2 b (List.mem_cons_self ..))
    show (a * b + dotL r s).natAbs ≤ (s.length + 1) * (R * M)
    rw [Nat.add_mul, Nat.one_mul]
    have := Int.natAbs_add_le (a * b) (dotL r s)
    omega
theorem dot_le' {R M N K W : Nat} {r s : List Int} (h1 : LeL R r) (h2 : LeL M s) (l : s.length = N) (k : N * R ≤ K) (w : K * M ≤ W) : (dotL r s).natAbs ≤ W := by
  have a := dot_le h1 h2
  rw [l, ← Nat.mul_assoc] at a
  exact Nat.le_trans a (Nat.le_trans (Nat.mul_le_mul_right _ k) w)
/-! ### the growth over five rows -/
def g5m : Nat → Nat
  | 0 => 1
  | i + 1 => 3 * g5m i * (150 * g5m i) ^ 3
def g5n : Nat → Nat
  | 0 => 1
  | i + 1 => 128 * g5n i * (150 * g5m i) ^ 8
theorem gro5 : Gro 150 32 5 g5m g5n (fun i => 150 * g5m i) := by
  refine ⟨⟨Nat.le_refl _, Nat.le_refl _⟩, ?_, fun i _ => Nat.le_refl _, fun i _ => Nat.le_refl _, fun i _ => Nat.le_of_eq (by rfl), ?_, ?_, ?_, ?_⟩ <;> decide +kernel
theorem Gro.few {K u n : Nat} {mm mm' ww : Nat → Nat} (g : Gro K u n mm mm' ww) {v k : Nat} (h : v ≤ u) (hk : k ≤ n) : Gro K v k mm mm' ww :=
  ⟨g.o, fun i hi => g.w1 i (by omega), fun i hi => g.w2 i (by omega), fun i hi => g.g1 i (by omega), fun i hi => Nat.le_trans (Nat.mul_le_mul_right _ (Nat.mul_le_mul_right _ (Nat.mul_le_mul_left _ h))) (g.g2 i (by omega)), fun i hi => g.g3 i (by omega), fun i hi => g.b1 i (by omega), fun i hi => g.b2 i (by omega), fun i hi => g.bw i (by omega)⟩
/-! ### what is asked of `_brought_together` holds at each row -/
theorem Gro.brIn {K u n : Nat} {mm mm' ww : Nat → Nat} (g : Gro K u n mm mm' ww) {C : Addr} {H : Hp} {a ul : Addr} {row : List Int} {ps : List Addr} {xs : Str → List Int} {R : List (List Int)} {sg : List (Stl × List Int)} {cols : List Col} {N i B : Nat} (hi : i < n) (h : Sv xs R sg cols N (mm i) (mm' i))
    (hr : H a = some (.lst (row.map V.int))) (lr : row.length = N) (lN : N ≤ 1000) (uk : UkL C H ul ps cols) (lu : cols.length ≤ u) (u32 : u ≤ 32) (rb : LeL B row) (bB : B < 2 ^ 48000) (k : N * B ≤ K) :
    BrIn C H a ul row ps cols N cols.length (mm i) (mm' i) (ww i) (mm (i + 1)) (mm' (i + 1)) :=
  ⟨hr, lr, lN, uk, fun c hc => h.cn c (List.mem_append_right _ hc), rfl, by omega, rb.sm bB, g.w1 i hi, fun c hc => dot_le' rb (h.bd c (List.mem_append_right _ hc)).1 (h.cn c (List.mem_append_right _ hc)).1 k (g.w2 i hi), fun c hc => h.bd c (List.mem_append_right _ hc),
    g.g1 i hi, (g.few lu (Nat.le_refl n)).g2 i hi, g.g3 i hi, g.b1 (i + 1) (by omega), g.b2 (i + 1) (by omega), g.bw i hi⟩
end MK


set_option Elab.async false
set_option linter.all false
set_option maxRecDepth 100000
set_option maxHeartbeats 4000000
namespace MK
open PySem PySem.Spec PyProof.Rows L2
/-! ### the last unknown is taken off the list -/
theorem UkL.pop {C : Addr} {H : Hp} {ul : Addr} {ps : List Addr} {p : Addr} {cs : List Col} {c : Col} (h : UkL C H ul (ps ++ [p]) (cs ++ [c])) : UkL C (upd H ul (.lst (ps.map V.ref))) ul ps cs ∧ UnkAt C (upd H ul (.lst (ps.map V.ref))) p c.1 c.2 := by
  have nul : ul ∉ ps ++ [p] := h.notL h.l
  have hl : ∀ (x : List Int) (a : Addr), H a = some (.lst (x.map V.int)) → upd H ul (.lst (ps.map V.ref)) a = some (.lst (x.map V.int)) := fun x a e => by
    refine fne h.l e fun z => ?_
    have z := HO.lst.inj z
    cases ps with
    | nil =>
      cases x with
      | nil => cases z
      | cons b x => exact absurd (List.cons.inj z).1 (fun e => nomatch e)
    | cons a ps =>
      cases x with
      | nil => cases z
      | cons b x => exact absurd (List.cons.inj z).1 (fun e => nomatch e)
  have mv : ∀ {a : Addr} {c : Col}, a ∈ ps ++ [p] → UnkAt C H a c.1 c.2 → UnkAt C (upd H ul (.lst (ps.map V.ref))) a c.1 c.2 := fun {a c} ha u => by
    obtain ⟨dx, sa, ma, h1, h2, h3⟩ := u
    exact ⟨dx, sa, ma, by rw [upd_ne (fun z => nul (by rw [← z]; exact ha))]; exact h1, hl _ _ h2, hl _ _ h3⟩
  have len : ps.length = cs.length := by
    have := h.len
    rw [List.length_append, List.length_append] at this
    exact Nat.add_right_cancel this
  have gp : (ps ++ [p])[ps.length]? = some p := by rw [List.getElem?_append_right (Nat.le_refl _), Nat.sub_self]; rfl
  obtain ⟨c', hc', uc⟩ := paired_ix h.u gp
  rw [len, List.getElem?_append_right (Nat.le_refl _), Nat.sub_self] at hc'
  cases hc'
  refine ⟨⟨upd_same, (List.nodup_append.mp h.nd).1, paired_of len fun i x y hx hy => ?_⟩, mv (List.mem_append_right _ (List.mem_singleton.mpr rfl)) uc⟩
  have li : i < ps.length := (List.getElem?_eq_some_iff.mp hx).1
  obtain ⟨y', hy', u⟩ := paired_ix h.u (show (ps ++ [p])[i]? = some x by rw [List.getElem?_append_left li]; exact hx)
  rw [List.getElem?_append_left (by omega), hy] at hy'
  cases hy'
  exact mv (List.mem_append_left _ (List.mem_of_getElem? hx)) u
end MK


set_option Elab.async false
set_option linter.all false
set_option maxRecDepth 100000
set_option maxHeartbeats 4000000
namespace MK
open PySem PySem.Spec PyProof.Rows L2
/-! ### the names of the unknowns -/
theorem ofS_inj {a b : String} (h : Str.ofString a = Str.ofString b) : a = b := by
  have e : (Str.ofString a).cps.toList = (Str.ofString b).cps.toList := by rw [h]
  have k : a.toList.map Char.toNat = b.toList.map Char.toNat := by
    rw [PySem.Str.ofString_eq_toList, PySem.Str.ofString_eq_toList] at e
    exact e
  have q : a.toList = b.toList := (List.map_inj_right (f := Char.toNat) fun x y z => Char.toNat_inj.mp z).mp k
  exact String.toList_inj.mp q
abbrev nameQ (k : Nat) : Str := ("?" : Str) ++ (toString ((k : Nat) : Int) : Str)
theorem nameQ_inj {a b : Nat} (h : nameQ a = nameQ b) : a = b := by
  have e : (nameQ a).cps.toList = (nameQ b).cps.toList := by rw [h]
  have k : (Str.ofString (toString ((a : Nat) : Int))).cps.toList = (Str.ofString (toString ((b : Nat) : Int))).cps.toList := by
    have e2 : ((("?" : Str).cps ++ (Str.ofString (toString ((a : Nat) : Int))).cps).toList) = ((("?" : Str).cps ++ (Str.ofString (toString ((b : Nat) : Int))).cps).toList) := e
    rw [Array.toList_append, Array.toList_append] at e2
    exact List.append_cancel_left e2
  have q : Str.ofString (toString ((a : Nat) : Int)) = Str.ofString (toString ((b : Nat) : Int)) := by
    have : ∀ {x y : Str}, x.cps.toList = y.cps.toList → x = y := fun {x y} h => by
      cases x
      cases y
      exact congrArg Str.mk (Array.toList_inj.mp h)
    exact this k
  exact Nat.repr_inj.mp (ofS_inj q)
theorem names_nodup (n : Nat) : ((List.range n).map nameQ).Nodup := by
  rw [List.nodup_iff_pairwise_ne, List.pairwise_map]
  exact (List.nodup_range (n := n)).imp fun h e => h (nameQ_inj e)
end MK


set_option Elab.async false
set_option linter.all false
set_option maxRecDepth 100000
set_option maxHeartbeats 4000000
namespace MK
open PySem PySem.Spec PyProof.Rows L2
/-! ### the rows of `solved`, whether a choice solves them or not -/
def Sol (ls : List Str) (N : Nat) (R : List (Ms × List Int)) (xs : Str → List Int) : Prop := (∀ j, (xs j).length = N) ∧ ∀ r ∈ R, ∀ j, sumAt (notIn ls r.1) j + dotL r.2 (xs j) = 0
structure Sg (ls keys : List Str) (R : List (Ms × List Int)) (sg : List (Stl × List Int)) (cols : List Col) (N : Nat) : Prop where
  cn : ColN N (colsG sg ++ cols)
  du : Dual (colsG sg ++ cols)
  fu : Full N (colsG sg ++ cols)
  rz : ∀ r ∈ R, ∀ j, restAt r.1 ls r.2 (sg.map (·.1)) j = 0
  nz : ∀ r ∈ R, ∀ c ∈ cols, dotL r.2 c.1 = 0
  rl : ∀ r ∈ R, r.2.length = N
  ow : ∀ xs, Sol ls N R xs → Own xs sg
  ky : ∀ g ∈ sg, (g.1.m.map (·.1)).Nodup ∧ ∀ p ∈ g.1.m, p.1 ∈ keys
  tr : ∀ (i : Nat) (g : Stl × List Int), sg[i]? = some g → ∃ (n : Nat) (r : Ms × List Int), g.1.nb = (n : Int) ∧ R[n]? = some r ∧ dotL r.2 g.1.s = g.1.sh ∧ g.1.sh ≠ 0 ∧ (∀ (k : Nat) (h : Stl × List Int), i < k → sg[k]? = some h → dotL r.2 h.1.s = 0 ∧ g.1.nb < h.1.nb)
  le : sg.length ≤ R.length
theorem Sol.of_app {ls : List Str} {N : Nat} {R T : List (Ms × List Int)} {xs : Str → List Int} (h : Sol ls N (R ++ T) xs) : Sol ls N R xs := ⟨h.1, fun r hr => h.2 r (List.mem_append_left _ hr)⟩
theorem sg_start (ls keys : List Str) (N : Nat) : Sg ls keys [] [] (unitC N) N := by
  have h := sv_start (fun _ => []) N
  exact ⟨h.cn, h.du, h.fu, fun _ h => absurd h List.not_mem_nil, fun _ h => absurd h List.not_mem_nil, fun _ h => absurd h List.not_mem_nil, fun xs _ g hg => absurd hg List.not_mem_nil, fun g hg => absurd hg List.not_mem_nil, fun i g h => absurd (List.mem_of_getElem? h) List.not_mem_nil, Nat.le_refl _⟩
theorem Sg.shf {ls keys : List Str} {R : List (Ms × List Int)} {sg : List (Stl × List Int)} {cols d : List Col} {N : Nat} (h : Sg ls keys R sg cols N) (s : Shf cols d) : Sg ls keys R sg d N := by
  obtain ⟨c1, d1, f1⟩ := shf_keep (s.app (colsG sg)) h.cn
  exact ⟨c1, d1 h.du, f1 h.fu, h.rz, fun r hr => shf_nought (h.rl r hr) s (fun c hc => h.cn c (List.mem_append_right _ hc)) (h.nz r hr), h.rl, h.ow, h.ky, h.tr, h.le⟩
theorem mem_snoc {α : Type} {R : List α} {r x : α} (h : x ∈ R ++ [r]) : x ∈ R ∨ x = r := (List.mem_append.mp h).imp id List.mem_singleton.mp
theorem get_app {α : Type} {R T : List α} {n : Nat} {r : α} (h : R[n]? = some r) : (R ++ T)[n]? = some r := by
  rw [List.getElem?_append_left (List.getElem?_eq_some_iff.mp h).1]
  exact h
/-- the row's rest is what is left of it -/
theorem Sg.none {ls keys : List Str} {R : List (Ms × List Int)} {sg : List (Stl × List Int)} {cols : List Col} {N : Nat} (h : Sg ls keys R sg cols N) {m : Ms} {row : List Int} (hr : row.length = N) (h0 : ∀ c ∈ cols, dotL row c.1 = 0) (hz : ∀ j, restAt m ls row (sg.map (·.1)) j = 0) : Sg ls keys (R ++ [(m, row)]) sg cols N :=
  ⟨h.cn, h.du, h.fu, fun r hm => by
    rcases mem_snoc hm with hm | rfl
    · exact h.rz r hm
    · exact hz, fun r hm => by
    rcases mem_snoc hm with hm | rfl
    · exact h.nz r hm
    · exact h0, fun r hm => by
    rcases mem_snoc hm with hm | rfl
    · exact h.rl r hm
    · exact hr, fun xs hs => h.ow xs hs.of_app, h.ky, fun i g hg => by
    obtain ⟨n, r, e1, e2, e3⟩ := h.tr i g hg
    exact ⟨n, r, e1, get_app e2, e3⟩, by
    have := h.le
    rw [List.length_append]
    omega⟩
theorem restAt_snoc (m : Ms) (ls : List Str) (row : List Int) (sets : List Stl) (t : Stl) (j : Str) : restAt m ls row (sets ++ [t]) j = restAt m ls row sets j + sumAt t.m j * dotL row t.s := by
  unfold restAt
  rw [List.map_append, List.sum_append]
  show _ + (_ + (sumAt t.m j * dotL row t.s + 0)) = _
  omega
theorem ovq_sum {r : Ms} {res : Int} (h0 : res ≠ 0) (c : Can r) (h : ∀ p ∈ r, res ∣ p.2) (j : Str) : sumAt (ovW res r) j * res = - at0 r j := by
  have hk : ∀ j, at0 r j = -(res * (-(at0 r j / res))) := fun j => by
    by_cases z : at0 r j = 0
    · rw [z, Int.zero_ediv, Int.neg_zero, Int.mul_zero]
      rfl
    · have hm := at0_mem z
      rw [Int.mul_neg, Int.neg_neg, Int.mul_ediv_cancel' (h _ hm)]
  rw [ovr_sum (k := fun j => -(at0 r j / res)) h0 c hk j]
  have := hk j
  rw [Int.mul_comm]
  omega
/-- the last unknown is settled -/
theorem Sg.last {ls keys : List Str} {R : List (Ms × List Int)} {sg : List (Stl × List Int)} {d : List Col} {N : Nat} (h : Sg ls keys R sg d N) {m : Ms} {row : List Int} (hr : row.length = N)
    {l : Nat} {c : Col} {res : Int} (hc : d[l]? = some c) (hd : dotL row c.1 = res) (h0 : ∀ (i : Nat) (x : Col), d[i]? = some x → i ≠ l → dotL row x.1 = 0) (rn : res ≠ 0)
    {rs : Ms} (hcan : Can rs) (hrs : ∀ j, at0 rs j = restAt m ls row (sg.map (·.1)) j) (hdv : ∀ p ∈ rs, res ∣ p.2) (hky : ∀ p ∈ rs, p.1 ∈ keys) {t : Stl} (ts : t.s = c.1) (tm : t.m = ovW res rs) (th : t.sh = res) (tn : t.nb = (R.length : Int)) : Sg ls keys (R ++ [(m, row)]) (sg ++ [(t, c.2)]) (d.eraseIdx l) N := by
  have pe := erase_perm hc
  have p1 : (colsG sg ++ d).Perm (colsG sg ++ (d.eraseIdx l ++ [c])) := pe.append_left _
  have z : ∀ x ∈ d.eraseIdx l, dotL row x.1 = 0 := fun x hx => by
    obtain ⟨i, n, hi⟩ := erase_mem hx
    exact h0 i x hi n
  have ec : colsG (sg ++ [(t, c.2)]) ++ d.eraseIdx l = colsG sg ++ ([c] ++ d.eraseIdx l) := by
    unfold colsG
    rw [List.map_append, List.append_assoc]
    show _ ++ ((t.s, c.2) :: _) = _
    rw [ts]
    rfl
  have p2 : (colsG sg ++ d).Perm (colsG (sg ++ [(t, c.2)]) ++ d.eraseIdx l) := by
    rw [ec]
    exact p1.trans (List.perm_append_comm.append_left _)
  have em : (sg ++ [(t, c.2)]).map (·.1) = sg.map (·.1) ++ [t] := by
    rw [List.map_append]
    rfl
  have cm := List.mem_of_getElem? hc
  refine ⟨fun x hx => h.cn x (p2.mem_iff.mpr hx), h.du.perm p2, h.fu.perm p2, fun r hm2 j => ?_, fun r hm2 x hx => ?_, fun r hm2 => ?_, fun xs hs => ?_, fun g hg => ?_, fun i g hg => ?_, ?_⟩
  · rw [em, restAt_snoc]
    rcases mem_snoc hm2 with hm2 | rfl
    · rw [h.rz r hm2 j, ts, h.nz r hm2 c cm, Int.mul_zero]
      rfl
    · show restAt m ls row (sg.map (·.1)) j + sumAt t.m j * dotL row t.s = 0
      rw [ts, hd, tm, ovq_sum rn hcan hdv, hrs]
      omega
  · rcases mem_snoc hm2 with hm2 | rfl
    · exact h.nz r hm2 x (List.mem_of_mem_eraseIdx hx)
    · exact z x hx
  · rcases mem_snoc hm2 with hm2 | rfl
    · exact h.rl r hm2
    · exact hr
  · have o1 := h.ow xs hs.of_app
    intro g hg j
    rcases mem_snoc hg with hg | rfl
    · exact o1 g hg j
    · have k := rest_last (fun x hx => h.cn x (p1.mem_iff.mpr hx)) (h.fu.perm p1) hr hs.1 o1 (hs.2 (m, row) (List.mem_append_right _ (List.mem_singleton.mpr rfl))) z
      have e : ∀ j, at0 rs j = -(res * dotL c.2 (xs j)) := fun j => by rw [hrs, k j, hd]
      show sumAt t.m j = _
      rw [tm]
      exact ovr_sum rn hcan e j
  · rcases mem_snoc hg with hg | rfl
    · exact h.ky g hg
    · show (t.m.map (·.1)).Nodup ∧ ∀ p ∈ t.m, p.1 ∈ keys
      rw [tm, ovr_keys]
      refine ⟨hcan.ris.nodup, fun p hp => ?_⟩
      obtain ⟨q, hq, rfl⟩ := List.mem_map.mp hp
      exact hky q hq
  · rcases Nat.lt_trichotomy i sg.length with l | l | l
    · rw [List.getElem?_append_left l] at hg
      obtain ⟨n, r, e1, e2, e3, e4, e5⟩ := h.tr i g hg
      refine ⟨n, r, e1, get_app e2, e3, e4, fun k u hk hu => ?_⟩
      by_cases kl : k < sg.length
      · rw [List.getElem?_append_left kl] at hu
        exact e5 k u hk hu
      · have kl2 : k < (sg ++ [(t, c.2)]).length := (List.getElem?_eq_some_iff.mp hu).1
        rw [List.length_append] at kl2
        have kl2 : k < sg.length + 1 := kl2
        rw [List.getElem?_append_right (by omega), show k - sg.length = 0 by omega] at hu
        cases hu
        refine ⟨?_, ?_⟩
        · show dotL r.2 t.s = 0
          rw [ts]
          exact h.nz r (List.mem_of_getElem? e2) c cm
        · show g.1.nb < t.nb
          have := (List.getElem?_eq_some_iff.mp e2).1
          rw [e1, tn]
          omega
    · rw [List.getElem?_append_right (by omega), show i - sg.length = 0 by omega] at hg
      cases hg
      refine ⟨R.length, (m, row), tn, ?_, ?_, ?_, fun k u hk hu => ?_⟩
      · rw [List.getElem?_append_right (Nat.le_refl _), Nat.sub_self]
        rfl
      · show dotL row t.s = t.sh
        rw [ts, th]
        exact hd
      · show t.sh ≠ 0
        rw [th]
        exact rn
      · rw [List.getElem?_eq_none (by rw [List.length_append]; show sg.length + 1 ≤ k; omega)] at hu
        cases hu
    · rw [List.getElem?_eq_none (by rw [List.length_append]; show sg.length + 1 ≤ i; omega)] at hg
      cases hg
  · have := h.le
    rw [List.length_append, List.length_append]
    show sg.length + 1 ≤ R.length + 1
    omega
theorem Sg.lens {ls keys : List Str} {R : List (Ms × List Int)} {sg : List (Stl × List Int)} {cols : List Col} {N : Nat} (h : Sg ls keys R sg cols N) : (∀ x ∈ sg.map (·.1), x.s.length = N) ∧ ∀ c ∈ cols, c.1.length = N := by
  refine ⟨fun x hx => ?_, fun c hc => (h.cn c (List.mem_append_right _ hc)).1⟩
  obtain ⟨g, hg, rfl⟩ := List.mem_map.mp hx
  exact (h.cn (g.1.s, g.2) (List.mem_append_left _ (List.mem_map.mpr ⟨g, hg, rfl⟩))).1
/-- each row is solved -/
theorem Sg.solves {ls keys : List Str} {R : List (Ms × List Int)} {sg : List (Stl × List Int)} {cols : List Col} {N : Nat} (h : Sg ls keys R sg cols N) {r : Ms × List Int} (hR : r ∈ R) (ns : List Str) (j : Str) :
    sumAt (notIn ls r.1) j + fillT r.2 (sg.map (·.1)) cols ns N j = 0 := by
  have k := h.rz r hR j
  unfold restAt at k
  rw [fill_told (h.rl r hR) h.lens.1 h.lens.2, sf_zero (xs := ns.zip cols) fun z hz => by rw [h.nz r hR z.2 (List.of_mem_zip hz).2, ite_self]]
  have k : sumAt (notIn ls r.1) j + (SumF (sg.map (·.1)) fun x => sumAt x.m j * dotL r.2 x.s) = 0 := k
  omega
/-- each unknown, its letters filled in, is itself -/
theorem Sg.itself {ls keys : List Str} {R : List (Ms × List Int)} {sg : List (Stl × List Int)} {cols : List Col} {N : Nat} (h : Sg ls keys R sg cols N) {ns : List Str} (nn : ns.Nodup) {k : Nat} {c : Col} {n : Str} (hc : cols[k]? = some c) (hn : ns[k]? = some n) (j : Str) :
    fillT c.2 (sg.map (·.1)) cols ns N j = if n = j then 1 else 0 := by
  have du := dual_ix.mp h.du
  have hk : (colsG sg ++ cols)[(colsG sg).length + k]? = some c := by rw [List.getElem?_append_right (by omega), Nat.add_sub_cancel_left]; exact hc
  rw [fill_told (h.cn c (List.mem_append_right _ (List.mem_of_getElem? hc))).2 h.lens.1 h.lens.2]
  rw [sf_zero (xs := sg.map (·.1)) fun x hx => by
    obtain ⟨g, hg, rfl⟩ := List.mem_map.mp hx
    obtain ⟨i, hi⟩ := List.mem_iff_getElem?.mp hg
    have li : i < sg.length := (List.getElem?_eq_some_iff.mp hi).1
    have hi2 : (colsG sg ++ cols)[i]? = some (g.1.s, g.2) := by
      rw [List.getElem?_append_left (by unfold colsG; rw [List.length_map]; exact li), List.getElem?_map, hi]
      rfl
    have e := du _ i c _ hk hi2
    rw [if_neg (by unfold colsG; rw [List.length_map]; omega)] at e
    rw [e, Int.mul_zero]]
  rw [sum_pick (f := fun x : Col => dotL c.2 x.1) nn hn (fun i x hi => by
    have hi2 : (colsG sg ++ cols)[(colsG sg).length + i]? = some x := by rw [List.getElem?_append_right (by omega), Nat.add_sub_cancel_left]; exact hi
    rw [du _ _ c x hk hi2]
    by_cases q : i = k
    · rw [if_pos (by omega), if_pos q]
    · rw [if_neg (by omega), if_neg q]) (List.getElem?_eq_some_iff.mp hc).1]
  omega
/-- of a choice that solves: what is told of the i-th letter, the unknowns filled with what they are made of, is the choice's -/
theorem Sg.choice {ls keys : List Str} {R : List (Ms × List Int)} {sg : List (Stl × List Int)} {cols : List Col} {N : Nat} (h : Sg ls keys R sg cols N) {xs : Str → List Int} (hs : Sol ls N R xs) {i : Nat} (hi : i < N) (j : Str) :
    (SumF (sg.map (·.1)) fun x => sumAt x.m j * atP x.s i) + (SumF cols fun c => atP c.1 i * dotL c.2 (xs j)) = atP (xs j) i := by
  have o := h.ow xs hs
  have lx := hs.1 j
  have e := full_dot h.cn h.fu (row := unitL i N) (x := xs j) (unit_len _ _) lx
  have ud : ∀ {s : List Int}, s.length = N → dotL (unitL i N) s = atP s i := fun {s} l => by
    rw [dot_range _ _ (by rw [unit_len, l]), l, ← sf_delta (fun q => atP s q) N i hi]
    refine sf_congr fun q hq => ?_
    have hq := List.mem_range.mp hq
    rw [unit_at]
    by_cases e : i = q
    · rw [if_pos ⟨hq, e.symm⟩, if_pos e, Int.one_mul, Int.mul_one]
    · rw [if_neg (fun z => e z.2.symm), if_neg e, Int.zero_mul, Int.mul_zero]
  rw [ud lx, sf_app] at e
  rw [e]
  congr 1
  · show (List.map _ (List.map _ sg)).sum = (List.map _ (List.map _ sg)).sum
    rw [List.map_map, List.map_map]
    refine congrArg List.sum (List.map_congr_left fun g hg => ?_)
    show sumAt g.1.m j * atP g.1.s i = dotL (unitL i N) g.1.s * dotL g.2 (xs j)
    have l : g.1.s.length = N := (h.cn (g.1.s, g.2) (List.mem_append_left _ (List.mem_map.mpr ⟨g, hg, rfl⟩))).1
    rw [o g hg j, ud l, Int.mul_comm]
  · refine sf_congr fun c hc => ?_
    rw [ud (h.cn c (List.mem_append_right _ hc)).1]
theorem sum_notIn (ls : List Str) (j : Str) : ∀ m : Ms, sumAt (notIn ls m) j = if j ∈ ls then 0 else sumAt m j
  | [] => by
    show (0 : Int) = _
    split <;> rfl
  | p :: m => by
    have ih := sum_notIn ls j m
    unfold notIn at ih ⊢
    by_cases h : p.1 ∈ ls
    · rw [List.filter_cons, if_neg (by rw [decide_eq_true h]; decide), ih]
      by_cases e : j ∈ ls
      · rw [if_pos e, if_pos e]
      · rw [if_neg e, if_neg e]
        show _ = (if p.1 = j then p.2 else 0) + sumAt m j
        rw [if_neg (fun z => e (by rw [← z]; exact h))]
        omega
    · rw [List.filter_cons, if_pos (by rw [decide_eq_false h]; decide)]
      show (if p.1 = j then p.2 else 0) + sumAt (List.filter _ m) j = _
      rw [ih]
      by_cases e : j ∈ ls
      · rw [if_pos e, if_pos e, if_neg (fun z => h (by rw [z]; exact e))]
        rfl
      · rw [if_neg e, if_neg e]
        rfl
end MK


set_option Elab.async false
set_option linter.all false
set_option maxRecDepth 100000
set_option maxHeartbeats 4000000
namespace MK
open PySem PySem.Spec PyProof.Rows L2
theorem pss_dead {X : Cx} {st : List Stmt} : PSs X st (fun _ _ _ => False) := ⟨fun _ _ _ _ _ _ h => h.elim⟩
/-! ### a dict made over what goes on by turns -/
theorem dc_it {J : It} {k : Nat} {G : Hp → Prop} {Y : Nat → Hp → V → Hp → Prop} (wk : Walk J k G Y) {g : TG} {tt : TT} {tk tv : TE} {sl : List Nat} {σ : L2.St} {H0 : Hp} {D : Addr} {Fin : Hp → Prop} (At : Nat → Hp → Prop) (a0 : At 0 (upd H0 D (.dK []))) (aG : ∀ (j : Nat) (H : Hp), j ≤ k → At j H → G H)
    (step : ∀ (j : Nat) (v : V) (H G' : Hp), j < k → At j H → Y j H v G' → g v (wipe σ sl) G' (fun τ H2 => wipe τ sl = wipe σ sl ∧ tt τ H2 (fun c H3 => if c = true then tk τ H3 (fun y H4 => tv τ H4 (fun z H5 => ∃ m l, y = kV l ∧ H5 D = some (.dK m) ∧ m.length < sizeLine ∧ At (j + 1) (upd H5 D (.dK (putK m l z))))) else At (j + 1) H3)))
    (fin : ∀ H, At k H → Fin H) :
    ∃ U : Nat → Nat → Hp → Prop, (∃ m, U 0 m (upd H0 D (.dK []))) ∧ ∀ j m H, U j m H → (J.stop j H ∧ Fin H) ∨ (J.go j H ∧ ∃ Nx : Hp → Prop, (∀ H', Nx H' → ∃ m', m' < m ∧ U (j + 1) m' H') ∧
      ∀ v G', J.yld j H v G' → g v (wipe σ sl) G' (fun τ H2 => wipe τ sl = wipe σ sl ∧ tt τ H2 (fun c H3 => if c = true then tk τ H3 (fun y H4 => tv τ H4 (fun z H5 => ∃ m l, y = kV l ∧ H5 D = some (.dK m) ∧ m.length < sizeLine ∧ Nx (upd H5 D (.dK (putK m l z))))) else Nx H3))) := by
  refine ⟨fun j m H => j ≤ k ∧ m = k - j ∧ At j H, ⟨k, Nat.zero_le _, (Nat.sub_zero k).symm, a0⟩, fun j m H hu => ?_⟩
  obtain ⟨jk, rfl, p⟩ := hu
  have hG := aG j H jk p
  rcases Nat.lt_or_ge j k with lt | ge
  · exact .inr ⟨wk.goes j H lt hG, At (j + 1), fun H' p' => ⟨k - (j + 1), by omega, lt, rfl, p'⟩, fun v G' y => step j v H G' lt p (wk.yields j H v G' lt hG y)⟩
  · obtain rfl : j = k := Nat.le_antisymm jk ge
    exact .inl ⟨wk.stops H hG, fin H p⟩
/-! ### what stays while unknowns change -/
abbrev Sx (H H' : Hp) : Prop := Ux [] H H'
theorem TupN.sx {H H' : Hp} {b : Addr} {xs : List V} (s : Sx H H') (h : TupN H b xs) : TupN H' b xs := by
  obtain ⟨o, e, d⟩ := h
  exact ⟨o, s _ _ List.not_mem_nil (fun _ z => nomatch z) e, d⟩
theorem PrAt.sx {H H' : Hp} {t : Addr} {p : Str × Int} (s : Sx H H') (h : PrAt H t p) : PrAt H' t p := s _ _ List.not_mem_nil (fun _ z => nomatch z) h
theorem MsN.sx {H H' : Hp} {b : Addr} {m : Ms} (s : Sx H H') (h : MsN H b m) : MsN H' b m := by
  obtain ⟨ts, t, p⟩ := h
  exact ⟨ts, TupN.sx s t, Paired.mono (fun _ _ z => PrAt.sx s z) p⟩
theorem Sx.lst {H H' : Hp} {a : Addr} {xs : List V} (s : Sx H H') (h : H a = some (.lst xs)) : H' a = some (.lst xs) := s _ _ List.not_mem_nil (fun _ z => nomatch z) h
theorem NmAt.sx {H H' : Hp} {d : Addr} {ads : List (Str × Addr)} {fl : List (Str × Ms)} (s : Sx H H') (h : NmAt H d ads fl) : NmAt H' d ads fl := ⟨s _ _ List.not_mem_nil (fun _ z => nomatch z) h.1, Paired.mono (fun x y z => ⟨z.1, z.2.sx s⟩) h.2⟩
theorem Sx.refl (H : Hp) : Sx H H := fun _ _ _ _ e => e
/-- what stood ahead of the unknowns stays -/
theorem sx_ux {ex : List Addr} {H1 H H' : Hp} (s : Sx H1 H) (u : Ux ex H H') (n : ∀ c ∈ ex, H1 c = none) : Sx H1 H' := fun c x _ t e => u c x (fun z => by rw [n c z] at e; cases e) t (s c x List.not_mem_nil t e)
theorem sx_upd {H1 H : Hp} {p : Addr} {o : HO} (s : Sx H1 H) (n : H1 p = none) : Sx H1 (upd H p o) := fun c x h t e => by
  rw [upd_ne (ne_of_none e n)]
  exact s c x h t e
/-- a settled one stays while unknowns change -/
theorem SetAt.ux {C D : Addr} {H H' : Hp} {ul : Addr} {ps : List Addr} {cs : List Col} {p : Addr} {x : Stl} (u : Ux (ul :: ps) H H') (k : UkL C H ul ps cs) (ne : x.s ≠ []) (h : SetAt D H p x) : SetAt D H' p x := by
  obtain ⟨dx, sa, b, h1, h2, h3⟩ := h
  have nl : ∀ {c : Addr} {y : HO}, H c = some y → y ≠ .lst (ps.map V.ref) → (∀ dx sa ma, y ≠ .ins C dx (fldsU sa ma)) → (∀ q, y ≠ .tbl q) → H' c = some y := fun {c y} e n1 n2 n3 => by
    refine u c y (fun z => ?_) n3 e
    rcases List.mem_cons.mp z with rfl | z
    · rw [k.l] at e
      exact n1 (Option.some.inj e).symm
    · obtain ⟨dx, sa, ma, e2⟩ := k.ins z
      rw [e] at e2
      exact n2 _ _ _ (Option.some.inj e2)
  obtain ⟨ts, ⟨o, e, d⟩, pr⟩ := h3
  refine ⟨dx, sa, b, nl h1 (fun z => nomatch z) (fun dx' sa' ma z => ?_) (fun _ z => nomatch z), nl h2 (fun z => ?_) (fun _ _ _ z => nomatch z) (fun _ z => nomatch z), ts, ⟨o, nl e (fun z => nomatch z) (fun _ _ _ z => nomatch z) (fun _ z => nomatch z), d⟩, Paired.mono (fun t q z => @nl t (.tup [.str q.1, .int q.2]) z (fun z => nomatch z) (fun _ _ _ z => nomatch z) (fun _ z => nomatch z)) pr⟩
  · have z := congrArg (fun o : HO => match o with | .ins _ _ fs => fs.length | _ => 0) z
    exact absurd (show (4 : Nat) = 2 from z) (by decide)
  · have z := HO.lst.inj z
    cases hs : x.s with
    | nil => exact ne hs
    | cons y ys =>
      rw [hs] at z
      cases ps with
      | nil => cases z
      | cons a l => exact absurd (List.cons.inj z).1 (fun e => nomatch e)
/-- a list of things is put in another's place: settled ones stay -/
theorem SetAt.put {D : Addr} {H : Hp} {l : Addr} {ps : List Addr} {o : HO} {p : Addr} {x : Stl} (hl : H l = some (.lst (ps.map V.ref))) (ne : x.s ≠ []) (h : SetAt D H p x) : SetAt D (upd H l o) p x := by
  obtain ⟨dx, sa, b, h1, h2, h3⟩ := h
  refine ⟨dx, sa, b, fne hl h1 (fun z => nomatch z), fne hl h2 fun z => ?_, h3.lst hl⟩
  have z := HO.lst.inj z
  cases hs : x.s with
  | nil => exact ne hs
  | cons y ys =>
    rw [hs] at z
    cases ps with
    | nil => cases z
    | cons a l => exact absurd (List.cons.inj z).1 (fun e => nomatch e)
/-- an own list is put in another's place: unknowns stay -/
theorem UkL.put {C : Addr} {H : Hp} {ul l : Addr} {ps qs : List Addr} {cs : List Col} {o : HO} (h : UkL C H ul ps cs) (hl : H l = some (.lst (qs.map V.ref))) (n : ul ≠ l) (ne : ∀ c ∈ cs, c.1 ≠ [] ∧ c.2 ≠ []) : UkL C (upd H l o) ul ps cs := by
  have ni : ∀ {a : Addr} {x : List Int}, x ≠ [] → H a = some (.lst (x.map V.int)) → upd H l o a = some (.lst (x.map V.int)) := fun {a x} nx e => by
    refine fne hl e fun z => ?_
    have z := HO.lst.inj z
    cases x with
    | nil => exact nx rfl
    | cons y ys =>
      cases qs with
      | nil => cases z
      | cons a l => exact absurd (List.cons.inj z).1 (fun e => nomatch e)
  refine ⟨by rw [upd_ne n]; exact h.l, h.nd, paired_of h.u.length fun i p c hp hc => ?_⟩
  obtain ⟨c', hc', dx, sa, ma, h1, h2, h3⟩ := paired_ix h.u hp
  rw [hc] at hc'
  cases hc'
  obtain ⟨n1, n2⟩ := ne c (List.mem_of_getElem? hc)
  exact ⟨dx, sa, ma, fne hl h1 (fun z => nomatch z), ni n1 h2, ni n2 h3⟩
/-! ### what is asked of `solved`, what it tells -/
abbrev rowsOf (ls : List Str) (ms : List Ms) : List (Ms × List Int) := ms.map fun m => (m, powersOf m ls)
theorem rows_len (m : Ms) (ls : List Str) : (powersOf m ls).length = ls.length := by
  unfold powersOf
  rw [List.length_map]
/-- the numbers at a row -/
structure RowB (row : List Int) (cols : List Col) (M M' W F F' : Nat) : Prop where
  w1 : 1 ≤ W
  pw : ∀ c ∈ cols, (dotL row c.1).natAbs ≤ W
  st : ∀ c ∈ cols, LeL M c.1 ∧ LeL M' c.2
  f1 : 3 * M * W ^ 3 ≤ F
  f2 : 4 * cols.length * M' * W ^ 8 ≤ F'
  f3 : M' ≤ F'
  b1 : F < 2 ^ 48000
  b2 : F' < 2 ^ 48000
  bw : W < 2 ^ 7980
/-- what is known of the numbers, from row to row -/
structure JOk (ls keys : List Str) (ms : List Ms) (N b : Nat) (J : Nat → List (Stl × List Int) → List Col → Prop) : Prop where
  j0 : J 0 [] (unitC N)
  hb : b ≤ 7990
  jb : ∀ i sg cols, J i sg cols → (∀ c ∈ cols, SmL 47000 c.1 ∧ SmL 47000 c.2) ∧ ∀ g ∈ sg, SmL 47000 g.1.s ∧ ∀ p ∈ g.1.m, Sm 47000 p.2
  jr : ∀ i m sg cols, ms[i]? = some m → J i sg cols → Sg ls keys (rowsOf ls (ms.take i)) sg cols N → (∃ c ∈ cols, dotL (powersOf m ls) c.1 ≠ 0) → ∃ M M' W F F', RowB (powersOf m ls) cols M M' W F F' ∧ ∀ d, Shf cols d → ColN N d → (∀ c ∈ d, LeL F c.1 ∧ LeL F' c.2) →
    ∀ (l : Nat) (c : Col) (t : Stl), d[l]? = some c → Sm b (dotL (powersOf m ls) c.1) ∧ (t.s = c.1 → t.sh = dotL (powersOf m ls) c.1 → (∀ p ∈ t.m, p.2.natAbs ≤ (restAt m ls (powersOf m ls) (sg.map (·.1)) p.1).natAbs) → J (i + 1) (sg ++ [(t, c.2)]) (d.eraseIdx l))
  jn : ∀ i sg cols, J i sg cols → J (i + 1) sg cols
  js : ∀ i m sg cols, m ∈ ms → J i sg cols → (∀ g ∈ sg, g.1.s.length = N) → ∀ g ∈ sg, Sm 20000 (dotL (powersOf m ls) g.1.s)
theorem rowB_nought {row : List Int} {cols : List Col} (h0 : ∀ c ∈ cols, dotL row c.1 = 0) (hb : ∀ c ∈ cols, SmL 47000 c.1 ∧ SmL 47000 c.2) (l32 : cols.length ≤ 32) : RowB row cols (2 ^ 47000) (2 ^ 47000) 1 (3 * 2 ^ 47000) (128 * 2 ^ 47000) := by
  have k : 3 * 2 ^ 47000 < 2 ^ 48000 ∧ 128 * 2 ^ 47000 < 2 ^ 48000 := by decide +kernel
  generalize hB : (2 : Nat) ^ 47000 = B at k ⊢
  refine ⟨Nat.le_refl _, fun c hc => by rw [h0 c hc]; exact Nat.zero_le _, fun c hc => ⟨fun x hx => ?_, fun x hx => ?_⟩, by rw [Nat.one_pow, Nat.mul_one]; exact Nat.le_refl _, ?_, Nat.le_mul_of_pos_left _ (by decide), k.1, k.2, Nat.one_lt_two_pow (by decide)⟩
  · have := (hb c hc).1 x hx
    unfold Sm at this
    omega
  · have := (hb c hc).2 x hx
    unfold Sm at this
    omega
  · rw [Nat.one_pow, Nat.mul_one]
    exact Nat.mul_le_mul_right _ (by omega)
structure SoIn (H : Hp) (a b : Addr) (mads : List Addr) (ms : List Ms) (ls keys : List Str) (N bt : Nat) (J : Nat → List (Stl × List Int) → List Col → Prop) : Prop where
  a : H a = some (.lst (mads.map V.ref))
  m : Paired (MsN H) mads ms
  l : H b = some (.lst (ls.map V.str))
  ll : ls.length = N
  l32 : N ≤ 32
  nd : ls.Nodup
  mo : ∀ m ∈ ms, (m.map (·.1)).Nodup ∧ m.length ≤ 1000 ∧ (∀ p ∈ m, Sm 48000 p.2) ∧ ∀ p ∈ m, p.1 ∈ ls ∨ p.1 ∈ keys
  kl : keys.length ≤ 100
  ml : ms.length ≤ 60
  j : JOk ls keys ms N bt J
  kd : ∀ z ∈ keys, z ∉ ls
theorem dot_nil (r : List Int) : dotL r [] = 0 := by cases r <;> rfl
theorem Sg.ne {ls keys : List Str} {R : List (Ms × List Int)} {sg : List (Stl × List Int)} {cols : List Col} {N : Nat} (h : Sg ls keys R sg cols N) : ∀ x ∈ sg.map (·.1), x.s ≠ [] := fun x hx e => by
  obtain ⟨g, hg, rfl⟩ := List.mem_map.mp hx
  obtain ⟨i, hi⟩ := List.mem_iff_getElem?.mp hg
  obtain ⟨n, r, _, _, e3, e4, _⟩ := h.tr i g hi
  rw [e, dot_nil] at e3
  exact e4 e3.symm
theorem sum_le {α : Type} (f : α → Nat) (b : Nat) : ∀ xs : List α, (∀ x ∈ xs, f x ≤ b) → (xs.map f).sum ≤ xs.length * b
  | [], _ => Nat.zero_le _
  | x :: xs, h => by
    have ih := sum_le f b xs fun y hy => h y (List.mem_cons_of_mem _ hy)
    have := h x (List.mem_cons_self ..)
    rw [List.map_cons, List.sum_cons, List.length_cons, Nat.add_mul]
    omega
theorem keys_le {m : Ms} {keys : List Str} (nd : (m.map (·.1)).Nodup) (h : ∀ p ∈ m, p.1 ∈ keys) : m.length ≤ keys.length := by
  have := List.Nodup.length_le_of_subset nd (l₂ := keys) fun z hz => by
    obtain ⟨p, hp, rfl⟩ := List.mem_map.mp hz
    exact h p hp
  rwa [List.length_map] at this
/-- the letters of what is left of a row -/
theorem rest_keys {ls keys : List Str} {m : Ms} {row : List Int} {sets : List Stl} (hm : ∀ p ∈ m, p.1 ∈ ls ∨ p.1 ∈ keys) (hs : ∀ x ∈ sets, ∀ p ∈ x.m, p.1 ∈ keys) {j : Str} (h : restAt m ls row sets j ≠ 0) : j ∈ keys := by
  by_cases h1 : sumAt (notIn ls m) j = 0
  · by_cases h2 : ∀ x ∈ sets, sumAt x.m j = 0
    · exfalso
      apply h
      unfold restAt
      rw [h1]
      show 0 + SumF sets (fun x => sumAt x.m j * dotL row x.s) = 0
      rw [sf_zero fun x hx => by rw [h2 x hx, Int.zero_mul]]
      rfl
    · obtain ⟨x, hx0⟩ := Classical.not_forall.mp h2
      obtain ⟨hx, h3⟩ := Classical.not_imp.mp hx0
      obtain ⟨p, hp, rfl⟩ := List.mem_map.mp (sumAt_mem h3)
      exact hs x hx p hp
  · obtain ⟨p, hp, rfl⟩ := List.mem_map.mp (sumAt_mem h1)
    unfold notIn at hp
    obtain ⟨hp, hn⟩ := List.mem_filter.mp hp
    rcases hm p hp with z | z
    · rw [decide_eq_true z] at hn
      cases hn
    · exact z
theorem nameQ_small : ∀ k : Nat, k < 33 → (((k : Nat) : Int).natAbs.log2 < 1920 ∧ (Str.ofString (toString ((k : Nat) : Int))).length ≤ 2) := by decide +kernel
theorem one_len : (Str.ofString "?").length = 1 := by decide +kernel
abbrev namesQ (n : Nat) : List Str := (List.range n).map nameQ
/-- what is told: letters' measures, unknowns -/
structure SoOut (H : Hp) (t : Addr) (ls keys : List Str) (ms : List Ms) (N : Nat) (J : Nat → List (Stl × List Int) → List Col → Prop) (sg : List (Stl × List Int)) (cols : List Col) (tm um : List (Str × Ms)) : Prop where
  h : ∃ p u ads uds, H t = some (.tup [.ref p, .ref u]) ∧ NmAt H p ads tm ∧ NmAt H u uds um ∧ p ≠ u
  tk : tm.map (·.1) = ls
  tt : ∀ (i : Nat) (z : Str × Ms), tm[i]? = some z → IsTold (sg.map (·.1)) cols (namesQ cols.length) i z.2
  uk : um.map (·.1) = namesQ cols.length
  ut : ∀ (k : Nat) (z : Str × Ms) (c : Col), um[k]? = some z → cols[k]? = some c → Can z.2 ∧ ∀ j, at0 z.2 j = sumAt (ls.zip c.2) j
  g : Sg ls keys (rowsOf ls ms) sg cols N
  j : J ms.length sg cols
  n : cols.length ≤ N
end MK


set_option Elab.async false
set_option linter.all false
set_option maxRecDepth 100000
set_option maxHeartbeats 4000000
namespace MK
open PySem PySem.Spec PyProof.Rows L2
/-- what the class of an error of the program's own is known by -/
structure ErrAt (K : PySem.W.Frag) (mg : Str → Option Value) (x : Str) (B : Addr) : Prop where
  x1 : PySem.W.excIn K B [.type "ValueError", .type "Exception", .type "BaseException", .type "object"] "ValueError.__new__" = true
  g : mg x = some (.ref B)
  k : PySem.W.keepIn K (.ref B) = true
  b : PySem.W.subIn K (.ref B) (.type "BaseException") = some true
  t : PySem.W.typeIn K (.ref B) = some (.type "type")
theorem at2_0 (x y : V) : atI [x, y] 0 = some x := rfl
theorem at2_1 (x y : V) : atI [x, y] 1 = some y := rfl
/-- two fractions handed in, what comes of them -/
def spTwoF (B : Addr) (o : Op4) : Sp := fun vs H Q E => ∃ (a b : Addr) (u v : Int × Int) (i j : Nat), vs = [.ref a, .ref b] ∧ FracAt H a u.1 u.2 ∧ FracAt H b v.1 v.2 ∧ FrSm i u ∧ FrSm j v ∧ i + j ≤ 7000 ∧ (valOp o u v = none → E (.ref B) none H) ∧
  ∀ x, valOp o u v = some x → ∀ (H' : Hp) (p : Addr), Same H H' → FracAt H' p x.1 x.2 → Q (.ref p) H'
theorem gc_sm {j : Nat} {x y : Int} (n : y ≠ 0) (h : Sm j y) : Sm j (gc x y) := h.le (by
  have : Nat.gcd x.natAbs y.natAbs ≤ y.natAbs := Nat.gcd_le_right _ (by omega)
  show ((Nat.gcd x.natAbs y.natAbs : Nat) : Int).natAbs ≤ _
  omega)
theorem gc_div {j : Nat} {x y z : Int} (n : y ≠ 0) (h : Sm j y) (l : j ≤ 8000) : CDivWN z (gc x y) := divN_any ((gc_sm n h).div (Int.ne_of_gt (gc_pos n)) l)
theorem fd_sm {j : Nat} {x y : Int} (hx : Sm j x) (n : y ≠ 0) (d : ∀ g, g = gc x y → g ∣ x) : Sm j (x.fdiv (gc x y)) := hx.le (fdiv_le (gc_pos n) (d _ rfl))
end MK


set_option Elab.async false
set_option linter.all false
set_option maxRecDepth 100000
set_option maxHeartbeats 4000000
namespace MK
open PySem PySem.Spec PyProof.Rows L2
/-- a fraction with a wide number above -/
def FrW (i k : Nat) (u : Int × Int) : Prop := Red u.1 u.2 ∧ Sm i u.1 ∧ Sm k u.2
def TwoB (i k j l : Nat) : Prop := i + l ≤ 90000 ∧ j + k ≤ 90000 ∧ i + j ≤ 90000 ∧ k ≤ 7990 ∧ l ≤ 7990
def spTwoW (B : Addr) (o : Op4) : Sp := fun vs H Q E => ∃ (a b : Addr) (u v : Int × Int) (i k j l : Nat), vs = [.ref a, .ref b] ∧ FracAt H a u.1 u.2 ∧ FracAt H b v.1 v.2 ∧ FrW i k u ∧ FrW j l v ∧ TwoB i k j l ∧ (valOp o u v = none → E (.ref B) none H) ∧
  ∀ x, valOp o u v = some x → ∀ (H' : Hp) (p : Addr), Same H H' → FracAt H' p x.1 x.2 → Q (.ref p) H'
section
variable {P : Program} {w : World} {K : PySem.W.Frag} {mg : Str → Option Value} {base : Heap} {B : Addr}
theorem scTogW : FnScope ["one", "above", "below", "shared", "rest", "whole", "left"] ["one", "above", "below"] (defScope sTog) := ⟨rfl, rfl, rfl, by decide +kernel, rfl, by decide +kernel, by decide +kernel⟩
def spTogW : Sp := fun vs H Q _ => ∃ (a : Addr) (u v : Int × Int) (i k j l : Nat), vs = [.ref a, .int v.1, .int v.2] ∧ FracAt H a u.1 u.2 ∧ FrW i k u ∧ FrW j l v ∧ TwoB i k j l ∧
  ∀ p, H p = none → Q (.ref p) (upd H p (.tup [.int (togA u.1 u.2 v.1 v.2), .int (togB u.1 u.2 v.1 v.2)]))
theorem ok_togW {f : Addr} {fd : FuncData} (F : Fun K "_together" "_together" sTog f fd) (mG : mg "gcd" = some (.builtin "math.gcd")) : FnOk P w K mg base CX0 1 f fd ["one", "above", "below"] spTogW := by
  refine F.ok scTogW (fun vs H Q E h => ?_) (fun cdv A outer s H vs Q E hr h => ?_)
  · obtain ⟨a, u, v, i, k, j, l, rfl, _⟩ := h
    rfl
  · obtain ⟨a, ⟨x, y⟩, ⟨z, t⟩, i, k, j, l, rfl, ha, ⟨⟨y0, g1⟩, sx, sy⟩, ⟨⟨t0, g2⟩, sz, st⟩, ⟨b1, b2, b3, b4, b5⟩, q⟩ := h
    dsimp only at ha y0 g1 sx sy t0 g2 sz st q
    have nd := scTogW.nd
    refine ⟨_, pss_cons (ps_set (i := 3) nd rfl (.inl rfl) (pe_callBfun cr_gcd (by rfl) mG (pa_cons (pe_ix ix_tup (pv 0) pe_int (fun _ _ => rfl)) (pa_cons (pv 2) pa_nil))))
      (pss_cons (ps_set (i := 4) nd rfl (.inl rfl) (pe_op op_fdivWN (pe_ix ix_tup (pv 0) pe_int (fun _ _ => rfl)) (pv 3)))
      (pss_cons (ps_set (i := 5) nd rfl (.inl rfl) (pe_op op_add (pe_op op_mulW (pe_ix ix_tup (pv 0) pe_int (fun _ _ => rfl)) (pe_op op_fdivWN (pv 2) (pv 3))) (pe_op op_mulW (pv 1) (pv 4))))
      (pss_cons (ps_set (i := 6) nd rfl (.inl rfl) (pe_callBfun cr_gcd (by rfl) mG (pa_cons (pv 5) (pa_cons (pv 3) pa_nil))))
      (pss_one (ps_ret (pe_tup (pa_cons (pe_op op_fdivWN (pv 5) (pv 6)) (pa_cons (pe_op op_mulW (pv 4) (pe_op op_fdivWN (pv 2) (pv 6))) pa_nil)))))))), ?_⟩
    have tn : t ≠ 0 := Int.ne_of_gt t0
    have s1 : ∀ z', CDivWN z' (gc y t) := fun _ => gc_div tn st (by omega)
    have sr : Sm k (y.fdiv (gc y t)) := sy.le (fdiv_le (gc_pos tn) (gc_dl y t))
    have sd : Sm l (t.fdiv (gc y t)) := st.le (fdiv_le (gc_pos tn) (gc_dr y t))
    have gn : gc y t ≠ 0 := Int.ne_of_gt (gc_pos tn)
    have s2 : ∀ z', CDivWN z' (gc (x * t.fdiv (gc y t) + z * y.fdiv (gc y t)) (gc y t)) := fun _ => gc_div gn (gc_sm tn st) (by omega)
    have gt : gc (x * t.fdiv (gc y t) + z * y.fdiv (gc y t)) (gc y t) ∣ t := Int.dvd_trans (gc_dr _ _) (gc_dr _ _)
    have sl : Sm l (t.fdiv (gc (x * t.fdiv (gc y t) + z * y.fdiv (gc y t)) (gc y t))) := st.le (fdiv_le (gc_pos gn) gt)
    refine ⟨_, rfl, a, _, 1, _, rfl, rfl, SqT.of ha, at2_1 _ _, _, rfl, _, _, rfl, ?_⟩
    refine ⟨_, rfl, a, _, 1, _, rfl, rfl, SqT.of ha, at2_1 _ _, _, rfl, _, _, rfl, rfl, s1 _, ?_⟩
    refine ⟨_, rfl, a, _, 0, _, rfl, rfl, SqT.of ha, at2_0 _ _, _, rfl, _, rfl, _, _, rfl, rfl, s1 _, _, _, rfl, rfl, sx.mulW sd (by omega), ?_⟩
    refine ⟨_, rfl, _, rfl, _, _, rfl, rfl, sz.mulW sr (by omega), _, _, rfl, rfl, ?_⟩
    refine ⟨_, rfl, _, rfl, _, _, rfl, ?_⟩
    refine ⟨_, rfl, _, rfl, _, _, rfl, rfl, s2 _, ?_⟩
    refine ⟨_, rfl, _, rfl, _, rfl, _, _, rfl, rfl, s2 _, _, _, rfl, rfl, sr.mulW sl (by omega), (by show 2 ≤ sizeLine; decide), fun p np => ?_⟩
    exact q p np
theorem norm_tog {u v : Int × Int} (hu : Red u.1 u.2) (hv : Red v.1 v.2) : valOp .plus u v = some (togA u.1 u.2 v.1 v.2, togB u.1 u.2 v.1 v.2) := by
  show some (norm (u.1 * v.2 + v.1 * u.2) (u.2 * v.2)) = _
  obtain ⟨h1, h2⟩ := tog_ok hu hv
  rw [norm_is (Int.ne_of_gt (Int.mul_pos hu.1 hv.1)) h1 h2]
theorem scAddW : FnScope ["one", "other"] ["one", "other"] (defScope sAdd) := ⟨rfl, rfl, rfl, by decide +kernel, rfl, by decide +kernel, by decide +kernel⟩
theorem ok_addW {f fT : Addr} {fd fdT : FuncData} (F : Fun K "added" "added" sAdd f fd) (FT : Fun K "_together" "_together" sTog fT fdT) (gT : mg "_together" = some (.ref fT)) (mG : mg "gcd" = some (.builtin "math.gcd")) : FnOk P w K mg base CX0 2 f fd ["one", "other"] (spTwoW B .plus) := by
  have GT : FnOk P w K mg base CX0 1 fT fdT ["one", "above", "below"] spTogW := ok_togW FT mG
  have bT := FT.binds (ps := ["one", "above", "below"]) fun _ _ _ _ _ _ us hl => match us, hl with | [_, _, _], _ => rfl
  refine F.ok scAddW (fun vs H Q E h => ?_) (fun cdv A outer s H vs Q E hr h => ?_)
  · obtain ⟨a, b, u, v, i, k, j, l, rfl, _⟩ := h
    rfl
  · obtain ⟨a, b, u, v, i, k, j, l, rfl, ha, hb, hu, hv, hB, _, q⟩ := h
    refine ⟨_, pss_one (ps_ret (pe_call GT hr (by rfl) gT FT.kp bT .nil pass0 (pa_cons (pv 0) (pa_cons (pe_ix ix_tup (pv 1) pe_int (fun _ _ => rfl)) (pa_cons (pe_ix ix_tup (pv 1) pe_int (fun _ _ => rfl)) pa_nil))))), ?_⟩
    refine ⟨_, rfl, _, rfl, b, _, 0, _, rfl, rfl, SqT.of hb, at2_0 _ _, _, rfl, b, _, 1, _, rfl, rfl, SqT.of hb, at2_1 _ _, ?_⟩
    exact ⟨a, u, v, i, k, j, l, rfl, ha, hu, hv, hB, fun p np => q _ (norm_tog hu.1 hv.1) _ p (same_new np) upd_same⟩
theorem scProdW : FnScope ["one", "other", "falling", "rising"] ["one", "other"] (defScope sProd) := ⟨rfl, rfl, rfl, by decide +kernel, rfl, by decide +kernel, by decide +kernel⟩
theorem norm_pro {u v : Int × Int} (hu : Red u.1 u.2) (hv : Red v.1 v.2) : valOp .times u v = some (proA u.1 u.2 v.1 v.2, proB u.1 u.2 v.1 v.2) := by
  show some (norm (u.1 * v.1) (u.2 * v.2)) = _
  obtain ⟨h1, h2⟩ := pro_ok hu hv
  rw [norm_is (Int.ne_of_gt (Int.mul_pos hu.1 hv.1)) h1 h2]
theorem ok_prodW {f : Addr} {fd : FuncData} (F : Fun K "product" "product" sProd f fd) (mG : mg "gcd" = some (.builtin "math.gcd")) : FnOk P w K mg base CX0 1 f fd ["one", "other"] (spTwoW B .times) := by
  refine F.ok scProdW (fun vs H Q E h => ?_) (fun cdv A outer s H vs Q E hr h => ?_)
  · obtain ⟨a, b, u, v, i, k, j, l, rfl, _⟩ := h
    rfl
  · obtain ⟨a, b, ⟨x, y⟩, ⟨z, t⟩, i, k, j, l, rfl, ha, hb, ⟨⟨y0, g1⟩, sx, sy⟩, ⟨⟨t0, g2⟩, sz, st⟩, ⟨c1, c2, c3, c4, c5⟩, _, q⟩ := h
    dsimp only at ha hb y0 g1 sx sy t0 g2 sz st
    have nd := scProdW.nd
    have tn : t ≠ 0 := Int.ne_of_gt t0
    have yn : y ≠ 0 := Int.ne_of_gt y0
    refine ⟨_, pss_cons (ps_set (i := 2) nd rfl (.inl rfl) (pe_callBfun cr_gcd (by rfl) mG (pa_cons (pe_ix ix_tup (pv 0) pe_int (fun _ _ => rfl)) (pa_cons (pe_ix ix_tup (pv 1) pe_int (fun _ _ => rfl)) pa_nil))))
      (pss_cons (ps_set (i := 3) nd rfl (.inl rfl) (pe_callBfun cr_gcd (by rfl) mG (pa_cons (pe_ix ix_tup (pv 1) pe_int (fun _ _ => rfl)) (pa_cons (pe_ix ix_tup (pv 0) pe_int (fun _ _ => rfl)) pa_nil))))
      (pss_one (ps_ret (pe_tup (pa_cons (pe_op op_mulW (pe_op op_fdivWN (pe_ix ix_tup (pv 0) pe_int (fun _ _ => rfl)) (pv 2)) (pe_op op_fdivWN (pe_ix ix_tup (pv 1) pe_int (fun _ _ => rfl)) (pv 3))) (pa_cons (pe_op op_mulW (pe_op op_fdivWN (pe_ix ix_tup (pv 0) pe_int (fun _ _ => rfl)) (pv 3)) (pe_op op_fdivWN (pe_ix ix_tup (pv 1) pe_int (fun _ _ => rfl)) (pv 2))) pa_nil)))))), ?_⟩
    have s1 : ∀ z', CDivWN z' (gc x t) := fun _ => gc_div tn st (by omega)
    have s2 : ∀ z', CDivWN z' (gc z y) := fun _ => gc_div yn sy (by omega)
    have b1 : Sm i (x.fdiv (gc x t)) := sx.le (fdiv_le (gc_pos tn) (gc_dl _ _))
    have b2 : Sm j (z.fdiv (gc z y)) := sz.le (fdiv_le (gc_pos yn) (gc_dl _ _))
    have b3 : Sm k (y.fdiv (gc z y)) := sy.le (fdiv_le (gc_pos yn) (gc_dr _ _))
    have b4 : Sm l (t.fdiv (gc x t)) := st.le (fdiv_le (gc_pos tn) (gc_dr _ _))
    refine ⟨_, rfl, a, _, 0, _, rfl, rfl, SqT.of ha, at2_0 _ _, _, rfl, b, _, 1, _, rfl, rfl, SqT.of hb, at2_1 _ _, _, _, rfl, ?_⟩
    refine ⟨_, rfl, b, _, 0, _, rfl, rfl, SqT.of hb, at2_0 _ _, _, rfl, a, _, 1, _, rfl, rfl, SqT.of ha, at2_1 _ _, _, _, rfl, ?_⟩
    refine ⟨_, rfl, a, _, 0, _, rfl, rfl, SqT.of ha, at2_0 _ _, _, rfl, _, _, rfl, rfl, s1 _, _, rfl, b, _, 0, _, rfl, rfl, SqT.of hb, at2_0 _ _, _, rfl, _, _, rfl, rfl, s2 _, _, _, rfl, rfl, b1.mulW b2 (by omega), ?_⟩
    refine ⟨_, rfl, a, _, 1, _, rfl, rfl, SqT.of ha, at2_1 _ _, _, rfl, _, _, rfl, rfl, s2 _, _, rfl, b, _, 1, _, rfl, rfl, SqT.of hb, at2_1 _ _, _, rfl, _, _, rfl, rfl, s1 _, _, _, rfl, rfl, b3.mulW b4 (by omega), (by show 2 ≤ sizeLine; decide), fun p np => ?_⟩
    exact q _ (norm_pro (u := (x, y)) (v := (z, t)) ⟨y0, g1⟩ ⟨t0, g2⟩) _ p (same_new np) upd_same
/-! ### quotient, of a number that is not nought: nothing is let out -/
theorem scTrnW : FnScope ["one", "above", "below"] ["one"] (defScope sTrn) := ⟨rfl, rfl, rfl, by decide +kernel, rfl, by decide +kernel, by decide +kernel⟩
def spTrnW : Sp := fun vs H Q _ => ∃ (a : Addr) (x y : Int), vs = [.ref a] ∧ FracAt H a x y ∧ x ≠ 0 ∧ ∀ p, H p = none → Q (.ref p) (upd H p (.tup [.int (trnA x y), .int (trnB x y)]))
theorem ok_trnW {f : Addr} {fd : FuncData} (F : Fun K "_turned" "_turned" sTrn f fd) : FnOk P w K mg base CX0 1 f fd ["one"] spTrnW := by
  refine F.ok scTrnW (fun vs H Q E h => ?_) (fun cdv A outer s H vs Q E hr h => ?_)
  · obtain ⟨a, x, y, rfl, _⟩ := h
    rfl
  · obtain ⟨a, x, y, rfl, ha, x0, q⟩ := h
    have nd := scTrnW.nd
    refine ⟨_, pss_cons (ps_asg (pv 0) (pg_tup rfl (pgs_cons (pg_name (i := 1) nd rfl (.inl rfl)) (pgs_cons (pg_name (i := 2) nd rfl (.inl rfl)) pgs_nil))))
      (pss_cons (ps_if (pt_cmpR op_eq (pv 1) pe_int (nomark _)) pss_dead pss_nil)
      (pss_cons (ps_if (pt_cmpR op_lt (pv 1) pe_int (nomark _)) (pss_one (ps_ret (pe_tup (pa_cons (pe_un un_neg (pv 2)) (pa_cons (pe_un un_neg (pv 1)) pa_nil))))) pss_nil)
      (pss_one (ps_ret (pe_tup (pa_cons (pv 2) (pa_cons (pv 1) pa_nil))))))), ?_⟩
    refine ⟨_, rfl, a, _, rfl, SqT.of ha, rfl, _, _, rfl, _, _, rfl, rfl, ?_⟩
    refine ⟨_, rfl, rfl, _, rfl, ?_⟩
    rw [decide_eq_false fun z => x0 (V.int.inj z)]
    refine iteF ?_
    unfold trnA trnB at q
    refine ⟨_, rfl, _, _, rfl, rfl, _, rfl, ite2 (fun e => ?_) (fun e => ?_)⟩
    · rw [if_pos (of_decide_eq_true e), if_pos (of_decide_eq_true e)] at q
      exact ⟨_, rfl, _, rfl, _, rfl, _, rfl, (by show 2 ≤ sizeLine; decide), fun p np => q p np⟩
    · rw [if_neg fun z => e (decide_eq_true z), if_neg fun z => e (decide_eq_true z)] at q
      exact ⟨_, rfl, _, rfl, (by show 2 ≤ sizeLine; decide), fun p np => q p np⟩
theorem norm_neg {x y : Int} (h : y ≠ 0) : norm (-x) (-y) = norm x y := norm_is (by omega) (norm_red h) (by
  have e := norm_val (x := x) h
  rw [Int.mul_neg, Int.neg_mul]
  exact congrArg (fun z : Int => -z) e)
theorem trn_quo {u v : Int × Int} (hu : Red u.1 u.2) (hv : Red v.1 v.2) (n : v.1 ≠ 0) : valOp .over u v = valOp .times u (trnA v.1 v.2, trnB v.1 v.2) := by
  show (if v.1 = 0 then none else some (norm (u.1 * v.2) (u.2 * v.1))) = some (norm (u.1 * trnA v.1 v.2) (u.2 * trnB v.1 v.2))
  rw [if_neg n]
  unfold trnA trnB
  split
  · rw [Int.mul_neg, Int.mul_neg, norm_neg (Int.mul_ne_zero (Int.ne_of_gt hu.1) n)]
  · rfl
theorem scQuoW : FnScope ["one", "other"] ["one", "other"] (defScope sQuo) := ⟨rfl, rfl, rfl, by decide +kernel, rfl, by decide +kernel, by decide +kernel⟩
def spQuoW : Sp := fun vs H Q _ => ∃ (a b : Addr) (u v : Int × Int) (i k j l : Nat), vs = [.ref a, .ref b] ∧ FracAt H a u.1 u.2 ∧ FracAt H b v.1 v.2 ∧ FrW i k u ∧ FrW j l v ∧ v.1 ≠ 0 ∧ TwoB i k l j ∧
  ∀ x, valOp .over u v = some x → ∀ (H' : Hp) (p : Addr), Same H H' → FracAt H' p x.1 x.2 → Q (.ref p) H'
theorem ok_quoW {f fP fT : Addr} {fd fdP fdT : FuncData} (F : Fun K "quotient" "quotient" sQuo f fd) (FP : Fun K "product" "product" sProd fP fdP) (gP : mg "product" = some (.ref fP)) (FT : Fun K "_turned" "_turned" sTrn fT fdT) (gT : mg "_turned" = some (.ref fT)) (mG : mg "gcd" = some (.builtin "math.gcd")) : FnOk P w K mg base CX0 2 f fd ["one", "other"] spQuoW := by
  have GP : FnOk P w K mg base CX0 1 fP fdP ["one", "other"] (spTwoW 0 .times) := ok_prodW FP mG
  have GT : FnOk P w K mg base CX0 1 fT fdT ["one"] spTrnW := ok_trnW FT
  have bP := FP.binds (ps := ["one", "other"]) fun _ _ _ _ _ _ us hl => match us, hl with | [_, _], _ => rfl
  have bT := FT.binds (ps := ["one"]) fun _ _ _ _ _ _ us hl => match us, hl with | [_], _ => rfl
  refine F.ok scQuoW (fun vs H Q E h => ?_) (fun cdv A outer s H vs Q E hr h => ?_)
  · obtain ⟨a, b, u, v, i, k, j, l, rfl, _⟩ := h
    rfl
  · obtain ⟨a, b, u, v, i, k, j, l, rfl, ha, hb, hu, hv, n0, hB, q⟩ := h
    refine ⟨_, pss_one (ps_ret (pe_call GP hr (by rfl) gP FP.kp bP .nil pass0 (pa_cons (pv 0) (pa_cons
      (pe_call GT hr (by rfl) gT FT.kp bT .nil pass0 (pa_cons (pv 1) pa_nil)) pa_nil)))), ?_⟩
    refine ⟨_, rfl, _, rfl, b, _, _, rfl, hb, n0, fun p np => ?_⟩
    have r := trn_ok hv.1 n0
    have l' := trn_le v.1 v.2
    refine ⟨a, p, u, (trnA v.1 v.2, trnB v.1 v.2), i, k, l, j, rfl, same_new np _ _ ha, upd_same, hu, ⟨r.1, hv.2.2.le (Nat.le_of_eq l'.1), hv.2.1.le (Nat.le_of_eq l'.2)⟩, hB, (fun z => nomatch z), fun x hx H' p' s hp => ?_⟩
    exact q x ((trn_quo hu.1 hv.1 n0).trans hx) H' p' ((same_new np).trans s) hp
end
end MK


set_option Elab.async false
set_option linter.all false
set_option maxRecDepth 100000
set_option maxHeartbeats 4000000
namespace MK
open PySem PySem.Spec PyProof.Rows L2
theorem abs_sumS {α : Type} (f : α → Int) (b : Nat) : ∀ xs : List α, (∀ x ∈ xs, (f x).natAbs ≤ b) → (SumF xs f).natAbs ≤ xs.length * b
  | [], _ => Nat.zero_le _
  | x :: xs, h => by
    have ih := abs_sumS f b xs fun y hy => h y (List.mem_cons_of_mem _ hy)
    have h1 := h x (List.mem_cons_self ..)
    show (f x + SumF xs f).natAbs ≤ (xs.length + 1) * b
    rw [Nat.add_mul]
    have := Int.natAbs_add_le (f x) (SumF xs f)
    omega
/-! ### what shows that no choice solves: the numbers -/
theorem norm_eq {x y x' y' : Int} (h : y ≠ 0) (h' : y' ≠ 0) (e : x * y' = x' * y) : norm x y = norm x' y' := by
  refine norm_is h (norm_red h') ?_
  have v := norm_val (x := x') h'
  have : (norm x' y').1 * y * y' = x * (norm x' y').2 * y' := by
    rw [Int.mul_right_comm, v, Int.mul_right_comm x' , ← e, Int.mul_right_comm]
  exact Int.eq_of_mul_eq_mul_right h' this
abbrev Shr := List (Nat × (Int × Int))
def sumD (L : Shr) (d : Nat → Int) (D : Int) : Int := SumF L fun p => p.2.1 * (D / p.2.2) * d p.1
structure ShOk (L : Shr) (D : Int) : Prop where
  d0 : 0 < D
  r : ∀ p ∈ L, Red p.2.1 p.2.2 ∧ p.2.2 ∣ D ∧ 0 ≤ p.2.1 ∧ p.2.1 ≤ p.2.2
  nd : (L.map (·.1)).Nodup
theorem sumD_mul {L : Shr} {d : Nat → Int} {D : Int} (h : ∀ p ∈ L, p.2.2 ∣ D) (k : Int) : sumD L d (D * k) = sumD L d D * k := by
  unfold sumD
  rw [sf_mulr]
  refine sf_congr fun p hp => ?_
  rw [Int.mul_ediv_assoc' k (h p hp), ← Int.mul_assoc, Int.mul_right_comm _ k]
theorem sumD_snoc (L : Shr) (p : Nat × (Int × Int)) (d : Nat → Int) (D : Int) : sumD (L ++ [p]) d D = sumD L d D + p.2.1 * (D / p.2.2) * d p.1 := by
  unfold sumD
  rw [sf_app]
  show _ + (p.2.1 * (D / p.2.2) * d p.1 + 0) = _
  rw [Int.add_zero]
theorem sumD_lin {α : Type} (L : Shr) (D : Int) (k : α → Int) (f : α → Nat → Int) (xs : List α) : sumD L (fun n => SumF xs fun x => f x n * k x) D = SumF xs fun x => sumD L (f x) D * k x := by
  unfold sumD
  have e : (SumF xs fun x => (SumF L fun p => p.2.1 * (D / p.2.2) * f x p.1) * k x) = SumF xs fun x => SumF L fun p => p.2.1 * (D / p.2.2) * f x p.1 * k x := sf_congr fun x _ => sf_mulr _ _ _
  rw [e, sf_swap]
  refine sf_congr fun p _ => ?_
  rw [sf_mul]
  exact sf_congr fun x _ => (Int.mul_assoc _ _ _).symm
theorem sumD_congr {L : Shr} {d e : Nat → Int} {D : Int} (h : ∀ p ∈ L, d p.1 = e p.1) : sumD L d D = sumD L e D := sf_congr fun p hp => by rw [h p hp]
/-- one more share of the total -/
theorem tot_step {L : Shr} {D : Int} {d : Nat → Int} {p : Nat × (Int × Int)} (d0 : 0 < D) (hb : 0 < p.2.2) (hd : p.2.2 ∣ D) :
    norm ((norm (sumD L d D) D).1 * (norm (p.2.1 * d p.1) (p.2.2 * 1)).2 + (norm (p.2.1 * d p.1) (p.2.2 * 1)).1 * (norm (sumD L d D) D).2) ((norm (sumD L d D) D).2 * (norm (p.2.1 * d p.1) (p.2.2 * 1)).2) = norm (sumD (L ++ [p]) d D) D := by
  have D0 : D ≠ 0 := Int.ne_of_gt d0
  have b0 : p.2.2 * 1 ≠ 0 := by rw [Int.mul_one]; exact Int.ne_of_gt hb
  obtain ⟨q0, _⟩ := norm_red (x := sumD L d D) D0
  obtain ⟨t0, _⟩ := norm_red (x := p.2.1 * d p.1) b0
  have v1 := norm_val (x := sumD L d D) D0
  have v2 := norm_val (x := p.2.1 * d p.1) b0
  rw [sumD_snoc]
  obtain ⟨k, hk⟩ := hd
  have ek : D / p.2.2 = k := by rw [hk]; exact Int.mul_ediv_cancel_left k (Int.ne_of_gt hb)
  rw [ek]
  generalize norm (sumD L d D) D = n1 at q0 v1 ⊢
  generalize norm (p.2.1 * d p.1) (p.2.2 * 1) = n2 at t0 v2 ⊢
  rw [Int.mul_one] at v2
  refine norm_eq (Int.ne_of_gt (Int.mul_pos q0 t0)) D0 ?_
  have a1 : n1.1 * n2.2 * D = sumD L d D * (n1.2 * n2.2) := by
    rw [Int.mul_right_comm, v1, Int.mul_assoc]
  have a2 : n2.1 * n1.2 * D = p.2.1 * k * d p.1 * (n1.2 * n2.2) := by
    have e1 : n2.1 * n1.2 * D = n2.1 * p.2.2 * (n1.2 * k) := by rw [hk]; simp only [Int.mul_assoc, Int.mul_left_comm]
    rw [e1, v2]
    simp only [Int.mul_assoc, Int.mul_left_comm, Int.mul_comm]
  rw [Int.add_mul, Int.add_mul, a1, a2]
theorem tot_nil {d : Nat → Int} {D : Int} (d0 : 0 < D) : norm (sumD [] d D) D = (0, 1) := norm_is (Int.ne_of_gt d0) ⟨by decide, by decide⟩ (by show 0 * D = 0 * 1; omega)
/-- the share that a settled one asks of its row -/
theorem share_step {L : Shr} {D sh : Int} {d : Nat → Int} {x : Nat} (ok : ShOk L D) (nx : x ∉ L.map (·.1)) (s0 : sh ≠ 0) (dx : d x = sh) {u v : Int} (r : Red u v) (e : u * (D * -sh) = sumD L d D * v) :
    ShOk (L ++ [(x, (u % v, v))]) (D * sh.natAbs) ∧ D * sh.natAbs ∣ sumD (L ++ [(x, (u % v, v))]) d (D * sh.natAbs) := by
  obtain ⟨v0, g⟩ := r
  have A0 : (0 : Int) < (sh.natAbs : Int) := by omega
  have D0 := ok.d0
  have hv : v ∣ D * (sh.natAbs : Int) := by
    have h1 : v ∣ u * (D * sh) := by
      have : v ∣ u * (D * -sh) := by rw [e]; exact Int.dvd_mul_left _ _
      have e2 : u * (D * -sh) = -(u * (D * sh)) := by rw [Int.mul_neg, Int.mul_neg]
      rw [e2] at this
      exact Int.dvd_neg.mp this
    have h2 : v.natAbs ∣ (D * sh).natAbs := by
      have := Int.natAbs_dvd_natAbs.mpr h1
      rw [Int.natAbs_mul] at this
      exact (Nat.Coprime.symm g).dvd_of_dvd_mul_left this
    rw [Int.natAbs_mul] at h2
    refine Int.natAbs_dvd_natAbs.mp ?_
    rw [Int.natAbs_mul, Int.natAbs_natCast]
    exact h2
  have vn : v ≠ 0 := Int.ne_of_gt v0
  have m0 := Int.emod_nonneg u vn
  have m1 := Int.emod_lt_of_pos u v0
  refine ⟨⟨Int.mul_pos D0 A0, fun p hp => ?_, ?_⟩, ?_⟩
  · rcases mem_snoc hp with hp | rfl
    · obtain ⟨a, b, c, f⟩ := ok.r p hp
      exact ⟨a, Int.dvd_trans b (Int.dvd_mul_right _ _), c, f⟩
    · refine ⟨⟨v0, ?_⟩, hv, m0, Int.le_of_lt m1⟩
      have e3 : u = u % v + v * (u / v) := (Int.emod_add_mul_ediv u v).symm
      show Nat.gcd (u % v).natAbs v.natAbs = 1
      have k := g
      rw [e3, Int.mul_comm] at k
      have h := cop_sum (p := u % v + u / v * v) (q := -(u / v)) (m := v) k
      have e4 : u % v + u / v * v + v * -(u / v) = u % v := by
        rw [Int.mul_neg, Int.mul_comm v]
        omega
      rw [e4] at h
      exact h
  · rw [List.map_append, List.nodup_append]
    refine ⟨ok.nd, List.pairwise_singleton _ _, fun a ha b hb e => ?_⟩
    rw [List.mem_singleton.mp hb] at e
    exact nx (by rw [← show a = x from e]; exact ha)
  · rw [sumD_snoc, sumD_mul fun p hp => (ok.r p hp).2.1]
    show _ ∣ sumD L d D * (sh.natAbs : Int) + u % v * (D * (sh.natAbs : Int) / v) * d x
    rw [dx]
    obtain ⟨t, ht⟩ := hv
    have et : D * (sh.natAbs : Int) / v = t := by rw [ht]; exact Int.mul_ediv_cancel_left t vn
    rw [et]
    -- u * t * sh = - S * |sh|
    have k1 : u * t * sh = -(sumD L d D * (sh.natAbs : Int)) := by
      refine Int.eq_of_mul_eq_mul_left vn ?_
      have e5 : v * (u * t * sh) = u * (v * t) * sh := by simp only [Int.mul_assoc, Int.mul_left_comm, Int.mul_comm]
      rw [e5, ← ht]
      have e6 : u * (D * (sh.natAbs : Int)) * sh = -(u * (D * -sh) * (sh.natAbs : Int)) := by
        rw [Int.mul_neg, Int.mul_neg, Int.neg_mul, Int.neg_neg]
        simp only [Int.mul_assoc, Int.mul_left_comm, Int.mul_comm]
      rw [e6, e, Int.mul_neg]
      simp only [Int.mul_assoc, Int.mul_left_comm, Int.mul_comm]
    have eu : u % v = u - v * (u / v) := by have := Int.emod_add_mul_ediv u v; omega
    have e7 : sumD L d D * (sh.natAbs : Int) + u % v * t * sh = -(D * (sh.natAbs : Int) * (u / v * sh)) := by
      rw [eu, Int.sub_mul, Int.sub_mul, k1]
      have e8 : v * (u / v) * t * sh = D * (sh.natAbs : Int) * (u / v * sh) := by
        rw [ht]
        simp only [Int.mul_assoc, Int.mul_left_comm, Int.mul_comm]
      rw [e8]
      omega
    rw [e7]
    exact Int.dvd_neg.mpr (Int.dvd_mul_right _ _)
theorem share_keep {L : Shr} {D k : Int} {d : Nat → Int} {x : Nat} {f : Int × Int} (h : ∀ p ∈ L, p.2.2 ∣ D) (hd : D ∣ sumD L d D) (z : d x = 0) : D * k ∣ sumD (L ++ [(x, f)]) d (D * k) := by
  rw [sumD_snoc, sumD_mul h, z, Int.mul_zero, Int.add_zero]
  exact Int.mul_dvd_mul_right _ hd
/-- a common denominator may be made smaller -/
theorem dvd_less {L : Shr} {D W : Int} {d : Nat → Int} (hW : ∀ p ∈ L, p.2.2 ∣ W) (W0 : W ≠ 0) (k : Int) (k0 : k ≠ 0) (e : D = W * k) : D ∣ sumD L d D ↔ W ∣ sumD L d W := by
  rw [e, sumD_mul hW]
  exact Int.mul_dvd_mul_iff_right k0
end MK


set_option Elab.async false
set_option linter.all false
set_option maxRecDepth 100000
set_option maxHeartbeats 4000000
namespace MK
open PySem PySem.Spec PyProof.Rows L2
/-! ### the shares, settled one by settled one from the last -/
def rowN (R : List (Ms × List Int)) (n : Nat) : List Int := ((R[n]?).getD ([], [])).2
def mesN (R : List (Ms × List Int)) (n : Nat) : Ms := ((R[n]?).getD ([], [])).1
theorem rowN_at {R : List (Ms × List Int)} {n : Nat} {r : Ms × List Int} (h : R[n]? = some r) : rowN R n = r.2 ∧ mesN R n = r.1 := by
  unfold rowN mesN
  rw [h]
  exact ⟨rfl, rfl⟩
/-- t: how many settled ones are still to do -/
structure Shd (R : List (Ms × List Int)) (sg : List (Stl × List Int)) (cols : List Col) (num : Nat) (b : Int) (t : Nat) (L : Shr) (D : Int) : Prop where
  ok : ShOk L D
  hd : (num, ((1 : Int), b)) ∈ L
  ix : ∀ p ∈ L, p = (num, ((1 : Int), b)) ∨ ∃ i g, t ≤ i ∧ sg[i]? = some g ∧ g.1.nb = (p.1 : Int)
  it : ∀ (i : Nat) (g : Stl × List Int), t ≤ i → sg[i]? = some g → D ∣ sumD L (fun n => dotL (rowN R n) g.1.s) D
  ic : ∀ c ∈ cols, D ∣ sumD L (fun n => dotL (rowN R n) c.1) D
theorem red_one {b : Int} (h : 2 ≤ b) : Red 1 b := ⟨by omega, Nat.gcd_one_left _⟩
theorem shd_start {R : List (Ms × List Int)} {sg : List (Stl × List Int)} {cols : List Col} {num : Nat} {b : Int} (b2 : 2 ≤ b) (hc : ∀ c ∈ cols, b ∣ dotL (rowN R num) c.1) : Shd R sg cols num b sg.length [(num, (1, b))] b := by
  refine ⟨⟨by omega, fun p hp => ?_, List.pairwise_singleton _ _⟩, List.mem_singleton.mpr rfl, fun p hp => .inl (List.mem_singleton.mp hp), fun i g hi hg => ?_, fun c hcm => ?_⟩
  · rw [List.mem_singleton.mp hp]
    exact ⟨red_one b2, Int.dvd_refl _, by show (0 : Int) ≤ 1; decide, by show (1 : Int) ≤ b; omega⟩
  · have := (List.getElem?_eq_some_iff.mp hg).1
    omega
  · show b ∣ 1 * (b / b) * dotL (rowN R num) c.1 + 0
    rw [Int.ediv_self (by omega), Int.one_mul, Int.one_mul, Int.add_zero]
    exact hc c hcm
/-- all that is known of the rows: those done, the one that can't be made plain -/
theorem Sg.row_at {ls keys : List Str} {R : List (Ms × List Int)} {sg : List (Stl × List Int)} {d : List Col} {N : Nat} (h : Sg ls keys R sg d N) (T : List (Ms × List Int)) {t : Nat} {g : Stl × List Int} (hg : sg[t]? = some g) :
    ∃ n : Nat, g.1.nb = (n : Int) ∧ n < R.length ∧ dotL (rowN (R ++ T) n) g.1.s = g.1.sh ∧ g.1.sh ≠ 0 ∧ (∀ (k : Nat) (u : Stl × List Int), t < k → sg[k]? = some u → dotL (rowN (R ++ T) n) u.1.s = 0 ∧ g.1.nb < u.1.nb) ∧ (∀ c ∈ d, dotL (rowN (R ++ T) n) c.1 = 0) ∧ ∀ j, restAt (mesN (R ++ T) n) ls (rowN (R ++ T) n) (sg.map (·.1)) j = 0 := by
  obtain ⟨n, r, e1, e2, e3, e4, e5⟩ := h.tr t g hg
  obtain ⟨f1, f2⟩ := rowN_at (get_app (T := T) e2)
  have rm := List.mem_of_getElem? e2
  refine ⟨n, e1, (List.getElem?_eq_some_iff.mp e2).1, by rw [f1]; exact e3, e4, fun k u hk hu => by rw [f1]; exact e5 k u hk hu, fun c hc => by rw [f1]; exact h.nz r rm c hc, fun j => by rw [f1, f2]; exact h.rz r rm j⟩
theorem shd_step {ls keys : List Str} {R : List (Ms × List Int)} {sg : List (Stl × List Int)} {d : List Col} {N : Nat} (h : Sg ls keys R sg d N) {cur : Ms × List Int} {b : Int} {t : Nat} {L : Shr} {D : Int} (s : Shd (R ++ [cur]) sg d R.length b (t + 1) L D) {g : Stl × List Int} (hg : sg[t]? = some g)
    {u v : Int} (r : Red u v) (e : u * (D * -g.1.sh) = sumD L (fun n => dotL (rowN (R ++ [cur]) n) g.1.s) D * v) {x : Nat} (hx : g.1.nb = (x : Int)) :
    x ∉ L.map (·.1) ∧ Shd (R ++ [cur]) sg d R.length b t (L ++ [(x, (u % v, v))]) (D * g.1.sh.natAbs) := by
  obtain ⟨n, e1, ln, e3, e4, e5, e6, _⟩ := h.row_at [cur] hg
  obtain rfl : n = x := by omega
  have nx : n ∉ L.map (·.1) := fun hm => by
    obtain ⟨p, hp, ep⟩ := List.mem_map.mp hm
    rcases s.ix p hp with rfl | ⟨i, g', hi, hg', en⟩
    · have : R.length = n := ep
      omega
    · have := (e5 i g' (by omega) hg').2
      omega
  obtain ⟨k1, k2⟩ := share_step s.ok nx e4 e3 r e
  refine ⟨nx, k1, List.mem_append_left _ s.hd, fun p hp => ?_, fun i g' hi hg' => ?_, fun c hc => ?_⟩
  · rcases mem_snoc hp with hp | rfl
    · rcases s.ix p hp with h | ⟨i, g', hi, hg', en⟩
      · exact .inl h
      · exact .inr ⟨i, g', by omega, hg', en⟩
    · exact .inr ⟨t, g, Nat.le_refl _, hg, hx⟩
  · rcases Nat.lt_or_ge t i with lt | ge
    · exact share_keep (fun p hp => (s.ok.r p hp).2.1) (s.it i g' (by omega) hg') (e5 i g' lt hg').1
    · obtain rfl : i = t := by omega
      rw [hg] at hg'
      cases hg'
      exact k2
  · exact share_keep (fun p hp => (s.ok.r p hp).2.1) (s.ic c hc) (e6 c hc)
theorem Shd.lt {ls keys : List Str} {R : List (Ms × List Int)} {sg : List (Stl × List Int)} {d : List Col} {N : Nat} (h : Sg ls keys R sg d N) {cur : Ms × List Int} {b : Int} {t : Nat} {L : Shr} {D : Int} (s : Shd (R ++ [cur]) sg d R.length b t L D) : ∀ p ∈ L, p.1 < (R ++ [cur]).length := fun p hp => by
  rw [List.length_append]
  rcases s.ix p hp with rfl | ⟨i, g, _, hg, en⟩
  · show R.length < R.length + 1
    omega
  · obtain ⟨n, e1, ln, _⟩ := h.row_at [cur] hg
    show p.1 < R.length + 1
    omega
/-- all done: in each letter a whole number of times -/
theorem shd_letters {ls keys : List Str} {R : List (Ms × List Int)} {sg : List (Stl × List Int)} {d : List Col} {N : Nat} (h : Sg ls keys R sg d N) {cur : Ms × List Int} (hl : cur.2.length = N) {b : Int} {L : Shr} {D : Int} (s : Shd (R ++ [cur]) sg d R.length b 0 L D) {q : Nat} (hq : q < N) : D ∣ sumD L (fun n => atP (rowN (R ++ [cur]) n) q) D := by
  have e : sumD L (fun n => atP (rowN (R ++ [cur]) n) q) D = sumD L (fun n => SumF (colsG sg ++ d) fun c => dotL (rowN (R ++ [cur]) n) c.1 * atP c.2 q) D := sumD_congr fun p hp => by
    have lr : (rowN (R ++ [cur]) p.1).length = N := by
      have lt := Shd.lt h s p hp
      obtain ⟨r, hr⟩ : ∃ r, (R ++ [cur])[p.1]? = some r := ⟨_, List.getElem?_eq_getElem lt⟩
      rw [(rowN_at hr).1]
      rcases mem_snoc (List.mem_of_getElem? hr) with hm | rfl
      · exact h.rl r hm
      · exact hl
    have k := full_dot h.cn h.fu lr (unit_len q N)
    rw [unit_dot hq lr] at k
    rw [k]
    refine sf_congr fun c hc => ?_
    rw [unit_dot hq (h.cn c hc).2]
  rw [e, sumD_lin L D (fun c : Col => atP c.2 q) (fun c n => dotL (rowN (R ++ [cur]) n) c.1)]
  have all : ∀ c ∈ colsG sg ++ d, D ∣ sumD L (fun n => dotL (rowN (R ++ [cur]) n) c.1) D := fun c hc => by
    rcases List.mem_append.mp hc with hc | hc
    · obtain ⟨g, hg, rfl⟩ := List.mem_map.mp hc
      obtain ⟨i, hi⟩ := List.mem_iff_getElem?.mp hg
      exact s.it i g (Nat.zero_le _) hi
    · exact s.ic c hc
  have dv : ∀ xs : List Col, (∀ c ∈ xs, D ∣ sumD L (fun n => dotL (rowN (R ++ [cur]) n) c.1) D) → D ∣ SumF xs fun c => sumD L (fun n => dotL (rowN (R ++ [cur]) n) c.1) D * atP c.2 q := fun xs => by
    induction xs with
    | nil => intro _; exact Int.dvd_zero _
    | cons c xs ih =>
      intro hx
      exact Int.dvd_add (Int.dvd_mul_of_dvd_left (hx c (List.mem_cons_self ..))) (ih fun y hy => hx y (List.mem_cons_of_mem _ hy))
  exact dv _ all
/-- in a letter of what is left, not -/
theorem shd_other {ls keys : List Str} {R : List (Ms × List Int)} {sg : List (Stl × List Int)} {d : List Col} {N : Nat} (h : Sg ls keys R sg d N) {cur : Ms × List Int} {b : Int} (b0 : b ≠ 0) {L : Shr} {D : Int} (s : Shd (R ++ [cur]) sg d R.length b 0 L D) {j : Str} (hj : ¬ b ∣ restAt cur.1 ls cur.2 (sg.map (·.1)) j) :
    ¬ D ∣ sumD L (fun n => sumAt (notIn ls (mesN (R ++ [cur]) n)) j) D := by
  have hcur : (R ++ [cur])[R.length]? = some cur := by rw [List.getElem?_append_right (Nat.le_refl _), Nat.sub_self]; rfl
  obtain ⟨c1, c2⟩ := rowN_at hcur
  have e : sumD L (fun n => sumAt (notIn ls (mesN (R ++ [cur]) n)) j) D = sumD L (fun n => (if n = R.length then restAt cur.1 ls cur.2 (sg.map (·.1)) j else 0) - SumF (sg.map (·.1)) fun x => dotL (rowN (R ++ [cur]) n) x.s * sumAt x.m j) D := sumD_congr fun p hp => by
    have ex : ∀ n, restAt (mesN (R ++ [cur]) n) ls (rowN (R ++ [cur]) n) (sg.map (·.1)) j = sumAt (notIn ls (mesN (R ++ [cur]) n)) j + SumF (sg.map (·.1)) fun x => dotL (rowN (R ++ [cur]) n) x.s * sumAt x.m j := fun n => by
      unfold restAt
      congr 1
      exact sf_congr fun x _ => Int.mul_comm _ _
    rcases s.ix p hp with rfl | ⟨i, g, _, hg, en⟩
    · show _ = (if R.length = R.length then _ else _) - _
      rw [if_pos rfl]
      have := ex R.length
      rw [c1, c2] at this
      show sumAt (notIn ls (mesN (R ++ [cur]) R.length)) j = _ - SumF (sg.map (·.1)) fun x => dotL (rowN (R ++ [cur]) R.length) x.s * sumAt x.m j
      rw [c1, c2]
      omega
    · obtain ⟨n, e1, ln, _, _, _, _, hz⟩ := h.row_at [cur] hg
      obtain rfl : n = p.1 := by omega
      rw [if_neg (by omega)]
      have := ex p.1
      rw [hz j] at this
      omega
  have e2 : sumD L (fun n => (if n = R.length then restAt cur.1 ls cur.2 (sg.map (·.1)) j else 0) - SumF (sg.map (·.1)) fun x => dotL (rowN (R ++ [cur]) n) x.s * sumAt x.m j) D =
      sumD L (fun n => if n = R.length then restAt cur.1 ls cur.2 (sg.map (·.1)) j else 0) D - sumD L (fun n => SumF (sg.map (·.1)) fun x => dotL (rowN (R ++ [cur]) n) x.s * sumAt x.m j) D := by
    have sub : ∀ (f g : Nat → Int), sumD L (fun n => f n - g n) D + sumD L g D = sumD L f D := fun f g => by
      unfold sumD
      rw [sf_add]
      refine sf_congr fun p _ => ?_
      rw [Int.mul_sub]
      omega
    have := sub (fun n => if n = R.length then restAt cur.1 ls cur.2 (sg.map (·.1)) j else 0) (fun n => SumF (sg.map (·.1)) fun x => dotL (rowN (R ++ [cur]) n) x.s * sumAt x.m j)
    omega
  have d2 : D ∣ sumD L (fun n => SumF (sg.map (·.1)) fun x => dotL (rowN (R ++ [cur]) n) x.s * sumAt x.m j) D := by
    rw [sumD_lin L D (fun x : Stl => sumAt x.m j) (fun x n => dotL (rowN (R ++ [cur]) n) x.s)]
    have dv : ∀ xs : List Stl, (∀ x ∈ xs, D ∣ sumD L (fun n => dotL (rowN (R ++ [cur]) n) x.s) D) → D ∣ SumF xs fun x => sumD L (fun n => dotL (rowN (R ++ [cur]) n) x.s) D * sumAt x.m j := fun xs => by
      induction xs with
      | nil => intro _; exact Int.dvd_zero _
      | cons c xs ih =>
        intro hx
        exact Int.dvd_add (Int.dvd_mul_of_dvd_left (hx c (List.mem_cons_self ..))) (ih fun y hy => hx y (List.mem_cons_of_mem _ hy))
    refine dv _ fun x hx => ?_
    obtain ⟨g, hg, rfl⟩ := List.mem_map.mp hx
    obtain ⟨i, hi⟩ := List.mem_iff_getElem?.mp hg
    exact s.it i g (Nat.zero_le _) hi
  -- the one that can't be made plain
  obtain ⟨_, hbD, _, _⟩ := s.ok.r _ s.hd
  have hbD : b ∣ D := hbD
  have e3 : sumD L (fun n => if n = R.length then restAt cur.1 ls cur.2 (sg.map (·.1)) j else 0) D = D / b * restAt cur.1 ls cur.2 (sg.map (·.1)) j := by
    have gen : ∀ L' : Shr, (L'.map (·.1)).Nodup → ∀ p ∈ L', p.1 = R.length → sumD L' (fun n => if n = R.length then restAt cur.1 ls cur.2 (sg.map (·.1)) j else 0) D = p.2.1 * (D / p.2.2) * restAt cur.1 ls cur.2 (sg.map (·.1)) j := fun L' => by
      induction L' with
      | nil => intro _ p hp; cases hp
      | cons a L' ih =>
        intro nd p hp ep
        obtain ⟨n1, n2⟩ := List.nodup_cons.mp (show (a.1 :: L'.map (·.1)).Nodup from nd)
        show a.2.1 * (D / a.2.2) * (if a.1 = R.length then restAt cur.1 ls cur.2 (sg.map (·.1)) j else 0) + sumD L' (fun n => if n = R.length then restAt cur.1 ls cur.2 (sg.map (·.1)) j else 0) D = _
        rcases List.mem_cons.mp hp with rfl | hp
        · rw [if_pos ep]
          have z : sumD L' (fun n => if n = R.length then restAt cur.1 ls cur.2 (sg.map (·.1)) j else 0) D = 0 := sf_zero fun q hq => by
            have z2 : q.1 ≠ R.length := fun w => n1 (by rw [ep, ← w]; exact List.mem_map.mpr ⟨q, hq, rfl⟩)
            show q.2.1 * (D / q.2.2) * (if q.1 = R.length then restAt cur.1 ls cur.2 (sg.map (·.1)) j else 0) = 0
            rw [if_neg z2, Int.mul_zero]
          rw [z, Int.add_zero]
        · rw [if_neg (fun w => n1 (by rw [w, ← ep]; exact List.mem_map.mpr ⟨p, hp, rfl⟩)), Int.mul_zero, Int.zero_add]
          exact ih n2 p hp ep
    rw [gen L s.ok.nd _ s.hd rfl]
    show 1 * (D / b) * _ = _
    rw [Int.one_mul]
  rw [e, e2]
  intro hd
  have h1 : D ∣ D / b * restAt cur.1 ls cur.2 (sg.map (·.1)) j := by
    rw [← e3]
    have := Int.dvd_add hd d2
    rwa [Int.sub_add_cancel] at this
  apply hj
  obtain ⟨k, hk⟩ := hbD
  have D0 := s.ok.d0
  have k0 : k ≠ 0 := fun z => by rw [z, Int.mul_zero] at hk; omega
  have ek : D / b = k := by rw [hk]; exact Int.mul_ediv_cancel_left k b0
  rw [ek, hk, Int.mul_comm k] at h1
  exact (Int.mul_dvd_mul_iff_right k0).mp h1
end MK


set_option Elab.async false
set_option linter.all false
set_option maxRecDepth 100000
set_option maxHeartbeats 4000000
namespace MK
open PySem PySem.Spec PyProof.Rows L2
/-! ### the counts -/
def wholeOf (L : Shr) : Nat := L.foldl (fun w p => w.lcm p.2.2.natAbs) 1
theorem whole_snoc (L : Shr) (p : Nat × (Int × Int)) : wholeOf (L ++ [p]) = (wholeOf L).lcm p.2.2.natAbs := by
  unfold wholeOf
  rw [List.foldl_append]
  rfl
theorem whole_ok : ∀ (L : Shr), (∀ p ∈ L, 0 < p.2.2) → 0 < wholeOf L ∧ (∀ p ∈ L, p.2.2 ∣ (wholeOf L : Int)) ∧ ∀ D : Int, (∀ p ∈ L, p.2.2 ∣ D) → (wholeOf L : Int) ∣ D := by
  intro L
  have gen : ∀ (L : Shr) (n : Nat), L.length = n → (∀ p ∈ L, 0 < p.2.2) → 0 < wholeOf L ∧ (∀ p ∈ L, p.2.2 ∣ (wholeOf L : Int)) ∧ ∀ D : Int, (∀ p ∈ L, p.2.2 ∣ D) → (wholeOf L : Int) ∣ D := by
    intro L n
    induction n generalizing L with
    | zero =>
      intro l _
      obtain rfl := List.length_eq_zero_iff.mp l
      exact ⟨by decide, fun p hp => absurd hp List.not_mem_nil, fun D _ => ⟨D, by show D = (1 : Int) * D; omega⟩⟩
    | succ n ih =>
      intro l h
      rcases List.eq_nil_or_concat L with rfl | ⟨L', p, rfl⟩
      · cases l
      · rw [List.concat_eq_append] at l h ⊢
        rw [List.length_append] at l
        have l' : L'.length = n := by
          have : L'.length + 1 = n + 1 := l
          omega
        obtain ⟨i1, i2, i3⟩ := ih L' l' fun q hq => h q (List.mem_append_left _ hq)
        have pb := h p (List.mem_append_right _ (List.mem_singleton.mpr rfl))
        rw [whole_snoc]
        refine ⟨Nat.lcm_pos i1 (by omega), fun q hq => ?_, fun D hD => ?_⟩
        · rcases mem_snoc hq with hq | rfl
          · exact Int.dvd_trans (i2 q hq) (Int.natCast_dvd_natCast.mpr (Nat.dvd_lcm_left _ _))
          · refine Int.dvd_trans ?_ (Int.natCast_dvd_natCast.mpr (Nat.dvd_lcm_right _ _))
            exact ⟨1, by omega⟩
        · have a := i3 D fun q hq => hD q (List.mem_append_left _ hq)
          have b := hD p (List.mem_append_right _ (List.mem_singleton.mpr rfl))
          have a' : wholeOf L' ∣ D.natAbs := by
            have := Int.natAbs_dvd_natAbs.mpr a
            rwa [Int.natAbs_natCast] at this
          have b' : p.2.2.natAbs ∣ D.natAbs := Int.natAbs_dvd_natAbs.mpr b
          have := Nat.lcm_dvd a' b'
          exact Int.natAbs_dvd_natAbs.mp (by rw [Int.natAbs_natCast]; exact this)
  exact gen L _ rfl
def cn (L : Shr) (W : Int) (n : Nat) : Int := SumF L fun p => if p.1 = n then p.2.1 * (W / p.2.2) else 0
def cntL (L : Shr) (W : Int) (len : Nat) : List Int := (List.range len).map (cn L W)
theorem cntL_len (L : Shr) (W : Int) (len : Nat) : (cntL L W len).length = len := by unfold cntL; rw [List.length_map, List.length_range]
theorem cn_no {L : Shr} {W : Int} {n : Nat} (h : n ∉ L.map (·.1)) : cn L W n = 0 := sf_zero fun p hp => if_neg fun e => h (List.mem_map.mpr ⟨p, hp, e⟩)
theorem cntL_snoc {L : Shr} {W : Int} {len : Nat} {p : Nat × (Int × Int)} (h : p.1 ∉ L.map (·.1)) : (cntL L W len).set p.1 (p.2.1 * (W / p.2.2)) = cntL (L ++ [p]) W len := by
  refine List.ext_getElem? fun i => ?_
  by_cases il : i < len
  · have e : (cntL (L ++ [p]) W len)[i]? = some (cn (L ++ [p]) W i) := by unfold cntL; rw [List.getElem?_map, List.getElem?_range il]; rfl
    have e0 : (cntL L W len)[i]? = some (cn L W i) := by unfold cntL; rw [List.getElem?_map, List.getElem?_range il]; rfl
    have es : cn (L ++ [p]) W i = cn L W i + if p.1 = i then p.2.1 * (W / p.2.2) else 0 := by
      unfold cn
      rw [sf_app]
      show _ + ((if p.1 = i then p.2.1 * (W / p.2.2) else 0) + 0) = _
      omega
    rw [e]
    by_cases z : p.1 = i
    · subst z
      rw [List.getElem?_set_self (by rw [cntL_len]; exact il), es, if_pos rfl, cn_no h, Int.zero_add]
    · rw [List.getElem?_set_ne z, e0, es, if_neg z, Int.add_zero]
  · rw [List.getElem?_eq_none (by rw [List.length_set, cntL_len]; omega), List.getElem?_eq_none (by rw [cntL_len]; omega)]
theorem sum_cnt {L : Shr} {W : Int} {len : Nat} (h : ∀ p ∈ L, p.1 < len) (f : Nat → Int) : (SumF (List.range len) fun n => (cntL L W len).getD n 0 * f n) = sumD L f W := by
  have e : (SumF (List.range len) fun n => (cntL L W len).getD n 0 * f n) = SumF (List.range len) fun n => SumF L fun p => f n * (p.2.1 * (W / p.2.2)) * if p.1 = n then 1 else 0 := sf_congr fun n hn => by
    have il := List.mem_range.mp hn
    have e0 : (cntL L W len).getD n 0 = cn L W n := by
      rw [List.getD_eq_getElem?_getD]
      unfold cntL
      rw [List.getElem?_map, List.getElem?_range il]
      rfl
    rw [e0]
    unfold cn
    rw [sf_mulr]
    refine sf_congr fun p _ => ?_
    by_cases z : p.1 = n
    · rw [if_pos z, if_pos z, Int.mul_one, Int.mul_comm]
    · rw [if_neg z, if_neg z, Int.zero_mul, Int.mul_zero]
  rw [e, sf_swap]
  unfold sumD
  refine sf_congr fun p hp => ?_
  rw [sf_delta (fun n => f n * (p.2.1 * (W / p.2.2))) len p.1 (h p hp), Int.mul_comm]
/-- what shows that no choice solves the measures -/
structure Shows (ls : List Str) (ms : List Ms) (cs : List Int) (W : Int) : Prop where
  len : cs.length = ms.length
  w2 : 2 ≤ W
  dv : ∀ l ∈ ls, W ∣ SumF (List.range ms.length) fun n => cs.getD n 0 * at0 ((ms[n]?).getD []) l
  no : ∃ j, j ∉ ls ∧ ¬ W ∣ SumF (List.range ms.length) fun n => cs.getD n 0 * at0 ((ms[n]?).getD []) j
theorem rows_at {ls : List Str} {ms : List Ms} {i n : Nat} {m : Ms} (hm : ms[i]? = some m) (h : n < i + 1) : mesN (rowsOf ls (ms.take i) ++ [(m, powersOf m ls)]) n = (ms[n]?).getD [] ∧ rowN (rowsOf ls (ms.take i) ++ [(m, powersOf m ls)]) n = powersOf ((ms[n]?).getD []) ls := by
  have e : rowsOf ls (ms.take i) ++ [(m, powersOf m ls)] = rowsOf ls (ms.take (i + 1)) := by
    unfold rowsOf
    rw [take_more hm, List.map_append]
    rfl
  have il := (List.getElem?_eq_some_iff.mp hm).1
  have hn : ms[n]? = some (ms[n]'(by omega)) := List.getElem?_eq_getElem _
  rw [e]
  have e2 : (rowsOf ls (ms.take (i + 1)))[n]? = some (ms[n]'(by omega), powersOf (ms[n]'(by omega)) ls) := by
    unfold rowsOf
    rw [List.getElem?_map, List.getElem?_take, if_pos h, hn]
    rfl
  obtain ⟨a, b⟩ := rowN_at e2
  rw [hn]
  exact ⟨b, a⟩
theorem shd_shows {ls keys : List Str} {ms : List Ms} {sg : List (Stl × List Int)} {d : List Col} {N i : Nat} {m : Ms} (ll : ls.length = N) (h : Sg ls keys (rowsOf ls (ms.take i)) sg d N) (hm : ms[i]? = some m) (nm : ∀ m ∈ ms, (m.map (·.1)).Nodup) {b : Int} (b2 : 2 ≤ b) {L : Shr} {D : Int} (s : Shd (rowsOf ls (ms.take i) ++ [(m, powersOf m ls)]) sg d (rowsOf ls (ms.take i)).length b 0 L D)
    (kd : ∀ z ∈ keys, z ∉ ls) {j : Str} (hjk : j ∈ keys) (hj : ¬ b ∣ restAt m ls (powersOf m ls) (sg.map (·.1)) j) : Shows ls ms (cntL L (wholeOf L) ms.length) (wholeOf L) ∧ (wholeOf L : Int) ∣ D := by
  have pos : ∀ p ∈ L, 0 < p.2.2 := fun p hp => (s.ok.r p hp).1.1
  obtain ⟨w0, w1, w2⟩ := whole_ok L pos
  have wd := w2 D fun p hp => (s.ok.r p hp).2.1
  have W0 : (wholeOf L : Int) ≠ 0 := by omega
  obtain ⟨k, hk⟩ := id wd
  have k0 : k ≠ 0 := fun z => by have := s.ok.d0; rw [z, Int.mul_zero] at hk; omega
  have il := (List.getElem?_eq_some_iff.mp hm).1
  have rl : (rowsOf ls (ms.take i)).length = i := by rw [List.length_map, List.length_take]; omega
  have lt : ∀ p ∈ L, p.1 < i + 1 := fun p hp => by
    have := Shd.lt h s p hp
    rw [List.length_append, rl] at this
    exact this
  have lt2 : ∀ p ∈ L, p.1 < ms.length := fun p hp => by have := lt p hp; omega
  have nmn : ∀ n : Nat, (((ms[n]?).getD ([] : Ms)).map Prod.fst).Nodup := fun n => by
    cases e : ms[n]? with
    | none => exact List.nodup_nil
    | some x => exact nm x (List.mem_of_getElem? e)
  refine ⟨⟨cntL_len _ _ _, ?_, fun l hl => ?_, j, kd j hjk, ?_⟩, wd⟩
  · have : b ∣ (wholeOf L : Int) := w1 _ s.hd
    have := Int.le_of_dvd (by omega) this
    omega
  · rw [sum_cnt lt2]
    obtain ⟨q, hq⟩ := List.mem_iff_getElem?.mp hl
    have ql : q < N := by rw [← ll]; exact (List.getElem?_eq_some_iff.mp hq).1
    have e : sumD L (fun n => at0 ((ms[n]?).getD []) l) (wholeOf L) = sumD L (fun n => atP (rowN (rowsOf ls (ms.take i) ++ [(m, powersOf m ls)]) n) q) (wholeOf L) := sumD_congr fun p hp => by
      rw [(rows_at hm (lt p hp)).2]
      unfold atP powersOf
      rw [List.getD_eq_getElem?_getD, List.getElem?_map, hq]
      rfl
    rw [e]
    refine (dvd_less w1 W0 k k0 hk).mp ?_
    exact shd_letters h (by rw [rows_len]; exact ll) s ql
  · rw [sum_cnt lt2]
    have e : sumD L (fun n => at0 ((ms[n]?).getD []) j) (wholeOf L) = sumD L (fun n => sumAt (notIn ls (mesN (rowsOf ls (ms.take i) ++ [(m, powersOf m ls)]) n)) j) (wholeOf L) := sumD_congr fun p hp => by
      rw [(rows_at hm (lt p hp)).1, sum_notIn, if_neg (kd j hjk), sumAt_at0 _ (nmn p.1)]
    rw [e]
    intro hd
    exact shd_other h (by omega) s hj ((dvd_less w1 W0 k k0 hk).mpr hd)
end MK


set_option Elab.async false
set_option linter.all false
set_option maxRecDepth 100000
set_option maxHeartbeats 4000000
namespace MK
open PySem PySem.Spec PyProof.Rows L2
/-! ### shares on the heap -/
def encI (ads : List (Nat × Addr)) : List (L2.Key × V) := ads.map fun p => (Sum.inl (p.1 : Int), V.ref p.2)
abbrev ShR (H : Hp) (x : Nat × Addr) (y : Nat × (Int × Int)) : Prop := x.1 = y.1 ∧ FracAt H x.2 y.2.1 y.2.2
theorem shr_keys {H : Hp} {ads : List (Nat × Addr)} {L : Shr} (p : Paired (ShR H) ads L) : ads.map (·.1) = L.map (·.1) := by
  induction p with
  | nil => rfl
  | cons h _ ih => exact congr (congrArg List.cons h.1) ih
theorem encI_at {ads : List (Nat × Addr)} {i : Nat} {k : L2.Key} {v : V} (h : (encI ads)[i]? = some (k, v)) : ∃ n b, ads[i]? = some (n, b) ∧ k = Sum.inl (n : Int) ∧ v = .ref b := by
  unfold encI at h
  rw [List.getElem?_map] at h
  cases e : ads[i]? with
  | none => rw [e] at h; cases h
  | some y =>
    rw [e] at h
    obtain ⟨h3, h4⟩ := Prod.mk.inj (Option.some.inj h)
    exact ⟨y.1, y.2, rfl, h3.symm, h4.symm⟩
theorem encI_put {ads : List (Nat × Addr)} {n : Nat} {b : Addr} (h : n ∉ ads.map (·.1)) : putK (encI ads) (Sum.inl (n : Int) : L2.Key) (V.ref b) = encI (ads ++ [(n, b)]) := by
  unfold putK
  rw [if_neg]
  · unfold encI
    rw [List.map_append]
    rfl
  · intro z
    obtain ⟨kv, hkv, e⟩ := List.any_eq_true.mp z
    unfold encI at hkv
    obtain ⟨p, hp, rfl⟩ := List.mem_map.mp hkv
    have e : (Sum.inl (p.1 : Int) : L2.Key) = Sum.inl (n : Int) := of_decide_eq_true e
    have : p.1 = n := by have := Sum.inl.inj e; omega
    exact h (List.mem_map.mpr ⟨p, hp, this⟩)
def shP (sg : List (Stl × List Int)) : Nat := sg.foldr (fun g n => g.1.sh.natAbs * n) 1
theorem shP_drop {sg : List (Stl × List Int)} {t : Nat} {g : Stl × List Int} (h : sg[t]? = some g) : shP (sg.drop t) = g.1.sh.natAbs * shP (sg.drop (t + 1)) := by
  have il := (List.getElem?_eq_some_iff.mp h).1
  have e := (List.getElem?_eq_some_iff.mp h).2
  rw [List.drop_eq_getElem_cons il, e]
  rfl
theorem shP_snoc {sg : List (Stl × List Int)} {g : Stl × List Int} : shP (sg ++ [g]) = shP sg * g.1.sh.natAbs := by
  induction sg with
  | nil => show g.1.sh.natAbs * 1 = 1 * g.1.sh.natAbs; omega
  | cons x sg ih =>
    show x.1.sh.natAbs * shP (sg ++ [g]) = x.1.sh.natAbs * shP sg * g.1.sh.natAbs
    rw [ih, Nat.mul_assoc]
theorem shP_le {sg : List (Stl × List Int)} (h : ∀ g ∈ sg, g.1.sh ≠ 0) (t : Nat) : 1 ≤ shP (sg.drop t) ∧ shP (sg.drop t) ≤ shP sg := by
  induction sg generalizing t with
  | nil => rw [List.drop_nil]; exact ⟨Nat.le_refl _, Nat.le_refl _⟩
  | cons g sg ih =>
    have g0 := h g (List.mem_cons_self ..)
    have hs : ∀ g ∈ sg, g.1.sh ≠ 0 := fun x hx => h x (List.mem_cons_of_mem _ hx)
    have g1 : 1 ≤ g.1.sh.natAbs := by omega
    obtain ⟨a0, _⟩ := ih hs 0
    cases t with
    | zero =>
      refine ⟨?_, Nat.le_refl _⟩
      show 1 ≤ g.1.sh.natAbs * shP sg
      exact Nat.mul_pos g1 a0
    | succ t =>
      obtain ⟨a, b⟩ := ih hs t
      refine ⟨a, Nat.le_trans b ?_⟩
      show shP sg ≤ g.1.sh.natAbs * shP sg
      exact Nat.le_mul_of_pos_left _ g1
theorem sumD_abs {L : Shr} {D : Int} {d : Nat → Int} {B : Nat} (ok : ShOk L D) (h : ∀ p ∈ L, (d p.1).natAbs ≤ B) : (sumD L d D).natAbs ≤ L.length * (D.natAbs * B) := by
  unfold sumD
  refine abs_sumS _ _ L fun p hp => ?_
  obtain ⟨⟨b0, _⟩, ⟨k, hk⟩, a0, a1⟩ := ok.r p hp
  rw [Int.natAbs_mul]
  refine Nat.mul_le_mul ?_ (h p hp)
  have ek : D / p.2.2 = k := by rw [hk]; exact Int.mul_ediv_cancel_left k (Int.ne_of_gt b0)
  rw [ek, hk, Int.natAbs_mul, Int.natAbs_mul]
  exact Nat.mul_le_mul_right _ (by omega)
section
variable {P : Program} {w : World} {K : PySem.W.Frag} {mg : Str → Option Value} {base : Heap}
/-! ### _shown -/
structure ShnIn (D : Addr) (H : Hp) (rl tl : Addr) (rads : List Addr) (ms : List Ms) (ls keys : List Str) (qs : List Addr) (sg : List (Stl × List Int)) (d : List Col) (N i : Nat) (m : Ms) (b : Int) : Prop where
  r : H rl = some (.lst (rads.map V.ref))
  rr : Paired (fun p r => H p = some (.lst (r.map V.int))) rads (ms.map fun m => powersOf m ls)
  t : H tl = some (.lst (qs.map V.ref))
  ts : Paired (SetAt D H) qs (sg.map (·.1))
  g : Sg ls keys (rowsOf ls (ms.take i)) sg d N
  mi : ms[i]? = some m
  ll : ls.length = N
  l32 : N ≤ 32
  ml : ms.length ≤ 60
  b2 : 2 ≤ b
  bd : ∀ c ∈ d, b ∣ dotL (powersOf m ls) c.1
  b1 : ∀ m ∈ ms, SmL 48000 (powersOf m ls)
  b3 : ∀ g ∈ sg, SmL 47000 g.1.s
  b4 : ∀ m ∈ ms, ∀ g ∈ sg, Sm 20000 (dotL (powersOf m ls) g.1.s)
  b5 : b.natAbs * shP sg < 2 ^ 7900
abbrev scShnN : List Str := ["rows", "settled", "number", "by", "shares", "one", "total", "at", "share", "above", "below", "whole", "_", "counts"]
theorem scShn : FnScope scShnN ["rows", "settled", "number", "by"] (defScope sShown) := ⟨rfl, rfl, rfl, by decide +kernel, rfl, by decide +kernel, by decide +kernel⟩
def spShn (D : Addr) : Sp := fun vs H Q _ => ∃ (rl tl : Addr) (rads : List Addr) (ms : List Ms) (ls keys : List Str) (qs : List Addr) (sg : List (Stl × List Int)) (d : List Col) (N i : Nat) (m : Ms) (b : Int), vs = [.ref rl, .ref tl, .int i, .int b] ∧ ShnIn D H rl tl rads ms ls keys qs sg d N i m b ∧
  ∀ (H' : Hp) (t cl : Addr) (L : Shr) (Dd : Int), Same H H' → H' t = some (.tup [.ref cl, .int (wholeOf L : Nat)]) → H' cl = some (.lst ((cntL L (wholeOf L : Nat) ms.length).map V.int)) → Shd (rowsOf ls (ms.take i) ++ [(m, powersOf m ls)]) sg d (rowsOf ls (ms.take i)).length b 0 L Dd → Dd.natAbs < 2 ^ 7900 → Q (.ref t) H'
theorem ok_shn {D f fA fP fQ fS : Addr} {fd dA dP dQ dS : FuncData} (F : Fun K "_shown" "_shown" sShown f fd) (cs' : ClS K D)
    (GA : FnOk P w K mg base CX0 2 fA dA ["one", "other"] (spTwoW 0 .plus)) (kA : PySem.W.keepIn K (.ref fA) = true) (bA : Binds K dA ["one", "other"] []) (gA : mg "added" = some (.ref fA))
    (GP : FnOk P w K mg base CX0 1 fP dP ["one", "other"] (spTwoW 0 .times)) (kP : PySem.W.keepIn K (.ref fP) = true) (bP : Binds K dP ["one", "other"] []) (gP : mg "product" = some (.ref fP))
    (GQ : FnOk P w K mg base CX0 2 fQ dQ ["one", "other"] spQuoW) (kQ : PySem.W.keepIn K (.ref fQ) = true) (bQ : Binds K dQ ["one", "other"] []) (gQ : mg "quotient" = some (.ref fQ))
    (GS : FnOk P w K mg base CX0 1 fS dS ["row", "stands"] spSummed) (kS : PySem.W.keepIn K (.ref fS) = true) (bS : Binds K dS ["row", "stands"] []) (gS : mg "_summed" = some (.ref fS))
    (mrv : mg "reversed" = none) (mLc : mg "lcm" = some (.builtin "math.lcm")) : FnOk P w K mg base CX0 3 f fd ["rows", "settled", "number", "by"] (spShn D) := by
  refine F.ok scShn (fun vs H Q E h => ?_) (fun cdv A outer s H vs Q E hr h => ?_)
  · obtain ⟨rl, tl, _, _, _, _, _, _, _, _, i, _, b, rfl, _⟩ := h
    rfl
  · obtain ⟨rl, tl, rads, ms, ls, keys, qs, sg, d, N, i, m, b, rfl, si, q⟩ := h
    have nd := scShn.nd
    have hu := hu_of hr
    have hr1 : Room 1 _ := hr.mono (by omega)
    have kS' : sizeLine = 16777216 := sizeLine_eq
    refine ⟨_, pss_cons (ps_set (i := 4) nd rfl (.inl rfl) (pe_disp (pps_cons (pv 2) (pe_tup (pa_cons pe_int (pa_cons (pv 3) pa_nil))) pps_nil) (by rfl) (by rfl) (fun z => by cases z) (by decide)))
      (pss_cons (ps_for PassesOwn.never rfl (pi_reversed (by rfl) mrv (pa_cons (pv 1) pa_nil)) (pg_name (i := 5) nd rfl (.inl rfl))
        (pss_cons (ps_set (i := 6) nd rfl (.inl rfl) (pe_tup (pa_cons pe_int (pa_cons pe_int pa_nil))))
        (pss_cons (ps_lock (ps_for PassesOwn.never rfl (pi_items (pv 4)) (pg_tup rfl (pgs_cons (pg_name (i := 7) nd rfl (.inl rfl)) (pgs_cons (pg_name (i := 8) nd rfl (.inl rfl)) pgs_nil)))
          (pss_one (ps_set (i := 6) nd rfl (.inl rfl) (pe_call GA hr (by rfl) gA kA bA .nil pass0 (pa_cons (pv 6) (pa_cons (pe_call GP hr1 (by rfl) gP kP bP .nil pass0 (pa_cons (pv 8) (pa_cons (pe_tup (pa_cons (pe_call GS hr1 (by rfl) gS kS bS .nil pass0 (pa_cons (pe_ix ix_list (pv 0) (pv 7) (fun _ _ => rfl)) (pa_cons (pe_fld (pv 5) rfl) pa_nil))) (pa_cons pe_int pa_nil))) pa_nil))) pa_nil)))))))
        (pss_cons (ps_asg (pe_call GQ hr (by rfl) gQ kQ bQ .nil pass0 (pa_cons (pv 6) (pa_cons (pe_tup (pa_cons (pe_un un_neg (pe_fld (pv 5) rfl)) (pa_cons pe_int pa_nil))) pa_nil))) (pg_tup rfl (pgs_cons (pg_name (i := 9) nd rfl (.inl rfl)) (pgs_cons (pg_name (i := 10) nd rfl (.inl rfl)) pgs_nil))))
        (pss_one (ps_dput hu (pv 4) (pe_fld (pv 5) rfl) (pe_tup (pa_cons (pe_op op_modW (pv 9) (pv 10)) (pa_cons (pv 10) pa_nil))) rfl))))))
      (pss_cons (ps_set (i := 11) nd rfl (.inl rfl) pe_int)
      (pss_cons (ps_lock (ps_for PassesOwn.never rfl (pi_values (pv 4)) (pg_tup rfl (pgs_cons (pg_name (i := 12) nd rfl (.inl rfl)) (pgs_cons (pg_name (i := 10) nd rfl (.inl rfl)) pgs_nil)))
          (pss_one (ps_set (i := 11) nd rfl (.inl rfl) (pe_callBfun cr_lcm (by rfl) mLc (pa_cons (pv 11) (pa_cons (pv 10) pa_nil)))))))
      (pss_cons (ps_setLc (i := 13) rfl nd rfl rfl rfl (own := [("_", 12)]) (g := gName 12) (tt := tYes) (pi_list (pv 0)) (blkOk_by (N := scShnN) (sc := defScope sShown) (by decide +kernel)) (fun _ _ _ _ _ => pg_name (i := 12) nd rfl (Or.inl rfl)) (fun _ _ _ _ _ => pts_nil) (fun _ _ _ _ _ => pe_int))
      (pss_cons (ps_lock (ps_for PassesOwn.never rfl (pi_items (pv 4)) (pg_tup rfl (pgs_cons (pg_name (i := 7) nd rfl (.inl rfl)) (pgs_cons (pg_tup rfl (pgs_cons (pg_name (i := 9) nd rfl (.inl rfl)) (pgs_cons (pg_name (i := 10) nd rfl (.inl rfl)) pgs_nil))) pgs_nil)))
          (pss_one (ps_asg (pe_op op_mulW (pv 9) (pe_op op_fdivWN (pv 11) (pv 10))) (pg_sub (pv 13) (pv 7) set_list)))))
      (pss_one (ps_ret (pe_tup (pa_cons (pv 13) (pa_cons (pv 11) pa_nil)))))))))), ?_⟩
    have hg := si.g
    have il := (List.getElem?_eq_some_iff.mp si.mi).1
    have rtl : (rowsOf ls (ms.take i)).length = i := by rw [List.length_map, List.length_take]; omega
    have mml := si.ml
    have ll := si.ll
    have rdl := si.rr.length
    rw [List.length_map] at rdl
    have qsl := si.ts.length
    rw [List.length_map] at qsl
    have sgl : sg.length ≤ 60 := by
      have := hg.le
      rw [rtl] at this
      omega
    have sh0 : ∀ g ∈ sg, g.1.sh ≠ 0 := fun g hgm => by
      obtain ⟨k, hk⟩ := List.mem_iff_getElem?.mp hgm
      obtain ⟨_, _, _, _, _, e4, _⟩ := hg.tr k g hk
      exact e4
    have rwn : ∀ n : Nat, n < i + 1 → ∃ r mm, rads[n]? = some r ∧ ms[n]? = some mm ∧ rowN (rowsOf ls (ms.take i) ++ [(m, powersOf m ls)]) n = powersOf mm ls ∧ H r = some (.lst ((powersOf mm ls).map V.int)) := fun n hn => by
      have hm : ms[n]? = some (ms[n]'(by omega)) := List.getElem?_eq_getElem _
      have hr' : rads[n]? = some (rads[n]'(by omega)) := List.getElem?_eq_getElem _
      obtain ⟨row, hrow, hh⟩ := paired_ix si.rr hr'
      rw [List.getElem?_map, hm] at hrow
      obtain rfl : powersOf (ms[n]'(by omega)) ls = row := Option.some.inj hrow
      refine ⟨_, _, hr', hm, ?_, hh⟩
      rw [(rows_at si.mi hn).2, hm]
      rfl
    -- shares
    refine fun sd nsd => ?_
    refine ⟨_, rfl, _, rfl, (by show 2 ≤ sizeLine; decide), fun f0 nf0 => ?_⟩
    have sA := same_new (o := .dK []) nsd
    have sB := same_new (o := .tup [V.int 1, V.int b]) nf0
    have sd1 := sB _ _ (upd_same (H := H) (a := sd) (o := .dK []))
    have nfsd : f0 ≠ sd := fun z => by rw [z, upd_same] at nf0; cases nf0
    refine ⟨sd1, [(Sum.inl (i : Int), V.ref f0)], rfl, (by show 1 ≤ 15; decide), ?_⟩
    have s0 : Same H (upd (upd (upd H sd (.dK [])) f0 (.tup [V.int 1, V.int b])) sd (.dK (encI [(i, f0)]))) := same_upd (sA.trans sB) nsd
    have hsd0 : upd (upd (upd H sd (.dK [])) f0 (.tup [V.int 1, V.int b])) sd (.dK (encI [(i, f0)])) sd = some (.dK (encI [(i, f0)])) := upd_same
    have hf0 : FracAt (upd (upd (upd H sd (.dK [])) f0 (.tup [V.int 1, V.int b])) sd (.dK (encI [(i, f0)]))) f0 1 b := by
      show upd _ sd _ f0 = _
      rw [upd_ne nfsd]
      exact upd_same
    have em : mergeK [] [((Sum.inl (i : Int) : L2.Key), V.ref f0)] = encI [(i, f0)] := rfl
    rw [em]
    generalize upd (upd (upd H sd (.dK [])) f0 (.tup [V.int 1, V.int b])) sd (.dK (encI [(i, f0)])) = H1 at s0 hsd0 hf0 ⊢
    have st0 := shd_start (R := rowsOf ls (ms.take i) ++ [(m, powersOf m ls)]) (sg := sg) (cols := d) (num := (rowsOf ls (ms.take i)).length) si.b2 (fun c hc => by
      have hcur : (rowsOf ls (ms.take i) ++ [(m, powersOf m ls)])[(rowsOf ls (ms.take i)).length]? = some (m, powersOf m ls) := by rw [List.getElem?_append_right (Nat.le_refl _), Nat.sub_self]; rfl
      rw [(rowN_at hcur).1]
      exact si.bd c hc)
    have b0 := si.b2
    refine ⟨_, rfl, tl, _, rfl, SqL.of (s0 _ _ si.t), ?_⟩
    refine for_it (walk_rev (xs := qs.map V.ref)) (fun k σ H2 => ∃ (v5 v6 v7 v8 v9 v10 : Option V) (ads : List (Nat × Addr)) (L : Shr) (Dd : Int), σ = [some (.ref rl), some (.ref tl), some (.int i), some (.int b), some (.ref sd), v5, v6, v7, v8, v9, v10, none, none, none] ∧ Same H H2 ∧ H2 sd = some (.dK (encI ads)) ∧ Paired (ShR H2) ads L ∧
        Shd (rowsOf ls (ms.take i) ++ [(m, powersOf m ls)]) sg d (rowsOf ls (ms.take i)).length b (sg.length - k) L Dd ∧ L.length = k + 1 ∧ Dd.natAbs ≤ b.natAbs * shP (sg.drop (sg.length - k)))
      ⟨none, none, none, none, none, none, [(i, f0)], [((rowsOf ls (ms.take i)).length, (1, b))], b, rfl, s0, hsd0, .cons ⟨rtl.symm, hf0⟩ .nil, st0, rfl, by rw [Nat.sub_zero, List.drop_length]; show b.natAbs ≤ b.natAbs * 1; omega⟩ (fun k σ H2 _ z => by obtain ⟨_, _, _, _, _, _, _, _, _, _, z, _⟩ := z; exact SqL.of (z _ _ si.t)) ?_ ?_
    · rintro k x σ H2 H3 hk ⟨v5, v6, v7, v8, v9, v10, ads, L, Dd, rfl, sm, hsd, pr, sh, Ll, Db⟩ ⟨rfl, hx⟩
      rw [List.length_map, qsl] at hk hx
      obtain ⟨p, hp, rfl⟩ := at_map hx
      obtain ⟨y, hy, hys⟩ := paired_ix si.ts hp
      rw [List.getElem?_map] at hy
      obtain ⟨g, hgt⟩ : ∃ g, sg[sg.length - 1 - k]? = some g := ⟨_, List.getElem?_eq_getElem (by omega)⟩
      rw [hgt] at hy
      obtain rfl : g.1 = y := Option.some.inj hy
      have gm := List.mem_of_getElem? hgt
      have et : sg.length - k = sg.length - 1 - k + 1 := by omega
      have et2 : sg.length - (k + 1) = sg.length - 1 - k := by omega
      rw [et] at sh Db
      have Dle : Dd.natAbs < 2 ^ 7900 := by
        have := (shP_le sh0 (sg.length - 1 - k + 1)).2
        exact Nat.lt_of_le_of_lt (Nat.le_trans Db (Nat.mul_le_mul_left _ this)) si.b5
      obtain ⟨nx, e1, ln, e3, e4, e5, e6, _⟩ := hg.row_at [(m, powersOf m ls)] hgt
      have shle : Sm 7900 g.1.sh := by
        have h1 := shP_drop hgt
        have h2 := (shP_le sh0 (sg.length - 1 - k)).2
        have h3 := (shP_le sh0 (sg.length - 1 - k + 1)).1
        have h4 : g.1.sh.natAbs ≤ g.1.sh.natAbs * shP (sg.drop (sg.length - 1 - k + 1)) := Nat.le_mul_of_pos_right _ h3
        have h5 : shP sg ≤ b.natAbs * shP sg := Nat.le_mul_of_pos_left _ (by omega)
        have := si.b5
        show g.1.sh.natAbs < 2 ^ 7900
        rw [h1] at h2
        exact Nat.lt_of_le_of_lt (Nat.le_trans h4 (Nat.le_trans h2 h5)) this
      have D0 := sh.ok.d0
      have Ls : L.length ≤ 61 := by omega
      have dgS : ∀ pp ∈ L, ∃ r mm, rads[pp.1]? = some r ∧ rowN (rowsOf ls (ms.take i) ++ [(m, powersOf m ls)]) pp.1 = powersOf mm ls ∧ mm ∈ ms ∧ H r = some (.lst ((powersOf mm ls).map V.int)) ∧ Sm 20000 (dotL (rowN (rowsOf ls (ms.take i) ++ [(m, powersOf m ls)]) pp.1) g.1.s) := fun pp hpp => by
        have lt := Shd.lt hg sh pp hpp
        rw [List.length_append, rtl] at lt
        obtain ⟨r, mm, h1, h2, h3, h4⟩ := rwn pp.1 lt
        have mmm := List.mem_of_getElem? h2
        exact ⟨r, mm, h1, h3, mmm, h4, by rw [h3]; exact si.b4 mm mmm g gm⟩
      have Sb : ∀ L' : Shr, (∀ pp ∈ L', pp ∈ L) → L'.length ≤ 61 → ShOk L' Dd → Sm 28000 (sumD L' (fun n => dotL (rowN (rowsOf ls (ms.take i) ++ [(m, powersOf m ls)]) n) g.1.s) Dd) := fun L' hs hl ok => by
        have a := sumD_abs (d := fun n => dotL (rowN (rowsOf ls (ms.take i) ++ [(m, powersOf m ls)]) n) g.1.s) (B := 2 ^ 20000) ok fun pp hpp => by
          obtain ⟨_, _, _, _, _, _, h⟩ := dgS pp (hs pp hpp)
          exact Nat.le_of_lt h
        have c : L'.length * (Dd.natAbs * 2 ^ 20000) ≤ 61 * (2 ^ 7900 * 2 ^ 20000) := Nat.mul_le_mul hl (Nat.mul_le_mul_right _ (Nat.le_of_lt Dle))
        have e : 61 * (2 ^ 7900 * 2 ^ 20000) < 2 ^ 28000 := by decide +kernel
        exact Nat.lt_of_le_of_lt (Nat.le_trans a c) e
      obtain ⟨dx, sa, mb, f1, f2, f3⟩ := hys
      -- total
      refine ⟨(by show 2 ≤ sizeLine; decide), fun t0 nt0 => ?_⟩
      have sT := same_new (o := .tup [V.int 0, V.int 1]) nt0
      have sm1 := sm.trans sT
      have hsd1 := sT _ _ hsd
      have pr1 : Paired (ShR (upd H3 t0 (.tup [V.int 0, V.int 1]))) ads L := Paired.mono (fun _ _ z => ⟨z.1, sT _ _ z.2⟩) pr
      have ht0 : FracAt (upd H3 t0 (.tup [V.int 0, V.int 1])) t0 0 1 := upd_same
      generalize upd H3 t0 (.tup [V.int 0, V.int 1]) = H4 at sm1 hsd1 pr1 ht0 ⊢
      refine ⟨sd, _, hsd1, trivial, fun od => ?_⟩
      have nl : ∀ {c : Addr} {x : HO}, H4 c = some x → x ≠ .dK (encI ads) → upd H4 sd (.frz od (.dK (encI ads))) c = some x := fun {c x} e n => by
        rw [upd_ne (ne_of e hsd1 n)]
        exact e
      have unH : ∀ {c : Addr} {x : HO}, H c = some x → upd H4 sd (.frz od (.dK (encI ads))) c = some x := fun {c x} e => by
        rw [upd_ne (ne_of_none e nsd)]
        exact sm1 _ _ e
      have prB : Paired (ShR (upd H4 sd (.frz od (.dK (encI ads))))) ads L := Paired.mono (fun _ _ z => ⟨z.1, nl z.2 (fun z => nomatch z)⟩) pr1
      have ht0B : FracAt (upd H4 sd (.frz od (.dK (encI ads)))) t0 0 1 := nl ht0 (fun z => nomatch z)
      have hsdB : upd H4 sd (.frz od (.dK (encI ads))) sd = some (.frz od (.dK (encI ads))) := upd_same
      have unl : ∀ {H5 : Hp}, Same (upd H4 sd (.frz od (.dK (encI ads)))) H5 → Same H (upd H5 sd (.dK (encI ads))) := fun {H5} s c x e => by
        rw [upd_ne (ne_of_none e nsd)]
        exact s _ _ (unH e)
      have adl := pr.length
      have enl : (encI ads).length = L.length := by unfold encI; rw [List.length_map]; exact adl
      have okt : ∀ j, ShOk (L.take j) Dd := fun j => ⟨D0, fun pp hpp => sh.ok.r pp (List.mem_of_mem_take hpp), by rw [List.map_take]; exact List.Nodup.sublist (List.take_sublist _ _) sh.ok.nd⟩
      refine ⟨_, rfl, sd, od, _, rfl, hsdB, for_it walk_items (fun j σ H5 => ∃ (v7 v8 : Option V) (tt : Addr), σ = [some (.ref rl), some (.ref tl), some (.int i), some (.int b), some (.ref sd), some (.ref p), some (.ref tt), v7, v8, v9, v10, none, none, none] ∧ Same (upd H4 sd (.frz od (.dK (encI ads)))) H5 ∧
          FracAt H5 tt (norm (sumD (L.take j) (fun n => dotL (rowN (rowsOf ls (ms.take i) ++ [(m, powersOf m ls)]) n) g.1.s) Dd) Dd).1 (norm (sumD (L.take j) (fun n => dotL (rowN (rowsOf ls (ms.take i) ++ [(m, powersOf m ls)]) n) g.1.s) Dd) Dd).2)
        ⟨_, _, t0, rfl, Same.refl _, by rw [List.take_zero, tot_nil D0]; exact ht0B⟩ (fun j σ H5 _ z => by obtain ⟨_, _, _, _, z, _⟩ := z; exact z _ _ hsdB) ?_ ?_⟩
      · rintro j x σ H5 H6 hj ⟨v7, v8, tt, rfl, s5, htt⟩ ⟨T, kv1, kv2, rfl, hT, rfl, hk1, hk2⟩
        rw [Option.map_eq_some_iff] at hk1 hk2
        obtain ⟨⟨kk, vv⟩, hkv, rfl⟩ := hk1
        obtain ⟨kv', hkv', rfl⟩ := hk2
        rw [hkv] at hkv'
        cases hkv'
        obtain ⟨n, fb, had, rfl, rfl⟩ := encI_at hkv
        obtain ⟨⟨n', fr⟩, hL, en, hfb⟩ := paired_ix prB had
        have en : n = n' := en
        subst en
        have lm := List.mem_of_getElem? hL
        obtain ⟨r, mm, hr', hrow, mmm, hHr, sdot⟩ := dgS _ lm
        have hr' : rads[n]? = some r := hr'
        have hrow : rowN (rowsOf ls (ms.take i) ++ [(m, powersOf m ls)]) n = powersOf mm ls := hrow
        have sdot : Sm 20000 (dotL (rowN (rowsOf ls (ms.take i) ++ [(m, powersOf m ls)]) n) g.1.s) := sdot
        obtain ⟨frR, frd, fr0, fr1⟩ := sh.ok.r _ lm
        have frd : fr.2 ∣ Dd := frd
        have fr0 : 0 ≤ fr.1 := fr0
        have fr1 : fr.1 ≤ fr.2 := fr1
        have frR : Red fr.1 fr.2 := frR
        have frle : fr.2 ≤ Dd := Int.le_of_dvd D0 frd
        have sfr : FrW 7900 7900 fr := ⟨frR, by show fr.1.natAbs < 2 ^ 7900; omega, by have := frR.1; show fr.2.natAbs < 2 ^ 7900; omega⟩
        have s6 := s5.trans (same_new (o := .tup [kV (Sum.inl (n : Int)), V.ref fb]) hT)
        have htt6 := same_new (o := .tup [kV (Sum.inl (n : Int)), V.ref fb]) hT _ _ htt
        refine ⟨T, _, rfl, SqT.of upd_same, rfl, _, _, rfl, _, _, rfl, rfl, ?_⟩
        generalize upd H5 T (.tup [kV (Sum.inl (n : Int)), V.ref fb]) = H7 at s6 htt6 ⊢
        have kH : ∀ {c : Addr} {x : HO}, H c = some x → H7 c = some x := fun e => s6 _ _ (unH e)
        have rln : (powersOf mm ls).length = N := by rw [rows_len]; exact ll
        have gsl : g.1.s.length = N := hg.lens.1 _ (List.mem_map.mpr ⟨g, gm, rfl⟩)
        have l32 := si.l32
        refine ⟨_, rfl, _, rfl, _, rfl, _, rfl, rl, _, _, _, rfl, rfl, SqL.of (kH si.r), atI_nat (by rw [List.getElem?_map, hr']; rfl), _, rfl, p, D, dx, _, _, rfl, kH f1, cs'.cl, cs'.nS, fldsS_s _ _ _ _, ?_⟩
        refine ⟨r, sa, powersOf mm ls, g.1.s, N, 48000, rfl, kH hHr, kH f2, rln, gsl, by omega, si.b1 mm mmm, (si.b3 g gm).mono (by decide), by decide, fun H8 s8 => ?_⟩
        refine ⟨(by show 2 ≤ sizeLine; decide), fun t1 nt1 => ?_⟩
        have s9 := s8.trans (same_new (o := .tup [V.int (dotL (powersOf mm ls) g.1.s), V.int 1]) nt1)
        have ht1 : FracAt (upd H8 t1 (.tup [V.int (dotL (powersOf mm ls) g.1.s), V.int 1])) t1 (dotL (rowN (rowsOf ls (ms.take i) ++ [(m, powersOf m ls)]) n) g.1.s) 1 := by
          rw [hrow]
          exact upd_same
        refine ⟨fb, t1, fr, (dotL (rowN (rowsOf ls (ms.take i) ++ [(m, powersOf m ls)]) n) g.1.s, 1), 7900, 7900, 20000, 1, rfl, s9 _ _ (s6 _ _ hfb), ht1, sfr, ⟨⟨by show (0 : Int) < 1; decide, by show Nat.gcd _ 1 = 1; exact Nat.gcd_one_right _⟩, sdot, by show (1 : Int).natAbs < 2 ^ 1; decide⟩, ⟨by decide, by decide, by decide, by decide, by decide⟩, (fun z => nomatch z), fun x hx H9 pp s10 hpp => ?_⟩
        have b10 : fr.2 * 1 ≠ 0 := by rw [Int.mul_one]; exact Int.ne_of_gt frR.1
        obtain rfl : norm (fr.1 * dotL (rowN (rowsOf ls (ms.take i) ++ [(m, powersOf m ls)]) n) g.1.s) (fr.2 * 1) = x := Option.some.inj hx
        have cu := cut_ok (x := sumD (L.take j) (fun n => dotL (rowN (rowsOf ls (ms.take i) ++ [(m, powersOf m ls)]) n) g.1.s) Dd) (Int.ne_of_gt D0)
        have cv := cut_ok (x := fr.1 * dotL (rowN (rowsOf ls (ms.take i) ++ [(m, powersOf m ls)]) n) g.1.s) b10
        have SbJ := Sb (L.take j) (fun pp h => List.mem_of_mem_take h) (by rw [List.length_take]; omega) (okt j)
        refine ⟨tt, pp, _, _, 28000, 7900, 28000, 7900, rfl, s10 _ _ (s9 _ _ htt6), hpp, ⟨norm_red (Int.ne_of_gt D0), SbJ.le cu.2.2.1, Sm.le (a := 7900) (x := Dd) Dle cu.2.2.2⟩, ⟨norm_red b10, ((sfr.2.1.mul sdot).le cv.2.2.1).mono (by decide), Sm.le (x := fr.2 * 1) (by rw [Int.mul_one]; exact sfr.2.2) cv.2.2.2⟩, ⟨by decide, by decide, by decide, by decide, by decide⟩, (fun z => nomatch z), fun x hx H10 qq s11 hqq => ?_⟩
        have ex := (Option.some.inj hx).symm.trans (tot_step (L := L.take j) (d := fun n => dotL (rowN (rowsOf ls (ms.take i) ++ [(m, powersOf m ls)]) n) g.1.s) (p := (n, fr)) D0 frR.1 frd)
        rw [← take_more hL] at ex
        rw [ex] at hqq
        exact ⟨_, _, qq, rfl, s6.trans (s9.trans (s10.trans s11)), hqq⟩
      · rintro σ H5 ⟨v7, v8, tt, rfl, s5, htt⟩
        rw [enl, List.take_length] at htt
        have hsd5 := s5 _ _ hsdB
        refine ⟨hsd5, ?_⟩
        have s05 := unl s5
        have tne : tt ≠ sd := ne_of htt hsd5 (fun z => nomatch z)
        have htt6 : upd H5 sd (.dK (encI ads)) tt = _ := (upd_ne tne).trans htt
        have hsd6 : upd H5 sd (.dK (encI ads)) sd = some (.dK (encI ads)) := upd_same
        have pr6 : Paired (ShR (upd H5 sd (.dK (encI ads)))) ads L := Paired.mono (fun x y z => ⟨z.1, by
          have z2 := s5 _ _ z.2
          have n1 : x.2 ≠ sd := ne_of z2 hsd5 (fun z => nomatch z)
          show upd _ _ _ _ = _
          rw [upd_ne n1]
          exact z2⟩) prB
        generalize upd H5 sd (.dK (encI ads)) = H6 at s05 htt6 hsd6 pr6 ⊢
        have SbL := Sb L (fun _ h => h) Ls sh.ok
        have Dn : Dd ≠ 0 := Int.ne_of_gt D0
        have cu := cut_ok (x := sumD L (fun n => dotL (rowN (rowsOf ls (ms.take i) ++ [(m, powersOf m ls)]) n) g.1.s) Dd) Dn
        have nr := norm_red (x := sumD L (fun n => dotL (rowN (rowsOf ls (ms.take i) ++ [(m, powersOf m ls)]) n) g.1.s) Dd) Dn
        have nv := norm_val (x := sumD L (fun n => dotL (rowN (rowsOf ls (ms.take i) ++ [(m, powersOf m ls)]) n) g.1.s) Dd) Dn
        refine ⟨_, rfl, _, rfl, p, D, dx, _, _, rfl, s05 _ _ f1, cs'.cl, cs'.nH, fldsS_h _ _ _ _, _, rfl, (by show 2 ≤ sizeLine; decide), fun t2 nt2 => ?_⟩
        have s7 := same_new (o := .tup [V.int (-g.1.sh), V.int 1]) nt2
        refine ⟨tt, t2, _, (-g.1.sh, 1), 28000, 7900, 7900, 1, rfl, s7 _ _ htt6, upd_same, ⟨nr, SbL.le cu.2.2.1, Sm.le (a := 7900) (x := Dd) Dle cu.2.2.2⟩, ⟨⟨by show (0 : Int) < 1; decide, by show Nat.gcd _ 1 = 1; exact Nat.gcd_one_right _⟩, shle.neg, by show (1 : Int).natAbs < 2 ^ 1; decide⟩, (by show -g.1.sh ≠ 0; omega), ⟨by decide, by decide, by decide, by decide, by decide⟩, fun x hx H8 p3 s8 hp3 => ?_⟩
        have hx : (if -g.1.sh = 0 then none else some (norm ((norm (sumD L (fun n => dotL (rowN (rowsOf ls (ms.take i) ++ [(m, powersOf m ls)]) n) g.1.s) Dd) Dd).1 * 1) ((norm (sumD L (fun n => dotL (rowN (rowsOf ls (ms.take i) ++ [(m, powersOf m ls)]) n) g.1.s) Dd) Dd).2 * -g.1.sh))) = some x := hx
        rw [if_neg (by omega)] at hx
        have hx := Option.some.inj hx
        generalize norm (sumD L (fun n => dotL (rowN (rowsOf ls (ms.take i) ++ [(m, powersOf m ls)]) n) g.1.s) Dd) Dd = tot at nr nv hx
        have q0 : tot.2 * -g.1.sh ≠ 0 := Int.mul_ne_zero (Int.ne_of_gt nr.1) (by omega)
        have xr := norm_red (x := tot.1 * 1) q0
        have xv := norm_val (x := tot.1 * 1) q0
        rw [hx] at xr xv
        have key : x.1 * (Dd * -g.1.sh) = sumD L (fun n => dotL (rowN (rowsOf ls (ms.take i) ++ [(m, powersOf m ls)]) n) g.1.s) Dd * x.2 := by
          refine Int.eq_of_mul_eq_mul_right (Int.ne_of_gt nr.1) ?_
          have a1 : x.1 * (Dd * -g.1.sh) * tot.2 = x.1 * (tot.2 * -g.1.sh) * Dd := by simp only [Int.mul_assoc, Int.mul_left_comm, Int.mul_comm]
          rw [a1, xv, Int.mul_one, Int.mul_right_comm, nv]
          simp only [Int.mul_assoc, Int.mul_left_comm, Int.mul_comm]
        obtain ⟨nin, shn⟩ := shd_step hg sh hgt xr key e1
        have adk := shr_keys pr6
        have s18 := s7.trans s8
        refine ⟨p3, _, rfl, SqT.of hp3, rfl, _, _, rfl, _, _, rfl, rfl, ?_⟩
        have x0 : x.2 ≠ 0 := Int.ne_of_gt xr.1
        refine ⟨_, rfl, _, rfl, _, _, rfl, rfl, x0, _, rfl, (by show 2 ≤ sizeLine; decide), fun t3 nt3 => ?_⟩
        have s9 := s18.trans (same_new (o := .tup [V.int (x.1.fmod x.2), V.int x.2]) nt3)
        have s09 := s05.trans s9
        have hsd9 := s9 _ _ hsd6
        refine ⟨_, rfl, _, rfl, p, D, dx, _, _, rfl, s09 _ _ f1, cs'.cl, cs'.nN, fldsS_n _ _ _ _, ?_⟩
        rw [e1]
        have encl : (encI ads).length < sizeLine := by rw [enl]; omega
        refine ⟨sd, _, rfl, DPut.k (k := Sum.inl (nx : Int)) hsd9 encl, ?_⟩
        rw [encI_put (by rw [adk]; exact nin)]
        have t3sd : t3 ≠ sd := fun z => by rw [z, s18 _ _ hsd6] at nt3; cases nt3
        have fm : x.1.fmod x.2 = x.1 % x.2 := Int.fmod_eq_emod_of_nonneg _ (Int.le_of_lt xr.1)
        refine ⟨_, _, _, _, _, _, ads ++ [(nx, t3)], L ++ [(nx, (x.1 % x.2, x.2))], Dd * g.1.sh.natAbs, rfl, same_upd s09 nsd, upd_same, ?_, ?_, ?_, ?_⟩
        · refine Paired.snoc (Paired.mono (fun y z h => ⟨h.1, ?_⟩) pr6) ⟨rfl, ?_⟩
          · show upd _ _ _ _ = _
            rw [upd_ne t3sd, upd_same]
            show some (HO.tup [V.int (x.1.fmod x.2), V.int x.2]) = _
            rw [fm]
          · have z2 := s9 _ _ h.2
            have n1 : y.2 ≠ sd := ne_of z2 hsd9 (fun z => nomatch z)
            show upd _ _ _ _ = _
            rw [upd_ne n1]
            exact z2
        · rw [et2]
          exact shn
        · rw [List.length_append, Ll]
          rfl
        · rw [et2, shP_drop hgt, Int.natAbs_mul, Int.natAbs_natCast]
          have := Nat.mul_le_mul_right g.1.sh.natAbs Db
          have e : b.natAbs * shP (sg.drop (sg.length - 1 - k + 1)) * g.1.sh.natAbs = b.natAbs * (g.1.sh.natAbs * shP (sg.drop (sg.length - 1 - k + 1))) := by
            simp only [Nat.mul_assoc, Nat.mul_left_comm, Nat.mul_comm]
          rw [e] at this
          exact this
    rintro σ H2 ⟨v5, v6, v7, v8, v9, v10, ads, L, Dd, rfl, sm, hsd, pr, sh, Ll, Db⟩
    have eqs : (qs.map V.ref).length = sg.length := by rw [List.length_map]; exact qsl
    rw [eqs] at sh Ll Db
    rw [Nat.sub_self] at sh Db
    have Dle : Dd.natAbs < 2 ^ 7900 := Nat.lt_of_le_of_lt Db si.b5
    have D0 := sh.ok.d0
    have adl := pr.length
    have enl : (encI ads).length = L.length := by unfold encI; rw [List.length_map]; exact adl
    have pos : ∀ q ∈ L, 0 < q.2.2 := fun q hq => (sh.ok.r q hq).1.1
    obtain ⟨w0, w1, w2⟩ := whole_ok L pos
    have wD := w2 Dd fun q hq => (sh.ok.r q hq).2.1
    have wle : wholeOf L < 2 ^ 7900 := by
      have := Int.le_of_dvd D0 wD
      omega
    -- whole
    refine ⟨sd, _, hsd, trivial, fun od => ?_⟩
    have nl : ∀ {c : Addr} {x : HO}, H2 c = some x → x ≠ .dK (encI ads) → upd H2 sd (.frz od (.dK (encI ads))) c = some x := fun {c x} e n => by
      rw [upd_ne (ne_of e hsd n)]
      exact e
    have unH : ∀ {c : Addr} {x : HO}, H c = some x → upd H2 sd (.frz od (.dK (encI ads))) c = some x := fun {c x} e => by
      rw [upd_ne (ne_of_none e nsd)]
      exact sm _ _ e
    have prB : Paired (ShR (upd H2 sd (.frz od (.dK (encI ads))))) ads L := Paired.mono (fun _ _ z => ⟨z.1, nl z.2 (fun z => nomatch z)⟩) pr
    have hsdB : upd H2 sd (.frz od (.dK (encI ads))) sd = some (.frz od (.dK (encI ads))) := upd_same
    generalize upd H2 sd (.frz od (.dK (encI ads))) = HB at unH prB hsdB
    refine ⟨_, rfl, sd, od, _, rfl, hsdB, for_it walk_values (fun j σ H5 => ∃ v12 v10 : Option V, σ = [some (.ref rl), some (.ref tl), some (.int i), some (.int b), some (.ref sd), v5, v6, v7, v8, v9, v10, some (.int (wholeOf (L.take j) : Nat)), v12, none] ∧ H5 = HB)
      ⟨none, _, rfl, rfl⟩ (fun j σ H5 _ z => by obtain ⟨_, _, _, rfl⟩ := z; exact hsdB) ?_ ?_⟩
    · rintro j x σ H5 H6 hj ⟨v12, v10, rfl, rfl⟩ ⟨rfl, kk, hkv⟩
      obtain ⟨n, fb, had, rfl, rfl⟩ := encI_at hkv
      obtain ⟨⟨n', fr⟩, hL, en, hfb⟩ := paired_ix prB had
      have lm := List.mem_of_getElem? hL
      obtain ⟨frR, frd, fr0, fr1⟩ := sh.ok.r _ lm
      have frle : fr.2 ≤ Dd := Int.le_of_dvd D0 frd
      have frp : 0 < fr.2 := frR.1
      have tk : ∀ q ∈ L.take j, 0 < q.2.2 := fun q hq => pos q (List.mem_of_mem_take hq)
      obtain ⟨_, _, t2⟩ := whole_ok (L.take j) tk
      have tD := t2 Dd fun q hq => (sh.ok.r q (List.mem_of_mem_take hq)).2.1
      have tle : wholeOf (L.take j) < 2 ^ 8000 := by
        have := Int.le_of_dvd D0 tD
        have e : (2 : Nat) ^ 7900 < 2 ^ 8000 := Nat.pow_lt_pow_right (by decide) (by decide)
        omega
      have fle : fr.2.natAbs < 2 ^ 8000 := by
        have e : (2 : Nat) ^ 7900 < 2 ^ 8000 := Nat.pow_lt_pow_right (by decide) (by decide)
        omega
      refine ⟨fb, _, rfl, SqT.of hfb, rfl, _, _, rfl, _, _, rfl, rfl, ?_⟩
      refine ⟨_, rfl, _, rfl, _, _, rfl, by rw [Int.natAbs_natCast]; exact tle, fle, ?_⟩
      rw [take_more hL, whole_snoc, Int.natAbs_natCast]
      exact ⟨_, _, rfl, rfl⟩
    rintro σ H5 ⟨v12, v10, rfl, e5⟩
    rw [enl, List.take_length, e5]
    clear e5
    refine ⟨hsdB, ?_⟩
    have unl : ∀ {H5 : Hp}, Same HB H5 → Same H (upd H5 sd (.dK (encI ads))) := fun {H5} s c x e => by
      rw [upd_ne (ne_of_none e nsd)]
      exact s _ _ (unH e)
    have s05 := unl (Same.refl HB)
    have hsd6 : upd HB sd (.dK (encI ads)) sd = some (.dK (encI ads)) := upd_same
    have pr6 : Paired (ShR (upd HB sd (.dK (encI ads)))) ads L := Paired.mono (fun x y z => ⟨z.1, by
      have z2 := z.2
      have n1 : x.2 ≠ sd := ne_of z2 hsdB (fun z => nomatch z)
      show upd _ _ _ _ = _
      rw [upd_ne n1]
      exact z2⟩) prB
    generalize upd HB sd (.dK (encI ads)) = H6 at s05 hsd6 pr6 ⊢
    -- counts
    refine ⟨_, rfl, rl, rfl, ⟨_, SqL.of (s05 _ _ si.r)⟩, fun cl ncl => ?_⟩
    refine lc_list (xs := rads.map V.ref) (fun j H7 => Same H6 H7 ∧ H7 cl = some (.lst ((List.replicate j (0 : Int)).map V.int))) ⟨same_new ncl, upd_same⟩ (fun j H7 _ z => SqL.of (z.1 _ _ (s05 _ _ si.r))) ?_ ?_
    · rintro j x H7 hx ⟨s7, hcl⟩
      obtain ⟨r, hr', rfl⟩ := at_map hx
      have jl := (List.getElem?_eq_some_iff.mp hr').1
      refine ⟨rfl, ?_⟩
      refine ⟨_, hcl, ?_, same_upd s7 ncl, ?_⟩
      · rw [List.length_map, List.length_replicate]
        omega
      · rw [upd_same, mapInt_snoc, ← List.replicate_succ']
    rintro H7 ⟨s7, hcl⟩
    rw [List.length_map, rdl] at hcl
    have c0 : List.replicate ms.length (0 : Int) = cntL ([] : Shr) (wholeOf L : Nat) ms.length := by
      refine List.ext_getElem? fun n => ?_
      unfold cntL
      rw [List.getElem?_map, List.getElem?_replicate]
      by_cases nl' : n < ms.length
      · rw [if_pos nl', List.getElem?_range nl']
        rfl
      · rw [if_neg nl', List.getElem?_eq_none (by rw [List.length_range]; omega)]
        rfl
    rw [c0] at hcl
    have s07 := s05.trans s7
    have hsd7 := s7 _ _ hsd6
    have pr7 : Paired (ShR H7) ads L := Paired.mono (fun _ _ z => ⟨z.1, s7 _ _ z.2⟩) pr6
    have nclH : H cl = none := s05.free ncl
    have clsd : cl ≠ sd := fun z => by rw [z, hsd6] at ncl; cases ncl
    refine ⟨sd, _, hsd7, trivial, fun od2 => ?_⟩
    have hcl8 : upd H7 sd (.frz od2 (.dK (encI ads))) cl = some (.lst ((cntL ([] : Shr) (wholeOf L : Nat) ms.length).map V.int)) := by rw [upd_ne clsd]; exact hcl
    have pr8 : Paired (ShR (upd H7 sd (.frz od2 (.dK (encI ads))))) ads L := Paired.mono (fun x y z => ⟨z.1, by
      have z2 := z.2
      have n1 : x.2 ≠ sd := ne_of z2 hsd7 (fun z => nomatch z)
      show upd _ _ _ _ = _
      rw [upd_ne n1]
      exact z2⟩) pr7
    have hsd8 : upd H7 sd (.frz od2 (.dK (encI ads))) sd = some (.frz od2 (.dK (encI ads))) := upd_same
    have un8 : ∀ {c : Addr} {x : HO}, H c = some x → upd H7 sd (.frz od2 (.dK (encI ads))) c = some x := fun {c x} e => by
      rw [upd_ne (ne_of_none e nsd)]
      exact s07 _ _ e
    generalize upd H7 sd (.frz od2 (.dK (encI ads))) = H8 at hcl8 pr8 hsd8 un8 ⊢
    refine ⟨_, rfl, sd, od2, _, rfl, hsd8, for_it walk_items (fun j σ H9 => ∃ v7 v9 v10 : Option V, σ = [some (.ref rl), some (.ref tl), some (.int i), some (.int b), some (.ref sd), v5, v6, v7, v8, v9, v10, some (.int (wholeOf L : Nat)), v12, some (.ref cl)] ∧ (∀ c x, c ≠ cl → H8 c = some x → H9 c = some x) ∧ H9 cl = some (.lst ((cntL (L.take j) (wholeOf L : Nat) ms.length).map V.int)))
      ⟨_, _, _, rfl, fun c x _ e => e, hcl8⟩ (fun j σ H9 _ z => by obtain ⟨_, _, _, _, z, _⟩ := z; exact z _ _ clsd.symm hsd8) ?_ ?_⟩
    · rintro j x σ H9 H10 hj ⟨v7, v9, v10, rfl, k9, hcl9⟩ ⟨T, kv1, kv2, rfl, hT, rfl, hk1, hk2⟩
      rw [Option.map_eq_some_iff] at hk1 hk2
      obtain ⟨⟨kk, vv⟩, hkv, rfl⟩ := hk1
      obtain ⟨kv', hkv', rfl⟩ := hk2
      rw [hkv] at hkv'
      cases hkv'
      obtain ⟨n, fb, had, rfl, rfl⟩ := encI_at hkv
      obtain ⟨⟨n', fr⟩, hL, en, hfb⟩ := paired_ix pr8 had
      have en : n = n' := en
      subst en
      have lm := List.mem_of_getElem? hL
      obtain ⟨frR, frd, fr0, fr1⟩ := sh.ok.r _ lm
      have frd : fr.2 ∣ Dd := frd
      have fr0 : 0 ≤ fr.1 := fr0
      have fr1 : fr.1 ≤ fr.2 := fr1
      have frp : 0 < fr.2 := frR.1
      have frle : fr.2 ≤ Dd := Int.le_of_dvd D0 frd
      have lt := Shd.lt hg sh _ lm
      rw [List.length_append, rtl] at lt
      have lt : n < i + 1 := lt
      have fbcl : fb ≠ cl := ne_of hfb hcl8 (fun z => nomatch z)
      have sT := same_new (o := .tup [kV (Sum.inl (n : Int)), V.ref fb]) hT
      have hfb10 := sT _ _ (k9 _ _ fbcl hfb)
      have Tcl : T ≠ cl := fun z => by rw [z, hcl9] at hT; cases hT
      have hcl10 := sT _ _ hcl9
      refine ⟨T, _, rfl, SqT.of upd_same, rfl, _, _, rfl, ?_⟩
      refine ⟨_, _, rfl, fb, _, rfl, SqT.of hfb10, rfl, _, _, rfl, _, _, rfl, rfl, rfl, ?_⟩
      have s2 : Sm 7900 fr.2 := by show fr.2.natAbs < 2 ^ 7900; omega
      have q1 : Sm 7900 ((wholeOf L : Nat) : Int) := by show ((wholeOf L : Nat) : Int).natAbs < 2 ^ 7900; rw [Int.natAbs_natCast]; exact wle
      have dv : fr.2 ∣ ((wholeOf L : Nat) : Int) := w1 _ lm
      have fd : ((wholeOf L : Nat) : Int).fdiv fr.2 = ((wholeOf L : Nat) : Int) / fr.2 := Int.fdiv_eq_ediv_of_nonneg _ (Int.le_of_lt frp)
      have q2 : Sm 7900 (((wholeOf L : Nat) : Int).fdiv fr.2) := q1.le (fdiv_le frp dv)
      have s1 : Sm 7900 fr.1 := by show fr.1.natAbs < 2 ^ 7900; omega
      refine ⟨_, rfl, _, rfl, _, rfl, _, _, rfl, rfl, s2.div (Int.ne_of_gt frp) (by decide), _, _, rfl, rfl, s1.mulW q2 (by decide), ?_⟩
      have ncl' : n < ((cntL (L.take j) (wholeOf L : Nat) ms.length).map V.int).length := by rw [List.length_map, cntL_len]; omega
      refine ⟨_, rfl, _, rfl, cl, _, _, n, rfl, rfl, hcl10, Evl.ixN_nat ncl', ?_⟩
      refine ⟨_, _, _, rfl, fun c x hc e => ?_, ?_⟩
      · rw [upd_ne hc]
        exact sT _ _ (k9 c x hc e)
      · have nin : n ∉ (L.take j).map (·.1) := fun h => by
          have hn := sh.ok.nd
          rw [← List.take_append_drop (j + 1) L, take_more hL, List.map_append, List.map_append] at hn
          have := (List.nodup_append.mp (List.nodup_append.mp hn).1).2.2 n h n (List.mem_singleton.mpr rfl)
          exact this rfl
        rw [upd_same, take_more hL, ← cntL_snoc (p := (n, fr)) nin, List.map_set, fd]
    · rintro σ H9 ⟨v7, v9, v10, rfl, k9, hcl9⟩
      rw [enl, List.take_length] at hcl9
      have hsd9 := k9 _ _ clsd.symm hsd8
      refine ⟨hsd9, ?_⟩
      have s0e : Same H (upd H9 sd (.dK (encI ads))) := fun c x e => by
        rw [upd_ne (ne_of_none e nsd)]
        exact k9 _ _ (ne_of_none e nclH) (un8 e)
      have hcle : upd H9 sd (.dK (encI ads)) cl = some (.lst ((cntL L (wholeOf L : Nat) ms.length).map V.int)) := by rw [upd_ne clsd]; exact hcl9
      refine ⟨_, rfl, _, rfl, (by show 2 ≤ sizeLine; decide), fun t nt => ?_⟩
      have sl := same_new (o := .tup [V.ref cl, V.int (wholeOf L : Nat)]) nt
      exact q _ t cl L Dd (s0e.trans sl) upd_same (sl _ _ hcle) sh Dle
end
end MK


set_option Elab.async false
set_option linter.all false
set_option maxRecDepth 100000
set_option maxHeartbeats 4000000
namespace MK
open PySem PySem.Spec PyProof.Rows L2 NdefX
section
variable {P : Program} {w : World} {K : PySem.W.Frag} {mg : Str → Option Value} {base : Heap}
/-! ### an error that tells numbers: made -/
abbrev sInitN : Stmt := inClass sClsN 0
abbrev nfN (cc c : Addr) : NF := ⟨"__init__", "NoFit.__init__", defArgs sInitN, defBody sInitN, defScope sInitN, [(("__class__" : Str), cc)], c⟩
abbrev scNFN : List Str := ["self", "times", "by", "__class__"]
theorem scNF : NScope scNFN ["self", "times", "by"] ["__class__"] (defScope sInitN) := nscope_by (by decide +kernel)
structure NfC (K : PySem.W.Frag) (C : Addr) : Prop where
  t : OexC K C
  nT : PySem.W.findIn K (.ref C) "times" = some none
  nB : PySem.W.findIn K (.ref C) "by" = some none
def spNF (C : Addr) : Sp := fun vs H Q _ => ∃ (x tl : Addr) (ns : List Int) (b : Int), vs = [.ref x, .ref tl, .int b] ∧ H x = some (exo x C none) ∧ H tl = some (.lst (ns.map V.int)) ∧
  ∀ (H' : Hp) (nl d : Addr), (∀ c o, c ≠ x → H c = some o → H' c = some o) → H d = none → H nl = none → d ≠ x → nl ≠ x → d ≠ nl → H' nl = some (.lst (ns.map V.int)) → H' x = some (exo x C (some d)) → H' d = some (exd d [("by", .int b), ("times", .ref nl)]) → Q .non H'
theorem ok_nf {C f cc c : Addr} {fd : FuncData} (G : SupI.SupT P K mg C f cc (nfN cc c) fd) (nc : NfC K C) (mL : mg "list" = none) : FnOk P w K mg base CX0 1 f fd ["self", "times", "by"] (spNF C) := by
  refine SupI.ok_sup (k := 0) (ar := (((defArgs sInitN).posonlyargs ++ (defArgs sInitN).args).headD ⟨"", none, ⟨0, 0, 0, 0⟩⟩)) G scNF rfl rfl rfl (by show (defScope sInitN).names.lookup _ = _; decide +kernel) (fun L => rfl) (fun vs H Q E h => ?_) (fun A outer s H vs Q E hr h => ?_)
  · obtain ⟨x, tl, ns, b, rfl, _⟩ := h
    rfl
  · obtain ⟨x, tl, ns, b, rfl, hx, htl, q⟩ := h
    refine ⟨⟨x, _, rfl, hx⟩, ?_⟩
    refine ⟨_, pss_cons (ps_ost (pv 0) (pe_callTy call_list_of (by rfl) mL PyProof.Rows.boot_list (pa_cons (pv 1) pa_nil))) (pss_one (ps_ost (pv 0) (pv 2))), ?_⟩
    have nd0 : ∀ {H' : Hp} {l : Addr}, H l = none → H x = some (exo x C none) → l ≠ x := fun n e z => by rw [z, e] at n; cases n
    refine ⟨_, rfl, tl, _, rfl, .inl (SqL.of htl), fun nl nnl => ?_⟩
    have nlx : nl ≠ x := fun z => by rw [z, hx] at nnl; cases nnl
    refine ⟨_, rfl, x, C, rfl, nc.t, nc.nT, .inl ⟨(upd_ne (Ne.symm nlx)).trans hx, fun d nd dx => ?_⟩⟩
    have dnl : d ≠ nl := fun z => by rw [z, upd_same] at nd; cases nd
    have ndH : H d = none := by rwa [upd_ne dnl] at nd
    refine ⟨_, rfl, _, rfl, x, C, rfl, nc.t, nc.nB, .inr ⟨d, _, upd_same, (upd_ne dx).trans upd_same, (by show 1 ≤ 900; decide), ?_⟩⟩
    refine q _ nl d (fun c o n e => ?_) ndH nnl dx nlx dnl ?_ ?_ upd_same
    · rw [upd_ne (ne_of_none e ndH), upd_ne n, upd_ne (ne_of_none e ndH), upd_ne (ne_of_none e nnl)]
      exact e
    · rw [upd_ne (Ne.symm dnl), upd_ne nlx, upd_ne (Ne.symm dnl), upd_same]
    · rw [upd_ne (Ne.symm dx), upd_same]
end
end MK


set_option Elab.async false
set_option linter.all false
set_option maxRecDepth 100000
set_option maxHeartbeats 4000000
namespace MK
open PySem PySem.Spec PyProof.Rows L2
section
variable {P : Program} {w : World} {K : PySem.W.Frag} {mg : Str → Option Value} {base : Heap}
abbrev scSoN : List Str := ["measures", "letters", "measure", "rows", "unknowns", "settled", "number", "row", "share", "rest", "by", "counts", "names", "told", "letter", "many", "unknown", "name", "place"]
theorem scSo : FnScope scSoN ["measures", "letters"] (defScope sSolved) := ⟨rfl, rfl, rfl, by decide +kernel, rfl, by decide +kernel, by decide +kernel⟩
abbrev rLenS (K : PySem.W.Frag) : List V → Hp → VK → Prop := fun xs H Q => ∃ p ys, xs = [V.ref p] ∧ (SqL K H p ys ∨ SqT K H p ys) ∧ Q (V.int (ys.length : Int)) H
theorem cn_le {W : Int} (W0 : 0 ≤ W) (n : Nat) : ∀ {L : Shr}, (L.map (·.1)).Nodup → (∀ p ∈ L, 0 < p.2.2 ∧ p.2.2 ∣ W ∧ 0 ≤ p.2.1 ∧ p.2.1 ≤ p.2.2) → (cn L W n).natAbs ≤ W.natAbs
  | [], _, _ => Nat.zero_le _
  | p :: L, nd, h => by
    obtain ⟨n1, n2⟩ := List.nodup_cons.mp nd
    have ih := cn_le W0 n n2 fun q hq => h q (List.mem_cons_of_mem _ hq)
    show ((if p.1 = n then p.2.1 * (W / p.2.2) else 0) + cn L W n).natAbs ≤ _
    by_cases e : p.1 = n
    · rw [if_pos e, cn_no (by rw [← e]; exact n1), Int.add_zero, Int.natAbs_mul]
      obtain ⟨a0, ⟨k, hk⟩, a1, a2⟩ := h p (List.mem_cons_self ..)
      have ek : W / p.2.2 = k := by rw [hk]; exact Int.mul_ediv_cancel_left k (Int.ne_of_gt a0)
      rw [ek]
      have : W.natAbs = p.2.2.natAbs * k.natAbs := by rw [hk, Int.natAbs_mul]
      rw [this]
      exact Nat.mul_le_mul_right _ (by omega)
    · rw [if_neg e, Int.zero_add]
      exact ih
structure BOk (ls keys : List Str) (ms : List Ms) (N : Nat) (J : Nat → List (Stl × List Int) → List Col → Prop) : Prop where
  s : ∀ i sg cols, J i sg cols → shP sg < 2 ^ 7900
  r : ∀ i m sg cols j, ms[i]? = some m → J i sg cols → Sg ls keys (rowsOf ls (ms.take i)) sg cols N → ((restAt m ls (powersOf m ls) (sg.map (·.1)) j).natAbs + 1) * shP sg < 2 ^ 7900
def spSolE (pt Nf : Addr) : Sp := fun vs H Q E => ∃ (a b : Addr) (mads : List Addr) (ms : List Ms) (ls keys : List Str) (N bt : Nat) (J : Nat → List (Stl × List Int) → List Col → Prop), vs = [.ref a, .ref b] ∧ SoIn H a b mads ms ls keys N bt J ∧ LamX.Tabs (brT pt) H ∧ BOk ls keys ms N J ∧
  (∀ (H' : Hp) (t : Addr) (sg : List (Stl × List Int)) (cols : List Col) (tm um : List (Str × Ms)), Sx H H' → LamX.Tabs (brT pt) H' → SoOut H' t ls keys ms N J sg cols tm um → Q (.ref t) H') ∧
  ∀ (H' : Hp) (d cl : Addr) (cs : List Int) (W : Int), Sx H H' → Shows ls ms cs W → W.natAbs < 2 ^ 7990 → (∀ c ∈ cs, c.natAbs < 2 ^ 7990) → H' cl = some (.lst (cs.map V.int)) → H' d = some (.xd [("by", .int W), ("times", .ref cl)]) → E (.ref Nf) (some d) H'
theorem ok_soE {C D Nf pt fU fS f fP fB fR fH fT fM fZ fI : Addr} {fd dU dS dP dB dR dH dT dM dZ dI : FuncData} (F : Fun K "solved" "solved" sSolved f fd) (cu : ClU K C) (cs' : ClS K D)
    (GP : FnOk P w K mg base CX0 1 fP dP ["measure", "letters"] (spPowers)) (kP : W.keepIn K (Value.ref fP) = true) (bP : Binds K dP ["measure", "letters"] []) (gP : mg "_powers_of" = some (.ref fP))
    (GB : FnOk P w K mg base CX0 4 fB dB ["row", "unknowns"] (spBr C pt)) (kB : W.keepIn K (Value.ref fB) = true) (bB : Binds K dB ["row", "unknowns"] []) (gB : mg "_brought_together" = some (.ref fB))
    (GR : FnOk P w K mg base CX0 2 fR dR ["measure", "letters", "row", "settled"] (spRest D)) (kR : W.keepIn K (Value.ref fR) = true) (bR : Binds K dR ["measure", "letters", "row", "settled"] []) (gR : mg "_rest" = some (.ref fR))
    (GH : FnOk P w K mg base CX0 2 fH dH ["rest", "share"] (spHind)) (kH : W.keepIn K (Value.ref fH) = true) (bH : Binds K dH ["rest", "share"] []) (gH : mg "_hindrance" = some (.ref fH))
    (GZ : FnOk P w K mg base CX0 3 fZ dZ ["rows", "settled", "number", "by"] (spShn D)) (kZ : W.keepIn K (Value.ref fZ) = true) (bZ : Binds K dZ ["rows", "settled", "number", "by"] []) (gZ : mg "_shown" = some (.ref fZ))
    (GT : FnOk P w K mg base CX0 3 fT dT ["letters", "settled", "unknowns", "names"] (spTo C D)) (kT : W.keepIn K (Value.ref fT) = true) (bT : Binds K dT ["letters", "settled", "unknowns", "names"] []) (gT : mg "_told" = some (.ref fT))
    (GM : FnOk P w K mg base CX0 2 fM dM ["letters", "powers"] (spMeasL)) (kM : W.keepIn K (Value.ref fM) = true) (bM : Binds K dM ["letters", "powers"] []) (gM : mg "_measure" = some (.ref fM))
    (MU : Mk K C fU) (GU : FnOk P w K mg base CX0 1 fU dU ["self", "place", "many"] (spInitU C)) (bU : Binds K dU ["self", "place", "many"] []) (gU : mg "Unknown" = some (.ref C))
    (MS : Mk K D fS) (GS : FnOk P w K mg base CX0 1 fS dS ["self", "number", "stands", "share", "measure"] (spInitS D)) (bS : Binds K dS ["self", "number", "stands", "share", "measure"] []) (gS : mg "Settled" = some (.ref D))
    (nc : NfC K Nf) (iN : PySem.W.findIn K (.ref Nf) "__init__" = some (some (.ref fI))) (tN : PySem.W.typeIn K (.ref fI) = some (.type "function")) (GI : FnOk P w K mg base CX0 1 fI dI ["self", "times", "by"] (spNF Nf)) (bI : Binds K dI ["self", "times", "by"] []) (gN : mg "NoFit" = some (.ref Nf))
    (mt : mg "tuple" = none) (ms : mg "str" = none) (mz : mg "zip" = none) (ml : mg "len" = none) (mr : mg "range" = none) (me : mg "enumerate" = none) : FnOk P w K mg base (L2N.CX P w) 6 f fd ["measures", "letters"] (spSolE pt Nf) := by
  refine F.okN scSo (fun vs H Q E h => ?_) (fun cdv A outer s H vs Q E hr h => ?_)
  · obtain ⟨a, b, _, _, _, _, _, _, _, rfl, _⟩ := h
    rfl
  · obtain ⟨a, b, mads, mm, ls, keys, N, bt, J, rfl, si, tb, bok, q, qE⟩ := h
    have nd := scSo.nd
    have hrP : Room 1 _ := hr.mono (by omega)
    have hrB : Room 4 _ := hr.mono (by omega)
    have hrR : Room 2 _ := hr.mono (by omega)
    have hrH := hrR
    have hrM := hrR
    have hrT : Room 3 _ := hr.mono (by omega)
    have hrU := hrR
    have hrS := hrR
    have hrZ := hrT
    have hrI := hrR
    refine ⟨_, (pss_cons (ps_setLc (i := 3) rfl nd rfl rfl rfl (own := [("measure", 2)]) (g := gName 2) (tt := tYes) (pi_list (pv 0)) (blkOk_by (N := scSoN) (sc := defScope sSolved) (by decide +kernel)) (fun _ _ _ _ _ => pg_name (i := 2) nd rfl (Or.inl rfl)) (fun _ _ _ _ _ => pts_nil) (fun _ _ _ _ _ => (pe_call GP hrP (by rfl) gP kP bP .nil pass0 (pa_cons (pv 2) (pa_cons (pv 1) pa_nil)))))
      (pss_cons (ps_setLc (i := 4) rfl nd rfl rfl rfl (own := [("place", 18)]) (g := gName 18) (tt := tYes) (pi_range1 (by rfl) mr (pa_cons (pe_callB call_len_seq (by rfl) ml PySem.boot_len (pa_cons (pv 1) pa_nil)) pa_nil)) (blkOk_by (N := scSoN) (sc := defScope sSolved) (by decide +kernel)) (fun _ _ _ _ _ => pg_name (i := 18) nd rfl (Or.inl rfl)) (fun _ _ _ _ _ => pts_nil) (fun _ _ _ _ _ => (pe_make MU GU hrU (by rfl) gU bU .nil pass0 (pa_cons (pv 18) (pa_cons (pe_callB (show CallR _ (.builtin "len") (rLenS K) from call_len_seq) (by rfl) ml PySem.boot_len (pa_cons (pv 1) pa_nil)) pa_nil)))))
      (pss_cons (ps_set (i := 5) nd rfl (.inl rfl) (pe_lst pa_nil))
      (pss_cons (ps_for (passes_of rfl) rfl (pi_enum (by rfl) me (pa_cons (pv 3) pa_nil)) (pg_tup rfl (pgs_cons (pg_name (i := 6) nd rfl (.inl rfl)) (pgs_cons (pg_name (i := 7) nd rfl (.inl rfl)) pgs_nil)))
        (pss_cons (ps_set (i := 8) nd rfl (.inr rfl) (pe_call GB hrB (by rfl) gB kB bB .nil pass0 (pa_cons (pv 7) (pa_cons (pv 4) pa_nil))))
        (pss_cons (ps_set (i := 9) nd rfl (.inl rfl) (pe_call GR hrR (by rfl) gR kR bR .nil pass0 (pa_cons (pe_ix (show IxR _ (rIxL K) from ix_list) (pv 0) (pv 6) (fun _ _ => rfl)) (pa_cons (pv 1) (pa_cons (pv 7) (pa_cons (pv 5) pa_nil))))))
        (pss_cons (ps_set (i := 10) nd rfl (.inl rfl) (pe_call GH hrH (by rfl) gH kH bH .nil pass0 (pa_cons (pv 9) (pa_cons (pv 8) pa_nil))))
        (pss_cons (ps_if (pt_cmpR op_ne (pv 10) pe_int (nomark _)) (pss_cons (ps_asg (pe_call GZ hrZ (by rfl) gZ kZ bZ .nil pass0 (pa_cons (pv 3) (pa_cons (pv 5) (pa_cons (pv 6) (pa_cons (pv 10) pa_nil))))) (pg_tup rfl (pgs_cons (pg_name (i := 11) nd rfl (.inl rfl)) (pgs_cons (pg_name (i := 10) nd rfl (.inl rfl)) pgs_nil)))) (pss_one (L2N.ps_raise rfl (L2N.takes_of rfl rfl rfl rfl) (SupI.pmk_oexN nc.t iN tN GI hrI bI pass0 (by rfl) gN (pa_cons (pv 11) (pa_cons (pv 10) pa_nil)))))) pss_nil)
        (pss_one (ps_if (pt_cmpR op_ne (pv 8) pe_int (nomark _)) (pss_cons (ps_set (i := 2) nd rfl (.inl rfl) (pe_callTy call_tupleN rfl mt boot_tuple (pa_cons (pe_lc (own := [("letter", 14), ("many", 15)]) (g := gTup K 2 (gCons (gName 14) (gCons (gName 15) gNil))) (tt := tYes) rfl nd (pi_tup (pv 9)) (blkOk_by (N := scSoN) (sc := defScope sSolved) (by decide +kernel)) (fun _ _ _ _ _ => by exact pg_tup rfl (pgs_cons (pg_name (i := 14) nd rfl (Or.inl rfl)) (pgs_cons (pg_name (i := 15) nd rfl (Or.inl rfl)) pgs_nil))) (fun _ _ _ _ _ => pts_nil) (fun _ _ _ _ _ => pe_tup (pa_cons (pv 14) (pa_cons (pe_op op_fdivWN (pv 15) (pe_un un_neg (pv 8))) pa_nil)))) pa_nil))) (pss_one (ps_expr (pe_bm PySem.F.plainAttrs_list PySem.F.slot_list_append PySem.F.type_list_append mt_append (pv 5) (pa_cons (pe_make MS GS hrS (by rfl) gS bS .nil pass0 (pa_cons (pv 6) (pa_cons (show PE _ _ (tFld K (tBM0 K _ rPop (tVar 4)) "stands") from pe_fld (pe_bm0 PySem.F.plainAttrs_list PySem.F.slot_list_pop PySem.F.type_list_pop mt_pop (pv 4)) rfl) (pa_cons (pv 8) (pa_cons (pv 2) pa_nil))))) pa_nil))))) pss_nil)))))))
      (pss_cons (ps_setLc (i := 12) rfl nd rfl rfl rfl (own := [("number", 6)]) (g := gName 6) (tt := tYes) (pi_range1 (by rfl) mr (pa_cons (pe_callB call_len_seq (by rfl) ml PySem.boot_len (pa_cons (pv 4) pa_nil)) pa_nil)) (blkOk_by (N := scSoN) (sc := defScope sSolved) (by decide +kernel)) (fun _ _ _ _ _ => pg_name (i := 6) nd rfl (Or.inl rfl)) (fun _ _ _ _ _ => pts_nil) (fun _ _ _ _ _ => pe_op op_add_str pe_str (pe_callTy call_str_int rfl ms PySem.Pv.boot_str (pa_cons (pv 6) pa_nil))))
      (pss_cons (ps_set (i := 13) nd rfl (.inl rfl) (pe_call GT hrT (by rfl) gT kT bT .nil pass0 (pa_cons (pv 1) (pa_cons (pv 5) (pa_cons (pv 4) (pa_cons (pv 12) pa_nil))))))
      (pss_one (ps_ret (pe_tup (pa_cons (pv 13) (pa_cons (pe_dc (own := [("name", 17), ("unknown", 16)]) (g := gTup K 2 (gCons (gName 17) (gCons (gName 16) gNil))) (tt := tYes) rfl nd (pi_zip (by rfl) mz (pa_cons (pv 12) (pa_cons (pv 4) pa_nil))) (blkOk_by (N := scSoN) (sc := defScope sSolved) (by decide +kernel)) (fun _ _ _ _ _ => by exact pg_tup rfl (pgs_cons (pg_name (i := 17) nd rfl (Or.inl rfl)) (pgs_cons (pg_name (i := 16) nd rfl (Or.inl rfl)) pgs_nil))) (fun _ _ _ _ _ => pts_nil) (fun _ _ _ _ _ => pv 17) (fun _ _ _ _ _ => (pe_call GM hrM (by rfl) gM kM bM .nil pass0 (pa_cons (pv 1) (pa_cons (show PE _ _ (tFld K (tVar 16) "made") from pe_fld (pv 16) rfl) pa_nil))))) pa_nil))))))))))), ?_⟩
    have kS : sizeLine = 16777216 := sizeLine_eq
    have ll := si.ll
    have l32 := si.l32
    have mll := si.ml
    have pm := si.m
    have pml := pm.length
    -- rows
    refine ⟨_, rfl, a, rfl, ⟨_, SqL.of si.a⟩, fun rl nrl => ?_⟩
    refine lc_list (xs := mads.map V.ref) (fun i H' => Same H H' ∧ ∃ rads : List Addr, H' rl = some (.lst (rads.map V.ref)) ∧ Paired (fun p r => H' p = some (.lst (r.map V.int)) ∧ p ≠ rl) rads ((mm.map fun m => powersOf m ls).take i)) ⟨same_new nrl, [], upd_same, .nil⟩ (fun i H' _ z => SqL.of (z.1 _ _ si.a)) ?_ ?_
    · rintro i x H2 hx ⟨sm, rads, hD, pr⟩
      obtain ⟨p, hp, rfl⟩ := at_map hx
      obtain ⟨m, hm, hms⟩ := paired_ix pm hp
      obtain ⟨k1, k2, k3, k4⟩ := si.mo m (List.mem_of_getElem? hm)
      have rdl := pr.length
      rw [List.length_take, List.length_map] at rdl
      refine ⟨rfl, ?_⟩
      refine ⟨_, rfl, _, rfl, ?_⟩
      refine ⟨p, b, m, ls, rfl, hms.same sm, k1, k2, sm _ _ si.l, by omega, fun H3 r s3 nr hr3 => ?_⟩
      have hD3 := s3 _ _ hD
      have rne : r ≠ rl := fun z => by rw [z, hD] at nr; cases nr
      refine ⟨_, hD3, ?_, same_upd (sm.trans s3) nrl, rads ++ [r], ?_, ?_⟩
      · rw [List.length_map]
        omega
      · rw [upd_same, List.map_append]
        rfl
      · have em : (mm.map fun m => powersOf m ls)[i]? = some (powersOf m ls) := by rw [List.getElem?_map, hm]; rfl
        rw [take_more em]
        exact Paired.snoc (Paired.mono (fun p r z => ⟨by rw [upd_ne z.2]; exact s3 _ _ z.1, z.2⟩) pr) ⟨by rw [upd_ne rne]; exact hr3, rne⟩
    rintro H1 ⟨s1, rads, hrl, prr⟩
    have e1 : (mm.map fun m => powersOf m ls).take (mads.map V.ref).length = mm.map fun m => powersOf m ls := by
      rw [List.take_of_length_le]
      rw [List.length_map, List.length_map, pml]
      exact Nat.le_refl _
    rw [e1] at prr
    have x1 : Sx H H1 := Ux.of s1
    have tb1 := tb.ext s1
    -- unknowns
    refine ⟨_, rfl, b, _, rfl, .inl (SqL.of (s1 _ _ si.l)), _, rfl, ?_⟩
    have lml : (ls.map V.str).length = N := by rw [List.length_map]; exact ll
    refine ⟨by omega, by omega, fun ul nul => ?_⟩
    refine lc_range (n := ((ls.map V.str).length : Int).toNat) (fun i H' => Same H1 H' ∧ ∃ ps : List Addr, H' ul = some (.lst (ps.map V.ref)) ∧ ps.Nodup ∧ (∀ p ∈ ps, H1 p = none) ∧ Paired (fun p c => UnkAt C H' p c.1 c.2) ps ((unitC N).take i)) ⟨same_new nul, [], upd_same, List.nodup_nil, fun p hp => absurd hp List.not_mem_nil, .nil⟩ ?_ ?_
    · rintro i H2 hi ⟨sm, ps, hD, pnd, pne, pr⟩
      have hi : i < N := by omega
      have ul2 := pr.length
      rw [List.length_take, List.length_map, List.length_range] at ul2
      refine ⟨rfl, ?_⟩
      refine ⟨_, rfl, _, rfl, b, _, rfl, .inl (SqL.of (sm _ _ (s1 _ _ si.l))), ?_⟩
      intro x dx nx ndx nex
      have h0 : (0 : Int) + (i : Int) = ((i : Nat) : Int) := Int.zero_add _
      refine ⟨x, dx, i, N, ?_, upd_same, by omega, fun H4 kp hu => ⟨rfl, ?_⟩⟩
      · show [V.ref x, V.int (0 + (i : Int)), V.int ((ls.map V.str).length : Int)] = _
        rw [h0, lml]
      have s4 : Same H2 H4 := Same.made nx ndx fun b o e n => kp b o n e
      have hD4 := s4 _ _ hD
      have xul : x ≠ ul := fun z => by rw [z, hD] at nx; cases nx
      have n1 : ∀ {p : Nat}, unitL p N ≠ [] := fun {p} z => by
        have := unit_len p N
        rw [z] at this
        have : 0 = N := this
        omega
      have nint : ∀ {c : Addr} {s : List Int}, s ≠ [] → H4 c = some (.lst (s.map V.int)) → upd H4 ul (.lst (ps.map V.ref ++ [V.ref x])) c = some (.lst (s.map V.int)) := fun {c s} ns e => by
        refine fne hD4 e fun z => ?_
        have z := HO.lst.inj z
        cases s with
        | nil => exact ns rfl
        | cons y ys =>
          cases ps with
          | nil => cases z
          | cons a l => exact absurd (List.cons.inj z).1 (fun e => nomatch e)
      have mv : ∀ {p : Addr} {k : Nat}, UnkAt C H4 p (unitL k N) (unitL k N) → UnkAt C (upd H4 ul (.lst (ps.map V.ref ++ [V.ref x]))) p (unitL k N) (unitL k N) := fun {p k} u => by
        obtain ⟨dx, sa, ma, h1, h2, h3⟩ := u
        exact ⟨dx, sa, ma, fne hD4 h1 (fun z => nomatch z), nint n1 h2, nint n1 h3⟩
      have nH1 : H1 x = none := sm.free nx
      refine ⟨_, hD4, ?_, same_upd (sm.trans s4) nul, ps ++ [x], ?_, ?_, fun p hp => ?_, ?_⟩
      · rw [List.length_map]
        omega
      · rw [upd_same, List.map_append]
        rfl
      · rw [List.nodup_append]
        refine ⟨pnd, List.pairwise_singleton _ _, fun a ha b hb e => ?_⟩
        rw [List.mem_singleton.mp hb] at e
        rw [e] at ha
        obtain ⟨k, hk⟩ := List.mem_iff_getElem?.mp ha
        obtain ⟨c, _, dx', _, _, e2, _⟩ := paired_ix pr hk
        rw [nx] at e2
        cases e2
      · rcases mem_snoc hp with hp | rfl
        · exact pne p hp
        · exact nH1
      · have ec : (unitC N)[i]? = some (unitL i N, unitL i N) := by
          rw [List.getElem?_map, List.getElem?_range hi]
          rfl
        rw [take_more ec]
        refine Paired.snoc (paired_of pr.length fun k p c hp hc => ?_) (mv hu)
        obtain ⟨c', hc', u⟩ := paired_ix pr hp
        rw [hc] at hc'
        cases hc'
        obtain ⟨k', hk', rfl⟩ := List.mem_map.mp (List.mem_of_mem_take (List.mem_of_getElem? hc))
        exact mv (u.keep (fun x e _ => s4 _ _ e) fun c xs e => s4 _ _ e)
    rintro H2 ⟨s2, ps0, hul, pnd, pne, pru⟩
    have e2 : (unitC N).take ((ls.map V.str).length : Int).toNat = unitC N := by
      rw [lml, Int.toNat_natCast, List.take_of_length_le]
      rw [List.length_map, List.length_range]
      exact Nat.le_refl _
    rw [e2] at pru
    have uk0 : UkL C H2 ul ps0 (unitC N) := ⟨hul, pnd, pru⟩
    -- settled
    refine ⟨Nat.zero_le _, fun tl ntl => ?_⟩
    have s3 : Same H2 (upd H2 tl (.lst [])) := same_new ntl
    have htl : upd H2 tl (.lst []) tl = some (.lst ([].map V.ref)) := upd_same
    have uk3 := uk0.same s3
    have tlu : ul ≠ tl := ne_of_none hul ntl
    have ntl1 : H1 tl = none := s2.free ntl
    have x3 : Sx H1 (upd H2 tl (.lst [])) := Ux.of (s2.trans s3)
    have tb3 := (tb1.ext s2).ext s3
    generalize upd H2 tl (.lst []) = H3 at htl uk3 x3 tb3 ⊢
    have hrl3 := x3.lst hrl
    refine ⟨_, rfl, rl, _, rfl, SqL.of hrl3, for_it walk_enum (fun i σ H' => ∃ (v2 v6 v7 v8 v9 v10 : Option V) (ps qs : List Addr) (sg : List (Stl × List Int)) (cs : List Col), σ = [some (.ref a), some (.ref b), v2, some (.ref rl), some (.ref ul), some (.ref tl), v6, v7, v8, v9, v10, none, none, none, none, none, none, none, none] ∧ Sx H1 H' ∧ LamX.Tabs (brT pt) H' ∧ UkL C H' ul ps cs ∧ (∀ p ∈ ps, H1 p = none) ∧
        H' tl = some (.lst (qs.map V.ref)) ∧ Paired (SetAt D H') qs (sg.map (·.1)) ∧ Sg ls keys (rowsOf ls (mm.take i)) sg cs N ∧ J i sg cs ∧ cs.length ≤ N)
      ⟨none, none, none, none, none, none, ps0, [], [], unitC N, rfl, x3, tb3, uk3, pne, htl, .nil, sg_start ls keys N, si.j.j0, by rw [List.length_map, List.length_range]; exact Nat.le_refl _⟩ (fun i σ H' _ z => by obtain ⟨_, _, _, _, _, _, _, _, _, _, _, x, _⟩ := z; exact SqL.of (x.lst hrl)) ?_ ?_⟩
    · rintro i x σ H2 H4 hi ⟨v2, v6, v7, v8, v9, v10, ps, qs, sg, cs, rfl, xx, tbx, uk, pnx, htl, prs, hg, hj, hc⟩ ⟨T, y, v, rfl, hT, rfl, hy, hv⟩
      obtain rfl : V.int (i : Nat) = y := Option.some.inj hy
      obtain ⟨r, hrd, rfl⟩ := at_map hv
      obtain ⟨row, hrow, hr1, hrr⟩ := paired_ix prr hrd
      have him : i < mm.length := by
        have := (List.getElem?_eq_some_iff.mp hrow).1
        rwa [List.length_map] at this
      obtain ⟨m, hm⟩ : ∃ m, mm[i]? = some m := ⟨_, List.getElem?_eq_getElem him⟩
      rw [List.getElem?_map, hm] at hrow
      obtain rfl : powersOf m ls = row := Option.some.inj hrow
      have mmem := List.mem_of_getElem? hm
      obtain ⟨ma, hma, hms⟩ : ∃ ma, mads[i]? = some ma ∧ MsN H ma m := by
        obtain ⟨ma, hma⟩ : ∃ ma, mads[i]? = some ma := ⟨_, List.getElem?_eq_getElem (by omega)⟩
        obtain ⟨m', hm', h⟩ := paired_ix pm hma
        rw [hm] at hm'
        cases hm'
        exact ⟨ma, hma, h⟩
      obtain ⟨k1, k2, k3, k4⟩ := si.mo m mmem
      have lrow : (powersOf m ls).length = N := by rw [rows_len]; exact ll
      have brow : SmL 48000 (powersOf m ls) := fun x hx => by
        unfold powersOf at hx
        obtain ⟨z, hz, rfl⟩ := List.mem_map.mp hx
        by_cases e : at0 m z = 0
        · rw [e]
          exact Nat.pow_pos (by decide)
        · exact k3 _ (at0_mem e)
      have sT := same_new (o := .tup [V.int (i : Nat), V.ref r]) hT
      refine ⟨T, _, rfl, SqT.of upd_same, rfl, _, _, rfl, _, _, rfl, rfl, ?_⟩
      have xx4 : Sx H1 (upd H2 T (.tup [V.int (i : Nat), V.ref r])) := xx.same sT
      have tb4 := tbx.ext sT
      have uk4 := uk.same sT
      have htl4 := sT _ _ htl
      have prs4 : Paired (SetAt D (upd H2 T (.tup [V.int (i : Nat), V.ref r]))) qs (sg.map (·.1)) := Paired.mono (fun _ _ z => z.same sT) prs
      generalize upd H2 T (.tup [V.int (i : Nat), V.ref r]) = H4 at xx4 tb4 uk4 htl4 prs4 ⊢
      obtain ⟨M, M', W, F0, F0', rb, hnext⟩ : ∃ M M' W F0 F0', RowB (powersOf m ls) cs M M' W F0 F0' ∧ ((∀ c ∈ cs, dotL (powersOf m ls) c.1 = 0) ∨ ∀ d, Shf cs d → ColN N d → (∀ c ∈ d, LeL F0 c.1 ∧ LeL F0' c.2) →
          ∀ (l : Nat) (c : Col) (t : Stl), d[l]? = some c → Sm bt (dotL (powersOf m ls) c.1) ∧ (t.s = c.1 → t.sh = dotL (powersOf m ls) c.1 → (∀ p ∈ t.m, p.2.natAbs ≤ (restAt m ls (powersOf m ls) (sg.map (·.1)) p.1).natAbs) → J (i + 1) (sg ++ [(t, c.2)]) (d.eraseIdx l))) := by
        rcases Classical.em (∃ c ∈ cs, dotL (powersOf m ls) c.1 ≠ 0) with hx | hx
        · obtain ⟨M, M', W, F0, F0', rb, hnext⟩ := si.j.jr i m sg cs hm hj hg hx
          exact ⟨M, M', W, F0, F0', rb, .inr hnext⟩
        · have h0 : ∀ c ∈ cs, dotL (powersOf m ls) c.1 = 0 := fun c hc => by
            by_cases z : dotL (powersOf m ls) c.1 = 0
            · exact z
            · exact absurd ⟨c, hc, z⟩ hx
          exact ⟨_, _, _, _, _, rowB_nought h0 (si.j.jb i sg cs hj).1 (by omega), .inl h0⟩
      -- share
      refine ⟨_, rfl, _, rfl, ?_⟩
      refine ⟨r, ul, powersOf m ls, ps, cs, N, cs.length, M, M', W, F0, F0', rfl, ⟨xx4.lst hr1, lrow, by omega, uk4, fun c hc => hg.cn c (List.mem_append_right _ hc), rfl, by omega, brow, rb.w1, rb.pw, rb.st, rb.f1, rb.f2, rb.f3, rb.b1, rb.b2, rb.bw⟩, tb4, fun H5 d cols' ps' res ux5 tb5 shf cnd bd uk5 bro bd0 => ?_⟩
      have pnl : ∀ c ∈ ul :: ps, H1 c = none := fun c hc => by
        rcases List.mem_cons.mp hc with rfl | hc
        · exact nul
        · exact pnx c hc
      have xx5 := sx_ux xx4 ux5 pnl
      have lst5 : ∀ {c : Addr} {xs : List V}, c ≠ ul → H4 c = some (.lst xs) → H5 c = some (.lst xs) := fun {c xs} n e => ux5 c _ (fun z => by
        rcases List.mem_cons.mp z with rfl | z
        · exact n rfl
        · exact uk4.notL e z) (fun _ z => nomatch z) e
      have htl5 := lst5 tlu.symm htl4
      have len1 : ∀ x ∈ sg.map (·.1), x.s.length = N := hg.lens.1
      have prs5 : Paired (SetAt D H5) qs (sg.map (·.1)) := paired_of prs4.length fun k p x hp hx => by
        obtain ⟨x', hx', z⟩ := paired_ix prs4 hp
        rw [hx] at hx'
        cases hx'
        exact z.ux ux5 uk4 (hg.ne x (List.mem_of_getElem? hx))
      -- rest
      have jb := si.j.jb i sg cs hj
      have sgl : sg.length ≤ 60 := by
        have := hg.le
        rw [List.length_map, List.length_take] at this
        omega
      have kyl : ∀ g ∈ sg, g.1.m.length ≤ 100 := fun g hgm => by
        obtain ⟨y1, y2⟩ := hg.ky g hgm
        exact Nat.le_trans (keys_le y1 y2) si.kl
      have setk : ∀ x ∈ sg.map (·.1), ∀ p ∈ x.m, p.1 ∈ keys := fun x hx p hp => by
        obtain ⟨g, hgm, rfl⟩ := List.mem_map.mp hx
        exact (hg.ky g hgm).2 p hp
      have hms5 := (hms.sx x1).sx xx5
      refine ⟨_, rfl, _, rfl, a, _, _, _, rfl, rfl, SqL.of (xx5.lst (s1 _ _ si.a)), atI_nat (by rw [List.getElem?_map, hma]; rfl), _, rfl, _, rfl, _, rfl, ?_⟩
      refine ⟨ma, b, r, tl, m, ls, powersOf m ls, qs, sg.map (·.1), N, 48000, rfl, hms5, xx5.lst (s1 _ _ si.l), xx5.lst hr1, htl5, prs5, lrow, by omega, brow, by decide, by rw [List.length_map]; omega, fun x hx => ?_, fun p hp => (k3 p hp).mono (by decide), ?_, fun H6 rp rs s6 nrp hrs crs ars => ?_⟩
      · obtain ⟨g, hgm, rfl⟩ := List.mem_map.mp hx
        obtain ⟨y1, y2⟩ := jb.2 g hgm
        exact ⟨len1 _ hx, y1.mono (by decide), (si.j.js i m sg cs mmem hj (fun g hg' => len1 _ (List.mem_map.mpr ⟨g, hg', rfl⟩)) g hgm).mono (by decide), fun p hp => (y2 p hp).mono (by decide)⟩
      · have e := sum_le (fun x : Stl => x.m.length) 100 (sg.map (·.1)) fun x hx => by
          obtain ⟨g, hgm, rfl⟩ := List.mem_map.mp hx
          exact kyl g hgm
        rw [List.length_map] at e
        omega
      have xx6 := xx5.same s6
      have tb6 := tb5.ext s6
      have uk6 := uk5.same s6
      have htl6 := s6 _ _ htl5
      have prs6 : Paired (SetAt D H6) qs (sg.map (·.1)) := Paired.mono (fun _ _ z => z.same s6) prs5
      have rsk : ∀ p ∈ rs, p.1 ∈ keys := fun p hp => rest_keys k4 setk (j := p.1) (by rw [← ars, at0_key crs hp]; exact crs.nz p hp)
      have rsl : rs.length ≤ 100 := Nat.le_trans (keys_le crs.ris.nodup rsk) si.kl
      -- by
      have hg5 := hg.shf shf
      refine ⟨_, rfl, _, rfl, ?_⟩
      refine ⟨rp, res, rs, rfl, hrs, crs.nz, fun z0 hdv => ?_, fun by' by2 hsh hex => ?_⟩
      · refine ⟨_, rfl, rfl, _, rfl, iteF ?_⟩
        refine ⟨_, rfl, rfl, _, rfl, ?_⟩
        have htk : mm.take (i + 1) = mm.take i ++ [m] := take_more hm
        have hrt : rowsOf ls (mm.take (i + 1)) = rowsOf ls (mm.take i) ++ [(m, powersOf m ls)] := by
          unfold rowsOf
          rw [htk, List.map_append]
          rfl
        rcases bro with ⟨re0, rfl, rfl, hd0⟩ | ⟨rn, l, pu, c, hpl, hdl, rfl, rfl, hdr, hd0⟩
        · rw [show (!decide (V.int res = V.int 0)) = false by rw [re0]; rfl]
          refine iteF ?_
          refine ⟨_, _, _, _, _, _, ps', qs, sg, cols', rfl, xx6, tb6, uk6, pnx, htl6, prs6, ?_, by rw [bd0 re0]; exact si.j.jn i sg cs hj, by rw [shf.len]; exact hc⟩
          rw [hrt]
          refine hg5.none lrow hd0 fun j => ?_
          rw [← ars, z0 re0]
          rfl
        · rw [show (!decide (V.int res = V.int 0)) = true by rw [decide_eq_false fun z => rn (V.int.inj z)]; rfl]
          refine iteT ?_
          have hnext := hnext.resolve_left fun h0 => rn (by
            rw [← hdr]
            exact shf_nought lrow shf (fun c hc => hg.cn c (List.mem_append_right _ hc)) h0 c (List.mem_of_getElem? hdl))
          have jl := hnext d shf cnd bd
          have sres : Sm 7990 res := by
            rw [← hdr]
            exact (jl l c ⟨0, [], 0, []⟩ hdl).1.mono si.j.hb
          obtain ⟨ts, tn, ptm⟩ := hrs
          have tsl := ptm.length
          refine ⟨_, rfl, rp, rfl, ⟨_, TupN.sq tn⟩, fun D1 nD1 => ?_⟩
          refine lc_tup (xs := ts.map V.ref) (fun k H7 => Same H6 H7 ∧ ∃ us : List Addr, H7 D1 = some (.lst (us.map V.ref)) ∧ Paired (PrAt H7) us ((ovW res rs).take k)) ⟨same_new nD1, [], upd_same, .nil⟩ (fun k H7 _ z => TupN.sq (by obtain ⟨o, e, d⟩ := tn; exact ⟨o, z.1 _ _ e, d⟩)) ?_ ?_
          · rintro k x H7 hx ⟨s7, us, hD, pr⟩
            obtain ⟨t, ht, rfl⟩ := at_map hx
            obtain ⟨p, hp, htp⟩ := paired_ix ptm ht
            have htp : H6 t = some (.tup [.str p.1, .int p.2]) := htp
            have usl := pr.length
            rw [List.length_take] at usl
            have ovl : (ovW res rs).length = rs.length := by unfold ovW; rw [List.length_map]
            refine ⟨t, _, rfl, SqT.of (s7 _ _ htp), rfl, _, _, rfl, _, _, rfl, rfl, rfl, ?_⟩
            refine ⟨_, rfl, _, rfl, _, rfl, ?_⟩
            have em : (ovW res rs)[k]? = some (p.1, p.2.fdiv (-res)) := by
              unfold ovW
              rw [List.getElem?_map, hp]
              rfl
            refine ⟨_, rfl, _, _, rfl, rfl, sres.neg.div (by omega) (by decide), ?_⟩
            refine ⟨(by show 2 ≤ sizeLine; decide), fun t2 n2 => ?_⟩
            have s2' := same_new (o := .tup [V.str p.1, V.int (p.2.fdiv (-res))]) n2
            have hD2 := s2' _ _ hD
            refine ⟨_, hD2, ?_, same_upd (s7.trans s2') nD1, us ++ [t2], ?_, ?_⟩
            · rw [List.length_map]
              omega
            · rw [upd_same, List.map_append]
              rfl
            · rw [take_more em]
              exact pr_list hD2 (Paired.snoc (pr_same s2' pr) upd_same)
          rintro H7 ⟨s7, us, hD, pr⟩
          have e7 : (ovW res rs).take (ts.map V.ref).length = ovW res rs := by
            rw [List.take_of_length_le]
            unfold ovW
            rw [List.length_map, List.length_map, tsl]
            exact Nat.le_refl _
          rw [e7] at pr
          refine ⟨D1, _, rfl, SqL.of hD, fun mo o nmo dn => ?_⟩
          have s8 := s7.trans (same_new (o := .frz o (.tup (us.map V.ref))) nmo)
          have hmo : MsN (upd H7 mo (.frz o (.tup (us.map V.ref)))) mo (ovW res rs) := ⟨us, ⟨o, upd_same, dn⟩, pr_same (same_new nmo) pr⟩
          have xx8 := xx6.same s8
          have tb8 := tb6.ext s8
          have uk8 := uk6.same s8
          have htl8 := s8 _ _ htl6
          have prs8 : Paired (SetAt D (upd H7 mo (.frz o (.tup (us.map V.ref))))) qs (sg.map (·.1)) := Paired.mono (fun _ _ z => z.same s8) prs6
          generalize upd H7 mo (.frz o (.tup (us.map V.ref))) = H8 at hmo xx8 tb8 uk8 htl8 prs8 ⊢
          -- settled.append(Settled(number, unknowns.pop().stands, share, measure))
          have hpop : ((ps.eraseIdx l ++ [pu]).map V.ref)[((ps.eraseIdx l ++ [pu]).map V.ref).length - 1]? = some (V.ref pu) := by
            rw [List.map_append, List.length_append, List.getElem?_append_right (by show _ ≤ _ + 1 - 1; omega)]
            show [V.ref pu][_ + 1 - 1 - _]? = _
            rw [Nat.add_sub_cancel, Nat.sub_self]
            rfl
          have hdrop : ((ps.eraseIdx l ++ [pu]).map V.ref).dropLast = (ps.eraseIdx l).map V.ref := by
            rw [List.map_append]
            exact List.dropLast_concat
          obtain ⟨uk9, pu9⟩ := uk8.pop
          have set9 : Paired (SetAt D (upd H8 ul (.lst ((ps.eraseIdx l).map V.ref)))) qs (sg.map (·.1)) := paired_of prs8.length fun k p x hp hx => by
            obtain ⟨x', hx', z⟩ := paired_ix prs8 hp
            rw [hx] at hx'
            cases hx'
            exact z.put uk8.l (hg.ne x (List.mem_of_getElem? hx))
          have hmo9 : MsN (upd H8 ul (.lst ((ps.eraseIdx l).map V.ref))) mo (ovW res rs) := hmo.lst uk8.l
          have xx9 : Sx H1 (upd H8 ul (.lst ((ps.eraseIdx l).map V.ref))) := sx_upd xx8 nul
          have tb9 := tabs_upd (o := .lst ((ps.eraseIdx l).map V.ref)) tb8 uk8.l (fun _ e => nomatch e) lst_code
          have htl9 : upd H8 ul (.lst ((ps.eraseIdx l).map V.ref)) tl = some (.lst (qs.map V.ref)) := by rw [upd_ne tlu.symm]; exact htl8
          obtain ⟨dx1, sa1, ma1, f1, f2, f3⟩ := pu9
          refine ⟨_, rfl, .inl ⟨rfl, _, SqL.of htl8⟩, _, rfl, _, rfl, .inl ⟨rfl, _, SqL.of uk8.l⟩, ul, _, _, rfl, rfl, uk8.l, hpop, ?_⟩
          rw [hdrop]
          generalize upd H8 ul (.lst ((ps.eraseIdx l).map V.ref)) = H9 at uk9 set9 hmo9 xx9 tb9 htl9 f1 f2 f3 ⊢
          refine ⟨pu, C, dx1, _, _, rfl, f1, cu.cl, cu.nS, fldsU_s _ _, _, rfl, _, rfl, ?_⟩
          intro x dx nx ndx nex
          refine ⟨x, dx, _, sa1, res, mo, rfl, upd_same, ⟨rfl, ?_⟩⟩
          rw [upd_upd]
          have s10 : Same H9 (upd (upd H9 dx (.own x)) x (.ins D dx (fldsS (i : Nat) sa1 res mo))) := Same.made (C := D) nx ndx fun b o e n => by
            rw [upd_ne n] at e ⊢
            exact e
          have hx10 : upd (upd H9 dx (.own x)) x (.ins D dx (fldsS (i : Nat) sa1 res mo)) x = some (.ins D dx (fldsS (i : Nat) sa1 res mo)) := upd_same
          generalize upd (upd H9 dx (.own x)) x (.ins D dx (fldsS (i : Nat) sa1 res mo)) = H10 at s10 hx10 ⊢
          have htl10 := s10 _ _ htl9
          have qsl := prs.length
          rw [List.length_map] at qsl
          refine ⟨tl, _, .ref x, rfl, rfl, htl10, by rw [List.length_map]; omega, ?_⟩
          have hst : SetAt D H10 x ⟨i, c.1, res, ovW res rs⟩ := ⟨dx, sa1, mo, hx10, s10 _ _ f2, hmo9.same s10⟩
          have hnew := hg5.last (m := m) lrow hdl hdr hd0 rn crs ars hdv rsk (t := ⟨i, c.1, res, ovW res rs⟩) rfl rfl rfl (by rw [List.length_map, List.length_take, Nat.min_eq_left (by omega)])
          have cne : c.1 ≠ [] := hnew.ne _ (by rw [List.map_append]; exact List.mem_append_right _ (List.mem_singleton.mpr rfl))
          have Npos : N ≠ 0 := fun z => by
            have := (cnd c (List.mem_of_getElem? hdl)).1
            rw [z] at this
            exact cne (List.length_eq_zero_iff.mp this)
          have erl : (sg ++ [((⟨i, c.1, res, ovW res rs⟩ : Stl), c.2)]).map (·.1) = sg.map (·.1) ++ [⟨i, c.1, res, ovW res rs⟩] := by
            rw [List.map_append]
            rfl
          refine ⟨_, _, _, _, _, _, ps.eraseIdx l, qs ++ [x], sg ++ [(⟨i, c.1, res, ovW res rs⟩, c.2)], d.eraseIdx l, rfl, sx_upd (xx9.same s10) ntl1, tabs_upd (tb9.ext s10) htl10 (fun _ e => nomatch e) lst_code,
            (uk9.same s10).put htl10 tlu fun y hy => ?_, fun p hp => pnx p (List.mem_of_mem_eraseIdx hp), ?_, ?_, ?_, (jl l c _ hdl).2 rfl hdr.symm fun p hp => ?_, ?_⟩
          · obtain ⟨n1, n2⟩ := cnd y (List.mem_of_mem_eraseIdx hy)
            exact ⟨fun z => Npos (by rw [← n1, z]; rfl), fun z => Npos (by rw [← n2, z]; rfl)⟩
          · rw [upd_same, List.map_append]
            rfl
          · rw [erl]
            exact Paired.snoc (paired_of (set9.length) fun k p y hp hy => by
              obtain ⟨y', hy', z⟩ := paired_ix set9 hp
              rw [hy] at hy'
              cases hy'
              exact (z.same s10).put htl10 (hg.ne y (List.mem_of_getElem? hy))) (hst.put htl10 cne)
          · rw [hrt]
            exact hnew
          · obtain ⟨q', hq', rfl⟩ := List.mem_map.mp hp
            show (q'.2.fdiv (-res)).natAbs ≤ (restAt m ls (powersOf m ls) (sg.map (·.1)) q'.1).natAbs
            rw [← ars, at0_key crs hq']
            obtain ⟨k, hk⟩ := hdv q' hq'
            rw [hk, show res * k = -(res * (-k)) by rw [Int.mul_neg, Int.neg_neg], ovr_one rn, Int.natAbs_neg, Int.natAbs_neg, Int.natAbs_mul, Int.natAbs_neg]
            exact Nat.le_mul_of_pos_left _ (by omega)
          · have := List.length_eraseIdx_le d l
            rw [shf.len] at this
            omega
      · obtain ⟨p, hp, hnd⟩ := hex
        have ep : p.2 = restAt m ls (powersOf m ls) (sg.map (·.1)) p.1 := by rw [← ars, at0_key crs hp]
        refine ⟨_, rfl, rfl, _, rfl, ?_⟩
        rw [show (!decide (V.int by' = V.int 0)) = true by rw [decide_eq_false fun z => by have := V.int.inj z; omega]; rfl]
        refine iteT ?_
        have mdc : (∀ c ∈ d, by' ∣ dotL (powersOf m ls) c.1) ∧ by'.natAbs * shP sg < 2 ^ 7900 := by
          rcases bro with ⟨re0, rfl, rfl, hd0⟩ | ⟨rn, l, pu, c, hpl, hdl, rfl, rfl, hdr, hd0⟩
          · refine ⟨fun c hc => by rw [hd0 c hc]; exact Int.dvd_zero _, ?_⟩
            rcases hsh with ⟨_, p2, hp2, hb2⟩ | hsh
            · have ep2 : p2.2 = restAt m ls (powersOf m ls) (sg.map (·.1)) p2.1 := by rw [← ars, at0_key crs hp2]
              rw [ep2] at hb2
              exact Nat.lt_of_le_of_lt (Nat.mul_le_mul_right _ hb2) (bok.r i m sg cs p2.1 hm hj hg)
            · rw [re0] at hsh
              exact absurd hsh (by show ¬ by' = 0; omega)
          · have eb : by' = (res.natAbs : Nat) := by
              rcases hsh with hsh | hsh
              · exact absurd hsh.1 rn
              · exact hsh
            have hnext := hnext.resolve_left fun h0 => rn (by
              rw [← hdr]
              exact shf_nought lrow shf (fun c hc => hg.cn c (List.mem_append_right _ hc)) h0 c (List.mem_of_getElem? hdl))
            have jl := (hnext d shf cnd bd l c ⟨0, c.1, res, []⟩ hdl).2 rfl hdr.symm (fun p hp => absurd hp List.not_mem_nil)
            have b1 := bok.s _ _ _ jl
            have e1 : shP (sg ++ [((⟨0, c.1, res, []⟩ : Stl), c.2)]) = shP sg * res.natAbs := shP_snoc
            rw [e1, Nat.mul_comm] at b1
            refine ⟨fun y hy => ?_, by rw [eb, Int.natAbs_natCast]; exact b1⟩
            obtain ⟨k, hk⟩ := List.mem_iff_getElem?.mp hy
            by_cases kl : k = l
            · rw [kl, hdl] at hk
              cases hk
              rw [hdr, eb]
              exact Int.natAbs_dvd.mpr (Int.dvd_refl _)
            · rw [hd0 k y hk kl]
              exact Int.dvd_zero _
        refine ⟨_, rfl, _, rfl, _, rfl, _, rfl, ?_⟩
        have hrl6 := Sx.lst (show Sx H1 H6 from xx6) hrl
        have sk1 : ∀ m ∈ mm, SmL 48000 (powersOf m ls) := fun m' hm' x hx => by
          unfold powersOf at hx
          obtain ⟨z, hz, rfl⟩ := List.mem_map.mp hx
          by_cases e : at0 m' z = 0
          · rw [e]
            exact Nat.pow_pos (by decide)
          · exact (si.mo m' hm').2.2.1 _ (at0_mem e)
        refine ⟨rl, tl, rads, mm, ls, keys, qs, sg, d, N, i, m, by', rfl, ⟨hrl6, Paired.mono (fun _ _ z => Sx.lst (show Sx H1 H6 from xx6) z.1) prr, htl6, prs6, hg5, hm, ll, by omega, by omega, by2, mdc.1, sk1, fun g hgm => (jb.2 g hgm).1, fun m' hm' g hgm => si.j.js i m' sg cs hm' hj (fun g hg' => len1 _ (List.mem_map.mpr ⟨g, hg', rfl⟩)) g hgm, mdc.2⟩, fun H7 t cl L Dd s7 ht hcl hshd Dle => ?_⟩
        obtain ⟨hsw, hwd⟩ := shd_shows ll hg5 hm (fun m hm => (si.mo m hm).1) by2 hshd si.kd (rsk p hp) (by rw [← ep]; exact hnd)
        have hW : ((wholeOf L : Nat) : Int).natAbs < 2 ^ 7990 := by
          have := Int.le_of_dvd hshd.ok.d0 hwd
          have := hshd.ok.d0
          exact Nat.lt_of_le_of_lt (show _ ≤ Dd.natAbs by omega) (Nat.lt_trans Dle (Nat.pow_lt_pow_right (by decide) (by decide)))
        have hcs : ∀ c ∈ cntL L (wholeOf L : Nat) mm.length, c.natAbs < 2 ^ 7990 := fun c hc => by
          obtain ⟨k, _, rfl⟩ := List.mem_map.mp hc
          obtain ⟨_, w1, _⟩ := whole_ok L fun p hp => (hshd.ok.r p hp).1.1
          exact Nat.lt_of_le_of_lt (cn_le (by omega) k hshd.ok.nd fun p hp => ⟨(hshd.ok.r p hp).1.1, w1 p hp, (hshd.ok.r p hp).2.2.1, (hshd.ok.r p hp).2.2.2⟩) hW
        refine ⟨t, _, rfl, SqT.of ht, rfl, _, _, rfl, _, _, rfl, rfl, ?_⟩
        refine ⟨_, rfl, _, rfl, (by show 2 ≤ 1000; decide), fun a' na => ?_⟩
        have cla : cl ≠ a' := fun z => by rw [z, na] at hcl; cases hcl
        refine ⟨a', cl, _, _, rfl, upd_same, (upd_ne cla).trans hcl, fun H8 nl d' keep nd' nnl dx nlx dnl hnl hx' hd' => ?_⟩
        have nd7 : H7 d' = none := by rwa [upd_ne dx] at nd'
        have xx7 := (show Sx H1 H6 from xx6).same s7
        refine ⟨rfl, d', _, hx', hd', nd7, ?_⟩
        refine qE _ d' nl _ _ (x1.trans fun c x _ tb' e => ?_) hsw hW hcs ?_ upd_same
        · have e7 := xx7 c x List.not_mem_nil tb' e
          have ca : c ≠ a' := fun z => by rw [z, na] at e7; cases e7
          have cd : c ≠ d' := fun z => by rw [z, nd7] at e7; cases e7
          rw [upd_ne cd, del_ne ca]
          exact keep _ _ ca (by rw [upd_ne ca]; exact e7)
        · rw [upd_ne dnl.symm, del_ne nlx]
          exact hnl
    · rintro σ H4 ⟨v2, v6, v7, v8, v9, v10, ps, qs, sg, cs, rfl, xx, tbx, uk, pnx, htl, prs, hg, hj, hc⟩
      have rdl := prr.length
      rw [List.length_map] at rdl
      have etk : mm.take (rads.map V.ref).length = mm := by
        rw [List.take_of_length_le]
        rw [List.length_map, rdl]
        exact Nat.le_refl _
      rw [etk] at hg
      rw [List.length_map, rdl] at hj
      have psl := uk.len
      -- names
      refine ⟨_, rfl, ul, _, rfl, .inl (SqL.of uk.l), _, rfl, ?_⟩
      rw [List.length_map]
      refine ⟨by omega, by omega, fun nl nnl => ?_⟩
      refine lc_range (n := (ps.length : Int).toNat) (fun i H' => Same H4 H' ∧ H' nl = some (.lst ((namesQ i).map V.str))) ⟨same_new nnl, upd_same⟩ ?_ ?_
      · rintro i H5 hi ⟨sm, hD⟩
        refine ⟨rfl, ?_⟩
        have hi : i < ps.length := by omega
        obtain ⟨n1, n2⟩ := nameQ_small i (by omega)
        have z0 : (0 : Int) + (i : Int) = ((i : Nat) : Int) := Int.zero_add _
        refine ⟨_, rfl, 0 + (i : Int), rfl, by rw [z0]; exact n1, ?_⟩
        rw [z0]
        refine ⟨_, _, rfl, rfl, by rw [one_len]; omega, ?_⟩
        refine ⟨_, hD, ?_, same_upd sm nnl, ?_⟩
        · rw [List.length_map, List.length_map, List.length_range]
          omega
        · rw [upd_same]
          unfold namesQ
          rw [List.range_succ, List.map_append, List.map_append]
          rfl
      rintro H5 ⟨s5, hnl⟩
      rw [Int.toNat_natCast, psl] at hnl
      have nql : (namesQ cs.length).length = cs.length := by rw [List.length_map, List.length_range]
      have xx5 : Sx H1 H5 := xx.same s5
      have tb5 := tbx.ext s5
      have uk5 := uk.same s5
      have prs5 : Paired (SetAt D H5) qs (sg.map (·.1)) := Paired.mono (fun _ _ z => z.same s5) prs
      have htl5 := s5 _ _ htl
      obtain ⟨jb1, jb2⟩ := si.j.jb _ sg cs hj
      have sgl : sg.length ≤ 60 := by
        have := hg.le
        rw [List.length_map] at this
        omega
      have hlets := (xx5.lst (s1 _ _ si.l))
      -- told
      refine ⟨_, rfl, _, rfl, _, rfl, _, rfl, ?_⟩
      refine ⟨b, tl, ul, nl, ls, qs, sg.map (·.1), ps, cs, namesQ cs.length, N, rfl, ⟨hlets, ll, by omega, si.nd, htl5, prs5, by rw [List.length_map]; omega, uk5, hnl, nql, names_nodup _, by omega, fun x hx => ?_, fun c hc' => ⟨hg.lens.2 c hc', (jb1 c hc').1.mono (by decide)⟩, ?_⟩, fun H6 tp ads tm s6 ntp nmt tmk tmt => ?_⟩
      · obtain ⟨g, hgm, rfl⟩ := List.mem_map.mp hx
        obtain ⟨y1, y2⟩ := jb2 g hgm
        exact ⟨hg.lens.1 _ hx, y1.mono (by decide), fun p hp => (y2 p hp).mono (by decide)⟩
      · have e := sum_le (fun x : Stl => x.m.length) 100 (sg.map (·.1)) fun x hx => by
          obtain ⟨g, hgm, rfl⟩ := List.mem_map.mp hx
          obtain ⟨y1, y2⟩ := hg.ky g hgm
          exact Nat.le_trans (keys_le y1 y2) si.kl
        rw [List.length_map] at e
        omega
      have uk6 := uk5.same s6
      have hnl6 := s6 _ _ hnl
      -- the unknowns' measures
      refine ⟨_, rfl, _, rfl, _, rfl, nl, ul, _, _, rfl, SqL.of hnl6, SqL.of uk6.l, fun ud nud => ?_⟩
      refine dc_it (walk_zip (n := cs.length) (by simp only [List.length_map, List.length_range]; omega)) (fun i H' => Same H6 H' ∧ ∃ (uds : List (Str × Addr)) (um : List (Str × Ms)), NmAt H' ud uds um ∧ um.map (·.1) = namesQ i ∧ ∀ (k : Nat) (z : Str × Ms) (c : Col), um[k]? = some z → cs[k]? = some c → Can z.2 ∧ ∀ j, at0 z.2 j = sumAt (ls.zip c.2) j)
        ⟨same_new nud, [], [], ⟨upd_same, .nil⟩, rfl, fun k z c h => by cases h⟩ (fun i H' _ z => ⟨SqL.of (z.1 _ _ hnl6), SqL.of (z.1 _ _ uk6.l)⟩) ?_ ?_
      · rintro i v H7 H8 hi ⟨s7, uds, um, hnm, hum, hut⟩ ⟨T, u, v', rfl, hT, rfl, hu, hv⟩
        obtain ⟨z, hz, rfl⟩ := at_map hu
        obtain ⟨p, hp, rfl⟩ := at_map hv
        rw [List.getElem?_map, List.getElem?_range hi] at hz
        obtain rfl : nameQ i = z := Option.some.inj hz
        have sT := same_new (o := .tup [V.str (nameQ i), V.ref p]) hT
        refine ⟨T, _, rfl, SqT.of upd_same, rfl, _, _, rfl, _, _, rfl, rfl, rfl, ?_⟩
        have s8 := s7.trans sT
        have uk8 := uk6.same s8
        obtain ⟨c, hc', dx, sa, ma, f1, f2, f3⟩ := paired_ix uk8.u hp
        have cm := List.mem_of_getElem? hc'
        have nm8 := hnm.same sT
        refine ⟨_, rfl, _, rfl, _, rfl, ?_⟩
        refine ⟨p, C, dx, _, _, rfl, f1, cu.cl, cu.nM, fldsU_m _ _, ?_⟩
        have hlet8 : upd H7 T (.tup [V.str (nameQ i), V.ref p]) b = some (.lst (ls.map V.str)) := s8 _ _ (s6 _ _ hlets)
        refine ⟨b, ma, ls, c.2, N, rfl, hlet8, f3, ll, (hg.cn c (List.mem_append_right _ cm)).2, by omega, (jb1 c cm).2.mono (by decide), fun H9 mp r s9 nmp hmr hcr har => ?_⟩
        have nm9 := nm8.same s9
        have adk : uds.map (·.1) = namesQ i := by rw [nmr_keys nm9.2]; exact hum
        have unz : nameQ i ∉ uds.map (·.1) := fun h => by
          rw [adk] at h
          obtain ⟨k, hk, e⟩ := List.mem_map.mp h
          have := nameQ_inj e
          have := List.mem_range.mp hk
          omega
        have udl : uds.length = i := by
          have e := congrArg List.length adk
          rw [List.length_map, List.length_map, List.length_range] at e
          exact e
        have ep := encG_put V.ref (nameQ i) mp uds (by rw [adk]; exact names_nodup i)
        rw [put_new unz] at ep
        refine ⟨encG V.ref uds, Sum.inr (nameQ i), rfl, nm9.1, by rw [encG_len]; omega, same_upd (s8.trans s9) nud, uds ++ [(nameQ i, mp)], um ++ [(nameQ i, r)], ⟨?_, ?_⟩, ?_, fun k z c' hz hc'' => ?_⟩
        · rw [upd_same, ep]
        · exact Paired.snoc (Paired.mono (fun _ _ h => ⟨h.1, msN_dict h.2 nm9.1⟩) nm9.2) ⟨rfl, msN_dict hmr nm9.1⟩
        · unfold namesQ at hum ⊢
          rw [List.map_append, hum, List.range_succ, List.map_append]
          rfl
        · have uml : um.length = i := by
            have e := congrArg List.length hum
            rw [List.length_map, List.length_map, List.length_range] at e
            exact e
          rcases Nat.lt_trichotomy k i with l | l | l
          · rw [List.getElem?_append_left (by omega)] at hz
            exact hut k z c' hz hc''
          · rw [List.getElem?_append_right (by omega), show k - um.length = 0 by omega] at hz
            cases hz
            rw [l, hc'] at hc''
            cases hc''
            exact ⟨hcr, har⟩
          · rw [List.getElem?_eq_none (by rw [List.length_append]; show um.length + 1 ≤ k; omega)] at hz
            cases hz
      rintro H7 ⟨s7, uds, um, hnm, hum, hut⟩
      refine ⟨(by show 2 ≤ sizeLine; decide), fun t nt => ?_⟩
      have s8 := same_new (o := .tup [V.ref tp, V.ref ud]) nt
      exact q _ t sg cs tm um (((x1.trans xx5).same s6).same (s7.trans s8)) ((tb5.ext s6).ext (s7.trans s8)) ⟨⟨tp, ud, ads, uds, upd_same, nmt.same (s7.trans s8), hnm.same s8, ne_of_none nmt.1 nud⟩, tmk, tmt, hum, hut, hg, hj, hc⟩

end
end MK


set_option Elab.async false
set_option linter.all false
set_option maxRecDepth 100000
set_option maxHeartbeats 4000000
namespace MK
open PySem PySem.Spec PyProof.Rows L2
/-! ### how far the numbers go, by how many are settled -/
def gm (K : Nat) : Nat → Nat
  | 0 => 1
  | i + 1 => 3 * gm K i * (K * gm K i) ^ 3
def gn (K : Nat) : Nat → Nat
  | 0 => 1
  | i + 1 => 128 * gn K i * (K * gm K i) ^ 8
def gy (K Y : Nat) : Nat → Nat
  | 0 => Y
  | i + 1 => Y + 6 * (gy K Y i * (K * gm K i))
theorem gm_up {K : Nat} (k1 : 1 ≤ K) {i k : Nat} (h : i ≤ k) : 1 ≤ gm K i ∧ gm K i ≤ gm K k := by
  have up : ∀ i, 1 ≤ gm K i ∧ gm K i ≤ gm K (i + 1) := fun i => by
    have st : ∀ x, 1 ≤ x → x ≤ 3 * x * (K * x) ^ 3 := fun x hx => by
      have p : 1 ≤ (K * x) ^ 3 := Nat.pow_pos (Nat.mul_pos k1 hx)
      have : 3 * x * 1 ≤ 3 * x * (K * x) ^ 3 := Nat.mul_le_mul_left _ p
      omega
    induction i with
    | zero => exact ⟨Nat.le_refl _, st 1 (Nat.le_refl _)⟩
    | succ i ih =>
      have h1 : 1 ≤ gm K (i + 1) := Nat.le_trans ih.1 ih.2
      exact ⟨h1, st _ h1⟩
  refine ⟨(up i).1, ?_⟩
  induction h with
  | refl => exact Nat.le_refl _
  | step _ ih => exact Nat.le_trans ih (up _).2
theorem gn_up {K : Nat} (k1 : 1 ≤ K) {i k : Nat} (h : i ≤ k) : gn K i ≤ gn K k := by
  induction h with
  | refl => exact Nat.le_refl _
  | @step m _ ih =>
    refine Nat.le_trans ih ?_
    show gn K m ≤ 128 * gn K m * (K * gm K m) ^ 8
    have p : 1 ≤ (K * gm K m) ^ 8 := Nat.pow_pos (Nat.mul_pos k1 (gm_up k1 (Nat.le_refl m)).1)
    have : 128 * gn K m * 1 ≤ 128 * gn K m * (K * gm K m) ^ 8 := Nat.mul_le_mul_left _ p
    omega
theorem gy_up {K Y : Nat} (k1 : 1 ≤ K) {i k : Nat} (h : i ≤ k) : gy K Y i ≤ gy K Y k := by
  induction h with
  | refl => exact Nat.le_refl _
  | @step m _ ih =>
    refine Nat.le_trans ih ?_
    show gy K Y m ≤ Y + 6 * (gy K Y m * (K * gm K m))
    have p : 1 ≤ K * gm K m := Nat.mul_pos k1 (gm_up k1 (Nat.le_refl m)).1
    have : gy K Y m * 1 ≤ gy K Y m * (K * gm K m) := Nat.mul_le_mul_left _ p
    omega
structure Top (K Y S b : Nat) : Prop where
  b1 : b ≤ 7990
  wb : K * gm K S < 2 ^ b
  k1 : 1 ≤ K
  m : gm K S < 2 ^ 47000
  n : gn K S < 2 ^ 47000
  y : gy K Y S < 2 ^ 47000
  w : K * gm K S < 2 ^ 7980
def JG (K Y S N : Nat) (_ : Nat) (sg : List (Stl × List Int)) (cols : List Col) : Prop := sg.length ≤ S ∧ (∀ c ∈ colsG sg ++ cols, LeL (gm K sg.length) c.1 ∧ LeL (gn K sg.length) c.2) ∧ (∀ g ∈ sg, ∀ p ∈ g.1.m, p.2.natAbs ≤ gy K Y sg.length) ∧ sg.length + cols.length = N ∧ sg.length ≤ 6 ∧ ∀ (k : Nat) (g : Stl × List Int), sg[k]? = some g → g.1.sh.natAbs ≤ K * gm K (k + 1)
theorem top150 : Top 150 (2 ^ 20) 5 7990 := ⟨Nat.le_refl _, by decide +kernel, by decide, by decide +kernel, by decide +kernel, by decide +kernel, by decide +kernel⟩
theorem told150 : 5 * (gy 150 (2 ^ 20) 5 * gm 150 5) + gm 150 5 < 2 ^ 48000 ∧ 23 * (gn 150 5 * 20) < 2 ^ 48000 := by decide +kernel
theorem sum_abs {m : Ms} {Y : Nat} (nd : (m.map (·.1)).Nodup) (h : ∀ p ∈ m, p.2.natAbs ≤ Y) (j : Str) : (sumAt m j).natAbs ≤ Y := by
  by_cases z : sumAt m j = 0
  · rw [z]
    exact Nat.zero_le _
  · obtain ⟨p, hp, rfl⟩ := List.mem_map.mp (sumAt_mem z)
    rw [sum_nodup nd (show (p.1, p.2) ∈ m from hp)]
    exact h p hp
theorem notIn_nd {ls : List Str} {m : Ms} (nd : (m.map (·.1)).Nodup) : ((notIn ls m).map (·.1)).Nodup := List.Nodup.sublist (List.Sublist.map _ List.filter_sublist) nd
theorem abs_sum {α : Type} (f : α → Int) (b : Nat) : ∀ xs : List α, (∀ x ∈ xs, (f x).natAbs ≤ b) → (SumF xs f).natAbs ≤ xs.length * b
  | [], _ => Nat.zero_le _
  | x :: xs, h => by
    have ih := abs_sum f b xs fun y hy => h y (List.mem_cons_of_mem _ hy)
    have h1 := h x (List.mem_cons_self ..)
    show (f x + SumF xs f).natAbs ≤ (xs.length + 1) * b
    rw [Nat.add_mul]
    have := Int.natAbs_add_le (f x) (SumF xs f)
    omega
theorem rest_abs {ls : List Str} {m : Ms} {row : List Int} {sets : List Stl} {Y0 Y W n : Nat} (nd : (m.map (·.1)).Nodup) (h : ∀ p ∈ m, p.2.natAbs ≤ Y0) (hs : ∀ x ∈ sets, (x.m.map (·.1)).Nodup ∧ (∀ p ∈ x.m, p.2.natAbs ≤ Y) ∧ (dotL row x.s).natAbs ≤ W) (hn : sets.length ≤ n) (j : Str) :
    (restAt m ls row sets j).natAbs ≤ Y0 + n * (Y * W) := by
  have a := sum_abs (notIn_nd (ls := ls) nd) (fun p hp => h p (List.mem_filter.mp hp).1) j
  have b := abs_sum (fun x : Stl => sumAt x.m j * dotL row x.s) (Y * W) sets fun x hx => by
    obtain ⟨h1, h2, h3⟩ := hs x hx
    rw [Int.natAbs_mul]
    exact Nat.mul_le_mul (sum_abs h1 h2 j) h3
  have c := Nat.mul_le_mul_right (Y * W) hn
  have := Int.natAbs_add_le (sumAt (notIn ls m) j) (SumF sets fun x => sumAt x.m j * dotL row x.s)
  show (sumAt (notIn ls m) j + SumF sets fun x => sumAt x.m j * dotL row x.s).natAbs ≤ _
  omega
/-- a settled one's share of a row -/
theorem JG.dot {K Y S N i B : Nat} {sg : List (Stl × List Int)} {cols : List Col} (h : JG K Y S N i sg cols) (hg : ∀ g ∈ sg, g.1.s.length = N) {row : List Int} (hr : LeL B row) (hB : N * B ≤ K) : ∀ g ∈ sg, (dotL row g.1.s).natAbs ≤ K * gm K sg.length := fun g hgm =>
  dot_le' hr (h.2.1 (g.1.s, g.2) (List.mem_append_left _ (List.mem_map.mpr ⟨g, hgm, rfl⟩))).1 (hg g hgm) hB (Nat.le_refl _)
theorem jokG {ls keys : List Str} {ms : List Ms} {N B K Y S b : Nat} (tp : Top K Y S b) (ll : ls.length = N) (l32 : N ≤ 32) (few : ms.length ≤ 6) (hS : N ≤ S ∨ ms.length ≤ S) (hm : ∀ m ∈ ms, (m.map (·.1)).Nodup ∧ (∀ p ∈ m, p.2.natAbs ≤ Y) ∧ LeL B (powersOf m ls)) (hB : N * B ≤ K) : JOk ls keys ms N b (JG K Y S N) := by
  have up : ∀ {s : Nat}, s ≤ S → gm K s < 2 ^ 47000 ∧ gn K s < 2 ^ 47000 ∧ gy K Y s < 2 ^ 47000 ∧ K * gm K s < 2 ^ 7980 := fun h => ⟨Nat.lt_of_le_of_lt (gm_up tp.k1 h).2 tp.m, Nat.lt_of_le_of_lt (gn_up tp.k1 h) tp.n, Nat.lt_of_le_of_lt (gy_up tp.k1 h) tp.y, Nat.lt_of_le_of_lt (Nat.mul_le_mul_left _ (gm_up tp.k1 h).2) tp.w⟩
  refine ⟨⟨Nat.zero_le _, fun c hc => (sv_start (fun _ => []) N).bd c hc, fun g hg => absurd hg List.not_mem_nil, by rw [List.length_map, List.length_range]; show 0 + N = N; omega, Nat.zero_le _, fun k g h => by cases h⟩, tp.b1, fun i sg cols h => ?_, fun i m sg cols hi h hg hx => ?_, fun i sg cols h => h, fun i m sg cols hi h hg g hgm => ?_⟩
  · obtain ⟨s5, hc, hy, _, _, _⟩ := h
    obtain ⟨b1, b2, b3, _⟩ := up s5
    refine ⟨fun c hc' => ?_, fun g hg => ⟨?_, fun p hp => Nat.lt_of_le_of_lt (hy g hg p hp) b3⟩⟩
    · obtain ⟨x, y⟩ := hc c (List.mem_append_right _ hc')
      exact ⟨x.sm b1, y.sm b2⟩
    · exact (hc (g.1.s, g.2) (List.mem_append_left _ (List.mem_map.mpr ⟨g, hg, rfl⟩))).1.sm b1
  · have hj := h
    obtain ⟨s5, hc, hy, hcl, hsl, hsh⟩ := h
    have il : i < ms.length := (List.getElem?_eq_some_iff.mp hi).1
    obtain ⟨m1, m2, m3⟩ := hm m (List.mem_of_getElem? hi)
    have si : sg.length ≤ i := by
      have := hg.le
      rw [List.length_map, List.length_take] at this
      omega
    have cpos : 0 < cols.length := by
      obtain ⟨c, hcm, _⟩ := hx
      exact List.length_pos_of_mem hcm
    have s1 : sg.length + 1 ≤ S := by rcases hS with z | z <;> omega
    have lr : (powersOf m ls).length = N := by rw [rows_len]; exact ll
    have dl : ∀ {k : Nat} {s : List Int}, s.length = N → LeL (gm K k) s → (dotL (powersOf m ls) s).natAbs ≤ K * gm K k := fun l h => dot_le' m3 h l hB (Nat.le_refl _)
    have sgd := hj.dot (fun g hgm => hg.lens.1 _ (List.mem_map.mpr ⟨g, hgm, rfl⟩)) m3 hB
    obtain ⟨u1, u2, u3, u4⟩ := up s1
    have w1 : 1 ≤ K * gm K sg.length := Nat.mul_pos tp.k1 (gm_up tp.k1 (Nat.le_refl _)).1
    refine ⟨gm K sg.length, gn K sg.length, K * gm K sg.length, gm K (sg.length + 1), gn K (sg.length + 1), ⟨w1, fun c hcm => dl (hg.lens.2 c hcm) (hc c (List.mem_append_right _ hcm)).1, fun c hcm => hc c (List.mem_append_right _ hcm), Nat.le_refl _, ?_, gn_up tp.k1 (Nat.le_succ _), Nat.lt_trans u1 (Nat.pow_lt_pow_right (by decide) (by decide)), Nat.lt_trans u2 (Nat.pow_lt_pow_right (by decide) (by decide)), (up s5).2.2.2⟩, fun d hd hn hb l c t hdl => ⟨?_, fun ts th tm => ?_⟩⟩
    · show 4 * cols.length * gn K sg.length * (K * gm K sg.length) ^ 8 ≤ 128 * gn K sg.length * (K * gm K sg.length) ^ 8
      exact Nat.mul_le_mul_right _ (Nat.mul_le_mul_right _ (by omega))
    · have cm := List.mem_of_getElem? hdl
      exact Nat.lt_of_le_of_lt (dl (hn c cm).1 (hb c cm).1) (Nat.lt_of_le_of_lt (Nat.mul_le_mul_left _ (gm_up tp.k1 s1).2) tp.wb)
    · have el : (sg ++ [(t, c.2)]).length = sg.length + 1 := by rw [List.length_append]; rfl
      refine ⟨by rw [el]; exact s1, ?_⟩
      rw [el]
      refine ⟨fun c' hcm => ?_, fun g hgm p hp => ?_, ?_, by omega, fun k g hk => ?_⟩
      · have ec : colsG (sg ++ [(t, c.2)]) = colsG sg ++ [c] := by
          unfold colsG
          rw [List.map_append]
          show _ ++ [(t.s, c.2)] = _
          rw [ts]
        rw [ec] at hcm
        rcases List.mem_append.mp hcm with h | h
        · rcases mem_snoc h with h | rfl
          · obtain ⟨x, y⟩ := hc c' (List.mem_append_left _ h)
            exact ⟨x.mono (gm_up tp.k1 (Nat.le_succ _)).2, y.mono (gn_up tp.k1 (Nat.le_succ _))⟩
          · exact hb c' (List.mem_of_getElem? hdl)
        · exact hb c' (List.mem_of_mem_eraseIdx h)
      · rcases mem_snoc hgm with h | rfl
        · exact Nat.le_trans (hy g h p hp) (gy_up tp.k1 (Nat.le_succ _))
        · refine Nat.le_trans (tm p hp) ?_
          exact rest_abs (ls := ls) (row := powersOf m ls) (sets := sg.map (·.1)) (Y := gy K Y sg.length) (W := K * gm K sg.length) (n := 6) m1 m2 (fun x hx => by
            obtain ⟨g, hgm, rfl⟩ := List.mem_map.mp hx
            exact ⟨(hg.ky g hgm).1, hy g hgm, sgd g hgm⟩) (by rw [List.length_map]; omega) p.1
      · have := List.length_eraseIdx_of_lt (List.getElem?_eq_some_iff.mp hdl).1
        rw [hd.len] at this
        omega
      · rcases Nat.lt_trichotomy k sg.length with l' | l' | l'
        · rw [List.getElem?_append_left l'] at hk
          exact hsh k g hk
        · rw [List.getElem?_append_right (by omega), show k - sg.length = 0 by omega] at hk
          cases hk
          have cm := List.mem_of_getElem? hdl
          show t.sh.natAbs ≤ _
          rw [th, l']
          exact dl (hn c cm).1 (hb c cm).1
        · rw [List.getElem?_eq_none (by rw [el]; omega)] at hk
          cases hk
  · obtain ⟨m1, m2, m3⟩ := hm m hi
    have := h.dot hg m3 hB g hgm
    exact Nat.lt_of_le_of_lt this (Nat.lt_trans (up h.1).2.2.2 (Nat.pow_lt_pow_right (by decide) (by decide)))
end MK


set_option Elab.async false
set_option linter.all false
set_option maxRecDepth 100000
set_option maxHeartbeats 4000000
namespace MK
open PySem PySem.Spec PyProof.Rows L2
/-! ### how far what is shown goes -/
def gp (K : Nat) : Nat → Nat
  | 0 => 1
  | i + 1 => gp K i * (K * gm K (i + 1))
theorem gp_up {K : Nat} (k1 : 1 ≤ K) {i k : Nat} (h : i ≤ k) : gp K i ≤ gp K k := by
  induction h with
  | refl => exact Nat.le_refl _
  | @step m _ ih =>
    refine Nat.le_trans ih ?_
    show gp K m ≤ gp K m * (K * gm K (m + 1))
    exact Nat.le_mul_of_pos_right _ (Nat.mul_pos k1 (gm_up k1 (Nat.le_refl (m + 1))).1)
theorem JG.shp {K Y S N i : Nat} {sg : List (Stl × List Int)} {cols : List Col} (h : JG K Y S N i sg cols) : shP sg ≤ gp K sg.length := by
  have hs := h.2.2.2.2.2
  have gen : ∀ n, n ≤ sg.length → shP (sg.take n) ≤ gp K n := by
    intro n
    induction n with
    | zero =>
      intro _
      rw [List.take_zero]
      exact Nat.le_refl _
    | succ n ih =>
      intro hn
      obtain ⟨g, hg⟩ : ∃ g, sg[n]? = some g := ⟨_, List.getElem?_eq_getElem hn⟩
      rw [take_more hg, shP_snoc]
      exact Nat.mul_le_mul (ih (by omega)) (hs n g hg)
  have := gen sg.length (Nat.le_refl _)
  rwa [List.take_length] at this
structure Top9 (K Y S : Nat) : Prop where
  k1 : 1 ≤ K
  s : gp K S < 2 ^ 7900
  r : (Y + 6 * (gy K Y S * (K * gm K S)) + 1) * gp K S < 2 ^ 7900
theorem bokG {ls keys : List Str} {ms : List Ms} {N B K Y S : Nat} (tp : Top9 K Y S) (hm : ∀ m ∈ ms, (m.map (·.1)).Nodup ∧ (∀ p ∈ m, p.2.natAbs ≤ Y) ∧ LeL B (powersOf m ls)) (hB : N * B ≤ K) : BOk ls keys ms N (JG K Y S N) := by
  refine ⟨fun i sg cols h => Nat.lt_of_le_of_lt (Nat.le_trans h.shp (gp_up tp.k1 h.1)) tp.s, fun i m sg cols j hi h hg => ?_⟩
  obtain ⟨m1, m2, m3⟩ := hm m (List.mem_of_getElem? hi)
  have sgd := h.dot (fun g hgm => hg.lens.1 _ (List.mem_map.mpr ⟨g, hgm, rfl⟩)) m3 hB
  have r := rest_abs (ls := ls) (row := powersOf m ls) (sets := sg.map (·.1)) (Y := gy K Y sg.length) (W := K * gm K sg.length) (n := 6) m1 m2 (fun x hx => by
    obtain ⟨g, hgm, rfl⟩ := List.mem_map.mp hx
    exact ⟨(hg.ky g hgm).1, h.2.2.1 g hgm, sgd g hgm⟩) (by rw [List.length_map]; exact h.2.2.2.2.1) j
  refine Nat.lt_of_le_of_lt (Nat.mul_le_mul ?_ (Nat.le_trans h.shp (gp_up tp.k1 h.1))) tp.r
  have := Nat.mul_le_mul_left 6 (Nat.mul_le_mul (gy_up (Y := Y) tp.k1 h.1) (Nat.mul_le_mul_left K (gm_up tp.k1 h.1).2))
  omega
theorem topA : Top 2250 (2 ^ 25) 3 7990 ∧ Top9 2250 (2 ^ 25) 3 := ⟨⟨Nat.le_refl _, by decide +kernel, by decide, by decide +kernel, by decide +kernel, by decide +kernel, by decide +kernel⟩, ⟨by decide, by decide +kernel, by decide +kernel⟩⟩
theorem topB : Top 180 (2 ^ 25) 4 7990 ∧ Top9 180 (2 ^ 25) 4 := ⟨⟨Nat.le_refl _, by decide +kernel, by decide, by decide +kernel, by decide +kernel, by decide +kernel, by decide +kernel⟩, ⟨by decide, by decide +kernel, by decide +kernel⟩⟩
theorem topC : Top 621 (2 ^ 25) 4 7990 ∧ Top9 621 (2 ^ 25) 4 := ⟨⟨Nat.le_refl _, by decide +kernel, by decide, by decide +kernel, by decide +kernel, by decide +kernel, by decide +kernel⟩, ⟨by decide, by decide +kernel, by decide +kernel⟩⟩
end MK


set_option Elab.async false
set_option linter.all false
set_option maxRecDepth 100000
set_option maxHeartbeats 4000000
namespace MK
open PySem PySem.Spec PyProof.Rows L2
section
variable {P : Program} {w : World} {K : PySem.W.Frag} {mg : Str → Option Value} {base : Heap}
/-! ### _law_cell_at -/
def spCell (K : PySem.W.Frag) : Sp := fun vs H Q _ => ∃ (a : Addr) (ns : List Int) (k : Nat), vs = [.ref a, .int k] ∧ SqL K H a (ns.map V.int) ∧
  ∀ c : Int, 0 ≤ c → c < 1000000000000000003 → Q (.int c) H
theorem scCell : FnScope ["_law_script", "_law_k"] ["_law_script", "_law_k"] (defScope sCell) := ⟨rfl, rfl, rfl, by decide +kernel, rfl, by decide +kernel, by decide +kernel⟩
theorem ok_cell {f : Addr} {fd : FuncData} (F : Fun K "_law_cell_at" "_law_cell_at" sCell f fd) (ml : mg "len" = none) : FnOk P w K mg base CX0 1 f fd ["_law_script", "_law_k"] (spCell K) := by
  refine F.ok scCell (fun vs H Q E h => ?_) (fun cdv A outer s H vs Q E hr h => ?_)
  · obtain ⟨a, ns, k, rfl, _⟩ := h
    rfl
  · obtain ⟨a, ns, k, rfl, hS, q⟩ := h
    refine ⟨_, pss_cons (ps_if (pt_cmpR op_lt (pv 1) (pe_callB call_len_seq (by rfl) ml PySem.boot_len (pa_cons (pv 0) pa_nil)) (nomark _))
        (pss_one (ps_ret (pe_op op_mod (pe_ix ix_list (pv 0) (pv 1) (fun _ _ => rfl)) pe_int))) pss_nil)
      (pss_one (ps_ret pe_int)), ?_⟩
    refine ⟨_, rfl, _, rfl, a, ns.map V.int, rfl, .inl hS, _, _, rfl, rfl, _, rfl, ite2 (fun e => ?_) (fun e => ?_)⟩
    · have hk : k < ns.length := by
        have := of_decide_eq_true e
        rw [List.length_map] at this
        omega
      refine ⟨_, rfl, _, rfl, a, ns.map V.int, (k : Int), .int ns[k], rfl, rfl, hS, atI_nat (by rw [List.getElem?_map, List.getElem?_eq_getElem hk]; rfl), _, _, rfl, rfl, (by show (0 : Int) < 1000000000000000003; decide), ?_⟩
      exact q _ (Int.emod_nonneg _ (by decide)) (Int.emod_lt_of_pos _ (by decide))
    · exact q 0 (by decide) (by decide)
/-! ### _law_mix -/
def spMix : Sp := fun vs H Q _ => ∃ (c k : Int), vs = [.int c, .int k] ∧ ∀ m : Int, 0 ≤ m → m < 2147483629 → Q (.int m) H
theorem scMix : FnScope ["_law_cell", "_law_k", "_law_number"] ["_law_cell", "_law_k"] (defScope sMix) := ⟨rfl, rfl, rfl, by decide +kernel, rfl, by decide +kernel, by decide +kernel⟩
theorem ok_mix {f : Addr} {fd : FuncData} (F : Fun K "_law_mix" "_law_mix" sMix f fd) : FnOk P w K mg base CX0 1 f fd ["_law_cell", "_law_k"] spMix := by
  refine F.ok scMix (fun vs H Q E h => ?_) (fun cdv A outer s H vs Q E hr h => ?_)
  · obtain ⟨c, k, rfl, _⟩ := h
    rfl
  · obtain ⟨c, k, rfl, q⟩ := h
    refine ⟨_, pss_cons (ps_set (i := 2) scMix.nd rfl (.inl rfl) (pe_op op_mod (pe_op op_add (pe_op op_add (pe_op op_mul (pv 0) pe_int) (pe_op op_mul (pv 1) pe_int)) pe_int) pe_int))
      (pss_one (ps_ret (pe_op op_mod (pe_op op_add (pe_op op_add (pe_op op_mul (pv 2) (pv 2)) (pe_op op_mul pe_int (pv 2))) (pv 1)) pe_int))), ?_⟩
    refine ⟨_, rfl, _, _, rfl, rfl, .inr (by decide), _, rfl, _, _, rfl, rfl, .inr (by decide), _, _, rfl, rfl, _, _, rfl, rfl, _, _, rfl, rfl, (by show (0 : Int) < 2147483647; decide), ?_⟩
    have h1 : 0 ≤ (c * 48271 + k * 69621 + 11) % 2147483647 := Int.emod_nonneg _ (by decide)
    have h2 : (c * 48271 + k * 69621 + 11) % 2147483647 < 2147483647 := Int.emod_lt_of_pos _ (by decide)
    refine ⟨_, rfl, _, rfl, _, _, rfl, rfl, .inl ⟨by omega, by omega⟩, _, rfl, _, _, rfl, rfl, .inl (by decide), _, _, rfl, rfl, _, rfl, _, _, rfl, rfl, _, _, rfl, rfl, (by show (0 : Int) < 2147483629; decide), ?_⟩
    exact q _ (Int.emod_nonneg _ (by decide)) (Int.emod_lt_of_pos _ (by decide))
end
end MK


set_option Elab.async false
set_option linter.all false
set_option maxRecDepth 100000
set_option maxHeartbeats 4000000
namespace MK
open PySem PySem.Spec PyProof.Rows L2
section
variable {P : Program} {w : World} {K : PySem.W.Frag} {mg : Str → Option Value} {base : Heap}
/-! ### _law_made -/
def spMade : Sp := fun vs H Q _ => ∃ (d : Addr) (m : Ms), vs = [.ref d] ∧ H d = some (.dK (enc m)) ∧ (m.map (·.1)).Nodup ∧ m.length ≤ 10000 ∧
  ∀ (H' : Hp) (p : Addr) (r : Ms), Same H H' → H p = none → MsN H' p r → Can r → (∀ j, at0 r j = at0 m j) → Q (.ref p) H'
theorem scMade : FnScope ["_law_powers", "_law_letter"] ["_law_powers"] (defScope sMade) := ⟨rfl, rfl, rfl, by decide +kernel, rfl, by decide +kernel, by decide +kernel⟩
theorem ok_made {f : Addr} {fd : FuncData} (F : Fun K "_law_made" "_law_made" sMade f fd) (mt : mg "tuple" = none) (ms : mg "sorted" = none) : FnOk P w K mg base CX0 1 f fd ["_law_powers"] spMade := by
  refine F.ok scMade (fun vs H Q E h => ?_) (fun cdv A outer s H vs Q E hr h => ?_)
  · obtain ⟨d, m, rfl, _⟩ := h
    rfl
  · obtain ⟨d, m, rfl, hd, hn, hl, q⟩ := h
    have nd := scMade.nd
    have hu := hu_of hr
    refine ⟨_, pss_one (ps_ret (pe_callTy call_tupleN rfl mt boot_tuple (pa_cons
      (pe_lc (own := [("_law_letter", 1)]) (g := gName 1) rfl nd (pi_list (pe_callB (call_sortedDA rfl) rfl ms boot_sorted (pa_cons (pv 0) pa_nil)))
        (blkOk_by (N := ["_law_powers", "_law_letter"]) (sc := defScope sMade) (by decide +kernel)) (fun _ _ _ _ _ => pg_name (i := 1) nd rfl (Or.inl rfl))
        (fun _ _ _ _ _ => pts_one (pt_cmpR op_ne (pe_dget hu (pv 0) (pv 1) (fun _ _ => rfl)) pe_int (nomark _)))
        (fun _ _ _ _ _ => pe_tup (pa_cons (pv 1) (pa_cons (pe_dget hu (pv 0) (pv 1) (fun _ _ => rfl)) pa_nil)))) pa_nil))), ?_⟩
    (repeat (first | refine ⟨_, rfl, ?_⟩ | refine ⟨_, _, rfl, rfl, ?_⟩ | refine ⟨(by show (0 : Int) < _; decide), ?_⟩ | refine ⟨⟨by decide, by decide⟩, ?_⟩ | refine ⟨.inr (by decide), ?_⟩ | refine ⟨.inl (by decide), ?_⟩ | refine ⟨rfl, ?_⟩))
    refine ⟨d, enc m, m.map (·.1), rfl, .inl hd, encG_keys _ _, fun ys p hp hso np => ?_⟩
    have sp : Same H (upd H p (.lst (ys.map V.str))) := same_new np
    have hlen : ys.length = m.length := by rw [hp.length_eq, List.length_map]
    have fin := made_law hn hp (sortedS_pw hso)
    refine ⟨p, rfl, ⟨_, SqL.of upd_same⟩, fun D nD => ?_⟩
    have nDH : H D = none := sp.free nD
    have nDp : p ≠ D := ne_of_none upd_same nD
    refine lc_list (xs := ys.map V.str) (fun i H2 => Same H H2 ∧ H2 p = some (.lst (ys.map V.str)) ∧ ∃ ts : List Addr, H2 D = some (.lst (ts.map V.ref)) ∧ Paired (PrAt H2) ts (byKeys m (ys.take i)) ∧ ts.length ≤ i)
      ⟨sp.trans (same_new nD), upd_other upd_same nD, [], upd_same, .nil, Nat.le_refl _⟩ (fun i H2 _ z => SqL.of z.2.1) ?_ ?_
    · rintro i x H2 hx ⟨s2, hp2, ts, hD, pr, hts⟩
      obtain ⟨k, hk, rfl⟩ := at_map hx
      have hi : i < ys.length := (List.getElem?_eq_some_iff.mp hk).1
      have hm : k ∈ m.map (·.1) := hp.mem_iff.mp (List.mem_of_getElem? hk)
      refine ⟨rfl, ?_⟩
      (repeat (first | refine ⟨_, rfl, ?_⟩ | refine ⟨_, _, rfl, rfl, ?_⟩ | refine ⟨(by show (0 : Int) < _; decide), ?_⟩ | refine ⟨⟨by decide, by decide⟩, ?_⟩ | refine ⟨.inr (by decide), ?_⟩ | refine ⟨.inl (by decide), ?_⟩ | refine ⟨rfl, ?_⟩))
      refine ⟨d, _, rfl, dget_enc (s2 _ _ hd) hm, ?_⟩
      (repeat (first | refine ⟨_, rfl, ?_⟩ | refine ⟨_, _, rfl, rfl, ?_⟩ | refine ⟨(by show (0 : Int) < _; decide), ?_⟩ | refine ⟨⟨by decide, by decide⟩, ?_⟩ | refine ⟨.inr (by decide), ?_⟩ | refine ⟨.inl (by decide), ?_⟩ | refine ⟨rfl, ?_⟩))
      refine ite2 (fun e => ?_) (fun e => ?_)
      · have e1 : at0 m k ≠ 0 := by simpa using e
        (repeat (first | refine ⟨_, rfl, ?_⟩ | refine ⟨_, _, rfl, rfl, ?_⟩ | refine ⟨(by show (0 : Int) < _; decide), ?_⟩ | refine ⟨⟨by decide, by decide⟩, ?_⟩ | refine ⟨.inr (by decide), ?_⟩ | refine ⟨.inl (by decide), ?_⟩ | refine ⟨rfl, ?_⟩))
        refine ⟨d, _, rfl, dget_enc (s2 _ _ hd) hm, ?_⟩
        refine ⟨(by show 2 ≤ sizeLine; decide), fun t nt => ?_⟩
        have ntD : D ≠ t := ne_of_none hD nt
        refine ⟨_, upd_other hD nt, ?_, same_upd (s2.trans (same_new nt)) nDH, ?_, ts ++ [t], ?_, ?_, ?_⟩
        · rw [List.length_map]
          exact Nat.lt_of_le_of_lt (Nat.le_trans hts (by omega : i ≤ 10000)) (by decide)
        · rw [upd_ne nDp]
          exact upd_other hp2 nt
        · rw [upd_same, List.map_append]
          rfl
        · rw [byKeys_yes hk e1]
          exact pr_list (upd_other hD nt) (Paired.snoc (pr_same (same_new nt) pr) upd_same)
        · rw [List.length_append]
          exact Nat.add_le_add_right hts 1
      · have e1 : at0 m k = 0 := by simpa using e
        refine ⟨s2, hp2, ts, hD, ?_, by omega⟩
        rw [byKeys_no hk e1]
        exact pr
    · rintro H2 ⟨s2, hp2, ts, hD, pr, hts⟩
      (repeat (first | refine ⟨_, rfl, ?_⟩ | refine ⟨_, _, rfl, rfl, ?_⟩ | refine ⟨(by show (0 : Int) < _; decide), ?_⟩ | refine ⟨⟨by decide, by decide⟩, ?_⟩ | refine ⟨.inr (by decide), ?_⟩ | refine ⟨.inl (by decide), ?_⟩ | refine ⟨rfl, ?_⟩))
      refine ⟨D, ts.map V.ref, rfl, SqL.of hD, fun l o nl dn => ?_⟩
      rw [List.length_map, List.take_length] at pr
      exact q _ l _ (s2.trans (same_new nl)) (s2.free nl) ⟨ts, ⟨o, upd_same, dn⟩, pr_same (same_new nl) pr⟩ fin.1 fin.2
end
end MK


set_option Elab.async false
set_option linter.all false
set_option maxRecDepth 100000
set_option maxHeartbeats 4000000
namespace MK
open PySem PySem.Spec PyProof.Rows L2
theorem nm_get2 {H : Hp} {d e0 : Addr} {ads : List (Str × Addr)} {fl : List (Str × Ms)} (h : NmAt H d ads fl) (l : Str) (h0 : MsN H e0 [(l, 1)]) : ∃ o b, DGet H d (.str l) o ∧ o.getD (.ref e0) = .ref b ∧ MsN H b (fill fl l) := by
  have g := DGet.k (k := Sum.inr l) h.1
  rw [encG_val] at g
  rcases nm_lk h.2 l with ⟨a1, a2⟩ | ⟨b, m, a1, a2, a3⟩
  · refine ⟨_, e0, g, by rw [a1]; rfl, ?_⟩
    unfold fill
    rw [a2]
    exact h0
  · refine ⟨_, b, g, by rw [a1]; rfl, ?_⟩
    unfold fill
    rw [a2]
    exact a3
theorem partsW_more {fl : List (Str × Ms)} {m : Ms} {i : Nat} {p : Str × Int} (h : m[i]? = some p) : parts fl (m.take (i + 1)) = parts fl (m.take i) ++ [(fill fl p.1, p.2)] := by
  unfold parts
  rw [take_more h, List.map_append]
  rfl
section
variable {P : Program} {w : World} {K : PySem.W.Frag} {mg : Str → Option Value} {base : Heap}
/-! ### _law_filled, of wide powers -/
def spFilledW : Sp := fun vs H Q _ => ∃ (b d : Addr) (m : Ms) (ads : List (Str × Addr)) (fl : List (Str × Ms)), vs = [.ref b, .ref d] ∧ MsN H b m ∧ NmAt H d ads fl ∧ (flat (parts fl m)).length ≤ 10000 ∧
  (∀ q ∈ parts fl m, Sm 49000 q.2 ∧ ∀ p ∈ q.1, Sm 49000 p.2) ∧
  ∀ (H' : Hp) (p : Addr) (r : Ms), Same H H' → H p = none → MsN H' p r → Can r → (∀ j, at0 r j = sumAt (flat (parts fl m)) j) → Q (.ref p) H'
theorem scFilledW : FnScope ["_law_measure", "_law_filling", "_law_powers", "_law_letter", "_law_many", "_law_other", "_law_more"] ["_law_measure", "_law_filling"] (defScope sFilled) := ⟨rfl, rfl, rfl, by decide +kernel, rfl, by decide +kernel, by decide +kernel⟩
theorem ok_filledW {f fM : Addr} {fd fdM : FuncData} (F : Fun K "_law_filled" "_law_filled" sFilled f fd) (FM : Fun K "_law_made" "_law_made" sMade fM fdM) (bM : Binds K fdM ["_law_powers"] []) (gM : mg "_law_made" = some (.ref fM)) (mt : mg "tuple" = none) (ms : mg "sorted" = none) :
    FnOk P w K mg base CX0 2 f fd ["_law_measure", "_law_filling"] spFilledW := by
  have GM : FnOk P w K mg base CX0 1 fM fdM ["_law_powers"] spMade := ok_made FM mt ms
  refine F.ok scFilledW (fun vs H Q E h => ?_) (fun cdv A outer s H vs Q E hr h => ?_)
  · obtain ⟨b, d, m, ads, fl, rfl, _⟩ := h
    rfl
  · obtain ⟨b, dd, mm, ads, fl, rfl, hm, hf, hfl, hb, q⟩ := h
    obtain ⟨us, hus, pr⟩ := id hm
    have hlu : us.length = mm.length := pr.length
    have nd := scFilledW.nd
    have hu := hu_of hr
    refine ⟨_, pss_cons (ps_set (i := 2) nd rfl (.inl rfl) pe_dnewK)
      (pss_cons (ps_for PassesOwn.never rfl (pi_tup (pv 0)) (pg_tup rfl (pgs_cons (pg_name (i := 3) nd rfl (.inl rfl)) (pgs_cons (pg_name (i := 4) nd rfl (.inl rfl)) pgs_nil)))
        (pss_one (ps_for PassesOwn.never rfl (pi_tup (pe_dget2 hu (pv 1) (pv 3) (pe_tupM (pa_cons (pe_tup (pa_cons (pv 3) (pa_cons pe_int pa_nil))) pa_nil)) ⟨rfl, rfl, rfl, rfl⟩)) (pg_tup rfl (pgs_cons (pg_name (i := 5) nd rfl (.inl rfl)) (pgs_cons (pg_name (i := 6) nd rfl (.inl rfl)) pgs_nil)))
          (pss_one (ps_dput hu (pv 2) (pv 5) (pe_op op_add (pe_dget2 hu (pv 2) (pv 5) pe_int ⟨rfl, rfl, rfl, rfl⟩) (pe_op op_mulW (pv 6) (pv 4))) rfl)))))
      (pss_one (ps_ret (pe_call GM hr (by rfl) gM FM.kp bM .nil pass0 (pa_cons (pv 2) pa_nil))))), ?_⟩
    intro d nd0
    have s0 : Same H (upd H d (.dK [])) := same_new nd0
    refine ⟨_, rfl, b, rfl, ⟨_, TupN.sq (TupN.same s0 hus)⟩, for_tup (xs := us.map V.ref) (fun i σ H2 => ∃ (v3 v4 v5 v6 : Option V) (m : Ms), σ = [some (.ref b), some (.ref dd), some (.ref d), v3, v4, v5, v6] ∧ Same H H2 ∧ H2 d = some (.dK (enc m)) ∧ (m.map (·.1)).Nodup ∧ m.length ≤ (flat (parts fl (mm.take i))).length ∧ ∀ j, at0 m j = sumAt (flat (parts fl (mm.take i))) j)
      ⟨none, none, none, none, [], rfl, s0, upd_same, List.nodup_nil, Nat.zero_le _, fun j => rfl⟩ (fun i σ H2 _ z => ?_) ?_ ?_⟩
    · obtain ⟨_, _, _, _, _, _, z, _⟩ := z
      exact TupN.sq (TupN.same z hus)
    · rintro i x σ H2 hx ⟨v3, v4, v5, v6, m, rfl, sm, hd, hn, hml2, hat⟩
      obtain ⟨u, hu1, rfl⟩ := at_map hx
      obtain ⟨p, hp, hup⟩ := paired_ix pr hu1
      have hup : H u = some (.tup [.str p.1, .int p.2]) := hup
      have hpm := List.mem_of_getElem? hp
      obtain ⟨hbn, hbp⟩ := hb (fill fl p.1, p.2) (List.mem_map.mpr ⟨p, hpm, rfl⟩)
      have htk := partsW_more (fl := fl) hp
      have hfl2 : (flat (parts fl (mm.take i))).length + (fill fl p.1).length ≤ 10000 := by
        have e1 := flat_take_le (parts fl mm) (i + 1)
        have e0 : (parts fl mm).take (i + 1) = parts fl (mm.take (i + 1)) := by
          unfold parts
          rw [List.map_take]
        rw [e0, htk, flat_snoc, List.length_append] at e1
        have e2 : (scaled (fill fl p.1) p.2).length = (fill fl p.1).length := scaled_len _ _
        have e3 : (flat (parts fl (mm.take i))).length + (scaled (fill fl p.1) p.2).length ≤ (flat (parts fl mm)).length := e1
        omega
      refine ⟨u, _, rfl, SqT.of (sm _ _ hup), rfl, _, _, rfl, _, _, rfl, rfl, ?_⟩
      refine ⟨_, rfl, dd, rfl, .inl ⟨_, .inl (sm _ _ hf.1)⟩, _, rfl, _, rfl, (by show 2 ≤ sizeLine; decide), fun t1 n1 => ⟨(by show 1 ≤ sizeLine; decide), fun t2 o2 n2 d2 => ?_⟩⟩
      have sa := same_new (o := .tup [V.str p.1, V.int 1]) n1
      have sb := same_new (o := .frz o2 (.tup [V.ref t1])) n2
      have s12 := sa.trans sb
      have h0 : MsN (upd (upd H2 t1 (.tup [V.str p.1, V.int 1])) t2 (.frz o2 (.tup [V.ref t1]))) t2 [(p.1, 1)] := ⟨[t1], ⟨o2, upd_same, d2⟩, .cons (sb _ _ upd_same) .nil⟩
      obtain ⟨o, c, ho1, ho2, ho3⟩ := nm_get2 ((hf.same sm).same s12) p.1 h0
      have hd2 := s12 _ _ hd
      have s3 := sm.trans s12
      generalize upd (upd H2 t1 (.tup [V.str p.1, V.int 1])) t2 (.frz o2 (.tup [V.ref t1])) = H3 at ho1 ho3 hd2 s3 ⊢
      refine ⟨o, ho1, ?_⟩
      rw [ho2]
      obtain ⟨ws, hws, pr2⟩ := id ho3
      have hlw : ws.length = (fill fl p.1).length := pr2.length
      refine ⟨c, rfl, ⟨_, TupN.sq hws⟩, for_tup (xs := ws.map V.ref) (fun k σ H4 => ∃ (v5 v6 : Option V) (m : Ms), σ = [some (.ref b), some (.ref dd), some (.ref d), some (.str p.1), some (.int p.2), v5, v6] ∧ Same H H4 ∧ TupN H4 c (ws.map V.ref) ∧ Paired (PrAt H4) ws (fill fl p.1) ∧ H4 d = some (.dK (enc m)) ∧ (m.map (·.1)).Nodup ∧ m.length ≤ (flat (parts fl (mm.take i))).length + k ∧ ∀ j, at0 m j = sumAt (flat (parts fl (mm.take i)) ++ scaled ((fill fl p.1).take k) p.2) j)
        ⟨_, _, m, rfl, s3, hws, pr2, hd2, hn, hml2, fun j => by rw [hat, sumAt_append]; show _ = _ + 0; omega⟩ (fun k σ H4 _ z => ?_) ?_ ?_⟩
      · obtain ⟨_, _, _, _, _, z, _⟩ := z
        exact TupN.sq z
      · rintro k x σ H4 hx ⟨v5, v6, m, rfl, sm, hws, pr2, hd, hn, hml2, hat⟩
        obtain ⟨u, hu1, rfl⟩ := at_map hx
        obtain ⟨p2, hp2, hup2⟩ := paired_ix pr2 hu1
        have hup2 : H4 u = some (.tup [.str p2.1, .int p2.2]) := hup2
        have hk : k < ws.length := (List.getElem?_eq_some_iff.mp hu1).1
        refine ⟨u, _, rfl, SqT.of hup2, rfl, _, _, rfl, _, _, rfl, rfl, ?_⟩
        obtain ⟨o, ho, ho2⟩ := dget_enc2 p2.1 hd
        refine ⟨_, rfl, d, rfl, .inl ⟨_, .inl hd⟩, _, rfl, o, ho, ?_⟩
        rw [ho2]
        refine ⟨_, rfl, _, rfl, _, _, rfl, rfl, (hbp _ (List.mem_of_getElem? hp2)).mulW hbn (by decide), ?_⟩
        refine ⟨_, _, rfl, rfl, _, rfl, _, rfl, d, _, rfl, dput_enc hd hn (small1000' (by omega)), ?_⟩
        refine ⟨_, _, put m p2.1 (at0 m p2.1 + p2.2 * p.2), rfl, same_upd sm nd0, ?_, pr_dict hd pr2, upd_same, put_nodup _ _ hn, Nat.le_trans (put_len _ _ _) (by omega), fun j => ?_⟩
        · obtain ⟨oo, e, dn⟩ := hws
          refine ⟨oo, ?_, dn⟩
          rw [upd_ne (ne_of e hd (fun e => nomatch e))]
          exact e
        · rw [at0_put, scaled_more hp2, ← List.append_assoc, sumAt_append, ← hat, sumAt_one]
          by_cases e : j = p2.1
          · rw [if_pos e, if_pos e.symm, e]
          · rw [if_neg e, if_neg (fun z => e z.symm)]
            omega
      · rintro σ H4 ⟨v5, v6, m, rfl, sm, hws, pr2, hd, hn, hml2, hat⟩
        rw [List.length_map, hlw, List.take_length] at hat
        rw [List.length_map, hlw] at hml2
        refine ⟨_, _, _, _, m, rfl, sm, hd, hn, ?_, fun j => by rw [htk, flat_snoc]; exact hat j⟩
        rw [htk, flat_snoc, List.length_append, scaled_len]
        exact hml2
    · rintro σ H2 ⟨v3, v4, v5, v6, m, rfl, sm, hd, hn, hml2, hat⟩
      rw [List.length_map, hlu, List.take_length] at hml2 hat
      refine ⟨_, rfl, d, m, rfl, hd, hn, by omega, fun H4 p r s4 np hp hc he => ?_⟩
      exact q H4 p r (sm.trans s4) (sm.free np) hp hc fun j => by rw [he, hat]
end
end MK


set_option Elab.async false
set_option linter.all false
set_option maxRecDepth 100000
set_option maxHeartbeats 4000000
namespace MK
open PySem PySem.Spec PyProof.Rows L2
section
variable {P : Program} {w : World} {K : PySem.W.Frag} {mg : Str → Option Value} {base : Heap}
/-! ### _law_words -/
theorem strRep_len (z : Str) (n : Int) : (strRep z n).length = z.length * n.toNat := by
  unfold strRep
  by_cases c : n < 1
  · rw [if_pos c]
    have : n.toNat = 0 := by omega
    rw [this]
    rfl
  · rw [if_neg c]
    by_cases d : (n == 1 || z.length == 0) = true
    · rw [if_pos d]
      rw [Bool.or_eq_true] at d
      rcases d with d | d
      · have : n = 1 := by simpa using d
        subst this
        show z.length = z.length * 1
        omega
      · have : z.length = 0 := by simpa using d
        rw [this]
        omega
    · rw [if_neg d]
      show ((List.replicate n.toNat z.cps).foldl (· ++ ·) #[]).size = _
      rw [size_reps]
      show 0 + n.toNat * z.length = _
      rw [Nat.mul_comm]
      omega
abbrev alphabet : Str := "abcdefghijklmnopqrstuvwxyz"
theorem sign_at (i : Int) (h0 : 0 ≤ i) (h1 : i < 26) : ∃ c, atI alphabet.cps.toList i = some c ∧ (97 ≤ c ∧ c ≤ 122) := by
  have hl : alphabet.cps.toList.length = 26 := by decide +kernel
  obtain ⟨n, rfl⟩ := Int.eq_ofNat_of_zero_le h0
  have hn : n < alphabet.cps.toList.length := by omega
  exact ⟨_, atI_nat (List.getElem?_eq_getElem hn), (by decide +kernel : ∀ c ∈ alphabet.cps.toList, 97 ≤ c ∧ c ≤ 122) _ (List.getElem_mem hn)⟩
theorem len_one (c : Nat) : (⟨#[c]⟩ : Str).length = 1 := rfl
theorem len1000 (c : Nat) : (⟨#[c]⟩ : Str).length ≤ 1000 := by
  rw [len_one]
  decide
theorem szl {n : Nat} (h : n ≤ 1000) : n ≤ sizeLine := Nat.le_trans h (by decide)
theorem app_len (a b : Str) : (a ++ b).length = a.length + b.length := by
  show (a.cps ++ b.cps).size = _
  rw [Array.size_append]
  rfl
/-- the sign at a place of the alphabet, round and round -/
def sgn (x : Int) : Nat := 97 + (x % 26).toNat
theorem sgn_at (x : Int) : atI alphabet.cps.toList (x % 26) = some (sgn x) := by
  have h0 : 0 ≤ x % 26 := Int.emod_nonneg _ (by decide)
  have h1 : x % 26 < 26 := Int.emod_lt_of_pos _ (by decide)
  have k : ∀ n : Nat, n < 26 → alphabet.cps.toList[n]? = some (97 + n) := by decide +kernel
  obtain ⟨n, hn⟩ := Int.eq_ofNat_of_zero_le h0
  unfold sgn
  rw [hn]
  exact atI_nat (k n (by omega))
theorem sgn_az (x : Int) : 97 ≤ sgn x ∧ sgn x ≤ 122 := by
  have h0 : 0 ≤ x % 26 := Int.emod_nonneg _ (by decide)
  have h1 : x % 26 < 26 := Int.emod_lt_of_pos _ (by decide)
  unfold sgn
  omega
theorem sgn_eq {x y : Int} (h : sgn x = sgn y) : x % 26 = y % 26 := by
  have h0 : 0 ≤ x % 26 := Int.emod_nonneg _ (by decide)
  have h1 : 0 ≤ y % 26 := Int.emod_nonneg _ (by decide)
  unfold sgn at h
  omega
def w0Of (c : Int) (k : Nat) : Str := strRep ⟨#[sgn (c / 64)]⟩ (c / 8 % (1 + c % 8)) ++ ⟨#[sgn (c / 1664 + 5 * (k : Int))]⟩ ++ strRep ⟨#[sgn (c / 64)]⟩ (1 + c % 8 - 1 - c / 8 % (1 + c % 8))
def w1Of (c : Int) (k : Nat) : Str := if c / 3 % 4 = 0 then ⟨#[sgn (c / 1664 + 5 * (k : Int))]⟩ ++ strRep ⟨#[sgn (c / 64)]⟩ ((3 * (k : Int) + c / 9) % 8) else w0Of c k
def w2Of (c : Int) (k : Nat) : Str := if c / 3 % 4 = 1 ∧ (k : Int) < 8 then strRep ⟨#[sgn (c / 64)]⟩ (1 + (3 * (k : Int) + c / 9) % 8) else w1Of c k
/-- the k-th word -/
def wordOf (c : Int) (k : Nat) : Str := if c / 3 % 4 = 1 ∧ (k : Int) > 7 then ⟨#[sgn (c / 64 + (k : Int) - 7)]⟩ ++ strRep ⟨#[sgn (c / 64)]⟩ ((k : Int) % 8) else w2Of c k
theorem rep_list (b : Nat) : ∀ (n : Nat) (acc : Array Nat), ((List.replicate n #[b]).foldl (· ++ ·) acc).toList = acc.toList ++ List.replicate n b
  | 0, acc => by simp
  | n + 1, acc => by
    rw [List.replicate_succ, List.foldl_cons, rep_list b n, List.replicate_succ, Array.toList_append, List.append_assoc]
    rfl
theorem strRep_list (b : Nat) (n : Int) : (strRep ⟨#[b]⟩ n).cps.toList = List.replicate n.toNat b := by
  unfold strRep
  by_cases c : n < 1
  · rw [if_pos c, show n.toNat = 0 by omega]
    rfl
  · rw [if_neg c]
    by_cases d : (n == 1 || (⟨#[b]⟩ : Str).length == 0) = true
    · rw [if_pos d]
      have e : n = 1 := by
        rw [Bool.or_eq_true] at d
        rcases d with d | d
        · simpa using d
        · rw [len_one] at d
          cases d
      rw [e]
      rfl
    · rw [if_neg d]
      have := rep_list b n.toNat #[]
      rw [show (#[] : Array Nat).toList = [] from rfl, List.nil_append] at this
      exact this
theorem app_list (a b : Str) : (a ++ b).cps.toList = a.cps.toList ++ b.cps.toList := by
  show (a.cps ++ b.cps).toList = _
  rw [Array.toList_append]
theorem rep_head {b n : Nat} {l : List Nat} (h : 0 < n) : (List.replicate n b ++ l)[0]? = some b := by
  cases n with
  | zero => omega
  | succ n => rfl
/-- of the first 26 words no two are alike -/
theorem wordOf_inj {c : Int} {i j : Nat} (hi : i < 26) (hj : j < 26) (e : wordOf c i = wordOf c j) : i = j := by
  have e := congrArg (fun z : Str => z.cps.toList) e
  by_cases w1 : c / 3 % 4 = 1
  · have f : ∀ k : Nat, (wordOf c k).cps.toList = if (k : Int) > 7 then [sgn (c / 64 + (k : Int) - 7)] ++ List.replicate ((k : Int) % 8).toNat (sgn (c / 64)) else List.replicate (1 + (3 * (k : Int) + c / 9) % 8).toNat (sgn (c / 64)) := fun k => by
      by_cases z : (k : Int) > 7
      · rw [if_pos z]
        unfold wordOf
        rw [if_pos ⟨w1, z⟩, app_list, strRep_list]
      · rw [if_neg z]
        unfold wordOf
        rw [if_neg (fun q => z q.2)]
        unfold w2Of
        rw [if_pos ⟨w1, by omega⟩, strRep_list]
    have e : (wordOf c i).cps.toList = (wordOf c j).cps.toList := e
    rw [f, f] at e
    by_cases z1 : (i : Int) > 7
    · by_cases z2 : (j : Int) > 7
      · rw [if_pos z1, if_pos z2] at e
        have := sgn_eq (List.cons.inj e).1
        omega
      · rw [if_pos z1, if_neg z2] at e
        have h := congrArg (fun l : List Nat => l[0]?) e
        have h2 : (List.replicate (1 + (3 * (j : Int) + c / 9) % 8).toNat (sgn (c / 64)))[0]? = some (sgn (c / 64)) := by
          have := rep_head (b := sgn (c / 64)) (n := (1 + (3 * (j : Int) + c / 9) % 8).toNat) (l := []) (by omega)
          rwa [List.append_nil] at this
        have h : some (sgn (c / 64 + (i : Int) - 7)) = _ := h
        rw [h2] at h
        have := sgn_eq (Option.some.inj h)
        omega
    · by_cases z2 : (j : Int) > 7
      · rw [if_neg z1, if_pos z2] at e
        have h := congrArg (fun l : List Nat => l[0]?) e
        have h2 : (List.replicate (1 + (3 * (i : Int) + c / 9) % 8).toNat (sgn (c / 64)))[0]? = some (sgn (c / 64)) := by
          have := rep_head (b := sgn (c / 64)) (n := (1 + (3 * (i : Int) + c / 9) % 8).toNat) (l := []) (by omega)
          rwa [List.append_nil] at this
        have h : _ = some (sgn (c / 64 + (j : Int) - 7)) := h
        rw [h2] at h
        have := sgn_eq (Option.some.inj h)
        omega
      · rw [if_neg z1, if_neg z2] at e
        have h := congrArg List.length e
        rw [List.length_replicate, List.length_replicate] at h
        omega
  · have f : ∀ k : Nat, (wordOf c k) = w1Of c k := fun k => by
      unfold wordOf
      rw [if_neg (fun q => w1 q.1)]
      unfold w2Of
      rw [if_neg (fun q => w1 q.1)]
    have e : (wordOf c i).cps.toList = (wordOf c j).cps.toList := e
    rw [f, f] at e
    unfold w1Of at e
    by_cases w0 : c / 3 % 4 = 0
    · rw [if_pos w0, if_pos w0, app_list, app_list] at e
      have := sgn_eq (List.cons.inj e).1
      omega
    · rw [if_neg w0, if_neg w0] at e
      unfold w0Of at e
      rw [app_list, app_list, app_list, app_list, strRep_list, strRep_list, List.append_assoc, List.append_assoc] at e
      have h := (List.cons.inj (List.append_cancel_left e)).1
      have := sgn_eq h
      omega
def spWords : Sp := fun vs H Q _ => ∃ (c : Int) (n : Nat), vs = [.int c, .int n] ∧ 0 ≤ c ∧ n ≤ 1000 ∧
  ∀ (H' : Hp) (p : Addr), Same H H' → H p = none → H' p = some (.lst (((List.range n).map (wordOf c)).map V.str)) → (∀ k, Nm (wordOf c k)) → Q (.ref p) H'
theorem scWords : FnScope ["_law_cell", "_law_many", "_law_signs", "_law_size", "_law_place", "_law_base", "_law_way", "_law_found", "_law_k", "_law_sign", "_law_word"] ["_law_cell", "_law_many"] (defScope sWords) := ⟨rfl, rfl, rfl, by decide +kernel, rfl, by decide +kernel, by decide +kernel⟩
theorem ok_words {f : Addr} {fd : FuncData} (F : Fun K "_law_words" "_law_words" sWords f fd) (mr : mg "range" = none) : FnOk P w K mg base CX0 1 f fd ["_law_cell", "_law_many"] spWords := by
  refine F.ok scWords (fun vs H Q E h => ?_) (fun cdv A outer s H vs Q E hr h => ?_)
  · obtain ⟨c, n, rfl, _⟩ := h
    rfl
  · obtain ⟨c, n, rfl, h0, hn, q⟩ := h
    have nd := scWords.nd
    refine ⟨_, pss_cons (ps_set (i := 2) nd rfl (.inl rfl) pe_str)
      (pss_cons (ps_set (i := 3) nd rfl (.inl rfl) (pe_op op_add pe_int (pe_op op_mod (pv 0) pe_int)))
      (pss_cons (ps_set (i := 4) nd rfl (.inl rfl) (pe_op op_mod (pe_op op_fdiv (pv 0) pe_int) (pv 3)))
      (pss_cons (ps_set (i := 5) nd rfl (.inl rfl) (pe_ix ix_str (pv 2) (pe_op op_mod (pe_op op_fdiv (pv 0) pe_int) pe_int) (fun _ _ => rfl)))
      (pss_cons (ps_set (i := 6) nd rfl (.inl rfl) (pe_op op_mod (pe_op op_fdiv (pv 0) pe_int) pe_int))
      (pss_cons (ps_set (i := 7) nd rfl (.inl rfl) (pe_lst pa_nil))
      (pss_cons (ps_for PassesOwn.never rfl (pi_range1 rfl mr (pa_cons (pv 1) pa_nil)) (pg_name (i := 8) nd rfl (.inl rfl))
        (pss_cons (ps_set (i := 9) nd rfl (.inl rfl) (pe_ix ix_str (pv 2) (pe_op op_mod (pe_op op_add (pe_op op_fdiv (pv 0) pe_int) (pe_op op_mul pe_int (pv 8))) pe_int) (fun _ _ => rfl)))
        (pss_cons (ps_set (i := 10) nd rfl (.inl rfl) (pe_op op_add_str (pe_op op_add_str (pe_op op_mul_str (pv 5) (pv 4)) (pv 9)) (pe_op op_mul_str (pv 5) (pe_op op_sub (pe_op op_sub (pv 3) pe_int) (pv 4)))))
        (Evl.pss_cut (ps_if (pt_cmpR op_eq (pv 6) pe_int (nomark _)) (pss_one (ps_set (i := 10) nd rfl (.inl rfl) (pe_op op_add_str (pv 9) (pe_op op_mul_str (pv 5) (pe_op op_mod (pe_op op_add (pe_op op_mul pe_int (pv 8)) (pe_op op_fdiv (pv 0) pe_int)) pe_int))))) pss_nil)
        (Evl.pss_cut (ps_if (pw_and (pt_cmpR op_eq (pv 6) pe_int (nomark _)) (pw_and1 (pt_cmpR op_lt (pv 8) pe_int (nomark _)))).pt (pss_one (ps_set (i := 10) nd rfl (.inl rfl) (pe_op op_mul_str (pv 5) (pe_op op_add pe_int (pe_op op_mod (pe_op op_add (pe_op op_mul pe_int (pv 8)) (pe_op op_fdiv (pv 0) pe_int)) pe_int))))) pss_nil)
        (Evl.pss_cut (ps_if (pw_and (pt_cmpR op_eq (pv 6) pe_int (nomark _)) (pw_and1 (pt_cmpR op_gt (pv 8) pe_int (nomark _)))).pt (pss_one (ps_set (i := 10) nd rfl (.inl rfl) (pe_op op_add_str (pe_ix ix_str (pv 2) (pe_op op_mod (pe_op op_sub (pe_op op_add (pe_op op_fdiv (pv 0) pe_int) (pv 8)) pe_int) pe_int) (fun _ _ => rfl)) (pe_op op_mul_str (pv 5) (pe_op op_mod (pv 8) pe_int))))) pss_nil)
        (pss_one (ps_expr (pe_bm PySem.F.plainAttrs_list PySem.F.slot_list_append PySem.F.type_list_append mt_append (pv 7) (pa_cons (pv 10) pa_nil))))))))))
      (pss_one (ps_ret (pv 7))))))))), ?_⟩
    -- the sizes
    have hs1 : 0 ≤ c % 8 := Int.emod_nonneg _ (by decide)
    have hs2 : c % 8 < 8 := Int.emod_lt_of_pos _ (by decide)
    have hp1 : 0 ≤ c / 8 % (1 + c % 8) := Int.emod_nonneg _ (by omega)
    have hp2 : c / 8 % (1 + c % 8) < 1 + c % 8 := Int.emod_lt_of_pos _ (by omega)
    have hm0 : ∀ x : Int, 0 ≤ x % 8 ∧ x % 8 < 8 := fun x => ⟨Int.emod_nonneg _ (by decide), Int.emod_lt_of_pos _ (by decide)⟩
    have nm0 : ∀ k, Nm (w0Of c k) := fun k => by
      unfold w0Of
      refine ⟨?_, ?_, az_app (az_app (az_rep (az_one (sgn_az _)) _) (az_one (sgn_az _))) (az_rep (az_one (sgn_az _)) _)⟩
      · rw [app_len, app_len, strRep_len, strRep_len, len_one, len_one]
        omega
      · rw [app_len, app_len, strRep_len, strRep_len, len_one, len_one]
        omega
    have nm1 : ∀ k, Nm (w1Of c k) := fun k => by
      unfold w1Of
      have := hm0 (3 * (k : Int) + c / 9)
      split
      · exact ⟨by rw [app_len, strRep_len, len_one, len_one]; omega, by rw [app_len, strRep_len, len_one, len_one]; omega, az_app (az_one (sgn_az _)) (az_rep (az_one (sgn_az _)) _)⟩
      · exact nm0 k
    have nm2 : ∀ k, Nm (w2Of c k) := fun k => by
      unfold w2Of
      have := hm0 (3 * (k : Int) + c / 9)
      split
      · exact ⟨by rw [strRep_len, len_one]; omega, by rw [strRep_len, len_one]; omega, az_rep (az_one (sgn_az _)) _⟩
      · exact nm1 k
    have nm3 : ∀ k, Nm (wordOf c k) := fun k => by
      unfold wordOf
      have := hm0 (k : Int)
      split
      · exact ⟨by rw [app_len, strRep_len, len_one, len_one]; omega, by rw [app_len, strRep_len, len_one, len_one]; omega, az_app (az_one (sgn_az _)) (az_rep (az_one (sgn_az _)) _)⟩
      · exact nm2 k
    (repeat (first | refine ⟨_, rfl, ?_⟩ | refine ⟨_, _, rfl, rfl, ?_⟩ | refine ⟨(by show (0 : Int) < _; decide), ?_⟩ | refine ⟨⟨by decide, by decide⟩, ?_⟩ | refine ⟨.inr (by decide), ?_⟩ | refine ⟨.inl (by decide), ?_⟩ | refine ⟨rfl, ?_⟩))
    refine ⟨(by show (0 : Int) < 1 + c % 8; omega), ?_⟩
    (repeat (first | refine ⟨_, rfl, ?_⟩ | refine ⟨_, _, rfl, rfl, ?_⟩ | refine ⟨(by show (0 : Int) < _; decide), ?_⟩ | refine ⟨⟨by decide, by decide⟩, ?_⟩ | refine ⟨.inr (by decide), ?_⟩ | refine ⟨.inl (by decide), ?_⟩ | refine ⟨rfl, ?_⟩))
    refine ⟨_, _, sgn (c / 64), rfl, rfl, (by decide +kernel), sgn_at _, ?_⟩
    (repeat (first | refine ⟨_, rfl, ?_⟩ | refine ⟨_, _, rfl, rfl, ?_⟩ | refine ⟨(by show (0 : Int) < _; decide), ?_⟩ | refine ⟨⟨by decide, by decide⟩, ?_⟩ | refine ⟨.inr (by decide), ?_⟩ | refine ⟨.inl (by decide), ?_⟩ | refine ⟨rfl, ?_⟩))
    refine ⟨Nat.zero_le _, fun o no => ?_⟩
    (repeat (first | refine ⟨_, rfl, ?_⟩ | refine ⟨_, _, rfl, rfl, ?_⟩ | refine ⟨(by show (0 : Int) < _; decide), ?_⟩ | refine ⟨⟨by decide, by decide⟩, ?_⟩ | refine ⟨.inr (by decide), ?_⟩ | refine ⟨.inl (by decide), ?_⟩ | refine ⟨rfl, ?_⟩))
    refine ⟨(by omega), (by omega), ?_⟩
    refine for_range (n := (n : Int).toNat) (fun i σ H2 => ∃ (v8 v9 v10 : Option V), σ = [some (.int c), some (.int n), some (.str alphabet), some (.int (1 + c % 8)), some (.int (c / 8 % (1 + c % 8))), some (.str ⟨#[sgn (c / 64)]⟩), some (.int (c / 3 % 4)), some (.ref o), v8, v9, v10] ∧
        Same H H2 ∧ H2 o = some (.lst (((List.range i).map (wordOf c)).map V.str)))
      ⟨none, none, none, rfl, same_new no, upd_same⟩ ?_ ?_
    · rintro i σ H2 hi ⟨v8, v9, v10, rfl, sm, ho⟩
      have z0 : (0 : Int) + (i : Int) = (i : Int) := Int.zero_add _
      (repeat (first | refine ⟨_, rfl, ?_⟩ | refine ⟨_, _, rfl, rfl, ?_⟩ | refine ⟨(by show (0 : Int) < _; decide), ?_⟩ | refine ⟨⟨by decide, by decide⟩, ?_⟩ | refine ⟨.inr (by decide), ?_⟩ | refine ⟨.inl (by decide), ?_⟩ | refine ⟨rfl, ?_⟩))
      refine ⟨_, _, sgn (c / 1664 + 5 * (0 + (i : Int))), rfl, rfl, (by decide +kernel), sgn_at _, ?_⟩
      (repeat (first | refine ⟨_, rfl, ?_⟩ | refine ⟨_, _, rfl, rfl, ?_⟩ | refine ⟨(by show (0 : Int) < _; decide), ?_⟩ | refine ⟨⟨by decide, by decide⟩, ?_⟩ | refine ⟨.inr (by decide), ?_⟩ | refine ⟨.inl (by decide), ?_⟩ | refine ⟨rfl, ?_⟩))
      -- word = base * place + sign + base * (size - 1 - place)
      refine ⟨⟨len1000 _, by omega, by omega⟩, ?_⟩
      (repeat (first | refine ⟨_, rfl, ?_⟩ | refine ⟨_, _, rfl, rfl, ?_⟩ | refine ⟨(by show (0 : Int) < _; decide), ?_⟩ | refine ⟨⟨by decide, by decide⟩, ?_⟩ | refine ⟨.inr (by decide), ?_⟩ | refine ⟨.inl (by decide), ?_⟩ | refine ⟨rfl, ?_⟩))
      refine ⟨szl (by rw [strRep_len, len_one, len_one]; omega), ?_⟩
      (repeat (first | refine ⟨_, rfl, ?_⟩ | refine ⟨_, _, rfl, rfl, ?_⟩ | refine ⟨(by show (0 : Int) < _; decide), ?_⟩ | refine ⟨⟨by decide, by decide⟩, ?_⟩ | refine ⟨.inr (by decide), ?_⟩ | refine ⟨.inl (by decide), ?_⟩ | refine ⟨rfl, ?_⟩))
      refine ⟨⟨len1000 _, by omega, by omega⟩, ?_⟩
      (repeat (first | refine ⟨_, rfl, ?_⟩ | refine ⟨_, _, rfl, rfl, ?_⟩ | refine ⟨(by show (0 : Int) < _; decide), ?_⟩ | refine ⟨⟨by decide, by decide⟩, ?_⟩ | refine ⟨.inr (by decide), ?_⟩ | refine ⟨.inl (by decide), ?_⟩ | refine ⟨rfl, ?_⟩))
      refine ⟨szl (by rw [app_len, strRep_len, strRep_len, len_one, len_one]; omega), ?_⟩
      rw [z0]
      -- between the ifs
      let Mid : (Nat → Str) → L2.St → Hp → Prop := fun f σ' H' => H' = H2 ∧ σ' = [some (V.int c), some (V.int n), some (V.str alphabet), some (V.int (1 + c % 8)), some (V.int (c / 8 % (1 + c % 8))), some (V.str ⟨#[sgn (c / 64)]⟩), some (V.int (c / 3 % 4)), some (V.ref o), some (V.int (i : Int)), some (V.str ⟨#[sgn (c / 1664 + 5 * (i : Int))]⟩), some (V.str (f i))]
      refine ⟨Mid (w1Of c), ?_, ?_⟩
      · (repeat (first | refine ⟨_, rfl, ?_⟩ | refine ⟨_, _, rfl, rfl, ?_⟩ | refine ⟨(by show (0 : Int) < _; decide), ?_⟩ | refine ⟨⟨by decide, by decide⟩, ?_⟩ | refine ⟨.inr (by decide), ?_⟩ | refine ⟨.inl (by decide), ?_⟩ | refine ⟨rfl, ?_⟩))
        refine ite2 (fun e => ?_) (fun e => ?_)
        · have e := V.int.inj (of_decide_eq_true e)
          (repeat (first | refine ⟨_, rfl, ?_⟩ | refine ⟨_, _, rfl, rfl, ?_⟩ | refine ⟨(by show (0 : Int) < _; decide), ?_⟩ | refine ⟨⟨by decide, by decide⟩, ?_⟩ | refine ⟨.inr (by decide), ?_⟩ | refine ⟨.inl (by decide), ?_⟩ | refine ⟨rfl, ?_⟩))
          have := hm0 (3 * (i : Int) + c / 9)
          refine ⟨⟨len1000 _, by omega, by omega⟩, ?_⟩
          (repeat (first | refine ⟨_, rfl, ?_⟩ | refine ⟨_, _, rfl, rfl, ?_⟩ | refine ⟨(by show (0 : Int) < _; decide), ?_⟩ | refine ⟨⟨by decide, by decide⟩, ?_⟩ | refine ⟨.inr (by decide), ?_⟩ | refine ⟨.inl (by decide), ?_⟩ | refine ⟨rfl, ?_⟩))
          refine ⟨szl (by rw [strRep_len, len_one, len_one]; omega), ?_⟩
          refine ⟨rfl, ?_⟩
          unfold w1Of
          rw [if_pos e]
          rfl
        · have e : ¬ c / 3 % 4 = 0 := fun z => e (decide_eq_true (congrArg V.int z))
          refine ⟨rfl, ?_⟩
          unfold w1Of
          rw [if_neg e]
          rfl
      rintro σ' H' ⟨rfl, rfl⟩
      refine ⟨Mid (w2Of c), ?_, ?_⟩
      · (repeat (first | refine ⟨_, rfl, ?_⟩ | refine ⟨_, _, rfl, rfl, ?_⟩ | refine ⟨(by show (0 : Int) < _; decide), ?_⟩ | refine ⟨⟨by decide, by decide⟩, ?_⟩ | refine ⟨.inr (by decide), ?_⟩ | refine ⟨.inl (by decide), ?_⟩ | refine ⟨rfl, ?_⟩))
        refine ite2 (fun e => ?_) (fun e => ?_)
        · have e := V.int.inj (of_decide_eq_true e)
          (repeat (first | refine ⟨_, rfl, ?_⟩ | refine ⟨_, _, rfl, rfl, ?_⟩ | refine ⟨(by show (0 : Int) < _; decide), ?_⟩ | refine ⟨⟨by decide, by decide⟩, ?_⟩ | refine ⟨.inr (by decide), ?_⟩ | refine ⟨.inl (by decide), ?_⟩ | refine ⟨rfl, ?_⟩))
          refine ite2 (fun e2 => ?_) (fun e2 => ?_)
          · have e2 := of_decide_eq_true e2
            (repeat (first | refine ⟨_, rfl, ?_⟩ | refine ⟨_, _, rfl, rfl, ?_⟩ | refine ⟨(by show (0 : Int) < _; decide), ?_⟩ | refine ⟨⟨by decide, by decide⟩, ?_⟩ | refine ⟨.inr (by decide), ?_⟩ | refine ⟨.inl (by decide), ?_⟩ | refine ⟨rfl, ?_⟩))
            have := hm0 (3 * (i : Int) + c / 9)
            refine ⟨⟨len1000 _, by omega, by omega⟩, ?_⟩
            refine ⟨rfl, ?_⟩
            unfold w2Of
            rw [if_pos ⟨e, e2⟩]
            rfl
          · have e2 := fun z => e2 (decide_eq_true z)
            refine ⟨rfl, ?_⟩
            unfold w2Of
            rw [if_neg (fun z => e2 z.2)]
        · have e : ¬ c / 3 % 4 = 1 := fun z => e (decide_eq_true (congrArg V.int z))
          refine iteF ⟨rfl, ?_⟩
          unfold w2Of
          rw [if_neg (fun z => e z.1)]
      rintro σ' H' ⟨rfl, rfl⟩
      refine ⟨Mid (wordOf c), ?_, ?_⟩
      · (repeat (first | refine ⟨_, rfl, ?_⟩ | refine ⟨_, _, rfl, rfl, ?_⟩ | refine ⟨(by show (0 : Int) < _; decide), ?_⟩ | refine ⟨⟨by decide, by decide⟩, ?_⟩ | refine ⟨.inr (by decide), ?_⟩ | refine ⟨.inl (by decide), ?_⟩ | refine ⟨rfl, ?_⟩))
        refine ite2 (fun e => ?_) (fun e => ?_)
        · have e := V.int.inj (of_decide_eq_true e)
          (repeat (first | refine ⟨_, rfl, ?_⟩ | refine ⟨_, _, rfl, rfl, ?_⟩ | refine ⟨(by show (0 : Int) < _; decide), ?_⟩ | refine ⟨⟨by decide, by decide⟩, ?_⟩ | refine ⟨.inr (by decide), ?_⟩ | refine ⟨.inl (by decide), ?_⟩ | refine ⟨rfl, ?_⟩))
          refine ite2 (fun e2 => ?_) (fun e2 => ?_)
          · have e2 := of_decide_eq_true e2
            (repeat (first | refine ⟨_, rfl, ?_⟩ | refine ⟨_, _, rfl, rfl, ?_⟩ | refine ⟨(by show (0 : Int) < _; decide), ?_⟩ | refine ⟨⟨by decide, by decide⟩, ?_⟩ | refine ⟨.inr (by decide), ?_⟩ | refine ⟨.inl (by decide), ?_⟩ | refine ⟨rfl, ?_⟩))
            refine ⟨_, _, sgn (c / 64 + (i : Int) - 7), rfl, rfl, (by decide +kernel), sgn_at _, ?_⟩
            (repeat (first | refine ⟨_, rfl, ?_⟩ | refine ⟨_, _, rfl, rfl, ?_⟩ | refine ⟨(by show (0 : Int) < _; decide), ?_⟩ | refine ⟨⟨by decide, by decide⟩, ?_⟩ | refine ⟨.inr (by decide), ?_⟩ | refine ⟨.inl (by decide), ?_⟩ | refine ⟨rfl, ?_⟩))
            have := hm0 (i : Int)
            refine ⟨⟨len1000 _, by omega, by omega⟩, ?_⟩
            (repeat (first | refine ⟨_, rfl, ?_⟩ | refine ⟨_, _, rfl, rfl, ?_⟩ | refine ⟨(by show (0 : Int) < _; decide), ?_⟩ | refine ⟨⟨by decide, by decide⟩, ?_⟩ | refine ⟨.inr (by decide), ?_⟩ | refine ⟨.inl (by decide), ?_⟩ | refine ⟨rfl, ?_⟩))
            refine ⟨szl (by rw [strRep_len, len_one, len_one]; omega), ?_⟩
            refine ⟨rfl, ?_⟩
            unfold wordOf
            rw [if_pos ⟨e, e2⟩]
            rfl
          · have e2 := fun z => e2 (decide_eq_true z)
            refine ⟨rfl, ?_⟩
            unfold wordOf
            rw [if_neg (fun z => e2 z.2)]
        · have e : ¬ c / 3 % 4 = 1 := fun z => e (decide_eq_true (congrArg V.int z))
          refine iteF ⟨rfl, ?_⟩
          unfold wordOf
          rw [if_neg (fun z => e z.1)]
      rintro σ' H' ⟨rfl, rfl⟩
      -- found.append(word)
      (repeat (first | refine ⟨_, rfl, ?_⟩ | refine ⟨_, _, rfl, rfl, ?_⟩ | refine ⟨(by show (0 : Int) < _; decide), ?_⟩ | refine ⟨⟨by decide, by decide⟩, ?_⟩ | refine ⟨.inr (by decide), ?_⟩ | refine ⟨.inl (by decide), ?_⟩ | refine ⟨rfl, ?_⟩))
      refine ⟨.inl ⟨rfl, _, .inl (.inl ho)⟩, ?_⟩
      (repeat (first | refine ⟨_, rfl, ?_⟩ | refine ⟨_, _, rfl, rfl, ?_⟩ | refine ⟨(by show (0 : Int) < _; decide), ?_⟩ | refine ⟨⟨by decide, by decide⟩, ?_⟩ | refine ⟨.inr (by decide), ?_⟩ | refine ⟨.inl (by decide), ?_⟩ | refine ⟨rfl, ?_⟩))
      refine ⟨o, _, _, rfl, rfl, ho, (by rw [List.length_map, List.length_map, List.length_range]; exact small1000 (by omega)), ?_⟩
      refine ⟨_, _, _, rfl, ?_, ?_⟩
      · exact fun b x e => by
          rw [upd_ne (ne_of_none e no)]
          exact sm b x e
      · rw [upd_same, List.range_succ, List.map_append, List.map_append]
        rfl
    · rintro σ H2 ⟨v8, v9, v10, rfl, sm, ho⟩
      (repeat (first | refine ⟨_, rfl, ?_⟩ | refine ⟨_, _, rfl, rfl, ?_⟩ | refine ⟨(by show (0 : Int) < _; decide), ?_⟩ | refine ⟨⟨by decide, by decide⟩, ?_⟩ | refine ⟨.inr (by decide), ?_⟩ | refine ⟨.inl (by decide), ?_⟩ | refine ⟨rfl, ?_⟩))
      exact q H2 o sm no (by rw [Int.toNat_natCast] at ho; exact ho) nm3
end
end MK


set_option Elab.async false
set_option linter.all false
set_option maxRecDepth 100000
set_option maxHeartbeats 4000000
namespace MK
open PySem PySem.Spec PyProof.Rows L2
/-! ### letters of three kinds -/
abbrev name0 (n : Int) : Str := ("0" : Str) ++ (toString n : Str)
abbrev nameE (w : Str) : Str := ("=" : Str) ++ w
theorem str_of {x y : Str} (h : x.cps.toList = y.cps.toList) : x = y := by
  cases x
  cases y
  exact congrArg Str.mk (Array.toList_inj.mp h)
theorem app_inj {a x y : Str} (h : a ++ x = a ++ y) : x = y := by
  have e := congrArg (fun z : Str => z.cps.toList) h
  have e : (a ++ x).cps.toList = (a ++ y).cps.toList := e
  rw [app_list, app_list] at e
  exact str_of (List.append_cancel_left e)
theorem name0_inj {a b : Nat} (h : name0 (a : Int) = name0 (b : Int)) : a = b := nameQ_inj (show ("?" : Str) ++ _ = _ from congrArg (fun z : Str => ("?" : Str) ++ z) (app_inj h))
def hd (z : Str) : Option Nat := z.cps.toList[0]?
theorem hd_name0 (n : Int) : hd (name0 n) = some 48 := by
  unfold hd
  rw [app_list]
  rfl
theorem hd_nameE (w : Str) : hd (nameE w) = some 61 := by
  unfold hd
  rw [app_list]
  rfl
theorem hd_nameQ (k : Nat) : hd (nameQ k) = some 63 := by
  unfold hd
  rw [app_list]
  rfl
theorem hd_nm {z : Str} (h : Nm z) : ∃ c, hd z = some c ∧ 97 ≤ c ∧ c ≤ 122 := by
  obtain ⟨h1, _, h3⟩ := h
  have l : z.cps.toList.length = z.length := by rw [Array.length_toList]; rfl
  unfold hd
  cases e : z.cps.toList with
  | nil => rw [e] at l; rw [← l] at h1; exact absurd h1 (by decide)
  | cons a r => exact ⟨a, rfl, h3 a (by rw [e]; exact List.mem_cons_self ..)⟩
/-- a letter of the words, of the number n -/
def LetOf (ws : List Str) (k : Nat) (n : Nat) (z : Str) : Prop := ∃ w, ws[k]? = some w ∧ Nm w ∧ (z = w ∨ z = nameE w ∨ z = name0 (n : Int))
theorem let_inj {ws : List Str} (inj : ∀ (i j : Nat) (z : Str), ws[i]? = some z → ws[j]? = some z → i = j) {i j n m : Nat} {z : Str} (h : LetOf ws i n z) (g : LetOf ws j m z) : i = j ∨ n = m := by
  obtain ⟨w, h1, h2, h3⟩ := h
  obtain ⟨v, g1, g2, g3⟩ := g
  obtain ⟨c, hc, c1, c2⟩ := hd_nm h2
  obtain ⟨d, hd', d1, d2⟩ := hd_nm g2
  rcases h3 with h3 | h3 | h3
  · rcases g3 with g3 | g3 | g3
    · rw [h3] at g3
      exact .inl (inj _ _ _ h1 (by rw [g3]; exact g1))
    · rw [h3] at g3
      rw [g3, hd_nameE] at hc
      cases hc
      omega
    · rw [h3] at g3
      rw [g3, hd_name0] at hc
      cases hc
      omega
  · rcases g3 with g3 | g3 | g3
    · rw [h3] at g3
      rw [← g3, hd_nameE] at hd'
      cases hd'
      omega
    · rw [h3] at g3
      exact .inl (inj _ _ _ h1 (by rw [app_inj g3]; exact g1))
    · rw [h3] at g3
      have e := hd_nameE w
      rw [g3, hd_name0] at e
      cases e
  · rcases g3 with g3 | g3 | g3
    · rw [h3] at g3
      rw [← g3, hd_name0] at hd'
      cases hd'
      omega
    · rw [h3] at g3
      have e := hd_nameE v
      rw [← g3, hd_name0] at e
      cases e
    · rw [h3] at g3
      exact .inr (name0_inj g3)
theorem let_lt {ws : List Str} {k n : Nat} {z : Str} (h : LetOf ws k n z) : LtOk z ∧ hd z ≠ some 63 := by
  obtain ⟨w, h1, h2, h3⟩ := h
  have ne : ∀ {z : Str} {c : Nat}, hd z = some c → z.cps.toList ≠ [] := fun {z c} e n => by
    unfold hd at e
    rw [n] at e
    cases e
  obtain ⟨c, hc, c1, c2⟩ := hd_nm h2
  rcases h3 with rfl | rfl | rfl
  · refine ⟨nm_lt h2, fun e => ?_⟩
    rw [hc] at e
    cases e
    omega
  · refine ⟨⟨ne (hd_nameE w), ok_app (ok_string _) (nm_lt h2).2⟩, fun e => ?_⟩
    rw [hd_nameE] at e
    cases e
  · refine ⟨⟨ne (hd_name0 _), ok_app (ok_string _) (ok_string _)⟩, fun e => ?_⟩
    rw [hd_name0] at e
    cases e
theorem four_nd {a b : Str} (ha : Nm a) (hb : Nm b) (ab : a ≠ b) (n : Int) : [a, b, nameE a, name0 n].Nodup := by
  obtain ⟨c, hc, c1, c2⟩ := hd_nm ha
  obtain ⟨d, hd', d1, d2⟩ := hd_nm hb
  have k1 : a ≠ nameE a := fun e => by
    rw [e, hd_nameE] at hc
    cases hc
    omega
  have k2 : a ≠ name0 n := fun e => by
    rw [e, hd_name0] at hc
    cases hc
    omega
  have k3 : b ≠ nameE a := fun e => by
    rw [e, hd_nameE] at hd'
    cases hd'
    omega
  have k4 : b ≠ name0 n := fun e => by
    rw [e, hd_name0] at hd'
    cases hd'
    omega
  have k5 : nameE a ≠ name0 n := fun e => by
    have q := hd_nameE a
    rw [e, hd_name0] at q
    cases q
  refine List.nodup_cons.mpr ⟨fun h => ?_, List.nodup_cons.mpr ⟨fun h => ?_, List.nodup_cons.mpr ⟨fun h => ?_, List.pairwise_singleton _ _⟩⟩⟩
  · simp only [List.mem_cons, List.mem_nil_iff, or_false] at h
    rcases h with h | h | h
    · exact ab h
    · exact k1 h
    · exact k2 h
  · simp only [List.mem_cons, List.mem_nil_iff, or_false] at h
    rcases h with h | h
    · exact k3 h
    · exact k4 h
  · exact k5 (List.mem_singleton.mp h)
theorem three_val {a b c : V} {i : Int} (h0 : 0 ≤ i) (h1 : i < 3) : ∃ v, atI [a, b, c] i = some v ∧ (v = a ∨ v = b ∨ v = c) := by
  obtain ⟨n, rfl⟩ := Int.eq_ofNat_of_zero_le h0
  have : n = 0 ∨ n = 1 ∨ n = 2 := by omega
  rcases this with rfl | rfl | rfl
  · exact ⟨a, rfl, .inl rfl⟩
  · exact ⟨b, rfl, .inr (.inl rfl)⟩
  · exact ⟨c, rfl, .inr (.inr rfl)⟩
theorem name0_small : ∀ k : Nat, k < 33 → (((k : Nat) : Int).natAbs.log2 < 1920 ∧ (Str.ofString (toString ((k : Nat) : Int))).length ≤ 2) := nameQ_small
section
variable {P : Program} {w : World} {K : PySem.W.Frag} {mg : Str → Option Value} {base : Heap}
/-! ### _law_some_letters -/
theorem scSomeL : FnScope ["_law_cell", "_law_words_here", "_law_many", "_law_found", "_law_k", "_law_letter"] ["_law_cell", "_law_words_here"] (defScope sSomeL) := ⟨rfl, rfl, rfl, by decide +kernel, rfl, by decide +kernel, by decide +kernel⟩
def spSomeL : Sp := fun vs H Q _ => ∃ (c : Int) (a : Addr) (ws : List Str), vs = [.int c, .ref a] ∧ 0 ≤ c ∧ H a = some (.lst (ws.map V.str)) ∧ ws.length = 26 ∧ (∀ z ∈ ws, Nm z) ∧
  ∀ (H' : Hp) (p : Addr) (ls : List Str), Same H H' → H p = none → H' p = some (.lst (ls.map V.str)) → ls.length ≤ 23 → (∀ (k : Nat) (z : Str), ls[k]? = some z → LetOf ws k k z) → Q (.ref p) H'
theorem ok_someL {f : Addr} {fd : FuncData} (F : Fun K "_law_some_letters" "_law_some_letters" sSomeL f fd) (mr : mg "range" = none) (ms : mg "str" = none) : FnOk P w K mg base CX0 1 f fd ["_law_cell", "_law_words_here"] spSomeL := by
  refine F.ok scSomeL (fun vs H Q E h => ?_) (fun cdv A outer s H vs Q E hr h => ?_)
  · obtain ⟨c, a, ws, rfl, _⟩ := h
    rfl
  · obtain ⟨c, a, ws, rfl, h0, ha, wl, wn, q⟩ := h
    have nd := scSomeL.nd
    have kS : sizeLine = 16777216 := sizeLine_eq
    refine ⟨_, pss_cons (ps_set (i := 2) nd rfl (.inl rfl) (pe_ix ix_list (pe_lst (pa_cons (pe_op op_mod (pv 0) pe_int) (pa_cons (pe_op op_mod (pv 0) pe_int) pa_nil))) (pe_op op_fdiv (pe_op op_mod (pe_op op_fdiv (pv 0) pe_int) pe_int) pe_int) (fun _ _ => rfl)))
      (pss_cons (ps_set (i := 3) nd rfl (.inl rfl) (pe_lst pa_nil))
      (pss_cons (ps_for PassesOwn.never rfl (pi_range1 (by rfl) mr (pa_cons (pv 2) pa_nil)) (pg_name (i := 4) nd rfl (.inl rfl))
        (pss_cons (ps_set (i := 5) nd rfl (.inl rfl) (pe_ix ix_list (pe_lst (pa_cons (pe_ix ix_list (pv 1) (pv 4) (fun _ _ => rfl)) (pa_cons (pe_op op_add_str pe_str (pe_ix ix_list (pv 1) (pv 4) (fun _ _ => rfl))) (pa_cons (pe_op op_add_str pe_str (pe_callTy call_str_int (by rfl) ms PySem.Pv.boot_str (pa_cons (pv 4) pa_nil))) pa_nil))))
            (pe_op op_mod (pe_op op_add (pe_op op_fdiv (pv 0) pe_int) (pe_op op_mul (pv 4) (pe_op op_add pe_int (pe_op op_mod (pe_op op_fdiv (pv 0) pe_int) pe_int)))) pe_int) (fun _ _ => rfl)))
        (pss_one (ps_expr (pe_bm PySem.F.plainAttrs_list PySem.F.slot_list_append PySem.F.type_list_append mt_append (pv 3) (pa_cons (pv 5) pa_nil))))))
      (pss_one (ps_ret (pv 3))))), ?_⟩
    refine ⟨_, rfl, _, _, rfl, rfl, (by show (0 : Int) < 5; decide), _, rfl, _, _, rfl, rfl, (by show (0 : Int) < 24; decide), (by show 2 ≤ sizeLine; decide), fun l nl => ?_⟩
    refine ⟨_, rfl, _, _, rfl, rfl, ⟨by decide, by decide⟩, _, _, rfl, rfl, (by show (0 : Int) < 6; decide), _, _, rfl, rfl, ⟨by decide, by decide⟩, ?_⟩
    obtain ⟨u, hu1, hu2⟩ := two_val (a := V.int (c % 5)) (b := V.int (c % 24)) (i := c / 24 % 6 / 5) (by omega) (by omega)
    obtain ⟨y, rfl, y0, y1⟩ : ∃ y : Int, u = .int y ∧ 0 ≤ y ∧ y ≤ 23 := by
      rcases hu2 with e | e
      · exact ⟨_, e, by omega, by omega⟩
      · exact ⟨_, e, by omega, by omega⟩
    have sl := same_new (o := .lst [V.int (c % 5), V.int (c % 24)]) nl
    refine ⟨l, _, _, _, rfl, rfl, SqL.of upd_same, hu1, ?_⟩
    refine ⟨Nat.zero_le _, fun o no => ?_⟩
    have s2 := sl.trans (same_new (o := .lst []) no)
    refine ⟨_, rfl, _, rfl, by omega, by omega, ?_⟩
    refine for_range (n := y.toNat) (fun i σ H2 => ∃ (v4 v5 : Option V) (ls : List Str), σ = [some (.int c), some (.ref a), some (.int y), some (.ref o), v4, v5] ∧ Same H H2 ∧ H2 o = some (.lst (ls.map V.str)) ∧ ls.length = i ∧ ∀ (k : Nat) (z : Str), ls[k]? = some z → LetOf ws k k z)
      ⟨none, none, [], rfl, s2, upd_same, rfl, fun k z h => by cases h⟩ ?_ ?_
    · rintro i σ H2 hi ⟨v4, v5, ls, rfl, sm, ho, hl, hz⟩
      have z0 : (0 : Int) + (i : Int) = ((i : Nat) : Int) := Int.zero_add _
      have hw : ws[i]? = some (ws[i]'(by omega)) := List.getElem?_eq_getElem _
      have hwn := wn _ (List.mem_of_getElem? hw)
      generalize ws[i]'(by omega) = wd at hw hwn
      have hai : atI (ws.map V.str) (0 + (i : Int)) = some (.str wd) := by rw [z0]; exact atI_nat (by rw [List.getElem?_map, hw]; rfl)
      obtain ⟨n1, n2⟩ := name0_small i (by omega)
      have ha2 := sm _ _ ha
      have e61 : (Str.ofString "=").length = 1 := by decide +kernel
      have e48 : (Str.ofString "0").length = 1 := by decide +kernel
      have wl8 := hwn.2.1
      refine ⟨_, rfl, _, rfl, a, _, _, _, rfl, rfl, SqL.of ha2, hai, _, rfl, _, rfl, a, _, _, _, rfl, rfl, SqL.of ha2, hai, _, _, rfl, rfl, by rw [e61]; omega, ?_⟩
      refine ⟨_, rfl, 0 + (i : Int), rfl, by rw [z0]; exact n1, ?_⟩
      rw [z0]
      refine ⟨_, _, rfl, rfl, by rw [e48]; omega, (by show 3 ≤ sizeLine; decide), fun l3 nl3 => ?_⟩
      have s3 := same_new (o := .lst [V.str wd, V.str (nameE wd), V.str (name0 (i : Int))]) nl3
      refine ⟨_, rfl, _, _, rfl, rfl, ⟨by decide, by decide⟩, _, rfl, _, rfl, _, _, rfl, rfl, ⟨by decide, by decide⟩, _, _, rfl, rfl, (by show (0 : Int) < 2; decide), _, _, rfl, rfl, _, _, rfl, rfl, .inl ⟨by omega, by omega⟩, _, _, rfl, rfl, _, _, rfl, rfl, (by show (0 : Int) < 3; decide), ?_⟩
      obtain ⟨u, hu1, hu2⟩ := three_val (a := V.str wd) (b := V.str (nameE wd)) (c := V.str (name0 (i : Int))) (i := (c / 144 + (i : Int) * (1 + c / 432 % 2)) % 3) (Int.emod_nonneg _ (by decide)) (Int.emod_lt_of_pos _ (by decide))
      obtain ⟨z, rfl, lz⟩ : ∃ z : Str, u = .str z ∧ LetOf ws i i z := by
        rcases hu2 with e | e | e
        · exact ⟨_, e, wd, hw, hwn, .inl rfl⟩
        · exact ⟨_, e, wd, hw, hwn, .inr (.inl rfl)⟩
        · exact ⟨_, e, wd, hw, hwn, .inr (.inr rfl)⟩
      refine ⟨l3, _, _, _, rfl, rfl, SqL.of upd_same, hu1, ?_⟩
      have ho3 := s3 _ _ ho
      refine ⟨_, rfl, .inl ⟨rfl, _, SqL.of ho3⟩, _, rfl, o, _, _, rfl, rfl, ho3, by rw [List.length_map]; omega, ?_⟩
      refine ⟨_, _, ls ++ [z], rfl, same_upd (sm.trans s3) (sl.free no), ?_, by rw [List.length_append, hl]; rfl, fun k z' hk => ?_⟩
      · rw [upd_same, List.map_append]
        rfl
      · rcases Nat.lt_trichotomy k i with l | l | l
        · rw [List.getElem?_append_left (by omega)] at hk
          exact hz k z' hk
        · rw [List.getElem?_append_right (by omega), show k - ls.length = 0 by omega] at hk
          cases hk
          rw [l]
          exact lz
        · rw [List.getElem?_eq_none (by rw [List.length_append]; show ls.length + 1 ≤ k; omega)] at hk
          cases hk
    · rintro σ H2 ⟨v4, v5, ls, rfl, sm, ho, hl, hz⟩
      exact ⟨_, rfl, q _ o ls sm (sl.free no) ho (by omega) hz⟩
end
end MK


set_option Elab.async false
set_option linter.all false
set_option maxRecDepth 100000
set_option maxHeartbeats 4000000
namespace MK
open PySem PySem.Spec PyProof.Rows L2
/-! ### lists of texts, of measures, compared -/
def strD (ls : List Str) : PyData := .list (ls.map PyData.str)
theorem strs_dpAll {K : PySem.W.Frag} {H : Hp} : ∀ ls : List Str, DpAll K H (ls.map V.str) (ls.map PyData.str)
  | [] => .nil
  | z :: ls => .cons (.str z) (strs_dpAll ls)
theorem strs_dp {K : PySem.W.Frag} {H : Hp} {a : Addr} {ls : List Str} (h : H a = some (.lst (ls.map V.str))) : Dp K H (.ref a) (strD ls) := .lst (SqL.of h) (strs_dpAll ls)
theorem strs_all0 : ∀ {ls : List Str}, (∀ z ∈ ls, Ok z) → PyData.canLayAll0 (ls.map PyData.str) = true ∧ PyData.depthAll (ls.map PyData.str) = 0
  | [], _ => ⟨rfl, rfl⟩
  | z :: ls, h => by
    obtain ⟨i1, i2⟩ := strs_all0 (ls := ls) fun y hy => h y (List.mem_cons_of_mem _ hy)
    have e := strOkN (h z (List.mem_cons_self ..))
    constructor
    · simp only [List.map_cons, PyData.canLayAll0, PyData.canLay0, i1, e, Bool.and_true]
    · simp only [List.map_cons, PyData.depthAll, PyData.depth, i2]
      rfl
theorem strD_shaped {ls : List Str} (h : ∀ z ∈ ls, Ok z) : SeqAt.shaped (strD ls) = true := by
  obtain ⟨i1, i2⟩ := strs_all0 h
  unfold SeqAt.shaped strD
  simp only [PyData.canLay0, PyData.depth, i1, i2]
  rfl
theorem strs_eqv : ∀ {a b : List Str}, PyData.eqvAll (a.map PyData.str) (b.map PyData.str) = decide (a = b)
  | [], [] => rfl
  | [], q :: n => by
    simp [PyData.eqvAll]
  | p :: m, [] => by
    simp [PyData.eqvAll]
  | p :: m, q :: n => by
    have ih := strs_eqv (a := m) (b := n)
    simp only [List.map_cons, PyData.eqvAll, PyData.eqv, ih]
    by_cases e1 : p = q <;> by_cases e3 : m = n <;> simp [e1, e3]
theorem strD_eqv (a b : List Str) : PyData.eqv (strD a) (strD b) = decide (a = b) := by
  unfold strD
  simp only [PyData.eqv]
  exact strs_eqv
def mssD (ms : List Ms) : PyData := .list (ms.map msD)
theorem mss_dp {K : PySem.W.Frag} {H : Hp} {a : Addr} {ps : List Addr} {ms : List Ms} (h : H a = some (.lst (ps.map V.ref))) (p : Paired (MsN H) ps ms) : Dp K H (.ref a) (mssD ms) := by
  refine .lst (SqL.of h) ?_
  clear h
  induction p with
  | nil => exact .nil
  | cons t _ ih => exact .cons t.dp ih
theorem mss_all0 : ∀ {ms : List Ms}, (∀ m ∈ ms, ∀ p ∈ m, LtOk p.1) → PyData.canLayAll0 (ms.map msD) = true ∧ PyData.depthAll (ms.map msD) ≤ 2
  | [], _ => ⟨rfl, Nat.zero_le _⟩
  | z :: ls, h => by
    obtain ⟨i1, i2⟩ := mss_all0 (ms := ls) fun y hy => h y (List.mem_cons_of_mem _ hy)
    have e := SeqAt.canLay_of_shaped (msD_shaped (h z (List.mem_cons_self ..)))
    have d : PyData.depth (msD z) ≤ 2 := by
      have := msD_depth z
      unfold msD
      simp only [PyData.depth]
      omega
    simp only [List.map_cons, PyData.canLayAll0, PyData.depthAll, i1, e, Bool.and_true]
    exact ⟨trivial, by omega⟩
theorem mssD_shaped {ms : List Ms} (h : ∀ m ∈ ms, ∀ p ∈ m, LtOk p.1) : SeqAt.shaped (mssD ms) = true := by
  obtain ⟨i1, i2⟩ := mss_all0 h
  unfold SeqAt.shaped mssD
  simp only [PyData.canLay0, PyData.depth, i1, Bool.true_and]
  exact decide_eq_true (by omega)
theorem mss_eqv : ∀ {a b : List Ms}, PyData.eqvAll (a.map msD) (b.map msD) = decide (a = b)
  | [], [] => rfl
  | [], q :: n => by
    simp [PyData.eqvAll]
  | p :: m, [] => by
    simp [PyData.eqvAll]
  | p :: m, q :: n => by
    have ih := mss_eqv (a := m) (b := n)
    simp only [List.map_cons, PyData.eqvAll, msD_dec, ih]
    by_cases e1 : p = q <;> by_cases e3 : m = n <;> simp [e1, e3]
/-- what is handed in: measures, letters -/
def hdD (ms : List Ms) (ls : List Str) : PyData := .tuple [mssD ms, strD ls]
theorem hdD_shaped {ms : List Ms} {ls : List Str} (h : ∀ m ∈ ms, ∀ p ∈ m, LtOk p.1) (g : ∀ z ∈ ls, Ok z) : SeqAt.shaped (hdD ms ls) = true := by
  have e1 := SeqAt.canLay_of_shaped (mssD_shaped h)
  have e2 := SeqAt.canLay_of_shaped (strD_shaped g)
  have d1 : PyData.depth (mssD ms) ≤ 3 := by
    have := (mss_all0 h).2
    unfold mssD
    simp only [PyData.depth]
    omega
  have d2 : PyData.depth (strD ls) ≤ 1 := by
    have := (strs_all0 g).2
    unfold strD
    simp only [PyData.depth]
    omega
  unfold SeqAt.shaped hdD
  simp only [PyData.canLay0, PyData.canLayAll0, PyData.depth, PyData.depthAll, e1, e2, Bool.true_and]
  exact decide_eq_true (by omega)
section
variable {P : Program} {w : World} {K : PySem.W.Frag} {mg : Str → Option Value} {base : Heap}
/-! ### _law_share -/
/-- how far the powers of a share go -/
def shB (n : Nat) : Nat := if n < 4 then 50 else 3
theorem scShare : FnScope ["_law_cell", "_law_letters", "_law_powers", "_law_few", "_law_k", "_law_more", "_law_many"] ["_law_cell", "_law_letters"] (defScope sShare) := ⟨rfl, rfl, rfl, by decide +kernel, rfl, by decide +kernel, by decide +kernel⟩
def spShare : Sp := fun vs H Q _ => ∃ (c : Int) (a : Addr) (ls : List Str), vs = [.int c, .ref a] ∧ 0 ≤ c ∧ c < 2147483629 ∧ H a = some (.lst (ls.map V.str)) ∧ ls.length ≤ 23 ∧ (∀ z ∈ ls, Ok z) ∧
  ∀ (H' : Hp) (d : Addr) (m : Ms), Same H H' → H d = none → H' d = some (.dK (enc m)) → (m.map (·.1)).Nodup → m.length ≤ 4 → (∀ p ∈ m, p.1 ∈ ls ∧ p.2.natAbs ≤ shB ls.length) → Q (.ref d) H'
theorem ok_share {f fX : Addr} {fd fdX : FuncData} (F : Fun K "_law_share" "_law_share" sShare f fd) (FX : Fun K "_law_mix" "_law_mix" sMix fX fdX) (bX : Binds K fdX ["_law_cell", "_law_k"] []) (gX : mg "_law_mix" = some (.ref fX))
    (mr : mg "range" = none) (ml : mg "len" = none) (mi : mg "int" = none) : FnOk P w K mg base CX0 2 f fd ["_law_cell", "_law_letters"] spShare := by
  have GX : FnOk P w K mg base CX0 1 fX fdX ["_law_cell", "_law_k"] spMix := ok_mix FX
  refine F.ok scShare (fun vs H Q E h => ?_) (fun cdv A outer s H vs Q E hr h => ?_)
  · obtain ⟨c, a, ls, rfl, _⟩ := h
    rfl
  · obtain ⟨c, a, ls, rfl, h0, hc, ha, lln, lok, q⟩ := h
    have nd := scShare.nd
    have hu := hu_of hr
    have kS : sizeLine = 16777216 := sizeLine_eq
    have hun : (A.deeper (envOfC "_law_share" (defScope sShare) s.heap.objs.size f cdv)).units + 64 < cLine := by have := hr.un; omega
    refine ⟨_, pss_cons (ps_set (i := 2) nd rfl (.inl rfl) pe_dnewK)
      (pss_cons (ps_set (i := 3) nd rfl (.inl rfl) (pe_cmpR op_lt (pe_callB call_len_seq (by rfl) ml PySem.boot_len (pa_cons (pv 1) pa_nil)) pe_int (nomark _)))
      (pss_cons (ps_for PassesOwn.never rfl (pi_range1 rfl mr (pa_cons (pe_op op_mul (pe_ix ix_list (pe_lst (pa_cons (pe_op op_add pe_int (pe_op op_mod (pv 0) pe_int)) (pa_cons (pe_op op_add pe_int (pe_op op_mod (pv 0) pe_int)) pa_nil))) (pe_callTy call_int1 (by rfl) mi PyProof.Rows.boot_int (pa_cons (pe_cmpR op_gt (pe_callB call_len_seq (by rfl) ml PySem.boot_len (pa_cons (pv 1) pa_nil)) pe_int (nomark _)) pa_nil)) (fun _ _ => rfl))
            (pe_callTy call_int1 (by rfl) mi PyProof.Rows.boot_int (pa_cons (pe_cmpR (op_neD hun) (pv 1) (pe_lst pa_nil) (nomark _)) pa_nil))) pa_nil)) (pg_name (i := 4) nd rfl (.inl rfl))
        (pss_cons (ps_set (i := 5) nd rfl (.inl rfl) (pe_call GX hr (by rfl) gX FX.kp bX .nil pass0 (pa_cons (pv 0) (pa_cons (pv 4) pa_nil))))
        (pss_cons (ps_set (i := 6) nd rfl (.inl rfl) (pe_ix ix_list (pe_lst (pa_cons (pe_op op_sub (pe_op op_mod (pe_op op_fdiv (pv 5) pe_int) pe_int) pe_int) (pa_cons (pe_op op_sub (pe_op op_mod (pe_op op_fdiv (pv 5) pe_int) pe_int) pe_int) pa_nil)))
            (pe_op op_mul (pe_op op_fdiv (pe_op op_mod (pe_op op_fdiv (pv 5) pe_int) pe_int) pe_int) (pe_callTy call_int1 (by rfl) mi PyProof.Rows.boot_int (pa_cons (pv 3) pa_nil))) (fun _ _ => rfl)))
        (pss_one (ps_dput hu (pv 2) (pe_ix ix_list (pv 1) (pe_op op_mod (pv 5) (pe_callB call_len_seq (by rfl) ml PySem.boot_len (pa_cons (pv 1) pa_nil))) (fun _ _ => rfl)) (pv 6) rfl)))))
      (pss_one (ps_ret (pv 2))))), ?_⟩
    intro d nd0
    have s0 : Same H (upd H d (.dK [])) := same_new nd0
    have lml : (ls.map V.str).length = ls.length := List.length_map ..
    refine ⟨_, rfl, a, _, rfl, .inl (SqL.of (s0 _ _ ha)), _, _, rfl, rfl, ?_⟩
    refine ⟨_, rfl, _, _, rfl, rfl, (by show (0 : Int) < 4; decide), _, _, rfl, rfl, _, rfl, _, _, rfl, rfl, (by show (0 : Int) < 2; decide), _, _, rfl, rfl, (by show 2 ≤ sizeLine; decide), fun l nl => ?_⟩
    have sl := same_new (o := .lst [V.int (1 + c % 4), V.int (1 + c % 2)]) nl
    have s1 := s0.trans sl
    have hd1 := sl _ _ (upd_same (H := H) (a := d) (o := .dK []))
    have hl1 : upd (upd H d (.dK [])) l (.lst [V.int (1 + c % 4), V.int (1 + c % 2)]) l = some (.lst [V.int (1 + c % 4), V.int (1 + c % 2)]) := upd_same
    generalize upd (upd H d (.dK [])) l (.lst [V.int (1 + c % 4), V.int (1 + c % 2)]) = H1 at s1 hd1 hl1 ⊢
    refine ⟨_, rfl, a, _, rfl, .inl (SqL.of (s1 _ _ ha)), _, _, rfl, rfl, .inr ⟨_, rfl, ?_⟩⟩
    rw [lml]
    obtain ⟨u, hu1, hu2⟩ := two_val (a := V.int (1 + c % 4)) (b := V.int (1 + c % 2)) (i := if decide (4 < (ls.length : Int)) = true then 1 else 0) (by split <;> decide) (by split <;> decide)
    obtain ⟨y, rfl, y0, y1⟩ : ∃ y : Int, u = .int y ∧ 0 ≤ y ∧ y ≤ 4 := by
      rcases hu2 with e | e
      · exact ⟨_, e, by omega, by omega⟩
      · exact ⟨_, e, by omega, by omega⟩
    refine ⟨l, _, _, _, rfl, rfl, SqL.of hl1, hu1, ?_⟩
    refine ⟨_, rfl, Nat.zero_le _, fun l2 nl2 => ?_⟩
    have sl2 := same_new (o := .lst []) nl2
    have s2 := s1.trans sl2
    refine ⟨strD ls, strD [], strs_dp (s2 _ _ ha), strs_dp (ls := []) upd_same, strD_shaped lok, strD_shaped (fun z hz => absurd hz List.not_mem_nil), .inr ⟨_, rfl, ?_⟩⟩
    rw [strD_eqv]
    have hd2 := sl2 _ _ hd1
    generalize upd H1 l2 (.lst []) = H2 at s2 hd2 ⊢
    obtain ⟨k, hk, kz⟩ : ∃ k : Nat, y * (if (!decide (ls = [])) = true then 1 else 0) = (k : Int) ∧ k ≤ 4 ∧ (ls = [] → k = 0) := by
      by_cases e : ls = []
      · rw [e]
        exact ⟨0, by simp, by decide, fun _ => rfl⟩
      · rw [decide_eq_false e]
        exact ⟨y.toNat, by simp; omega, by omega, fun z => absurd z e⟩
    refine ⟨_, _, rfl, rfl, .inl ⟨by omega, by omega⟩, ?_⟩
    refine ⟨(k : Int), congrArg (fun z => [V.int z]) hk, by omega, by omega, ?_⟩
    refine for_range (n := ((k : Nat) : Int).toNat) (fun i σ H3 => ∃ (v4 v5 v6 : Option V) (m : Ms), σ = [some (.int c), some (.ref a), some (.ref d), some (.bl (decide ((ls.length : Int) < 4))), v4, v5, v6] ∧ Same H H3 ∧ H3 d = some (.dK (enc m)) ∧ (m.map (·.1)).Nodup ∧ m.length ≤ i ∧ ∀ p ∈ m, p.1 ∈ ls ∧ p.2.natAbs ≤ shB ls.length)
      ⟨none, none, none, [], by rw [← lml]; rfl, s2, hd2, List.nodup_nil, Nat.le_refl _, fun p hp => absurd hp List.not_mem_nil⟩ ?_ ?_
    · rintro i σ H3 hi ⟨v4, v5, v6, m, rfl, sm, hd, hn, hml, hmw⟩
      have ne : ls ≠ [] := fun e => by have := kz.2 e; omega
      have hwlen : (0 : Int) < ((ls.map V.str).length : Int) := by
        rw [lml]
        have := List.length_pos_iff.mpr ne
        omega
      refine ⟨_, rfl, _, rfl, c, 0 + (i : Int), rfl, fun x hx0 hx1 => ?_⟩
      refine ⟨_, rfl, _, _, rfl, rfl, ⟨by decide, by decide⟩, _, _, rfl, rfl, (by show (0 : Int) < 7; decide), _, _, rfl, rfl, _, rfl, _, _, rfl, rfl, ⟨by decide, by decide⟩, _, _, rfl, rfl, (by show (0 : Int) < 101; decide), _, _, rfl, rfl, (by show 2 ≤ sizeLine; decide), fun l3 nl3 => ?_⟩
      refine ⟨_, rfl, _, _, rfl, rfl, ⟨by decide, by decide⟩, _, _, rfl, rfl, (by show (0 : Int) < 8; decide), _, _, rfl, rfl, ⟨by decide, by decide⟩, _, rfl, .inr ⟨_, rfl, ?_⟩⟩
      have q7 : 0 ≤ x / 4096 % 8 / 7 ∧ x / 4096 % 8 / 7 ≤ 1 := by omega
      refine ⟨_, _, rfl, rfl, .inl ⟨by omega, by omega⟩, ?_⟩
      have s3 := same_new (o := .lst [V.int (x / 64 % 7 - 3), V.int (x / 64 % 101 - 50)]) nl3
      obtain ⟨y, hy, hyb⟩ : ∃ y : Int, atI [V.int (x / 64 % 7 - 3), V.int (x / 64 % 101 - 50)] (x / 4096 % 8 / 7 * if decide ((ls.length : Int) < 4) = true then 1 else 0) = some (.int y) ∧ y.natAbs ≤ shB ls.length := by
        have hb : 3 ≤ shB ls.length := by unfold shB; split <;> decide
        by_cases e : (ls.length : Int) < 4
        · rw [decide_eq_true e, if_pos rfl, Int.mul_one]
          have h50 : shB ls.length = 50 := by unfold shB; rw [if_pos (by omega)]
          obtain ⟨u, hu1, hu2⟩ := two_val (a := V.int (x / 64 % 7 - 3)) (b := V.int (x / 64 % 101 - 50)) (i := x / 4096 % 8 / 7) (by omega) (by omega)
          rcases hu2 with e2 | e2
          · exact ⟨_, by rw [hu1, e2], by omega⟩
          · exact ⟨_, by rw [hu1, e2], by omega⟩
        · rw [decide_eq_false e, if_neg (by decide), Int.mul_zero]
          exact ⟨_, rfl, by omega⟩
      refine ⟨l3, _, _, _, rfl, rfl, SqL.of upd_same, hy, ?_⟩
      have ha3 := s3 _ _ (sm _ _ ha)
      have hd3 := s3 _ _ hd
      obtain ⟨z, hz, ez⟩ := mod_at ne x
      refine ⟨_, rfl, _, rfl, _, rfl, _, rfl, _, rfl, a, _, rfl, .inl (SqL.of ha3), _, _, rfl, rfl, hwlen, a, _, _, _, rfl, rfl, SqL.of ha3, ez, ?_⟩
      have kl : i < 4 := by omega
      refine ⟨d, _, rfl, dput_enc hd3 hn (small1000' (by omega)), ?_⟩
      refine ⟨_, _, _, put m z y, rfl, same_upd (sm.trans s3) nd0, upd_same, put_nodup _ _ hn, Nat.le_trans (put_len _ _ _) (by omega), fun p hp => ?_⟩
      rcases put_mem hp with e | e
      · rw [e]
        exact ⟨hz, hyb⟩
      · exact hmw p e
    · rintro σ H3 ⟨v4, v5, v6, m, rfl, sm, hd, hn, hml, hmw⟩
      exact ⟨_, rfl, q _ d m sm nd0 hd hn (by omega) hmw⟩
end
end MK


set_option Elab.async false
set_option linter.all false
set_option maxRecDepth 100000
set_option maxHeartbeats 4000000
namespace MK
open PySem PySem.Spec PyProof.Rows L2
/-! ### rows that a choice solves -/
/-- the choice's powers of j, letter by letter -/
def xsOf (ls : List Str) (ch : List (Str × Ms)) (j : Str) : List Int := ls.map fun l => at0 (fill ch l) j
structure ChOk (ls os : List Str) (ch : List (Str × Ms)) : Prop where
  ky : ch.map (·.1) = ls
  me : ∀ x ∈ ch, Can x.2 ∧ x.2.length ≤ 3 ∧ ∀ p ∈ x.2, p.1 ∈ os ∧ p.2.natAbs ≤ 20
  nd : ls.Nodup
  ll : ls.length ≤ 23
  lt : ∀ z ∈ ls, LtOk z
  ot : ∀ z ∈ os, LtOk z ∧ z ∉ ls
  o4 : os.length ≤ 4
theorem ChOk.fl {ls os : List Str} {ch : List (Str × Ms)} (h : ChOk ls os ch) {l : Str} (hl : l ∈ ls) : Can (fill ch l) ∧ (fill ch l).length ≤ 3 ∧ ∀ p ∈ fill ch l, p.1 ∈ os ∧ p.2.natAbs ≤ 20 := by
  unfold fill
  cases e : lk ch l with
  | none =>
    have := lk_none.mp e
    rw [h.ky] at this
    exact absurd hl this
  | some m => exact h.me _ (mem_of_lk e)
structure RowOk (ls os : List Str) (xs : Str → List Int) (m : Ms) : Prop where
  c : Can m
  k : ∀ p ∈ m, p.1 ∈ ls ∨ p.1 ∈ os
  b : ∀ p ∈ m, p.2.natAbs ≤ 2 ^ 20
  s : LeL (shB ls.length) (powersOf m ls)
  z : ∀ j, sumAt (notIn ls m) j + dotL (powersOf m ls) (xs j) = 0
theorem sum_pickS (f : Str → Int) (z : Str) (v : Int) : ∀ {ls : List Str}, ls.Nodup → (SumF ls fun l => f l * if z = l then v else 0) = if z ∈ ls then f z * v else 0
  | [], _ => rfl
  | a :: ls, nd => by
    obtain ⟨n1, n2⟩ := List.nodup_cons.mp nd
    have ih := sum_pickS f z v n2
    show f a * (if z = a then v else 0) + SumF ls _ = _
    rw [ih]
    by_cases e : z = a
    · subst e
      rw [if_pos rfl, if_neg n1, if_pos (List.mem_cons_self ..)]
      omega
    · rw [if_neg e, Int.mul_zero]
      by_cases e2 : z ∈ ls
      · rw [if_pos e2, if_pos (List.mem_cons_of_mem _ e2)]
        omega
      · rw [if_neg e2, if_neg (fun w => (List.mem_cons.mp w).elim e e2)]
        rfl
theorem sum_keys (f : Str → Int) {ls : List Str} (nd : ls.Nodup) : ∀ {r : Ms}, (∀ p ∈ r, p.1 ∈ ls) → (SumF r fun p => f p.1 * p.2) = SumF ls fun l => f l * sumAt r l
  | [], _ => (sf_zero fun _ _ => Int.mul_zero _).symm
  | p :: r, h => by
    have ih := sum_keys f nd (r := r) fun q hq => h q (List.mem_cons_of_mem _ hq)
    show f p.1 * p.2 + SumF r _ = _
    rw [ih]
    have e : (SumF ls fun l => f l * sumAt (p :: r) l) = (SumF ls fun l => f l * if p.1 = l then p.2 else 0) + SumF ls fun l => f l * sumAt r l := by
      rw [sf_add]
      refine sf_congr fun l _ => ?_
      show f l * ((if p.1 = l then p.2 else 0) + sumAt r l) = _
      rw [Int.mul_add]
    rw [e, sum_pickS f p.1 p.2 nd, if_pos (h p (List.mem_cons_self ..))]
theorem dot_map {α : Type} (f g : α → Int) : ∀ ls : List α, dotL (ls.map f) (ls.map g) = SumF ls fun l => f l * g l
  | [] => rfl
  | a :: ls => by
    have ih := dot_map f g ls
    show f a * g a + dotL (ls.map f) (ls.map g) = f a * g a + SumF ls _
    rw [ih]
theorem flat_parts (fl : List (Str × Ms)) (m : Ms) (j : Str) : sumAt (flat (parts fl m)) j = SumF m fun p => sumAt (fill fl p.1) j * p.2 := by
  rw [flat_sum]
  unfold parts
  rw [List.map_map]
  rfl
/-- a share, less what it comes to by the choice -/
theorem row_ok {ls os : List Str} {ch : List (Str × Ms)} (h : ChOk ls os ch) {m0 r0 rf r : Ms} (n0 : (m0.map (·.1)).Nodup) (l4 : m0.length ≤ 4) (k0 : ∀ p ∈ m0, p.1 ∈ ls ∧ p.2.natAbs ≤ shB ls.length) (c0 : Can r0) (e0 : ∀ j, at0 r0 j = at0 m0 j)
    (ef : ∀ j, at0 rf j = sumAt (flat (parts ch r0)) j) (cr : Can r) (er : ∀ j, at0 r j = at0 m0 j - at0 rf j) : RowOk ls os (xsOf ls ch) r := by
  have rk : ∀ p ∈ r0, p ∈ m0 := made_in c0 e0
  have b50 : shB ls.length ≤ 50 := by unfold shB; split <;> decide
  have m0j : ∀ j, (at0 m0 j).natAbs ≤ shB ls.length ∧ (j ∉ ls → at0 m0 j = 0) := fun j => by
    by_cases e : at0 m0 j = 0
    · rw [e]
      exact ⟨Nat.zero_le _, fun _ => rfl⟩
    · obtain ⟨x, y⟩ := k0 _ (at0_mem e)
      exact ⟨y, fun n => absurd x n⟩
  have fj : ∀ l ∈ ls, ∀ j, (sumAt (fill ch l) j).natAbs ≤ 20 ∧ (j ∉ os → sumAt (fill ch l) j = 0) := fun l hl j => by
    obtain ⟨g1, g2, g3⟩ := h.fl hl
    by_cases e : sumAt (fill ch l) j = 0
    · rw [e]
      exact ⟨Nat.zero_le _, fun _ => rfl⟩
    · rw [can_sum' g1] at e ⊢
      obtain ⟨x, y⟩ := g3 _ (at0_mem e)
      exact ⟨y, fun n => absurd x n⟩
  have rfj : ∀ j, at0 rf j = SumF ls fun l => sumAt (fill ch l) j * at0 m0 l := fun j => by
    rw [ef, flat_parts, sum_keys (fun l => sumAt (fill ch l) j) h.nd fun p hp => (k0 p (rk p hp)).1]
    refine sf_congr fun l _ => ?_
    rw [can_sum' c0, e0]
  have rfl0 : ∀ j, j ∉ os → at0 rf j = 0 := fun j hj => by
    rw [rfj]
    exact sf_zero fun l hl => by rw [(fj l hl j).2 hj, Int.zero_mul]
  have inl : ∀ j ∈ ls, at0 r j = at0 m0 j := fun j hj => by
    rw [er, rfl0 j fun z => (h.ot j z).2 hj]
    omega
  have rfb : ∀ j, (at0 rf j).natAbs ≤ 4 * (20 * 50) := fun j => by
    rw [ef, flat_parts]
    have a := abs_sum (fun p : Str × Int => sumAt (fill ch p.1) j * p.2) (20 * 50) r0 fun p hp => by
      obtain ⟨x, y⟩ := k0 p (rk p hp)
      rw [Int.natAbs_mul]
      exact Nat.mul_le_mul (fj _ x j).1 (Nat.le_trans y b50)
    have l : r0.length ≤ 4 := Nat.le_trans (made_few c0 e0) l4
    have := Nat.mul_le_mul_right (20 * 50) l
    omega
  refine ⟨cr, fun p hp => ?_, fun p hp => ?_, fun x hx => ?_, fun j => ?_⟩
  · have e := at0_key cr hp
    have nz := cr.nz p hp
    rw [← e, er] at nz
    by_cases z : p.1 ∈ os
    · exact .inr z
    · rw [rfl0 _ z] at nz
      by_cases w : p.1 ∈ ls
      · exact .inl w
      · rw [(m0j p.1).2 w] at nz
        exact absurd rfl nz
  · have e := at0_key cr hp
    rw [← e, er]
    have := (m0j p.1).1
    have := rfb p.1
    omega
  · unfold powersOf at hx
    obtain ⟨z, hz, rfl⟩ := List.mem_map.mp hx
    rw [inl z hz]
    exact (m0j z).1
  · have ep : powersOf r ls = ls.map (at0 m0) := by
      unfold powersOf
      exact List.map_congr_left fun z hz => inl z hz
    rw [ep, sum_notIn]
    unfold xsOf
    rw [dot_map, can_sum' cr]
    have es : (SumF ls fun l => at0 m0 l * at0 (fill ch l) j) = at0 rf j := by
      rw [rfj]
      exact sf_congr fun l hl => by rw [can_sum' (h.fl hl).1, Int.mul_comm]
    rw [es]
    by_cases e : j ∈ ls
    · rw [if_pos e, rfl0 j fun z => (h.ot j z).2 e]
      rfl
    · rw [if_neg e, er, (m0j j).2 e]
      omega
section
variable {P : Program} {w : World} {K : PySem.W.Frag} {mg : Str → Option Value} {base : Heap}
/-! ### _law_rows -/
theorem scRows : FnScope ["_law_script", "_law_first", "_law_letters", "_law_choice", "_law_rows_here", "_law_many", "_law_k", "_law_powers", "_law_share_here", "_law_letter", "_law_more"] ["_law_script", "_law_first", "_law_letters", "_law_choice"] (defScope sRows) := ⟨rfl, rfl, rfl, by decide +kernel, rfl, by decide +kernel, by decide +kernel⟩
def spRows (K : PySem.W.Frag) : Sp := fun vs H Q _ => ∃ (s : Addr) (ns : List Int) (f : Nat) (a d : Addr) (ls os : List Str) (ads : List (Str × Addr)) (ch : List (Str × Ms)), vs = [.ref s, .int f, .ref a, .ref d] ∧ SqL K H s (ns.map V.int) ∧ H a = some (.lst (ls.map V.str)) ∧ NmAt H d ads ch ∧ ChOk ls os ch ∧
  ∀ (H' : Hp) (p : Addr) (rds : List Addr) (ms : List Ms), Same H H' → H p = none → H' p = some (.lst (rds.map V.ref)) → Paired (MsN H') rds ms → ms.length ≤ 5 ∧ (4 < ls.length → ms.length ≤ 3) → (∀ m ∈ ms, RowOk ls os (xsOf ls ch) m) → Q (.ref p) H'
theorem ok_rows {f fX fC fM fS fF : Addr} {fd fdX fdC fdM fdS fdF : FuncData} (F : Fun K "_law_rows" "_law_rows" sRows f fd) (FX : Fun K "_law_mix" "_law_mix" sMix fX fdX) (bX : Binds K fdX ["_law_cell", "_law_k"] []) (gX : mg "_law_mix" = some (.ref fX))
    (FC : Fun K "_law_cell_at" "_law_cell_at" sCell fC fdC) (bC : Binds K fdC ["_law_script", "_law_k"] []) (gC : mg "_law_cell_at" = some (.ref fC))
    (FM : Fun K "_law_made" "_law_made" sMade fM fdM) (bM : Binds K fdM ["_law_powers"] []) (gM : mg "_law_made" = some (.ref fM))
    (FS : Fun K "_law_share" "_law_share" sShare fS fdS) (bS : Binds K fdS ["_law_cell", "_law_letters"] []) (gS : mg "_law_share" = some (.ref fS))
    (FF : Fun K "_law_filled" "_law_filled" sFilled fF fdF) (bF : Binds K fdF ["_law_measure", "_law_filling"] []) (gF : mg "_law_filled" = some (.ref fF))
    (mr : mg "range" = none) (ml : mg "len" = none) (mi : mg "int" = none) (mt : mg "tuple" = none) (ms : mg "sorted" = none) : FnOk P w K mg base CX0 3 f fd ["_law_script", "_law_first", "_law_letters", "_law_choice"] (spRows K) := by
  have GX : FnOk P w K mg base CX0 1 fX fdX ["_law_cell", "_law_k"] spMix := ok_mix FX
  have GC : FnOk P w K mg base CX0 1 fC fdC ["_law_script", "_law_k"] (spCell K) := ok_cell FC ml
  have GM : FnOk P w K mg base CX0 1 fM fdM ["_law_powers"] spMade := ok_made FM mt ms
  have GS : FnOk P w K mg base CX0 2 fS fdS ["_law_cell", "_law_letters"] spShare := ok_share FS FX bX gX mr ml mi
  have GF : FnOk P w K mg base CX0 2 fF fdF ["_law_measure", "_law_filling"] spFilledW := ok_filledW FF FM bM gM mt ms
  refine F.ok scRows (fun vs H Q E h => ?_) (fun cdv A outer s H vs Q E hr h => ?_)
  · obtain ⟨s, ns, f, a, d, ls, os, ads, ch, rfl, _⟩ := h
    rfl
  · obtain ⟨sc, ns, fi, a, d, ls, os, ads, ch, rfl, hS, ha, hch, co, q⟩ := h
    have nd := scRows.nd
    have hu := hu_of hr
    have hr1 : Room 1 _ := hr.mono (by omega)
    have kS : sizeLine = 16777216 := sizeLine_eq
    refine ⟨_, pss_cons (ps_set (i := 4) nd rfl (.inl rfl) (pe_lst pa_nil))
      (pss_cons (ps_set (i := 5) nd rfl (.inl rfl) (pe_call GC hr1 (by rfl) gC FC.kp bC .nil pass0 (pa_cons (pv 0) (pa_cons (pv 1) pa_nil))))
      (pss_cons (ps_for PassesOwn.never rfl (pi_range1 rfl mr (pa_cons (pe_ix ix_list (pe_lst (pa_cons (pe_op op_mod (pv 5) pe_int) (pa_cons (pe_op op_mod (pv 5) pe_int) pa_nil))) (pe_callTy call_int1 (by rfl) mi PyProof.Rows.boot_int (pa_cons (pe_cmpR op_gt (pe_callB call_len_seq (by rfl) ml PySem.boot_len (pa_cons (pv 2) pa_nil)) pe_int (nomark _)) pa_nil)) (fun _ _ => rfl)) pa_nil)) (pg_name (i := 6) nd rfl (.inl rfl))
        (pss_cons (ps_set (i := 7) nd rfl (.inl rfl) (pe_call GS hr (by rfl) gS FS.kp bS .nil pass0 (pa_cons (pe_call GX hr1 (by rfl) gX FX.kp bX .nil pass0 (pa_cons (pe_call GC hr1 (by rfl) gC FC.kp bC .nil pass0 (pa_cons (pv 0) (pa_cons (pe_op op_add (pe_op op_add (pv 1) pe_int) (pv 6)) pa_nil))) (pa_cons (pv 6) pa_nil))) (pa_cons (pv 2) pa_nil))))
        (pss_cons (ps_set (i := 8) nd rfl (.inl rfl) (pe_call GM hr1 (by rfl) gM FM.kp bM .nil pass0 (pa_cons (pv 7) pa_nil)))
        (pss_cons (ps_for PassesOwn.never rfl (pi_tup (pe_call GF hr (by rfl) gF FF.kp bF .nil pass0 (pa_cons (pv 8) (pa_cons (pv 3) pa_nil)))) (pg_tup rfl (pgs_cons (pg_name (i := 9) nd rfl (.inl rfl)) (pgs_cons (pg_name (i := 10) nd rfl (.inl rfl)) pgs_nil)))
          (pss_one (ps_dput hu (pv 7) (pv 9) (pe_op op_sub (pe_dget2 hu (pv 7) (pv 9) pe_int ⟨rfl, rfl, rfl, rfl⟩) (pv 10)) rfl)))
        (pss_one (ps_expr (pe_bm PySem.F.plainAttrs_list PySem.F.slot_list_append PySem.F.type_list_append mt_append (pv 4) (pa_cons (pe_call GM hr1 (by rfl) gM FM.kp bM .nil pass0 (pa_cons (pv 7) pa_nil)) pa_nil))))))))
      (pss_one (ps_ret (pv 4))))), ?_⟩
    refine ⟨Nat.zero_le _, fun o no => ?_⟩
    have s0 := same_new (o := .lst []) no
    refine ⟨_, rfl, _, rfl, sc, ns, fi, rfl, s0.seq hS, fun c c0 c1 => ?_⟩
    refine ⟨_, rfl, _, _, rfl, rfl, (by show (0 : Int) < 6; decide), _, rfl, _, _, rfl, rfl, (by show (0 : Int) < 4; decide), (by show 2 ≤ sizeLine; decide), fun l nl => ?_⟩
    have sl := same_new (o := .lst [V.int (c % 6), V.int (c % 4)]) nl
    have s1 := s0.trans sl
    refine ⟨_, rfl, a, _, rfl, .inl (SqL.of (s1 _ _ ha)), _, _, rfl, rfl, .inr ⟨_, rfl, ?_⟩⟩
    obtain ⟨y, hu1, y0, y1, y3⟩ : ∃ y : Int, atI [V.int (c % 6), V.int (c % 4)] (if decide (4 < ((ls.map V.str).length : Int)) = true then 1 else 0) = some (.int y) ∧ 0 ≤ y ∧ y ≤ 5 ∧ (4 < ls.length → y ≤ 3) := by
      rw [List.length_map]
      by_cases h : 4 < ls.length
      · rw [if_pos (decide_eq_true (by omega))]
        exact ⟨c % 4, rfl, by omega, by omega, fun _ => by omega⟩
      · rw [if_neg (by rw [decide_eq_false (by omega)]; exact Bool.false_ne_true)]
        exact ⟨c % 6, rfl, by omega, by omega, fun z => absurd z h⟩
    refine ⟨l, _, _, _, rfl, rfl, SqL.of upd_same, hu1, ?_⟩
    have ho1 := sl _ _ (upd_same (H := H) (a := o) (o := .lst []))
    generalize upd (upd H o (.lst [])) l (.lst [V.int (c % 6), V.int (c % 4)]) = H1 at s1 ho1 ⊢
    refine ⟨_, rfl, by omega, by omega, ?_⟩
    refine for_range (n := y.toNat) (fun i σ H2 => ∃ (v6 v7 v8 v9 v10 : Option V) (rds : List Addr) (ms : List Ms), σ = [some (.ref sc), some (.int fi), some (.ref a), some (.ref d), some (.ref o), some (.int c), v6, v7, v8, v9, v10] ∧ Same H H2 ∧ H2 o = some (.lst (rds.map V.ref)) ∧ Paired (MsN H2) rds ms ∧ ms.length = i ∧ ∀ m ∈ ms, RowOk ls os (xsOf ls ch) m)
      ⟨none, none, none, none, none, [], [], rfl, s1, ho1, .nil, rfl, fun m hm => absurd hm List.not_mem_nil⟩ ?_ ?_
    · rintro i σ H2 hi ⟨v6, v7, v8, v9, v10, rds, ms', rfl, sm, ho, pr, msl, mok⟩
      have ei : (fi : Int) + 1 + (0 + (i : Int)) = ((fi + 1 + i : Nat) : Int) := by omega
      refine ⟨_, rfl, _, rfl, _, _, rfl, rfl, _, rfl, _, _, rfl, rfl, sc, ns, fi + 1 + i, ?_, sm.seq hS, fun c2 c20 c21 => ?_⟩
      · show [V.ref sc, V.int ((fi : Int) + 1 + (0 + (i : Int)))] = _
        rw [ei]
      refine ⟨_, rfl, c2, _, rfl, fun x x0 x1 => ?_⟩
      refine ⟨_, rfl, x, a, ls, rfl, x0, x1, sm _ _ ha, co.ll, fun z hz => (co.lt z hz).2, fun H3 dm m0 s3 ndm hdm n0 l4 k0 => ?_⟩
      refine ⟨_, rfl, dm, m0, rfl, hdm, n0, by omega, fun H4 p4 r0 s4 np4 hp4 c4 e4 => ?_⟩
      have s24 := s3.trans s4
      have rk : ∀ p ∈ r0, p ∈ m0 := made_in c4 e4
      have r4 : r0.length ≤ 4 := Nat.le_trans (made_few c4 e4) l4
      have b50 : shB ls.length ≤ 50 := by unfold shB; split <;> decide
      have sm50 : ∀ {x : Int}, x.natAbs ≤ 50 → Sm 49000 x := fun h => Sm.mono (a := 6) (Nat.lt_of_le_of_lt h (by decide)) (by decide)
      refine ⟨_, rfl, _, rfl, p4, d, r0, ads, ch, rfl, hp4, hch.same (sm.trans s24), ?_, fun q hq => ?_, fun H5 p5 rf s5 np5 hp5 c5 e5 => ?_⟩
      · have h1 := flat_len_le (n := 3) (parts ch r0) fun q hq => by
          obtain ⟨p, hp, rfl⟩ := List.mem_map.mp hq
          exact (co.fl (k0 p (rk p hp)).1).2.1
        have h2 : (parts ch r0).length = r0.length := List.length_map _
        omega
      · obtain ⟨p, hp, rfl⟩ := List.mem_map.mp hq
        obtain ⟨g1, g2⟩ := k0 p (rk p hp)
        exact ⟨sm50 (Nat.le_trans g2 b50), fun p' hp' => sm50 (by have := ((co.fl g1).2.2 p' hp').2; omega)⟩
      have s25 := s24.trans s5
      have hdm5 := s5 _ _ (s4 _ _ hdm)
      obtain ⟨us, hus, prf⟩ := id hp5
      have hlu : us.length = rf.length := prf.length
      have rfk : ∀ p ∈ rf, p.1 ∈ os := fun p hp => by
        by_cases z : p.1 ∈ os
        · exact z
        · exfalso
          have e := at0_key c5 hp
          rw [e5, flat_parts, sf_zero fun p' hp' => by
            obtain ⟨g1, g2⟩ := k0 p' (rk p' hp')
            have : sumAt (fill ch p'.1) p.1 = 0 := by
              rw [can_sum' (co.fl g1).1]
              by_cases w : at0 (fill ch p'.1) p.1 = 0
              · exact w
              · exact absurd ((co.fl g1).2.2 _ (at0_mem w)).1 z
            rw [this, Int.zero_mul]] at e
          exact c5.nz p hp e.symm
      have rfl4 : rf.length ≤ 4 := Nat.le_trans (keys_le c5.ris.nodup rfk) co.o4
      refine ⟨p5, rfl, ⟨_, TupN.sq hus⟩, for_tup (xs := us.map V.ref) (fun k σ H6 => ∃ (v9 v10 : Option V) (m : Ms), σ = [some (.ref sc), some (.int fi), some (.ref a), some (.ref d), some (.ref o), some (.int c), some (.int (0 + (i : Int))), some (.ref dm), some (.ref p4), v9, v10] ∧ Same H2 H6 ∧ H6 dm = some (.dK (enc m)) ∧ TupN H6 p5 (us.map V.ref) ∧ Paired (PrAt H6) us rf ∧ (m.map (·.1)).Nodup ∧ m.length ≤ 4 + k ∧ ∀ j, at0 m j = at0 m0 j - sumAt (rf.take k) j)
        ⟨v9, v10, m0, rfl, s25, hdm5, hus, prf, n0, by omega, fun j => by show _ = _ - 0; omega⟩ (fun k σ H6 _ z => by obtain ⟨_, _, _, _, _, _, z, _⟩ := z; exact TupN.sq z) ?_ ?_⟩
      · rintro k v σ H6 hx ⟨v9, v10, m, rfl, s6, hd6, hus6, pr6, n6, l6, a6⟩
        obtain ⟨u, hu1, rfl⟩ := at_map hx
        obtain ⟨p, hp, hup⟩ := paired_ix pr6 hu1
        have hup : H6 u = some (.tup [.str p.1, .int p.2]) := hup
        have kl : k < us.length := (List.getElem?_eq_some_iff.mp hu1).1
        obtain ⟨oo, hoo, hoo2⟩ := dget_enc2 p.1 hd6
        refine ⟨u, _, rfl, SqT.of hup, rfl, _, _, rfl, _, _, rfl, rfl, ?_⟩
        refine ⟨_, rfl, dm, rfl, .inl ⟨_, .inl hd6⟩, _, rfl, oo, hoo, ?_⟩
        rw [hoo2]
        refine ⟨_, rfl, _, _, rfl, rfl, _, rfl, _, rfl, dm, _, rfl, dput_enc hd6 n6 (small1000' (by omega)), ?_⟩
        have e3 : rf.take (k + 1) = rf.take k ++ [p] := take_more hp
        refine ⟨_, _, put m p.1 (at0 m p.1 - p.2), rfl, same_upd s6 ndm, upd_same, ?_, pr_dict hd6 pr6, put_nodup _ _ n6, Nat.le_trans (put_len _ _ _) (by omega), fun j => ?_⟩
        · obtain ⟨o2, e, dn⟩ := hus6
          refine ⟨o2, ?_, dn⟩
          rw [upd_ne (ne_of e hd6 (fun e => nomatch e))]
          exact e
        · rw [at0_put, e3, sumAt_append, a6, a6, sumAt_one]
          by_cases e : j = p.1
          · rw [if_pos e, if_pos e.symm, e]
            omega
          · rw [if_neg e, if_neg (fun z => e z.symm)]
            omega
      · rintro σ H6 ⟨v9, v10, m, rfl, s6, hd6, hus6, pr6, n6, l6, a6⟩
        rw [List.length_map, hlu, List.take_length] at a6
        rw [List.length_map] at l6
        have ho6 := s6 _ _ ho
        refine ⟨_, rfl, .inl ⟨rfl, _, SqL.of ho6⟩, _, rfl, dm, m, rfl, hd6, n6, by omega, fun H7 p7 r7 s7 np7 hp7 c7 e7 => ?_⟩
        have ho7 := s7 _ _ ho6
        have rl := pr.length
        refine ⟨o, _, .ref p7, rfl, rfl, ho7, by rw [List.length_map]; omega, ?_⟩
        refine ⟨_, _, _, _, _, rds ++ [p7], ms' ++ [r7], rfl, same_upd (sm.trans (s6.trans s7)) no, ?_, ?_, by rw [List.length_append, msl]; rfl, fun m' hm' => ?_⟩
        · rw [upd_same, List.map_append]
          rfl
        · exact Paired.snoc (Paired.mono (fun _ _ z => (z.same (s6.trans s7)).lst ho7) pr) (hp7.lst ho7)
        · rcases mem_snoc hm' with h | rfl
          · exact mok m' h
          · exact row_ok co n0 l4 k0 c4 e4 e5 c7 fun j => by rw [e7, a6, can_sum' c5]
    · rintro σ H2 ⟨v6, v7, v8, v9, v10, rds, ms', rfl, sm, ho, pr, msl, mok⟩
      exact ⟨_, rfl, q _ o rds ms' sm no ho pr ⟨by omega, fun z => by have := y3 z; omega⟩ mok⟩
end
end MK


set_option Elab.async false
set_option linter.all false
set_option maxRecDepth 100000
set_option maxHeartbeats 4000000
namespace MK
open PySem PySem.Spec PyProof.Rows L2
section
variable {P : Program} {w : World} {K : PySem.W.Frag} {mg : Str → Option Value} {base : Heap}
/-! ### _law_is_unknown -/
theorem nq_facts : ∀ k : Nat, k < 33 → cutS (nameQ k) none (some 1) = ("?" : Str) ∧ 2 ≤ (nameQ k).length ∧ (nameQ k).length ≤ 3 ∧ (∀ c ∈ (cutS (nameQ k) (some 1) none).cps.toList, c ∈ ("0123456789" : Str).cps.toList) ∧ (nameQ k = ("?0" : Str) ∨ ((nameQ k).cps.toList.getD 1 0 ≠ 48 ∧ nameQ k ≠ ("?0" : Str))) ∧ Ok (nameQ k) := by
  have e : ∀ k : Nat, k < 33 → cutS (nameQ k) none (some 1) = ("?" : Str) ∧ 2 ≤ (nameQ k).length ∧ (nameQ k).length ≤ 3 ∧ (∀ c ∈ (cutS (nameQ k) (some 1) none).cps.toList, c ∈ ("0123456789" : Str).cps.toList) ∧ (nameQ k = ("?0" : Str) ∨ ((nameQ k).cps.toList.getD 1 0 ≠ 48 ∧ nameQ k ≠ ("?0" : Str))) := by decide +kernel
  intro k hk
  obtain ⟨a, b, c, d, f⟩ := e k hk
  exact ⟨a, b, c, d, f, ok_app (ok_string _) (ok_string _)⟩
theorem scIsUn : FnScope ["_law_letter", "_law_sign"] ["_law_letter"] (defScope sIsUn) := ⟨rfl, rfl, rfl, by decide +kernel, rfl, by decide +kernel, by decide +kernel⟩
def spIsUn : Sp := fun vs H Q _ => ∃ k : Nat, vs = [.str (nameQ k)] ∧ k < 33 ∧ Q (.bl true) H
theorem ok_isUn {f : Addr} {fd : FuncData} (F : Fun K "_law_is_unknown" "_law_is_unknown" sIsUn f fd) (mi : mg "isinstance" = none) (mstr : mg "str" = none) (ml : mg "len" = none) : FnOk P w K mg base CX0 1 f fd ["_law_letter"] spIsUn := by
  refine F.ok scIsUn (fun vs H Q E h => ?_) (fun cdv A outer s H vs Q E hr h => ?_)
  · obtain ⟨k, rfl, _⟩ := h
    rfl
  · obtain ⟨k, rfl, hk, q⟩ := h
    have nd := scIsUn.nd
    obtain ⟨f1, f2, f3, f4, f5, _⟩ := nq_facts k hk
    have lz : (nameQ k).length ≤ sizeLine := Nat.le_trans f3 (by decide)
    refine ⟨_, pss_cons (ps_if (pw_or (pt_not (pt_val (pe_callB call_isi (by rfl) mi PyProof.Rows.boot_isinstance (pa_cons (pv 0) (pa_cons (pe_bltn (v := .ty "str") (by rfl) mstr PyProof.Rows.boot_str rfl) pa_nil)))))
          (pw_or (pt_cmpR op_ne (pe_slice sl_str (pv 0) po_none (po_some pe_int)) pe_str (nomark _))
          (pw_or1 (pt_cmpR op_lt (pe_callB call_len_str (by rfl) ml PySem.boot_len (pa_cons (pv 0) pa_nil)) pe_int (nomark _))))).pt (pss_one (ps_ret pe_bl)) pss_nil)
      (pss_cons (ps_for PassesOwn.never rfl (pi_str (pe_slice sl_str (pv 0) (po_some pe_int) po_none)) (pg_name (i := 1) nd rfl (.inl rfl))
        (pss_one (ps_if (pt_cmpR op_notIn_sign (pv 1) pe_str (by rfl)) (pss_one (ps_ret pe_bl)) pss_nil)))
      (pss_one (ps_ret (pe_or (pe_cmpR op_eq (pv 0) pe_str (nomark _)) (pe_one (pe_cmpR op_ne (pe_ix ix_str (pv 0) pe_int (fun _ _ => rfl)) pe_str (nomark _))))))), ?_⟩
    refine ⟨_, rfl, _, _, _, _, true, rfl, .ty _, .base (.str _), kit_ty (by decide +kernel), true, rfl, iteF ?_⟩
    refine ⟨_, rfl, _, rfl, _, rfl, lz, ?_⟩
    rw [f1]
    refine ⟨rfl, _, rfl, iteF ?_⟩
    refine ⟨_, rfl, _, rfl, lz, _, _, rfl, rfl, _, rfl, ?_⟩
    rw [decide_eq_false (show ¬ ((nameQ k).length : Int) < 2 by omega)]
    refine iteF ?_
    have cl : (cutS (nameQ k) (some 1) none).cps.size ≤ 3 := Nat.le_trans (cutS_length (nameQ k) (some 1) none) f3
    refine ⟨_, rfl, _, rfl, _, rfl, lz, _, rfl, for_it walk_str (fun i σ H' => H' = H ∧ ∃ v1 : Option V, σ = [some (.str (nameQ k)), v1]) ⟨rfl, none, rfl⟩ (fun _ _ _ _ _ => trivial) ?_ ?_⟩
    · rintro i v σ H2 H3 hi ⟨rfl, v1, rfl⟩ ⟨rfl, c, hc, rfl⟩
      have cm : c ∈ (cutS (nameQ k) (some 1) none).cps.toList := by
        have : (cutS (nameQ k) (some 1) none).cps.toList[i]? = some c := by rw [Array.getElem?_toList]; exact hc
        exact List.mem_of_getElem? this
      refine ⟨_, rfl, c, _, rfl, rfl, _, rfl, ?_⟩
      rw [decide_eq_true (f4 c cm)]
      exact iteF ⟨rfl, _, rfl⟩
    · rintro σ H2 ⟨rfl, v1, rfl⟩
      refine ⟨_, rfl, rfl, ?_⟩
      rcases f5 with e | ⟨e1, e2⟩
      · rw [e, decide_eq_true rfl]
        exact ⟨true, rfl, iteT q⟩
      · rw [decide_eq_false fun z => e2 (V.str.inj z)]
        refine ⟨false, rfl, iteF ?_⟩
        have l2 : 1 < (nameQ k).cps.toList.length := by rw [Array.length_toList]; exact f2
        have g : (nameQ k).cps.toList[1]? = some ((nameQ k).cps.toList.getD 1 0) := by
          rw [List.getD_eq_getElem?_getD, List.getElem?_eq_getElem l2]
          rfl
        refine ⟨_, rfl, _, 1, _, rfl, rfl, lz, atI_nat (j := 1) g, rfl, ?_⟩
        rw [decide_eq_false fun z => e1 (by
          have := congrArg (fun x : Str => x.cps.toList) (V.str.inj z)
          exact (List.cons.inj this).1)]
        exact q
end
end MK


set_option Elab.async false
set_option linter.all false
set_option maxRecDepth 100000
set_option maxHeartbeats 4000000
namespace MK
open PySem PySem.Spec PyProof.Rows L2
section
variable {P : Program} {w : World} {K : PySem.W.Frag} {mg : Str → Option Value} {base : Heap}
/-! ### _law_whole -/
def spWhole : Sp := fun vs H Q _ => ∃ n : Int, vs = [.int n] ∧ Q (.bl true) H
theorem scWhole : FnScope ["_law_found"] ["_law_found"] (defScope sWhole) := ⟨rfl, rfl, rfl, by decide +kernel, rfl, by decide +kernel, by decide +kernel⟩
theorem ok_whole {f : Addr} {fd : FuncData} (F : Fun K "_law_whole" "_law_whole" sWhole f fd) (mi : mg "isinstance" = none) (mn : mg "int" = none) (mb : mg "bool" = none) : FnOk P w K mg base CX0 1 f fd ["_law_found"] spWhole := by
  refine F.ok scWhole (fun vs H Q E h => ?_) (fun cdv A outer s H vs Q E hr h => ?_)
  · obtain ⟨n, rfl, _⟩ := h
    rfl
  · obtain ⟨n, rfl, q⟩ := h
    refine ⟨_, pss_one (ps_ret (pe_and (pe_callB call_isi (by rfl) mi PyProof.Rows.boot_isinstance (pa_cons (pv 0) (pa_cons (pe_bltn (v := .ty "int") (by rfl) mn PyProof.Rows.boot_int rfl) pa_nil)))
      (pe_one (pe_not (pe_callB call_isi (by rfl) mi PyProof.Rows.boot_isinstance (pa_cons (pv 0) (pa_cons (pe_bltn (v := .ty "bool") (by rfl) mb PyProof.Rows.boot_bool rfl) pa_nil))))))), ?_⟩
    refine ⟨_, rfl, _, _, _, _, true, rfl, .ty _, .base (.int _), kit_ty (by decide +kernel), true, rfl, iteT ?_⟩
    refine ⟨_, rfl, _, _, _, _, false, rfl, .ty _, .base (.int _), kit_ty (by decide +kernel), false, rfl, ?_⟩
    exact q
/-! ### _law_is_measure -/
def spIsM : Sp := fun vs H Q _ => ∃ (b : Addr) (m : Ms), vs = [.ref b] ∧ MsN H b m ∧ Can m ∧ (∀ p ∈ m, LtOk p.1) ∧ Q (.bl true) H
theorem scIsM : FnScope ["_law_found", "_law_ahead", "_law_pair"] ["_law_found"] (defScope sIsM) := ⟨rfl, rfl, rfl, by decide +kernel, rfl, by decide +kernel, by decide +kernel⟩
theorem ris_next {m : Ms} (h : Ris m) {i : Nat} {p q : Str × Int} (hp : m[i]? = some p) (hq : m[i + 1]? = some q) : sLt p.1 q.1 := by
  obtain ⟨h1, e1⟩ := List.getElem?_eq_some_iff.mp hp
  obtain ⟨h2, e2⟩ := List.getElem?_eq_some_iff.mp hq
  have z := List.pairwise_iff_getElem.mp h i (i + 1) h1 h2 (Nat.lt_succ_self i)
  rw [e1, e2] at z
  exact z
theorem ok_isM {f fW : Addr} {fd fdW : FuncData} (F : Fun K "_law_is_measure" "_law_is_measure" sIsM f fd) (FW : Fun K "_law_whole" "_law_whole" sWhole fW fdW) (bW : Binds K fdW ["_law_found"] []) (gW : mg "_law_whole" = some (.ref fW))
    (mi : mg "isinstance" = none) (mn : mg "int" = none) (mb : mg "bool" = none) (mt : mg "tuple" = none) (ml : mg "len" = none) (mstr : mg "str" = none) : FnOk P w K mg base CX0 2 f fd ["_law_found"] spIsM := by
  have GW : FnOk P w K mg base CX0 1 fW fdW ["_law_found"] spWhole := ok_whole FW mi mn mb
  refine F.ok scIsM (fun vs H Q E h => ?_) (fun cdv A outer s H vs Q E hr h => ?_)
  · obtain ⟨b, m, rfl, _⟩ := h
    rfl
  · obtain ⟨b, m, rfl, ⟨ts, ⟨ob, hb, _⟩, pr⟩, hc, hne, q⟩ := h
    have nd := scIsM.nd
    refine ⟨_, pss_cons (ps_if (pt_not (pt_val (pe_callB call_isi (by rfl) mi PyProof.Rows.boot_isinstance (pa_cons (pv 0) (pa_cons (pe_bltn (v := .ty "tuple") (by rfl) mt PyProof.Rows.boot_tuple rfl) pa_nil))))) (pss_one (ps_ret pe_bl)) pss_nil)
      (pss_cons (ps_set (i := 1) nd rfl (.inl rfl) pe_str)
      (pss_cons (ps_for PassesOwn.never rfl (pi_tup (pv 0)) (pg_name (i := 2) nd rfl (.inl rfl))
        (pss_cons (ps_if (pw_or (pt_not (pt_val (pe_callB call_isi (by rfl) mi PyProof.Rows.boot_isinstance (pa_cons (pv 2) (pa_cons (pe_bltn (v := .ty "tuple") (by rfl) mt PyProof.Rows.boot_tuple rfl) pa_nil)))))
            (pw_or (pt_cmpR op_ne (pe_callB call_len_seq (by rfl) ml PySem.boot_len (pa_cons (pv 2) pa_nil)) pe_int (nomark _))
            (pw_or (pt_not (pt_val (pe_callB call_isi (by rfl) mi PyProof.Rows.boot_isinstance (pa_cons (pe_ix ix_tup (pv 2) pe_int (fun _ _ => rfl)) (pa_cons (pe_bltn (v := .ty "str") (by rfl) mstr PyProof.Rows.boot_str rfl) pa_nil)))))
            (pw_or1 (pt_not (pt_val (pe_call GW hr (by rfl) gW FW.kp bW .nil pass0 (pa_cons (pe_ix ix_tup (pv 2) pe_int (fun _ _ => rfl)) pa_nil)))))))).pt
            (pss_one (ps_ret pe_bl)) pss_nil)
        (pss_cons (ps_if (pw_or (pt_cmpR op_le_str (pe_ix ix_tup (pv 2) pe_int (fun _ _ => rfl)) (pv 1) (nomark _))
            (pw_or1 (pt_cmpR op_eq (pe_ix ix_tup (pv 2) pe_int (fun _ _ => rfl)) pe_int (nomark _)))).pt (pss_one (ps_ret pe_bl)) pss_nil)
        (pss_one (ps_set (i := 1) nd rfl (.inl rfl) (pe_ix ix_tup (pv 2) pe_int (fun _ _ => rfl)))))))
      (pss_one (ps_ret pe_bl)))), ?_⟩
    refine ⟨_, rfl, _, _, _, _, true, rfl, .ty _, .fTuple hb, kit_ty (by decide +kernel), true, rfl, iteF ?_⟩
    (repeat (first | refine ⟨_, rfl, ?_⟩ | refine ⟨_, _, rfl, rfl, ?_⟩ | refine ⟨(by show (0 : Int) < _; decide), ?_⟩ | refine ⟨⟨by decide, by decide⟩, ?_⟩ | refine ⟨.inr (by decide), ?_⟩ | refine ⟨.inl (by decide), ?_⟩ | refine ⟨rfl, ?_⟩))
    refine ⟨⟨_, SqT.ofz hb⟩, for_tup (xs := ts.map V.ref) (fun i σ H2 => H2 = H ∧ ∃ (ah : Str) (v2 : Option V), σ = [some (.ref b), some (.str ah), v2] ∧ ∀ p, m[i]? = some p → sLt ah p.1)
      ⟨rfl, _, none, rfl, fun p hp => nil_lt (hne p (List.mem_of_getElem? hp)).1⟩ (fun i σ H2 _ z => by rw [z.1]; exact SqT.ofz hb) ?_ ?_⟩
    · rintro i x σ H2 hx ⟨rfl, ah, v2, rfl, hah⟩
      obtain ⟨t, ht, rfl⟩ := at_map hx
      obtain ⟨p, hp, hpt⟩ := paired_ix pr ht
      have hT : H2 t = some (.tup [.str p.1, .int p.2]) := hpt
      have hlt := hah p hp
      have i0 : atI [V.str p.1, V.int p.2] 0 = some (.str p.1) := rfl
      have i1 : atI [V.str p.1, V.int p.2] 1 = some (.int p.2) := rfl
      refine ⟨_, rfl, _, _, _, _, true, rfl, .ty _, .base (.tup hT), kit_ty (by decide +kernel), true, rfl, iteF ?_⟩
      (repeat (first | refine ⟨_, rfl, ?_⟩ | refine ⟨_, _, rfl, rfl, ?_⟩ | refine ⟨(by show (0 : Int) < _; decide), ?_⟩ | refine ⟨⟨by decide, by decide⟩, ?_⟩ | refine ⟨.inr (by decide), ?_⟩ | refine ⟨.inl (by decide), ?_⟩ | refine ⟨rfl, ?_⟩))
      refine ⟨t, _, rfl, .inr (SqT.of hT), ?_⟩
      (repeat (first | refine ⟨_, rfl, ?_⟩ | refine ⟨_, _, rfl, rfl, ?_⟩ | refine ⟨(by show (0 : Int) < _; decide), ?_⟩ | refine ⟨⟨by decide, by decide⟩, ?_⟩ | refine ⟨.inr (by decide), ?_⟩ | refine ⟨.inl (by decide), ?_⟩ | refine ⟨rfl, ?_⟩))
      refine ⟨t, _, 0, _, rfl, rfl, SqT.of hT, i0, ?_⟩
      refine ⟨_, _, _, _, true, rfl, .ty _, .base (.str _), kit_ty (by decide +kernel), true, rfl, iteF ?_⟩
      (repeat (first | refine ⟨_, rfl, ?_⟩ | refine ⟨_, _, rfl, rfl, ?_⟩ | refine ⟨(by show (0 : Int) < _; decide), ?_⟩ | refine ⟨⟨by decide, by decide⟩, ?_⟩ | refine ⟨.inr (by decide), ?_⟩ | refine ⟨.inl (by decide), ?_⟩ | refine ⟨rfl, ?_⟩))
      refine ⟨t, _, 1, _, rfl, rfl, SqT.of hT, i1, _, rfl, true, rfl, iteF ?_⟩
      -- pair[0] <= ahead or pair[1] == 0
      (repeat (first | refine ⟨_, rfl, ?_⟩ | refine ⟨_, _, rfl, rfl, ?_⟩ | refine ⟨(by show (0 : Int) < _; decide), ?_⟩ | refine ⟨⟨by decide, by decide⟩, ?_⟩ | refine ⟨.inr (by decide), ?_⟩ | refine ⟨.inl (by decide), ?_⟩ | refine ⟨rfl, ?_⟩))
      refine ⟨t, _, 0, _, rfl, rfl, SqT.of hT, i0, _, rfl, _, _, rfl, rfl, _, rfl, ?_⟩
      rw [decide_eq_true hlt]
      refine iteF ?_
      (repeat (first | refine ⟨_, rfl, ?_⟩ | refine ⟨_, _, rfl, rfl, ?_⟩ | refine ⟨(by show (0 : Int) < _; decide), ?_⟩ | refine ⟨⟨by decide, by decide⟩, ?_⟩ | refine ⟨.inr (by decide), ?_⟩ | refine ⟨.inl (by decide), ?_⟩ | refine ⟨rfl, ?_⟩))
      refine ⟨t, _, 1, _, rfl, rfl, SqT.of hT, i1, rfl, _, rfl, ?_⟩
      have nz : p.2 ≠ 0 := hc.nz p (List.mem_of_getElem? hp)
      rw [show decide (V.int p.2 = V.int 0) = false from decide_eq_false fun z => nz (V.int.inj z)]
      refine iteF ?_
      (repeat (first | refine ⟨_, rfl, ?_⟩ | refine ⟨_, _, rfl, rfl, ?_⟩ | refine ⟨(by show (0 : Int) < _; decide), ?_⟩ | refine ⟨⟨by decide, by decide⟩, ?_⟩ | refine ⟨.inr (by decide), ?_⟩ | refine ⟨.inl (by decide), ?_⟩ | refine ⟨rfl, ?_⟩))
      refine ⟨t, _, 0, _, rfl, rfl, SqT.of hT, i0, rfl, _, _, rfl, fun p' hp' => ris_next hc.ris hp hp'⟩
    · rintro σ H2 ⟨rfl, ah, v2, rfl, hah⟩
      exact q
end
end MK


set_option Elab.async false
set_option linter.all false
set_option maxRecDepth 100000
set_option maxHeartbeats 4000000
namespace MK
open PySem PySem.Spec PyProof.Rows L2
theorem nmr_at {H : Hp} {ads : List (Str × Addr)} {nl : List (Str × Ms)} (p : Paired (NmR H) ads nl) {i : Nat} {k : L2.Key} {v : V} (h : (encG V.ref ads)[i]? = some (k, v)) : ∃ z m b, nl[i]? = some (z, m) ∧ k = Sum.inr z ∧ v = .ref b ∧ ads[i]? = some (z, b) ∧ MsN H b m := by
  have h : (ads.map fun y => ((Sum.inr y.1 : L2.Key), V.ref y.2))[i]? = some (k, v) := h
  rw [List.getElem?_map] at h
  cases e : ads[i]? with
  | none => rw [e] at h; cases h
  | some y =>
    rw [e] at h
    have h := Option.some.inj h
    obtain ⟨q, hq, h1, h2⟩ := paired_ix p e
    obtain ⟨z, m⟩ := q
    obtain ⟨h3, h4⟩ := Prod.mk.inj h
    exact ⟨z, m, y.2, hq, by rw [← h3]; exact congrArg Sum.inr h1, h4.symm, by rw [show y = (z, y.2) from Prod.ext h1 rfl], h2⟩
/-- a dict that may be locked -/
def NmRd (H : Hp) (d : Addr) (ads : List (Str × Addr)) (fl : List (Str × Ms)) : Prop := Rd H d (.dK (encG V.ref ads)) ∧ Paired (NmR H) ads fl
theorem NmRd.same {H H' : Hp} {d : Addr} {ads : List (Str × Addr)} {fl : List (Str × Ms)} (s : Same H H') (h : NmRd H d ads fl) : NmRd H' d ads fl :=
  ⟨h.1.imp (fun e => s _ _ e) fun ⟨o, e⟩ => ⟨o, s _ _ e⟩, Paired.mono (fun x y z => ⟨z.1, z.2.same s⟩) h.2⟩
theorem nmRd_get {H : Hp} {d : Addr} {ads : List (Str × Addr)} {fl : List (Str × Ms)} (h : NmRd H d ads fl) (l : Str) : (lk fl l = none ∧ DGet H d (.str l) none) ∨ ∃ b m, lk fl l = some m ∧ DGet H d (.str l) (some (.ref b)) ∧ MsN H b m := by
  have g : DGet H d (.str l) (valV (encG V.ref ads) (Sum.inr l)) := .inl ⟨_, Sum.inr l, h.1, rfl, rfl⟩
  rw [encG_val] at g
  rcases nm_lk h.2 l with ⟨a1, a2⟩ | ⟨b, m, a1, a2, a3⟩
  · rw [a1] at g
    exact .inl ⟨a2, g⟩
  · rw [a1] at g
    exact .inr ⟨b, m, a2, g, a3⟩
theorem unlock_same {H H2 : Hp} {d : Addr} {u : HO} {o : Obj} (e : H d = some u) (s : Same (upd H d (.frz o u)) H2) : Same H (upd H2 d u) := fun c x h => by
  by_cases z : c = d
  · rw [z] at h ⊢
    rw [e] at h
    cases h
    exact upd_same
  · rw [upd_ne z]
    exact s c x (by rw [upd_ne z]; exact h)
theorem sorted_eq {xs ys zs : List Str} (nd : zs.Nodup) (p1 : xs.Perm zs) (p2 : ys.Perm zs) (s1 : sortedS xs = true) (s2 : sortedS ys = true) : xs = ys := by
  have f : ∀ {l : List Str}, l.Perm zs → sortedS l = true → Ris (l.map fun z => (z, (0 : Int))) := fun {l} p s => by
    have r := ris_of (sortedS_pw s) (p.nodup_iff.mpr nd)
    unfold Ris
    rw [List.pairwise_map]
    exact r
  have e := ris_ext (f p1 s1) (f p2 s2) fun q => by
    constructor
    · intro h
      obtain ⟨z, hz, rfl⟩ := List.mem_map.mp h
      exact List.mem_map.mpr ⟨z, p2.mem_iff.mpr (p1.mem_iff.mp hz), rfl⟩
    · intro h
      obtain ⟨z, hz, rfl⟩ := List.mem_map.mp h
      exact List.mem_map.mpr ⟨z, p1.mem_iff.mpr (p2.mem_iff.mp hz), rfl⟩
  have e2 := congrArg (List.map Prod.fst) e
  rw [List.map_map, List.map_map] at e2
  have i : ∀ l : List Str, l.map (Prod.fst ∘ fun z => (z, (0 : Int))) = l := fun l => by
    have : (Prod.fst ∘ fun z : Str => (z, (0 : Int))) = id := rfl
    rw [this, List.map_id]
  rw [i, i] at e2
  exact e2
section
variable {P : Program} {w : World} {K : PySem.W.Frag} {mg : Str → Option Value} {base : Heap}
/-! ### _law_formed -/
structure FmIn (H : Hp) (tp up a o : Addr) (tads : List (Str × Addr)) (tm : List (Str × Ms)) (uads : List (Str × Addr)) (um : List (Str × Ms)) (ls os : List Str) (n : Nat) : Prop where
  t : NmAt H tp tads tm
  u : NmAt H up uads um
  a : H a = some (.lst (ls.map V.str))
  o : H o = some (.lst (os.map V.str))
  nd : ls.Nodup
  ok : ∀ z ∈ ls, Ok z
  ll : ls.length ≤ 32
  tk : tm.map (·.1) = ls
  uk : um.map (·.1) = namesQ n
  n32 : n ≤ 32
  tt : ∀ z ∈ tm, Can z.2 ∧ ∀ p ∈ z.2, LtOk p.1 ∧ (p.1 ∈ namesQ n ∨ p.1 ∈ os)
  uu : ∀ z ∈ um, Can z.2 ∧ ∀ p ∈ z.2, LtOk p.1 ∧ p.1 ∈ ls
  tu : tp ≠ up
theorem scFormed : FnScope ["_law_told", "_law_unknowns", "_law_letters", "_law_others", "_law_letter", "_law_pair"] ["_law_told", "_law_unknowns", "_law_letters", "_law_others"] (defScope sFormed) := ⟨rfl, rfl, rfl, by decide +kernel, rfl, by decide +kernel, by decide +kernel⟩
abbrev scFormedN : List Str := ["_law_told", "_law_unknowns", "_law_letters", "_law_others", "_law_letter", "_law_pair"]
def spFormed : Sp := fun vs H Q _ => ∃ (tp up a o : Addr) (tads : List (Str × Addr)) (tm : List (Str × Ms)) (uads : List (Str × Addr)) (um : List (Str × Ms)) (ls os : List Str) (n : Nat), vs = [.ref tp, .ref up, .ref a, .ref o] ∧ FmIn H tp up a o tads tm uads um ls os n ∧ ∀ H', Same H H' → Q (.bl true) H'
theorem ok_formed {f fU fI : Addr} {fd fdU fdI : FuncData} (F : Fun K "_law_formed" "_law_formed" sFormed f fd) (GU : FnOk P w K mg base CX0 1 fU fdU ["_law_letter"] spIsUn) (kU : PySem.W.keepIn K (.ref fU) = true) (bU : Binds K fdU ["_law_letter"] []) (gU : mg "_law_is_unknown" = some (.ref fU))
    (GI : FnOk P w K mg base CX0 2 fI fdI ["_law_found"] spIsM) (kI : PySem.W.keepIn K (.ref fI) = true) (bI : Binds K fdI ["_law_found"] []) (gI : mg "_law_is_measure" = some (.ref fI))
    (mi : mg "isinstance" = none) (md : mg "dict" = none) (ms : mg "sorted" = none) : FnOk P w K mg base CX0 3 f fd ["_law_told", "_law_unknowns", "_law_letters", "_law_others"] spFormed := by
  refine F.ok scFormed (fun vs H Q E h => ?_) (fun cdv A outer s H vs Q E hr h => ?_)
  · obtain ⟨tp, up, a, o, tads, tm, uads, um, ls, os, n, rfl, _⟩ := h
    rfl
  · obtain ⟨tp, up, a, o, tads, tm, uads, um, ls, os, n, rfl, fi, q⟩ := h
    have nd := scFormed.nd
    have hu := hu_of hr
    have hr1 : Room 1 _ := hr.mono (by omega)
    have kS : sizeLine = 16777216 := sizeLine_eq
    have hun : (A.deeper (envOfC "_law_formed" (defScope sFormed) s.heap.objs.size f cdv)).units + 64 < cLine := by have := hr.un; omega
    refine ⟨_, pss_cons (ps_if (pw_or (pt_not (pt_val (pe_callB call_isi (by rfl) mi PyProof.Rows.boot_isinstance (pa_cons (pv 0) (pa_cons (pe_bltn (v := .ty "dict") (by rfl) md (by decide +kernel) rfl) pa_nil)))))
          (pw_or (pt_not (pt_val (pe_callB call_isi (by rfl) mi PyProof.Rows.boot_isinstance (pa_cons (pv 1) (pa_cons (pe_bltn (v := .ty "dict") (by rfl) md (by decide +kernel) rfl) pa_nil)))))
          (pw_or1 (pt_cmpR (op_neD hun) (pe_callB (call_sortedDA rfl) (by rfl) ms boot_sorted (pa_cons (pv 0) pa_nil)) (pe_callB cr_sortedS (by rfl) ms boot_sorted (pa_cons (pv 2) pa_nil)) (nomark _))))).pt (pss_one (ps_ret pe_bl)) pss_nil)
      (pss_cons (ps_lock (ps_for PassesOwn.never rfl (pi_keys (pv 1)) (pg_name (i := 4) nd rfl (.inl rfl))
        (pss_cons (ps_if (pw_or (pt_not (pt_val (pe_call GU hr1 (by rfl) gU kU bU .nil pass0 (pa_cons (pv 4) pa_nil)))) (pw_or1 (pt_not (pt_val (pe_call GI hr (by rfl) gI kI bI .nil pass0 (pa_cons (pe_dget hu (pv 1) (pv 4) (fun _ _ => rfl)) pa_nil)))))).pt (pss_one (ps_ret pe_bl)) pss_nil)
        (pss_one (ps_if (pt_cmpR (op_neD hun) (pe_lc (own := [("_law_pair", 5)]) (g := gName 5) rfl nd (pi_tup (pe_dget hu (pv 1) (pv 4) (fun _ _ => rfl))) (blkOk_by (N := scFormedN) (sc := defScope sFormed) (by decide +kernel)) (fun _ _ _ _ _ => pg_name (i := 5) nd rfl (Or.inl rfl))
              (fun _ _ _ _ _ => pts_one (pt_cmpR (show OpR _ _ (rIn K true) from op_notIn_seq) (pe_ix (show IxR _ (rIxT K) from ix_tup) (pv 5) pe_int (fun _ _ => rfl)) (pv 2) (by rfl))) (fun _ _ _ _ _ => pv 5)) (pe_lst pa_nil) (nomark _)) (pss_one (ps_ret pe_bl)) pss_nil)))))
      (pss_cons (ps_for PassesOwn.never rfl (pi_list (pv 2)) (pg_name (i := 4) nd rfl (.inl rfl))
        (pss_cons (ps_if (pt_not (pt_val (pe_call GI hr (by rfl) gI kI bI .nil pass0 (pa_cons (pe_dget hu (pv 0) (pv 4) (fun _ _ => rfl)) pa_nil)))) (pss_one (ps_ret pe_bl)) pss_nil)
        (pss_one (ps_if (pt_cmpR (op_neD hun) (pe_lc (own := [("_law_pair", 5)]) (g := gName 5) rfl nd (pi_tup (pe_dget hu (pv 0) (pv 4) (fun _ _ => rfl))) (blkOk_by (N := scFormedN) (sc := defScope sFormed) (by decide +kernel)) (fun _ _ _ _ _ => pg_name (i := 5) nd rfl (Or.inl rfl))
              (fun _ _ _ _ _ => pts_one (pw_and (pt_cmp (pc_dnotin hu (pe_ix (show IxR _ (rIxT K) from ix_tup) (pv 5) pe_int (fun _ _ => rfl)) (pv 1))) (pw_and1 (pt_cmpR (show OpR _ _ (rIn K true) from op_notIn_seq) (pe_ix (show IxR _ (rIxT K) from ix_tup) (pv 5) pe_int (fun _ _ => rfl)) (pv 3) (by rfl)))).pt) (fun _ _ _ _ _ => pv 5)) (pe_lst pa_nil) (nomark _)) (pss_one (ps_ret pe_bl)) pss_nil))))
      (pss_one (ps_ret pe_bl)))), ?_⟩
    refine ⟨_, rfl, _, _, _, _, true, rfl, .ty _, .base (.dK fi.t.1), kit_ty (by decide +kernel), true, rfl, iteF ?_⟩
    refine ⟨_, rfl, _, _, _, _, true, rfl, .ty _, .base (.dK fi.u.1), kit_ty (by decide +kernel), true, rfl, iteF ?_⟩
    have tk2 : tads.map (·.1) = ls := by rw [nmr_keys fi.t.2]; exact fi.tk
    have ekk : (encG V.ref tads).map (·.1) = ls.map Sum.inr := by rw [encG_keys, tk2]
    refine ⟨_, rfl, tp, _, ls, rfl, .inl fi.t.1, ekk, fun ys p1 hp1 so1 np1 => ?_⟩
    have s1 := same_new (o := .lst (ys.map V.str)) np1
    have lln := fi.ll
    refine ⟨_, rfl, a, ls, rfl, SqL.of (s1 _ _ fi.a), by omega, fun zs p2 hp2 so2 np2 => ?_⟩
    have s2 := s1.trans (same_new (o := .lst (zs.map V.str)) np2)
    have yz : ys = zs := sorted_eq fi.nd hp1 hp2 so1 so2
    have oky : ∀ z ∈ ys, Ok z := fun z hz => fi.ok z (hp1.mem_iff.mp hz)
    have okz : ∀ z ∈ zs, Ok z := fun z hz => fi.ok z (hp2.mem_iff.mp hz)
    refine ⟨strD ys, strD zs, strs_dp (by rw [upd_ne (ne_of_none upd_same np2)]; exact upd_same), strs_dp upd_same, strD_shaped oky, strD_shaped okz, _, rfl, ?_⟩
    rw [strD_eqv, decide_eq_true yz]
    refine iteF ?_
    generalize upd (upd H p1 (.lst (ys.map V.str))) p2 (.lst (zs.map V.str)) = H1 at s2 ⊢
    have fu := fi.u.same s2
    have ft := fi.t.same s2
    have umn : (um.map (·.1)).Nodup := by rw [fi.uk]; exact names_nodup n
    have tmn : (tm.map (·.1)).Nodup := by rw [fi.tk]; exact fi.nd
    -- the unknowns
    refine ⟨up, _, fu.1, trivial, fun od => ?_⟩
    have nl : ∀ {c : Addr} {x : HO}, H1 c = some x → x ≠ .dK (encG V.ref uads) → upd H1 up (.frz od (.dK (encG V.ref uads))) c = some x := fun {c x} e n => by
      rw [upd_ne (ne_of e fu.1 n)]
      exact e
    have rd0 : NmRd (upd H1 up (.frz od (.dK (encG V.ref uads)))) up uads um := ⟨.inr ⟨od, upd_same⟩, Paired.mono (fun _ _ z => ⟨z.1, msN_dict z.2 fu.1⟩) fu.2⟩
    have ha0 := nl (s2 _ _ fi.a) (fun z => nomatch z)
    refine ⟨_, rfl, up, od, rfl, .inl ⟨_, upd_same, for_it walk_keys (fun i σ H2 => ∃ v4 : Option V, σ = [some (.ref tp), some (.ref up), some (.ref a), some (.ref o), v4, none] ∧ Same (upd H1 up (.frz od (.dK (encG V.ref uads)))) H2) ⟨none, rfl, Same.refl _⟩ (fun i σ H2 _ z => by obtain ⟨_, _, z⟩ := z; exact z _ _ upd_same) ?_ ?_⟩⟩
    · rintro i x σ H2 H3 hi ⟨v4, rfl, sm⟩ ⟨rfl, kk, vv, hk, rfl⟩
      obtain ⟨z, m, b, hz, rfl, _, _, _⟩ := nmr_at fu.2 hk
      have zm := List.mem_of_getElem? hz
      obtain ⟨cm, pm⟩ := fi.uu _ zm
      have ek : z = nameQ i ∧ i < n := by
        have e : (um.map (·.1))[i]? = some z := by rw [List.getElem?_map, hz]; rfl
        rw [fi.uk, List.getElem?_map] at e
        by_cases l : i < n
        · rw [List.getElem?_range l] at e
          exact ⟨(Option.some.inj e).symm, l⟩
        · rw [List.getElem?_eq_none (by rw [List.length_range]; omega)] at e
          cases e
      obtain ⟨rfl, ilt⟩ := ek
      have rd := rd0.same sm
      obtain ⟨b2, hg, hb2⟩ : ∃ b2, DGet H3 up (.str (nameQ i)) (some (.ref b2)) ∧ MsN H3 b2 m := by
        rcases nmRd_get rd (nameQ i) with ⟨e, _⟩ | ⟨b2, m2, e, g, h⟩
        · rw [lk_of_mem umn zm] at e
          cases e
        · rw [lk_of_mem umn zm] at e
          cases e
          exact ⟨b2, g, h⟩
      have n32 := fi.n32
      refine ⟨_, rfl, i, rfl, by omega, true, rfl, iteF ?_⟩
      refine ⟨_, rfl, _, rfl, up, _, rfl, hg, b2, m, rfl, hb2, cm, fun p hp => (pm p hp).1, true, rfl, iteF ?_⟩
      obtain ⟨ts, htn, ptm⟩ := hb2
      refine ⟨_, rfl, _, rfl, up, _, rfl, hg, b2, rfl, ⟨_, TupN.sq htn⟩, fun D nD => ?_⟩
      refine lc_tup (xs := ts.map V.ref) (fun k H4 => Same H3 H4 ∧ H4 D = some (.lst [])) ⟨same_new nD, upd_same⟩ (fun k H4 _ z => TupN.sq (TupN.same z.1 htn)) ?_ ?_
      · rintro k x H4 hx ⟨s4, hD⟩
        obtain ⟨t, ht, rfl⟩ := at_map hx
        obtain ⟨p, hp, htp⟩ := paired_ix ptm ht
        have htp : H3 t = some (.tup [.str p.1, .int p.2]) := htp
        have i0 : atI [V.str p.1, V.int p.2] 0 = some (.str p.1) := rfl
        refine ⟨rfl, ?_⟩
        refine ⟨_, rfl, t, _, 0, _, rfl, rfl, SqT.of (s4 _ _ htp), i0, _, rfl, a, _, rfl, .inl (SqL.of (s4 _ _ (sm _ _ ha0))), rfl, flat_strs ls, _, rfl, ?_⟩
        rw [inV_strs, decide_eq_true (pm p (List.mem_of_getElem? hp)).2]
        exact ⟨s4, hD⟩
      rintro H4 ⟨s4, hD⟩
      refine ⟨Nat.zero_le _, fun l nl2 => ?_⟩
      have s5 := s4.trans (same_new (o := .lst []) nl2)
      refine ⟨strD [], strD [], strs_dp (ls := []) ((same_new nl2) _ _ hD), strs_dp (ls := []) upd_same, strD_shaped (fun z hz => absurd hz List.not_mem_nil), strD_shaped (fun z hz => absurd hz List.not_mem_nil), _, rfl, ?_⟩
      rw [strD_eqv, decide_eq_true rfl]
      exact iteF ⟨_, rfl, sm.trans s5⟩
    rintro σ H2 ⟨v4, rfl, sm⟩
    have hup2 := sm _ _ (upd_same (H := H1) (a := up) (o := .frz od (.dK (encG V.ref uads))))
    have s12 := unlock_same fu.1 sm
    have s02 := s2.trans s12
    refine ⟨hup2, ?_⟩
    generalize upd H2 up (.dK (encG V.ref uads)) = H5 at s12 s02 ⊢
    -- the letters
    have fu5 := fi.u.same s02
    have ft5 := fi.t.same s02
    refine ⟨_, rfl, a, rfl, ⟨_, SqL.of (s02 _ _ fi.a)⟩, for_list (xs := ls.map V.str) (fun i σ H6 => ∃ v4 : Option V, σ = [some (.ref tp), some (.ref up), some (.ref a), some (.ref o), v4, none] ∧ Same H5 H6) ⟨_, rfl, Same.refl _⟩ (fun i σ H6 _ z => by obtain ⟨_, _, z⟩ := z; exact SqL.of (z _ _ (s02 _ _ fi.a))) ?_ ?_⟩
    · rintro i x σ H6 hx ⟨v4, rfl, sm⟩
      obtain ⟨z, hz, rfl⟩ := at_map hx
      have hlm : z ∈ tm.map (·.1) := by rw [fi.tk]; exact List.mem_of_getElem? hz
      obtain ⟨⟨z2, m⟩, zm, rfl⟩ := List.mem_map.mp hlm
      obtain ⟨cm, pm⟩ := fi.tt _ zm
      have ft6 := ft5.same sm
      obtain ⟨b2, hg, hb2⟩ : ∃ b2, DGet H6 tp (.str z2) (some (.ref b2)) ∧ MsN H6 b2 m := by
        rcases nmRd_get (⟨.inl ft6.1, ft6.2⟩ : NmRd H6 tp tads tm) z2 with ⟨e, _⟩ | ⟨b2, m2, e, g, h⟩
        · rw [lk_of_mem tmn zm] at e
          cases e
        · rw [lk_of_mem tmn zm] at e
          cases e
          exact ⟨b2, g, h⟩
      refine ⟨_, rfl, _, rfl, tp, _, rfl, hg, b2, m, rfl, hb2, cm, fun p hp => (pm p hp).1, true, rfl, iteF ?_⟩
      obtain ⟨ts, htn, ptm⟩ := hb2
      refine ⟨_, rfl, _, rfl, tp, _, rfl, hg, b2, rfl, ⟨_, TupN.sq htn⟩, fun D nD => ?_⟩
      refine lc_tup (xs := ts.map V.ref) (fun k H4 => Same H6 H4 ∧ H4 D = some (.lst [])) ⟨same_new nD, upd_same⟩ (fun k H4 _ z => TupN.sq (TupN.same z.1 htn)) ?_ ?_
      · rintro k x H4 hx ⟨s4, hD⟩
        obtain ⟨t, ht, rfl⟩ := at_map hx
        obtain ⟨p, hp, htp⟩ := paired_ix ptm ht
        have htp : H6 t = some (.tup [.str p.1, .int p.2]) := htp
        have i0 : atI [V.str p.1, V.int p.2] 0 = some (.str p.1) := rfl
        have fu4 := (fu5.same sm).same s4
        refine ⟨rfl, ?_⟩
        refine ⟨_, rfl, t, _, 0, _, rfl, rfl, SqT.of (s4 _ _ htp), i0, _, rfl, up, _, rfl, DGet.k (k := Sum.inr p.1) fu4.1, ?_⟩
        rw [encG_val]
        have uk4 : uads.map (·.1) = namesQ n := by rw [nmr_keys fu4.2]; exact fi.uk
        cases e : lk uads p.1 with
        | some c => exact ⟨_, rfl, iteF (iteF ⟨s4, hD⟩)⟩
        | none =>
          have e2 := lk_none.mp e
          rw [uk4] at e2
          have po := (pm p (List.mem_of_getElem? hp)).2.resolve_left e2
          refine ⟨_, rfl, iteT ?_⟩
          refine ⟨_, rfl, t, _, 0, _, rfl, rfl, SqT.of (s4 _ _ htp), i0, _, rfl, o, _, rfl, .inl (SqL.of (s4 _ _ (sm _ _ (s02 _ _ fi.o)))), rfl, flat_strs os, _, rfl, ?_⟩
          rw [inV_strs, decide_eq_true po]
          exact iteF ⟨s4, hD⟩
      rintro H4 ⟨s4, hD⟩
      refine ⟨Nat.zero_le _, fun l nl2 => ?_⟩
      have s5 := s4.trans (same_new (o := .lst []) nl2)
      refine ⟨strD [], strD [], strs_dp (ls := []) ((same_new nl2) _ _ hD), strs_dp (ls := []) upd_same, strD_shaped (fun z hz => absurd hz List.not_mem_nil), strD_shaped (fun z hz => absurd hz List.not_mem_nil), _, rfl, ?_⟩
      rw [strD_eqv, decide_eq_true rfl]
      exact iteF ⟨_, rfl, sm.trans s5⟩
    · rintro σ H6 ⟨v4, rfl, sm⟩
      exact q _ (s02.trans sm)
end
end MK


set_option Elab.async false
set_option linter.all false
set_option maxRecDepth 100000
set_option maxHeartbeats 4000000
namespace MK
open PySem PySem.Spec PyProof.Rows L2
def FillOk (fl : List (Str × Ms)) (m : Ms) : Prop := (flat (parts fl m)).length ≤ 10000 ∧ ∀ q ∈ parts fl m, Sm 49000 q.2 ∧ ∀ p ∈ q.1, Sm 49000 p.2
structure SvIn (H : Hp) (tp up a : Addr) (tads : List (Str × Addr)) (tm : List (Str × Ms)) (uads : List (Str × Addr)) (um : List (Str × Ms)) (rds : List Addr) (ms : List Ms) : Prop where
  t : NmAt H tp tads tm
  u : NmAt H up uads um
  a : H a = some (.lst (rds.map V.ref))
  m : Paired (MsN H) rds ms
  tu : tp ≠ up
  un : (um.map (·.1)).Nodup
  r : ∀ m ∈ ms, FillOk tm m ∧ ∀ j, sumAt (flat (parts tm m)) j = 0
  x : ∀ z ∈ um, LtOk z.1 ∧ FillOk tm z.2 ∧ ∀ j, sumAt (flat (parts tm z.2)) j = if z.1 = j then 1 else 0
theorem can_one (z : Str) : Can [(z, 1)] := ⟨List.pairwise_singleton _ _, fun p hp => by
  rw [List.mem_singleton.mp hp]
  show (1 : Int) ≠ 0
  decide⟩
section
variable {P : Program} {w : World} {K : PySem.W.Frag} {mg : Str → Option Value} {base : Heap}
/-! ### _law_solves -/
theorem scSolves : FnScope ["_law_told", "_law_unknowns", "_law_measures", "_law_row", "_law_letter"] ["_law_told", "_law_unknowns", "_law_measures"] (defScope sSolves) := ⟨rfl, rfl, rfl, by decide +kernel, rfl, by decide +kernel, by decide +kernel⟩
def spSolves : Sp := fun vs H Q _ => ∃ (tp up a : Addr) (tads : List (Str × Addr)) (tm : List (Str × Ms)) (uads : List (Str × Addr)) (um : List (Str × Ms)) (rds : List Addr) (ms : List Ms), vs = [.ref tp, .ref up, .ref a] ∧ SvIn H tp up a tads tm uads um rds ms ∧ ∀ H', Same H H' → Q (.bl true) H'
theorem ok_solves {f fF fM : Addr} {fd fdF fdM : FuncData} (F : Fun K "_law_solves" "_law_solves" sSolves f fd) (FF : Fun K "_law_filled" "_law_filled" sFilled fF fdF) (bF : Binds K fdF ["_law_measure", "_law_filling"] []) (gF : mg "_law_filled" = some (.ref fF))
    (FM : Fun K "_law_made" "_law_made" sMade fM fdM) (bM : Binds K fdM ["_law_powers"] []) (gM : mg "_law_made" = some (.ref fM)) (mt : mg "tuple" = none) (ms : mg "sorted" = none) : FnOk P w K mg base CX0 3 f fd ["_law_told", "_law_unknowns", "_law_measures"] spSolves := by
  have GF : FnOk P w K mg base CX0 2 fF fdF ["_law_measure", "_law_filling"] spFilledW := ok_filledW FF FM bM gM mt ms
  refine F.ok scSolves (fun vs H Q E h => ?_) (fun cdv A outer s H vs Q E hr h => ?_)
  · obtain ⟨tp, up, a, tads, tm, uads, um, rds, ms', rfl, _⟩ := h
    rfl
  · obtain ⟨tp, up, a, tads, tm, uads, um, rds, ms', rfl, si, q⟩ := h
    have nd := scSolves.nd
    have hu := hu_of hr
    have kS : sizeLine = 16777216 := sizeLine_eq
    have hun : (A.deeper (envOfC "_law_solves" (defScope sSolves) s.heap.objs.size f cdv)).units + 64 < cLine := by have := hr.un; omega
    refine ⟨_, pss_cons (ps_for PassesOwn.never rfl (pi_list (pv 2)) (pg_name (i := 3) nd rfl (.inl rfl))
        (pss_one (ps_if (pt_cmpR (op_neD hun) (pe_call GF hr (by rfl) gF FF.kp bF .nil pass0 (pa_cons (pv 3) (pa_cons (pv 0) pa_nil))) (pe_tup pa_nil) (nomark _)) (pss_one (ps_ret pe_bl)) pss_nil)))
      (pss_cons (ps_lock (ps_for PassesOwn.never rfl (pi_keys (pv 1)) (pg_name (i := 4) nd rfl (.inl rfl))
        (pss_one (ps_if (pt_cmpR (op_neD hun) (pe_call GF hr (by rfl) gF FF.kp bF .nil pass0 (pa_cons (pe_dget hu (pv 1) (pv 4) (fun _ _ => rfl)) (pa_cons (pv 0) pa_nil))) (pe_tup (pa_cons (pe_tup (pa_cons (pv 4) (pa_cons pe_int pa_nil))) pa_nil)) (nomark _)) (pss_one (ps_ret pe_bl)) pss_nil))))
      (pss_one (ps_ret pe_bl))), ?_⟩
    refine ⟨_, rfl, a, rfl, ⟨_, SqL.of si.a⟩, for_list (xs := rds.map V.ref) (fun i σ H2 => ∃ v3 : Option V, σ = [some (.ref tp), some (.ref up), some (.ref a), v3, none] ∧ Same H H2) ⟨none, rfl, Same.refl _⟩ (fun i σ H2 _ z => by obtain ⟨_, _, z⟩ := z; exact SqL.of (z _ _ si.a)) ?_ ?_⟩
    · rintro i x σ H2 hx ⟨v3, rfl, sm⟩
      obtain ⟨r, hr', rfl⟩ := at_map hx
      obtain ⟨m, hm, hms⟩ := paired_ix si.m hr'
      obtain ⟨⟨f1, f2⟩, f3⟩ := si.r m (List.mem_of_getElem? hm)
      refine ⟨_, rfl, _, rfl, r, tp, m, tads, tm, rfl, hms.same sm, si.t.same sm, f1, f2, fun H3 p r3 s3 np hp hc he => ?_⟩
      have e : r3 = [] := can_ext hc can_nil fun j => by rw [he, f3]; rfl
      subst e
      refine ⟨Nat.zero_le _, fun e0 ne0 => ?_⟩
      have lt0 : ∀ p ∈ ([] : Ms), LtOk p.1 := fun p hp => absurd hp List.not_mem_nil
      refine ⟨msD [], msD [], (hp.same (same_new ne0)).dp, .tup (SqT.of upd_same) .nil, msD_shaped lt0, msD_shaped lt0, _, rfl, ?_⟩
      rw [msD_dec, decide_eq_true rfl]
      exact iteF ⟨_, rfl, sm.trans (s3.trans (same_new ne0))⟩
    rintro σ H1 ⟨v3, rfl, s1⟩
    have fu := si.u.same s1
    have ft := si.t.same s1
    refine ⟨up, _, fu.1, trivial, fun od => ?_⟩
    have rd0 : NmRd (upd H1 up (.frz od (.dK (encG V.ref uads)))) up uads um := ⟨.inr ⟨od, upd_same⟩, Paired.mono (fun _ _ z => ⟨z.1, msN_dict z.2 fu.1⟩) fu.2⟩
    have ft0 : NmAt (upd H1 up (.frz od (.dK (encG V.ref uads)))) tp tads tm := ⟨by rw [upd_ne si.tu]; exact ft.1, Paired.mono (fun _ _ z => ⟨z.1, msN_dict z.2 fu.1⟩) ft.2⟩
    refine ⟨_, rfl, up, od, rfl, .inl ⟨_, upd_same, for_it walk_keys (fun i σ H2 => ∃ v4 : Option V, σ = [some (.ref tp), some (.ref up), some (.ref a), v3, v4] ∧ Same (upd H1 up (.frz od (.dK (encG V.ref uads)))) H2) ⟨none, rfl, Same.refl _⟩ (fun i σ H2 _ z => by obtain ⟨_, _, z⟩ := z; exact z _ _ upd_same) ?_ ?_⟩⟩
    · rintro i x σ H2 H3 hi ⟨v4, rfl, sm⟩ ⟨rfl, kk, vv, hk, rfl⟩
      obtain ⟨z, m, b, hz, rfl, _, _, _⟩ := nmr_at fu.2 hk
      have zm := List.mem_of_getElem? hz
      obtain ⟨zl, ⟨f1, f2⟩, f3⟩ := si.x _ zm
      have rd := rd0.same sm
      obtain ⟨b2, hg, hb2⟩ : ∃ b2, DGet H3 up (.str z) (some (.ref b2)) ∧ MsN H3 b2 m := by
        rcases nmRd_get rd z with ⟨e, _⟩ | ⟨b2, m2, e, g, h⟩
        · rw [lk_of_mem si.un zm] at e
          cases e
        · rw [lk_of_mem si.un zm] at e
          cases e
          exact ⟨b2, g, h⟩
      refine ⟨_, rfl, _, rfl, up, _, rfl, hg, _, rfl, b2, tp, m, tads, tm, rfl, hb2, ft0.same sm, f1, f2, fun H4 p r4 s4 np hp hc he => ?_⟩
      have e : r4 = [(z, 1)] := can_ext hc (can_one z) fun j => by
        rw [he, f3, ← can_sum' (can_one z), sumAt_one]
      subst e
      refine ⟨_, rfl, (by show 2 ≤ sizeLine; decide), fun t1 n1 => ⟨(by show 1 ≤ sizeLine; decide), fun t2 n2 => ?_⟩⟩
      have sa := same_new (o := .tup [V.str z, V.int 1]) n1
      have sb := same_new (o := .tup [V.ref t1]) n2
      have lt0 : ∀ p ∈ ([(z, 1)] : Ms), LtOk p.1 := fun p hp => by
        rw [List.mem_singleton.mp hp]
        exact zl
      refine ⟨msD [(z, 1)], msD [(z, 1)], (hp.same (sa.trans sb)).dp, .tup (SqT.of upd_same) (.cons (.tup (SqT.of (sb _ _ upd_same)) (.cons (.str _) (.cons (.int _) .nil))) .nil), msD_shaped lt0, msD_shaped lt0, _, rfl, ?_⟩
      rw [msD_dec, decide_eq_true rfl]
      exact iteF ⟨_, rfl, sm.trans (s4.trans (sa.trans sb))⟩
    rintro σ H2 ⟨v4, rfl, sm⟩
    refine ⟨sm _ _ upd_same, q _ (s1.trans (unlock_same fu.1 sm))⟩
end
end MK


set_option Elab.async false
set_option linter.all false
set_option maxRecDepth 100000
set_option maxHeartbeats 4000000
namespace MK
open PySem PySem.Spec PyProof.Rows L2
/-! ### what is told, filled in -/
theorem fill_no {fl : List (Str × Ms)} {l : Str} (h : l ∉ fl.map (·.1)) : fill fl l = [(l, 1)] := by
  unfold fill
  rw [lk_none.mpr h]
  rfl
theorem fill_at {fl : List (Str × Ms)} (nd : (fl.map (·.1)).Nodup) {z : Str × Ms} (h : z ∈ fl) : fill fl z.1 = z.2 := by
  unfold fill
  rw [lk_of_mem nd (show (z.1, z.2) ∈ fl from h)]
  rfl
theorem sf_index {α : Type} (g : α → Int) : ∀ (ls : List α) (G : Nat → Int), (∀ (i : Nat) (l : α), ls[i]? = some l → G i = g l) → SumF ls g = SumF (List.range ls.length) G
  | [], _, _ => rfl
  | a :: ls, G, h => by
    have ih := sf_index g ls (fun i => G (i + 1)) fun i l hl => h (i + 1) l hl
    show g a + SumF ls g = SumF (List.range (ls.length + 1)) G
    rw [sf_range, ih, h 0 a rfl]
theorem sf_split (f : Str × Int → Int) (ls : List Str) : ∀ m : Ms, SumF m f = SumF (notIn ls m) f + SumF (m.filter fun p => decide (p.1 ∈ ls)) f
  | [] => rfl
  | p :: m => by
    have ih := sf_split f ls m
    show f p + SumF m f = _
    rw [ih]
    unfold notIn
    by_cases h : p.1 ∈ ls
    · rw [List.filter_cons, if_neg (by rw [decide_eq_true h]; decide), List.filter_cons, if_pos (decide_eq_true h)]
      show f p + (_ + SumF _ f) = _ + (f p + SumF _ f)
      omega
    · rw [List.filter_cons, if_pos (by rw [decide_eq_false h]; decide), List.filter_cons, if_neg (by rw [decide_eq_false h]; decide)]
      show f p + (SumF _ f + _) = (f p + SumF _ f) + _
      omega
theorem sum_in (ls : List Str) (j : Str) : ∀ m : Ms, sumAt (m.filter fun p => decide (p.1 ∈ ls)) j = if j ∈ ls then sumAt m j else 0
  | [] => by
    show (0 : Int) = _
    split <;> rfl
  | p :: m => by
    have ih := sum_in ls j m
    by_cases h : p.1 ∈ ls
    · rw [List.filter_cons, if_pos (decide_eq_true h)]
      show (if p.1 = j then p.2 else 0) + sumAt (List.filter _ m) j = _
      rw [ih]
      by_cases e : j ∈ ls
      · rw [if_pos e, if_pos e]
        rfl
      · rw [if_neg e, if_neg e, if_neg (fun z => e (by rw [← z]; exact h))]
        rfl
    · rw [List.filter_cons, if_neg (by rw [decide_eq_false h]; decide), ih]
      by_cases e : j ∈ ls
      · rw [if_pos e, if_pos e]
        show _ = (if p.1 = j then p.2 else 0) + sumAt m j
        rw [if_neg (fun z => h (by rw [z]; exact e))]
        omega
      · rw [if_neg e, if_neg e]
theorem sum_ones (j : Str) : ∀ m : Ms, (SumF m fun p => (if p.1 = j then 1 else 0) * p.2) = sumAt m j
  | [] => rfl
  | p :: m => by
    have ih := sum_ones j m
    show (if p.1 = j then 1 else 0) * p.2 + SumF m _ = (if p.1 = j then p.2 else 0) + sumAt m j
    rw [ih]
    by_cases e : p.1 = j
    · rw [if_pos e, if_pos e, Int.one_mul]
    · rw [if_neg e, if_neg e, Int.zero_mul]
theorem sum_one1 (l j : Str) : sumAt [(l, 1)] j = if l = j then 1 else 0 := sumAt_one l 1 j
/-- letters filled with what is told of them: the power of j -/
theorem filled_told {ls ns : List Str} {sets : List Stl} {cols : List Col} {tm : List (Str × Ms)} {N : Nat} (ll : ls.length = N) (nd : ls.Nodup) (tk : tm.map (·.1) = ls) (tt : ∀ (i : Nat) (z : Str × Ms), tm[i]? = some z → IsTold sets cols ns i z.2) {m : Ms} (nm : (m.map (·.1)).Nodup) (j : Str) :
    sumAt (flat (parts tm m)) j = sumAt (notIn ls m) j + fillT (powersOf m ls) sets cols ns N j := by
  have tn : (tm.map (·.1)).Nodup := by rw [tk]; exact nd
  rw [flat_parts, sf_split _ ls m]
  congr 1
  · rw [← sum_ones]
    refine sf_congr fun p hp => ?_
    unfold notIn at hp
    obtain ⟨_, h⟩ := List.mem_filter.mp hp
    have n : p.1 ∉ ls := fun z => by rw [decide_eq_true z] at h; cases h
    rw [fill_no (by rw [tk]; exact n), sum_one1]
  · rw [sum_keys (fun l => sumAt (fill tm l) j) nd fun p hp => by
      have h := (List.mem_filter.mp hp).2
      exact of_decide_eq_true h]
    unfold fillT
    rw [sf_index (fun l => sumAt (fill tm l) j * sumAt (m.filter fun p => decide (p.1 ∈ ls)) l) ls (fun i => atP (powersOf m ls) i * toldSum sets cols ns i j) fun i l hl => ?_, ll]
    have hz : ∃ z, tm[i]? = some z ∧ z.1 = l := by
      have e : (tm.map (·.1))[i]? = some l := by rw [tk]; exact hl
      rw [List.getElem?_map] at e
      cases h : tm[i]? with
      | none => rw [h] at e; cases e
      | some z => rw [h] at e; exact ⟨z, rfl, Option.some.inj e⟩
    obtain ⟨z, hz, rfl⟩ := hz
    obtain ⟨t1, t2⟩ := tt i z hz
    rw [fill_at tn (List.mem_of_getElem? hz), sum_in, if_pos (List.mem_of_getElem? hl), can_sum' t1, t2, sumAt_at0 _ nm]
    have e : atP (powersOf m ls) i = at0 m z.1 := by
      unfold atP powersOf
      rw [List.getD_eq_getElem?_getD, List.getElem?_map, hl]
      rfl
    rw [e, Int.mul_comm]
/-! ### letters of what is told -/
theorem told_keys {keys ns : List Str} {sets : List Stl} {cols : List Col} {i : Nat} {r : Ms} (h : IsTold sets cols ns i r) (hs : ∀ x ∈ sets, ∀ p ∈ x.m, p.1 ∈ keys) : ∀ p ∈ r, p.1 ∈ ns ∨ p.1 ∈ keys := fun p hp => by
  obtain ⟨c, e⟩ := h
  have nz := c.nz p hp
  rw [← at0_key c hp, e] at nz
  by_cases h1 : ∀ x ∈ sets, sumAt x.m p.1 = 0
  · unfold toldSum at nz
    have z : (sets.map fun x => sumAt x.m p.1 * atP x.s i).sum = 0 := sf_zero (f := fun x : Stl => sumAt x.m p.1 * atP x.s i) fun x hx => by rw [h1 x hx, Int.zero_mul]
    rw [z, Int.zero_add] at nz
    obtain ⟨q, hq, eq⟩ := List.mem_map.mp (sumAt_mem nz)
    exact .inl (by rw [← eq]; exact (List.of_mem_zip (show (q.1, q.2) ∈ _ from hq)).1)
  · obtain ⟨x, hx0⟩ := Classical.not_forall.mp h1
    obtain ⟨hx, h3⟩ := Classical.not_imp.mp hx0
    obtain ⟨q, hq, eq⟩ := List.mem_map.mp (sumAt_mem h3)
    exact .inr (by rw [← eq]; exact hs x hx q hq)
theorem told_abs {ns : List Str} {sets : List Stl} {cols : List Col} {i M Y n : Nat} {r : Ms} (h : IsTold sets cols ns i r) (nn : ns.Nodup) (nl : ns.length = cols.length) (hs : ∀ x ∈ sets, (x.m.map (·.1)).Nodup ∧ (∀ p ∈ x.m, p.2.natAbs ≤ Y) ∧ LeL M x.s) (hn : sets.length ≤ n) (hc : ∀ c ∈ cols, LeL M c.1) : ∀ p ∈ r, p.2.natAbs ≤ n * (Y * M) + M := fun p hp => by
  obtain ⟨c, e⟩ := h
  have at_le : ∀ {s : List Int}, LeL M s → (atP s i).natAbs ≤ M := fun {s} hs => by
    unfold atP
    rw [List.getD_eq_getElem?_getD]
    cases h : s[i]? with
    | none => exact Nat.zero_le _
    | some x => exact hs x (List.mem_of_getElem? h)
  rw [← at0_key c hp, e]
  have a := abs_sum (fun x : Stl => sumAt x.m p.1 * atP x.s i) (Y * M) sets fun x hx => by
    obtain ⟨h1, h2, h3⟩ := hs x hx
    rw [Int.natAbs_mul]
    exact Nat.mul_le_mul (sum_abs h1 h2 p.1) (at_le h3)
  have zl : ns.length = (cols.map fun c => atP c.1 i).length := by rw [List.length_map]; exact nl
  have b := sum_abs (m := ns.zip (cols.map fun c => atP c.1 i)) (Y := M) (by rw [zip_keys zl]; exact nn) (fun q hq => by
    obtain ⟨c, hc', e⟩ := List.mem_map.mp (List.of_mem_zip (show (q.1, q.2) ∈ _ from hq)).2
    rw [← e]
    exact at_le (hc c hc')) p.1
  have d := Nat.mul_le_mul_right (Y * M) hn
  have t := Int.natAbs_add_le (SumF sets fun x : Stl => sumAt x.m p.1 * atP x.s i) (sumAt (ns.zip (cols.map fun c => atP c.1 i)) p.1)
  show (SumF sets (fun x : Stl => sumAt x.m p.1 * atP x.s i) + sumAt (ns.zip (cols.map fun c => atP c.1 i)) p.1).natAbs ≤ _
  omega
/-! ### the unknowns' own measures -/
structure UnkM (ls : List Str) (c : Col) (r : Ms) : Prop where
  can : Can r
  at' : ∀ j, at0 r j = sumAt (ls.zip c.2) j
theorem UnkM.keys {ls : List Str} {c : Col} {r : Ms} (h : UnkM ls c r) : ∀ p ∈ r, p.1 ∈ ls := fun p hp => by
  have nz := h.can.nz p hp
  rw [← at0_key h.can hp, h.at'] at nz
  obtain ⟨q, hq, eq⟩ := List.mem_map.mp (sumAt_mem nz)
  rw [← eq]
  exact (List.of_mem_zip (show (q.1, q.2) ∈ _ from hq)).1
theorem UnkM.pow {ls : List Str} {c : Col} {r : Ms} (h : UnkM ls c r) (nd : ls.Nodup) (l : c.2.length = ls.length) : powersOf r ls = c.2 := by
  refine List.ext_getElem? fun i => ?_
  unfold powersOf
  rw [List.getElem?_map]
  cases e : ls[i]? with
  | none =>
    have := List.getElem?_eq_none_iff.mp e
    rw [List.getElem?_eq_none (show c.2.length ≤ i by omega)]
    rfl
  | some z =>
    have il : i < c.2.length := by have := (List.getElem?_eq_some_iff.mp e).1; omega
    have ec := List.getElem?_eq_getElem il
    have ez : (ls.zip c.2)[i]? = some (z, c.2[i]) := by rw [List.getElem?_zip_eq_some]; exact ⟨e, ec⟩
    rw [ec]
    show some (at0 r z) = _
    rw [h.at', sum_nodup (by rw [zip_keys l.symm]; exact nd) (List.mem_of_getElem? ez)]
theorem UnkM.abs {ls : List Str} {c : Col} {r : Ms} (h : UnkM ls c r) (nd : ls.Nodup) (l : c.2.length = ls.length) {M : Nat} (b : LeL M c.2) : ∀ p ∈ r, p.2.natAbs ≤ M := fun p hp => by
  rw [← at0_key h.can hp, h.at']
  exact sum_abs (by rw [zip_keys l.symm]; exact nd) (fun q hq => b _ (List.of_mem_zip (show (q.1, q.2) ∈ _ from hq)).2) p.1
theorem notIn_nil {ls : List Str} {m : Ms} (h : ∀ p ∈ m, p.1 ∈ ls) (j : Str) : sumAt (notIn ls m) j = 0 := by
  rw [sum_notIn]
  by_cases e : j ∈ ls
  · rw [if_pos e]
  · rw [if_neg e]
    refine sumAt_no fun z => ?_
    obtain ⟨p, hp, rfl⟩ := List.mem_map.mp z
    exact e (h p hp)
/-- an unknown's measure, filled with a choice -/
theorem UnkM.meant {ls os : List Str} {ch : List (Str × Ms)} (h : ChOk ls os ch) {c : Col} {r : Ms} (u : UnkM ls c r) (l : c.2.length = ls.length) (j : Str) : sumAt (flat (parts ch r)) j = dotL c.2 (xsOf ls ch j) := by
  rw [flat_parts, sum_keys (fun l => sumAt (fill ch l) j) h.nd u.keys]
  rw [← u.pow h.nd l]
  unfold powersOf xsOf
  rw [dot_map]
  exact sf_congr fun z hz => by rw [can_sum' u.can, can_sum' (h.fl hz).1, Int.mul_comm]
/-- what is told of the i-th letter, the unknowns filled with what they are meant to be -/
theorem told_meant {ls os ns : List Str} {sets : List Stl} {cols : List Col} {i : Nat} {r : Ms} (h : IsTold sets cols ns i r) (hk : ∀ x ∈ sets, ∀ p ∈ x.m, p.1 ∈ os) (nn : (ns ++ os).Nodup) (nl : ns.length = cols.length) {mn : List (Str × Ms)} (mk : mn.map (·.1) = ns) {W : Str → Col → Int}
    (mw : ∀ (k : Nat) (z : Str × Ms) (c : Col), mn[k]? = some z → cols[k]? = some c → ∀ j, sumAt z.2 j = W j c) (j : Str) :
    sumAt (flat (parts mn r)) j = (SumF sets fun x => sumAt x.m j * atP x.s i) + SumF cols fun c => atP c.1 i * W j c := by
  obtain ⟨n1, n2, n3⟩ := List.nodup_append.mp nn
  have dj : ∀ z, z ∈ ns → z ∈ os → False := fun z a b => n3 z a z b rfl
  have md : (mn.map (·.1)).Nodup := by rw [mk]; exact n1
  have zl : ns.length = (cols.map fun c => atP c.1 i).length := by rw [List.length_map]; exact nl
  have zk := zip_keys zl
  rw [flat_parts, sum_keys (fun l => sumAt (fill mn l) j) nn (fun p hp => List.mem_append.mpr (told_keys h hk p hp)), sf_app, Int.add_comm]
  have nx : ∀ z ∈ ns, ∀ x ∈ sets, sumAt x.m z = 0 := fun z hz x hx => sumAt_no fun w => by
    obtain ⟨p, hp, rfl⟩ := List.mem_map.mp w
    exact dj _ hz (hk x hx p hp)
  congr 1
  · have e : (SumF os fun l => sumAt (fill mn l) j * sumAt r l) = SumF os fun l => sumAt r l * if j = l then 1 else 0 := sf_congr fun l hl => by
      rw [fill_no (by rw [mk]; exact fun z => dj _ z hl), sum_one1, Int.mul_comm]
      by_cases e : l = j
      · rw [if_pos e, if_pos e.symm]
      · rw [if_neg e, if_neg (fun z => e z.symm)]
    rw [e, sum_pickS (fun l => sumAt r l) j 1 n2]
    by_cases ej : j ∈ os
    · rw [if_pos ej, Int.mul_one, can_sum' h.1, h.2]
      unfold toldSum
      rw [sumAt_no (m := ns.zip (cols.map fun c => atP c.1 i)) (by rw [zk]; exact fun z => dj _ z ej)]
      exact Int.add_zero _
    · rw [if_neg ej]
      symm
      refine sf_zero fun x hx => ?_
      rw [sumAt_no fun w => by
        obtain ⟨p, hp, rfl⟩ := List.mem_map.mp w
        exact ej (hk x hx p hp), Int.zero_mul]
  · have ix : ∀ (k : Nat) (l : Str), ns[k]? = some l → ∃ c, cols[k]? = some c ∧ sumAt (fill mn l) j * sumAt r l = atP c.1 i * W j c := fun k l hl => by
      have kl : k < cols.length := by have := (List.getElem?_eq_some_iff.mp hl).1; omega
      have hc := List.getElem?_eq_getElem kl
      refine ⟨_, hc, ?_⟩
      obtain ⟨z, hz, ez⟩ : ∃ z, mn[k]? = some z ∧ z.1 = l := by
        have e : (mn.map (·.1))[k]? = some l := by rw [mk]; exact hl
        rw [List.getElem?_map] at e
        cases h : mn[k]? with
        | none => rw [h] at e; cases e
        | some z => rw [h] at e; exact ⟨z, rfl, Option.some.inj e⟩
      rw [← ez, fill_at md (List.mem_of_getElem? hz), mw k z _ hz hc, ez, can_sum' h.1, h.2]
      unfold toldSum
      have z0 : (sets.map fun x => sumAt x.m l * atP x.s i).sum = 0 := sf_zero (f := fun x : Stl => sumAt x.m l * atP x.s i) fun x hx => by rw [nx l (List.mem_of_getElem? hl) x hx, Int.zero_mul]
      have ez2 : (ns.zip (cols.map fun c => atP c.1 i))[k]? = some (l, atP (cols[k]).1 i) := by
        rw [List.getElem?_zip_eq_some]
        exact ⟨hl, by rw [List.getElem?_map, hc]; rfl⟩
      rw [z0, sum_nodup (by rw [zk]; exact n1) (List.mem_of_getElem? ez2)]
      rw [Int.zero_add, Int.mul_comm]
    rw [sf_index (fun l => sumAt (fill mn l) j * sumAt r l) ns (fun k => ((cols[k]?).map fun c => atP c.1 i * W j c).getD 0) fun k l hl => by
      obtain ⟨c, hc, e⟩ := ix k l hl
      rw [hc, e]
      rfl]
    rw [sf_index (fun c : Col => atP c.1 i * W j c) cols (fun k => ((cols[k]?).map fun c => atP c.1 i * W j c).getD 0) fun k c hc => by
      rw [hc]
      rfl, nl]
end MK


set_option Elab.async false
set_option linter.all false
set_option maxRecDepth 100000
set_option maxHeartbeats 4000000
namespace MK
open PySem PySem.Spec PyProof.Rows L2
section
variable {P : Program} {w : World} {K : PySem.W.Frag} {mg : Str → Option Value} {base : Heap}
/-! ### _law_small -/
def spSmall : Sp := fun vs H Q _ => ∃ (c : Int) (a : Addr) (ws : List Str), vs = [.int c, .ref a] ∧ 0 ≤ c ∧ H a = some (.lst (ws.map V.str)) ∧ ws ≠ [] ∧ ws.length ≤ 1000 ∧
  ∀ (H' : Hp) (p : Addr) (r : Ms), Same H H' → H p = none → MsN H' p r → Can r → r.length ≤ 3 → (∀ x ∈ r, x.1 ∈ ws ∧ x.2.natAbs ≤ 20) → Q (.ref p) H'
theorem scSmall : FnScope ["_law_cell", "_law_letters", "_law_powers", "_law_k", "_law_more", "_law_many"] ["_law_cell", "_law_letters"] (defScope sSmall) := ⟨rfl, rfl, rfl, by decide +kernel, rfl, by decide +kernel, by decide +kernel⟩
theorem ok_small {f fX fM : Addr} {fd fdX fdM : FuncData} (F : Fun K "_law_small" "_law_small" sSmall f fd) (FX : Fun K "_law_mix" "_law_mix" sMix fX fdX) (bX : Binds K fdX ["_law_cell", "_law_k"] []) (gX : mg "_law_mix" = some (.ref fX))
    (FM : Fun K "_law_made" "_law_made" sMade fM fdM) (bM : Binds K fdM ["_law_powers"] []) (gM : mg "_law_made" = some (.ref fM))
    (mr : mg "range" = none) (ml : mg "len" = none) (mt : mg "tuple" = none) (ms : mg "sorted" = none) : FnOk P w K mg base CX0 2 f fd ["_law_cell", "_law_letters"] spSmall := by
  have GX : FnOk P w K mg base CX0 1 fX fdX ["_law_cell", "_law_k"] spMix := ok_mix FX
  have GM : FnOk P w K mg base CX0 1 fM fdM ["_law_powers"] spMade := ok_made FM mt ms
  refine F.ok scSmall (fun vs H Q E h => ?_) (fun cdv A outer s H vs Q E hr h => ?_)
  · obtain ⟨c, a, ws, rfl, _⟩ := h
    rfl
  · obtain ⟨c, a, ws, rfl, h0, ha, hw0, hwl, q⟩ := h
    have nd := scSmall.nd
    have hu := hu_of hr
    refine ⟨_, pss_cons (ps_set (i := 2) nd rfl (.inl rfl) pe_dnewK)
      (pss_cons (ps_for PassesOwn.never rfl (pi_range1 rfl mr (pa_cons (pe_op op_mod (pv 0) pe_int) pa_nil)) (pg_name (i := 3) nd rfl (.inl rfl))
        (pss_cons (ps_set (i := 4) nd rfl (.inl rfl) (pe_call GX hr (by rfl) gX FX.kp bX .nil pass0 (pa_cons (pv 0) (pa_cons (pv 3) pa_nil))))
        (pss_cons (ps_set (i := 5) nd rfl (.inl rfl) (pe_ix ix_list (pe_lst (pa_cons (pe_op op_sub (pe_op op_mod (pe_op op_fdiv (pv 4) (pe_callB call_len_seq (by rfl) ml PySem.boot_len (pa_cons (pv 1) pa_nil))) pe_int) pe_int)
            (pa_cons (pe_op op_sub (pe_op op_mod (pe_op op_fdiv (pv 4) pe_int) pe_int) pe_int) pa_nil))) (pe_op op_fdiv (pe_op op_mod (pe_op op_fdiv (pv 4) pe_int) pe_int) pe_int) (fun _ _ => rfl)))
        (pss_one (ps_dput hu (pv 2) (pe_ix ix_list (pv 1) (pe_op op_mod (pv 4) (pe_callB call_len_seq (by rfl) ml PySem.boot_len (pa_cons (pv 1) pa_nil))) (fun _ _ => rfl)) (pv 5) rfl)))))
      (pss_one (ps_ret (pe_call GM hr (by rfl) gM FM.kp bM .nil pass0 (pa_cons (pv 2) pa_nil))))), ?_⟩
    intro d nd0
    have hc4 : 0 ≤ c % 4 ∧ c % 4 < 4 := ⟨Int.emod_nonneg _ (by decide), Int.emod_lt_of_pos _ (by decide)⟩
    refine ⟨_, rfl, _, _, rfl, rfl, (by show (0 : Int) < 4; decide), _, rfl, by omega, by omega, ?_⟩
    have hwlen : (0 : Int) < ((ws.map V.str).length : Int) := by
      rw [List.length_map]
      have := List.length_pos_iff.mpr hw0
      omega
    have hwlen2 : ((ws.map V.str).length : Int) ≤ 1000 := by
      rw [List.length_map]
      omega
    refine for_range (n := (c % 4).toNat) (fun i σ H2 => ∃ (v3 v4 v5 : Option V) (m : Ms), σ = [some (.int c), some (.ref a), some (.ref d), v3, v4, v5] ∧ Same H H2 ∧ H2 d = some (.dK (enc m)) ∧ (m.map (·.1)).Nodup ∧ m.length ≤ i ∧ ∀ p ∈ m, p.1 ∈ ws ∧ p.2.natAbs ≤ 20)
      ⟨none, none, none, [], rfl, same_new nd0, upd_same, List.nodup_nil, Nat.le_refl _, (fun p hp => absurd hp (by simp))⟩ ?_ ?_
    · rintro i σ H2 hi ⟨v3, v4, v5, m, rfl, sm, hd, hn, hml, hmw⟩
      refine ⟨_, rfl, _, rfl, c, 0 + (i : Int), rfl, fun x hx0 hx1 => ?_⟩
      have haH := sm _ _ ha
      refine ⟨_, rfl, _, rfl, a, _, rfl, .inl (SqL.of haH), _, _, rfl, rfl, ⟨hwlen, by omega⟩, _, _, rfl, rfl, (by show (0 : Int) < 5; decide), _, _, rfl, rfl, ?_⟩
      refine ⟨_, rfl, _, _, rfl, rfl, ⟨by decide, by decide⟩, _, _, rfl, rfl, (by show (0 : Int) < 41; decide), _, _, rfl, rfl, (by show 2 ≤ sizeLine; decide), fun l nl => ?_⟩
      refine ⟨_, rfl, _, _, rfl, rfl, ⟨by decide, by decide⟩, _, _, rfl, rfl, (by show (0 : Int) < 9; decide), _, _, rfl, rfl, ⟨by decide, by decide⟩, ?_⟩
      obtain ⟨u, hu1, hu2⟩ := two_val (a := V.int (x / ((ws.map V.str).length : Int) % 5 - 2)) (b := V.int (x / 256 % 41 - 20)) (i := x / 16 % 9 / 8) (by omega) (by omega)
      obtain ⟨y, rfl, hy⟩ : ∃ y : Int, u = .int y ∧ y.natAbs ≤ 20 := by
        have h1 : 0 ≤ x / ((ws.map V.str).length : Int) % 5 := Int.emod_nonneg _ (by decide)
        have h2 : x / ((ws.map V.str).length : Int) % 5 < 5 := Int.emod_lt_of_pos _ (by decide)
        rcases hu2 with e | e
        · refine ⟨_, e, ?_⟩
          generalize x / ((ws.map V.str).length : Int) % 5 = t at h1 h2
          omega
        · exact ⟨_, e, by omega⟩
      have s2 : Same H2 (upd H2 l (.lst [V.int (x / ((ws.map V.str).length : Int) % 5 - 2), V.int (x / 256 % 41 - 20)])) := same_new nl
      have haL := s2 _ _ haH
      have hdL := s2 _ _ hd
      refine ⟨l, _, _, _, rfl, rfl, SqL.of upd_same, hu1, ?_⟩
      obtain ⟨z, hz, ez⟩ := mod_at hw0 x
      refine ⟨_, rfl, _, rfl, _, rfl, _, rfl, _, rfl, a, _, rfl, .inl (SqL.of haL), _, _, rfl, rfl, hwlen, a, _, _, _, rfl, rfl, SqL.of haL, ez, ?_⟩
      refine ⟨d, _, rfl, dput_enc hdL hn (small1000 (by omega)), ?_⟩
      refine ⟨_, _, _, put m z y, rfl, same_upd (sm.trans s2) nd0, upd_same, put_nodup _ _ hn, Nat.le_trans (put_len _ _ _) (by omega), ?_⟩
      intro p hp
      rcases put_mem hp with e | e
      · rw [e]; exact ⟨hz, hy⟩
      · exact hmw p e
    · rintro σ H2 ⟨v3, v4, v5, m, rfl, sm, hd, hn, hml, hmw⟩
      refine ⟨_, rfl, d, m, rfl, hd, hn, by omega, fun H3 p r s3 np hp hc he => ?_⟩
      exact q H3 p r (sm.trans s3) (sm.free np) hp hc (Nat.le_trans (made_few hc he) (by omega)) (fun x hx => hmw x (made_in hc he x hx))
end
end MK


set_option Elab.async false
set_option linter.all false
set_option maxRecDepth 100000
set_option maxHeartbeats 4000000
namespace MK
open PySem PySem.Spec PyProof.Rows L2
section
variable {P : Program} {w : World} {K : PySem.W.Frag} {mg : Str → Option Value} {base : Heap}
/-! ### _law_times -/


def spLTimes : Sp := fun vs H Q _ => ∃ (a b : Addr) (m n : Ms) (x : Int), vs = [.ref a, .ref b, .int x] ∧ MsN H a m ∧ MsN H b n ∧ Can m ∧ Can n ∧ m.length ≤ 1000 ∧ n.length ≤ 1000 ∧ (∀ p ∈ n, p.2.natAbs < 2 ^ 250) ∧ x.natAbs < 2 ^ 250 ∧
  ∀ (H' : Hp) (p : Addr) (r : Ms), Same H H' → H p = none → MsN H' p r → IsTms m n x r → Q (.ref p) H'
theorem scTimes : FnScope ["_law_one", "_law_other", "_law_by", "_law_powers", "_law_letter", "_law_many"] ["_law_one", "_law_other", "_law_by"] (defScope sTimes) := ⟨rfl, rfl, rfl, by decide +kernel, rfl, by decide +kernel, by decide +kernel⟩
theorem can_sum {m : Ms} (h : Can m) (j : Str) : sumAt m j = at0 m j := by
  have := h.ris.nodup
  induction m with
  | nil => rfl
  | cons p r ih =>
    have hr : Can r := ⟨(List.pairwise_cons.mp h.ris).2, fun q hq => h.nz q (List.mem_cons_of_mem _ hq)⟩
    have e1 : sumAt (p :: r) j = (if p.1 = j then p.2 else 0) + sumAt r j := by
      rw [show p :: r = [p] ++ r from rfl, sumAt_append]
      exact congrArg (· + _) (sumAt_one p.1 p.2 j)
    rw [e1, ih hr hr.ris.nodup]
    by_cases e : p.1 = j
    · have n : at0 r j = 0 := by
        have : j ∉ r.map (·.1) := fun z => by
          rw [List.map_cons] at this
          exact (List.nodup_cons.mp this).1 (e ▸ z)
        show (lk r j).getD 0 = 0
        rw [lk_none.mpr this]
        rfl
      rw [if_pos e, n, show at0 (p :: r) j = p.2 from by show (if p.1 = j then some p.2 else lk r j).getD 0 = _; rw [if_pos e]; rfl]
      omega
    · rw [if_neg e, show at0 (p :: r) j = at0 r j from by show (if p.1 = j then some p.2 else lk r j).getD 0 = _; rw [if_neg e]; rfl]
      omega
theorem sum_nx {m : Ms} {k : Nat} {p : Str × Int} (h : m[k]? = some p) (j : Str) : sumAt (m.take (k + 1)) j = sumAt (m.take k) j + if p.1 = j then p.2 else 0 := by
  rw [take_more h, sumAt_append]
  exact congrArg (_ + ·) (sumAt_one p.1 p.2 j)
theorem ok_ltimes {f fM : Addr} {fd fdM : FuncData} (F : Fun K "_law_times" "_law_times" sTimes f fd) (FM : Fun K "_law_made" "_law_made" sMade fM fdM) (bM : Binds K fdM ["_law_powers"] []) (gM : mg "_law_made" = some (.ref fM)) (mt : mg "tuple" = none) (ms : mg "sorted" = none) (md : mg "dict" = none) :
    FnOk P w K mg base CX0 2 f fd ["_law_one", "_law_other", "_law_by"] spLTimes := by
  have GM : FnOk P w K mg base CX0 1 fM fdM ["_law_powers"] spMade := ok_made FM mt ms
  refine F.ok scTimes (fun vs H Q E h => ?_) (fun cdv A outer s H vs Q E hr h => ?_)
  · obtain ⟨a, b, m, n, x, rfl, _⟩ := h
    rfl
  · obtain ⟨a, b, mm, nn, x, rfl, ⟨us, hus, pr⟩, ⟨vs, hvs, pr2⟩, cm, cn, lm, ln, bn, hx, q⟩ := h
    have nd := scTimes.nd
    have hu := hu_of hr
    have hlv : vs.length = nn.length := pr2.length
    obtain ⟨ov, hov, _⟩ := id hvs
    refine ⟨_, pss_cons (ps_set (i := 3) nd rfl (.inl rfl) (pe_callTy (call_dictPT rfl) (by rfl) md (by decide +kernel) (pa_cons (pv 0) pa_nil)))
      (pss_cons (ps_for PassesOwn.never rfl (pi_tup (pv 1)) (pg_tup rfl (pgs_cons (pg_name (i := 4) nd rfl (.inl rfl)) (pgs_cons (pg_name (i := 5) nd rfl (.inl rfl)) pgs_nil)))
        (pss_one (ps_dput hu (pv 3) (pv 4) (pe_op op_add (pe_dget2 hu (pv 3) (pv 4) pe_int ⟨rfl, rfl, rfl, rfl⟩) (pe_op op_mulW (pv 5) (pv 2))) rfl)))
      (pss_one (ps_ret (pe_call GM hr (by rfl) gM FM.kp bM .nil pass0 (pa_cons (pv 3) pa_nil))))), ?_⟩
    refine ⟨_, rfl, a, us, enc mm, rfl, hus, ms_pairs pr, fun d nd0 => ?_⟩
    have em : mergeK [] (enc mm) = enc mm := merge_enc V.int mm [] cm.ris.nodup
    rw [em]
    have s0 : Same H (upd H d (.dK (enc mm))) := same_new nd0
    refine ⟨_, rfl, b, rfl, ⟨_, .inl (.inr ⟨ov, s0 _ _ hov⟩)⟩, for_tup (xs := vs.map V.ref) (fun k σ H3 => ∃ (v4 v5 : Option V) (m : Ms), σ = [some (.ref a), some (.ref b), some (.int x), some (.ref d), v4, v5] ∧ Same H H3 ∧ H3 d = some (.dK (enc m)) ∧ (m.map (·.1)).Nodup ∧ m.length ≤ 1000 + k ∧ ∀ j, at0 m j = at0 mm j + sumAt (nn.take k) j * x)
      ⟨none, none, mm, rfl, s0, upd_same, cm.ris.nodup, by omega, fun j => by show _ = _ + 0 * x; omega⟩ (fun k σ H3 _ z => ?_) ?_ ?_⟩
    · obtain ⟨_, _, _, _, z, _⟩ := z
      exact .inl (.inr ⟨ov, z _ _ hov⟩)
    · rintro k y σ H3 hy ⟨v4, v5, m, rfl, sm, hd, hn, hml, hat⟩
      obtain ⟨u, hu1, rfl⟩ := at_map hy
      obtain ⟨p, hp, hup⟩ := paired_ix pr2 hu1
      have hk : k < vs.length := (List.getElem?_eq_some_iff.mp hu1).1
      refine ⟨u, _, rfl, SqT.of (sm _ _ hup), rfl, _, _, rfl, _, _, rfl, rfl, ?_⟩
      (repeat (first | refine ⟨_, rfl, ?_⟩ | refine ⟨_, _, rfl, rfl, ?_⟩ | refine ⟨(by show (0 : Int) < _; decide), ?_⟩ | refine ⟨⟨by decide, by decide⟩, ?_⟩ | refine ⟨.inr (by decide), ?_⟩ | refine ⟨.inl (by decide), ?_⟩ | refine ⟨rfl, ?_⟩))
      obtain ⟨o, ho, ho2⟩ := dget_enc2 p.1 hd
      refine ⟨.inl ⟨_, .inl hd⟩, _, rfl, o, ho, ?_⟩
      rw [ho2]
      (repeat (first | refine ⟨_, rfl, ?_⟩ | refine ⟨_, _, rfl, rfl, ?_⟩ | refine ⟨(by show (0 : Int) < _; decide), ?_⟩ | refine ⟨⟨by decide, by decide⟩, ?_⟩ | refine ⟨.inr (by decide), ?_⟩ | refine ⟨.inl (by decide), ?_⟩ | refine ⟨rfl, ?_⟩))
      refine ⟨wide_mul (bn _ (List.mem_of_getElem? hp)) hx (by decide) (by decide) (by decide), ?_⟩
      (repeat (first | refine ⟨_, rfl, ?_⟩ | refine ⟨_, _, rfl, rfl, ?_⟩ | refine ⟨(by show (0 : Int) < _; decide), ?_⟩ | refine ⟨⟨by decide, by decide⟩, ?_⟩ | refine ⟨.inr (by decide), ?_⟩ | refine ⟨.inl (by decide), ?_⟩ | refine ⟨rfl, ?_⟩))
      refine ⟨d, _, rfl, dput_enc hd hn (small1000' (by omega)), ?_⟩
      refine ⟨_, _, put m p.1 (at0 m p.1 + p.2 * x), rfl, same_upd sm nd0, upd_same, put_nodup _ _ hn, Nat.le_trans (put_len _ _ _) (by omega), fun j => ?_⟩
      rw [at0_put, sum_nx hp, Int.add_mul]
      have hj := hat j
      by_cases e : j = p.1
      · rw [if_pos e, if_pos e.symm, ← e]
        omega
      · rw [if_neg e, if_neg (fun z => e z.symm)]
        omega
    · rintro σ H3 ⟨v4, v5, m, rfl, sm, hd, hn, hml, hat⟩
      rw [List.length_map, hlv] at hml
      rw [List.length_map, hlv, List.take_length] at hat
      (repeat (first | refine ⟨_, rfl, ?_⟩ | refine ⟨_, _, rfl, rfl, ?_⟩ | refine ⟨(by show (0 : Int) < _; decide), ?_⟩ | refine ⟨⟨by decide, by decide⟩, ?_⟩ | refine ⟨.inr (by decide), ?_⟩ | refine ⟨.inl (by decide), ?_⟩ | refine ⟨rfl, ?_⟩))
      refine ⟨d, m, rfl, hd, hn, by omega, fun H4 p r s4 np hp hc he => ?_⟩
      exact q H4 p r (sm.trans s4) (sm.free np) hp ⟨hc, fun j => by rw [he, hat, can_sum cn]⟩
end
end MK


set_option Elab.async false
set_option linter.all false
set_option maxRecDepth 100000
set_option maxHeartbeats 4000000
namespace MK
open PySem PySem.Spec PyProof.Rows L2
/-! ### rows, one of them spoilt -/
structure RowS (ls os : List Str) (B Y : Nat) (m : Ms) : Prop where
  c : Can m
  k : ∀ p ∈ m, p.1 ∈ ls ∨ p.1 ∈ os
  s : ∀ j ∈ ls, (at0 m j).natAbs ≤ B
  y : ∀ j, (at0 m j).natAbs ≤ Y
theorem RowS.mono {ls os : List Str} {B Y B' Y' : Nat} {m : Ms} (h : RowS ls os B Y m) (hb : B ≤ B') (hy : Y ≤ Y') : RowS ls os B' Y' m := ⟨h.c, h.k, fun j hj => Nat.le_trans (h.s j hj) hb, fun j => Nat.le_trans (h.y j) hy⟩
theorem RowS.nil {ls os : List Str} : RowS ls os 0 0 [] := ⟨can_nil, fun p hp => absurd hp List.not_mem_nil, fun _ _ => Nat.le_refl _, fun _ => Nat.le_refl _⟩
theorem RowS.times {ls os : List Str} {B1 Y1 B2 Y2 X : Nat} {m n r : Ms} {x : Int} (h1 : RowS ls os B1 Y1 m) (h2 : RowS ls os B2 Y2 n) (t : IsTms m n x r) (hx : x.natAbs ≤ X) : RowS ls os (B1 + B2 * X) (Y1 + Y2 * X) r := by
  obtain ⟨c, e⟩ := t
  have bd : ∀ j {a b : Nat}, (at0 m j).natAbs ≤ a → (at0 n j).natAbs ≤ b → (at0 r j).natAbs ≤ a + b * X := fun j a b ha hb => by
    rw [e]
    have h1 := Int.natAbs_add_le (at0 m j) (at0 n j * x)
    rw [Int.natAbs_mul] at h1
    have := Nat.mul_le_mul hb hx
    omega
  refine ⟨c, fun p hp => ?_, fun j hj => bd j (h1.s j hj) (h2.s j hj), fun j => bd j (h1.y j) (h2.y j)⟩
  have hz := at0_key c hp
  have nz := c.nz p hp
  by_cases z1 : at0 m p.1 = 0
  · by_cases z2 : at0 n p.1 = 0
    · rw [e, z1, z2, Int.zero_mul] at hz
      exact absurd hz.symm nz
    · exact h2.k (p.1, at0 n p.1) (at0_mem z2)
  · exact h1.k (p.1, at0 m p.1) (at0_mem z1)
theorem RowS.few {ls os : List Str} {B Y : Nat} {m : Ms} (h : RowS ls os B Y m) : m.length ≤ ls.length + os.length := by
  have := keys_le (keys := ls ++ os) h.c.ris.nodup fun p hp => List.mem_append.mpr (h.k p hp)
  rwa [List.length_append] at this
theorem RowS.sm {ls os : List Str} {B Y : Nat} {m : Ms} (h : RowS ls os B Y m) (hy : Y ≤ 2 ^ 25) : ∀ p ∈ m, p.2.natAbs < 2 ^ 250 := fun p hp => by
  have := h.y p.1
  rw [at0_key h.c hp] at this
  exact Nat.lt_of_le_of_lt (Nat.le_trans this hy) (by decide)
theorem RowS.small {ls os : List Str} {m : Ms} (c : Can m) (k : ∀ p ∈ m, p.1 ∈ os ∧ p.2.natAbs ≤ 20) (no : ∀ z ∈ os, z ∉ ls) : RowS ls os 0 20 m := by
  refine ⟨c, fun p hp => .inr (k p hp).1, fun j hj => ?_, fun j => ?_⟩
  · by_cases z : at0 m j = 0
    · rw [z]
      exact Nat.le_refl _
    · exact absurd hj (no j (k _ (at0_mem z)).1)
  · by_cases z : at0 m j = 0
    · rw [z]
      exact Nat.zero_le _
    · exact (k _ (at0_mem z)).2
theorem RowS.of {ls os : List Str} {xs : Str → List Int} {m : Ms} (h : RowOk ls os xs m) : RowS ls os (shB ls.length) (2 ^ 20) m := by
  refine ⟨h.c, h.k, fun j hj => ?_, fun j => ?_⟩
  · exact h.s _ (List.mem_map.mpr ⟨j, hj, rfl⟩)
  · by_cases z : at0 m j = 0
    · rw [z]
      exact Nat.zero_le _
    · exact h.b _ (at0_mem z)
theorem RowS.row {ls os : List Str} {B Y : Nat} {m : Ms} (h : RowS ls os B Y m) : LeL B (powersOf m ls) := fun x hx => by
  unfold powersOf at hx
  obtain ⟨z, hz, rfl⟩ := List.mem_map.mp hx
  exact h.s z hz
theorem paired_setN {α β : Type} {R : α → β → Prop} {a : α} {b : β} (r : R a b) {xs : List α} {ys : List β} (h : Paired R xs ys) (n : Nat) : Paired R (xs.set n a) (ys.set n b) := by
  induction h generalizing n with
  | nil => exact .nil
  | cons x _ ih =>
    cases n with
    | zero => exact .cons r (by assumption)
    | succ n => exact .cons x (ih n)
theorem paired_ins {α β : Type} {R : α → β → Prop} {a : α} {b : β} (r : R a b) : ∀ (n : Nat) {xs : List α} {ys : List β}, Paired R xs ys → Paired R (xs.take n ++ [a] ++ xs.drop n) (ys.take n ++ [b] ++ ys.drop n)
  | 0, _, _, h => .cons r h
  | _ + 1, _, _, .nil => .cons r .nil
  | n + 1, _, _, .cons h t => .cons h (paired_ins r n t)
section
variable {P : Program} {w : World} {K : PySem.W.Frag} {mg : Str → Option Value} {base : Heap}
theorem scSpoilt : FnScope ["_law_script", "_law_rows_here", "_law_others", "_law_found", "_law_cell", "_law_way", "_law_more", "_law_at", "_law_row", "_law_k", "_law_by"] ["_law_script", "_law_rows_here", "_law_others"] (defScope sSpoilt) := ⟨rfl, rfl, rfl, by decide +kernel, rfl, by decide +kernel, by decide +kernel⟩
def spSpoilt (K : PySem.W.Frag) : Sp := fun vs H Q _ => ∃ (s pr o : Addr) (ns : List Int) (rds : List Addr) (ms : List Ms) (ls os : List Str) (B : Nat), vs = [.ref s, .ref pr, .ref o] ∧ SqL K H s (ns.map V.int) ∧ H pr = some (.lst (rds.map V.ref)) ∧ Paired (MsN H) rds ms ∧ ms.length ≤ 5 ∧ H o = some (.lst (os.map V.str)) ∧ os ≠ [] ∧ os.length ≤ 4 ∧ ls.length ≤ 23 ∧ (∀ z ∈ os, z ∉ ls) ∧ (∀ m ∈ ms, RowS ls os B (2 ^ 20) m) ∧
  ∀ (H' : Hp) (p : Addr) (rds' : List Addr) (ms' : List Ms), Same H H' → H p = none → H' p = some (.lst (rds'.map V.ref)) → Paired (MsN H') rds' ms' → ms'.length ≤ ms.length + 1 → (∀ m ∈ ms', RowS ls os (B * max 6 (3 * ms.length)) (2 ^ 25) m) → Q (.ref p) H'
theorem ok_spoilt {f fX fC fS fT : Addr} {fd fdX fdC fdS fdT : FuncData} (F : Fun K "_law_spoilt" "_law_spoilt" sSpoilt f fd) (FX : Fun K "_law_mix" "_law_mix" sMix fX fdX) (bX : Binds K fdX ["_law_cell", "_law_k"] []) (gX : mg "_law_mix" = some (.ref fX))
    (FC : Fun K "_law_cell_at" "_law_cell_at" sCell fC fdC) (bC : Binds K fdC ["_law_script", "_law_k"] []) (gC : mg "_law_cell_at" = some (.ref fC))
    (GS : FnOk P w K mg base CX0 2 fS fdS ["_law_cell", "_law_letters"] spSmall) (kS : PySem.W.keepIn K (.ref fS) = true) (bS : Binds K fdS ["_law_cell", "_law_letters"] []) (gS : mg "_law_small" = some (.ref fS))
    (GT : FnOk P w K mg base CX0 2 fT fdT ["_law_one", "_law_other", "_law_by"] spLTimes) (kT : PySem.W.keepIn K (.ref fT) = true) (bT : Binds K fdT ["_law_one", "_law_other", "_law_by"] []) (gT : mg "_law_times" = some (.ref fT))
    (mr : mg "range" = none) (ml : mg "len" = none) (mL : mg "list" = none) : FnOk P w K mg base CX0 3 f fd ["_law_script", "_law_rows_here", "_law_others"] (spSpoilt K) := by
  have GX : FnOk P w K mg base CX0 1 fX fdX ["_law_cell", "_law_k"] spMix := ok_mix FX
  have GC : FnOk P w K mg base CX0 1 fC fdC ["_law_script", "_law_k"] (spCell K) := ok_cell FC ml
  refine F.ok scSpoilt (fun vs H Q E h => ?_) (fun cdv A outer s H vs Q E hr h => ?_)
  · obtain ⟨s, pr, o, ns, rds, ms, ls, os, B, rfl, _⟩ := h
    rfl
  · obtain ⟨sc, pr, o, ns, rds, mm, ls, os, B, rfl, hS, hpr, prm, m5, ho, o0, o4, l23, no, mok, q⟩ := h
    have nd := scSpoilt.nd
    have hr1 : Room 1 _ := hr.mono (by omega)
    have kS' : sizeLine = 16777216 := sizeLine_eq
    refine ⟨_, pss_cons (ps_set (i := 3) nd rfl (.inl rfl) (pe_callTy call_list_of (by rfl) mL PyProof.Rows.boot_list (pa_cons (pv 1) pa_nil)))
      (pss_cons (ps_set (i := 4) nd rfl (.inl rfl) (pe_call GC hr1 (by rfl) gC FC.kp bC .nil pass0 (pa_cons (pv 0) (pa_cons pe_int pa_nil))))
      (pss_cons (ps_set (i := 5) nd rfl (.inl rfl) (pe_op op_mod (pv 4) pe_int))
      (pss_cons (ps_set (i := 6) nd rfl (.inl rfl) (pe_call GS hr (by rfl) gS kS bS .nil pass0 (pa_cons (pe_call GX hr1 (by rfl) gX FX.kp bX .nil pass0 (pa_cons (pv 4) (pa_cons pe_int pa_nil))) (pa_cons (pv 2) pa_nil))))
      (Evl.pss_cut (ps_if (pw_and (pt_cmpR op_eq (pv 5) pe_int (nomark _)) (pw_and1 (pt_cmpR op_gt (pe_callB call_len_seq (by rfl) ml PySem.boot_len (pa_cons (pv 1) pa_nil)) pe_int (nomark _)))).pt
        (pss_cons (ps_set (i := 7) nd rfl (.inl rfl) (pe_op op_mod (pe_op op_fdiv (pv 4) pe_int) (pe_callB call_len_seq (by rfl) ml PySem.boot_len (pa_cons (pv 1) pa_nil))))
        (pss_one (ps_asg (pe_call GT hr (by rfl) gT kT bT .nil pass0 (pa_cons (pe_ix ix_list (pv 3) (pv 7) (fun _ _ => rfl)) (pa_cons (pv 6) (pa_cons pe_int pa_nil)))) (pg_sub (pv 3) (pv 7) set_list)))) pss_nil)
      (Evl.pss_cut (ps_if (pt_cmpR op_eq (pv 5) pe_int (nomark _))
        (pss_cons (ps_set (i := 8) nd rfl (.inl rfl) (pv 6))
        (pss_cons (ps_for PassesOwn.never rfl (pi_range1 rfl mr (pa_cons (pe_callB call_len_seq (by rfl) ml PySem.boot_len (pa_cons (pv 1) pa_nil)) pa_nil)) (pg_name (i := 9) nd rfl (.inl rfl))
          (pss_one (ps_set (i := 8) nd rfl (.inl rfl) (pe_call GT hr (by rfl) gT kT bT .nil pass0 (pa_cons (pv 8) (pa_cons (pe_ix ix_list (pv 1) (pv 9) (fun _ _ => rfl)) (pa_cons (pe_op op_sub (pe_op op_mod (pe_call GX hr1 (by rfl) gX FX.kp bX .nil pass0 (pa_cons (pv 4) (pa_cons (pv 9) pa_nil))) pe_int) pe_int) pa_nil)))))))
        (pss_one (ps_expr (pe_bm PySem.F.plainAttrs_list PySem.F.slot_list_insert PySem.F.type_list_insert mt_insert (pv 3) (pa_cons (pe_op op_mod (pe_op op_fdiv (pv 4) pe_int) (pe_op op_add (pe_callB call_len_seq (by rfl) ml PySem.boot_len (pa_cons (pv 1) pa_nil)) pe_int)) (pa_cons (pv 8) pa_nil))))))) pss_nil)
      (Evl.pss_cut (ps_if (pw_and (pt_cmpR op_eq (pv 5) pe_int (nomark _)) (pw_and1 (pt_cmpR op_gt (pe_callB call_len_seq (by rfl) ml PySem.boot_len (pa_cons (pv 1) pa_nil)) pe_int (nomark _)))).pt
        (pss_cons (ps_set (i := 10) nd rfl (.inl rfl) (pe_op op_add pe_int (pe_op op_mod (pe_op op_fdiv (pv 4) pe_int) pe_int)))
        (pss_cons (ps_set (i := 7) nd rfl (.inl rfl) (pe_op op_mod (pe_op op_fdiv (pv 4) pe_int) (pe_callB call_len_seq (by rfl) ml PySem.boot_len (pa_cons (pv 1) pa_nil))))
        (pss_one (ps_asg (pe_call GT hr (by rfl) gT kT bT .nil pass0 (pa_cons (pe_call GT hr (by rfl) gT kT bT .nil pass0 (pa_cons (pe_tupN pa_nil) (pa_cons (pe_ix ix_list (pv 3) (pv 7) (fun _ _ => rfl)) (pa_cons (pv 10) pa_nil)))) (pa_cons (pv 6) (pa_cons pe_int pa_nil)))) (pg_sub (pv 3) (pv 7) set_list))))) pss_nil)
      (pss_one (ps_ret (pv 3))))))))), ?_⟩
    have l5 : rds.length = mm.length := prm.length
    refine ⟨_, rfl, pr, _, rfl, .inl (SqL.of hpr), fun fo nfo => ?_⟩
    have s1 := same_new (o := .lst (rds.map V.ref)) nfo
    have hfo : upd H fo (.lst (rds.map V.ref)) fo = some (.lst (rds.map V.ref)) := upd_same
    generalize upd H fo (.lst (rds.map V.ref)) = H1 at s1 hfo ⊢
    refine ⟨_, rfl, sc, ns, 24, rfl, s1.seq hS, fun c c0 c1 => ?_⟩
    refine ⟨_, rfl, _, _, rfl, rfl, (by show (0 : Int) < 4; decide), ?_⟩
    refine ⟨_, rfl, c, _, rfl, fun x x0 x1 => ?_⟩
    refine ⟨_, rfl, x, o, os, rfl, x0, s1 _ _ ho, o0, by omega, fun H2 pm r s2 npm hm cm lm km => ?_⟩
    have rw0 := RowS.small (ls := ls) cm km no
    have s02 := s1.trans s2
    have hfo2 := s2 _ _ hfo
    have prm2 : Paired (MsN H2) rds mm := Paired.mono (fun _ _ z => z.same s02) prm
    have fin : ∀ {H' : Hp} {rds' : List Addr} {ms' : List Ms} {k : Int}, Same H H' → H' fo = some (.lst (rds'.map V.ref)) → Paired (MsN H') rds' ms' → (ms' = mm ∨ (c % 4 < k ∧ ms'.length ≤ mm.length + 1 ∧ ∀ m ∈ ms', RowS ls os (B * max 6 (3 * mm.length)) (2 ^ 25) m)) → Q (.ref fo) H' := fun {H' rds' ms' k} sm h p hh => by
      rcases hh with rfl | ⟨_, h1, h2⟩
      · exact q H' fo rds' _ sm nfo h p (by omega) fun m hm => (mok m hm).mono (Nat.le_mul_of_pos_right _ (by omega)) (by decide)
      · exact q H' fo rds' ms' sm nfo h p h1 h2
    refine ⟨fun σ H' => ∃ (v7 v8 v9 v10 : Option V) (rds1 : List Addr) (ms1 : List Ms), σ = [some (.ref sc), some (.ref pr), some (.ref o), some (.ref fo), some (.int c), some (.int (c % 4)), some (.ref pm), v7, v8, v9, v10] ∧ Same H H' ∧ MsN H' pm r ∧ H' fo = some (.lst (rds1.map V.ref)) ∧ Paired (MsN H') rds1 ms1 ∧ (ms1 = mm ∨ (c % 4 < 1 ∧ ms1.length ≤ mm.length + 1 ∧ ∀ m ∈ ms1, RowS ls os (B * max 6 (3 * mm.length)) (2 ^ 25) m)), ?_, ?_⟩
    · refine ⟨_, rfl, rfl, _, rfl, ite2 (fun e => ?_) (fun e => ?_)⟩
      · have e0 : c % 4 = 0 := V.int.inj (of_decide_eq_true e)
        refine ⟨_, rfl, pr, _, rfl, .inl (SqL.of (s02 _ _ hpr)), _, _, rfl, rfl, _, rfl, ite2 (fun g => ?_) (fun g => ?_)⟩
        · have g0 : 0 < mm.length := by
            have : (0 : Int) < ((rds.map V.ref).length : Int) := of_decide_eq_true g
            rw [List.length_map, l5] at this
            omega
          obtain ⟨n, hn, nl⟩ : ∃ n : Nat, c / 4 % ((rds.map V.ref).length : Int) = (n : Int) ∧ n < mm.length := by
            rw [List.length_map, l5]
            refine ⟨(c / 4 % (mm.length : Int)).toNat, ?_, ?_⟩
            · have := Int.emod_nonneg (c / 4) (b := (mm.length : Int)) (by omega)
              omega
            · have := Int.emod_nonneg (c / 4) (b := (mm.length : Int)) (by omega)
              have := Int.emod_lt_of_pos (c / 4) (b := (mm.length : Int)) (by omega)
              omega
          obtain ⟨rd, hrd⟩ : ∃ rd, rds[n]? = some rd := ⟨_, List.getElem?_eq_getElem (by omega)⟩
          obtain ⟨m0, hm0, hmr⟩ := paired_ix prm2 hrd
          have mo0 := mok m0 (List.mem_of_getElem? hm0)
          have f0 := mo0.few
          refine ⟨_, rfl, _, _, rfl, rfl, ⟨by decide, by decide⟩, _, rfl, pr, _, rfl, .inl (SqL.of (s02 _ _ hpr)), _, _, rfl, rfl, (by rw [List.length_map]; omega), ?_⟩
          refine ⟨_, rfl, _, rfl, fo, _, _, _, rfl, rfl, SqL.of hfo2, (by rw [hn]; exact atI_nat (by rw [List.getElem?_map, hrd]; rfl)), _, rfl, ?_⟩
          refine ⟨rd, pm, m0, r, 1, rfl, hmr, hm, mo0.c, cm, by omega, by omega, fun p hp => Nat.lt_of_le_of_lt (km p hp).2 (by decide), by decide, fun H3 p3 r3 s3 np3 hp3 t3 => ?_⟩
          have ro := RowS.times mo0 rw0 t3 (X := 1) (by decide)
          have hfo3 := s3 _ _ hfo2
          have prm3 : Paired (MsN H3) rds mm := Paired.mono (fun _ _ z => z.same s3) prm2
          refine ⟨_, rfl, _, rfl, fo, _, _, n, rfl, (by show V.int (c / 4 % _) = _; rw [hn]), hfo3, Evl.ixN_nat (by rw [List.length_map]; omega), ?_⟩
          refine ⟨_, none, none, none, rds.set n p3, mm.set n r3, rfl, same_upd (s02.trans s3) nfo, (hm.same s3).lst hfo3, ?_, ?_, .inr ⟨by omega, by rw [List.length_set]; omega, fun m' hm' => ?_⟩⟩
          · rw [upd_same, List.map_set]
          · refine paired_of (by rw [List.length_set, List.length_set]; exact l5) fun i a' b' ha hb => ?_
            rw [List.getElem?_set] at ha hb
            split at ha
            · rename_i en
              rw [if_pos en] at hb
              split at ha
              · rw [if_pos (by omega)] at hb
                cases ha
                cases hb
                exact hp3.lst hfo3
              · cases ha
            · rename_i en
              rw [if_neg en] at hb
              obtain ⟨b2, hb2, z⟩ := paired_ix prm3 ha
              rw [hb] at hb2
              cases hb2
              exact z.lst hfo3
          · rcases List.mem_or_eq_of_mem_set hm' with h | rfl
            · exact (mok m' h).mono (Nat.le_mul_of_pos_right _ (by omega)) (by decide)
            · exact ro.mono (Nat.le_trans (Nat.le_of_eq (by omega)) (Nat.le_mul_of_pos_right _ (by omega : 0 < max 6 (3 * mm.length)))) (by decide)
        · exact ⟨none, none, none, none, rds, mm, rfl, s02, hm, hfo2, prm2, .inl rfl⟩
      · exact iteF ⟨none, none, none, none, rds, mm, rfl, s02, hm, hfo2, prm2, .inl rfl⟩
    rintro σ H3 ⟨v7, v8, v9, v10, rds1, ms1, rfl, s3, hm3, hfo3, pr3, hh⟩
    refine ⟨fun σ H' => ∃ (v7 v8 v9 v10 : Option V) (rds1 : List Addr) (ms1 : List Ms), σ = [some (.ref sc), some (.ref pr), some (.ref o), some (.ref fo), some (.int c), some (.int (c % 4)), some (.ref pm), v7, v8, v9, v10] ∧ Same H H' ∧ MsN H' pm r ∧ H' fo = some (.lst (rds1.map V.ref)) ∧ Paired (MsN H') rds1 ms1 ∧ (ms1 = mm ∨ (c % 4 < 2 ∧ ms1.length ≤ mm.length + 1 ∧ ∀ m ∈ ms1, RowS ls os (B * max 6 (3 * mm.length)) (2 ^ 25) m)), ?_, ?_⟩
    · refine ⟨_, rfl, rfl, _, rfl, ite2 (fun e => ?_) (fun e => ?_)⟩
      · have e0 : c % 4 = 1 := V.int.inj (of_decide_eq_true e)
        obtain rfl : ms1 = mm := by
          rcases hh with h | h
          · exact h
          · omega
        refine ⟨_, rfl, ?_⟩
        refine ⟨_, rfl, pr, _, rfl, .inl (SqL.of (s3 _ _ hpr)), _, rfl, ?_⟩
        rw [List.length_map, l5]
        refine ⟨by omega, by omega, ?_⟩
        refine for_range (n := ((ms1.length : Nat) : Int).toNat) (fun i σ H' => ∃ (v9 : Option V) (pw : Addr) (rw1 : Ms), σ = [some (.ref sc), some (.ref pr), some (.ref o), some (.ref fo), some (.int c), some (.int (c % 4)), some (.ref pm), v7, some (.ref pw), v9, v10] ∧ Same H3 H' ∧ MsN H' pw rw1 ∧ RowS ls os (B * (3 * i)) (20 + 2 ^ 20 * (3 * i)) rw1)
          ⟨v9, pm, r, rfl, Same.refl _, hm3, by exact rw0⟩ ?_ ?_
        · rintro i σ H4 hi ⟨v9, pw, rw1, rfl, s4, hpw, hrw⟩
          have hi : i < ms1.length := by omega
          have z0 : (0 : Int) + (i : Int) = ((i : Nat) : Int) := Int.zero_add _
          obtain ⟨rd, hrd⟩ : ∃ rd, rds[i]? = some rd := ⟨_, List.getElem?_eq_getElem (by omega)⟩
          obtain ⟨m0, hm0, hmr⟩ := paired_ix prm hrd
          have mo0 := mok m0 (List.mem_of_getElem? hm0)
          have f0 := mo0.few
          have f1 := hrw.few
          have s34 := s3.trans s4
          refine ⟨_, rfl, _, rfl, _, rfl, pr, _, _, _, rfl, rfl, SqL.of (s34 _ _ hpr), (by rw [z0]; exact atI_nat (by rw [List.getElem?_map, hrd]; rfl)), _, rfl, _, rfl, c, _, rfl, fun y y0 y1 => ?_⟩
          refine ⟨_, _, rfl, rfl, (by show (0 : Int) < 7; decide), _, _, rfl, rfl, ?_⟩
          refine ⟨pw, rd, rw1, m0, y % 7 - 3, rfl, hpw, hmr.same s34, hrw.c, mo0.c, by omega, by omega, mo0.sm (by decide), Nat.lt_of_lt_of_le (show (y % 7 - 3).natAbs < 4 by omega) (by decide), fun H5 p5 r5 s5 np5 hp5 t5 => ?_⟩
          have ro := RowS.times hrw mo0 t5 (X := 3) (by omega)
          refine ⟨_, p5, r5, rfl, s4.trans s5, hp5, ro.mono (Nat.le_of_eq ?_) (Nat.le_of_eq ?_)⟩
          · rw [← Nat.mul_add]
            congr 1
          · rw [Nat.add_assoc, ← Nat.mul_add]
            congr 2
        rintro σ H4 ⟨v9, pw, rw1, rfl, s4, hpw, hrw⟩
        rw [Int.toNat_natCast] at hrw
        have s34 := s3.trans s4
        have hfo4 := s4 _ _ hfo3
        have r5 : rds1.length = ms1.length := pr3.length
        obtain ⟨n, hn, nl⟩ : ∃ n : Nat, c / 4 % (((rds.map V.ref).length : Int) + 1) = (n : Int) ∧ n ≤ ms1.length := by
          rw [List.length_map, l5]
          have h1 := Int.emod_nonneg (c / 4) (b := (ms1.length : Int) + 1) (by omega)
          have h2 := Int.emod_lt_of_pos (c / 4) (b := (ms1.length : Int) + 1) (by omega)
          exact ⟨(c / 4 % ((ms1.length : Int) + 1)).toNat, by omega, by omega⟩
        refine ⟨_, rfl, .inl ⟨rfl, _, SqL.of hfo4⟩, _, rfl, _, _, rfl, rfl, ⟨by decide, by decide⟩, _, rfl, pr, _, rfl, .inl (SqL.of (s34 _ _ hpr)), _, _, rfl, rfl, _, _, rfl, rfl, (by rw [List.length_map]; omega), _, rfl, ?_⟩
        refine ⟨fo, _, (n : Int), _, rfl, (by show [V.int (c / 4 % _), _] = _; rw [hn]), hfo4, (by rw [List.length_map]; omega), by omega, by omega, ?_⟩
        rw [Int.toNat_natCast]
        refine ⟨_, _, _, _, rds1.take n ++ [pw] ++ rds1.drop n, ms1.take n ++ [rw1] ++ ms1.drop n, rfl, same_upd s34 nfo, (hm3.same s4).lst hfo4, ?_, paired_ins (hpw.lst hfo4) n (Paired.mono (fun _ _ z => (z.same s4).lst hfo4) pr3), .inr ⟨by omega, ?_, fun m' hm' => ?_⟩⟩
        · rw [upd_same, List.map_append, List.map_append, List.map_take, List.map_drop]
          rfl
        · rw [List.length_append, List.length_append, List.length_take, List.length_drop]
          show min n ms1.length + 1 + _ ≤ _
          omega
        · have hcase : m' ∈ ms1 ∨ m' = rw1 := by
            rcases List.mem_append.mp hm' with h | h
            · rcases mem_snoc h with h | h
              · exact .inl (List.mem_of_mem_take h)
              · exact .inr h
            · exact .inl (List.mem_of_mem_drop h)
          rcases hcase with h | rfl
          · exact (mok m' h).mono (Nat.le_mul_of_pos_right _ (by omega)) (by decide)
          · refine hrw.mono (Nat.mul_le_mul_left _ (Nat.le_max_right _ _)) ?_
            have : 3 * ms1.length ≤ 15 := by omega
            have := Nat.mul_le_mul_left (2 ^ 20) this
            omega
      · exact ⟨_, _, _, _, rds1, ms1, rfl, s3, hm3, hfo3, pr3, hh.imp id fun h => ⟨by omega, h.2⟩⟩
    rintro σ H4 ⟨v7, v8, v9, v10, rds1, ms1, rfl, s4, hm4, hfo4, pr4, hh⟩
    refine ⟨fun σ H' => ∃ (v7 v8 v9 v10 : Option V) (rds1 : List Addr) (ms1 : List Ms), σ = [some (.ref sc), some (.ref pr), some (.ref o), some (.ref fo), some (.int c), some (.int (c % 4)), some (.ref pm), v7, v8, v9, v10] ∧ Same H H' ∧ MsN H' pm r ∧ H' fo = some (.lst (rds1.map V.ref)) ∧ Paired (MsN H') rds1 ms1 ∧ (ms1 = mm ∨ (c % 4 < 3 ∧ ms1.length ≤ mm.length + 1 ∧ ∀ m ∈ ms1, RowS ls os (B * max 6 (3 * mm.length)) (2 ^ 25) m)), ?_, ?_⟩
    · refine ⟨_, rfl, rfl, _, rfl, ite2 (fun e => ?_) (fun e => ?_)⟩
      · have e0 : c % 4 = 2 := V.int.inj (of_decide_eq_true e)
        obtain rfl : ms1 = mm := by
          rcases hh with h | h
          · exact h
          · omega
        refine ⟨_, rfl, pr, _, rfl, .inl (SqL.of (s4 _ _ hpr)), _, _, rfl, rfl, _, rfl, ite2 (fun g => ?_) (fun g => ?_)⟩
        · have g0 : 0 < ms1.length := by
            have : (0 : Int) < ((rds.map V.ref).length : Int) := of_decide_eq_true g
            rw [List.length_map, l5] at this
            omega
          obtain ⟨n, hn, nl⟩ : ∃ n : Nat, c / 20 % ((rds.map V.ref).length : Int) = (n : Int) ∧ n < ms1.length := by
            rw [List.length_map, l5]
            have h1 := Int.emod_nonneg (c / 20) (b := (ms1.length : Int)) (by omega)
            have h2 := Int.emod_lt_of_pos (c / 20) (b := (ms1.length : Int)) (by omega)
            exact ⟨(c / 20 % (ms1.length : Int)).toNat, by omega, by omega⟩
          have r5 : rds1.length = ms1.length := pr4.length
          obtain ⟨rd, hrd⟩ : ∃ rd, rds1[n]? = some rd := ⟨_, List.getElem?_eq_getElem (by omega)⟩
          obtain ⟨m0, hm0, hmr⟩ := paired_ix pr4 hrd
          have mo0 := mok m0 (List.mem_of_getElem? hm0)
          have f0 := mo0.few
          refine ⟨_, rfl, _, _, rfl, rfl, ⟨by decide, by decide⟩, _, _, rfl, rfl, (by show (0 : Int) < 5; decide), _, _, rfl, rfl, ?_⟩
          refine ⟨_, rfl, _, _, rfl, rfl, ⟨by decide, by decide⟩, _, rfl, pr, _, rfl, .inl (SqL.of (s4 _ _ hpr)), _, _, rfl, rfl, (by rw [List.length_map]; omega), ?_⟩
          refine ⟨Nat.zero_le _, fun e1 oo ne1 don => ?_⟩
          have s5 := same_new (o := .frz oo (.tup [])) ne1
          have he1 : MsN (upd H4 e1 (.frz oo (.tup []))) e1 [] := ⟨[], ⟨oo, upd_same, don⟩, .nil⟩
          refine ⟨_, rfl, _, rfl, fo, _, _, _, rfl, rfl, SqL.of (s5 _ _ hfo4), (by show atI _ (c / 20 % _) = _; rw [hn]; exact atI_nat (by rw [List.getElem?_map, hrd]; rfl)), _, rfl, ?_⟩
          refine ⟨e1, rd, [], m0, 2 + c / 4 % 5, rfl, he1, hmr.same s5, can_nil, mo0.c, Nat.zero_le _, by omega, mo0.sm (by decide), Nat.lt_of_lt_of_le (show (2 + c / 4 % 5).natAbs < 8 by omega) (by decide), fun H6 p6 r6 s6 np6 hp6 t6 => ?_⟩
          have ro6 := RowS.times (RowS.nil (ls := ls) (os := os)) mo0 t6 (X := 6) (by omega)
          have f6 := ro6.few
          have s56 := s5.trans s6
          refine ⟨_, rfl, ?_⟩
          refine ⟨p6, pm, r6, r, 1, rfl, hp6, hm4.same s56, ro6.c, cm, by omega, by omega, fun p hp => Nat.lt_of_le_of_lt (km p hp).2 (by decide), by decide, fun H7 p7 r7 s7 np7 hp7 t7 => ?_⟩
          have ro := RowS.times ro6 rw0 t7 (X := 1) (by decide)
          have s57 := s56.trans s7
          have hfo7 := s57 _ _ hfo4
          have prm7 : Paired (MsN H7) rds1 ms1 := Paired.mono (fun _ _ z => z.same s57) pr4
          refine ⟨_, rfl, _, rfl, fo, _, _, n, rfl, (by show V.int (c / 20 % _) = _; rw [hn]), hfo7, Evl.ixN_nat (by rw [List.length_map]; omega), ?_⟩
          refine ⟨_, _, _, _, rds1.set n p7, ms1.set n r7, rfl, same_upd (s4.trans s57) nfo, (hm4.same s57).lst hfo7, ?_, ?_, .inr ⟨by omega, by rw [List.length_set]; omega, fun m' hm' => ?_⟩⟩
          · rw [upd_same, List.map_set]
          · exact paired_setN (hp7.lst hfo7) (Paired.mono (fun _ _ z => z.lst hfo7) prm7) n
          · rcases List.mem_or_eq_of_mem_set hm' with h | rfl
            · exact (mok m' h).mono (Nat.le_mul_of_pos_right _ (by omega)) (by decide)
            · refine ro.mono ?_ (by decide)
              have := Nat.mul_le_mul_left B (Nat.le_max_left 6 (3 * ms1.length))
              omega
        · exact ⟨_, _, _, _, rds1, ms1, rfl, s4, hm4, hfo4, pr4, .inl rfl⟩
      · exact iteF ⟨_, _, _, _, rds1, ms1, rfl, s4, hm4, hfo4, pr4, hh.imp id fun h => ⟨by omega, h.2⟩⟩
    rintro σ H5 ⟨v7, v8, v9, v10, rds1, ms1, rfl, s5, hm5, hfo5, pr5, hh⟩
    exact ⟨_, rfl, fin s5 hfo5 pr5 hh⟩
end
end MK


set_option Elab.async false
set_option linter.all false
set_option maxRecDepth 100000
set_option maxHeartbeats 4000000
namespace MK
open PySem PySem.Spec PyProof.Rows L2
section
variable {P : Program} {w : World} {K : PySem.W.Frag} {mg : Str → Option Value} {base : Heap} {Nf U V B : Addr}
/-- what the written part says of the errors' classes -/
structure Kinds9 (K : PySem.W.Frag) (mg : Str → Option Value) (Nf U V B : Addr) : Prop where
  c : ExcC K Nf
  gN : mg "NoFit" = some (.ref Nf)
  gU : mg "Unlike" = some (.ref U)
  gV : mg "NoValue" = some (.ref V)
  gB : mg "ByNought" = some (.ref B)
  mi : mg "isinstance" = none
  mE : mg "ValueError" = none
  kN : PySem.W.kitOne K (.ref Nf) (.ref Nf) = some true
  kE : PySem.W.kitOne K (.ref Nf) (.type "ValueError") = some true
  kU : PySem.W.kitOne K (.ref Nf) (.ref U) = some false
  kV : PySem.W.kitOne K (.ref Nf) (.ref V) = some false
  kB : PySem.W.kitOne K (.ref Nf) (.ref B) = some false
/-! ### _law_none -/
theorem scNone9 : FnScope ["_law_e"] ["_law_e"] (defScope sNone) := ⟨rfl, rfl, rfl, by decide +kernel, rfl, by decide +kernel, by decide +kernel⟩
def spNone9 : Addr → Addr → Sp := fun a dx vs H Q _ => vs = [.ref a] ∧ (∃ fs, H dx = some (.xd fs)) ∧ Q (.bl true) H
theorem ok_none9 {f : Addr} {fd : FuncData} (F : Fun K "_law_none" "_law_none" sNone f fd) (k : Kinds9 K mg Nf U V B) : FnHD P w K mg base Nf 1 f fd ["_law_e"] spNone9 := by
  refine F.okHD scNone9 (fun a dx vs H Q E h => ?_) (fun cdv A outer s H vs Q E p dx hot hD hN hr h => ?_)
  · obtain ⟨rfl, _⟩ := h
    rfl
  · obtain ⟨rfl, ⟨fs, hx⟩, q⟩ := h
    have hf : ∃ vs, p.2.data = .fields vs := by
      obtain ⟨_, vs, e, _⟩ := hot
      exact ⟨vs, e⟩
    refine ⟨_, pss_cons (ps_if (pw_or (pt_not (pt_val (pe_callB (call_isPD k.c List.mem_cons_self hD hN hf) (by rfl) k.mi PyProof.Rows.boot_isinstance (pa_cons (pv 0) (pa_cons (pe_glob (v := .ref Nf) (by rfl) k.gN rfl) pa_nil)))))
        (pw_or1 (pt_not (pt_val (pe_callB (call_isPD k.c List.mem_cons_self hD hN hf) (by rfl) k.mi PyProof.Rows.boot_isinstance (pa_cons (pv 0) (pa_cons (pe_bltn (v := .ty "ValueError") (by rfl) k.mE L2.bootVE rfl) pa_nil))))))).pt (pss_one (ps_ret pe_bl)) pss_nil)
      (pss_one (ps_ret (pe_and (pe_not (pe_callB (call_isPD k.c List.mem_cons_self hD hN hf) (by rfl) k.mi PyProof.Rows.boot_isinstance (pa_cons (pv 0) (pa_cons (pe_glob (v := .ref U) (by rfl) k.gU rfl) pa_nil))))
        (pe_and (pe_not (pe_callB (call_isPD k.c List.mem_cons_self hD hN hf) (by rfl) k.mi PyProof.Rows.boot_isinstance (pa_cons (pv 0) (pa_cons (pe_glob (v := .ref V) (by rfl) k.gV rfl) pa_nil))))
        (pe_one (pe_not (pe_callB (call_isPD k.c List.mem_cons_self hD hN hf) (by rfl) k.mi PyProof.Rows.boot_isinstance (pa_cons (pv 0) (pa_cons (pe_glob (v := .ref B) (by rfl) k.gB rfl) pa_nil))))))))), ?_⟩
    refine ⟨_, rfl, fs, hx, _, _, true, rfl, fun u e => e, k.kN, true, rfl, iteF ?_⟩
    refine ⟨_, rfl, fs, hx, _, _, true, rfl, fun u e => e, k.kE, true, rfl, iteF ?_⟩
    refine ⟨_, rfl, fs, hx, _, _, false, rfl, fun u e => e, k.kU, false, rfl, true, rfl, iteT ?_⟩
    refine ⟨_, rfl, fs, hx, _, _, false, rfl, fun u e => e, k.kV, false, rfl, true, rfl, iteT ?_⟩
    refine ⟨_, rfl, fs, hx, _, _, false, rfl, fun u e => e, k.kB, false, rfl, ?_⟩
    exact q
end
end MK


set_option Elab.async false
set_option linter.all false
set_option maxRecDepth 100000
set_option maxHeartbeats 4000000
namespace MK
open PySem PySem.Spec PyProof.Rows L2
section
variable {P : Program} {w : World} {K : PySem.W.Frag} {mg : Str → Option Value} {base : Heap}
/-! ### _law_whole, _law_shows, called while an error is handled -/
theorem passH {X : Cx} : ∀ σ, PassesAt CX0 X σ E0 := fun _ _ _ _ _ _ _ h => h.elim
theorem ok_wholeH {f : Addr} {fd : FuncData} (F : Fun K "_law_whole" "_law_whole" sWhole f fd) (mi : mg "isinstance" = none) (mn : mg "int" = none) (mb : mg "bool" = none) : L2H.FnH P w K mg base CX0 1 f fd ["_law_found"] spWhole := by
  refine F.okH scWhole (fun vs H Q E h => ?_) (fun cdv A outer s H vs Q E p hot hr h => ?_)
  · obtain ⟨n, rfl, _⟩ := h
    rfl
  · obtain ⟨n, rfl, q⟩ := h
    refine ⟨_, pss_one (ps_ret (pe_and (pe_callB call_isi (by rfl) mi PyProof.Rows.boot_isinstance (pa_cons (pv 0) (pa_cons (pe_bltn (v := .ty "int") (by rfl) mn PyProof.Rows.boot_int rfl) pa_nil)))
      (pe_one (pe_not (pe_callB call_isi (by rfl) mi PyProof.Rows.boot_isinstance (pa_cons (pv 0) (pa_cons (pe_bltn (v := .ty "bool") (by rfl) mb PyProof.Rows.boot_bool rfl) pa_nil))))))), ?_⟩
    refine ⟨_, rfl, _, _, _, _, true, rfl, .ty _, .base (.int _), kit_ty (by decide +kernel), true, rfl, iteT ?_⟩
    refine ⟨_, rfl, _, _, _, _, false, rfl, .ty _, .base (.int _), kit_ty (by decide +kernel), false, rfl, ?_⟩
    exact q
abbrev scShowsN : List Str := ["_law_numbers", "_law_by", "_law_measures", "_law_letters", "_law_powers", "_law_k", "_law_letter", "_law_many", "_law_left"]
theorem scShows : FnScope scShowsN ["_law_numbers", "_law_by", "_law_measures", "_law_letters"] (defScope sShows) := ⟨rfl, rfl, rfl, by decide +kernel, rfl, by decide +kernel, by decide +kernel⟩
structure ShwIn (H : Hp) (cl a b : Addr) (cs : List Int) (W : Int) (rds : List Addr) (ms : List Ms) (ls : List Str) : Prop where
  c : H cl = some (.lst (cs.map V.int))
  a : H a = some (.lst (rds.map V.ref))
  m : Paired (MsN H) rds ms
  l : H b = some (.lst (ls.map V.str))
  nm : ∀ m ∈ ms, (m.map (·.1)).Nodup ∧ m.length ≤ 30 ∧ ∀ p ∈ m, p.2.natAbs < 2 ^ 250
  ml : ms.length ≤ 6
  ll : ls.length ≤ 1000
  w : W.natAbs < 2 ^ 7990
  cb : ∀ c ∈ cs, c.natAbs < 2 ^ 7990
  sh : Shows ls ms cs W
  ok : ∀ m ∈ ms, ∀ p ∈ m, Ok p.1
def spShows : Sp := fun vs H Q _ => ∃ (cl a b : Addr) (cs : List Int) (W : Int) (rds : List Addr) (ms : List Ms) (ls : List Str), vs = [.ref cl, .int W, .ref a, .ref b] ∧ ShwIn H cl a b cs W rds ms ls ∧ ∀ H', Same H H' → Q (.bl true) H'
theorem ok_shows {f fW : Addr} {fd fdW : FuncData} (F : Fun K "_law_shows" "_law_shows" sShows f fd) (FW : Fun K "_law_whole" "_law_whole" sWhole fW fdW) (bW : Binds K fdW ["_law_found"] []) (gW : mg "_law_whole" = some (.ref fW))
    (mi : mg "isinstance" = none) (mn : mg "int" = none) (mb : mg "bool" = none) (mL : mg "list" = none) (ml : mg "len" = none) (mr : mg "range" = none) : L2H.FnH P w K mg base CX0 2 f fd ["_law_numbers", "_law_by", "_law_measures", "_law_letters"] spShows := by
  have GW : L2H.FnH P w K mg base CX0 1 fW fdW ["_law_found"] spWhole := ok_wholeH FW mi mn mb
  refine F.okH scShows (fun vs H Q E h => ?_) (fun cdv A outer s H vs Q E p hot hr h => ?_)
  · obtain ⟨cl, a, b, cs, W, rds, ms, ls, rfl, _⟩ := h
    rfl
  · obtain ⟨cl, a, b, cs, W, rds, ms, ls, rfl, si, q⟩ := h
    have nd := scShows.nd
    have hun : (A.deeper (envOfC "_law_shows" (defScope sShows) s.heap.objs.size f cdv)).units + 64 < cLine := by have := hr.un; omega
    have hu : (A.deeper (envOfC "_law_shows" (defScope sShows) s.heap.objs.size f cdv)).units + 1 < cLine := by omega
    have hc : L2H.HotC (L2H.cxH CX0 P w K mg base scShowsN "_law_shows" (defScope sShows) f cdv A outer s H E p) := ⟨p, hot, List.mem_cons_self⟩
    refine ⟨_, pss_cons (ps_if (pw_or (pt_not (pt_val (pe_callB call_isi (by rfl) mi PyProof.Rows.boot_isinstance (pa_cons (pv 0) (pa_cons (pe_bltn (v := .ty "list") (by rfl) mL PyProof.Rows.boot_list rfl) pa_nil)))))
        (pw_or (pt_cmpR op_ne (pe_callB call_len_seq (by rfl) ml PySem.boot_len (pa_cons (pv 0) pa_nil)) (pe_callB call_len_seq (by rfl) ml PySem.boot_len (pa_cons (pv 2) pa_nil)) (nomark _))
        (pw_or (pt_not (pt_val (L2H.pe_callH GW hr hc (by rfl) gW FW.kp bW passH (pa_cons (pv 1) pa_nil))))
        (pw_or1 (pt_cmpR op_lt (pv 1) pe_int (nomark _)))))).pt (pss_one (ps_ret pe_bl)) pss_nil)
      (pss_cons (ps_set (i := 4) nd rfl (.inr rfl) pe_dnewK)
      (pss_cons (L2H.ps_forH (passes_of rfl) hc (L2H.pi_range1H (by rfl) mr (pa_cons (pe_callB call_len_seq (by rfl) ml PySem.boot_len (pa_cons (pv 2) pa_nil)) pa_nil)) (pg_name (i := 5) nd rfl (.inl rfl))
        (pss_cons (ps_if (pt_not (pt_val (L2H.pe_callH GW hr hc (by rfl) gW FW.kp bW passH (pa_cons (pe_ix ix_list (pv 0) (pv 5) (fun _ _ => rfl)) pa_nil)))) (pss_one (ps_ret pe_bl)) pss_nil)
        (pss_one (L2H.ps_forH (passes_of rfl) hc (L2H.pi_tupX (pe_ix ix_list (pv 2) (pv 5) (fun _ _ => rfl))).h (L2H.pg_tupH hc (pgs_cons (pg_name (i := 6) nd rfl (.inl rfl)) (pgs_cons (pg_name (i := 7) nd rfl (.inl rfl)) pgs_nil)))
          (pss_one (ps_dput hu (pv 4) (pv 6) (pe_op op_add (pe_dget2 hu (pv 4) (pv 6) pe_int ⟨rfl, rfl, rfl, rfl⟩) (pe_op op_mulW (pv 7) (pe_ix ix_list (pv 0) (pv 5) (fun _ _ => rfl)))) rfl))))))
      (pss_cons (ps_lock (L2H.ps_setLcH (i := 8) hc nd rfl rfl rfl (own := [("_law_letter", 6)]) (g := gName 6) (L2H.pi_keysX (pv 4)) (blkOk_by (N := scShowsN) (sc := defScope sShows) (by decide +kernel)) (fun _ _ _ _ _ => pg_name (i := 6) nd rfl (Or.inl rfl))
          (fun _ _ _ _ _ => pts_one (pt_cmpR op_ne (pe_op op_modW (pe_dget hu (pv 4) (pv 6) (fun _ _ => rfl)) (pv 1)) pe_int (nomark _))) (fun _ _ _ _ _ => pv 6)))
      (pss_one (ps_ret (pe_and (pe_cmpR (op_neD hun) (pv 8) (pe_lst pa_nil) (nomark _)) (pe_one (pe_cmpR (op_eqD hun) (by exact (L2H.pe_lcH (own := [("_law_letter", 6)]) (g := gName 6) hc nd (L2H.pi_listX (pv 8)) (blkOk_by (N := scShowsN) (sc := defScope sShows) (by decide +kernel)) (fun _ _ _ _ _ => pg_name (i := 6) nd rfl (Or.inl rfl))
          (fun _ _ _ _ _ => pts_one (pt_cmpR (show OpR _ _ (rIn K false) from op_in_seq) (pv 6) (pv 3) (by rfl))) (fun _ _ _ _ _ => pv 6))) (pe_lst pa_nil) (nomark _))))))))), ?_⟩
    have pml := si.m.length
    have sml := si.ml
    have clen := si.sh.len
    have kS : sizeLine = 16777216 := sizeLine_eq
    refine ⟨_, rfl, _, _, _, _, true, rfl, .ty _, .base (.lst si.c), kit_ty (by decide +kernel), true, rfl, iteF ?_⟩
    refine ⟨_, rfl, cl, _, rfl, .inl (SqL.of si.c), _, rfl, a, _, rfl, .inl (SqL.of si.a), rfl, _, rfl, ?_⟩
    rw [show (!decide (V.int ((cs.map V.int).length : Int) = V.int ((rds.map V.ref).length : Int))) = false by rw [decide_eq_true (by rw [List.length_map, List.length_map, clen, pml])]; rfl]
    refine iteF ?_
    refine ⟨_, rfl, W, rfl, true, rfl, iteF ?_⟩
    refine ⟨_, rfl, _, _, rfl, rfl, _, rfl, ?_⟩
    have w2 := si.sh.w2
    rw [show decide (W < 2) = false from decide_eq_false (by omega)]
    refine iteF ?_
    intro d nd0
    have s0 : Same H (upd H d (.dK [])) := same_new nd0
    have cl0 := s0 _ _ si.c
    have ha0 := s0 _ _ si.a
    refine ⟨_, rfl, a, _, rfl, .inl (SqL.of ha0), _, rfl, ?_⟩
    rw [List.length_map]
    refine ⟨by omega, by omega, ?_⟩
    refine for_range (n := ((rds.length : Nat) : Int).toNat) (fun i σ H2 => ∃ (v5 v6 v7 : Option V) (m : Ms), σ = [some (.ref cl), some (.int W), some (.ref a), some (.ref b), some (.ref d), v5, v6, v7, none] ∧ Same H H2 ∧ H2 d = some (.dK (enc m)) ∧ (m.map (·.1)).Nodup ∧ m.length ≤ 30 * i ∧ (∀ p ∈ m, Ok p.1) ∧ ∀ j, at0 m j = SumF (List.range i) fun n => cs.getD n 0 * at0 ((ms[n]?).getD []) j)
      ⟨none, none, none, [], rfl, s0, upd_same, List.nodup_nil, Nat.zero_le _, fun p hp => absurd hp List.not_mem_nil, fun j => rfl⟩ ?_ ?_
    · rintro i σ H2 hi ⟨v5, v6, v7, m, rfl, sm, hd, hn, hml, hok, hat⟩
      have hi : i < rds.length := by omega
      have z0 : (0 : Int) + (i : Int) = ((i : Nat) : Int) := Int.zero_add _
      obtain ⟨c, hcs⟩ : ∃ c, cs[i]? = some c := ⟨_, List.getElem?_eq_getElem (by omega)⟩
      have cm := List.mem_of_getElem? hcs
      obtain ⟨rd, hrd⟩ : ∃ rd, rds[i]? = some rd := ⟨_, List.getElem?_eq_getElem hi⟩
      obtain ⟨mm, hmm, hmr⟩ := paired_ix si.m hrd
      obtain ⟨nmm, lmm, bmm⟩ := si.nm mm (List.mem_of_getElem? hmm)
      refine ⟨_, rfl, _, rfl, cl, _, _, _, rfl, rfl, SqL.of (sm _ _ si.c), (by rw [z0]; exact atI_nat (by rw [List.getElem?_map, hcs]; rfl)), c, rfl, true, rfl, iteF ?_⟩
      obtain ⟨us, hus, pr⟩ := hmr.same sm
      have hlv : us.length = mm.length := pr.length
      refine ⟨_, rfl, _, rfl, a, _, _, _, rfl, rfl, SqL.of (sm _ _ si.a), (by rw [z0]; exact atI_nat (by rw [List.getElem?_map, hrd]; rfl)), rd, rfl, ⟨_, TupN.sq hus⟩, for_tup (xs := us.map V.ref) (fun k σ H3 => ∃ (v6 v7 : Option V) (m2 : Ms), σ = [some (.ref cl), some (.int W), some (.ref a), some (.ref b), some (.ref d), some (.int (0 + (i : Int))), v6, v7, none] ∧ (∀ c o, c ≠ d → H2 c = some o → H3 c = some o) ∧ H3 d = some (.dK (enc m2)) ∧ (m2.map (·.1)).Nodup ∧ m2.length ≤ 30 * i + k ∧ (∀ p ∈ m2, Ok p.1) ∧ ∀ j, at0 m2 j = at0 m j + c * sumAt (mm.take k) j)
        ⟨v6, v7, m, rfl, fun _ _ _ e => e, hd, hn, by omega, hok, fun j => by show _ = _ + c * 0; omega⟩ (fun k σ H3 _ z => ?_) ?_ ?_⟩
      · obtain ⟨_, _, _, _, z, _⟩ := z
        obtain ⟨o, e, dn⟩ := hus
        exact TupN.sq ⟨o, z _ _ (ne_of e hd (fun z => nomatch z)) e, dn⟩
      · rintro k y σ H3 hy ⟨v6, v7, m2, rfl, k3, hd3, hn3, hml3, hok3, hat3⟩
        obtain ⟨u, hu1, rfl⟩ := at_map hy
        obtain ⟨p0, hp, hup⟩ := paired_ix pr hu1
        have hk : k < us.length := (List.getElem?_eq_some_iff.mp hu1).1
        have hup : H2 u = some (.tup [.str p0.1, .int p0.2]) := hup
        have hup3 := k3 _ _ (ne_of hup hd (fun z => nomatch z)) hup
        have hcl3 := k3 _ _ (ne_of (sm _ _ si.c) hd (fun z => nomatch z)) (sm _ _ si.c)
        refine ⟨u, _, rfl, SqT.of hup3, rfl, _, _, rfl, _, _, rfl, rfl, ?_⟩
        (repeat (first | refine ⟨_, rfl, ?_⟩ | refine ⟨_, _, rfl, rfl, ?_⟩ | refine ⟨(by show (0 : Int) < _; decide), ?_⟩ | refine ⟨⟨by decide, by decide⟩, ?_⟩ | refine ⟨.inr (by decide), ?_⟩ | refine ⟨.inl (by decide), ?_⟩ | refine ⟨rfl, ?_⟩))
        obtain ⟨o, ho, ho2⟩ := dget_enc2 p0.1 hd3
        refine ⟨.inl ⟨_, .inl hd3⟩, _, rfl, o, ho, ?_⟩
        rw [ho2]
        refine ⟨_, rfl, _, rfl, _, rfl, cl, _, _, _, rfl, rfl, SqL.of hcl3, (by rw [z0]; exact atI_nat (by rw [List.getElem?_map, hcs]; rfl)), ?_⟩
        have sb : Sm 250 p0.2 := bmm _ (List.mem_of_getElem? hp)
        have sc : Sm 7990 c := si.cb c cm
        refine ⟨_, _, rfl, rfl, sb.mulW sc (by decide), _, _, rfl, rfl, ?_⟩
        (repeat (first | refine ⟨_, rfl, ?_⟩ | refine ⟨_, _, rfl, rfl, ?_⟩ | refine ⟨(by show (0 : Int) < _; decide), ?_⟩ | refine ⟨⟨by decide, by decide⟩, ?_⟩ | refine ⟨.inr (by decide), ?_⟩ | refine ⟨.inl (by decide), ?_⟩ | refine ⟨rfl, ?_⟩))
        refine ⟨d, _, rfl, dput_enc hd3 hn3 (small1000' (by omega)), ?_⟩
        refine ⟨_, _, put m2 p0.1 (at0 m2 p0.1 + p0.2 * c), rfl, fun c' o' n e => by rw [upd_ne n]; exact k3 _ _ n e, upd_same, put_nodup _ _ hn3, Nat.le_trans (put_len _ _ _) (by omega), fun p' hp' => ?_, fun j => ?_⟩
        · rcases put_mem hp' with rfl | h
          · exact si.ok mm (List.mem_of_getElem? hmm) p0 (List.mem_of_getElem? hp)
          · exact hok3 p' h
        rw [at0_put, sum_nx hp, Int.mul_add]
        have hj := hat3 j
        by_cases e : j = p0.1
        · rw [if_pos e, if_pos e.symm, ← e, hj, Int.mul_comm p0.2 c]
          omega
        · rw [if_neg e, if_neg (fun z => e z.symm), hj]
          omega
      · rintro σ H3 ⟨v6, v7, m2, rfl, k3, hd3, hn3, hml3, hok3, hat3⟩
        rw [List.length_map, hlv] at hml3
        rw [List.length_map, hlv, List.take_length] at hat3
        refine ⟨_, _, _, m2, rfl, fun c' o' e => k3 _ _ (ne_of_none e nd0) (sm _ _ e), hd3, hn3, by omega, hok3, fun j => ?_⟩
        rw [hat3, hat, List.range_succ, sf_app]
        show _ = _ + (cs.getD i 0 * at0 ((ms[i]?).getD []) j + 0)
        rw [Int.add_zero, hmm, List.getD_eq_getElem?_getD, hcs, sumAt_at0 j nmm]
        rfl
    rintro σ H1 ⟨v5, v6, v7, m, rfl, sm, hd, hn, hml, hok, hat⟩
    rw [Int.toNat_natCast, pml] at hml hat
    have Wp : W ≠ 0 := by omega
    have dvi : ∀ z, (at0 m z).fmod W = 0 ↔ W ∣ at0 m z := fun z => by
      rw [Int.fmod_eq_emod_of_nonneg _ (by omega)]
      exact ⟨fun h => Int.dvd_of_emod_eq_zero h, fun h => Int.emod_eq_zero_of_dvd h⟩
    refine ⟨d, _, hd, trivial, fun od => ?_⟩
    have dgf : ∀ {H' : Hp} {k : Str}, H' d = some (.frz od (.dK (enc m))) → k ∈ m.map (·.1) → DGet H' d (.str k) (some (.int (at0 m k))) := fun {H' k} e h => by
      refine .inl ⟨enc m, Sum.inr k, .inr ⟨od, e⟩, rfl, ?_⟩
      rw [encG_val]
      unfold at0
      cases e2 : lk m k with
      | none => exact absurd h (lk_none.mp e2)
      | some v => rfl
    have hdB : upd H1 d (.frz od (.dK (enc m))) d = some (.frz od (.dK (enc m))) := upd_same
    have smB : ∀ {c : Addr} {x : HO}, H c = some x → upd H1 d (.frz od (.dK (enc m))) c = some x := fun {c x} e => by
      rw [upd_ne (ne_of_none e nd0)]
      exact sm _ _ e
    generalize upd H1 d (.frz od (.dK (enc m))) = HB at hdB smB ⊢
    refine ⟨_, rfl, d, od, _, rfl, hdB, fun D nD => ?_⟩
    have ll : (enc m).length = m.length := by unfold enc encG; rw [List.length_map]
    refine lc_it L2.walk_keys (fun i H2 => Same HB H2 ∧ H2 D = some (.lst ((((m.take i).map (·.1)).filter fun z => !decide ((at0 m z).fmod W = 0)).map V.str))) ⟨same_new nD, upd_same⟩ (fun i H2 _ z => z.1 _ _ hdB) ?_ ?_
    · rintro i x H2 H3 hi ⟨s2, hD⟩ ⟨rfl, kk, vv, hk, rfl⟩
      obtain ⟨z, n, hm, rfl, rfl⟩ := enc_at hk
      have zk : z ∈ m.map (·.1) := List.mem_map.mpr ⟨(z, n), List.mem_of_getElem? hm, rfl⟩
      refine ⟨rfl, ?_⟩
      refine ⟨_, rfl, _, rfl, d, _, rfl, dgf (s2 _ _ hdB) zk, _, rfl, _, _, rfl, rfl, Wp, rfl, _, rfl, ?_⟩
      have eD : ∀ l : List Str, l = ((m.take i).map (·.1)).filter (fun z => !decide ((at0 m z).fmod W = 0)) ++ (if (at0 m z).fmod W = 0 then [] else [z]) → l = ((m.take (i + 1)).map (·.1)).filter fun z => !decide ((at0 m z).fmod W = 0) := fun l e => by
        rw [e, take_more hm, List.map_append, List.filter_append]
        congr 1
        by_cases c : (at0 m z).fmod W = 0
        · rw [if_pos c]
          simp [c]
        · rw [if_neg c]
          simp [c]
      by_cases c : (at0 m z).fmod W = 0
      · rw [show (!decide (V.int ((at0 m z).fmod W) = V.int 0)) = false by rw [c]; rfl]
        refine iteF ⟨s2, ?_⟩
        rw [← eD _ rfl, if_pos c, List.append_nil]
        exact hD
      · rw [show (!decide (V.int ((at0 m z).fmod W) = V.int 0)) = true by rw [decide_eq_false fun e => c (V.int.inj e)]; rfl]
        refine iteT ⟨_, rfl, _, hD, ?_, same_upd s2 nD, ?_⟩
        · rw [List.length_map]
          have := List.length_filter_le (fun z => !decide ((at0 m z).fmod W = 0)) ((m.take i).map (·.1))
          rw [List.length_map, List.length_take] at this
          omega
        · rw [upd_same, ← eD _ rfl, if_neg c, List.map_append]
          rfl
    rintro H2 ⟨s2, hD⟩
    rw [ll, List.take_length] at hD
    obtain ⟨left, hl⟩ : ∃ left, left = (m.map (·.1)).filter fun z => !decide ((at0 m z).fmod W = 0) := ⟨_, rfl⟩
    rw [← hl] at hD
    have lm : ∀ z ∈ left, z ∈ m.map (·.1) ∧ ¬ W ∣ at0 m z := fun z hz => by
      rw [hl] at hz
      obtain ⟨h1, h2⟩ := List.mem_filter.mp hz
      refine ⟨h1, fun h3 => ?_⟩
      rw [decide_eq_true ((dvi z).mpr h3)] at h2
      cases h2
    have lne : left ≠ [] := fun e => by
      obtain ⟨j, jn, hj⟩ := si.sh.no
      rw [← hat] at hj
      have : j ∈ left := by
        rw [hl]
        refine List.mem_filter.mpr ⟨?_, ?_⟩
        · by_cases z : at0 m j = 0
          · exact absurd (by rw [z]; exact Int.dvd_zero _) hj
          · exact List.mem_map.mpr ⟨_, at0_mem z, rfl⟩
        · rw [decide_eq_false fun z => hj ((dvi j).mp z)]
          rfl
      rw [e] at this
      exact List.not_mem_nil this
    have lno : ∀ z ∈ left, z ∉ ls := fun z hz h => by
      have := si.sh.dv z h
      rw [← hat] at this
      exact (lm z hz).2 this
    have lok : ∀ z ∈ left, Ok z := fun z hz => by
      obtain ⟨p, hp, rfl⟩ := List.mem_map.mp (lm z hz).1
      exact hok p hp
    have Dd : D ≠ d := fun z => by rw [z, hdB] at nD; cases nD
    refine ⟨s2 _ _ hdB, ?_⟩
    have s3 : ∀ {c : Addr} {x : HO}, H c = some x → upd H2 d (.dK (enc m)) c = some x := fun {c x} e => by
      rw [upd_ne (ne_of_none e nd0)]
      exact s2 _ _ (smB e)
    have hD3 : upd H2 d (.dK (enc m)) D = some (.lst (left.map V.str)) := by rw [upd_ne Dd]; exact hD
    generalize upd H2 d (.dK (enc m)) = H3 at s3 hD3 ⊢
    refine ⟨_, rfl, Nat.zero_le _, fun e0 ne0 => ?_⟩
    have s4 := same_new (o := .lst []) ne0
    refine ⟨strD left, strD [], strs_dp (s4 _ _ hD3), strs_dp (ls := []) upd_same, strD_shaped lok, strD_shaped (fun z hz => absurd hz List.not_mem_nil), _, rfl, ?_⟩
    rw [strD_eqv, decide_eq_false lne]
    refine iteT ?_
    refine ⟨_, rfl, D, rfl, ⟨_, SqL.of (s4 _ _ hD3)⟩, fun D2 nD2 => ?_⟩
    refine lc_list (xs := left.map V.str) (fun i H4 => Same (upd H3 e0 (.lst [])) H4 ∧ H4 D2 = some (.lst [])) ⟨same_new nD2, upd_same⟩ (fun i H4 _ z => SqL.of (z.1 _ _ (s4 _ _ hD3))) ?_ ?_
    · rintro i x H4 hx ⟨s5, hD2⟩
      obtain ⟨z, hz, rfl⟩ := at_map hx
      refine ⟨rfl, ?_⟩
      refine ⟨_, rfl, _, rfl, b, _, rfl, .inl (SqL.of (s5 _ _ (s4 _ _ (s3 si.l)))), rfl, flat_strs ls, _, rfl, ?_⟩
      rw [inV_strs, decide_eq_false (lno z (List.mem_of_getElem? hz))]
      exact ⟨s5, hD2⟩
    rintro H4 ⟨s5, hD2⟩
    refine ⟨Nat.zero_le _, fun e1 ne1 => ?_⟩
    have s6 := same_new (o := .lst []) ne1
    refine ⟨strD [], strD [], strs_dp (ls := []) (s6 _ _ hD2), strs_dp (ls := []) upd_same, strD_shaped (fun z hz => absurd hz List.not_mem_nil), strD_shaped (fun z hz => absurd hz List.not_mem_nil), ?_⟩
    rw [strD_eqv, decide_eq_true rfl]
    exact q _ fun c x e => s6 _ _ (s5 _ _ (s4 _ _ (s3 e)))
end
end MK


set_option Elab.async false
set_option linter.all false
set_option maxRecDepth 100000
set_option maxHeartbeats 4000000
namespace MK
open PySem PySem.Spec PyProof.Rows L2
theorem takes8 {X : Cx} : L2.Takes X (fun _ _ _ _ => False) := fun _ _ x => by
  obtain ⟨_, _, _, _, _, _, _, _, _, _, _, _, _, _, _, _, z⟩ := x
  exact z.elim
theorem pick9 (N n0 n : Nat) (h23 : N ≤ 23) (h5 : n0 ≤ 5) (h3 : 4 < N → n0 ≤ 3) (hn : n ≤ n0 + 1) : ∃ K S B, Top K (2 ^ 25) S 7990 ∧ Top9 K (2 ^ 25) S ∧ N * B ≤ K ∧ (N ≤ S ∨ n ≤ S) ∧ shB N * max 6 (3 * n0) ≤ B ∧ 6 * (gy K (2 ^ 25) S * gm K S) + gm K S < 2 ^ 48000 ∧ gn K S < 2 ^ 48000 := by
  have up : ∀ {x : Nat}, x < 2 ^ 47000 → x < 2 ^ 48000 := fun h => Nat.lt_trans h (Nat.pow_lt_pow_right (by decide) (by decide))
  rcases Nat.lt_trichotomy N 4 with l | l | l
  · refine ⟨2250, 3, 750, topA.1, topA.2, by omega, .inl (by omega), ?_, by decide +kernel, up topA.1.n⟩
    have : shB N = 50 := by unfold shB; rw [if_pos l]
    rw [this]
    have : max 6 (3 * n0) ≤ 15 := by omega
    omega
  · refine ⟨180, 4, 45, topB.1, topB.2, by omega, .inl (by omega), ?_, by decide +kernel, up topB.1.n⟩
    have : shB N = 3 := by unfold shB; rw [if_neg (by omega)]
    rw [this]
    omega
  · refine ⟨621, 4, 27, topC.1, topC.2, by omega, .inr (by have := h3 l; omega), ?_, by decide +kernel, up topC.1.n⟩
    have : shB N = 3 := by unfold shB; rw [if_neg (by omega)]
    rw [this]
    have := h3 l
    omega
/-- what the walk asks of the top -/
structure Txt (P : Program) (K : PySem.W.Frag) (mg : Str → Option Value) (cN C D M Nf : Addr) where
  (fC fX fWd fM fW fI fSm fF fUn fFo fSv fSl fSh fRo fTi fSp fNo fSw fG fSo fPo fMe fSu fBr fNe fSf fRe fHi fLe fTo fZs fAd fPr fQu fTg fTr fiU fiS fiN nU nV nB cc cI : Addr)
  (dC dX dWd dM dW dI dSm dF dUn dFo dSv dSl dSh dRo dTi dSp dNo dSw dG dSo dPo dMe dSu dBr dNe dSf dRe dHi dLe dTo dZs dAd dPr dQu dTg dTr diU diS diN : FuncData)
  FC : Fun K "_law_cell_at" "_law_cell_at" sCell fC dC
  FX : Fun K "_law_mix" "_law_mix" sMix fX dX
  FWd : Fun K "_law_words" "_law_words" sWords fWd dWd
  FM : Fun K "_law_made" "_law_made" sMade fM dM
  FW : Fun K "_law_whole" "_law_whole" sWhole fW dW
  FI : Fun K "_law_is_measure" "_law_is_measure" sIsM fI dI
  FSm : Fun K "_law_small" "_law_small" sSmall fSm dSm
  FF : Fun K "_law_filled" "_law_filled" sFilled fF dF
  FUn : Fun K "_law_is_unknown" "_law_is_unknown" sIsUn fUn dUn
  FFo : Fun K "_law_formed" "_law_formed" sFormed fFo dFo
  FSv : Fun K "_law_solves" "_law_solves" sSolves fSv dSv
  FSl : Fun K "_law_some_letters" "_law_some_letters" sSomeL fSl dSl
  FSh : Fun K "_law_share" "_law_share" sShare fSh dSh
  FRo : Fun K "_law_rows" "_law_rows" sRows fRo dRo
  FTi : Fun K "_law_times" "_law_times" sTimes fTi dTi
  FSp : Fun K "_law_spoilt" "_law_spoilt" sSpoilt fSp dSp
  FNo : Fun K "_law_none" "_law_none" sNone fNo dNo
  FSw : Fun K "_law_shows" "_law_shows" sShows fSw dSw
  FG : Fun K "gathered" "gathered" sGath fG dG
  FSo : Fun K "solved" "solved" sSolved fSo dSo
  FPo : Fun K "_powers_of" "_powers_of" sPowers fPo dPo
  FMe : Fun K "_measure" "_measure" sMeas fMe dMe
  FSu : Fun K "_summed" "_summed" sSummed fSu dSu
  FBr : FunC K "_brought_together" "_brought_together" sBrought fBr cN dBr
  FNe : Fun K "_nearest" "_nearest" sNear fNe dNe
  FSf : Fun K "_shift" "_shift" sShift fSf dSf
  FRe : Fun K "_rest" "_rest" sRest fRe dRe
  FHi : Fun K "_hindrance" "_hindrance" sHind fHi dHi
  FLe : Fun K "_least_not_dividing" "_least_not_dividing" sLeast fLe dLe
  FTo : Fun K "_told" "_told" sTold fTo dTo
  FZs : Fun K "_shown" "_shown" sShown fZs dZs
  FAd : Fun K "added" "added" sAdd fAd dAd
  FPr : Fun K "product" "product" sProd fPr dPr
  FQu : Fun K "quotient" "quotient" sQuo fQu dQu
  FTg : Fun K "_together" "_together" sTog fTg dTg
  FTr : Fun K "_turned" "_turned" sTrn fTr dTr
  gC : mg "_law_cell_at" = some (.ref fC)
  gX : mg "_law_mix" = some (.ref fX)
  gWd : mg "_law_words" = some (.ref fWd)
  gM : mg "_law_made" = some (.ref fM)
  gW : mg "_law_whole" = some (.ref fW)
  gI : mg "_law_is_measure" = some (.ref fI)
  gSm : mg "_law_small" = some (.ref fSm)
  gF : mg "_law_filled" = some (.ref fF)
  gUn : mg "_law_is_unknown" = some (.ref fUn)
  gFo : mg "_law_formed" = some (.ref fFo)
  gSv : mg "_law_solves" = some (.ref fSv)
  gSl : mg "_law_some_letters" = some (.ref fSl)
  gSh : mg "_law_share" = some (.ref fSh)
  gRo : mg "_law_rows" = some (.ref fRo)
  gTi : mg "_law_times" = some (.ref fTi)
  gSp : mg "_law_spoilt" = some (.ref fSp)
  gNo : mg "_law_none" = some (.ref fNo)
  gSw : mg "_law_shows" = some (.ref fSw)
  gG : mg "gathered" = some (.ref fG)
  gSo : mg "solved" = some (.ref fSo)
  gPo : mg "_powers_of" = some (.ref fPo)
  gMe : mg "_measure" = some (.ref fMe)
  gSu : mg "_summed" = some (.ref fSu)
  gBr : mg "_brought_together" = some (.ref fBr)
  gNe : mg "_nearest" = some (.ref fNe)
  gSf : mg "_shift" = some (.ref fSf)
  gRe : mg "_rest" = some (.ref fRe)
  gHi : mg "_hindrance" = some (.ref fHi)
  gLe : mg "_least_not_dividing" = some (.ref fLe)
  gTo : mg "_told" = some (.ref fTo)
  gZs : mg "_shown" = some (.ref fZs)
  gAd : mg "added" = some (.ref fAd)
  gPr : mg "product" = some (.ref fPr)
  gQu : mg "quotient" = some (.ref fQu)
  gTg : mg "_together" = some (.ref fTg)
  gTr : mg "_turned" = some (.ref fTr)
  ml : mg "len" = none
  mr : mg "range" = none
  mt : mg "tuple" = none
  mi : mg "isinstance" = none
  mn : mg "int" = none
  mb : mg "bool" = none
  mstr : mg "str" = none
  ms : mg "sorted" = none
  mL : mg "list" = none
  mD : mg "dict" = none
  mz : mg "zip" = none
  mu : mg "sum" = none
  me : mg "enumerate" = none
  mm : mg "min" = none
  ma : mg "abs" = none
  mrv : mg "reversed" = none
  FiU : Fun K "__init__" "Unknown.__init__" sInitU fiU diU
  FiS : Fun K "__init__" "Settled.__init__" sInitS fiS diS
  MU : Mk K C fiU
  MS : Mk K D fiS
  gU : mg "Unknown" = some (.ref C)
  gS : mg "Settled" = some (.ref D)
  cu : ClU K C
  cs : ClS K D
  gErr : mg "MeasureError" = some (.ref M)
  em : PySem.W.exmOne K (.ref Nf) (.ref M) = some true
  nc : NfC K Nf
  xf : XfC K Nf
  k9 : Kinds9 K mg Nf nU nV nB
  sI : SupI.SupT P K mg Nf fiN cc (nfN cc cI) diN
  iN : PySem.W.findIn K (.ref Nf) "__init__" = some (some (.ref fiN))
  tN : PySem.W.typeIn K (.ref fiN) = some (.type "function")
  bN : Binds K diN ["self", "times", "by"] []
  mG : mg "gcd" = some (.builtin "math.gcd")
  mLc : mg "lcm" = some (.builtin "math.lcm")

section
variable {P : Program} {w : World} {K : PySem.W.Frag} {mg : Str → Option Value} {base : Heap} {cN C D M Nf pt : Addr}
def spLaw (K : PySem.W.Frag) (pt : Addr) : Sp := fun vs H Q _ => ∃ (a : Addr) (ns : List Int), vs = [.ref a] ∧ SqL K H a (ns.map V.int) ∧ LamX.Tabs (brT pt) H ∧ ∀ H', Q (.bl true) H'
abbrev scLawN : List Str := ["_law_script", "_law_words_here", "_law_letters", "_law_others", "_law_choice", "_law_k", "_law_rows_here", "_law_handed", "_law_found", "_law_e"]
theorem scLaw : FnScope scLawN ["_law_script"] (defScope sLaw) := ⟨rfl, rfl, rfl, by decide +kernel, rfl, by decide +kernel, by decide +kernel⟩
set_option maxHeartbeats 40000000 in
theorem ok_law {f : Addr} {fd : FuncData} (F : Fun K "law" "law" sLaw f fd) (T : Txt P K mg cN C D M Nf) (TB : LamX.TabB base mg cN pt) :
    FnOk P w K mg base CX0 7 f fd ["_law_script"] (spLaw K pt) := by
  have bC := T.FC.binds (ps := ["_law_script", "_law_k"]) fun _ _ _ _ _ _ us hl => match us, hl with | [_, _], _ => rfl
  have bX := T.FX.binds (ps := ["_law_cell", "_law_k"]) fun _ _ _ _ _ _ us hl => match us, hl with | [_, _], _ => rfl
  have bWd := T.FWd.binds (ps := ["_law_cell", "_law_many"]) fun _ _ _ _ _ _ us hl => match us, hl with | [_, _], _ => rfl
  have bM := T.FM.binds (ps := ["_law_powers"]) fun _ _ _ _ _ _ us hl => match us, hl with | [_], _ => rfl
  have bW := T.FW.binds (ps := ["_law_found"]) fun _ _ _ _ _ _ us hl => match us, hl with | [_], _ => rfl
  have bI := T.FI.binds (ps := ["_law_found"]) fun _ _ _ _ _ _ us hl => match us, hl with | [_], _ => rfl
  have bSm := T.FSm.binds (ps := ["_law_cell", "_law_letters"]) fun _ _ _ _ _ _ us hl => match us, hl with | [_, _], _ => rfl
  have bF := T.FF.binds (ps := ["_law_measure", "_law_filling"]) fun _ _ _ _ _ _ us hl => match us, hl with | [_, _], _ => rfl
  have bUn := T.FUn.binds (ps := ["_law_letter"]) fun _ _ _ _ _ _ us hl => match us, hl with | [_], _ => rfl
  have bFo := T.FFo.binds (ps := ["_law_told", "_law_unknowns", "_law_letters", "_law_others"]) fun _ _ _ _ _ _ us hl => match us, hl with | [_, _, _, _], _ => rfl
  have bSv := T.FSv.binds (ps := ["_law_told", "_law_unknowns", "_law_measures"]) fun _ _ _ _ _ _ us hl => match us, hl with | [_, _, _], _ => rfl
  have bSl := T.FSl.binds (ps := ["_law_cell", "_law_words_here"]) fun _ _ _ _ _ _ us hl => match us, hl with | [_, _], _ => rfl
  have bSh := T.FSh.binds (ps := ["_law_cell", "_law_letters"]) fun _ _ _ _ _ _ us hl => match us, hl with | [_, _], _ => rfl
  have bRo := T.FRo.binds (ps := ["_law_script", "_law_first", "_law_letters", "_law_choice"]) fun _ _ _ _ _ _ us hl => match us, hl with | [_, _, _, _], _ => rfl
  have bTi := T.FTi.binds (ps := ["_law_one", "_law_other", "_law_by"]) fun _ _ _ _ _ _ us hl => match us, hl with | [_, _, _], _ => rfl
  have bSp := T.FSp.binds (ps := ["_law_script", "_law_rows_here", "_law_others"]) fun _ _ _ _ _ _ us hl => match us, hl with | [_, _, _], _ => rfl
  have bNo := T.FNo.binds (ps := ["_law_e"]) fun _ _ _ _ _ _ us hl => match us, hl with | [_], _ => rfl
  have bSw := T.FSw.binds (ps := ["_law_numbers", "_law_by", "_law_measures", "_law_letters"]) fun _ _ _ _ _ _ us hl => match us, hl with | [_, _, _, _], _ => rfl
  have bG := T.FG.binds (ps := ["parts"]) fun _ _ _ _ _ _ us hl => match us, hl with | [_], _ => rfl
  have bSo := T.FSo.binds (ps := ["measures", "letters"]) fun _ _ _ _ _ _ us hl => match us, hl with | [_, _], _ => rfl
  have bPo := T.FPo.binds (ps := ["measure", "letters"]) fun _ _ _ _ _ _ us hl => match us, hl with | [_, _], _ => rfl
  have bMe := T.FMe.binds (ps := ["letters", "powers"]) fun _ _ _ _ _ _ us hl => match us, hl with | [_, _], _ => rfl
  have bSu := T.FSu.binds (ps := ["row", "stands"]) fun _ _ _ _ _ _ us hl => match us, hl with | [_, _], _ => rfl
  have bBr := T.FBr.fn.binds (ps := ["row", "unknowns"]) fun _ _ _ _ _ _ us hl => match us, hl with | [_, _], _ => rfl
  have bNe := T.FNe.binds (ps := ["above", "below"]) fun _ _ _ _ _ _ us hl => match us, hl with | [_, _], _ => rfl
  have bSf := T.FSf.binds (ps := ["one", "other", "n"]) fun _ _ _ _ _ _ us hl => match us, hl with | [_, _, _], _ => rfl
  have bRe := T.FRe.binds (ps := ["measure", "letters", "row", "settled"]) fun _ _ _ _ _ _ us hl => match us, hl with | [_, _, _, _], _ => rfl
  have bHi := T.FHi.binds (ps := ["rest", "share"]) fun _ _ _ _ _ _ us hl => match us, hl with | [_, _], _ => rfl
  have bLe := T.FLe.binds (ps := ["number"]) fun _ _ _ _ _ _ us hl => match us, hl with | [_], _ => rfl
  have bTo := T.FTo.binds (ps := ["letters", "settled", "unknowns", "names"]) fun _ _ _ _ _ _ us hl => match us, hl with | [_, _, _, _], _ => rfl
  have bZs := T.FZs.binds (ps := ["rows", "settled", "number", "by"]) fun _ _ _ _ _ _ us hl => match us, hl with | [_, _, _, _], _ => rfl
  have bAd := T.FAd.binds (ps := ["one", "other"]) fun _ _ _ _ _ _ us hl => match us, hl with | [_, _], _ => rfl
  have bPr := T.FPr.binds (ps := ["one", "other"]) fun _ _ _ _ _ _ us hl => match us, hl with | [_, _], _ => rfl
  have bQu := T.FQu.binds (ps := ["one", "other"]) fun _ _ _ _ _ _ us hl => match us, hl with | [_, _], _ => rfl
  have bTg := T.FTg.binds (ps := ["one", "above", "below"]) fun _ _ _ _ _ _ us hl => match us, hl with | [_, _, _], _ => rfl
  have bTr := T.FTr.binds (ps := ["one"]) fun _ _ _ _ _ _ us hl => match us, hl with | [_], _ => rfl
  have biU := T.FiU.binds (ps := ["self", "place", "many"]) fun _ _ _ _ _ _ us hl => match us, hl with | [_, _, _], _ => rfl
  have biS := T.FiS.binds (ps := ["self", "number", "stands", "share", "measure"]) fun _ _ _ _ _ _ us hl => match us, hl with | [_, _, _, _, _], _ => rfl
  have GC : FnOk P w K mg base CX0 1 T.fC T.dC ["_law_script", "_law_k"] (spCell K) := ok_cell T.FC T.ml
  have GX : FnOk P w K mg base CX0 1 T.fX T.dX ["_law_cell", "_law_k"] spMix := ok_mix T.FX
  have GWd : FnOk P w K mg base CX0 1 T.fWd T.dWd ["_law_cell", "_law_many"] spWords := ok_words T.FWd T.mr
  have GSl : FnOk P w K mg base CX0 1 T.fSl T.dSl ["_law_cell", "_law_words_here"] spSomeL := ok_someL T.FSl T.mr T.mstr
  have GSm : FnOk P w K mg base CX0 2 T.fSm T.dSm ["_law_cell", "_law_letters"] spSmall := ok_small T.FSm T.FX bX T.gX T.FM bM T.gM T.mr T.ml T.mt T.ms
  have GF : FnOk P w K mg base CX0 2 T.fF T.dF ["_law_measure", "_law_filling"] spFilledW := ok_filledW T.FF T.FM bM T.gM T.mt T.ms
  have GI : FnOk P w K mg base CX0 2 T.fI T.dI ["_law_found"] spIsM := ok_isM T.FI T.FW bW T.gW T.mi T.mn T.mb T.mt T.ml T.mstr
  have GUn : FnOk P w K mg base CX0 1 T.fUn T.dUn ["_law_letter"] spIsUn := ok_isUn T.FUn T.mi T.mstr T.ml
  have GFo : FnOk P w K mg base CX0 3 T.fFo T.dFo ["_law_told", "_law_unknowns", "_law_letters", "_law_others"] spFormed := ok_formed T.FFo GUn T.FUn.kp bUn T.gUn GI T.FI.kp bI T.gI T.mi T.mD T.ms
  have GSv : FnOk P w K mg base CX0 3 T.fSv T.dSv ["_law_told", "_law_unknowns", "_law_measures"] spSolves := ok_solves T.FSv T.FF bF T.gF T.FM bM T.gM T.mt T.ms
  have GRo : FnOk P w K mg base CX0 3 T.fRo T.dRo ["_law_script", "_law_first", "_law_letters", "_law_choice"] (spRows K) := ok_rows T.FRo T.FX bX T.gX T.FC bC T.gC T.FM bM T.gM T.FSh bSh T.gSh T.FF bF T.gF T.mr T.ml T.mn T.mt T.ms
  have GPo : FnOk P w K mg base CX0 1 T.fPo T.dPo ["measure", "letters"] spPowers := ok_powers T.FPo
  have GBr : FnOk P w K mg base CX0 4 T.fBr T.dBr ["row", "unknowns"] (spBr C pt) := ok_br T.FBr T.cu T.FSu bSu T.gSu T.FNe bNe T.gNe T.FSf bSf T.gSf TB T.mz T.mu T.me T.ml T.mm T.ma
  have GRe : FnOk P w K mg base CX0 2 T.fRe T.dRe ["measure", "letters", "row", "settled"] (spRest D) := ok_rest T.FRe T.cs T.FG bG T.gG T.FSu bSu T.gSu T.mt T.ms T.mz T.mu
  have GHi : FnOk P w K mg base CX0 2 T.fHi T.dHi ["rest", "share"] spHind := ok_hind T.FHi T.FLe bLe T.gLe T.ma
  have GTo : FnOk P w K mg base CX0 3 T.fTo T.dTo ["letters", "settled", "unknowns", "names"] (spTo C D) := ok_to T.FTo T.cu T.cs T.FG bG T.gG T.FMe bMe T.gMe T.mt T.ms T.mz T.me
  have GMe : FnOk P w K mg base CX0 2 T.fMe T.dMe ["letters", "powers"] spMeasL := ok_measL T.FMe T.FG bG T.gG T.mt T.ms T.mz
  have GiU : FnOk P w K mg base CX0 1 T.fiU T.diU ["self", "place", "many"] (spInitU C) := ok_initU T.FiU T.cu T.mr T.mL
  have GiS : FnOk P w K mg base CX0 1 T.fiS T.diS ["self", "number", "stands", "share", "measure"] (spInitS D) := ok_initS T.FiS T.cs
  have GAd : FnOk P w K mg base CX0 2 T.fAd T.dAd ["one", "other"] (spTwoW 0 .plus) := ok_addW T.FAd T.FTg T.gTg T.mG
  have GPr : FnOk P w K mg base CX0 1 T.fPr T.dPr ["one", "other"] (spTwoW 0 .times) := ok_prodW T.FPr T.mG
  have GQu : FnOk P w K mg base CX0 2 T.fQu T.dQu ["one", "other"] spQuoW := ok_quoW T.FQu T.FPr T.gPr T.FTr T.gTr T.mG
  have GSu : FnOk P w K mg base CX0 1 T.fSu T.dSu ["row", "stands"] spSummed := ok_summed T.FSu T.mu T.mz
  have GZs : FnOk P w K mg base CX0 3 T.fZs T.dZs ["rows", "settled", "number", "by"] (spShn D) := ok_shn T.FZs T.cs GAd T.FAd.kp bAd T.gAd GPr T.FPr.kp bPr T.gPr GQu T.FQu.kp bQu T.gQu GSu T.FSu.kp bSu T.gSu T.mrv T.mLc
  have GiN : FnOk P w K mg base CX0 1 T.fiN T.diN ["self", "times", "by"] (spNF Nf) := ok_nf T.sI T.nc T.mL
  have GSo : FnOk P w K mg base (L2N.CX P w) 6 T.fSo T.dSo ["measures", "letters"] (spSolE pt Nf) := ok_soE T.FSo T.cu T.cs GPo T.FPo.kp bPo T.gPo GBr T.FBr.kp bBr T.gBr GRe T.FRe.kp bRe T.gRe GHi T.FHi.kp bHi T.gHi GZs T.FZs.kp bZs T.gZs GTo T.FTo.kp bTo T.gTo GMe T.FMe.kp bMe T.gMe T.MU GiU biU T.gU T.MS GiS biS T.gS T.nc T.iN T.tN GiN T.bN T.k9.gN T.mt T.mstr T.mz T.ml T.mr T.me
  have GTi : FnOk P w K mg base CX0 2 T.fTi T.dTi ["_law_one", "_law_other", "_law_by"] spLTimes := ok_ltimes T.FTi T.FM bM T.gM T.mt T.ms T.mD
  have GSp : FnOk P w K mg base CX0 3 T.fSp T.dSp ["_law_script", "_law_rows_here", "_law_others"] (spSpoilt K) := ok_spoilt T.FSp T.FX bX T.gX T.FC bC T.gC GSm T.FSm.kp bSm T.gSm GTi T.FTi.kp bTi T.gTi T.mr T.ml T.mL
  have GNo : FnHD P w K mg base Nf 1 T.fNo T.dNo ["_law_e"] spNone9 := ok_none9 T.FNo T.k9
  have GSw : L2H.FnH P w K mg base CX0 2 T.fSw T.dSw ["_law_numbers", "_law_by", "_law_measures", "_law_letters"] spShows := ok_shows T.FSw T.FW bW T.gW T.mi T.mn T.mb T.mL T.ml T.mr
  refine F.ok scLaw (fun vs H Q E h => ?_) (fun cdv A outer s H vs Q E hr h => ?_)
  · obtain ⟨a, ns, rfl, _⟩ := h
    rfl
  · obtain ⟨a, ns, rfl, hS, tb, q⟩ := h
    have nd := scLaw.nd
    have hu := hu_of hr
    have kS : sizeLine = 16777216 := sizeLine_eq
    have hr1 : Room 1 _ := hr.mono (by omega)
    have hr2 : Room 2 _ := hr.mono (by omega)
    have hr3 : Room 3 _ := hr.mono (by omega)
    have hun : (A.deeper (envOfC "law" (defScope sLaw) s.heap.objs.size f cdv)).units + 64 < cLine := by have := hr.un; omega
    refine ⟨_, (pss_cons (ps_set (i := 1) nd rfl (.inl rfl) (pe_call GWd hr1 (by rfl) T.gWd T.FWd.kp bWd .nil pass0 (pa_cons (pe_call GC hr1 (by rfl) T.gC T.FC.kp bC .nil pass0 (pa_cons (pv 0) (pa_cons pe_int pa_nil))) (pa_cons pe_int pa_nil))))
      (pss_cons (ps_set (i := 2) nd rfl (.inl rfl) (pe_call GSl hr1 (by rfl) T.gSl T.FSl.kp bSl .nil pass0 (pa_cons (pe_call GC hr1 (by rfl) T.gC T.FC.kp bC .nil pass0 (pa_cons (pv 0) (pa_cons pe_int pa_nil))) (pa_cons (pv 1) pa_nil))))
      (pss_cons (ps_set (i := 3) nd rfl (.inl rfl) (pe_lst (pa_cons (pe_ix ix_list (pv 1) pe_int (fun _ _ => rfl)) (pa_cons (pe_ix ix_list (pv 1) pe_int (fun _ _ => rfl)) (pa_cons (pe_op op_add_str pe_str (pe_ix ix_list (pv 1) pe_int (fun _ _ => rfl))) pa_nil)))))
      (pss_cons (ps_set (i := 4) nd rfl (.inl rfl) pe_dnewK)
      (pss_cons (ps_for PassesOwn.never rfl (pi_range1 rfl T.mr (pa_cons (pe_callB call_len_seq (by rfl) T.ml PySem.boot_len (pa_cons (pv 2) pa_nil)) pa_nil)) (pg_name (i := 5) nd rfl (.inl rfl)) (pss_one (ps_dput hu (pv 4) (pe_ix ix_list (pv 2) (pv 5) (fun _ _ => rfl)) (pe_call GSm hr2 (by rfl) T.gSm T.FSm.kp bSm .nil pass0 (pa_cons (pe_call GX hr1 (by rfl) T.gX T.FX.kp bX .nil pass0 (pa_cons (pe_call GC hr1 (by rfl) T.gC T.FC.kp bC .nil pass0 (pa_cons (pv 0) (pa_cons pe_int pa_nil))) (pa_cons (pv 5) pa_nil))) (pa_cons (pv 3) pa_nil))) rfl)))
      (pss_cons (ps_set (i := 6) nd rfl (.inl rfl) (pe_call GSp hr3 (by rfl) T.gSp T.FSp.kp bSp .nil pass0 (pa_cons (pv 0) (pa_cons (pe_call GRo hr3 (by rfl) T.gRo T.FRo.kp bRo .nil pass0 (pa_cons (pv 0) (pa_cons pe_int (pa_cons (pv 2) (pa_cons (pv 4) pa_nil))))) (pa_cons (pv 3) pa_nil)))))
      (pss_cons (ps_set (i := 7) nd rfl (.inl rfl) (pe_tup (pa_cons (pe_callTy call_list_of (by rfl) T.mL PyProof.Rows.boot_list (pa_cons (pv 6) pa_nil)) (pa_cons (pe_callTy call_list_of (by rfl) T.mL PyProof.Rows.boot_list (pa_cons (pv 2) pa_nil)) pa_nil))))
      (pss_cons (L2N.ps_try_as (i := 9) rfl rfl nd rfl rfl ⟨rfl, by decide, .inl T.gErr⟩ takesN (fun W pn xe tk _ => pss_one (ps_set (i := 8) nd rfl (.inl rfl) (pe_callS GSo hr (by rfl) T.gSo T.FSo.kp bSo (fun σ => L2N.passAt tk σ) (pa_cons (pe_ix (show IxR _ (rIxT K) from ix_tup) (pv 7) pe_int (fun _ _ => rfl)) (pa_cons (pe_ix (show IxR _ (rIxT K) from ix_tup) (pv 7) pe_int (fun _ _ => rfl)) pa_nil))))) (fun a oe cls d pn hz hf => pss_one (ps_ret (pe_and (pe_cmpR (show OpR _ _ (rEqD K) from op_eqD hun) (pv 7) (pe_tup (pa_cons (pv 6) (pa_cons (pv 2) pa_nil))) (nomark _)) (pe_and (pe_callHD GNo (L2H.roomH_of hr1) hz hf (by rfl) T.gNo T.FNo.kp bNo (pa_cons (pv 9) pa_nil)) (pe_one (L2H.pe_callH GSw ⟨hr2.dp, hr2.un⟩ (hf.elim fun vs hv => ⟨(a, oe), ⟨rfl, vs, hv, hz.2.2 vs hv⟩, List.mem_cons_self⟩) (by rfl) T.gSw T.FSw.kp bSw passH (pa_cons (pe_xf T.xf T.nc.nT ⟨hz.1, hz.2.1⟩ hf (pv 9)) (pa_cons (pe_xf T.xf T.nc.nB ⟨hz.1, hz.2.1⟩ hf (pv 9)) (pa_cons (pv 6) (pa_cons (pv 2) pa_nil)))))))))))
      (pss_cons (ps_if (pw_or (pt_cmpR (op_neD hun) (pv 7) (pe_tup (pa_cons (pv 6) (pa_cons (pv 2) pa_nil))) (nomark _)) (pw_or (pt_not (pt_val (pe_callB call_isi (by rfl) T.mi PyProof.Rows.boot_isinstance (pa_cons (pv 8) (pa_cons (pe_bltn (v := .ty "tuple") (by rfl) T.mt PyProof.Rows.boot_tuple rfl) pa_nil))))) (pw_or1 (pt_cmpR op_ne (pe_callB call_len_seq (by rfl) T.ml PySem.boot_len (pa_cons (pv 8) pa_nil)) pe_int (nomark _))))).pt (pss_one (ps_ret pe_bl)) pss_nil)
      (pss_one (ps_ret (pe_and (pe_call GFo hr3 (by rfl) T.gFo T.FFo.kp bFo .nil pass0 (pa_cons (pe_ix (show IxR _ (rIxT K) from ix_tup) (pv 8) pe_int (fun _ _ => rfl)) (pa_cons (pe_ix (show IxR _ (rIxT K) from ix_tup) (pv 8) pe_int (fun _ _ => rfl)) (pa_cons (pv 2) (pa_cons (pv 3) pa_nil))))) (pe_one (pe_call GSv hr3 (by rfl) T.gSv T.FSv.kp bSv .nil pass0 (pa_cons (pe_ix (show IxR _ (rIxT K) from ix_tup) (pv 8) pe_int (fun _ _ => rfl)) (pa_cons (pe_ix (show IxR _ (rIxT K) from ix_tup) (pv 8) pe_int (fun _ _ => rfl)) (pa_cons (pv 6) pa_nil))))))))))))))))), ?_⟩
    -- words, letters
    refine ⟨_, rfl, a, ns, 0, rfl, hS, fun c0 c00 c01 => ?_⟩
    refine ⟨c0, 26, rfl, c00, by decide, fun H1 p1 s1 np1 hp1 hw1 => ?_⟩
    obtain ⟨ws, hws⟩ : ∃ ws, ws = (List.range 26).map (wordOf c0) := ⟨_, rfl⟩
    rw [← hws] at hp1
    have wl : ws.length = 26 := by rw [hws, List.length_map, List.length_range]
    have wn : ∀ z ∈ ws, Nm z := fun z hz => by
      rw [hws] at hz
      obtain ⟨k, _, rfl⟩ := List.mem_map.mp hz
      exact hw1 k
    have wat : ∀ {k : Nat} {z : Str}, ws[k]? = some z → k < 26 ∧ z = wordOf c0 k := fun {k z} h => by
      have l : k < 26 := by have := (List.getElem?_eq_some_iff.mp h).1; omega
      rw [hws, List.getElem?_map, List.getElem?_range l] at h
      exact ⟨l, (Option.some.inj h).symm⟩
    have winj : ∀ (i j : Nat) (z : Str), ws[i]? = some z → ws[j]? = some z → i = j := fun i j z h1 h2 => by
      obtain ⟨l1, e1⟩ := wat h1
      obtain ⟨l2, e2⟩ := wat h2
      exact wordOf_inj l1 l2 (e1.symm.trans e2)
    have hS1 := s1.seq hS
    refine ⟨_, rfl, a, ns, 1, rfl, hS1, fun c1 c10 c11 => ?_⟩
    refine ⟨_, rfl, c1, p1, ws, rfl, c10, hp1, wl, wn, fun H2 p2 ls s2 np2 hp2 hll hlz => ?_⟩
    have hp12 := s2 _ _ hp1
    obtain ⟨w24, h24⟩ : ∃ z, ws[24]? = some z := ⟨_, List.getElem?_eq_getElem (by omega)⟩
    obtain ⟨w25, h25⟩ : ∃ z, ws[25]? = some z := ⟨_, List.getElem?_eq_getElem (by omega)⟩
    have a24 : atI (ws.map V.str) 24 = some (.str w24) := atI_nat (j := 24) (by rw [List.getElem?_map, h24]; rfl)
    have a25 : atI (ws.map V.str) 25 = some (.str w25) := atI_nat (j := 25) (by rw [List.getElem?_map, h25]; rfl)
    have n24 := wn _ (List.mem_of_getElem? h24)
    have n25 := wn _ (List.mem_of_getElem? h25)
    have e61 : (Str.ofString "=").length = 1 := by decide +kernel
    have e48 : (Str.ofString "0").length = 1 := by decide +kernel
    have l24 := n24.2.1
    refine ⟨_, rfl, p1, _, 24, _, rfl, rfl, SqL.of hp12, a24, _, rfl, p1, _, 25, _, rfl, rfl, SqL.of hp12, a25, _, rfl, p1, _, 24, _, rfl, rfl, SqL.of hp12, a24, _, _, rfl, rfl, (by rw [e61]; omega), (by show 3 ≤ sizeLine; decide), fun o no => ?_⟩
    obtain ⟨os, hos⟩ : ∃ os, os = [w24, w25, nameE w24] := ⟨_, rfl⟩
    have s3 := same_new (o := .lst [V.str w24, V.str w25, V.str (nameE w24)]) no
    have ho : upd H2 o (.lst [V.str w24, V.str w25, V.str (nameE w24)]) o = some (.lst (os.map V.str)) := by rw [hos]; exact upd_same
    generalize upd H2 o (.lst [V.str w24, V.str w25, V.str (nameE w24)]) = H3 at s3 ho ⊢
    have osl : os.length = 3 := by rw [hos]; rfl
    have oin : ∀ z ∈ os, ∃ k n, LetOf ws k n z ∧ 24 ≤ k ∧ 24 ≤ n := fun z hz => by
      rw [hos] at hz
      simp only [List.mem_cons, List.mem_nil_iff, or_false] at hz
      rcases hz with rfl | rfl | rfl
      · exact ⟨24, 24, ⟨_, h24, n24, .inl rfl⟩, Nat.le_refl _, Nat.le_refl _⟩
      · exact ⟨25, 24, ⟨_, h25, n25, .inl rfl⟩, by decide, Nat.le_refl _⟩
      · exact ⟨24, 24, ⟨_, h24, n24, .inr (.inl rfl)⟩, Nat.le_refl _, Nat.le_refl _⟩
    have lsnd : ls.Nodup := by
      rw [List.nodup_iff_pairwise_ne, List.pairwise_iff_getElem]
      intro i j hi hj lt e
      have h1 := hlz i _ (List.getElem?_eq_getElem hi)
      have h2 := hlz j _ (List.getElem?_eq_getElem hj)
      rw [e] at h1
      rcases let_inj winj h1 h2 with e | e <;> omega
    have lslt : ∀ z ∈ ls, LtOk z ∧ hd z ≠ some 63 := fun z hz => by
      obtain ⟨k, hk⟩ := List.mem_iff_getElem?.mp hz
      exact let_lt (hlz k z hk)
    have oslt : ∀ z ∈ os, LtOk z ∧ hd z ≠ some 63 := fun z hz => by
      obtain ⟨k, n, h, _⟩ := oin z hz
      exact let_lt h
    have osno : ∀ z ∈ os, z ∉ ls := fun z hz hl => by
      obtain ⟨k, n, h, k1, k2⟩ := oin z hz
      obtain ⟨i, hi⟩ := List.mem_iff_getElem?.mp hl
      have := (List.getElem?_eq_some_iff.mp hi).1
      rcases let_inj winj (hlz i z hi) h with e | e <;> omega
    -- choice
    intro d nd0
    have s4 := same_new (o := .dK []) nd0
    have s24 := s3.trans s4
    have hp24 := s24 _ _ hp2
    have lml : (ls.map V.str).length = ls.length := List.length_map ..
    refine ⟨_, rfl, p2, _, rfl, .inl (SqL.of hp24), _, rfl, ?_⟩
    rw [lml]
    refine ⟨by omega, by omega, ?_⟩
    have hS2 := s2.seq hS1
    have on0 : os ≠ [] := fun e => by rw [e] at osl; cases osl
    refine for_range (n := (ls.length : Int).toNat) (fun i σ H5 => ∃ (v5 : Option V) (ads : List (Str × Addr)) (ch : List (Str × Ms)), σ = [some (.ref a), some (.ref p1), some (.ref p2), some (.ref o), some (.ref d), v5, none, none, none, none] ∧ Same H3 H5 ∧ NmAt H5 d ads ch ∧ ch.map (·.1) = ls.take i ∧ ∀ x ∈ ch, Can x.2 ∧ x.2.length ≤ 3 ∧ ∀ p ∈ x.2, p.1 ∈ os ∧ p.2.natAbs ≤ 20)
      ⟨none, [], [], rfl, s4, ⟨upd_same, .nil⟩, rfl, fun x hx => absurd hx List.not_mem_nil⟩ ?_ ?_
    · rintro i σ H5 hi ⟨v5, ads, ch, rfl, sm, hf, hk, hx⟩
      have hi : i < ls.length := by omega
      have z0 : (0 : Int) + (i : Int) = ((i : Nat) : Int) := Int.zero_add _
      have hz := List.getElem?_eq_getElem hi
      generalize ls[i] = z at hz
      have hzi : atI (ls.map V.str) (0 + (i : Int)) = some (.str z) := by rw [z0]; exact atI_nat (by rw [List.getElem?_map, hz]; rfl)
      have hS5 := sm.seq (s3.seq hS2)
      refine ⟨_, rfl, a, ns, 2, rfl, hS5, fun c2 c20 c21 => ?_⟩
      refine ⟨_, rfl, c2, _, rfl, fun x hx0 hx1 => ?_⟩
      refine ⟨_, rfl, x, o, os, rfl, hx0, sm _ _ ho, on0, by omega, fun H6 p6 r6 s6 np6 hp6 hc6 hl6 hr6 => ?_⟩
      have adk : ads.map (·.1) = ls.take i := by rw [nmr_keys hf.2]; exact hk
      have adl : ads.length = i := by
        have e := congrArg List.length adk
        rw [List.length_map, List.length_take] at e
        omega
      have zn : z ∉ ls.take i := fun h => by
        obtain ⟨k, hk⟩ := List.mem_iff_getElem?.mp h
        rw [List.getElem?_take] at hk
        split at hk
        · have := nd_inj lsnd hk hz
          omega
        · cases hk
      have hf6 := hf.same s6
      refine ⟨_, rfl, _, rfl, _, rfl, p2, _, _, _, rfl, rfl, SqL.of (s6 _ _ (sm _ _ (s3 _ _ hp2))), hzi, ?_⟩
      refine ⟨d, _, rfl, dput_encG (g := V.ref) hf6.1 (by rw [adk]; exact List.Nodup.sublist (List.take_sublist _ _) lsnd) (small1000 (by omega)), ?_⟩
      rw [put_new (by rw [adk]; exact zn)]
      refine ⟨_, ads ++ [(z, p6)], ch ++ [(z, r6)], rfl, same_upd (sm.trans s6) nd0, ⟨upd_same, ?_⟩, ?_, fun x hxm => ?_⟩
      · exact Paired.snoc (Paired.mono (fun _ _ h => ⟨h.1, msN_dict h.2 hf6.1⟩) hf6.2) ⟨rfl, msN_dict hp6 hf6.1⟩
      · rw [List.map_append, hk, take_more hz]
        rfl
      · rcases mem_snoc hxm with h | rfl
        · exact hx x h
        · exact ⟨hc6, hl6, hr6⟩
    rintro σ H5 ⟨v5, ads, ch, rfl, s5, hf, hk, hx⟩
    have hk : ch.map (·.1) = ls := by rw [hk, Int.toNat_natCast, List.take_length]
    have co : ChOk ls os ch := ⟨hk, hx, lsnd, hll, fun z hz => (lslt z hz).1, fun z hz => ⟨(oslt z hz).1, osno z hz⟩, by omega⟩
    have hS5 := s5.seq (s3.seq hS2)
    have hp25 := s5 _ _ (s3 _ _ hp2)
    have ho5 := s5 _ _ ho
    have tb5 := ((((tb.ext s1).ext s2).ext s3).ext s5)
    -- rows
    refine ⟨_, rfl, _, rfl, _, rfl, _, rfl, a, ns, 3, p2, d, ls, os, ads, ch, rfl, hS5, hp25, hf, co, fun H5b pr0 rds0 ms0 s6a npr0 hpr0 hrd0 msl0 mok0 => ?_⟩
    refine ⟨_, rfl, a, pr0, o, ns, rds0, ms0, ls, os, shB ls.length, rfl, s6a.seq hS5, hpr0, hrd0, msl0.1, s6a _ _ ho5, (fun e => by rw [e] at osl; cases osl), by omega, hll, osno, fun m hm => RowS.of (mok0 m hm), fun H6 pr rds ms s6b npr0b hpr hrd msl mokS => ?_⟩
    have npr := s6a.free npr0b
    have s6 := s6a.trans s6b
    have tb6 := tb5.ext s6
    have hp26 := s6 _ _ hp25
    have ho6 := s6 _ _ ho5
    have hf6 := hf.same s6
    -- handed
    refine ⟨_, rfl, pr, _, rfl, .inl (SqL.of hpr), fun pr2 n1 => ⟨_, rfl, p2, _, rfl, .inl (SqL.of ((same_new n1) _ _ hp26)), fun p22 n2 => ⟨(by show 2 ≤ sizeLine; decide), fun hd n3 => ?_⟩⟩⟩
    have t1 := same_new (o := .lst (rds.map V.ref)) n1
    have t2 := same_new (o := .lst (ls.map V.str)) n2
    have t3 := same_new (o := .tup [V.ref pr2, V.ref p22]) n3
    have t13 := t1.trans (t2.trans t3)
    have hpr7 := t13 _ _ hpr
    have hp27 := t13 _ _ hp26
    have hf7 := hf6.same t13
    have ho7 := t13 _ _ ho6
    have tb7 := tb6.ext t13
    have hrd7 : Paired (MsN (upd (upd (upd H6 pr2 (.lst (rds.map V.ref))) p22 (.lst (ls.map V.str))) hd (.tup [V.ref pr2, V.ref p22]))) rds ms := Paired.mono (fun _ _ z => z.same t13) hrd
    have h71 := t3 _ _ (t2 _ _ (upd_same (H := H6) (a := pr2) (o := .lst (rds.map V.ref))))
    have h72 := t3 _ _ (upd_same (H := upd H6 pr2 (.lst (rds.map V.ref))) (a := p22) (o := .lst (ls.map V.str)))
    have h73 : upd (upd (upd H6 pr2 (.lst (rds.map V.ref))) p22 (.lst (ls.map V.str))) hd (.tup [V.ref pr2, V.ref p22]) hd = some (.tup [V.ref pr2, V.ref p22]) := upd_same
    generalize upd (upd (upd H6 pr2 (.lst (rds.map V.ref))) p22 (.lst (ls.map V.str))) hd (.tup [V.ref pr2, V.ref p22]) = H7 at hpr7 hp27 hf7 ho7 tb7 hrd7 h71 h72 h73 ⊢
    obtain ⟨KK, SS, BB, tpT, tpN, hNB, hNS, hBB, told1, gn48⟩ := pick9 ls.length ms0.length ms.length hll msl0.1 msl0.2 msl
    have mok : ∀ m ∈ ms, RowS ls os BB (2 ^ 25) m := fun m hm => (mokS m hm).mono hBB (Nat.le_refl _)
    have mky : ∀ m ∈ ms, ∀ p ∈ m, p.2.natAbs ≤ 2 ^ 25 := fun m hm p hp => by
      have := (mok m hm).y p.1
      rwa [at0_key (mok m hm).c hp] at this
    have jok : JOk ls os ms ls.length 7990 (JG KK (2 ^ 25) SS ls.length) := jokG tpT rfl (by omega) (by omega) hNS (fun m hm => ⟨(mok m hm).c.ris.nodup, mky m hm, (mok m hm).row⟩) hNB
    have bok : BOk ls os ms ls.length (JG KK (2 ^ 25) SS ls.length) := bokG tpN (fun m hm => ⟨(mok m hm).c.ris.nodup, mky m hm, (mok m hm).row⟩) hNB
    have mkl : ∀ m ∈ ms, m.length ≤ 27 := fun m hm => by
      have := keys_le (keys := ls ++ os) (mok m hm).c.ris.nodup fun p hp => List.mem_append.mpr ((mok m hm).k p hp)
      rw [List.length_append] at this
      omega
    -- solved
    have i0 : atI [V.ref pr2, V.ref p22] 0 = some (.ref pr2) := rfl
    have i1 : atI [V.ref pr2, V.ref p22] 1 = some (.ref p22) := rfl
    refine ⟨_, rfl, hd, _, 0, _, rfl, rfl, SqT.of h73, i0, _, rfl, hd, _, 1, _, rfl, rfl, SqT.of h73, i1, ?_⟩
    have mslt : ∀ m ∈ ms, ∀ p ∈ m, LtOk p.1 := fun m hm p hp => by
      rcases (mok m hm).k p hp with h | h
      · exact (lslt _ h).1
      · exact (oslt _ h).1
    have lsok : ∀ z ∈ ls, Ok z := fun z hz => (lslt z hz).1.2
    have sin : SoIn H7 pr2 p22 rds ms ls os ls.length 7990 (JG KK (2 ^ 25) SS ls.length) := ⟨h71, hrd7, h72, rfl, by omega, lsnd, fun m hm => ⟨(mok m hm).c.ris.nodup, Nat.le_trans (mkl m hm) (by decide), fun p hp => Sm.mono (a := 26) (Nat.lt_of_le_of_lt (mky m hm p hp) (by decide)) (by decide), (mok m hm).k⟩, by omega, by omega, jok, osno⟩
    refine ⟨pr2, p22, rds, ms, ls, os, ls.length, 7990, JG KK (2 ^ 25) SS ls.length, rfl, sin, tb7, bok, fun H8 t sg cols tm um x8 tb8 so => ?_, fun H8 dx cl cs WW x8 shw hWb hcb hcl hdx => ?_⟩
    rotate_left
    · have hpr8 := Sx.lst x8 hpr7
      have hp28 := Sx.lst x8 hp27
      have h81 := Sx.lst x8 h71
      have h82 := Sx.lst x8 h72
      have h83 : H8 hd = some (.tup [V.ref pr2, V.ref p22]) := x8 _ _ List.not_mem_nil (fun _ z => nomatch z) h73
      have hrd8 : Paired (MsN H8) rds ms := Paired.mono (fun _ _ z => z.sx x8) hrd7
      refine ⟨true, T.em, fun _ ea na => ?_, fun z => nomatch z⟩
      refine ⟨_, rfl, _, rfl, _, rfl, (by show 2 ≤ sizeLine; decide), fun tq ntq => ?_⟩
      have sq := same_new (o := .tup [V.ref pr, V.ref p2]) ntq
      have hsd := hdD_shaped mslt lsok
      refine ⟨hdD ms ls, hdD ms ls, .tup (SqT.of (sq _ _ h83)) (.cons (mss_dp (sq _ _ h81) (Paired.mono (fun _ _ z => z.same sq) hrd8)) (.cons (strs_dp (sq _ _ h82)) .nil)), .tup (SqT.of upd_same) (.cons (mss_dp (sq _ _ hpr8) (Paired.mono (fun _ _ z => z.same sq) hrd8)) (.cons (strs_dp (sq _ _ hp28)) .nil)), hsd, hsd, true, ?_, iteT ?_⟩
      · rw [SeqAt.eqv_refl _ (SeqAt.canLay_of_shaped hsd)]
      have hdx9 := sq _ _ hdx
      refine ⟨rfl, dx, rfl, _, rfl, rfl, ⟨_, hdx9⟩, true, rfl, iteT ?_⟩
      refine ⟨_, rfl, rfl, rfl, dx, _, .ref cl, rfl, hdx9, (by rw [lookup_put, if_neg (by decide +kernel), lookup_put, if_pos rfl]), ?_⟩
      refine ⟨_, rfl, rfl, rfl, dx, _, .int WW, rfl, hdx9, (by rw [lookup_put, if_pos rfl]), ?_⟩
      refine ⟨_, rfl, _, rfl, cl, pr, p2, cs, WW, rds, ms, ls, rfl, ⟨sq _ _ hcl, sq _ _ hpr8, Paired.mono (fun _ _ z => z.same sq) hrd8, sq _ _ hp28, fun m hm => ⟨(mok m hm).c.ris.nodup, Nat.le_trans (mkl m hm) (by decide), fun p hp => Nat.lt_of_le_of_lt (mky m hm p hp) (by decide)⟩, by omega, by omega, hWb, hcb, shw, fun m hm p hp => (mslt m hm p hp).2⟩, fun H9 _ => ?_⟩
      exact q _
    have ll := so.n
    obtain ⟨tp, up, tads, uads, h80, tn8, un8, tuN⟩ := so.h
    have hpr8 := x8.lst hpr7
    have hp28 := x8.lst hp27
    have ho8 := x8.lst ho7
    have hf8 := hf7.sx x8
    have h81 := x8.lst h71
    have h82 := x8.lst h72
    have h83 : H8 hd = some (.tup [V.ref pr2, V.ref p22]) := x8 _ _ List.not_mem_nil (fun _ z => nomatch z) h73
    have hrd8 : Paired (MsN H8) rds ms := Paired.mono (fun _ _ z => z.sx x8) hrd7
    obtain ⟨j5, jb, jy, jc, js, _⟩ := so.j
    -- what is told of the letters, of the unknowns
    have nq : (namesQ cols.length).length = cols.length := by rw [List.length_map, List.length_range]
    have sk : ∀ x ∈ sg.map (·.1), ∀ p ∈ x.m, p.1 ∈ os := fun x hx p hp => by
      obtain ⟨g, hg, rfl⟩ := List.mem_map.mp hx
      exact (so.g.ky g hg).2 p hp
    have tix : ∀ z ∈ tm, ∃ i, tm[i]? = some z ∧ ls[i]? = some z.1 ∧ IsTold (sg.map (·.1)) cols (namesQ cols.length) i z.2 := fun z hz => by
      obtain ⟨i, hi⟩ := List.mem_iff_getElem?.mp hz
      refine ⟨i, hi, ?_, so.tt i z hi⟩
      rw [← so.tk, List.getElem?_map, hi]
      rfl
    have uix : ∀ z ∈ um, ∃ (k : Nat) (c : Col), um[k]? = some z ∧ cols[k]? = some c ∧ k < cols.length ∧ z.1 = nameQ k ∧ UnkM ls c z.2 := fun z hz => by
      obtain ⟨k, hk⟩ := List.mem_iff_getElem?.mp hz
      have e : (um.map (·.1))[k]? = some z.1 := by rw [List.getElem?_map, hk]; rfl
      rw [so.uk, List.getElem?_map] at e
      by_cases l : k < cols.length
      · rw [List.getElem?_range l] at e
        have hc := List.getElem?_eq_getElem l
        obtain ⟨y1, y2⟩ := so.ut k z _ hk hc
        exact ⟨k, _, hk, hc, l, (Option.some.inj e).symm, y1, y2⟩
      · rw [List.getElem?_eq_none (by rw [List.length_range]; omega)] at e
        cases e
    have qlt : ∀ k, LtOk (nameQ k) := fun k => by
      refine ⟨fun e => ?_, ok_app (ok_string _) (ok_string _)⟩
      have := hd_nameQ k
      unfold MK.hd at this
      rw [e] at this
      cases this
    have clen : ∀ c ∈ cols, c.1.length = ls.length ∧ c.2.length = ls.length := fun c hc => so.g.cn c (List.mem_append_right _ hc)
    have dj : ∀ z, z ∈ namesQ cols.length → z ∉ os := fun z hz h => by
      obtain ⟨k, _, rfl⟩ := List.mem_map.mp hz
      exact (oslt _ h).2 (hd_nameQ k)
    have tk : ∀ z ∈ tm, ∀ p ∈ z.2, p.1 ∈ namesQ cols.length ∨ p.1 ∈ os := fun z hz => by
      obtain ⟨i, _, _, h⟩ := tix z hz
      exact told_keys h sk
    have tlen : ∀ z ∈ tm, z.2.length ≤ 27 := fun z hz => by
      obtain ⟨i, _, _, h⟩ := tix z hz
      have := keys_le (keys := namesQ cols.length ++ os) h.1.ris.nodup fun p hp => List.mem_append.mpr (tk z hz p hp)
      rw [List.length_append, nq, osl] at this
      omega
    have tb1 : ∀ z ∈ tm, ∀ p ∈ z.2, Sm 48000 p.2 := fun z hz p hp => by
      obtain ⟨i, _, _, h⟩ := tix z hz
      have := told_abs (n := 6) (Y := gy KK (2 ^ 25) SS) (M := gm KK SS) h (names_nodup _) nq (fun x hx => by
        obtain ⟨g, hg, rfl⟩ := List.mem_map.mp hx
        exact ⟨(so.g.ky g hg).1, fun p hp => Nat.le_trans (jy g hg p hp) (gy_up tpT.k1 j5), (jb (g.1.s, g.2) (List.mem_append_left _ (List.mem_map.mpr ⟨g, hg, rfl⟩))).1.mono (gm_up tpT.k1 j5).2⟩) (by rw [List.length_map]; omega)
        (fun c hc => (jb c (List.mem_append_right _ hc)).1.mono (gm_up tpT.k1 j5).2) p hp
      exact Nat.lt_of_le_of_lt this told1
    have ub1 : ∀ z ∈ um, ∀ p ∈ z.2, p.2.natAbs ≤ gn KK SS := fun z hz p hp => by
      obtain ⟨k, c, _, hc, _, _, u⟩ := uix z hz
      have cm := List.mem_of_getElem? hc
      exact u.abs lsnd (clen c cm).2 ((jb c (List.mem_append_right _ cm)).2.mono (gn_up tpT.k1 j5)) p hp
    have g5n48 := gn48
    have ulen : ∀ z ∈ um, z.2.length ≤ 23 := fun z hz => by
      obtain ⟨k, c, _, _, _, _, u⟩ := uix z hz
      exact Nat.le_trans (keys_le u.can.ris.nodup u.keys) hll
    have tnd : (tm.map (·.1)).Nodup := by rw [so.tk]; exact lsnd
    have sm1 : Sm 49000 (1 : Int) := Sm.mono (a := 1) (by show (1 : Int).natAbs < 2 ^ 1; decide) (by decide)
    have fok : ∀ m : Ms, m.length ≤ 27 → (∀ p ∈ m, Sm 49000 p.2) → FillOk tm m := fun m ml mb => by
      have fl : ∀ l, (fill tm l).length ≤ 27 ∧ ∀ p ∈ fill tm l, Sm 49000 p.2 := fun l => by
        by_cases e : l ∈ tm.map (·.1)
        · obtain ⟨z, hz, rfl⟩ := List.mem_map.mp e
          rw [fill_at tnd hz]
          exact ⟨tlen z hz, fun p hp => (tb1 z hz p hp).mono (by decide)⟩
        · rw [fill_no e]
          refine ⟨(by show 1 ≤ 27; decide), fun p hp => ?_⟩
          rw [List.mem_singleton.mp hp]
          exact sm1
      refine ⟨?_, fun q hq => ?_⟩
      · have h1 := flat_len_le (n := 27) (parts tm m) fun q hq => by
          obtain ⟨p, hp, rfl⟩ := List.mem_map.mp hq
          exact (fl p.1).1
        have h2 : (parts tm m).length = m.length := List.length_map _
        rw [h2] at h1
        omega
      · obtain ⟨p, hp, rfl⟩ := List.mem_map.mp hq
        exact ⟨mb p hp, (fl p.1).2⟩
    -- handed stays, a tuple of two is told
    refine ⟨_, rfl, _, rfl, _, rfl, (by show 2 ≤ sizeLine; decide), fun tq ntq => ?_⟩
    have sq := same_new (o := .tup [V.ref pr, V.ref p2]) ntq
    have hsd := hdD_shaped mslt lsok
    refine ⟨hdD ms ls, hdD ms ls, .tup (SqT.of (sq _ _ h83)) (.cons (mss_dp (sq _ _ h81) (Paired.mono (fun _ _ z => z.same sq) hrd8)) (.cons (strs_dp (sq _ _ h82)) .nil)), .tup (SqT.of upd_same) (.cons (mss_dp (sq _ _ hpr8) (Paired.mono (fun _ _ z => z.same sq) hrd8)) (.cons (strs_dp (sq _ _ hp28)) .nil)), hsd, hsd, _, rfl, ?_⟩
    rw [SeqAt.eqv_refl _ (SeqAt.canLay_of_shaped hsd)]
    refine iteF ?_
    have h90 := sq _ _ h80
    have tn9 := tn8.same sq
    have un9 := un8.same sq
    have hpr9 := sq _ _ hpr8
    have hp29 := sq _ _ hp28
    have ho9 := sq _ _ ho8
    have hf9 := hf8.same sq
    have hrd9 : Paired (MsN (upd H8 tq (.tup [V.ref pr, V.ref p2]))) rds ms := Paired.mono (fun _ _ z => z.same sq) hrd8
    generalize upd H8 tq (.tup [V.ref pr, V.ref p2]) = H9 at h90 tn9 un9 hpr9 hp29 ho9 hf9 hrd9 ⊢
    refine ⟨_, rfl, _, _, _, _, true, rfl, .ty _, .base (.tup h90), kit_ty (by decide +kernel), true, rfl, iteF ?_⟩
    refine ⟨_, rfl, t, _, rfl, .inr (SqT.of h90), rfl, _, rfl, iteF ?_⟩
    have i0t : atI [V.ref tp, V.ref up] 0 = some (.ref tp) := rfl
    have i1t : atI [V.ref tp, V.ref up] 1 = some (.ref up) := rfl
    -- _law_formed
    refine ⟨_, rfl, t, _, 0, _, rfl, rfl, SqT.of h90, i0t, _, rfl, t, _, 1, _, rfl, rfl, SqT.of h90, i1t, _, rfl, _, rfl, tp, up, p2, o, tads, tm, uads, um, ls, os, cols.length, rfl, ⟨tn9, un9, hp29, ho9, lsnd, lsok, by omega, so.tk, so.uk, by omega, fun z hz => ?_, fun z hz => ?_, tuN⟩, fun H10 s10 => ⟨true, rfl, iteT ?_⟩⟩
    · obtain ⟨i, _, _, h⟩ := tix z hz
      refine ⟨h.1, fun p hp => ⟨?_, tk z hz p hp⟩⟩
      rcases tk z hz p hp with h | h
      · obtain ⟨k, _, e⟩ := List.mem_map.mp h
        rw [← e]
        exact qlt k
      · exact (oslt _ h).1
    · obtain ⟨k, c, _, _, _, _, u⟩ := uix z hz
      exact ⟨u.can, fun p hp => ⟨(lslt _ (u.keys p hp)).1, u.keys p hp⟩⟩
    -- _law_solves
    have und : (um.map (·.1)).Nodup := by rw [so.uk]; exact names_nodup _
    have tn10 := tn9.same s10
    have un10 := un9.same s10
    have h910 := s10 _ _ h90
    refine ⟨_, rfl, t, _, 0, _, rfl, rfl, SqT.of h910, i0t, _, rfl, t, _, 1, _, rfl, rfl, SqT.of h910, i1t, _, rfl, tp, up, pr, tads, tm, uads, um, rds, ms, rfl, ⟨tn10, un10, s10 _ _ hpr9, Paired.mono (fun _ _ z => z.same s10) hrd9, tuN, und, fun m hm => ⟨fok m (mkl m hm) fun p hp => Sm.mono (a := 26) (Nat.lt_of_le_of_lt (mky m hm p hp) (by decide)) (by decide), fun j => ?_⟩, fun z hz => ?_⟩, fun H11 s11 => ?_⟩
    · rw [filled_told rfl lsnd so.tk so.tt (mok m hm).c.ris.nodup j]
      exact so.g.solves (r := (m, powersOf m ls)) (List.mem_map.mpr ⟨m, hm, rfl⟩) _ j
    · obtain ⟨k, c, _, hc, kl, ez, u⟩ := uix z hz
      have cm := List.mem_of_getElem? hc
      refine ⟨by rw [ez]; exact qlt k, fok z.2 (Nat.le_trans (ulen z hz) (by decide)) (fun p hp => Sm.mono (a := 48000) (Nat.lt_of_le_of_lt (ub1 z hz p hp) g5n48) (by decide)), fun j => ?_⟩
      rw [filled_told rfl lsnd so.tk so.tt u.can.ris.nodup j, notIn_nil u.keys, u.pow lsnd (clen c cm).2, Int.zero_add, ez]
      exact so.g.itself (names_nodup _) hc (by rw [List.getElem?_map, List.getElem?_range kl]; rfl) j
    exact q _
end
end MK


set_option Elab.async false
set_option linter.all false
set_option maxRecDepth 100000
set_option maxHeartbeats 4000000
namespace MK
open PySem PySem.Spec PyProof.Rows L2
/-- the law's end where one def's code object has a table of its own -/
theorem walk_nm {l : PySem.W.OpenLaw} {n k : Nat} {p : Program} {lo : List Str} {XP : (Str → Option Value) → Heap → Prop} {YP : World → Heap → Prop} {r : DefRec} {KK : Params → PySem.W.Frag} {C : World → CXT} {x x0 : Str}
    (h1 : l.most = some n) (h2 : n ≤ sizeLine) (h3 : r.params.defaults = []) (h4 : Room k callerA) (h5 : ((PyProof.Rows.recsOf p).any fun e => e.name == x0) = true) (h6 : ∀ w h, YP w h → (KK w.params).In h)
    (go : ∀ w mg fa h, (KK w.params).In h → h.Ns mainGlobals mg → mg r.name = some (.ref fa) → (∀ f0, mg x0 = some (.ref f0) → LamX.OwnTab (KK w.params) f0 h) → LamX.LawAtS l w (KK w.params) (C w) k n x mg fa h)
    (h7 : ∀ w H s e s', C w [] H s (fun _ _ _ => False) e s' → False) : PySem.W.WalkO p lo XP YP l.row.toRowW r [] (fun f vs => PySem.call f vs) := by
  refine Att.attach_callB h1 h3 fun w s₀ s mg mb fa o pm cd doc a vs ns Gr Y _ _ _ hm hob hin hle hbi hge => ?_
  have X := h6 w _ Y
  have ow : ∀ f0, mg x0 = some (.ref f0) → LamX.OwnTab (KK w.params) f0 s.heap := by
    intro f0 hf c P o1 f1 e d0 us sl q1 q2 q3 q4 q5
    obtain ⟨dr, hdr, hnm⟩ := List.any_eq_true.mp h5
    have hnm : dr.name = x0 := beq_iff_eq.mp hnm
    obtain ⟨b, ob, fb, cb, Pb, g1, g2, g3, g4, _, ⟨⟨_, _, g5, _, g6, g7⟩, g8⟩⟩ := Gr.T.tab dr hdr
    rw [hnm, hf] at g1
    cases g1
    rw [X _ _ q1] at g2
    cases g2
    rw [q2] at g3
    cases g3
    rw [q3] at g4
    cases g4
    rw [X _ _ q4] at g5
    cases g5
    cases g6
    rw [q5] at g7
    cases g7
    exact g8
  obtain ⟨fd, cs, sp, t1, t2, t3, t4, t5, t6⟩ := go w mg fa _ X Gr.T.g hm ow
  refine LamX.law_callTs X Gr.T.g Gr.T.b Gr.T.builtins Gr.T.nolimit hge t1 t2 t3 Gr.T.bmain hob hin ?_ h4 t6 t4 ?_ (fun H e s' => h7 w H s e s')
  · exact Nat.le_trans hle h2
  · exact fun H y1 y2 => t5 H a ns hle hbi y1 y2
/-! ### what the top has written; the law's own head -/
theorem all_mk {l : PySem.W.OpenLaw} {w : World} {K : PySem.W.Frag} {h : Heap} {mg : Str → Option Value} {fa : Addr} (X : K.In h) (G : h.Ns mainGlobals mg) (hfa : mg "law" = some (.ref fa)) (OT : ∀ f0, mg "_brought_together" = some (.ref f0) → LamX.OwnTab K f0 h)
    {od0 an0 : Option Addr} {sl0 : Array (Option Value)} {oc0 kV0 dc0 pm0 cd0 ct0 : Value} {f0 : Addr}
    (a0 : PySem.W.nsIn K mainGlobals "_law_cell_at" = some (some (.ref f0))) (l0 : K.lookup f0 = some ⟨oc0, od0, .func (PySem.W.fnOf "_law_cell_at" "_law_cell_at" (defArgs sCell) (defBody sCell) (defScope sCell) .none kV0 dc0 pm0 an0 cd0 ct0), sl0⟩) (c0 : PySem.W.codeIn K cd0 "_law_cell_at" = true) (k0 : PySem.W.keepIn K (.ref f0) = true)
    {od1 an1 : Option Addr} {sl1 : Array (Option Value)} {oc1 kV1 dc1 pm1 cd1 ct1 : Value} {f1 : Addr}
    (a1 : PySem.W.nsIn K mainGlobals "_law_mix" = some (some (.ref f1))) (l1 : K.lookup f1 = some ⟨oc1, od1, .func (PySem.W.fnOf "_law_mix" "_law_mix" (defArgs sMix) (defBody sMix) (defScope sMix) .none kV1 dc1 pm1 an1 cd1 ct1), sl1⟩) (c1 : PySem.W.codeIn K cd1 "_law_mix" = true) (k1 : PySem.W.keepIn K (.ref f1) = true)
    {od2 an2 : Option Addr} {sl2 : Array (Option Value)} {oc2 kV2 dc2 pm2 cd2 ct2 : Value} {f2 : Addr}
    (a2 : PySem.W.nsIn K mainGlobals "_law_words" = some (some (.ref f2))) (l2 : K.lookup f2 = some ⟨oc2, od2, .func (PySem.W.fnOf "_law_words" "_law_words" (defArgs sWords) (defBody sWords) (defScope sWords) .none kV2 dc2 pm2 an2 cd2 ct2), sl2⟩) (c2 : PySem.W.codeIn K cd2 "_law_words" = true) (k2 : PySem.W.keepIn K (.ref f2) = true)
    {od3 an3 : Option Addr} {sl3 : Array (Option Value)} {oc3 kV3 dc3 pm3 cd3 ct3 : Value} {f3 : Addr}
    (a3 : PySem.W.nsIn K mainGlobals "_law_made" = some (some (.ref f3))) (l3 : K.lookup f3 = some ⟨oc3, od3, .func (PySem.W.fnOf "_law_made" "_law_made" (defArgs sMade) (defBody sMade) (defScope sMade) .none kV3 dc3 pm3 an3 cd3 ct3), sl3⟩) (c3 : PySem.W.codeIn K cd3 "_law_made" = true) (k3 : PySem.W.keepIn K (.ref f3) = true)
    {od4 an4 : Option Addr} {sl4 : Array (Option Value)} {oc4 kV4 dc4 pm4 cd4 ct4 : Value} {f4 : Addr}
    (a4 : PySem.W.nsIn K mainGlobals "_law_whole" = some (some (.ref f4))) (l4 : K.lookup f4 = some ⟨oc4, od4, .func (PySem.W.fnOf "_law_whole" "_law_whole" (defArgs sWhole) (defBody sWhole) (defScope sWhole) .none kV4 dc4 pm4 an4 cd4 ct4), sl4⟩) (c4 : PySem.W.codeIn K cd4 "_law_whole" = true) (k4 : PySem.W.keepIn K (.ref f4) = true)
    {od5 an5 : Option Addr} {sl5 : Array (Option Value)} {oc5 kV5 dc5 pm5 cd5 ct5 : Value} {f5 : Addr}
    (a5 : PySem.W.nsIn K mainGlobals "_law_is_measure" = some (some (.ref f5))) (l5 : K.lookup f5 = some ⟨oc5, od5, .func (PySem.W.fnOf "_law_is_measure" "_law_is_measure" (defArgs sIsM) (defBody sIsM) (defScope sIsM) .none kV5 dc5 pm5 an5 cd5 ct5), sl5⟩) (c5 : PySem.W.codeIn K cd5 "_law_is_measure" = true) (k5 : PySem.W.keepIn K (.ref f5) = true)
    {od6 an6 : Option Addr} {sl6 : Array (Option Value)} {oc6 kV6 dc6 pm6 cd6 ct6 : Value} {f6 : Addr}
    (a6 : PySem.W.nsIn K mainGlobals "_law_small" = some (some (.ref f6))) (l6 : K.lookup f6 = some ⟨oc6, od6, .func (PySem.W.fnOf "_law_small" "_law_small" (defArgs sSmall) (defBody sSmall) (defScope sSmall) .none kV6 dc6 pm6 an6 cd6 ct6), sl6⟩) (c6 : PySem.W.codeIn K cd6 "_law_small" = true) (k6 : PySem.W.keepIn K (.ref f6) = true)
    {od7 an7 : Option Addr} {sl7 : Array (Option Value)} {oc7 kV7 dc7 pm7 cd7 ct7 : Value} {f7 : Addr}
    (a7 : PySem.W.nsIn K mainGlobals "_law_filled" = some (some (.ref f7))) (l7 : K.lookup f7 = some ⟨oc7, od7, .func (PySem.W.fnOf "_law_filled" "_law_filled" (defArgs sFilled) (defBody sFilled) (defScope sFilled) .none kV7 dc7 pm7 an7 cd7 ct7), sl7⟩) (c7 : PySem.W.codeIn K cd7 "_law_filled" = true) (k7 : PySem.W.keepIn K (.ref f7) = true)
    {od8 an8 : Option Addr} {sl8 : Array (Option Value)} {oc8 kV8 dc8 pm8 cd8 ct8 : Value} {f8 : Addr}
    (a8 : PySem.W.nsIn K mainGlobals "_law_is_unknown" = some (some (.ref f8))) (l8 : K.lookup f8 = some ⟨oc8, od8, .func (PySem.W.fnOf "_law_is_unknown" "_law_is_unknown" (defArgs sIsUn) (defBody sIsUn) (defScope sIsUn) .none kV8 dc8 pm8 an8 cd8 ct8), sl8⟩) (c8 : PySem.W.codeIn K cd8 "_law_is_unknown" = true) (k8 : PySem.W.keepIn K (.ref f8) = true)
    {od9 an9 : Option Addr} {sl9 : Array (Option Value)} {oc9 kV9 dc9 pm9 cd9 ct9 : Value} {f9 : Addr}
    (a9 : PySem.W.nsIn K mainGlobals "_law_formed" = some (some (.ref f9))) (l9 : K.lookup f9 = some ⟨oc9, od9, .func (PySem.W.fnOf "_law_formed" "_law_formed" (defArgs sFormed) (defBody sFormed) (defScope sFormed) .none kV9 dc9 pm9 an9 cd9 ct9), sl9⟩) (c9 : PySem.W.codeIn K cd9 "_law_formed" = true) (k9 : PySem.W.keepIn K (.ref f9) = true)
    {od10 an10 : Option Addr} {sl10 : Array (Option Value)} {oc10 kV10 dc10 pm10 cd10 ct10 : Value} {f10 : Addr}
    (a10 : PySem.W.nsIn K mainGlobals "_law_solves" = some (some (.ref f10))) (l10 : K.lookup f10 = some ⟨oc10, od10, .func (PySem.W.fnOf "_law_solves" "_law_solves" (defArgs sSolves) (defBody sSolves) (defScope sSolves) .none kV10 dc10 pm10 an10 cd10 ct10), sl10⟩) (c10 : PySem.W.codeIn K cd10 "_law_solves" = true) (k10 : PySem.W.keepIn K (.ref f10) = true)
    {od11 an11 : Option Addr} {sl11 : Array (Option Value)} {oc11 kV11 dc11 pm11 cd11 ct11 : Value} {f11 : Addr}
    (a11 : PySem.W.nsIn K mainGlobals "_law_some_letters" = some (some (.ref f11))) (l11 : K.lookup f11 = some ⟨oc11, od11, .func (PySem.W.fnOf "_law_some_letters" "_law_some_letters" (defArgs sSomeL) (defBody sSomeL) (defScope sSomeL) .none kV11 dc11 pm11 an11 cd11 ct11), sl11⟩) (c11 : PySem.W.codeIn K cd11 "_law_some_letters" = true) (k11 : PySem.W.keepIn K (.ref f11) = true)
    {od12 an12 : Option Addr} {sl12 : Array (Option Value)} {oc12 kV12 dc12 pm12 cd12 ct12 : Value} {f12 : Addr}
    (a12 : PySem.W.nsIn K mainGlobals "_law_share" = some (some (.ref f12))) (l12 : K.lookup f12 = some ⟨oc12, od12, .func (PySem.W.fnOf "_law_share" "_law_share" (defArgs sShare) (defBody sShare) (defScope sShare) .none kV12 dc12 pm12 an12 cd12 ct12), sl12⟩) (c12 : PySem.W.codeIn K cd12 "_law_share" = true) (k12 : PySem.W.keepIn K (.ref f12) = true)
    {od13 an13 : Option Addr} {sl13 : Array (Option Value)} {oc13 kV13 dc13 pm13 cd13 ct13 : Value} {f13 : Addr}
    (a13 : PySem.W.nsIn K mainGlobals "_law_rows" = some (some (.ref f13))) (l13 : K.lookup f13 = some ⟨oc13, od13, .func (PySem.W.fnOf "_law_rows" "_law_rows" (defArgs sRows) (defBody sRows) (defScope sRows) .none kV13 dc13 pm13 an13 cd13 ct13), sl13⟩) (c13 : PySem.W.codeIn K cd13 "_law_rows" = true) (k13 : PySem.W.keepIn K (.ref f13) = true)
    {od14 an14 : Option Addr} {sl14 : Array (Option Value)} {oc14 kV14 dc14 pm14 cd14 ct14 : Value} {f14 : Addr}
    (a14 : PySem.W.nsIn K mainGlobals "_law_times" = some (some (.ref f14))) (l14 : K.lookup f14 = some ⟨oc14, od14, .func (PySem.W.fnOf "_law_times" "_law_times" (defArgs sTimes) (defBody sTimes) (defScope sTimes) .none kV14 dc14 pm14 an14 cd14 ct14), sl14⟩) (c14 : PySem.W.codeIn K cd14 "_law_times" = true) (k14 : PySem.W.keepIn K (.ref f14) = true)
    {od15 an15 : Option Addr} {sl15 : Array (Option Value)} {oc15 kV15 dc15 pm15 cd15 ct15 : Value} {f15 : Addr}
    (a15 : PySem.W.nsIn K mainGlobals "_law_spoilt" = some (some (.ref f15))) (l15 : K.lookup f15 = some ⟨oc15, od15, .func (PySem.W.fnOf "_law_spoilt" "_law_spoilt" (defArgs sSpoilt) (defBody sSpoilt) (defScope sSpoilt) .none kV15 dc15 pm15 an15 cd15 ct15), sl15⟩) (c15 : PySem.W.codeIn K cd15 "_law_spoilt" = true) (k15 : PySem.W.keepIn K (.ref f15) = true)
    {od16 an16 : Option Addr} {sl16 : Array (Option Value)} {oc16 kV16 dc16 pm16 cd16 ct16 : Value} {f16 : Addr}
    (a16 : PySem.W.nsIn K mainGlobals "_law_none" = some (some (.ref f16))) (l16 : K.lookup f16 = some ⟨oc16, od16, .func (PySem.W.fnOf "_law_none" "_law_none" (defArgs sNone) (defBody sNone) (defScope sNone) .none kV16 dc16 pm16 an16 cd16 ct16), sl16⟩) (c16 : PySem.W.codeIn K cd16 "_law_none" = true) (k16 : PySem.W.keepIn K (.ref f16) = true)
    {od17 an17 : Option Addr} {sl17 : Array (Option Value)} {oc17 kV17 dc17 pm17 cd17 ct17 : Value} {f17 : Addr}
    (a17 : PySem.W.nsIn K mainGlobals "_law_shows" = some (some (.ref f17))) (l17 : K.lookup f17 = some ⟨oc17, od17, .func (PySem.W.fnOf "_law_shows" "_law_shows" (defArgs sShows) (defBody sShows) (defScope sShows) .none kV17 dc17 pm17 an17 cd17 ct17), sl17⟩) (c17 : PySem.W.codeIn K cd17 "_law_shows" = true) (k17 : PySem.W.keepIn K (.ref f17) = true)
    {od18 an18 : Option Addr} {sl18 : Array (Option Value)} {oc18 kV18 dc18 pm18 cd18 ct18 : Value} {f18 : Addr}
    (a18 : PySem.W.nsIn K mainGlobals "gathered" = some (some (.ref f18))) (l18 : K.lookup f18 = some ⟨oc18, od18, .func (PySem.W.fnOf "gathered" "gathered" (defArgs sGath) (defBody sGath) (defScope sGath) .none kV18 dc18 pm18 an18 cd18 ct18), sl18⟩) (c18 : PySem.W.codeIn K cd18 "gathered" = true) (k18 : PySem.W.keepIn K (.ref f18) = true)
    {od19 an19 : Option Addr} {sl19 : Array (Option Value)} {oc19 kV19 dc19 pm19 cd19 ct19 : Value} {f19 : Addr}
    (a19 : PySem.W.nsIn K mainGlobals "solved" = some (some (.ref f19))) (l19 : K.lookup f19 = some ⟨oc19, od19, .func (PySem.W.fnOf "solved" "solved" (defArgs sSolved) (defBody sSolved) (defScope sSolved) .none kV19 dc19 pm19 an19 cd19 ct19), sl19⟩) (c19 : PySem.W.codeIn K cd19 "solved" = true) (k19 : PySem.W.keepIn K (.ref f19) = true)
    {od20 an20 : Option Addr} {sl20 : Array (Option Value)} {oc20 kV20 dc20 pm20 cd20 ct20 : Value} {f20 : Addr}
    (a20 : PySem.W.nsIn K mainGlobals "_powers_of" = some (some (.ref f20))) (l20 : K.lookup f20 = some ⟨oc20, od20, .func (PySem.W.fnOf "_powers_of" "_powers_of" (defArgs sPowers) (defBody sPowers) (defScope sPowers) .none kV20 dc20 pm20 an20 cd20 ct20), sl20⟩) (c20 : PySem.W.codeIn K cd20 "_powers_of" = true) (k20 : PySem.W.keepIn K (.ref f20) = true)
    {od21 an21 : Option Addr} {sl21 : Array (Option Value)} {oc21 kV21 dc21 pm21 cd21 ct21 : Value} {f21 : Addr}
    (a21 : PySem.W.nsIn K mainGlobals "_measure" = some (some (.ref f21))) (l21 : K.lookup f21 = some ⟨oc21, od21, .func (PySem.W.fnOf "_measure" "_measure" (defArgs sMeas) (defBody sMeas) (defScope sMeas) .none kV21 dc21 pm21 an21 cd21 ct21), sl21⟩) (c21 : PySem.W.codeIn K cd21 "_measure" = true) (k21 : PySem.W.keepIn K (.ref f21) = true)
    {od22 an22 : Option Addr} {sl22 : Array (Option Value)} {oc22 kV22 dc22 pm22 cd22 ct22 : Value} {f22 : Addr}
    (a22 : PySem.W.nsIn K mainGlobals "_summed" = some (some (.ref f22))) (l22 : K.lookup f22 = some ⟨oc22, od22, .func (PySem.W.fnOf "_summed" "_summed" (defArgs sSummed) (defBody sSummed) (defScope sSummed) .none kV22 dc22 pm22 an22 cd22 ct22), sl22⟩) (c22 : PySem.W.codeIn K cd22 "_summed" = true) (k22 : PySem.W.keepIn K (.ref f22) = true)
    {od23 an23 : Option Addr} {sl23 : Array (Option Value)} {oc23 kV23 dc23 pm23 ct23 : Value} {cN : Addr} {f23 : Addr}
    (a23 : PySem.W.nsIn K mainGlobals "_brought_together" = some (some (.ref f23))) (l23 : K.lookup f23 = some ⟨oc23, od23, .func (PySem.W.fnOf "_brought_together" "_brought_together" (defArgs sBrought) (defBody sBrought) (defScope sBrought) .none kV23 dc23 pm23 an23 (.ref cN) ct23), sl23⟩) (c23 : PySem.W.codeIn K (.ref cN) "_brought_together" = true) (k23 : PySem.W.keepIn K (.ref f23) = true)
    {od24 an24 : Option Addr} {sl24 : Array (Option Value)} {oc24 kV24 dc24 pm24 cd24 ct24 : Value} {f24 : Addr}
    (a24 : PySem.W.nsIn K mainGlobals "_nearest" = some (some (.ref f24))) (l24 : K.lookup f24 = some ⟨oc24, od24, .func (PySem.W.fnOf "_nearest" "_nearest" (defArgs sNear) (defBody sNear) (defScope sNear) .none kV24 dc24 pm24 an24 cd24 ct24), sl24⟩) (c24 : PySem.W.codeIn K cd24 "_nearest" = true) (k24 : PySem.W.keepIn K (.ref f24) = true)
    {od25 an25 : Option Addr} {sl25 : Array (Option Value)} {oc25 kV25 dc25 pm25 cd25 ct25 : Value} {f25 : Addr}
    (a25 : PySem.W.nsIn K mainGlobals "_shift" = some (some (.ref f25))) (l25 : K.lookup f25 = some ⟨oc25, od25, .func (PySem.W.fnOf "_shift" "_shift" (defArgs sShift) (defBody sShift) (defScope sShift) .none kV25 dc25 pm25 an25 cd25 ct25), sl25⟩) (c25 : PySem.W.codeIn K cd25 "_shift" = true) (k25 : PySem.W.keepIn K (.ref f25) = true)
    {od26 an26 : Option Addr} {sl26 : Array (Option Value)} {oc26 kV26 dc26 pm26 cd26 ct26 : Value} {f26 : Addr}
    (a26 : PySem.W.nsIn K mainGlobals "_rest" = some (some (.ref f26))) (l26 : K.lookup f26 = some ⟨oc26, od26, .func (PySem.W.fnOf "_rest" "_rest" (defArgs sRest) (defBody sRest) (defScope sRest) .none kV26 dc26 pm26 an26 cd26 ct26), sl26⟩) (c26 : PySem.W.codeIn K cd26 "_rest" = true) (k26 : PySem.W.keepIn K (.ref f26) = true)
    {od27 an27 : Option Addr} {sl27 : Array (Option Value)} {oc27 kV27 dc27 pm27 cd27 ct27 : Value} {f27 : Addr}
    (a27 : PySem.W.nsIn K mainGlobals "_hindrance" = some (some (.ref f27))) (l27 : K.lookup f27 = some ⟨oc27, od27, .func (PySem.W.fnOf "_hindrance" "_hindrance" (defArgs sHind) (defBody sHind) (defScope sHind) .none kV27 dc27 pm27 an27 cd27 ct27), sl27⟩) (c27 : PySem.W.codeIn K cd27 "_hindrance" = true) (k27 : PySem.W.keepIn K (.ref f27) = true)
    {od28 an28 : Option Addr} {sl28 : Array (Option Value)} {oc28 kV28 dc28 pm28 cd28 ct28 : Value} {f28 : Addr}
    (a28 : PySem.W.nsIn K mainGlobals "_least_not_dividing" = some (some (.ref f28))) (l28 : K.lookup f28 = some ⟨oc28, od28, .func (PySem.W.fnOf "_least_not_dividing" "_least_not_dividing" (defArgs sLeast) (defBody sLeast) (defScope sLeast) .none kV28 dc28 pm28 an28 cd28 ct28), sl28⟩) (c28 : PySem.W.codeIn K cd28 "_least_not_dividing" = true) (k28 : PySem.W.keepIn K (.ref f28) = true)
    {od29 an29 : Option Addr} {sl29 : Array (Option Value)} {oc29 kV29 dc29 pm29 cd29 ct29 : Value} {f29 : Addr}
    (a29 : PySem.W.nsIn K mainGlobals "_told" = some (some (.ref f29))) (l29 : K.lookup f29 = some ⟨oc29, od29, .func (PySem.W.fnOf "_told" "_told" (defArgs sTold) (defBody sTold) (defScope sTold) .none kV29 dc29 pm29 an29 cd29 ct29), sl29⟩) (c29 : PySem.W.codeIn K cd29 "_told" = true) (k29 : PySem.W.keepIn K (.ref f29) = true)
    {od30 an30 : Option Addr} {sl30 : Array (Option Value)} {oc30 kV30 dc30 pm30 cd30 ct30 : Value} {f30 : Addr}
    (a30 : PySem.W.nsIn K mainGlobals "_shown" = some (some (.ref f30))) (l30 : K.lookup f30 = some ⟨oc30, od30, .func (PySem.W.fnOf "_shown" "_shown" (defArgs sShown) (defBody sShown) (defScope sShown) .none kV30 dc30 pm30 an30 cd30 ct30), sl30⟩) (c30 : PySem.W.codeIn K cd30 "_shown" = true) (k30 : PySem.W.keepIn K (.ref f30) = true)
    {od31 an31 : Option Addr} {sl31 : Array (Option Value)} {oc31 kV31 dc31 pm31 cd31 ct31 : Value} {f31 : Addr}
    (a31 : PySem.W.nsIn K mainGlobals "added" = some (some (.ref f31))) (l31 : K.lookup f31 = some ⟨oc31, od31, .func (PySem.W.fnOf "added" "added" (defArgs sAdd) (defBody sAdd) (defScope sAdd) .none kV31 dc31 pm31 an31 cd31 ct31), sl31⟩) (c31 : PySem.W.codeIn K cd31 "added" = true) (k31 : PySem.W.keepIn K (.ref f31) = true)
    {od32 an32 : Option Addr} {sl32 : Array (Option Value)} {oc32 kV32 dc32 pm32 cd32 ct32 : Value} {f32 : Addr}
    (a32 : PySem.W.nsIn K mainGlobals "product" = some (some (.ref f32))) (l32 : K.lookup f32 = some ⟨oc32, od32, .func (PySem.W.fnOf "product" "product" (defArgs sProd) (defBody sProd) (defScope sProd) .none kV32 dc32 pm32 an32 cd32 ct32), sl32⟩) (c32 : PySem.W.codeIn K cd32 "product" = true) (k32 : PySem.W.keepIn K (.ref f32) = true)
    {od33 an33 : Option Addr} {sl33 : Array (Option Value)} {oc33 kV33 dc33 pm33 cd33 ct33 : Value} {f33 : Addr}
    (a33 : PySem.W.nsIn K mainGlobals "quotient" = some (some (.ref f33))) (l33 : K.lookup f33 = some ⟨oc33, od33, .func (PySem.W.fnOf "quotient" "quotient" (defArgs sQuo) (defBody sQuo) (defScope sQuo) .none kV33 dc33 pm33 an33 cd33 ct33), sl33⟩) (c33 : PySem.W.codeIn K cd33 "quotient" = true) (k33 : PySem.W.keepIn K (.ref f33) = true)
    {od34 an34 : Option Addr} {sl34 : Array (Option Value)} {oc34 kV34 dc34 pm34 cd34 ct34 : Value} {f34 : Addr}
    (a34 : PySem.W.nsIn K mainGlobals "_together" = some (some (.ref f34))) (l34 : K.lookup f34 = some ⟨oc34, od34, .func (PySem.W.fnOf "_together" "_together" (defArgs sTog) (defBody sTog) (defScope sTog) .none kV34 dc34 pm34 an34 cd34 ct34), sl34⟩) (c34 : PySem.W.codeIn K cd34 "_together" = true) (k34 : PySem.W.keepIn K (.ref f34) = true)
    {od35 an35 : Option Addr} {sl35 : Array (Option Value)} {oc35 kV35 dc35 pm35 cd35 ct35 : Value} {f35 : Addr}
    (a35 : PySem.W.nsIn K mainGlobals "_turned" = some (some (.ref f35))) (l35 : K.lookup f35 = some ⟨oc35, od35, .func (PySem.W.fnOf "_turned" "_turned" (defArgs sTrn) (defBody sTrn) (defScope sTrn) .none kV35 dc35 pm35 an35 cd35 ct35), sl35⟩) (c35 : PySem.W.codeIn K cd35 "_turned" = true) (k35 : PySem.W.keepIn K (.ref f35) = true)
    {od36 an36 : Option Addr} {sl36 : Array (Option Value)} {oc36 kV36 dc36 pm36 cd36 ct36 : Value} {f36 : Addr}
    (a36 : PySem.W.nsIn K mainGlobals "law" = some (some (.ref f36))) (l36 : K.lookup f36 = some ⟨oc36, od36, .func (PySem.W.fnOf "law" "law" (defArgs sLaw) (defBody sLaw) (defScope sLaw) .none kV36 dc36 pm36 an36 cd36 ct36), sl36⟩) (c36 : PySem.W.codeIn K cd36 "law" = true) (k36 : PySem.W.keepIn K (.ref f36) = true)
    (z0 : PySem.W.nsIn K mainGlobals "len" = some none)
    (z1 : PySem.W.nsIn K mainGlobals "range" = some none)
    (z2 : PySem.W.nsIn K mainGlobals "tuple" = some none)
    (z3 : PySem.W.nsIn K mainGlobals "isinstance" = some none)
    (z4 : PySem.W.nsIn K mainGlobals "int" = some none)
    (z5 : PySem.W.nsIn K mainGlobals "bool" = some none)
    (z6 : PySem.W.nsIn K mainGlobals "str" = some none)
    (z7 : PySem.W.nsIn K mainGlobals "sorted" = some none)
    (z8 : PySem.W.nsIn K mainGlobals "list" = some none)
    (z9 : PySem.W.nsIn K mainGlobals "dict" = some none)
    (z10 : PySem.W.nsIn K mainGlobals "zip" = some none)
    (z11 : PySem.W.nsIn K mainGlobals "sum" = some none)
    (z12 : PySem.W.nsIn K mainGlobals "enumerate" = some none)
    (z13 : PySem.W.nsIn K mainGlobals "min" = some none)
    (z14 : PySem.W.nsIn K mainGlobals "abs" = some none)
    (z15 : PySem.W.nsIn K mainGlobals "reversed" = some none)
    {C fiU : Addr} {odU anU : Option Addr} {slU : Array (Option Value)} {ocU kVU dcU pmU cdU ctU : Value}
    (aU : PySem.W.nsIn K mainGlobals "Unknown" = some (some (.ref C)))
    (bU : PySem.W.findIn K (.ref C) "__init__" = some (some (.ref fiU)))
    (iU : PySem.W.isFn K (.ref fiU) = true)
    (lU : K.lookup fiU = some ⟨ocU, odU, .func (PySem.W.fnOf "__init__" "Unknown.__init__" (defArgs sInitU) (defBody sInitU) (defScope sInitU) .none kVU dcU pmU anU cdU ctU), slU⟩)
    (cU : PySem.W.codeIn K cdU "Unknown.__init__" = true)
    (kU : PySem.W.keepIn K (.ref fiU) = true)
    (pgU : PySem.W.plainGet K C Str.empty = true)
    (hdU : PySem.W.hasDictIn K C = true)
    (poU : PySem.W.plainOver K C = true)
    (saU : PySem.W.findIn K (.ref C) "__setattr__" = some (some (.builtin "object.__setattr__")))
    (mkU : PySem.W.makesIn K C = true)
    (kcU : PySem.W.keepIn K (.ref C) = true)
    (n0U : PySem.W.findIn K (.ref C) "stands" = some none)
    (n1U : PySem.W.findIn K (.ref C) "made" = some none)
    {D fiS : Addr} {odS anS : Option Addr} {slS : Array (Option Value)} {ocS kVS dcS pmS cdS ctS : Value}
    (aS : PySem.W.nsIn K mainGlobals "Settled" = some (some (.ref D)))
    (bS : PySem.W.findIn K (.ref D) "__init__" = some (some (.ref fiS)))
    (iS : PySem.W.isFn K (.ref fiS) = true)
    (lS : K.lookup fiS = some ⟨ocS, odS, .func (PySem.W.fnOf "__init__" "Settled.__init__" (defArgs sInitS) (defBody sInitS) (defScope sInitS) .none kVS dcS pmS anS cdS ctS), slS⟩)
    (cS : PySem.W.codeIn K cdS "Settled.__init__" = true)
    (kS : PySem.W.keepIn K (.ref fiS) = true)
    (pgS : PySem.W.plainGet K D Str.empty = true)
    (hdS : PySem.W.hasDictIn K D = true)
    (poS : PySem.W.plainOver K D = true)
    (saS : PySem.W.findIn K (.ref D) "__setattr__" = some (some (.builtin "object.__setattr__")))
    (mkS : PySem.W.makesIn K D = true)
    (kcS : PySem.W.keepIn K (.ref D) = true)
    (n0S : PySem.W.findIn K (.ref D) "number" = some none)
    (n1S : PySem.W.findIn K (.ref D) "stands" = some none)
    (n2S : PySem.W.findIn K (.ref D) "share" = some none)
    (n3S : PySem.W.findIn K (.ref D) "measure" = some none)
    {M : Addr} (eM : PySem.W.nsIn K mainGlobals "MeasureError" = some (some (.ref M)))
    {ecN : Value} {dcN : Option Addr} {vsN : Array Value} {slN : Array (Option Value)} {pt : Addr} (lc : K.lookup cN = some ⟨ecN, dcN, .fields vsN, slN⟩) (v11 : vsN[11]? = some (.ref pt)) (hd : PySem.W.codeHdIn K cN pt = true) (nP : K.lookup pt = none)
    {Nf nU nV nB fiN cc cI : Addr} {nmN qN : Str} {NN : Addr} {bsN : List Value} {snN : List Str} {sbN : List Value} {abN : Bool} {colN : Option Bool} {ddN : Option Addr} {k0N k1N k2N k3N k5N : Option Value}
    {ocF kVF dcF pmF ctF : Value} {odF anF : Option Addr} {slF : Array (Option Value)} {eI eC : Value} {dI dC : Option Addr} {vsI : Array Value} {slI slC : Array (Option Value)} {fileI : Str} {tfI : Tok}
    (eNf : PySem.W.nsIn K mainGlobals "NoFit" = some (some (.ref Nf)))
    (enU : PySem.W.nsIn K mainGlobals "Unlike" = some (some (.ref nU)))
    (enV : PySem.W.nsIn K mainGlobals "NoValue" = some (some (.ref nV)))
    (enB : PySem.W.nsIn K mainGlobals "ByNought" = some (some (.ref nB)))
    (xL : K.lookup Nf = some (excClassObj nmN qN Nf NN bsN [.ref M, .type "ValueError", .type "Exception", .type "BaseException", .type "object"] true snN sbN abN colN ddN k0N k1N k2N k3N k5N "ValueError.__new__"))
    (saN : PySem.W.findIn K (.ref Nf) "__setattr__" = some (some (.builtin "object.__setattr__")))
    (x3 : PySem.W.subIn K (.ref Nf) (.type "BaseException") = some true)
    (x4 : PySem.W.typeIn K (.ref Nf) = some (.type "type"))
    (x2 : PySem.W.keepIn K (.ref Nf) = true)
    (nTi : PySem.W.findIn K (.ref Nf) "times" = some none)
    (nBy : PySem.W.findIn K (.ref Nf) "by" = some none)
    (y1 : PySem.W.findIn K (.ref Nf) "__getattribute__" = some (some (.builtin "BaseException.__getattribute__")))
    (y2 : PySem.W.findIn K (.ref Nf) "__getattr__" = some none)
    (y3 : PySem.W.hasDictIn K Nf = true)
    (y4 : PySem.W.findIn K (.ref Nf) "__class__" = some (some (.builtin "object.__class__")))
    (y5 : PySem.W.specialIn K (.builtin "object.__class__") "__get__" = some (some (.builtin "getset_descriptor.__get__")))
    (y6 : PySem.W.takesIn K (.builtin "object.__class__") = some true)
    (y7 : PySem.W.mroIn K Nf (.type "object") = some true)
    (m1 : PySem.W.subIn K (.ref M) (.type "BaseException") = some true)
    (m2 : PySem.W.hasDictIn K M = true)
    (m3 : PySem.W.typeIn K (.ref M) = some (.type "type"))
    (m4 : PySem.W.subIn K (.ref Nf) (.ref M) = some true)
    (qN1 : PySem.W.kitOne K (.ref Nf) (.ref Nf) = some true)
    (qE1 : PySem.W.kitOne K (.ref Nf) (.type "ValueError") = some true)
    (qnU : PySem.W.kitOne K (.ref Nf) (.ref nU) = some false)
    (qnV : PySem.W.kitOne K (.ref Nf) (.ref nV) = some false)
    (qnB : PySem.W.kitOne K (.ref Nf) (.ref nB) = some false)
    (zE : PySem.W.nsIn K mainGlobals "ValueError" = some none)
    (zS : PySem.W.nsIn K mainGlobals "super" = some none)
    (gG : PySem.W.nsIn K mainGlobals "gcd" = some (some (.builtin "math.gcd")))
    (gL : PySem.W.nsIn K mainGlobals "lcm" = some (some (.builtin "math.lcm")))
    (iF : PySem.W.findIn K (.ref Nf) "__init__" = some (some (.ref fiN)))
    (tF : PySem.W.typeIn K (.ref fiN) = some (.type "function"))
    (lF : K.lookup fiN = some ⟨ocF, odF, .func (PySem.W.fnX "__init__" "NoFit.__init__" (defArgs sInitN) (defBody sInitN) (defScope sInitN) [(("__class__" : Str), cc)] .none kVF dcF pmF anF (.ref cI) ctF), slF⟩)
    (cF : PySem.W.codeIn K (.ref cI) "NoFit.__init__" = true)
    (lI : K.lookup cI = some ⟨eI, dI, .fields vsI, slI⟩)
    (v2I : vsI[2]? = some (.str fileI tfI))
    (hfl : ((l.prog.main.file : Str) == fileI) = true)
    (lC2 : K.lookup cc = some ⟨eC, dC, .cell (some (.ref Nf)), slC⟩)
    (sbC : PySem.W.mroIn K Nf (.ref Nf) = some true)
    (spI : PySem.W.ks_superIn K Nf Nf "__init__" = some (some (.builtin "ValueError.__init__")))
    (bVE : PySem.W.subIn K (.ref Nf) (.type "ValueError") = some true)
    (opq : PySem.W.nsIn K cStatics "thirdparty.any" = some none)
    (tpS : (l.prog.main.scope.names.lookup ("super" : Str)).isSome = false) :
    LamX.LawAtS l w K CX0 7 63 "_law_script" mg fa h := by
  have e := hfa.symm.trans (PySem.W.mg_of X G a36)
  cases e
  have T : Txt l.prog K mg cN C D M Nf := ⟨f0, f1, f2, f3, f4, f5, f6, f7, f8, f9, f10, f11, f12, f13, f14, f15, f16, f17, f18, f19, f20, f21, f22, f23, f24, f25, f26, f27, f28, f29, f30, f31, f32, f33, f34, f35, fiU, fiS, fiN, nU, nV, nB, cc, cI, _, _, _, _, _, _, _, _, _, _, _, _, _, _, _, _, _, _, _, _, _, _, _, _, _, _, _, _, _, _, _, _, _, _, _, _, _, _, _, fun_mk l0 c0 k0, fun_mk l1 c1 k1, fun_mk l2 c2 k2, fun_mk l3 c3 k3, fun_mk l4 c4 k4, fun_mk l5 c5 k5, fun_mk l6 c6 k6, fun_mk l7 c7 k7, fun_mk l8 c8 k8, fun_mk l9 c9 k9, fun_mk l10 c10 k10, fun_mk l11 c11 k11, fun_mk l12 c12 k12, fun_mk l13 c13 k13, fun_mk l14 c14 k14, fun_mk l15 c15 k15, fun_mk l16 c16 k16, fun_mk l17 c17 k17, fun_mk l18 c18 k18, fun_mk l19 c19 k19, fun_mk l20 c20 k20, fun_mk l21 c21 k21, fun_mk l22 c22 k22, ⟨⟨_, _, _, _, _, _, _, _, rfl, l23, c23⟩, k23⟩, fun_mk l24 c24 k24, fun_mk l25 c25 k25, fun_mk l26 c26 k26, fun_mk l27 c27 k27, fun_mk l28 c28 k28, fun_mk l29 c29 k29, fun_mk l30 c30 k30, fun_mk l31 c31 k31, fun_mk l32 c32 k32, fun_mk l33 c33 k33, fun_mk l34 c34 k34, fun_mk l35 c35 k35, PySem.W.mg_of X G a0, PySem.W.mg_of X G a1, PySem.W.mg_of X G a2, PySem.W.mg_of X G a3, PySem.W.mg_of X G a4, PySem.W.mg_of X G a5, PySem.W.mg_of X G a6, PySem.W.mg_of X G a7, PySem.W.mg_of X G a8, PySem.W.mg_of X G a9, PySem.W.mg_of X G a10, PySem.W.mg_of X G a11, PySem.W.mg_of X G a12, PySem.W.mg_of X G a13, PySem.W.mg_of X G a14, PySem.W.mg_of X G a15, PySem.W.mg_of X G a16, PySem.W.mg_of X G a17, PySem.W.mg_of X G a18, PySem.W.mg_of X G a19, PySem.W.mg_of X G a20, PySem.W.mg_of X G a21, PySem.W.mg_of X G a22, PySem.W.mg_of X G a23, PySem.W.mg_of X G a24, PySem.W.mg_of X G a25, PySem.W.mg_of X G a26, PySem.W.mg_of X G a27, PySem.W.mg_of X G a28, PySem.W.mg_of X G a29, PySem.W.mg_of X G a30, PySem.W.mg_of X G a31, PySem.W.mg_of X G a32, PySem.W.mg_of X G a33, PySem.W.mg_of X G a34, PySem.W.mg_of X G a35, PySem.W.mg_none_of X G z0, PySem.W.mg_none_of X G z1, PySem.W.mg_none_of X G z2, PySem.W.mg_none_of X G z3, PySem.W.mg_none_of X G z4, PySem.W.mg_none_of X G z5, PySem.W.mg_none_of X G z6, PySem.W.mg_none_of X G z7, PySem.W.mg_none_of X G z8, PySem.W.mg_none_of X G z9, PySem.W.mg_none_of X G z10, PySem.W.mg_none_of X G z11, PySem.W.mg_none_of X G z12, PySem.W.mg_none_of X G z13, PySem.W.mg_none_of X G z14, PySem.W.mg_none_of X G z15, fun_mk lU cU kU, fun_mk lS cS kS, ⟨mkU, bU, iU, kcU⟩, ⟨mkS, bS, iS, kcS⟩, PySem.W.mg_of X G aU, PySem.W.mg_of X G aS, ⟨⟨pgU, hdU, poU, saU⟩, n0U, n1U⟩, ⟨⟨pgS, hdS, poS, saS⟩, n0S, n1S, n2S, n3S⟩, PySem.W.mg_of X G eM, PySem.W.exm_ref m1 m2 m3 m4, ⟨⟨⟨nmN, qN, NN, bsN, _, snN, sbN, abN, colN, ddN, k0N, k1N, k2N, k3N, k5N, xL, by first | rfl | (simp [PySem.HandSPX.refsVE]; done) | (unfold PySem.HandSPX.refsVE; rfl)⟩, saN, x3, x4, x2⟩, nTi, nBy⟩, ⟨y1, y2, x3, y3⟩, ⟨⟨y1, y2, x3, y3, y4, y5, y6, y7⟩, PySem.W.mg_of X G eNf, PySem.W.mg_of X G enU, PySem.W.mg_of X G enV, PySem.W.mg_of X G enB, PySem.W.mg_none_of X G z3, PySem.W.mg_none_of X G zE, qN1, qE1, qnU, qnV, qnB⟩, ⟨⟨⟨nmN, qN, NN, bsN, _, snN, sbN, abN, colN, ddN, k0N, k1N, k2N, k3N, k5N, xL, by first | rfl | (simp [PySem.HandSPX.refsVE]; done) | (unfold PySem.HandSPX.refsVE; rfl)⟩, saN, x3, x4, x2⟩, ⟨_, _, _, _, _, _, _, _, rfl, lF⟩, cF, rfl, ⟨_, _, _, _, _, _, lI, v2I, hfl⟩, ⟨_, _, _, lC2⟩, sbC, PySem.W.mg_none_of X G zS, spI, bVE, opq, tpS⟩, iF, tF, .all fun us hl => match us, hl with | [_, _, _], _ => rfl, PySem.W.mg_of X G gG, PySem.W.mg_of X G gL⟩
  have FL := fun_mk (st := sLaw) l36 c36 k36
  have eT := OT _ (PySem.W.mg_of X G a23) cN pt _ _ _ _ _ _ l23 rfl rfl lc v11
  refine ⟨PySem.W.fnOf "law" "law" (defArgs sLaw) (defBody sLaw) (defScope sLaw) .none kV36 dc36 pm36 an36 cd36 ct36, [(cN, pt)], spLaw K pt, fun p hp => ?_, fun p hp => ?_, fun p hp => ?_, fun s v => .of_eq rfl, fun H a ns _ _ hc hS => ⟨a, ns, rfl, hS, fun p hp => by rw [List.mem_singleton.mp hp]; exact LamX.TabS.nil (hc (cN, pt) (List.mem_singleton.mpr rfl)), fun _ => rfl⟩, fun base _ _ tb => ?hF⟩
  case hF =>
    have t := tb (cN, pt) (List.mem_singleton.mpr rfl)
    exact ok_law FL T ⟨t.code, t.bm, t.gP⟩
  · rw [List.mem_singleton.mp hp]
    exact eT
  · rw [List.mem_singleton.mp hp]
    exact nP
  · rw [List.mem_singleton.mp hp]
    exact PySem.W.codeHd_of_K X hd
end MK
open PySem PySem.W PyProof.Rows
set_option maxHeartbeats 0 in
theorem PySem.Challenge.cw_measurekind_k09_whole_none_solves_holds : PySem.Challenge.rw_measurekind_k09_whole_none_solves.Holds := by
  w_on; o_law; k_head; (case hw => w_witness2)
  k_fill
  refine MK.walk_nm (l := PySem.Challenge.rw_measurekind_k09_whole_none_solves) (n := 63) (k := 7) (x := "_law_script") (x0 := "_brought_together") (C := fun _ => L2.CX0) rfl (by decide) rfl ⟨rfl, by decide, by decide⟩ (by decide +kernel) (fun w h Y => PySem.W.km_in_of Y) ?F (fun _ _ _ _ _ h => h)
  case F =>
    intro w mg fa h KX G hmg OT
    refine' MK.all_mk KX G hmg OT ?a0 ?l0 ?c0 ?k0 ?a1 ?l1 ?c1 ?k1 ?a2 ?l2 ?c2 ?k2 ?a3 ?l3 ?c3 ?k3 ?a4 ?l4 ?c4 ?k4 ?a5 ?l5 ?c5 ?k5 ?a6 ?l6 ?c6 ?k6 ?a7 ?l7 ?c7 ?k7 ?a8 ?l8 ?c8 ?k8 ?a9 ?l9 ?c9 ?k9 ?a10 ?l10 ?c10 ?k10 ?a11 ?l11 ?c11 ?k11 ?a12 ?l12 ?c12 ?k12 ?a13 ?l13 ?c13 ?k13 ?a14 ?l14 ?c14 ?k14 ?a15 ?l15 ?c15 ?k15 ?a16 ?l16 ?c16 ?k16 ?a17 ?l17 ?c17 ?k17 ?a18 ?l18 ?c18 ?k18 ?a19 ?l19 ?c19 ?k19 ?a20 ?l20 ?c20 ?k20 ?a21 ?l21 ?c21 ?k21 ?a22 ?l22 ?c22 ?k22 ?a23 ?l23 ?c23 ?k23 ?a24 ?l24 ?c24 ?k24 ?a25 ?l25 ?c25 ?k25 ?a26 ?l26 ?c26 ?k26 ?a27 ?l27 ?c27 ?k27 ?a28 ?l28 ?c28 ?k28 ?a29 ?l29 ?c29 ?k29 ?a30 ?l30 ?c30 ?k30 ?a31 ?l31 ?c31 ?k31 ?a32 ?l32 ?c32 ?k32 ?a33 ?l33 ?c33 ?k33 ?a34 ?l34 ?c34 ?k34 ?a35 ?l35 ?c35 ?k35 ?a36 ?l36 ?c36 ?k36 ?z0 ?z1 ?z2 ?z3 ?z4 ?z5 ?z6 ?z7 ?z8 ?z9 ?z10 ?z11 ?z12 ?z13 ?z14 ?z15 ?aU ?bU ?iU ?lU ?cU ?kU ?pgU ?hdU ?poU ?saU ?mkU ?kcU ?n0U ?n1U ?aS ?bS ?iS ?lS ?cS ?kS ?pgS ?hdS ?poS ?saS ?mkS ?kcS ?n0S ?n1S ?n2S ?n3S ?eM ?lc ?v11 ?hd ?nP ?eNf ?enU ?enV ?enB ?xL ?saN ?x3 ?x4 ?x2 ?nTi ?nBy ?y1 ?y2 ?y3 ?y4 ?y5 ?y6 ?y7 ?m1 ?m2 ?m3 ?m4 ?qN1 ?qE1 ?qnU ?qnV ?qnB ?zE ?zS ?gG ?gL ?iF ?tF ?lF ?cF ?lI ?v2I ?hfl ?lC2 ?sbC ?spI ?bVE ?opq ?tpS
    (case a0 => k_is)
    (case l0 => k_is)
    (case c0 => k_is)
    (case k0 => k_is)
    (case a1 => k_is)
    (case l1 => k_is)
    (case c1 => k_is)
    (case k1 => k_is)
    (case a2 => k_is)
    (case l2 => k_is)
    (case c2 => k_is)
    (case k2 => k_is)
    (case a3 => k_is)
    (case l3 => k_is)
    (case c3 => k_is)
    (case k3 => k_is)
    (case a4 => k_is)
    (case l4 => k_is)
    (case c4 => k_is)
    (case k4 => k_is)
    (case a5 => k_is)
    (case l5 => k_is)
    (case c5 => k_is)
    (case k5 => k_is)
    (case a6 => k_is)
    (case l6 => k_is)
    (case c6 => k_is)
    (case k6 => k_is)
    (case a7 => k_is)
    (case l7 => k_is)
    (case c7 => k_is)
    (case k7 => k_is)
    (case a8 => k_is)
    (case l8 => k_is)
    (case c8 => k_is)
    (case k8 => k_is)
    (case a9 => k_is)
    (case l9 => k_is)
    (case c9 => k_is)
    (case k9 => k_is)
    (case a10 => k_is)
    (case l10 => k_is)
    (case c10 => k_is)
    (case k10 => k_is)
    (case a11 => k_is)
    (case l11 => k_is)
    (case c11 => k_is)
    (case k11 => k_is)
    (case a12 => k_is)
    (case l12 => k_is)
    (case c12 => k_is)
    (case k12 => k_is)
    (case a13 => k_is)
    (case l13 => k_is)
    (case c13 => k_is)
    (case k13 => k_is)
    (case a14 => k_is)
    (case l14 => k_is)
    (case c14 => k_is)
    (case k14 => k_is)
    (case a15 => k_is)
    (case l15 => k_is)
    (case c15 => k_is)
    (case k15 => k_is)
    (case a16 => k_is)
    (case l16 => k_is)
    (case c16 => k_is)
    (case k16 => k_is)
    (case a17 => k_is)
    (case l17 => k_is)
    (case c17 => k_is)
    (case k17 => k_is)
    (case a18 => k_is)
    (case l18 => k_is)
    (case c18 => k_is)
    (case k18 => k_is)
    (case a19 => k_is)
    (case l19 => k_is)
    (case c19 => k_is)
    (case k19 => k_is)
    (case a20 => k_is)
    (case l20 => k_is)
    (case c20 => k_is)
    (case k20 => k_is)
    (case a21 => k_is)
    (case l21 => k_is)
    (case c21 => k_is)
    (case k21 => k_is)
    (case a22 => k_is)
    (case l22 => k_is)
    (case c22 => k_is)
    (case k22 => k_is)
    (case a23 => k_is)
    (case l23 => k_is)
    (case c23 => k_is)
    (case k23 => k_is)
    (case a24 => k_is)
    (case l24 => k_is)
    (case c24 => k_is)
    (case k24 => k_is)
    (case a25 => k_is)
    (case l25 => k_is)
    (case c25 => k_is)
    (case k25 => k_is)
    (case a26 => k_is)
    (case l26 => k_is)
    (case c26 => k_is)
    (case k26 => k_is)
    (case a27 => k_is)
    (case l27 => k_is)
    (case c27 => k_is)
    (case k27 => k_is)
    (case a28 => k_is)
    (case l28 => k_is)
    (case c28 => k_is)
    (case k28 => k_is)
    (case a29 => k_is)
    (case l29 => k_is)
    (case c29 => k_is)
    (case k29 => k_is)
    (case a30 => k_is)
    (case l30 => k_is)
    (case c30 => k_is)
    (case k30 => k_is)
    (case a31 => k_is)
    (case l31 => k_is)
    (case c31 => k_is)
    (case k31 => k_is)
    (case a32 => k_is)
    (case l32 => k_is)
    (case c32 => k_is)
    (case k32 => k_is)
    (case a33 => k_is)
    (case l33 => k_is)
    (case c33 => k_is)
    (case k33 => k_is)
    (case a34 => k_is)
    (case l34 => k_is)
    (case c34 => k_is)
    (case k34 => k_is)
    (case a35 => k_is)
    (case l35 => k_is)
    (case c35 => k_is)
    (case k35 => k_is)
    (case a36 => k_is)
    (case l36 => k_is)
    (case c36 => k_is)
    (case k36 => k_is)
    (case z0 => k_is)
    (case z1 => k_is)
    (case z2 => k_is)
    (case z3 => k_is)
    (case z4 => k_is)
    (case z5 => k_is)
    (case z6 => k_is)
    (case z7 => k_is)
    (case z8 => k_is)
    (case z9 => k_is)
    (case z10 => k_is)
    (case z11 => k_is)
    (case z12 => k_is)
    (case z13 => k_is)
    (case z14 => k_is)
    (case z15 => k_is)
    (case aU => k_is)
    (case bU => k_is)
    (case iU => k_is)
    (case lU => k_is)
    (case cU => k_is)
    (case kU => k_is)
    (case pgU => k_is)
    (case hdU => k_is)
    (case poU => k_is)
    (case saU => k_is)
    (case mkU => k_is)
    (case kcU => k_is)
    (case n0U => k_is)
    (case n1U => k_is)
    (case aS => k_is)
    (case bS => k_is)
    (case iS => k_is)
    (case lS => k_is)
    (case cS => k_is)
    (case kS => k_is)
    (case pgS => k_is)
    (case hdS => k_is)
    (case poS => k_is)
    (case saS => k_is)
    (case mkS => k_is)
    (case kcS => k_is)
    (case n0S => k_is)
    (case n1S => k_is)
    (case n2S => k_is)
    (case n3S => k_is)
    (case eM => k_is)
    (case lc => k_is)
    (case v11 => rfl)
    (case hd => rfl)
    (case nP => rfl)
    (case eNf => k_is)
    (case enU => k_is)
    (case enV => k_is)
    (case enB => k_is)
    (case xL => k_is)
    (case saN => k_is)
    (case x3 => k_is)
    (case x4 => k_is)
    (case x2 => k_is)
    (case nTi => k_is)
    (case nBy => k_is)
    (case y1 => k_is)
    (case y2 => k_is)
    (case y3 => k_is)
    (case y4 => k_is)
    (case y5 => k_is)
    (case y6 => k_is)
    (case y7 => k_is)
    (case m1 => k_is)
    (case m2 => k_is)
    (case m3 => k_is)
    (case m4 => k_is)
    (case qN1 => kit_is)
    (case qE1 => kit_is)
    (case qnU => kit_is)
    (case qnV => kit_is)
    (case qnB => kit_is)
    (case zE => k_is)
    (case zS => k_is)
    (case gG => k_is)
    (case gL => k_is)
    (case iF => k_is)
    (case tF => k_is)
    (case lF => k_is)
    (case cF => k_is)
    (case lI => k_is)
    (case v2I => rfl)
    (case hfl => first | rfl | decide +kernel | kernel_rfl)
    (case lC2 => k_is)
    (case sbC => k_is)
    (case spI => ks_is)
    (case bVE => k_is)
    (case opq => k_is)
    (case tpS => first | rfl | decide +kernel | kernel_rfl)


