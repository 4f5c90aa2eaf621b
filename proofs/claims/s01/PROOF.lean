import PyProof.Rows.All
import Wide.All
import OpenK.AllK
import Wide.FinOn
import Open.SpecLaws
import KE.OsGo
import HandS.ForSpec
import HandS.Comp
import HandS.Dict
import HandS.Iter
import HandS.WordsDict
import HandS.TryMany
import HandS.CallSlots
import HandS.Zip
import HandS.SortInts
import HandS.Wide
import HandS.More
import HandS.SortKw
import HandS.Lambda
import HandS.Nested
import KE.SortKeyHeap
import PySem.Challenge.RW_jetblocks_s01_answers
namespace JM
/-- the candidate of a row and a column -/
def cand (b r c : Int) : List Int := if (0 ≤ c ∧ c < 32) ∧ ¬ r % 32 * 32 + c = b then [r % 32 * 32 + c] else []
def rowPart (b r : Int) : List Int := [b % 32 - 1, b % 32, b % 32 + 1].flatMap (cand b r)
def near (b : Int) : List Int := [b / 32 - 1, b / 32, b / 32 + 1].flatMap (rowPart b)
def nbs (b : Nat) : List Int := (Sj24.about b).map Int.ofNat
theorem mem_cand {b r c x : Int} : x ∈ cand b r c ↔ (0 ≤ c ∧ c < 32) ∧ ¬ x = b ∧ x = r % 32 * 32 + c := by
  unfold cand
  split
  · rename_i h
    simp only [List.mem_singleton]
    constructor
    · rintro rfl
      exact ⟨h.1, h.2, rfl⟩
    · rintro ⟨_, _, e⟩
      exact e
  · rename_i h
    simp only [List.not_mem_nil, false_iff]
    rintro ⟨h1, h2, rfl⟩
    exact h ⟨h1, h2⟩
theorem mem_near {b x : Int} : x ∈ near b ↔ ∃ r c, (r = b / 32 - 1 ∨ r = b / 32 ∨ r = b / 32 + 1) ∧ (c = b % 32 - 1 ∨ c = b % 32 ∨ c = b % 32 + 1) ∧ (0 ≤ c ∧ c < 32) ∧ ¬ x = b ∧ x = r % 32 * 32 + c := by
  unfold near rowPart
  simp only [List.mem_flatMap, List.mem_cons, List.not_mem_nil, or_false, mem_cand]
  constructor
  · rintro ⟨r, hr, c, hc, h⟩
    exact ⟨r, c, hr, hc, h⟩
  · rintro ⟨r, c, hr, hc, h⟩
    exact ⟨r, hr, c, hc, h⟩
theorem mem_about {b n : Nat} : n ∈ Sj24.about b ↔ n < 1024 ∧ n ≠ b ∧ ((n / 32 + 32 - b / 32) % 32 = 0 ∨ (n / 32 + 32 - b / 32) % 32 = 1 ∨ (n / 32 + 32 - b / 32) % 32 = 31) ∧ ((n % 32 : Nat) : Int) - ((b % 32 : Nat) : Int) ≤ 1 ∧ ((b % 32 : Nat) : Int) - ((n % 32 : Nat) : Int) ≤ 1 := by
  unfold Sj24.about
  simp only [List.mem_filter, List.mem_range, Bool.and_eq_true, Bool.or_eq_true, bne_iff_ne, beq_iff_eq, decide_eq_true_eq]
  show (n < 1024 ∧ n ≠ b ∧ (((n / 32 + 32 - b / 32) % 32 = 0 ∨ (n / 32 + 32 - b / 32) % 32 = 1) ∨ (n / 32 + 32 - b / 32) % 32 = 31) ∧ ((n : Int) % 32 - ((b % 32 : Nat) : Int) ≤ 1 ∧ ((b % 32 : Nat) : Int) - (n : Int) % 32 ≤ 1)) ↔ _
  constructor
  · rintro ⟨h1, h2, h3, h4⟩
    refine ⟨h1, h2, ?_, ?_⟩ <;> omega
  · rintro ⟨h1, h2, h3, h4⟩
    refine ⟨h1, h2, ?_, ?_⟩ <;> omega
theorem near_iff {b : Nat} (hb : b < 1024) (x : Int) : x ∈ near b ↔ x ∈ nbs b := by
  unfold nbs
  rw [mem_near, List.mem_map]
  constructor
  · rintro ⟨r, c, hr, hc, h1, h2, h3⟩
    refine ⟨x.toNat, mem_about.mpr ?_, ?_⟩
    · rcases hr with rfl | rfl | rfl <;> rcases hc with rfl | rfl | rfl <;> (refine ⟨?_, ?_, ?_, ?_, ?_⟩ <;> omega)
    · show ((x.toNat : Nat) : Int) = x
      omega
  · rintro ⟨n, hn, rfl⟩
    obtain ⟨h1, h2, h3, h4, h5⟩ := mem_about.mp hn
    refine ⟨if (n / 32 + 32 - b / 32) % 32 = 0 then (b : Int) / 32 else if (n / 32 + 32 - b / 32) % 32 = 1 then (b : Int) / 32 + 1 else (b : Int) / 32 - 1, (n % 32 : Nat), ?_, ?_, ?_, ?_, ?_⟩
    · split
      · omega
      · split <;> omega
    · omega
    · omega
    · show ¬ (n : Int) = b
      omega
    · show (n : Int) = _
      split
      · omega
      · split <;> omega
theorem near_nodup {b : Nat} : (near b).Nodup := by
  show (near b).Pairwise (· ≠ ·)
  unfold near
  rw [List.pairwise_flatMap]
  refine ⟨fun r _ => ?_, ?_⟩
  · unfold rowPart
    rw [List.pairwise_flatMap]
    refine ⟨fun c _ => ?_, ?_⟩
    · unfold cand
      split <;> simp
    · simp only [List.pairwise_cons, List.mem_cons, List.not_mem_nil, or_false, false_implies, implies_true, List.Pairwise.nil, and_true]
      refine ⟨?_, ?_⟩
      · rintro c (rfl | rfl) x hx y hy e
        · have h1 := mem_cand.mp hx
          have h2 := mem_cand.mp hy
          omega
        · have h1 := mem_cand.mp hx
          have h2 := mem_cand.mp hy
          omega
      · rintro c rfl x hx y hy e
        have h1 := mem_cand.mp hx
        have h2 := mem_cand.mp hy
        omega
  · have key : ∀ r x, x ∈ rowPart b r → x / 32 = r % 32 := fun r x hx => by
      unfold rowPart at hx
      obtain ⟨c, _, h⟩ := List.mem_flatMap.mp hx
      have h1 := mem_cand.mp h
      omega
    simp only [List.pairwise_cons, List.mem_cons, List.not_mem_nil, or_false, false_implies, implies_true, List.Pairwise.nil, and_true]
    refine ⟨?_, ?_⟩
    · rintro c (rfl | rfl) x hx y hy e
      · have h1 := key _ _ hx
        have h2 := key _ _ hy
        omega
      · have h1 := key _ _ hx
        have h2 := key _ _ hy
        omega
    · rintro c rfl x hx y hy e
      have h1 := key _ _ hx
      have h2 := key _ _ hy
      omega
theorem about_sorted (b : Nat) : (Sj24.about b).Pairwise (· < ·) := by
  unfold Sj24.about
  exact List.Pairwise.filter _ List.pairwise_lt_range
theorem nbs_sorted (b : Nat) : (nbs b).Pairwise (· < ·) := by
  unfold nbs
  rw [List.pairwise_map]
  exact (about_sorted b).imp fun h => Int.ofNat_lt.mpr h
/-- two lists in order with the same members -/
theorem sorted_ext : ∀ {l m : List Int}, l.Pairwise (· < ·) → m.Pairwise (· < ·) → (∀ x, x ∈ l ↔ x ∈ m) → l = m
  | [], [], _, _, _ => rfl
  | [], y :: m, _, _, h => absurd ((h y).mpr List.mem_cons_self) (by simp)
  | x :: l, [], _, _, h => absurd ((h x).mp List.mem_cons_self) (by simp)
  | x :: l, y :: m, hl, hm, h => by
    obtain ⟨a1, a2⟩ := List.pairwise_cons.mp hl
    obtain ⟨b1, b2⟩ := List.pairwise_cons.mp hm
    have e : x = y := by
      rcases List.mem_cons.mp ((h x).mp List.mem_cons_self) with e | e
      · exact e
      · rcases List.mem_cons.mp ((h y).mpr List.mem_cons_self) with e' | e'
        · exact e'.symm
        · have := b1 _ e
          have := a1 _ e'
          omega
    subst e
    rw [sorted_ext a2 b2 fun z => ?_]
    constructor
    · intro hz
      rcases List.mem_cons.mp ((h z).mp (List.mem_cons_of_mem _ hz)) with e | e
      · have := a1 _ hz
        omega
      · exact e
    · intro hz
      rcases List.mem_cons.mp ((h z).mpr (List.mem_cons_of_mem _ hz)) with e | e
      · have := b1 _ hz
        omega
      · exact e
theorem strict_of {l : List Int} (h : l.Pairwise (· ≤ ·)) (n : l.Nodup) : l.Pairwise (· < ·) :=
  (List.Pairwise.and h n).imp fun {a b} ⟨h1, h2⟩ => by omega
/-- what sorted gives of the candidates -/
theorem near_sorted {b : Nat} (hb : b < 1024) {ns : List Int} (hp : ns.Perm (near b)) (hs : ns.Pairwise (· ≤ ·)) : ns = nbs b :=
  sorted_ext (strict_of hs (hp.nodup_iff.mpr near_nodup)) (nbs_sorted b) fun x => (hp.mem_iff).trans (near_iff hb x)
theorem cand_length (b r c : Int) : (cand b r c).length ≤ 1 := by
  unfold cand
  split <;> simp
theorem rowPart_length (b r : Int) : (rowPart b r).length ≤ 3 := by
  unfold rowPart
  simp only [List.flatMap_cons, List.flatMap_nil, List.append_nil, List.length_append]
  have h1 := cand_length b r (b % 32 - 1)
  have h2 := cand_length b r (b % 32)
  have h3 := cand_length b r (b % 32 + 1)
  omega
end JM
namespace JM
theorem sum_bound {B : Int} : ∀ (l : List Int), (∀ x ∈ l, -B ≤ x ∧ x ≤ B) → -(B * l.length) ≤ Sj24.sum l ∧ Sj24.sum l ≤ B * l.length
  | [], _ => by simp [Sj24.sum]
  | a :: l, h => by
    have h1 := h a List.mem_cons_self
    have h2 := sum_bound l fun x hx => h x (List.mem_cons_of_mem _ hx)
    have e : Sj24.sum (a :: l) = a + Sj24.sum l := rfl
    have e2 : B * ((a :: l).length : Int) = B * l.length + B := by
      rw [List.length_cons]
      show B * ((l.length + 1 : Nat) : Int) = _
      rw [Int.natCast_add, Int.mul_add, show B * ((1 : Nat) : Int) = B from Int.mul_one B]
    rw [e, e2]
    omega
theorem sum_nonneg : ∀ (l : List Int), (∀ x ∈ l, 0 ≤ x) → 0 ≤ Sj24.sum l
  | [], _ => by simp [Sj24.sum]
  | a :: l, h => by
    have h1 := h a List.mem_cons_self
    have h2 := sum_nonneg l fun x hx => h x (List.mem_cons_of_mem _ hx)
    have e : Sj24.sum (a :: l) = a + Sj24.sum l := rfl
    omega
theorem mul_bound {a b A B : Int} (ha : -A ≤ a ∧ a ≤ A) (hb : -B ≤ b ∧ b ≤ B) (hA : 0 ≤ A) (hB : 0 ≤ B) : -(A * B) ≤ a * b ∧ a * b ≤ A * B := by
  have h : (a * b).natAbs ≤ A.natAbs * B.natAbs := by
    rw [Int.natAbs_mul]
    exact Nat.mul_le_mul (by omega) (by omega)
  have e : ((A.natAbs * B.natAbs : Nat) : Int) = A * B := by
    rw [Int.natCast_mul, Int.natAbs_of_nonneg hA, Int.natAbs_of_nonneg hB]
  omega
/-- what the specification weighs with -/
def wsum (ws ss : List Int) (z : Int) : Int := Sj24.sum ((ws.zip (ss.map fun x => x - z)).map fun p => p.1 * p.2)
theorem wsum_bound {ws ss : List Int} {z : Int} (lw : ws.length = 8) (ls : ss.length = 8) (hw : ∀ x ∈ ws, -32768 ≤ x ∧ x ≤ 32767) (hs : ∀ x ∈ ss, 0 ≤ x ∧ x ≤ 4095) (hz : 0 ≤ z ∧ z ≤ 4095) : -1073479680 ≤ wsum ws ss z ∧ wsum ws ss z ≤ 1073479680 := by
  have h := sum_bound (B := 32768 * 4095) ((ws.zip (ss.map fun x => x - z)).map fun p => p.1 * p.2) fun x hx => by
    obtain ⟨⟨a, b⟩, hp, rfl⟩ := List.mem_map.mp hx
    obtain ⟨ha, hb⟩ := List.of_mem_zip hp
    obtain ⟨s, hs', rfl⟩ := List.mem_map.mp hb
    have h1 := hw a ha
    have h2 := hs s hs'
    exact mul_bound (A := 32768) (B := 4095) ⟨by omega, by omega⟩ ⟨by omega, by omega⟩ (by decide) (by decide)
  have e : ((ws.zip (ss.map fun x => x - z)).map fun p => p.1 * p.2).length = 8 := by simp [lw, ls]
  rw [e] at h
  unfold wsum
  omega
/-- weighed, by what it looks at -/
def wei (ws vs : List Int) (g : Sj24.Gain) (ss : List Int) : Sj24.Block :=
  if wsum ws ss g.zero ≤ 0 then ⟨0, 0, ss.any fun x => x == 4095⟩
  else ⟨min Sj24.MOST (wsum ws ss g.zero * g.mul / 2 ^ g.shift), max (-32768) (min 32767 (Sj24.nearest (256 * wsum vs ss g.zero) (wsum ws ss g.zero))), ss.any fun x => x == 4095⟩
theorem weighed_is (h : Sj24.House) (g : Sj24.Gain) (ss : List Int) : Sj24.weighed h g ss = wei h.w h.v g ss := rfl
def BlockOk (r : Sj24.Block) : Prop := 0 ≤ r.e ∧ r.e ≤ 1099511627776 ∧ -32768 ≤ r.time ∧ r.time ≤ 32767
theorem two_pow_pos (n : Nat) : (0 : Int) < 2 ^ n := by
  induction n with
  | zero => decide
  | succ n ih =>
    rw [Int.pow_succ]
    omega
theorem wei_ok (ws vs : List Int) (g : Sj24.Gain) (ss : List Int) (hm : 0 ≤ g.mul) : BlockOk (wei ws vs g ss) := by
  unfold wei
  split
  · exact ⟨by show (0 : Int) ≤ 0; omega, by show (0 : Int) ≤ _; omega, by show (-32768 : Int) ≤ 0; omega, by show (0 : Int) ≤ _; omega⟩
  · rename_i h
    have e : Sj24.MOST = 1099511627776 := by decide
    have h1 : 0 ≤ wsum ws ss g.zero * g.mul / 2 ^ g.shift := Int.ediv_nonneg (Int.mul_nonneg (by omega) hm) (Int.le_of_lt (two_pow_pos _))
    refine ⟨?_, ?_, ?_, ?_⟩
    · show 0 ≤ min Sj24.MOST (wsum ws ss g.zero * g.mul / 2 ^ g.shift)
      rw [e]
      omega
    · show min Sj24.MOST (wsum ws ss g.zero * g.mul / 2 ^ g.shift) ≤ _
      rw [e]
      omega
    · show -32768 ≤ max (-32768) (min 32767 (Sj24.nearest (256 * wsum vs ss g.zero) (wsum ws ss g.zero)))
      omega
    · show max (-32768) (min 32767 (Sj24.nearest (256 * wsum vs ss g.zero) (wsum ws ss g.zero))) ≤ 32767
      omega
end JM
namespace JM
open Sj24
/-! ### seeds and owners -/
theorem lt_of_seeds {h : House} {s : Nat} (m : s ∈ seeds h) : s < 1024 := by
  unfold seeds at m
  exact List.mem_range.mp (List.mem_filter.mp m).1
theorem seeds_sorted (h : House) : (seeds h).Pairwise (· < ·) := by
  unfold seeds
  exact List.Pairwise.filter _ List.pairwise_lt_range
theorem seeds_nodup (h : House) : (seeds h).Nodup := (seeds_sorted h).imp fun h => Nat.ne_of_lt h
theorem about_nodup (b : Nat) : (about b).Nodup := (about_sorted b).imp fun h => Nat.ne_of_lt h
theorem lt_of_about {b n : Nat} (m : n ∈ about b) : n < 1024 := (mem_about.mp m).1
theorem about_symm {b n : Nat} (hb : b < 1024) (m : n ∈ about b) : b ∈ about n := by
  obtain ⟨h1, h2, h3, h4, h5⟩ := mem_about.mp m
  refine mem_about.mpr ⟨hb, fun e => h2 e.symm, ?_, h5, h4⟩
  omega
theorem about_length {b : Nat} (hb : b < 1024) : (about b).length ≤ 9 := by
  have e : ((near b).mergeSort (· ≤ ·)) = nbs b := near_sorted hb (List.mergeSort_perm _ _) (by
    have := List.pairwise_mergeSort (le := fun (a b : Int) => decide (a ≤ b)) (by intro a b c; simp; omega) (by intro a b; simp; omega) (near b)
    exact this.imp fun h => by simpa using h)
  have h2 : (nbs b).length = (about b).length := by unfold nbs; rw [List.length_map]
  rw [← h2, ← e, List.length_mergeSort]
  have hr := rowPart_length b
  unfold near
  simp only [List.flatMap_cons, List.flatMap_nil, List.append_nil, List.length_append]
  have h1 := hr (b / 32 - 1)
  have h2 := hr (b / 32)
  have h3 := hr (b / 32 + 1)
  omega
theorem seed_e {h : House} {s : Nat} (m : s ∈ seeds h) : h.seed ≤ h.e s := by
  unfold seeds at m
  have q := (List.mem_filter.mp m).2
  unfold isSeed at q
  rw [Bool.and_eq_true] at q
  exact of_decide_eq_true q.1
theorem owners_sub {h : House} {b o : Nat} (m : o ∈ owners h (seeds h) b) : o ∈ seeds h := by
  unfold owners at m
  split at m
  · rename_i c
    rw [List.mem_singleton.mp m]
    exact List.contains_iff_mem.mp c
  · split at m
    · simp at m
    · exact List.contains_iff_mem.mp (List.mem_filter.mp m).2
theorem owners_near {h : House} {b o : Nat} (hb : b < 1024) (m : o ∈ owners h (seeds h) b) : b = o ∨ b ∈ about o := by
  unfold owners at m
  split at m
  · exact .inl (List.mem_singleton.mp m).symm
  · split at m
    · simp at m
    · exact .inr (about_symm hb (List.mem_filter.mp m).1)
theorem owners_nodup (h : House) (b : Nat) : (owners h (seeds h) b).Nodup := by
  unfold owners
  split
  · simp
  · split
    · simp
    · exact (about_nodup b).filter _
theorem owners_length {h : House} {b : Nat} (hb : b < 1024) : (owners h (seeds h) b).length ≤ 9 := by
  unfold owners
  split
  · simp
  · split
    · simp
    · exact Nat.le_trans (List.length_filter_le _ _) (about_length hb)
theorem owners_self {h : House} {k : Nat} (m : k ∈ seeds h) : owners h (seeds h) k = [k] := by
  unfold owners
  rw [if_pos (List.contains_iff_mem.mpr m)]
/-! ### the division -/
def shares (e : Int) (ns : List Int) : List Int := ns.map fun o => e * o / sum ns
/-- j is the first place of a greatest one -/
def FirstMax (ns : List Int) (j : Nat) : Prop := ∃ m, ns[j]? = some m ∧ (∀ y ∈ ns, y ≤ m) ∧ ∀ (i : Nat) (z : Int), i < j → ns[i]? = some z → z ≠ m
def dv (e : Int) (ns : List Int) (j : Nat) : List Int := (shares e ns).set j ((shares e ns).getD j 0 + (e - sum (shares e ns)))
theorem firstMax_uniq {ns : List Int} {i j : Nat} (a : FirstMax ns i) (b : FirstMax ns j) : i = j := by
  obtain ⟨m, h1, h2, h3⟩ := a
  obtain ⟨n, g1, g2, g3⟩ := b
  have e : m = n := Int.le_antisymm (g2 _ (List.mem_of_getElem? h1)) (h2 _ (List.mem_of_getElem? g1))
  subst e
  rcases Nat.lt_trichotomy i j with c | c | c
  · exact absurd rfl (g3 i m c h1)
  · exact c
  · exact absurd rfl (h3 j m c g1)
theorem fold_max (e : Nat → Int) : ∀ (r : List Nat) (a : Nat), (r.foldl (fun a b => if e a < e b then b else a) a = a ∧ ∀ y ∈ r, e y ≤ e a) ∨
    ∃ i : Nat, r[i]? = some (r.foldl (fun a b => if e a < e b then b else a) a) ∧ e a < e (r.foldl (fun a b => if e a < e b then b else a) a) ∧ (∀ y ∈ r, e y ≤ e (r.foldl (fun a b => if e a < e b then b else a) a)) ∧
      ∀ (j z : Nat), j < i → r[j]? = some z → e z < e (r.foldl (fun a b => if e a < e b then b else a) a)
  | [], a => .inl ⟨rfl, by simp⟩
  | x :: r, a => by
    rw [List.foldl_cons]
    by_cases c : e a < e x
    · rw [if_pos c]
      rcases fold_max e r x with ⟨h1, h2⟩ | ⟨i, h1, h2, h3, h4⟩
      · right
        refine ⟨0, by rw [h1]; rfl, by rw [h1]; exact c, ?_, fun j z hj => absurd hj (by omega)⟩
        rw [h1]
        intro y hy
        rcases List.mem_cons.mp hy with e1 | hy
        · rw [e1]
          omega
        · exact h2 y hy
      · right
        refine ⟨i + 1, h1, by omega, ?_, ?_⟩
        · intro y hy
          rcases List.mem_cons.mp hy with e1 | hy
          · rw [e1]
            omega
          · exact h3 y hy
        · intro j z hj hz
          cases j with
          | zero =>
            have e1 : x = z := Option.some.inj hz
            rw [← e1]
            exact h2
          | succ j => exact h4 j z (by omega) hz
    · rw [if_neg c]
      rcases fold_max e r a with ⟨h1, h2⟩ | ⟨i, h1, h2, h3, h4⟩
      · left
        refine ⟨h1, ?_⟩
        intro y hy
        rcases List.mem_cons.mp hy with e1 | hy
        · rw [e1]
          omega
        · exact h2 y hy
      · right
        refine ⟨i + 1, h1, h2, ?_, ?_⟩
        · intro y hy
          rcases List.mem_cons.mp hy with e1 | hy
          · rw [e1]
            omega
          · exact h3 y hy
        · intro j z hj hz
          cases j with
          | zero =>
            have e1 : x = z := Option.some.inj hz
            rw [← e1]
            omega
          | succ j => exact h4 j z (by omega) hz
theorem greatest_first {h : House} {l : List Nat} (ne : l ≠ []) : ∃ j : Nat, l[j]? = some (greatest h l) ∧ FirstMax (l.map h.e) j := by
  cases l with
  | nil => exact absurd rfl ne
  | cons x r =>
    have e0 : greatest h (x :: r) = r.foldl (fun a b => if h.e a < h.e b then b else a) x := by
      unfold greatest
      rw [List.headD_cons, List.foldl_cons]
      simp
    rcases fold_max h.e r x with ⟨h1, h2⟩ | ⟨i, h1, h2, h3, h4⟩
    · refine ⟨0, by rw [e0, h1]; rfl, h.e x, rfl, ?_, fun i z hi => absurd hi (by omega)⟩
      intro y hy
      obtain ⟨n, hn, rfl⟩ := List.mem_map.mp hy
      rcases List.mem_cons.mp hn with e1 | hn
      · rw [e1]
        exact Int.le_refl _
      · exact h2 n hn
    · rw [← e0] at h1 h2 h3 h4
      refine ⟨i + 1, h1, h.e (greatest h (x :: r)), by rw [List.getElem?_map]; show (r[i]?).map h.e = _; rw [h1]; rfl, ?_, ?_⟩
      · intro y hy
        obtain ⟨n, hn, rfl⟩ := List.mem_map.mp hy
        rcases List.mem_cons.mp hn with e1 | hn
        · rw [e1]
          omega
        · exact h3 n hn
      · intro j z hj hz
        cases j with
        | zero =>
          have e1 : h.e x = z := Option.some.inj hz
          omega
        | succ j =>
          rw [List.getElem?_map] at hz
          obtain ⟨n, hn, e1⟩ := Option.map_eq_some_iff.mp hz
          have := h4 j n (by omega) hn
          omega
end JM
namespace JM
open Sj24
theorem parted_is {h : House} {l : List Nat} (nd : l.Nodup) (b : Nat) {j : Nat} (fm : FirstMax (l.map h.e) j) : parted h l b = l.zip (dv (h.e b) (l.map h.e) j) := by
  have ne : l ≠ [] := by
    rintro rfl
    obtain ⟨m, h1, _⟩ := fm
    simp at h1
  obtain ⟨j', hj, fm'⟩ := greatest_first (h := h) ne
  have ej : j' = j := firstMax_uniq fm' fm
  subst ej
  have e1 : (l.map fun s => (s, h.e b * h.e s / sum (l.map h.e))).map (fun x => x.2) = shares (h.e b) (l.map h.e) := by
    unfold shares
    rw [List.map_map, List.map_map]
    rfl
  have e2 : parted h l b = l.map fun s => if s = greatest h l then (s, h.e b * h.e s / sum (l.map h.e) + (h.e b - sum (shares (h.e b) (l.map h.e)))) else (s, h.e b * h.e s / sum (l.map h.e)) := by
    unfold parted
    rw [← e1, List.map_map]
    rfl
  rw [e2]
  have hjl : j' < l.length := (List.getElem?_eq_some_iff.mp hj).1
  apply List.ext_getElem?
  intro i
  have sl : (shares (h.e b) (l.map h.e)).length = l.length := by unfold shares; simp
  have dl : (dv (h.e b) (l.map h.e) j').length = l.length := by unfold dv; rw [List.length_set, sl]
  by_cases hi : i < l.length
  · have hs : l[i]? = some l[i] := List.getElem?_eq_getElem hi
    have hsh : (shares (h.e b) (l.map h.e))[i]? = some (h.e b * h.e l[i] / sum (l.map h.e)) := by
      unfold shares
      rw [List.getElem?_map, List.getElem?_map, hs]
      rfl
    rw [List.getElem?_map, hs]
    show some (if l[i] = greatest h l then (l[i], h.e b * h.e l[i] / sum (l.map h.e) + (h.e b - sum (shares (h.e b) (l.map h.e)))) else (l[i], h.e b * h.e l[i] / sum (l.map h.e))) = _
    symm
    rw [List.getElem?_zip_eq_some]
    refine ⟨?_, ?_⟩
    · split <;> exact hs
    · unfold dv
      by_cases c : i = j'
      · subst c
        have g : l[i] = greatest h l := Option.some.inj (hs.symm.trans hj)
        rw [if_pos g, List.getElem?_set_self (by omega)]
        rw [List.getD_eq_getElem?_getD, hsh]
        rfl
      · have g : ¬ l[i] = greatest h l := fun g => c (by
          have q : l[i]? = l[j']? := by rw [hs, hj, g]
          rw [List.getElem?_eq_getElem hi, List.getElem?_eq_getElem hjl] at q
          exact (List.getElem_inj nd).mp (Option.some.inj q))
        rw [if_neg g, List.getElem?_set_ne (fun z => c z.symm)]
        exact hsh
  · rw [List.getElem?_eq_none (by simpa using hi), List.getElem?_eq_none]
    rw [List.length_zip]
    omega
theorem sum_cons (a : Int) (l : List Int) : sum (a :: l) = a + sum l := rfl
theorem sum_append : ∀ (l m : List Int), sum (l ++ m) = sum l + sum m
  | [], m => by show sum m = 0 + sum m; omega
  | a :: l, m => by
    rw [List.cons_append, sum_cons, sum_cons, sum_append l m]
    omega
/-- the shares together are at most what is divided -/
theorem shares_sum {e t : Int} (he : 0 ≤ e) (ht : 0 < t) : ∀ (ns : List Int), (∀ x ∈ ns, 0 ≤ x) → t * sum (ns.map fun o => e * o / t) ≤ e * sum ns
  | [], _ => by simp [sum]
  | a :: ns, hn => by
    have ih := shares_sum he ht ns fun x hx => hn x (List.mem_cons_of_mem _ hx)
    rw [List.map_cons, sum_cons, sum_cons, Int.mul_add, Int.mul_add]
    have q : t * (e * a / t) ≤ e * a := Int.mul_ediv_self_le (by omega)
    omega
theorem le_sum : ∀ (ns : List Int), (∀ x ∈ ns, 0 ≤ x) → ∀ o ∈ ns, o ≤ sum ns
  | [], _, o, h => by simp at h
  | a :: ns, hn, o, h => by
    have h0 := sum_nonneg ns fun x hx => hn x (List.mem_cons_of_mem _ hx)
    have ha := hn a List.mem_cons_self
    rw [sum_cons]
    rcases List.mem_cons.mp h with e | h
    · omega
    · have := le_sum ns (fun x hx => hn x (List.mem_cons_of_mem _ hx)) o h
      omega
theorem rest_nonneg {e : Int} {ns : List Int} (he : 0 ≤ e) (hn : ∀ x ∈ ns, 1 ≤ x) (ne : ns ≠ []) : 0 ≤ e - sum (shares e ns) := by
  have hn0 : ∀ x ∈ ns, 0 ≤ x := fun x hx => by have := hn x hx; omega
  have ht : 0 < sum ns := by
    cases ns with
    | nil => exact absurd rfl ne
    | cons a r =>
      have := hn a List.mem_cons_self
      have := le_sum (a :: r) hn0 a List.mem_cons_self
      omega
  have q := shares_sum he ht ns hn0
  have q2 : sum ns * sum (shares e ns) ≤ sum ns * e := by
    rw [Int.mul_comm (sum ns) e]
    exact q
  have := Int.le_of_mul_le_mul_left q2 ht
  omega
theorem shares_mem {e : Int} {ns : List Int} (he : 0 ≤ e) (hn : ∀ x ∈ ns, 1 ≤ x) : ∀ x ∈ shares e ns, 0 ≤ x := by
  intro x hx
  unfold shares at hx
  obtain ⟨o, ho, rfl⟩ := List.mem_map.mp hx
  have h0 := sum_nonneg ns fun x hx => by have := hn x hx; omega
  have := hn o ho
  exact Int.ediv_nonneg (Int.mul_nonneg he (by omega)) h0
theorem sum_set : ∀ {l : List Int} {j : Nat} {z y : Int}, l[j]? = some z → sum (l.set j y) = sum l - z + y
  | [], j, z, y, h => by simp at h
  | a :: r, 0, z, y, h => by
    have e : a = z := Option.some.inj h
    subst e
    show sum (y :: r) = sum (a :: r) - a + y
    rw [sum_cons, sum_cons]
    omega
  | a :: r, j + 1, z, y, h => by
    have ih := sum_set (l := r) (j := j) (z := z) (y := y) h
    show sum (a :: r.set j y) = sum (a :: r) - z + y
    rw [sum_cons, sum_cons, ih]
    omega
/-- nothing is lost, nothing is negative -/
theorem dv_ok {e : Int} {ns : List Int} {j : Nat} (he : 0 ≤ e) (hn : ∀ x ∈ ns, 1 ≤ x) (hj : j < ns.length) : (∀ x ∈ dv e ns j, 0 ≤ x) ∧ sum (dv e ns j) = e ∧ ∀ x ∈ dv e ns j, x ≤ e := by
  have ne : ns ≠ [] := by rintro rfl; simp at hj
  have r0 := rest_nonneg he hn ne
  have sl : (shares e ns).length = ns.length := by unfold shares; simp
  have hz : (shares e ns)[j]? = some ((shares e ns).getD j 0) := by
    rw [List.getD_eq_getElem?_getD, List.getElem?_eq_getElem (by omega)]
    rfl
  have z0 := shares_mem he hn _ (List.mem_of_getElem? hz)
  have nn : ∀ x ∈ dv e ns j, 0 ≤ x := fun x hx => by
    unfold dv at hx
    rcases List.mem_or_eq_of_mem_set hx with h | h
    · exact shares_mem he hn x h
    · rw [h]
      omega
  have es : sum (dv e ns j) = e := by
    unfold dv
    rw [sum_set hz]
    omega
  refine ⟨nn, es, fun x hx => ?_⟩
  have := le_sum _ nn x hx
  omega
theorem dv_length {e : Int} {ns : List Int} {j : Nat} : (dv e ns j).length = ns.length := by
  unfold dv shares
  simp
theorem dv_one {e : Int} (he : 0 < e) : dv e [e] 0 = [e] := by
  have h1 : sum [e] = e := by show e + 0 = e; omega
  have h2 : shares e [e] = [e] := by
    unfold shares
    rw [h1]
    show [e * e / e] = [e]
    rw [Int.mul_ediv_cancel _ (by omega)]
  unfold dv
  rw [h2, h1]
  show [e + (e - e)] = [e]
  congr 1
  omega
end JM
set_option maxRecDepth 20000
namespace JM
open Sj24
/-- what is asked of a calorimeter's numbers, for its clusters to be found -/
structure EOk (h : House) : Prop where
  e0 : ∀ k, 0 ≤ h.e k
  e1 : ∀ k, h.e k ≤ 1099511627776
  low : 1 ≤ h.low
  seed : h.low ≤ h.seed
def chunk (h : House) (b : Nat) : List (Nat × Part) := (parted h (owners h (seeds h) b) b).map fun x => (x.1, (⟨b, x.2⟩ : Part))
def allP (h : House) (i : Nat) : List (Nat × Part) := (List.range i).flatMap (chunk h)
def partsOf (L : List (Nat × Part)) (k : Nat) : List Part := (L.filter fun x => x.1 == k).map fun x => x.2
theorem clusters_is (h : House) : clustersOf h = (seeds h).map fun k => ⟨k, partsOf (allP h 1024) k⟩ := rfl
theorem allP_succ (h : House) (i : Nat) : allP h (i + 1) = allP h i ++ chunk h i := by
  unfold allP
  rw [List.range_succ, List.flatMap_append, List.flatMap_cons, List.flatMap_nil, List.append_nil]
theorem partsOf_append (L M : List (Nat × Part)) (k : Nat) : partsOf (L ++ M) k = partsOf L k ++ partsOf M k := by
  unfold partsOf
  rw [List.filter_append, List.map_append]
theorem owner_e {h : House} (E : EOk h) {b : Nat} : ∀ x ∈ (owners h (seeds h) b).map h.e, 1 ≤ x := fun x hx => by
  obtain ⟨o, ho, rfl⟩ := List.mem_map.mp hx
  have := seed_e (owners_sub ho)
  have := E.low
  have := E.seed
  omega
theorem chunk_zip {h : House} {b j : Nat} (fm : FirstMax ((owners h (seeds h) b).map h.e) j) : chunk h b = ((owners h (seeds h) b).zip (dv (h.e b) ((owners h (seeds h) b).map h.e) j)).map fun x => (x.1, (⟨b, x.2⟩ : Part)) := by
  unfold chunk
  rw [parted_is (owners_nodup h b) b fm]
theorem chunk_nil {h : House} {b : Nat} (e : owners h (seeds h) b = []) : chunk h b = [] := by
  unfold chunk parted
  rw [e]
  rfl
theorem firstMax_lt {ns : List Int} {j : Nat} (f : FirstMax ns j) : j < ns.length := by
  obtain ⟨m, h, _⟩ := f
  exact (List.getElem?_eq_some_iff.mp h).1
theorem mem_chunk {h : House} (E : EOk h) {b k : Nat} {p : Part} (m : (k, p) ∈ chunk h b) : p.block = b ∧ k ∈ owners h (seeds h) b ∧ 0 ≤ p.e ∧ p.e ≤ h.e b := by
  by_cases ne : owners h (seeds h) b = []
  · rw [chunk_nil ne] at m
    simp at m
  · obtain ⟨j, _, fm⟩ := greatest_first (h := h) ne
    rw [chunk_zip fm] at m
    obtain ⟨⟨o, x⟩, hz, e⟩ := List.mem_map.mp m
    obtain ⟨h1, h2⟩ := List.of_mem_zip hz
    have d := dv_ok (E.e0 b) (owner_e E) (firstMax_lt fm)
    injection e with e1 e2
    subst e1 e2
    exact ⟨rfl, h1, d.1 _ h2, d.2.2 _ h2⟩
theorem mem_allP {h : House} (E : EOk h) {i k : Nat} {p : Part} (m : (k, p) ∈ allP h i) : p.block < i ∧ k ∈ owners h (seeds h) p.block ∧ 0 ≤ p.e ∧ p.e ≤ h.e p.block := by
  unfold allP at m
  obtain ⟨b, hb, hm⟩ := List.mem_flatMap.mp m
  obtain ⟨h1, h2, h3, h4⟩ := mem_chunk E hm
  rw [h1]
  exact ⟨List.mem_range.mp hb, h2, h3, h4⟩
theorem chunk_length {h : House} {b : Nat} (hb : b < 1024) : (chunk h b).length ≤ 9 := by
  unfold chunk parted
  simp only [List.length_map]
  exact owners_length hb
theorem allP_length {h : House} : ∀ {i : Nat}, i ≤ 1024 → (allP h i).length ≤ i * 9
  | 0, _ => by simp [allP]
  | i + 1, hi => by
    rw [allP_succ, List.length_append]
    have h1 := allP_length (h := h) (i := i) (by omega)
    have h2 := chunk_length (h := h) (b := i) (by omega)
    omega
theorem partsOf_length (L : List (Nat × Part)) (k : Nat) : (partsOf L k).length ≤ L.length := by
  unfold partsOf
  rw [List.length_map]
  exact List.length_filter_le _ _
theorem mem_partsOf {L : List (Nat × Part)} {k : Nat} {p : Part} : p ∈ partsOf L k ↔ (k, p) ∈ L := by
  unfold partsOf
  rw [List.mem_map]
  constructor
  · rintro ⟨⟨a, q⟩, hm, rfl⟩
    obtain ⟨h1, h2⟩ := List.mem_filter.mp hm
    have e : a = k := by simpa using h2
    subst e
    exact h1
  · intro hm
    exact ⟨(k, p), List.mem_filter.mpr ⟨hm, by simp⟩, rfl⟩
/-- what holds of each cluster -/
structure CluOk (c : Cluster) : Prop where
  seed : c.seed < 1024
  len : c.parts.length ≤ 9216
  e0 : ∀ p ∈ c.parts, 0 ≤ p.e
  e1 : ∀ p ∈ c.parts, p.e ≤ 1099511627776
  blk : ∀ p ∈ c.parts, p.block < 1024
  near : ∀ p ∈ c.parts, p.block = c.seed ∨ p.block ∈ about c.seed
  pos : 1 ≤ c.e
theorem cluster_ok {h : House} (E : EOk h) {c : Cluster} (m : c ∈ clustersOf h) : CluOk c := by
  rw [clusters_is] at m
  obtain ⟨k, hk, rfl⟩ := List.mem_map.mp m
  have mem : ∀ p ∈ partsOf (allP h 1024) k, p.block < 1024 ∧ k ∈ owners h (seeds h) p.block ∧ 0 ≤ p.e ∧ p.e ≤ h.e p.block := fun p hp => mem_allP E (mem_partsOf.mp hp)
  have ke : 1 ≤ h.e k := by
    have := seed_e hk
    have := E.low
    have := E.seed
    omega
  have own : (⟨k, h.e k⟩ : Part) ∈ partsOf (allP h 1024) k := by
    rw [mem_partsOf]
    unfold allP
    refine List.mem_flatMap.mpr ⟨k, List.mem_range.mpr (lt_of_seeds hk), ?_⟩
    have o := owners_self hk
    have fm : FirstMax ((owners h (seeds h) k).map h.e) 0 := by
      rw [o]
      exact ⟨h.e k, rfl, fun y hy => by simp at hy; omega, fun i z hi => absurd hi (by omega)⟩
    rw [chunk_zip fm, o]
    show (k, (⟨k, h.e k⟩ : Part)) ∈ ((([k] : List Nat).zip (dv (h.e k) [h.e k] 0)).map fun x => (x.1, (⟨k, x.2⟩ : Part)))
    rw [dv_one (by omega)]
    simp
  refine CluOk.mk (lt_of_seeds hk) ?_ (fun p hp => (mem p hp).2.2.1) (fun p hp => Int.le_trans (mem p hp).2.2.2 (E.e1 _)) (fun p hp => (mem p hp).1) (fun p hp => ?_) ?_
  · have h1 := partsOf_length (allP h 1024) k
    have h2 := allP_length (h := h) (i := 1024) (by omega)
    show (partsOf (allP h 1024) k).length ≤ 9216
    omega
  · exact owners_near (mem p hp).1 (mem p hp).2.1
  · have q := le_sum ((partsOf (allP h 1024) k).map fun p => p.e) (fun x hx => by
      obtain ⟨p, hp, rfl⟩ := List.mem_map.mp hx
      exact (mem p hp).2.2.1) (h.e k) (List.mem_map.mpr ⟨_, own, rfl⟩)
    show 1 ≤ sum ((partsOf (allP h 1024) k).map fun p => p.e)
    omega
theorem rowStep_is {a b : Nat} (hb : b < 1024) (ha : a < 1024) (n : b = a ∨ b ∈ about a) : ((b : Int) / 32 - (a : Int) / 32 + 1) % 32 - 1 = rowStep a b := by
  unfold rowStep
  show _ = if b / 32 = a / 32 then (0 : Int) else if (b / 32 + 32 - a / 32) % 32 = 1 then 1 else -1
  rcases n with rfl | n
  · rw [if_pos rfl]
    omega
  · obtain ⟨h1, h2, h3, h4, h5⟩ := mem_about.mp n
    split
    · omega
    · split <;> omega
theorem clu_e_bound {c : Cluster} (O : CluOk c) : c.e ≤ 10133099161583616 := by
  have h := sum_bound (B := 1099511627776) (c.parts.map fun p => p.e) fun x hx => by
    obtain ⟨p, hp, rfl⟩ := List.mem_map.mp hx
    have := O.e0 p hp
    have := O.e1 p hp
    omega
  rw [List.length_map] at h
  have := O.len
  unfold Cluster.e
  omega
end JM
set_option maxRecDepth 20000
namespace JM
open Sj24 Sj24Neutral
theorem isIn_true {a b z : Int} (h : a ≤ z ∧ z ≤ b) : isIn a b z = true := by
  unfold isIn
  rw [decide_eq_true h.1, decide_eq_true h.2]
  rfl
theorem isIn_false {a b z : Int} (h : ¬ (a ≤ z ∧ z ≤ b)) : isIn a b z = false := by
  unfold isIn
  by_cases h1 : a ≤ z
  · rw [decide_eq_true h1, decide_eq_false (fun z => h ⟨h1, z⟩)]
    rfl
  · rw [decide_eq_false h1]
    rfl
theorem p20 : (2 : Int) ^ 20 = 1048576 := by decide
theorem p40 : MOST = 1099511627776 := by decide
theorem all_in {l : List Int} {a b : Int} : l.all (isIn a b) = true ↔ ∀ x ∈ l, a ≤ x ∧ x ≤ b := by
  rw [List.all_eq_true]
  constructor
  · intro h x hx
    have := h x hx
    by_cases c : a ≤ x ∧ x ≤ b
    · exact c
    · rw [isIn_false c] at this
      cases this
  · intro h x hx
    exact isIn_true (h x hx)
/-! ### what a call is -/
theorem inv1 {as : List Int} {q : Sj24.Call} (h : callOf (1 :: as) = some q) : ∃ x y r, as = [x, y, r] ∧ q = .open_ x y r := by
  rcases as with _ | ⟨x, _ | ⟨y, _ | ⟨r, _ | ⟨_, _⟩⟩⟩⟩ <;> simp [callOf] at h
  exact ⟨_, _, _, rfl, h.symm⟩
theorem inv2 {as : List Int} {q : Sj24.Call} (h : callOf (2 :: as) = some q) : ∃ k m s z, as = [k, m, s, z] ∧ q = .gain k m s z := by
  rcases as with _ | ⟨x, _ | ⟨y, _ | ⟨r, _ | ⟨z, _ | ⟨_, _⟩⟩⟩⟩⟩ <;> simp [callOf] at h
  exact ⟨_, _, _, _, rfl, h.symm⟩
theorem inv3 {as : List Int} {q : Sj24.Call} (h : callOf (3 :: as) = some q) : as.length = 16 ∧ q = .weights (as.take 8) (as.drop 8) := by
  simp [callOf] at h
  exact ⟨h.1, h.2.symm⟩
theorem inv4 {as : List Int} {q : Sj24.Call} (h : callOf (4 :: as) = some q) : ∃ b k ss, as = b :: k :: ss ∧ ss.length = 8 ∧ q = .pulse b k ss := by
  rcases as with _ | ⟨x, _ | ⟨y, ss⟩⟩ <;> simp [callOf] at h
  exact ⟨_, _, _, rfl, h.1, h.2.symm⟩
theorem inv5 {as : List Int} {q : Sj24.Call} (h : callOf (5 :: as) = some q) : ∃ b, as = [b] ∧ q = .block b := by
  rcases as with _ | ⟨x, _ | ⟨y, ss⟩⟩ <;> simp [callOf] at h
  exact ⟨_, rfl, h.symm⟩
theorem inv6 {as : List Int} {q : Sj24.Call} (h : callOf (6 :: as) = some q) : as = [] ∧ q = .clusters := by
  rcases as with _ | ⟨x, ss⟩ <;> simp [callOf] at h
  exact ⟨rfl, h.symm⟩
theorem inv7 {as : List Int} {q : Sj24.Call} (h : callOf (7 :: as) = some q) : ∃ c, as = [c] ∧ q = .cluster c := by
  rcases as with _ | ⟨x, _ | ⟨y, ss⟩⟩ <;> simp [callOf] at h
  exact ⟨_, rfl, h.symm⟩
/-! ### what the specification does -/
theorem isIn_dec {a b z : Int} : isIn a b z = decide (a ≤ z ∧ z ≤ b) := by
  by_cases h : a ≤ z ∧ z ≤ b
  · rw [isIn_true h, decide_eq_true h]
  · rw [isIn_false h, decide_eq_false h]
theorem all_dec {l : List Int} {a b : Int} : l.all (isIn a b) = decide (∀ x ∈ l, a ≤ x ∧ x ≤ b) := by
  by_cases h : ∀ x ∈ l, a ≤ x ∧ x ≤ b
  · rw [all_in.mpr h, decide_eq_true h]
  · rw [decide_eq_false h]
    exact Bool.eq_false_iff.mpr fun z => h (all_in.mp z)
theorem ite_swap {α : Type} {c : Bool} {p : Prop} [Decidable p] {a b : α} (h : c = !decide p) : (if c = true then a else b) = if p then b else a := by
  subst h
  by_cases hp : p
  · rw [decide_eq_true hp, if_pos hp]
    rfl
  · rw [decide_eq_false hp, if_neg hp]
    rfl
theorem on_gain {h : House} {k m s z : Int} : on h (.gain k m s z) = if (0 ≤ k ∧ k ≤ 3) ∧ (1 ≤ m ∧ m ≤ 1048576) ∧ (0 ≤ s ∧ s ≤ 24) ∧ 0 ≤ z ∧ z ≤ 4095 then ({ h with gains := h.gains.set k.toNat ⟨m, s.toNat, z⟩ }, just 0) else (h, just (-2)) := by
  show (if (!isIn 0 3 k || !isIn 1 (2 ^ 20) m || !isIn 0 24 s || !isIn 0 4095 z) = true then (h, just (-2)) else ({ h with gains := h.gains.set k.toNat ⟨m, s.toNat, z⟩ }, just 0)) = _
  refine ite_swap ?_
  rw [p20, isIn_dec, isIn_dec, isIn_dec, isIn_dec, ← Bool.not_and, ← Bool.not_and, ← Bool.not_and, ← Bool.decide_and, ← Bool.decide_and, ← Bool.decide_and]
  congr 1
  exact decide_eq_decide.mpr ⟨fun ⟨⟨⟨a, b⟩, c⟩, d⟩ => ⟨a, b, c, d⟩, fun ⟨a, b, c, d⟩ => ⟨⟨⟨a, b⟩, c⟩, d⟩⟩
theorem on_weights {h : House} {ws us : List Int} (lw : ws.length = 8) (lu : us.length = 8) : on h (.weights ws us) = if (∀ x ∈ ws, -32768 ≤ x ∧ x ≤ 32767) ∧ (∀ x ∈ us, -32768 ≤ x ∧ x ≤ 32767) then ({ h with w := ws, v := us }, just 0) else (h, just (-2)) := by
  show (if (ws.length != 8 || us.length != 8 || !(ws ++ us).all (isIn (-32768) 32767)) = true then (h, just (-2)) else ({ h with w := ws, v := us }, just 0)) = _
  refine ite_swap ?_
  rw [lw, lu, List.all_append, all_dec, all_dec, ← Bool.decide_and]
  rfl
theorem on_pulse {h : House} {b k : Int} {ss : List Int} (ls : ss.length = 8) : on h (.pulse b k ss) = if (0 ≤ b ∧ b ≤ 1023) ∧ (0 ≤ k ∧ k ≤ 3) ∧ (∀ x ∈ ss, 0 ≤ x ∧ x ≤ 4095) then
    ({ h with blocks := h.blocks.set b.toNat (weighed h (h.gains.getD k.toNat gain1) ss) }, just (bit (decide (0 < (weighed h (h.gains.getD k.toNat gain1) ss).e)))) else (h, just (-2)) := by
  show (if (!isIn 0 1023 b || !isIn 0 3 k || ss.length != 8 || !ss.all (isIn 0 4095)) = true then (h, just (-2)) else _) = _
  refine ite_swap ?_
  rw [ls, all_dec, isIn_dec, isIn_dec, show ((8 : Nat) != 8) = false from rfl, Bool.or_false, ← Bool.not_and, ← Bool.not_and, ← Bool.decide_and, ← Bool.decide_and]
  congr 1
  exact decide_eq_decide.mpr ⟨fun ⟨⟨a, b⟩, c⟩ => ⟨a, b, c⟩, fun ⟨a, b, c⟩ => ⟨⟨a, b⟩, c⟩⟩
theorem on_block {h : House} {b : Int} : on h (.block b) = if 0 ≤ b ∧ b ≤ 1023 then (h, ⟨0, [(h.block b.toNat).e, (h.block b.toNat).time, bit (h.block b.toNat).full]⟩) else (h, just (-2)) := by
  show (if (!isIn 0 1023 b) = true then (h, just (-2)) else _) = _
  refine ite_swap ?_
  rw [isIn_dec]
theorem on_clusters {h : House} : on h .clusters = ({ h with clusters := clustersOf h, jets := [] }, just ((clustersOf h).length : Int)) := rfl
theorem on_cluster_bad {h : House} {b : Int} (g : ¬ (0 ≤ b ∧ b ≤ (h.clusters.length : Int) - 1)) : on h (.cluster b) = (h, just (-2)) := by
  show (if (!isIn 0 (nat h.clusters.length - 1) b) = true then (h, just (-2)) else _) = _
  unfold nat
  rw [isIn_false g]
  rfl
theorem on_cluster {h : House} {b : Int} {c : Cluster} (g : 0 ≤ b ∧ b ≤ (h.clusters.length : Int) - 1) (hc : h.clusters[b.toNat]? = some c) : on h (.cluster b) =
    (h, ⟨nat c.parts.length, [nat c.seed, c.e, c.col, c.row, c.time h, bit (c.parts.any fun p => (h.block p.block).full)]⟩) := by
  show (if (!isIn 0 (nat h.clusters.length - 1) b) = true then (h, just (-2)) else match h.clusters[b.toNat]? with
    | none => (h, just (-2))
    | some x => (h, ⟨nat x.parts.length, [nat x.seed, x.e, x.col, x.row, x.time h, bit (x.parts.any fun p => (h.block p.block).full)]⟩)) = _
  unfold nat
  rw [isIn_true g, hc]
  rfl
end JM
set_option maxRecDepth 20000
namespace JM
open Sj24
/-- a list of calls, taken apart -/
inductive Runs : List Int → List (List Int) → Prop
  | nil : Runs [] []
  | cons {p : Int} {as rest : List Int} {css : List (List Int)} {q : Sj24.Call} : PySj24.shape p = some (as.length, 0) → Sj24Neutral.callOf (p :: as) = some q → Runs rest css → Runs (p :: as ++ rest) ((p :: as) :: css)
theorem whole_id (c : List (List Int)) : PySj24.whole c = c := by
  unfold PySj24.whole
  split <;> rfl
theorem ite_some {α : Type} {c : Prop} [Decidable c] {a b : α} {X : Option α} (h : (if c then some a else X) = some b) : (c ∧ a = b) ∨ X = some b := by
  by_cases hc : c
  · rw [if_pos hc] at h
    exact .inl ⟨hc, Option.some.inj h⟩
  · rw [if_neg hc] at h
    exact .inr h
/-- how many numbers stand behind a call's number -/
theorem shape_cases {p : Int} {z : Nat × Nat} (h : PySj24.shape p = some z) : (p = 1 ∧ z = (3, 0)) ∨ (p = 2 ∧ z = (4, 0)) ∨ (p = 3 ∧ z = (16, 0)) ∨ (p = 4 ∧ z = (10, 0)) ∨ (p = 5 ∧ z = (1, 0)) ∨ (p = 6 ∧ z = (0, 0)) ∨ (p = 7 ∧ z = (1, 0)) ∨
    (p = 8 ∧ z = (1, 0)) ∨ (p = 9 ∧ z = (0, 0)) ∨ (p = 10 ∧ z = (1, 0)) ∨ (p = 11 ∧ z = (0, 0)) ∨ (p = 12 ∧ z = (2, 0)) ∨ (p = 13 ∧ z = (0, 0)) := by
  unfold PySj24.shape at h
  rcases ite_some h with ⟨c, e⟩ | h
  · exact .inl ⟨c, e.symm⟩
  right
  rcases ite_some h with ⟨c, e⟩ | h
  · exact .inl ⟨c, e.symm⟩
  right
  rcases ite_some h with ⟨c, e⟩ | h
  · exact .inl ⟨c, e.symm⟩
  right
  rcases ite_some h with ⟨c, e⟩ | h
  · exact .inl ⟨c, e.symm⟩
  right
  rcases ite_some h with ⟨c, e⟩ | h
  · exact .inl ⟨c, e.symm⟩
  right
  rcases ite_some h with ⟨c, e⟩ | h
  · exact .inl ⟨c, e.symm⟩
  right
  rcases ite_some h with ⟨c, e⟩ | h
  · exact .inl ⟨c, e.symm⟩
  right
  rcases ite_some h with ⟨c, e⟩ | h
  · exact .inl ⟨c, e.symm⟩
  right
  rcases ite_some h with ⟨c, e⟩ | h
  · exact .inl ⟨c, e.symm⟩
  right
  rcases ite_some h with ⟨c, e⟩ | h
  · exact .inl ⟨c, e.symm⟩
  right
  rcases ite_some h with ⟨c, e⟩ | h
  · exact .inl ⟨c, e.symm⟩
  right
  rcases ite_some h with ⟨c, e⟩ | h
  · exact .inl ⟨c, e.symm⟩
  right
  rcases ite_some h with ⟨c, e⟩ | h
  · exact ⟨c, e.symm⟩
  cases h
theorem shape_rows {p : Int} {n k : Nat} (h : PySj24.shape p = some (n, k)) : k = 0 := by
  rcases shape_cases h with ⟨_, e⟩ | ⟨_, e⟩ | ⟨_, e⟩ | ⟨_, e⟩ | ⟨_, e⟩ | ⟨_, e⟩ | ⟨_, e⟩ | ⟨_, e⟩ | ⟨_, e⟩ | ⟨_, e⟩ | ⟨_, e⟩ | ⟨_, e⟩ | ⟨_, e⟩ <;> (injection e)
theorem shape_range {p : Int} {z : Nat × Nat} (h : PySj24.shape p = some z) : 1 ≤ p ∧ p ≤ 13 := by
  rcases shape_cases h with ⟨e, _⟩ | ⟨e, _⟩ | ⟨e, _⟩ | ⟨e, _⟩ | ⟨e, _⟩ | ⟨e, _⟩ | ⟨e, _⟩ | ⟨e, _⟩ | ⟨e, _⟩ | ⟨e, _⟩ | ⟨e, _⟩ | ⟨e, _⟩ | ⟨e, _⟩ <;> omega
theorem asked1_q {c : List Int} (h : Sj24Neutral.asked1 [c] = true) : ∃ q, Sj24Neutral.callOf c = some q := by
  unfold Sj24Neutral.asked1 at h
  rw [Bool.and_eq_true, Bool.and_eq_true] at h
  exact Option.isSome_iff_exists.mp h.2.2
theorem runs_of : ∀ (f : Nat) (l : List Int) (raw : List (List (List Int))), PyFlat.calls PySj24.shape f l = some raw → (∀ c ∈ raw, Sj24Neutral.asked1 c = true) → ∃ css, raw = css.map (fun c => [c]) ∧ Runs l css
  | f, [], raw, h, _ => by
    have e : raw = [] := by
      cases f <;> (unfold PyFlat.calls at h; exact (Option.some.inj h).symm)
    subst e
    exact ⟨[], rfl, .nil⟩
  | 0, p :: r, raw, h, _ => by
    unfold PyFlat.calls at h
    cases h
  | f + 1, p :: r, raw, h, ha => by
    unfold PyFlat.calls at h
    cases e1 : PyFlat.call PySj24.shape (p :: r) with
    | none =>
      rw [e1] at h
      cases h
    | some ct =>
      obtain ⟨c, t⟩ := ct
      rw [e1] at h
      dsimp only at h
      cases e2 : PyFlat.calls PySj24.shape f t with
      | none =>
        rw [e2] at h
        cases h
      | some cs =>
        rw [e2] at h
        have e := Option.some.inj h
        subst e
        unfold PyFlat.call at e1
        dsimp only at e1
        cases e3 : PySj24.shape p with
        | none =>
          rw [e3] at e1
          cases e1
        | some nk =>
          obtain ⟨n, k⟩ := nk
          have k0 := shape_rows e3
          subst k0
          rw [e3] at e1
          dsimp only at e1
          by_cases hl : r.length < n
          · rw [if_pos hl] at e1
            cases e1
          · rw [if_neg hl] at e1
            unfold PyFlat.rows at e1
            injection e1 with e1
            injection e1 with e4 e5
            subst e4 e5
            obtain ⟨css, h1, h2⟩ := runs_of f _ _ e2 fun c hc => ha c (List.mem_cons_of_mem _ hc)
            obtain ⟨q, hq⟩ := asked1_q (ha _ List.mem_cons_self)
            refine ⟨(p :: r.take n) :: css, by rw [h1]; rfl, ?_⟩
            have e6 : p :: r = p :: r.take n ++ r.drop n := by
              rw [List.cons_append, List.take_append_drop]
            rw [e6]
            refine .cons (q := q) ?_ hq h2
            rw [List.length_take, Nat.min_eq_left (by omega)]
            exact e3
theorem asked_runs {l : List Int} (h : PySj24.answers_asked l = true) : ∃ css, Runs l css ∧ PySj24.answers l = PyFlat.told (PyFlat.played Sj24Neutral.step Sj24Neutral.start (css.map fun c => [c])) ∧ (PySj24.answers l).length ≤ 10000000 ∧ css.length ≤ 80 := by
  unfold PySj24.answers_asked at h
  cases e : PyFlat.calls PySj24.shape l.length l with
  | none =>
    rw [e] at h
    cases h
  | some raw =>
    rw [e] at h
    dsimp only at h
    simp only [Bool.and_eq_true] at h
    obtain ⟨⟨⟨⟨_, h0⟩, _⟩, h2⟩, h3⟩ := h
    have ew : raw.map PySj24.whole = raw := by
      have : PySj24.whole = id := funext whole_id
      rw [this, List.map_id]
    rw [ew] at h2
    unfold Sj24Neutral.asked at h2
    rw [Bool.and_eq_true] at h2
    obtain ⟨css, h4, h5⟩ := runs_of _ _ _ e (List.all_eq_true.mp h2.1)
    refine ⟨css, h5, ?_, of_decide_eq_true h3, ?_⟩
    · unfold PySj24.answers PySj24.calls
      rw [e]
      dsimp only
      rw [ew, h4]
    · have := of_decide_eq_true h0
      rw [h4, List.length_map] at this
      exact this
theorem played_cons {st : Sj24.State} {c : List Int} {css : List (List Int)} {q : Sj24.Call} (h : Sj24Neutral.callOf c = some q) :
    PyFlat.told (PyFlat.played Sj24Neutral.step st ((c :: css).map fun c => [c])) = (((Sj24.step st q).2.v :: (Sj24.step st q).2.l).length : Int) :: ((Sj24.step st q).2.v :: (Sj24.step st q).2.l) ++ PyFlat.told (PyFlat.played Sj24Neutral.step (Sj24.step st q).1 (css.map fun c => [c])) := by
  have e : Sj24Neutral.step st [c] = ((Sj24.step st q).1, (Sj24.step st q).2.v :: (Sj24.step st q).2.l) := by
    unfold Sj24Neutral.step
    rw [List.headD_cons, h]
  show PyFlat.told ((Sj24Neutral.step st [c]).2 :: PyFlat.played Sj24Neutral.step (Sj24Neutral.step st [c]).1 (css.map fun c => [c])) = _
  rw [e]
  rfl
end JM
set_option maxRecDepth 20000
namespace JM
open Sj24
/-! ### fractions -/
theorem frac_lt_le {a b c : Frac} (ha : 0 < a.d) (hb : 0 < b.d) (hc : 0 < c.d) (h1 : a.n * b.d < b.n * a.d) (h2 : b.n * c.d ≤ c.n * b.d) : a.n * c.d < c.n * a.d := by
  have e1 : a.n * b.d * c.d < b.n * a.d * c.d := Int.mul_lt_mul_of_pos_right h1 hc
  have e2 : b.n * c.d * a.d ≤ c.n * b.d * a.d := Int.mul_le_mul_of_nonneg_right h2 (Int.le_of_lt ha)
  have e3 : b.n * a.d * c.d = b.n * c.d * a.d := by rw [Int.mul_assoc, Int.mul_comm a.d, ← Int.mul_assoc]
  have e4 : a.n * b.d * c.d = a.n * c.d * b.d := by rw [Int.mul_assoc, Int.mul_comm b.d, ← Int.mul_assoc]
  have e5 : c.n * b.d * a.d = c.n * a.d * b.d := by rw [Int.mul_assoc, Int.mul_comm b.d, ← Int.mul_assoc]
  refine Int.lt_of_mul_lt_mul_right (a := b.d) ?_ (Int.le_of_lt hb)
  omega
theorem frac_le_lt {a b c : Frac} (ha : 0 < a.d) (hb : 0 < b.d) (hc : 0 < c.d) (h1 : a.n * b.d ≤ b.n * a.d) (h2 : b.n * c.d < c.n * b.d) : a.n * c.d < c.n * a.d := by
  have e1 : a.n * b.d * c.d ≤ b.n * a.d * c.d := Int.mul_le_mul_of_nonneg_right h1 (Int.le_of_lt hc)
  have e2 : b.n * c.d * a.d < c.n * b.d * a.d := Int.mul_lt_mul_of_pos_right h2 ha
  have e3 : b.n * a.d * c.d = b.n * c.d * a.d := by rw [Int.mul_assoc, Int.mul_comm a.d, ← Int.mul_assoc]
  have e4 : a.n * b.d * c.d = a.n * c.d * b.d := by rw [Int.mul_assoc, Int.mul_comm b.d, ← Int.mul_assoc]
  have e5 : c.n * b.d * a.d = c.n * a.d * b.d := by rw [Int.mul_assoc, Int.mul_comm b.d, ← Int.mul_assoc]
  refine Int.lt_of_mul_lt_mul_right (a := b.d) ?_ (Int.le_of_lt hb)
  omega
theorem less_iff {a b : Frac} : a.less b = true ↔ a.n * b.d < b.n * a.d := by
  unfold Frac.less
  exact decide_eq_true_iff
theorem less_lt_le {a b c : Frac} (ha : 0 < a.d) (hb : 0 < b.d) (hc : 0 < c.d) (h1 : a.less b = true) (h2 : ¬ c.less b = true) : a.less c = true := by
  rw [less_iff] at *
  exact frac_lt_le ha hb hc h1 (by omega)
theorem less_le_lt {a b c : Frac} (ha : 0 < a.d) (hb : 0 < b.d) (hc : 0 < c.d) (h1 : ¬ b.less a = true) (h2 : b.less c = true) : a.less c = true := by
  rw [less_iff] at *
  exact frac_le_lt ha hb hc (by omega) h2
theorem less_trans {a b c : Frac} (ha : 0 < a.d) (hb : 0 < b.d) (hc : 0 < c.d) (h1 : a.less b = true) (h2 : b.less c = true) : a.less c = true := by
  rw [less_iff] at *
  exact frac_lt_le ha hb hc h1 (by omega)
theorem less_le_trans {a b c : Frac} (ha : 0 < a.d) (hb : 0 < b.d) (hc : 0 < c.d) (h1 : ¬ b.less a = true) (h2 : ¬ c.less b = true) : ¬ c.less a = true := fun h => by
  rw [less_iff] at *
  have := frac_lt_le hc ha hb h (by omega)
  omega
/-! ### the first smallest -/
/-- the scan from the left -/
def scan (a : Next × Frac) (l : List (Next × Frac)) : Next × Frac := l.foldl (fun a y => if y.2.less a.2 then y else a) a
theorem least_cons (x : Next × Frac) (r : List (Next × Frac)) : least (x :: r) = match least r with
    | none => some x
    | some y => if y.2.less x.2 then some y else some x := rfl
def DPos (l : List (Next × Frac)) : Prop := ∀ x ∈ l, 0 < x.2.d
theorem least_mem : ∀ {l : List (Next × Frac)} {y : Next × Frac}, least l = some y → y ∈ l
  | x :: r, y, h => by
    unfold least at h
    cases e : least r with
    | none =>
      rw [e] at h
      rw [← Option.some.inj h]
      exact List.mem_cons_self
    | some z =>
      rw [e] at h
      dsimp only at h
      split at h
      · rw [← Option.some.inj h]
        exact List.mem_cons_of_mem _ (least_mem e)
      · rw [← Option.some.inj h]
        exact List.mem_cons_self
theorem least_none : ∀ {l : List (Next × Frac)}, least l = none → l = []
  | [], _ => rfl
  | x :: r, h => by
    unfold least at h
    cases e : least r with
    | none =>
      rw [e] at h
      cases h
    | some z =>
      rw [e] at h
      dsimp only at h
      split at h <;> cases h
theorem scan_is : ∀ (l : List (Next × Frac)) (a : Next × Frac), 0 < a.2.d → DPos l → scan a l = match least l with
    | none => a
    | some y => if y.2.less a.2 then y else a
  | [], a, _, _ => rfl
  | z :: r, a, ha, hp => by
    have hz : 0 < z.2.d := hp z List.mem_cons_self
    have hr : DPos r := fun x hx => hp x (List.mem_cons_of_mem _ hx)
    show scan (if z.2.less a.2 then z else a) r = _
    have ha' : 0 < (if z.2.less a.2 then z else a).2.d := by split <;> assumption
    rw [scan_is r _ ha' hr]
    rw [least_cons]
    cases e : least r with
    | none => rfl
    | some y =>
      dsimp only
      have hy : 0 < y.2.d := hr y (least_mem e)
      by_cases c1 : z.2.less a.2 = true
      · rw [if_pos c1]
        by_cases c2 : y.2.less z.2 = true
        · rw [if_pos c2, if_pos c2]
          show y = if y.2.less a.2 then y else a
          rw [if_pos (less_trans hy hz ha c2 c1)]
        · rw [if_neg c2, if_neg c2]
          show z = if z.2.less a.2 then z else a
          rw [if_pos c1]
      · rw [if_neg c1]
        by_cases c2 : y.2.less z.2 = true
        · rw [if_pos c2]
        · rw [if_neg c2]
          show (if y.2.less a.2 then y else a) = if z.2.less a.2 then z else a
          rw [if_neg c1, if_neg (less_le_trans ha hz hy c1 c2)]
theorem least_scan {x : Next × Frac} {r : List (Next × Frac)} (hp : DPos (x :: r)) : least (x :: r) = some (scan x r) := by
  rw [scan_is r x (hp x List.mem_cons_self) fun y hy => hp y (List.mem_cons_of_mem _ hy)]
  rw [least_cons]
  cases least r with
  | none => rfl
  | some y =>
    dsimp only
    split <;> rfl
theorem scan_append (a : Next × Frac) (l m : List (Next × Frac)) : scan a (l ++ m) = scan (scan a l) m := by
  unfold scan
  exact List.foldl_append
/-- two parts: the second one's smallest only if it is smaller -/
theorem least_append {l m : List (Next × Frac)} {x y : Next × Frac} (hl : DPos l) (hm : DPos m) (e1 : least l = some x) (e2 : least m = some y) : least (l ++ m) = some (if y.2.less x.2 then y else x) := by
  cases l with
  | nil => cases e1
  | cons z r =>
    have hp : DPos (z :: (r ++ m)) := fun w hw => (List.mem_cons.mp hw).elim (fun e => hl w (by rw [e]; exact List.mem_cons_self)) fun hw => (List.mem_append.mp hw).elim (fun h => hl w (List.mem_cons_of_mem _ h)) (hm w)
    show least (z :: (r ++ m)) = _
    rw [least_scan hp, scan_append]
    rw [least_scan hl] at e1
    have ex := Option.some.inj e1
    have hx : 0 < x.2.d := hl _ (least_mem (by rw [least_scan hl, ex]))
    rw [ex, scan_is m x hx hm, e2]
theorem least_append_nil {l m : List (Next × Frac)} {x : Next × Frac} (e1 : least l = some x) (e2 : m = []) : least (l ++ m) = some x := by
  rw [e2, List.append_nil, e1]
end JM
set_option maxRecDepth 20000
namespace JM
open Sj24
def jet0 : Jet := ⟨0, 0, 0, []⟩
def jd (l : List Jet) (i : Nat) : Jet := l.getD i jet0
theorem jd_at {l : List Jet} {i : Nat} (h : i < l.length) : l[i]? = some (jd l i) := by
  unfold jd
  rw [List.getD_eq_getElem?_getD, List.getElem?_eq_getElem h]
  rfl
theorem zip_idx (l : List Jet) : l.zipIdx = (List.range l.length).map fun i => (jd l i, i) := by
  apply List.ext_getElem?
  intro i
  rw [List.getElem?_zipIdx, List.getElem?_map]
  by_cases h : i < l.length
  · rw [jd_at h, List.getElem?_range h]
    simp
  · rw [List.getElem?_eq_none (by omega), List.getElem?_eq_none (by rw [List.length_range]; omega)]
    rfl
def finM (a : Jet) : Frac := ⟨1, a.e * a.e⟩
def joinM (reach : Int) (a b : Jet) : Frac := ⟨apart a b, reach * reach * (most a b * most a b)⟩
def fins (l : List Jet) : List (Next × Frac) := (List.range l.length).map fun i => (Next.done i, finM (jd l i))
def joinsOf (reach : Int) (l : List Jet) (i : Nat) : List (Next × Frac) := ((List.range l.length).filter fun j => decide (i < j)).map fun j => (Next.join i j, joinM reach (jd l i) (jd l j))
def joins (reach : Int) (l : List Jet) : List (Next × Frac) := (List.range l.length).flatMap (joinsOf reach l)
/-- the steps by their places -/
theorem choices_is (reach : Int) (l : List Jet) : choices reach l = fins l ++ joins reach l := by
  unfold choices
  dsimp only
  rw [zip_idx]
  congr 1
  · unfold fins
    rw [List.map_map]
    rfl
  · unfold joins
    rw [List.flatMap_map]
    congr 1
    funext i
    unfold joinsOf
    dsimp only
    rw [List.filter_map, List.map_map]
    rfl
def EPos (l : List Jet) : Prop := ∀ a ∈ l, 1 ≤ a.e
theorem epos_at {l : List Jet} (h : EPos l) {i : Nat} (hi : i < l.length) : 1 ≤ (jd l i).e := h _ (List.mem_of_getElem? (jd_at hi))
theorem fins_pos {l : List Jet} (h : EPos l) : DPos (fins l) := fun x hx => by
  unfold fins at hx
  obtain ⟨i, hi, rfl⟩ := List.mem_map.mp hx
  have := epos_at h (List.mem_range.mp hi)
  show 0 < (jd l i).e * (jd l i).e
  exact Int.mul_pos (by omega) (by omega)
theorem most_pos {a b : Jet} (ha : 1 ≤ a.e) : 1 ≤ most a b := by
  unfold most
  omega
theorem joins_pos {reach : Int} (hr : 1 ≤ reach) {l : List Jet} (h : EPos l) : DPos (joins reach l) := fun x hx => by
  unfold joins at hx
  obtain ⟨i, hi, hx⟩ := List.mem_flatMap.mp hx
  unfold joinsOf at hx
  obtain ⟨j, hj, rfl⟩ := List.mem_map.mp hx
  have h1 := most_pos (b := jd l j) (epos_at h (List.mem_range.mp hi))
  show 0 < reach * reach * (most (jd l i) (jd l j) * most (jd l i) (jd l j))
  exact Int.mul_pos (Int.mul_pos (by omega) (by omega)) (Int.mul_pos (by omega) (by omega))
theorem choices_pos {reach : Int} (hr : 1 ≤ reach) {l : List Jet} (h : EPos l) : DPos (choices reach l) := fun x hx => by
  rw [choices_is] at hx
  exact (List.mem_append.mp hx).elim (fins_pos h x) (joins_pos hr h x)
/-- a step names places that there are -/
def Fits (n : Nat) : Next → Prop
  | .done i => i < n
  | .join i j => i < j ∧ j < n
theorem choices_fit {reach : Int} {l : List Jet} {x : Next × Frac} (h : x ∈ choices reach l) : Fits l.length x.1 := by
  rw [choices_is] at h
  rcases List.mem_append.mp h with h | h
  · unfold fins at h
    obtain ⟨i, hi, rfl⟩ := List.mem_map.mp h
    exact List.mem_range.mp hi
  · unfold joins at h
    obtain ⟨i, hi, h⟩ := List.mem_flatMap.mp h
    unfold joinsOf at h
    obtain ⟨j, hj, rfl⟩ := List.mem_map.mp h
    obtain ⟨h1, h2⟩ := List.mem_filter.mp hj
    exact ⟨of_decide_eq_true h2, List.mem_range.mp h1⟩
/-- what a step makes of the pseudojets: what is finished, what is left -/
def after (l : List Jet) : Next → List Jet × List Jet
  | .done i => ([jd l i], l.eraseIdx i)
  | .join i j => ([], (l.set i (joined (jd l i) (jd l j))).eraseIdx j)
theorem gather_succ (reach : Int) (f : Nat) (l : List Jet) : gather reach (f + 1) l = match least (choices reach l) with
    | none => []
    | some x => match x.1 with
      | .done i => (match l[i]? with
        | none => []
        | some a => a :: gather reach f (l.eraseIdx i))
      | .join i j => match l[i]?, l[j]? with
        | some a, some b => gather reach f ((l.set i (joined a b)).eraseIdx j)
        | _, _ => [] := rfl
theorem gather_step {reach : Int} {f : Nat} {l : List Jet} {x : Next × Frac} (h : least (choices reach l) = some x) : gather reach (f + 1) l = (after l x.1).1 ++ gather reach f (after l x.1).2 := by
  have fit := choices_fit (least_mem h)
  rw [gather_succ, h]
  dsimp only
  obtain ⟨nx, fr⟩ := x
  cases nx with
  | done i =>
    have e := jd_at (l := l) (i := i) fit
    dsimp only
    rw [e]
    rfl
  | join i j =>
    obtain ⟨h1, h2⟩ : i < j ∧ j < l.length := fit
    have e1 := jd_at (l := l) (i := i) (by omega)
    have e2 := jd_at (l := l) (i := j) h2
    dsimp only
    rw [e1, e2]
    rfl
theorem gather_nil (reach : Int) (f : Nat) : gather reach f [] = [] := by
  cases f <;> rfl
theorem choices_some {reach : Int} {l : List Jet} (h : l ≠ []) : ∃ x, least (choices reach l) = some x := by
  cases e : least (choices reach l) with
  | some x => exact ⟨x, rfl⟩
  | none =>
    have := least_none e
    rw [choices_is] at this
    have h1 := (List.append_eq_nil_iff.mp this).1
    unfold fins at h1
    rw [List.map_eq_nil_iff, List.range_eq_nil] at h1
    exact absurd (List.length_eq_zero_iff.mp h1) h
theorem after_length {l : List Jet} {x : Next} (h : Fits l.length x) : (after l x).2.length + 1 = l.length := by
  cases x with
  | done i =>
    have hi : i < l.length := h
    show (l.eraseIdx i).length + 1 = l.length
    rw [List.length_eraseIdx_of_lt hi]
    omega
  | join i j =>
    obtain ⟨h1, h2⟩ : i < j ∧ j < l.length := h
    show ((l.set i (joined (jd l i) (jd l j))).eraseIdx j).length + 1 = l.length
    rw [List.length_eraseIdx_of_lt (by rw [List.length_set]; exact h2), List.length_set]
    omega
/-- the fuel is never used up -/
theorem gather_fuel {reach : Int} : ∀ (f g : Nat) (l : List Jet), l.length ≤ f → l.length ≤ g → gather reach f l = gather reach g l
  | f, g, [], _, _ => by rw [gather_nil, gather_nil]
  | 0, _, _ :: _, h, _ => by simp at h
  | _ + 1, 0, _ :: _, _, h => by simp at h
  | f + 1, g + 1, a :: l, hf, hg => by
    obtain ⟨x, hx⟩ := choices_some (reach := reach) (l := a :: l) (by simp)
    have hl := after_length (choices_fit (least_mem hx))
    rw [gather_step hx, gather_step hx, gather_fuel f g _ (by omega) (by omega)]
def esum (l : List Jet) : Int := sum (l.map fun a => a.e)
theorem joined_e (a b : Jet) : (joined a b).e = a.e + b.e := by
  unfold joined
  split <;> rfl
theorem epos_after {l : List Jet} (h : EPos l) {x : Next} (hx : Fits l.length x) : EPos (after l x).2 ∧ EPos (after l x).1 := by
  cases x with
  | done i =>
    refine ⟨fun a ha => h a (List.mem_of_mem_eraseIdx ha), fun a ha => ?_⟩
    rw [List.mem_singleton.mp ha]
    exact epos_at h hx
  | join i j =>
    obtain ⟨h1, h2⟩ : i < j ∧ j < l.length := hx
    refine ⟨fun a ha => ?_, fun a ha => by simp [after] at ha⟩
    have ha := List.mem_of_mem_eraseIdx ha
    rcases List.mem_or_eq_of_mem_set ha with e | e
    · exact h a e
    · have q1 := epos_at h (i := i) (by omega)
      have q2 := epos_at h h2
      rw [e, joined_e]
      omega
end JM
set_option maxRecDepth 20000
namespace JM
open Sj24
/-! ### jets by decreasing energy -/
theorem insert_perm (x : Jet) : ∀ l : List Jet, (insert x l).Perm (x :: l)
  | [] => .refl _
  | y :: r => by
    unfold Sj24.insert
    split
    · exact .refl _
    · exact ((insert_perm x r).cons y).trans (.swap x y r)
theorem ordered_cons (x : Jet) (l : List Jet) : ordered (x :: l) = insert x (ordered l) := rfl
theorem ordered_perm : ∀ l : List Jet, (ordered l).Perm l
  | [] => .refl _
  | x :: l => by
    rw [ordered_cons]
    exact (insert_perm x _).trans ((ordered_perm l).cons x)
def Down (l : List Jet) : Prop := l.Pairwise fun a b => b.e ≤ a.e
theorem insert_down {x : Jet} : ∀ {l : List Jet}, Down l → Down (insert x l)
  | [], _ => List.pairwise_singleton _ _
  | y :: r, h => by
    obtain ⟨h1, h2⟩ := List.pairwise_cons.mp h
    unfold Sj24.insert
    by_cases c : y.e ≤ x.e
    · rw [if_pos c]
      refine List.pairwise_cons.mpr ⟨fun z hz => ?_, h⟩
      rcases List.mem_cons.mp hz with e | hz
      · rw [e]
        exact c
      · have := h1 z hz
        omega
    · rw [if_neg c]
      refine List.pairwise_cons.mpr ⟨fun z hz => ?_, insert_down h2⟩
      rcases List.mem_cons.mp ((insert_perm x r).mem_iff.mp hz) with e | hz
      · rw [e]
        omega
      · exact h1 z hz
theorem ordered_down : ∀ l : List Jet, Down (ordered l)
  | [] => .nil
  | x :: l => by
    rw [ordered_cons]
    exact insert_down (ordered_down l)
def ofE (k : Int) (l : List Jet) : List Jet := l.filter fun a => a.e == k
theorem ofE_cons (k : Int) (x : Jet) (l : List Jet) : ofE k (x :: l) = if x.e = k then x :: ofE k l else ofE k l := by
  unfold ofE
  by_cases c : x.e = k
  · rw [if_pos c, List.filter_cons_of_pos (by simpa using c)]
  · rw [if_neg c, List.filter_cons_of_neg (by simpa using c)]
theorem ofE_insert (k : Int) (x : Jet) : ∀ {l : List Jet}, Down l → ofE k (insert x l) = ofE k (x :: l)
  | [], _ => rfl
  | y :: r, h => by
    obtain ⟨h1, h2⟩ := List.pairwise_cons.mp h
    unfold Sj24.insert
    by_cases c : y.e ≤ x.e
    · rw [if_pos c]
    · rw [if_neg c, ofE_cons, ofE_insert k x h2, ofE_cons, ofE_cons k x (y :: r), ofE_cons k y r]
      by_cases c1 : x.e = k
      · have c2 : ¬ y.e = k := by omega
        rw [if_pos c1, if_pos c1, if_neg c2, if_neg c2]
      · rw [if_neg c1, if_neg c1]
theorem ofE_ordered (k : Int) : ∀ l : List Jet, ofE k (ordered l) = ofE k l
  | [] => rfl
  | x :: l => by
    rw [ordered_cons, ofE_insert k x (ordered_down l), ofE_cons, ofE_cons, ofE_ordered k l]
theorem mem_ofE {k : Int} {x : Jet} {l : List Jet} : x ∈ ofE k l ↔ x ∈ l ∧ x.e = k := by
  unfold ofE
  rw [List.mem_filter]
  simp
/-- downwards, and alike among equals: one list -/
theorem down_uniq : ∀ {l m : List Jet}, Down l → Down m → (∀ k, ofE k l = ofE k m) → l = m
  | [], [], _, _, _ => rfl
  | [], y :: m, _, _, h => by
    have : y ∈ ofE y.e ([] : List Jet) := by rw [h]; exact mem_ofE.mpr ⟨List.mem_cons_self, rfl⟩
    simp [ofE] at this
  | x :: l, [], _, _, h => by
    have : x ∈ ofE x.e ([] : List Jet) := by rw [← h]; exact mem_ofE.mpr ⟨List.mem_cons_self, rfl⟩
    simp [ofE] at this
  | x :: l, y :: m, hl, hm, h => by
    obtain ⟨a1, a2⟩ := List.pairwise_cons.mp hl
    obtain ⟨b1, b2⟩ := List.pairwise_cons.mp hm
    have hx : x ∈ y :: m := (mem_ofE.mp (by rw [← h x.e]; exact mem_ofE.mpr ⟨List.mem_cons_self, rfl⟩ : x ∈ ofE x.e (y :: m))).1
    have hy : y ∈ x :: l := (mem_ofE.mp (by rw [h y.e]; exact mem_ofE.mpr ⟨List.mem_cons_self, rfl⟩ : y ∈ ofE y.e (x :: l))).1
    have e1 : x.e ≤ y.e := by
      rcases List.mem_cons.mp hx with e | hx
      · rw [e]
        exact Int.le_refl _
      · exact b1 x hx
    have e2 : y.e ≤ x.e := by
      rcases List.mem_cons.mp hy with e | hy
      · rw [e]
        exact Int.le_refl _
      · exact a1 y hy
    have e : x.e = y.e := by omega
    have q := h x.e
    rw [ofE_cons, ofE_cons, if_pos rfl, if_pos e.symm] at q
    injection q with q1 q2
    subst q1
    rw [down_uniq a2 b2 fun k => ?_]
    have q := h k
    rw [ofE_cons, ofE_cons] at q
    by_cases c : x.e = k
    · rw [if_pos c, if_pos c] at q
      injection q
    · rw [if_neg c, if_neg c] at q
      exact q
/-! ### clusters of a jet, in increasing order -/
theorem insertNat_perm (x : Nat) : ∀ l : List Nat, (insertNat x l).Perm (x :: l)
  | [] => .refl _
  | y :: r => by
    unfold insertNat
    split
    · exact .refl _
    · exact ((insertNat_perm x r).cons y).trans (.swap x y r)
theorem rising_perm : ∀ l : List Nat, (rising l).Perm l
  | [] => .refl _
  | x :: l => (insertNat_perm x _).trans ((rising_perm l).cons x)
theorem insertNat_up {x : Nat} : ∀ {l : List Nat}, l.Pairwise (· ≤ ·) → (insertNat x l).Pairwise (· ≤ ·)
  | [], _ => List.pairwise_singleton _ _
  | y :: r, h => by
    obtain ⟨h1, h2⟩ := List.pairwise_cons.mp h
    unfold insertNat
    by_cases c : x ≤ y
    · rw [if_pos c]
      refine List.pairwise_cons.mpr ⟨fun z hz => ?_, h⟩
      rcases List.mem_cons.mp hz with e | hz
      · rw [e]
        exact c
      · exact Nat.le_trans c (h1 z hz)
    · rw [if_neg c]
      refine List.pairwise_cons.mpr ⟨fun z hz => ?_, insertNat_up h2⟩
      rcases List.mem_cons.mp ((insertNat_perm x r).mem_iff.mp hz) with e | hz
      · rw [e]
        omega
      · exact h1 z hz
theorem rising_up : ∀ l : List Nat, (rising l).Pairwise (· ≤ ·)
  | [] => .nil
  | x :: l => insertNat_up (rising_up l)
/-- two lists in order with the same numbers -/
theorem up_uniq : ∀ {l m : List Int}, l.Pairwise (· ≤ ·) → m.Pairwise (· ≤ ·) → l.Perm m → l = m
  | [], m, _, _, h => h.nil_eq
  | x :: l, [], _, _, h => absurd h.symm.nil_eq (by simp)
  | x :: l, y :: m, hl, hm, h => by
    obtain ⟨a1, a2⟩ := List.pairwise_cons.mp hl
    obtain ⟨b1, b2⟩ := List.pairwise_cons.mp hm
    have e : x = y := by
      have hx := h.mem_iff.mp (List.mem_cons_self (a := x) (l := l))
      have hy := h.mem_iff.mpr (List.mem_cons_self (a := y) (l := m))
      rcases List.mem_cons.mp hx with e | hx
      · exact e
      · rcases List.mem_cons.mp hy with e | hy
        · exact e.symm
        · have := a1 y hy
          have := b1 x hx
          omega
    subst e
    rw [up_uniq a2 b2 (List.Perm.cons_inv h)]
theorem rising_is {l : List Nat} {ns : List Int} (hp : ns.Perm (l.map fun (n : Nat) => (n : Int))) (hs : ns.Pairwise (· ≤ ·)) : ns = (rising l).map fun (n : Nat) => (n : Int) := by
  refine up_uniq hs ?_ (hp.trans ((rising_perm l).map _).symm)
  rw [List.pairwise_map]
  exact (rising_up l).imp fun h => by omega
/-! ### windows -/
theorem starts_zero {w : Nat} (hw : w ≤ 32) : 0 ∈ starts w := by
  unfold starts
  refine List.mem_filter.mpr ⟨List.mem_range.mpr (by decide), decide_eq_true ?_⟩
  show 0 % 32 + w ≤ 32
  omega
/-- the scan for the greatest -/
def top1 (e : Nat → Int) (b : Nat × Int) (l : List Nat) : Nat × Int := l.foldl (fun b k => if b.2 < e k then (k, e k) else b) b
theorem best_is (h : House) (w n : Nat) : best h w n = top1 (inWindow h w n) (0, inWindow h w n 0) (starts w) := rfl
theorem top1_append (e : Nat → Int) (b : Nat × Int) (l m : List Nat) : top1 e b (l ++ m) = top1 e (top1 e b l) m := by
  unfold top1
  exact List.foldl_append
end JM
set_option maxRecDepth 20000
namespace JM
open Sj24
/-! ### the numbers of pseudojets -/
structure JOk (j : Jet) : Prop where
  e : 1 ≤ j.e
  c0 : -4096 ≤ j.col
  c1 : j.col ≤ 4096
  r0 : 0 ≤ j.row
  r1 : j.row < 2048
theorem min_way (a b : Int) : (if b < a then b else a) = min a b := by
  split <;> omega
theorem max_way (a b : Int) : (if b > a then b else a) = max a b := by
  split <;> omega
/-- the rows' distance, the shorter way -/
theorem rows_apart {a b : Int} (a0 : 0 ≤ a) (a1 : a < 2048) (b0 : 0 ≤ b) (b1 : b < 2048) : min (if a - b < 0 then -(a - b) else a - b) (2048 - (if a - b < 0 then -(a - b) else a - b)) = min ((a - b) % 2048) (2048 - (a - b) % 2048) := by
  split <;> omega
theorem apart_eq (a b : Jet) : apart a b = (a.col - b.col) * (a.col - b.col) + min ((a.row - b.row) % 2048) (2048 - (a.row - b.row) % 2048) * min ((a.row - b.row) % 2048) (2048 - (a.row - b.row) % 2048) := rfl
theorem apart_bound {a b : Jet} (A : JOk a) (B : JOk b) : 0 ≤ apart a b ∧ apart a b ≤ 68157440 := by
  have h1 := mul_bound (a := a.col - b.col) (b := a.col - b.col) (A := 8192) (B := 8192) (by have := A.c0; have := A.c1; have := B.c0; have := B.c1; omega) (by have := A.c0; have := A.c1; have := B.c0; have := B.c1; omega) (by decide) (by decide)
  have h2 := mul_bound (a := min ((a.row - b.row) % 2048) (2048 - (a.row - b.row) % 2048)) (b := min ((a.row - b.row) % 2048) (2048 - (a.row - b.row) % 2048)) (A := 1024) (B := 1024) (by omega) (by omega) (by decide) (by decide)
  have p1 : 0 ≤ (a.col - b.col) * (a.col - b.col) := by
    rcases Int.le_total 0 (a.col - b.col) with h | h
    · exact Int.mul_nonneg h h
    · exact Int.mul_nonneg_of_nonpos_of_nonpos h h
  have p2 : 0 ≤ min ((a.row - b.row) % 2048) (2048 - (a.row - b.row) % 2048) * min ((a.row - b.row) % 2048) (2048 - (a.row - b.row) % 2048) := Int.mul_nonneg (by omega) (by omega)
  rw [apart_eq]
  omega
theorem joined_col (a b : Jet) : (joined a b).col = if a.e < b.e then b.col else a.col := by
  unfold joined
  split <;> rfl
theorem joined_row (a b : Jet) : (joined a b).row = if a.e < b.e then b.row else a.row := by
  unfold joined
  split <;> rfl
theorem joined_members (a b : Jet) : (joined a b).members = a.members ++ b.members := by
  unfold joined
  split <;> rfl
theorem joined_ok {a b : Jet} (A : JOk a) (B : JOk b) : JOk (joined a b) := by
  refine ⟨by rw [joined_e]; have := A.e; have := B.e; omega, ?_, ?_, ?_, ?_⟩
  · rw [joined_col]; have := A.c0; have := B.c0; split <;> assumption
  · rw [joined_col]; have := A.c1; have := B.c1; split <;> assumption
  · rw [joined_row]; have := A.r0; have := B.r0; split <;> assumption
  · rw [joined_row]; have := A.r1; have := B.r1; split <;> assumption
/-! ### the numbers of all of them together -/
def msum (l : List Jet) : Nat := (l.map fun a => a.members.length).sum
structure AllOk (l : List Jet) (E : Int) (n : Nat) : Prop where
  ok : ∀ a ∈ l, JOk a
  e : esum l ≤ E
  m : msum l ≤ n
theorem jd_mem {l : List Jet} {i : Nat} (h : i < l.length) : jd l i ∈ l := List.mem_of_getElem? (jd_at h)
theorem AllOk.epos {l : List Jet} {E : Int} {n : Nat} (A : AllOk l E n) : EPos l := fun a ha => (A.ok a ha).e
theorem esum_cons (a : Jet) (l : List Jet) : esum (a :: l) = a.e + esum l := rfl
theorem msum_cons (a : Jet) (l : List Jet) : msum (a :: l) = a.members.length + msum l := by
  unfold msum
  rw [List.map_cons, List.sum_cons]
theorem esum_erase : ∀ {l : List Jet} {i : Nat}, i < l.length → esum (l.eraseIdx i) = esum l - (jd l i).e
  | [], i, h => absurd h (by simp)
  | a :: l, 0, _ => by
    show esum l = esum (a :: l) - a.e
    rw [esum_cons]
    omega
  | a :: l, i + 1, h => by
    have ih := esum_erase (l := l) (i := i) (by simpa using h)
    show esum (a :: l.eraseIdx i) = esum (a :: l) - (jd l i).e
    rw [esum_cons, esum_cons, ih]
    omega
theorem msum_erase : ∀ {l : List Jet} {i : Nat}, i < l.length → msum (l.eraseIdx i) + (jd l i).members.length = msum l
  | [], i, h => absurd h (by simp)
  | a :: l, 0, _ => by
    show msum l + a.members.length = msum (a :: l)
    rw [msum_cons]
    omega
  | a :: l, i + 1, h => by
    have ih := msum_erase (l := l) (i := i) (by simpa using h)
    show msum (a :: l.eraseIdx i) + (jd l i).members.length = msum (a :: l)
    rw [msum_cons, msum_cons]
    omega
theorem esum_set : ∀ {l : List Jet} {i : Nat} (b : Jet), i < l.length → esum (l.set i b) = esum l - (jd l i).e + b.e
  | [], i, b, h => absurd h (by simp)
  | a :: l, 0, b, _ => by
    show esum (b :: l) = esum (a :: l) - a.e + b.e
    rw [esum_cons, esum_cons]
    omega
  | a :: l, i + 1, b, h => by
    have ih := esum_set (l := l) (i := i) b (by simpa using h)
    show esum (a :: l.set i b) = esum (a :: l) - (jd l i).e + b.e
    rw [esum_cons, esum_cons, ih]
    omega
theorem msum_set : ∀ {l : List Jet} {i : Nat} (b : Jet), i < l.length → msum (l.set i b) + (jd l i).members.length = msum l + b.members.length
  | [], i, b, h => absurd h (by simp)
  | a :: l, 0, b, _ => by
    show msum (b :: l) + a.members.length = msum (a :: l) + b.members.length
    rw [msum_cons, msum_cons]
    omega
  | a :: l, i + 1, b, h => by
    have ih := msum_set (l := l) (i := i) b (by simpa using h)
    show msum (a :: l.set i b) + (jd l i).members.length = msum (a :: l) + b.members.length
    rw [msum_cons, msum_cons]
    omega
theorem jd_set_ne {l : List Jet} {i j : Nat} (b : Jet) (h : i ≠ j) : jd (l.set i b) j = jd l j := by
  unfold jd
  rw [List.getD_eq_getElem?_getD, List.getD_eq_getElem?_getD, List.getElem?_set_ne h]
theorem allOk_after {l : List Jet} {E : Int} {n : Nat} (A : AllOk l E n) {x : Next} (hx : Fits l.length x) : AllOk (after l x).2 E n := by
  cases x with
  | done i =>
    have hi : i < l.length := hx
    refine ⟨fun a ha => A.ok a (List.mem_of_mem_eraseIdx ha), ?_, ?_⟩
    · have h1 : esum (after l (.done i)).2 = _ := esum_erase hi
      have h2 := (A.ok _ (jd_mem hi)).e
      have := A.e
      omega
    · have h1 : msum (after l (.done i)).2 + _ = _ := msum_erase hi
      have := A.m
      omega
  | join i j =>
    obtain ⟨h1, h2⟩ : i < j ∧ j < l.length := hx
    have hi : i < l.length := by omega
    have hj : j < (l.set i (joined (jd l i) (jd l j))).length := by rw [List.length_set]; exact h2
    refine ⟨fun a ha => ?_, ?_, ?_⟩
    · rcases List.mem_or_eq_of_mem_set (List.mem_of_mem_eraseIdx ha) with e | e
      · exact A.ok a e
      · rw [e]
        exact joined_ok (A.ok _ (jd_mem hi)) (A.ok _ (jd_mem h2))
    · have q1 : esum (after l (.join i j)).2 = _ := esum_erase hj
      rw [esum_set _ hi, jd_set_ne _ (by omega), joined_e] at q1
      have := A.e
      omega
    · have q1 : msum (after l (.join i j)).2 + _ = _ := msum_erase hj
      rw [jd_set_ne _ (by omega)] at q1
      have q2 := msum_set (joined (jd l i) (jd l j)) hi
      rw [joined_members, List.length_append] at q2
      have := A.m
      omega
theorem e_le {l : List Jet} {E : Int} {n : Nat} (A : AllOk l E n) {a : Jet} (h : a ∈ l) : a.e ≤ E := by
  have h1 := le_sum (l.map fun a => a.e) (fun x hx => by
    obtain ⟨b, hb, rfl⟩ := List.mem_map.mp hx
    have := (A.ok b hb).e
    omega) a.e (List.mem_map.mpr ⟨a, h, rfl⟩)
  have := A.e
  unfold esum at this
  omega
theorem m_le : ∀ {l : List Jet} {a : Jet}, a ∈ l → a.members.length ≤ msum l
  | b :: l, a, h => by
    rw [msum_cons]
    rcases List.mem_cons.mp h with e | h
    · rw [e]
      omega
    · have := m_le h
      omega
/-! ### the first smallest by its place -/
theorem least_at : ∀ {L : List (Next × Frac)} {g : Nat} {y : Next × Frac}, L[g]? = some y → (∀ (i : Nat) (z : Next × Frac), i < g → L[i]? = some z → y.2.less z.2 = true) → (∀ z ∈ L, ¬ z.2.less y.2 = true) → least L = some y
  | [], g, y, h, _, _ => by simp at h
  | z :: r, 0, y, h, _, h2 => by
    have e : z = y := Option.some.inj h
    subst e
    rw [least_cons]
    cases hr : least r with
    | none => rfl
    | some u => exact if_neg (h2 u (List.mem_cons_of_mem _ (least_mem hr)))
  | z :: r, g + 1, y, h, h1, h2 => by
    have ih := least_at (L := r) (g := g) (y := y) h (fun i u hi hu => h1 (i + 1) u (by omega) hu) fun u hu => h2 u (List.mem_cons_of_mem _ hu)
    rw [least_cons, ih]
    exact if_pos (h1 0 z (by omega) rfl)
theorem sq_lt {a b : Int} (ha : 1 ≤ a) (hb : 1 ≤ b) : a * a < b * b ↔ a < b := by
  constructor
  · intro h
    refine Int.not_le.mp fun c => ?_
    have := Int.mul_le_mul c c (by omega) (by omega)
    omega
  · intro h
    have h1 : a * a < a * b := Int.mul_lt_mul_of_pos_left h (by omega)
    have h2 : a * b < b * b := Int.mul_lt_mul_of_pos_right h (by omega)
    omega
theorem fin_less {a b : Jet} (ha : 1 ≤ a.e) (hb : 1 ≤ b.e) : (finM a).less (finM b) = true ↔ b.e < a.e := by
  rw [less_iff]
  show 1 * (b.e * b.e) < 1 * (a.e * a.e) ↔ _
  rw [Int.one_mul, Int.one_mul]
  exact sq_lt hb ha
theorem fins_at {l : List Jet} {i : Nat} (h : i < l.length) : (fins l)[i]? = some (Next.done i, finM (jd l i)) := by
  unfold fins
  rw [List.getElem?_map, List.getElem?_range h]
  rfl
theorem fins_lt {l : List Jet} {i : Nat} {z : Next × Frac} (h : (fins l)[i]? = some z) : i < l.length ∧ z = (Next.done i, finM (jd l i)) := by
  have hi : i < l.length := by
    have := (List.getElem?_eq_some_iff.mp h).1
    unfold fins at this
    rw [List.length_map, List.length_range] at this
    exact this
  rw [fins_at hi] at h
  exact ⟨hi, (Option.some.inj h).symm⟩
/-- what is finished first: the first one with the greatest energy -/
theorem least_fins {l : List Jet} (E : EPos l) {g : Nat} (F : FirstMax (l.map fun a => a.e) g) : g < l.length ∧ least (fins l) = some (Next.done g, finM (jd l g)) := by
  obtain ⟨m, h1, h2, h3⟩ := F
  have hg : g < l.length := by
    have := (List.getElem?_eq_some_iff.mp h1).1
    rw [List.length_map] at this
    exact this
  have em : m = (jd l g).e := by
    rw [List.getElem?_map, jd_at hg] at h1
    exact (Option.some.inj h1).symm
  refine ⟨hg, least_at (fins_at hg) (fun i z hi hz => ?_) fun z hz => ?_⟩
  · obtain ⟨hl, rfl⟩ := fins_lt hz
    refine (fin_less (epos_at E hg) (epos_at E hl)).mpr ?_
    have a1 := h2 (jd l i).e (List.mem_map.mpr ⟨_, jd_mem hl, rfl⟩)
    have a2 := h3 i (jd l i).e hi (by rw [List.getElem?_map, jd_at hl]; rfl)
    omega
  · obtain ⟨i, hi⟩ := List.getElem?_of_mem hz
    obtain ⟨hl, rfl⟩ := fins_lt hi
    intro c
    have c := (fin_less (epos_at E hl) (epos_at E hg)).mp c
    have a1 := h2 (jd l i).e (List.mem_map.mpr ⟨_, jd_mem hl, rfl⟩)
    omega
/-- all steps: the scan over the pairs, from the one that would be finished -/
theorem least_choices {reach : Int} (hr : 1 ≤ reach) {l : List Jet} (E : EPos l) {g : Nat} (F : FirstMax (l.map fun a => a.e) g) : least (choices reach l) = some (scan (Next.done g, finM (jd l g)) (joins reach l)) := by
  obtain ⟨hg, hl⟩ := least_fins E F
  have hp := choices_pos hr E
  rw [choices_is] at *
  cases hf : fins l with
  | nil =>
    rw [hf] at hl
    cases hl
  | cons x r =>
    rw [hf] at hl hp
    rw [List.cons_append] at *
    rw [least_scan hp, scan_append]
    have hp1 : DPos (x :: r) := fun z hz => by
      rw [← hf] at hz
      exact fins_pos E z hz
    rw [least_scan hp1] at hl
    rw [Option.some.inj hl]
/-! ### the pairs by their places -/
theorem above_range (n i : Nat) : (List.range n).filter (fun j => decide (i < j)) = (List.range (n - (i + 1))).map fun t => i + 1 + t := by
  induction n with
  | zero => simp
  | succ n ih =>
    rw [List.range_succ, List.filter_append, ih]
    by_cases h : i < n
    · have e : n + 1 - (i + 1) = (n - (i + 1)) + 1 := by omega
      rw [e, List.range_succ, List.map_append, List.filter_cons_of_pos (by simpa using h)]
      congr 1
      show [n] = [i + 1 + (n - (i + 1))]
      congr 1
      omega
    · have e : n + 1 - (i + 1) = n - (i + 1) := by omega
      rw [e, List.filter_cons_of_neg (by simpa using h)]
      simp
theorem joinsOf_is (reach : Int) (l : List Jet) (i : Nat) : joinsOf reach l i = (List.range (l.length - (i + 1))).map fun t => (Next.join i (i + 1 + t), joinM reach (jd l i) (jd l (i + 1 + t))) := by
  unfold joinsOf
  rw [above_range, List.map_map]
  rfl
/-- the pairs whose first one stands ahead of i, and those of i whose second one is among the first t -/
def upTo (reach : Int) (l : List Jet) (i t : Nat) : List (Next × Frac) := (List.range i).flatMap (joinsOf reach l) ++ (List.range t).map fun t => (Next.join i (i + 1 + t), joinM reach (jd l i) (jd l (i + 1 + t)))
theorem upTo_zero (reach : Int) (l : List Jet) : upTo reach l 0 0 = [] := rfl
theorem upTo_next (reach : Int) (l : List Jet) (i t : Nat) : upTo reach l i (t + 1) = upTo reach l i t ++ [(Next.join i (i + 1 + t), joinM reach (jd l i) (jd l (i + 1 + t)))] := by
  unfold upTo
  rw [List.range_succ, List.map_append, List.append_assoc]
  rfl
theorem upTo_row (reach : Int) (l : List Jet) (i : Nat) : upTo reach l i (l.length - (i + 1)) = upTo reach l (i + 1) 0 := by
  unfold upTo
  rw [← joinsOf_is, List.range_succ, List.flatMap_append]
  simp
theorem upTo_all (reach : Int) (l : List Jet) : upTo reach l l.length 0 = joins reach l := by
  unfold upTo joins
  simp
theorem scan_snoc (a : Next × Frac) (L : List (Next × Frac)) (y : Next × Frac) : scan a (L ++ [y]) = if y.2.less (scan a L).2 then y else scan a L := by
  rw [scan_append]
  rfl
/-- a measure as the program keeps it: times reach * reach -/
def Meas (R : Int) (f : Frac) (n d : Int) : Prop := 0 < d ∧ ((f.n = 1 ∧ f.d = d ∧ n = R) ∨ (f.n = n ∧ f.d = R * d))
theorem meas_fin {R : Int} {a : Jet} (h : 1 ≤ a.e) : Meas R (finM a) R (a.e * a.e) := ⟨Int.mul_pos (by omega) (by omega), .inl ⟨rfl, rfl, rfl⟩⟩
theorem meas_join {reach : Int} {a b : Jet} (h : 1 ≤ a.e) : Meas (reach * reach) (joinM reach a b) (apart a b) (most a b * most a b) :=
  ⟨Int.mul_pos (by have := most_pos (b := b) h; omega) (by have := most_pos (b := b) h; omega), .inr ⟨rfl, rfl⟩⟩
theorem join_less {reach : Int} (hr : 1 ≤ reach) {a b : Jet} {f : Frac} {n d : Int} (M : Meas (reach * reach) f n d) : (joinM reach a b).less f = true ↔ apart a b * d < n * most a b * most a b := by
  have R : 0 < reach * reach := Int.mul_pos (by omega) (by omega)
  obtain ⟨_, ⟨e1, e2, e3⟩ | ⟨e1, e2⟩⟩ := M
  · rw [less_iff, e1, e2, e3]
    show apart a b * d < 1 * (reach * reach * (most a b * most a b)) ↔ _
    rw [Int.one_mul, Int.mul_assoc (reach * reach)]
  · rw [less_iff, e1, e2]
    show apart a b * (reach * reach * d) < n * (reach * reach * (most a b * most a b)) ↔ _
    have q1 : apart a b * (reach * reach * d) = reach * reach * (apart a b * d) := by rw [Int.mul_left_comm]
    have q2 : n * (reach * reach * (most a b * most a b)) = reach * reach * (n * most a b * most a b) := by rw [Int.mul_left_comm, Int.mul_assoc n]
    rw [q1, q2]
    exact ⟨fun h => Int.lt_of_mul_lt_mul_left h (Int.le_of_lt R), fun h => Int.mul_lt_mul_of_pos_left h R⟩
end JM
set_option maxRecDepth 20000
namespace JM
open Sj24
/-! ### a cluster as a pseudojet -/
theorem wsum_abs {g : Part → Int} : ∀ (ps : List Part), (∀ p ∈ ps, 0 ≤ p.e) → (∀ p ∈ ps, -1 ≤ g p ∧ g p ≤ 1) → -(sum (ps.map fun p => p.e)) ≤ sum (ps.map fun p => p.e * g p) ∧ sum (ps.map fun p => p.e * g p) ≤ sum (ps.map fun p => p.e)
  | [], _, _ => by simp [sum]
  | p :: ps, h0, h1 => by
    have ih := wsum_abs ps (fun q hq => h0 q (List.mem_cons_of_mem _ hq)) fun q hq => h1 q (List.mem_cons_of_mem _ hq)
    have a := h0 p List.mem_cons_self
    have b := h1 p List.mem_cons_self
    have c := mul_bound (a := p.e) (b := g p) (A := p.e) (B := 1) (by omega) (by omega) a (by decide)
    show -(p.e + sum (ps.map fun p => p.e)) ≤ p.e * g p + sum (ps.map fun p => p.e * g p) ∧ p.e * g p + sum (ps.map fun p => p.e * g p) ≤ p.e + sum (ps.map fun p => p.e)
    omega
theorem nearest_64 {x e : Int} (h : 1 ≤ e) (h0 : -e ≤ x) (h1 : x ≤ e) : -64 ≤ nearest (64 * x) e ∧ nearest (64 * x) e ≤ 64 := by
  unfold nearest
  constructor
  · exact (Int.le_ediv_iff_mul_le (by omega)).mpr (by omega)
  · exact Int.le_of_lt_add_one ((Int.ediv_lt_iff_lt_mul (by omega)).mpr (by omega))
theorem clu_jok {c : Cluster} (O : CluOk c) (ms : List Nat) : JOk ⟨c.e, c.col, c.row, ms⟩ := by
  have hx := wsum_abs (g := fun p => ((p.block % SIDE : Nat) : Int) - ((c.seed % SIDE : Nat) : Int)) c.parts O.e0 fun p hp => by
    show -1 ≤ ((p.block % 32 : Nat) : Int) - ((c.seed % 32 : Nat) : Int) ∧ ((p.block % 32 : Nat) : Int) - ((c.seed % 32 : Nat) : Int) ≤ 1
    rcases O.near p hp with e | m
    · rw [e]
      omega
    · obtain ⟨_, _, _, h4, h5⟩ := mem_about.mp m
      omega
  have q := nearest_64 O.pos hx.1 hx.2
  have hs := O.seed
  have ec : c.col = 64 * ((c.seed % 32 : Nat) : Int) + nearest (64 * sum (c.parts.map fun p => p.e * (((p.block % SIDE : Nat) : Int) - ((c.seed % SIDE : Nat) : Int)))) c.e := rfl
  have er : c.row = (64 * ((c.seed / SIDE : Nat) : Int) + nearest (64 * sum (c.parts.map fun p => p.e * rowStep c.seed p.block)) c.e) % 2048 := rfl
  refine ⟨O.pos, ?_, ?_, ?_, ?_⟩
  · show -4096 ≤ c.col
    rw [ec]
    omega
  · show c.col ≤ 4096
    rw [ec]
    omega
  · show 0 ≤ c.row
    rw [er]
    omega
  · show c.row < 2048
    rw [er]
    omega
/-- the pseudojets at first -/
def jets0 (l : List Cluster) : List Jet := l.zipIdx.map fun x => ⟨x.1.e, x.1.col, x.1.row, [x.2]⟩
theorem jets0_len (l : List Cluster) : (jets0 l).length = l.length := by
  unfold jets0
  rw [List.length_map, List.length_zipIdx]
theorem jets0_at {l : List Cluster} {i : Nat} {c : Cluster} (h : l[i]? = some c) : (jets0 l)[i]? = some ⟨c.e, c.col, c.row, [i]⟩ := by
  unfold jets0
  rw [List.getElem?_map, List.getElem?_zipIdx, h]
  simp
theorem jets0_mem {l : List Cluster} {j : Jet} (h : j ∈ jets0 l) : ∃ (c : Cluster) (i : Nat), c ∈ l ∧ j = ⟨c.e, c.col, c.row, [i]⟩ := by
  unfold jets0 at h
  obtain ⟨⟨c, i⟩, hm, rfl⟩ := List.mem_map.mp h
  exact ⟨c, i, List.fst_mem_of_mem_zipIdx hm, rfl⟩
theorem msum_one : ∀ (l : List Jet), (∀ j ∈ l, j.members.length = 1) → msum l = l.length
  | [], _ => rfl
  | a :: l, h => by
    rw [msum_cons, h a List.mem_cons_self, msum_one l fun j hj => h j (List.mem_cons_of_mem _ hj), List.length_cons]
    omega
theorem jets0_ok {l : List Cluster} (hl : l.length ≤ 1024) (O : ∀ c ∈ l, CluOk c) : AllOk (jets0 l) 10376293541461622784 1024 := by
  refine ⟨fun j hj => ?_, ?_, ?_⟩
  · obtain ⟨c, i, hc, rfl⟩ := jets0_mem hj
    exact clu_jok (O c hc) _
  · have h := sum_bound (B := 10133099161583616) ((jets0 l).map fun a => a.e) fun x hx => by
      obtain ⟨j, hj, rfl⟩ := List.mem_map.mp hx
      obtain ⟨c, i, hc, rfl⟩ := jets0_mem hj
      have := clu_e_bound (O c hc)
      have := (O c hc).pos
      show -10133099161583616 ≤ c.e ∧ c.e ≤ 10133099161583616
      omega
    rw [List.length_map, jets0_len] at h
    unfold esum
    omega
  · rw [msum_one _ fun j hj => by
      obtain ⟨c, i, _, rfl⟩ := jets0_mem hj
      rfl, jets0_len]
    exact hl
theorem jetsOf_is (reach : Int) (l : List Cluster) : jetsOf reach l = gather reach l.length (jets0 l) := by
  show gather reach (2 * l.length) (jets0 l) = _
  exact gather_fuel _ _ _ (by rw [jets0_len]; omega) (by rw [jets0_len]; omega)
theorem gather_one {reach : Int} {l : List Jet} {x : Next × Frac} (h : least (choices reach l) = some x) : gather reach l.length l = (after l x.1).1 ++ gather reach (after l x.1).2.length (after l x.1).2 := by
  have fit := after_length (choices_fit (least_mem h))
  have e : l.length = (after l x.1).2.length + 1 := fit.symm
  rw [e]
  exact gather_step h
theorem gather_facts {reach : Int} {E : Int} {n : Nat} : ∀ (f : Nat) (l : List Jet), AllOk l E n → (∀ j ∈ gather reach f l, j.members.length ≤ n) ∧ (gather reach f l).length ≤ l.length
  | f, [], _ => by
    rw [gather_nil]
    simp
  | 0, a :: l, _ => by
    show (∀ j ∈ ([] : List Jet), _) ∧ ([] : List Jet).length ≤ _
    simp
  | f + 1, a :: l, A => by
    obtain ⟨x, hx⟩ := choices_some (reach := reach) (l := a :: l) (by simp)
    have fit := choices_fit (least_mem hx)
    have al := after_length fit
    obtain ⟨h1, h2⟩ := gather_facts f _ (allOk_after A fit)
    rw [gather_step hx]
    obtain ⟨y, fr⟩ := x
    cases y with
    | done i =>
      refine ⟨fun j hj => ?_, ?_⟩
      · rcases List.mem_append.mp hj with hj | hj
        · rw [List.mem_singleton.mp hj]
          have := m_le (jd_mem (l := a :: l) fit)
          have := A.m
          omega
        · exact h1 j hj
      · rw [List.length_append]
        show 1 + _ ≤ _
        omega
    | join i j =>
      refine ⟨fun j hj => ?_, ?_⟩
      · rcases List.mem_append.mp hj with hj | hj
        · cases hj
        · exact h1 j hj
      · rw [List.length_append]
        show 0 + _ ≤ _
        omega
/-! ### jets by decreasing energy, as the sort has them -/
theorem ofE_sort (k : Int) (l : List Jet) : ofE k (l.mergeSort fun a b => decide (b.e ≤ a.e)) = ofE k l := by
  have h : (ofE k l).Sublist (l.mergeSort fun a b => decide (b.e ≤ a.e)) := by
    refine List.sublist_mergeSort (fun a b c h1 h2 => ?_) (fun a b => ?_) ?_ List.filter_sublist
    · simp only [decide_eq_true_eq] at *
      omega
    · simp only [Bool.or_eq_true, decide_eq_true_eq]
      omega
    · refine List.pairwise_iff_forall_sublist.mpr fun {a b} s => ?_
      have ha := (mem_ofE.mp (s.subset List.mem_cons_self)).2
      have hb := (mem_ofE.mp (s.subset (List.mem_cons_of_mem _ List.mem_cons_self))).2
      rw [ha, hb]
      exact decide_eq_true (Int.le_refl _)
  have h2 : (ofE k (ofE k l)).Sublist (ofE k (l.mergeSort fun a b => decide (b.e ≤ a.e))) := h.filter _
  have e : ofE k (ofE k l) = ofE k l := by
    unfold ofE
    rw [List.filter_filter]
    simp
  rw [e] at h2
  refine (h2.eq_of_length ?_).symm
  exact ((List.mergeSort_perm l _).filter _).length_eq.symm
theorem sort_down (l : List Jet) : Down (l.mergeSort fun a b => decide (b.e ≤ a.e)) := by
  have := List.pairwise_mergeSort (le := fun (a b : Jet) => decide (b.e ≤ a.e)) (fun a b c h1 h2 => by
    simp only [decide_eq_true_eq] at *
    omega) (fun a b => by
    simp only [Bool.or_eq_true, decide_eq_true_eq]
    omega) l
  exact this.imp fun h => of_decide_eq_true h
theorem ordered_sort (l : List Jet) : ordered l = l.mergeSort fun a b => decide (b.e ≤ a.e) :=
  down_uniq (ordered_down l) (sort_down l) fun k => by rw [ofE_ordered, ofE_sort]
/-! ### sums -/
theorem sum_split (p : Nat → Bool) (e : Nat → Int) (l : List Nat) : sum ((l.filter p).map e) = sum (l.map e) - sum ((l.filter fun b => !p b).map e) := by
  induction l with
  | nil => rfl
  | cons a l ih =>
    by_cases h : p a = true
    · rw [List.filter_cons_of_pos h, List.filter_cons_of_neg (by simp [h])]
      show e a + sum ((l.filter p).map e) = e a + sum (l.map e) - _
      omega
    · rw [List.filter_cons_of_neg h, List.filter_cons_of_pos (by simpa using h)]
      show sum ((l.filter p).map e) = e a + sum (l.map e) - (e a + sum ((l.filter fun b => !p b).map e))
      omega
/-- the energy of the blocks that belong to a cluster -/
def insideOf (h : House) : Int := sum (((List.range 1024).filter fun b => !(owners h (seeds h) b).isEmpty).map h.e)
theorem inside_is (h : House) : insideOf h = total h - outside h := by
  unfold insideOf
  rw [sum_split]
  unfold total outside
  dsimp only
  congr 3
  exact List.filter_congr fun b _ => by simp
/-! ### windows -/
/-- the energies of w adjacent blocks -/
def strip (e : Nat → Int) (k w : Nat) : Int := sum ((List.range w).map fun c => e (k + c))
theorem inWindow_is (h : House) (w n row c : Nat) (hc : c < 32) : inWindow h w n (32 * row + c) = sum ((List.range n).map fun r => strip h.e ((row + r) % 32 * 32 + c) w) := by
  unfold inWindow strip
  have e1 : (32 * row + c) / SIDE = row := by show (32 * row + c) / 32 = row; omega
  have e2 : (32 * row + c) % SIDE = c := by show (32 * row + c) % 32 = c; omega
  rw [e1, e2]
  generalize List.range n = l
  induction l with
  | nil => rfl
  | cons r l ih =>
    rw [List.flatMap_cons, sum_append, ih]
    show sum ((List.range w).map fun c' => h.e ((row + r) % 32 * 32 + (c + c'))) + _ = sum ((List.range w).map fun c' => h.e ((row + r) % 32 * 32 + c + c')) + _
    congr 3
    funext c'
    rw [Nat.add_assoc]
/-- the blocks at which a window can begin, row by row -/
def firstsOf (w rows : Nat) : List Nat := (List.range rows).flatMap fun r => (List.range (33 - w)).map fun c => 32 * r + c
theorem range_rows : List.range 1024 = (List.range 32).flatMap fun r => (List.range 32).map fun c => 32 * r + c := by decide +kernel
theorem range_cut : ∀ w : Fin 33, 1 ≤ w.val → (List.range 32).filter (fun c => decide (c + w.val ≤ 32)) = List.range (33 - w.val) := by decide +kernel
theorem starts_all {w : Nat} (h0 : 1 ≤ w) (h1 : w ≤ 32) : starts w = firstsOf w 32 := by
  unfold starts firstsOf
  show (List.range 1024).filter (fun k => decide (k % 32 + w ≤ 32)) = _
  rw [range_rows, List.filter_flatMap]
  congr 1
  funext r
  rw [List.filter_map]
  have e : (List.range 32).filter ((fun k => decide (k % 32 + w ≤ 32)) ∘ fun c => 32 * r + c) = (List.range 32).filter fun c => decide (c + w ≤ 32) := by
    refine List.filter_congr fun c hc => ?_
    have hc := List.mem_range.mp hc
    show decide ((32 * r + c) % 32 + w ≤ 32) = _
    have : (32 * r + c) % 32 = c := by omega
    rw [this]
  rw [e, range_cut ⟨w, by omega⟩ h0]
theorem starts_is {w : Nat} (h0 : 1 ≤ w) (h1 : w ≤ 32) : starts w = firstsOf w 32 := starts_all h0 h1
/-- what was seen: whole rows, and the first c of the next one -/
def seenOf (w row c : Nat) : List Nat := firstsOf w row ++ (List.range c).map fun c => 32 * row + c
theorem seen_next (w row c : Nat) : seenOf w row (c + 1) = seenOf w row c ++ [32 * row + c] := by
  unfold seenOf
  rw [List.range_succ, List.map_append, List.append_assoc]
  rfl
theorem seen_row (w row : Nat) : seenOf w row (33 - w) = seenOf w (row + 1) 0 := by
  unfold seenOf firstsOf
  rw [List.range_succ, List.flatMap_append]
  simp
theorem top1_snoc (e : Nat → Int) (b : Nat × Int) (l : List Nat) (k : Nat) : top1 e b (l ++ [k]) = if (top1 e b l).2 < e k then (k, e k) else top1 e b l := by
  rw [top1_append]
  rfl
theorem best_seen {h : House} {w n : Nat} (h0 : 1 ≤ w) (h1 : w ≤ 32) (e0 : 0 ≤ inWindow h w n 0) : best h w n = top1 (inWindow h w n) (0, -1) (seenOf w 32 0) := by
  have es : starts w = 0 :: (starts w).tail := by
    have hm := starts_is h0 h1
    have : firstsOf w 32 = 0 :: (firstsOf w 32).tail := by
      unfold firstsOf
      have e : 33 - w = (32 - w) + 1 := by omega
      rw [e, show List.range 32 = 0 :: (List.range 31).map Nat.succ from List.range_succ_eq_map, List.range_succ_eq_map]
      rfl
    rw [hm]
    exact this
  have e1 : seenOf w 32 0 = starts w := by
    unfold seenOf
    rw [starts_is h0 h1]
    simp
  rw [best_is, e1, es]
  show top1 _ (if (0, inWindow h w n 0).2 < inWindow h w n 0 then (0, inWindow h w n 0) else (0, inWindow h w n 0)) _ = top1 _ (if ((0, -1) : Nat × Int).2 < inWindow h w n 0 then (0, inWindow h w n 0) else (0, -1)) _
  rw [if_pos (show ((0, -1) : Nat × Int).2 < inWindow h w n 0 by show (-1 : Int) < _; omega)]
  split <;> rfl
theorem inWindow_nonneg {h : House} (e0 : ∀ b, 0 ≤ h.e b) (w n k : Nat) : 0 ≤ inWindow h w n k := by
  unfold inWindow
  refine sum_nonneg _ fun x hx => ?_
  obtain ⟨r, _, hx⟩ := List.mem_flatMap.mp hx
  obtain ⟨c, _, rfl⟩ := List.mem_map.mp hx
  exact e0 _
end JM
set_option maxRecDepth 20000
namespace JM
open Sj24 Sj24Neutral
theorem inv8 {as : List Int} {q : Sj24.Call} (h : callOf (8 :: as) = some q) : ∃ c, as = [c] ∧ q = .parts c := by
  rcases as with _ | ⟨x, _ | ⟨y, ss⟩⟩ <;> simp [callOf] at h
  exact ⟨_, rfl, h.symm⟩
theorem inv9 {as : List Int} {q : Sj24.Call} (h : callOf (9 :: as) = some q) : as = [] ∧ q = .jets := by
  rcases as with _ | ⟨x, ss⟩ <;> simp [callOf] at h
  exact ⟨rfl, h.symm⟩
theorem inv10 {as : List Int} {q : Sj24.Call} (h : callOf (10 :: as) = some q) : ∃ c, as = [c] ∧ q = .jet c := by
  rcases as with _ | ⟨x, _ | ⟨y, ss⟩⟩ <;> simp [callOf] at h
  exact ⟨_, rfl, h.symm⟩
theorem inv11 {as : List Int} {q : Sj24.Call} (h : callOf (11 :: as) = some q) : as = [] ∧ q = .sums := by
  rcases as with _ | ⟨x, ss⟩ <;> simp [callOf] at h
  exact ⟨rfl, h.symm⟩
theorem inv12 {as : List Int} {q : Sj24.Call} (h : callOf (12 :: as) = some q) : ∃ a b, as = [a, b] ∧ q = .window a b := by
  rcases as with _ | ⟨x, _ | ⟨y, _ | ⟨z, ss⟩⟩⟩ <;> simp [callOf] at h
  exact ⟨_, _, rfl, h.symm⟩
theorem inv13 {as : List Int} {q : Sj24.Call} (h : callOf (13 :: as) = some q) : as = [] ∧ q = .clear := by
  rcases as with _ | ⟨x, ss⟩ <;> simp [callOf] at h
  exact ⟨rfl, h.symm⟩
theorem on_parts_bad {h : House} {b : Int} (g : ¬ (0 ≤ b ∧ b ≤ (h.clusters.length : Int) - 1)) : on h (.parts b) = (h, just (-2)) := by
  show (if (!isIn 0 (nat h.clusters.length - 1) b) = true then (h, just (-2)) else _) = _
  unfold nat
  rw [isIn_false g]
  rfl
theorem on_parts {h : House} {b : Int} {c : Cluster} (g : 0 ≤ b ∧ b ≤ (h.clusters.length : Int) - 1) (hc : h.clusters[b.toNat]? = some c) : on h (.parts b) = (h, ⟨nat c.parts.length, c.parts.flatMap fun p => [nat p.block, p.e]⟩) := by
  show (if (!isIn 0 (nat h.clusters.length - 1) b) = true then (h, just (-2)) else match h.clusters[b.toNat]? with
    | none => (h, just (-2))
    | some x => (h, (⟨nat x.parts.length, x.parts.flatMap fun p => [nat p.block, p.e]⟩ : Ans))) = _
  unfold nat
  rw [isIn_true g, hc]
  rfl
theorem on_jet_bad {h : House} {b : Int} (g : ¬ (0 ≤ b ∧ b ≤ (h.jets.length : Int) - 1)) : on h (.jet b) = (h, just (-2)) := by
  show (if (!isIn 0 (nat h.jets.length - 1) b) = true then (h, just (-2)) else _) = _
  unfold nat
  rw [isIn_false g]
  rfl
theorem on_jet {h : House} {b : Int} {c : Jet} (g : 0 ≤ b ∧ b ≤ (h.jets.length : Int) - 1) (hc : h.jets[b.toNat]? = some c) : on h (.jet b) = (h, ⟨nat c.members.length, [c.e, c.col, c.row] ++ (rising c.members).map nat⟩) := by
  show (if (!isIn 0 (nat h.jets.length - 1) b) = true then (h, just (-2)) else match h.jets[b.toNat]? with
    | none => (h, just (-2))
    | some x => (h, (⟨nat x.members.length, [x.e, x.col, x.row] ++ (rising x.members).map nat⟩ : Ans))) = _
  unfold nat
  rw [isIn_true g, hc]
  rfl
theorem on_jets {h : House} : on h .jets = ({ h with jets := ordered (jetsOf h.reach h.clusters) }, just ((ordered (jetsOf h.reach h.clusters)).length : Int)) := rfl
theorem on_sums {h : House} : on h .sums = (h, ⟨0, [total h, total h - outside h, outside h]⟩) := rfl
theorem on_window {h : House} {a b : Int} : on h (.window a b) = if (1 ≤ a ∧ a ≤ 32) ∧ 1 ≤ b ∧ b ≤ 32 then (h, ⟨nat (best h a.toNat b.toNat).1, [(best h a.toNat b.toNat).2]⟩) else (h, just (-2)) := by
  show (if (!isIn 1 32 a || !isIn 1 32 b) = true then (h, just (-2)) else _) = _
  refine ite_swap ?_
  rw [isIn_dec, isIn_dec, ← Bool.not_and, ← Bool.decide_and]
theorem on_clear {h : House} : on h .clear = ({ h with blocks := List.replicate BLOCKS none_, clusters := [], jets := [] }, just 0) := rfl
end JM
set_option Elab.async false
set_option maxRecDepth 100000
set_option maxHeartbeats 2000000
namespace J
open PySem PySem.Spec PyProof.Rows L2
/-- the i-th statement of the program -/
def top (i : Nat) : Stmt := PySem.Challenge.pw_jetblocks_s01_answers.main.body.getD i (.Pass ⟨0, 0, 0, 0⟩)
abbrev s_row_of : Stmt := top 5
abbrev s_column_of : Stmt := top 6
abbrev s_row_step : Stmt := top 7
abbrev s_column_step : Stmt := top 8
abbrev s_neighbours : Stmt := top 9
abbrev s_nearest : Stmt := top 11
abbrev s_present_time : Stmt := top 14
abbrev s_present_full : Stmt := top 15
abbrev s_is_seed : Stmt := top 16
abbrev s_seed_blocks : Stmt := top 17
abbrev s_owners_of : Stmt := top 18
abbrev s_divide : Stmt := top 19
abbrev s_clusters_of : Stmt := top 20
abbrev s_energy_inside : Stmt := top 21
abbrev s_squared_distance : Stmt := top 24
abbrev s_joined : Stmt := top 25
abbrev s_greatest_place : Stmt := top 26
abbrev s_next_step : Stmt := top 27
abbrev s_jets_of : Stmt := top 28
abbrev s_weighed_sum : Stmt := top 37
abbrev s_weigh : Stmt := top 38
abbrev s_check_range : Stmt := top 41
abbrev s_check_all : Stmt := top 42
abbrev s_strips_of : Stmt := top 44
abbrev s_greatest_window : Stmt := top 45
abbrev s_blank_readings : Stmt := top 53
abbrev s_answer_gain : Stmt := top 59
abbrev s_answer_weights : Stmt := top 60
abbrev s_answer_pulse : Stmt := top 61
abbrev s_answer_block : Stmt := top 62
abbrev s_answer_find_clusters : Stmt := top 63
abbrev s_answer_cluster : Stmt := top 64
abbrev s_answer_parts : Stmt := top 65
abbrev s_answer_find_jets : Stmt := top 66
abbrev s_answer_jet : Stmt := top 67
abbrev s_answer_sums : Stmt := top 68
abbrev s_answer_window : Stmt := top 69
abbrev s_answer_clear : Stmt := top 70
abbrev s_answers : Stmt := top 74
abbrev s_Cluster_init : Stmt := inClass (top 13) 0
abbrev s_Pseudojet_init : Stmt := inClass (top 23) 0
abbrev s_Gain_init : Stmt := inClass (top 35) 0
abbrev s_Reading_init : Stmt := inClass (top 36) 0
abbrev s_Detector_init : Stmt := inClass (top 54) 0
abbrev s_Detector_set_gain : Stmt := inClass (top 54) 1
abbrev s_Detector_set_weights : Stmt := inClass (top 54) 2
abbrev s_Detector_take_pulse : Stmt := inClass (top 54) 3
abbrev s_Detector_reading_of : Stmt := inClass (top 54) 4
abbrev s_Detector_present_energies : Stmt := inClass (top 54) 5
abbrev s_Detector_find_clusters : Stmt := inClass (top 54) 6
abbrev s_Detector_cluster_at : Stmt := inClass (top 54) 7
abbrev s_Detector_find_jets : Stmt := inClass (top 54) 8
abbrev s_Detector_jet_at : Stmt := inClass (top 54) 9
abbrev s_Detector_energy_sums : Stmt := inClass (top 54) 10
abbrev s_Detector_window_of : Stmt := inClass (top 54) 11
abbrev s_Detector_clear_blocks : Stmt := inClass (top 54) 12
abbrev s_Session_init : Stmt := inClass (top 73) 0
abbrev s_Session_answer : Stmt := inClass (top 73) 1
/-- a module's whole number -/
def IntAt (mg : Str → Option Value) (x : Str) (n : Int) : Prop := ∃ t, mg x = some (.int n t)
theorem pe_num {X : Cx} {x : Str} {n : Int} {pos : Pos} (h : IntAt X.mg x n) (hg : Gl X x := by rfl) (hd : (x == ("__debug__" : Str)) = false := by decide) : PE X (.Name x pos) (tC (.int n)) := by
  obtain ⟨t, m⟩ := h
  exact pe_glob (v := .int n) hg m ⟨_, rfl⟩ hd
/-- what a call asks of a def that stands at a module's name: it stands there, it keeps its promise, its arguments bind -/
structure Def (P : Program) (w : World) (K : PySem.W.Frag) (mg : Str → Option Value) (base : Heap) (CX : CXT) (x : Str) (k : Nat) (ps : List Str) (sp : Sp) : Prop where
  ex : ∃ f fd, FnOk P w K mg base CX k f fd ps sp ∧ mg x = some (.ref f) ∧ PySem.W.keepIn K (.ref f) = true ∧ Binds K fd ps []
/-- f(e, ..) of such a def that lets nothing out -/
theorem pe_def {X : Cx} {k j : Nat} {ps : List Str} {sp : Sp} {x : Str} {p pos : Pos} {e : Expr} {es : List Expr} {t : TA} (D : Def X.prog X.w X.K X.mg X.base CX0 x k ps sp) (hr : Room j X.A) (ha : PA X (e :: es) t) (hkj : k ≤ j := by decide) (hg : Gl X x := by rfl)
    (hdb : (x == ("__debug__" : Str)) = false := by decide) (he : starEach (e :: es) X.env = (false, eval e X.env) :: starEach es X.env := by rfl) (hpl : (backTo pos (starEach es X.env)).any (·.1) = false := by rfl) :
    PE X (.Call (.Name x p) (e :: es) [] pos) (tCall sp [] E0 t) := by
  obtain ⟨f, fd, F, hm, hk, hb⟩ := D.ex
  exact pe_call F (hr.mono hkj) hg hm hk hb .nil pass0 ha hdb he hpl
/-- a def of the text and what it keeps, as a callee -/
theorem Def.mk' {P : Program} {w : World} {K : PySem.W.Frag} {mg : Str → Option Value} {base : Heap} {CX : CXT} {x : Str} {k : Nat} {ps : List Str} {sp : Sp} {f : Addr} {fd : FuncData} (F : FnOk P w K mg base CX k f fd ps sp)
    (hm : mg x = some (.ref f)) (hk : PySem.W.keepIn K (.ref f) = true) (hb : Binds K fd ps []) : Def P w K mg base CX x k ps sp := ⟨⟨f, fd, F, hm, hk, hb⟩⟩
end J
set_option Elab.async false
set_option maxRecDepth 100000
set_option maxHeartbeats 2000000
namespace J
open PySem PySem.Spec PyProof.Rows L2
/-! ### rules that the layer lacks -/
section
variable {X : Cx}
/-- xs[j] of a list, for xs[j] op= e -/
def rGetN (K : PySem.W.Frag) : R2 := fun x y H Q => ∃ (p : Addr) (xs : List V) (j : Nat) (v : V), x = .ref p ∧ y = .int (j : Int) ∧ SqL K H p xs ∧ xs[j]? = some v ∧ Q v H
theorem get_list : PGet X (rGetN X.K) := by
  rintro pins s σ H x y ov iv Q I rx ry ⟨p, xs, j, z, rfl, rfl, hq, hj, q⟩
  cases rx
  obtain ⟨tk, rfl⟩ := ry
  obtain ⟨its, r, pl, hz⟩ := I.list hq
  obtain ⟨item, e1, e2⟩ := r.get hj
  refine wpAny_getItem_list pl.isList (Int.natCast_nonneg j) ?_ (by simpa using e1) ⟨z, H, I, e2, q⟩
  have h1 := (List.getElem?_eq_some_iff.mp hj).1
  have h2 := line63
  omega
/-- a dict of the module whose keys are whole numbers -/
def intKey : Value → Bool
  | .int _ _ => true
  | _ => false
def intOf : Value → Int
  | .int i _ => i
  | _ => 0
def chkInts (es : Array DictEntry) : Bool := es.toList.all fun e => intKey e.key && e.hash == hashInt (intOf e.key)
def KInt (K : PySem.W.Frag) (a : Addr) (i : Int) (v : V) : Prop :=
  ∃ es n u, K.lookup a = some ⟨.type "dict", none, .dict es n, #[]⟩ ∧ chkInts es = true ∧ findBy keyIs es (.inl i) = some u ∧ RelV v u
def rIxKI (K : PySem.W.Frag) : R2 := fun x y H Q => ∃ p i v, x = .ref p ∧ y = .int i ∧ KInt K p i v ∧ Q v H
theorem ix_kint : IxR X (rIxKI X.K) := by
  intro value slice pins s σ H x y v u Q I rx ry h hs
  obtain ⟨p, i, r, rfl, rfl, ⟨es, n, u0, hl, hk, e, ru⟩, q⟩ := h
  obtain rfl : v = Value.ref p := rx
  obtain ⟨t, rfl⟩ := ry
  have ks : PySem.KeysOf (mixKind X.prog X.w) es := fun e he => by
    have h1 := List.all_eq_true.mp hk e (Array.mem_toList_iff.mpr he)
    rw [Bool.and_eq_true, beq_iff_eq] at h1
    obtain ⟨h2, h3⟩ := h1
    obtain ⟨hh, ky, vl⟩ := e
    cases ky with
    | int j t => exact ⟨.inl j, mixKind_int X.prog X.w j t, h3⟩
    | _ => cases h2
  have hm : s.heap.MapOf (mixKind X.prog X.w) p (fun k => findBy keyIs es k) := ⟨_, es, n, I.kIn _ _ hl, ⟨rfl, rfl, rfl⟩, rfl, ks, fun _ => rfl⟩
  exact tail_any hm.typeIs slot_dict_getitem.lookup (wpAny_getItem_of (mixKind_int X.prog X.w i t) hm e ⟨r, H, I.tok _, ru, q⟩) hs
end
/-- a def that may raise, held as a value -/
structure HeldX (P : Program) (w : World) (K : PySem.W.Frag) (mg : Str → Option Value) (base : Heap) (k : Nat) (f : Addr) (sp : Sp) : Prop where
  ex : ∃ (fd : FuncData) (ps : List Str), FnOk P w K mg base (L2.CX P w) k f fd ps sp ∧ PySem.W.keepIn K (.ref f) = true ∧ Binds K fd ps []
/-- a call of what an expression gives, a def: within a try -/
def tCallF (P : Program) (w : World) (K : PySem.W.Frag) (mg : Str → Option Value) (base : Heap) (k : Nat) (E : L2.St → XK) (tf : TE) (t : TA) : TE :=
  fun σ H Q => tf σ H fun x H1 => ∃ f sp, x = .ref f ∧ HeldX P w K mg base k f sp ∧ t σ H1 fun vs H2 => sp vs H2 Q (E σ)
section
variable {X : Cx} {k j : Nat} {f C : Addr} {fd : FuncData} {ps : List Str} {sp : Sp} {E : L2.St → XK} {x m : Str} {p pos apos : Pos} {g e o : Expr} {es : List Expr} {ta tf : TE} {t : TA} {pl : Sem Bool}
theorem pe_callF (hf : PE X g tf) (hr : Room k X.A) (hx : ∀ σ, PassesAt (L2.CX X.prog X.w) X σ (E σ)) (ha : PA X (e :: es) t)
    (he : starEach (e :: es) X.env = (false, eval e X.env) :: starEach es X.env := by rfl) (hpl : (backTo pos (starEach es X.env)).any (·.1) = false := by rfl)
    (hc : eval (.Call g (e :: es) [] pos) X.env = (do callWith pos (← eval g X.env) [] (backTo pos (starEach (e :: es) X.env)) (backToKw pos (keywordEach [] X.env))) := by rfl) :
    PE X (.Call g (e :: es) [] pos) (tCallF X.prog X.w X.K X.mg X.base k E tf t) := by
  refine ⟨fun pins s σ H Q I h => ?_⟩
  refine Call_ (thn (hf.run pins s σ H _ I h) fun u s1 ⟨v, H1, I1, r1, fa, sp, ev, ⟨fd, ps, F, hk, hb⟩, q1⟩ => ?_) hc
  subst ev
  cases r1
  refine PySem.W.callWith_K (h₀ := X.base) I.ok.mod.kin hk (thn (ha.run pos pins s1 σ _ _ I1 q1) fun us s2 ⟨vs, H2, I2, r, q⟩ => ⟨I2.kIn, ?_⟩) he hpl
  exact run_fnS F hr hb (hx σ) I2 r q
/-- o.m(e, ..) within a try: what it raises is wished for at the slots as they stand -/
def tMethS (C : Addr) (m : Str) (sp : Sp) (E : L2.St → XK) (ta : TE) (t : TA) : TE := fun σ H Q => ta σ H fun x H1 => ∃ a dx fs, x = .ref a ∧ H1 a = some (.ins C dx fs) ∧ fs.lookup m = none ∧ t σ H1 fun vs H2 => sp (x :: vs) H2 Q (E σ)
theorem pe_methS {CX : CXT} (he : PE X o ta) (c : Cls X.K C) (hm : Meth X.K C m f)
    (F : FnOk X.prog X.w X.K X.mg X.base CX k f fd ps sp) (hr : Room k X.A) (hb : Binds X.K fd ps []) (hx : ∀ σ, PassesAt CX X σ (E σ)) (ha : PA X (e :: es) t)
    (hst : starEach (e :: es) X.env = (false, eval e X.env) :: starEach es X.env := by rfl) (hpl : (backTo pos (starEach es X.env)).any (·.1) = false := by rfl)
    (ht : eval (.Call (.Attribute o m apos) (e :: es) [] pos) X.env = (do
      let ov ← eval o X.env
      standAt apos.atName
      let (f, first) ← holding [ov] (getMethod ov m pl)
      callWith pos f first (backTo pos (starEach (e :: es) X.env)) (backToKw pos (keywordEach [] X.env))) := by rfl) :
    PE X (.Call (.Attribute o m apos) (e :: es) [] pos) (tMethS C m sp E ta t) := by
  refine ⟨fun pins s σ H Q I h => ?_⟩
  refine PySem.W.methodCall_KW (pl := pl) (thn (he.run pins s σ H _ I h) fun u s1 ⟨x, H1, I1, rx, a, dx, fs, ex, ea, l, q⟩ => ?_) ht
  subst ex
  obtain rfl : u = Value.ref a := rx
  refine getmeth_ok I1 ea c hm l ?_
  refine PySem.W.callWith_K (first := [.ref a]) (h₀ := X.base) I.ok.mod.kin hm.kp (thn (ha.run pos pins s1 σ H1 _ I1 q) fun us s2 ⟨vs, H2, I2, r, q2⟩ => ⟨I2.kIn, ?_⟩) hst hpl
  exact run_fnS (us := .ref a :: us) (vs := .ref a :: vs) F hr hb (hx σ) I2 (.cons rfl r) q2
/-- C(e, ..) whose __init__ may raise, within a try -/
def tMakeS (C : Addr) (sp : Sp) (E : L2.St → XK) (t : TA) : TE := fun σ H Q => t σ H fun vs H1 => ∀ x dx, H1 x = none → H1 dx = none → dx ≠ x →
  sp (.ref x :: vs) (upd (upd H1 dx (.own x)) x (.ins C dx [])) (fun v H2 => v = .non ∧ Q (.ref x) H2) (E σ)
theorem run_makeS {CX : CXT} {E : XK} {pins : List (Addr × Obj)} {σ : L2.St} {H : Hp} {s : Shared} {Q : VK} {us : List Value} {vs : List V} (M : Mk X.K C f) (F : FnOk X.prog X.w X.K X.mg X.base CX k f fd ps sp) (hr : Room (k + 1) X.A) (hb : Binds X.K fd ps [])
    (hx : PassesAt CX X σ E) (I : Inv X pins σ H s) (r : Vals vs us)
    (h : ∀ x dx, H x = none → H dx = none → dx ≠ x → sp (.ref x :: vs) (upd (upd H dx (.own x)) x (.ins C dx [])) (fun v H2 => v = .non ∧ Q (.ref x) H2) E) :
    wpAny (model X.prog X.w) X.A (call (.ref C) us) (EP X pins σ Q) X.xe s := by
  have hq := h (s.heap.objs.size + 1) s.heap.objs.size (I.hok.fresh (Nat.le_succ _)) (I.hok.fresh (Nat.le_refl _)) (Nat.ne_of_lt (Nat.lt_succ_self _))
  have I2 := Inv.made (C := C) I
  have r2 : Vals (V.ref (s.heap.objs.size + 1) :: vs) (Value.ref (s.heap.objs.size + 1) :: us) := .cons rfl r
  have hl : (Value.ref (s.heap.objs.size + 1) :: us).length = ps.length := by
    have e := r2.length
    rw [F.len _ _ _ _ hq] at e
    exact e.symm
  have b := hb _ (Value.ref (s.heap.objs.size + 1) :: us) I2.kIn (by rw [List.append_nil]; exact hl)
  rw [List.append_nil] at b
  refine wpAny_call (make_map (f := f) I.kIn M.makes M.init (beq_iff_eq.mp M.fn) (codeAny_mono (F.run _ X.stack _ _ ⟨Value.ref (s.heap.objs.size + 1) :: us, []⟩ (Value.ref (s.heap.objs.size + 1) :: us) _ _ E (hr.make C us [])
    (I2.env0.make C us []) b r2 hq) fun r s' hq' => ?_))
  cases r with
  | error e => exact hx pins _ _ e s' I2 hq'
  | ok fl =>
    cases fl with
    | ret u =>
      obtain ⟨v, H', I3, rv, ev, q3⟩ := I2.after hq'
      subst ev
      exact ⟨rv, ⟨V.ref (s.heap.objs.size + 1), H', I3, rfl, q3⟩⟩
    | next => exact False.elim hq'
    | brk => exact False.elim hq'
    | cont => exact False.elim hq'
theorem pe_makeS {CX : CXT} (M : Mk X.K C f) (F : FnOk X.prog X.w X.K X.mg X.base CX k f fd ps sp) (hr : Room (k + 1) X.A) (hg : Gl X x) (hm : X.mg x = some (.ref C)) (hb : Binds X.K fd ps []) (hx : ∀ σ, PassesAt CX X σ (E σ))
    (ha : PA X (e :: es) t) (hdb : (x == ("__debug__" : Str)) = false := by decide) (he : starEach (e :: es) X.env = (false, eval e X.env) :: starEach es X.env := by rfl) (hpl : (backTo pos (starEach es X.env)).any (·.1) = false := by rfl) :
    PE X (.Call (.Name x p) (e :: es) [] pos) (tMakeS C sp E t) := by
  refine ⟨fun pins s σ H Q I h => ?_⟩
  refine wpAny_Call_Name_kw (ld_glob I hg hm ?_ hdb)
  refine PySem.W.callWith_K (h₀ := X.base) I.ok.mod.kin M.kp (thn (ha.run pos pins s σ H _ I h) fun us s1 ⟨vs, H1, I1, r, q⟩ => ⟨I1.kIn, ?_⟩) he hpl
  exact run_makeS M F hr hb (hx σ) I1 r q
end
/-- X() of an own exception class without __init__ -/
theorem pmk_own0 {X : Cx} {C : Addr} {bmB : List Value} {B newId initId : String} {x : Str} {p pos : Pos} (F : ExcBaseFacts B newId initId bmB) (q : PySem.W.excIn X.K C bmB newId = true) (gC : X.mg x = some (.ref C)) (kC : PySem.W.keepIn X.K (.ref C) = true) (r : Raises X (.ref C)) (hg : Gl X x)
    (hdb : (x == ("__debug__" : Str)) = false := by decide) : PMk X (.Call (.Name x p) [] [] pos) (fun _ H Q => Q (.ref C) none H) := by
  intro pins s σ H Q I h
  refine wpAny_Call_Name_kw (ld_glob I hg gC ?_ hdb)
  refine PySem.W.callWith_K0 (first := []) I.kIn kC ?_
  obtain ⟨bm, N, nm, qn, bs, hdct, sn, sub, ab, col, dd, k0, k1, k2, k3, k5, mN, hC, hN, hni, T⟩ := exc_obj I.kIn q
  refine wpAny_call_exc_subT F T hC hN hni (fun h' e hm => ?_) (by show 0 ≤ sizeLine; omega)
  exact mk_of I hm r h (I.hok.gone hm.new)
/-- f(e, ..) of a def that may raise, out of a def that may raise the same -/
theorem pe_defX {X : Cx} {k j : Nat} {ps : List Str} {sp : Sp} {E : XK} {x : Str} {p pos : Pos} {e : Expr} {es : List Expr} {t : TA} (D : Def X.prog X.w X.K X.mg X.base (L2.CX X.prog X.w) x k ps sp) (hr : Room j X.A) (tk : Takes X (fun cls d _ H => E cls d H)) (ha : PA X (e :: es) t) (hkj : k ≤ j := by decide) (hg : Gl X x := by rfl)
    (hdb : (x == ("__debug__" : Str)) = false := by decide) (he : starEach (e :: es) X.env = (false, eval e X.env) :: starEach es X.env := by rfl) (hpl : (backTo pos (starEach es X.env)).any (·.1) = false := by rfl) :
    PE X (.Call (.Name x p) (e :: es) [] pos) (tCall sp [] E t) := by
  obtain ⟨f, fd, F, hm, hk, hb⟩ := D.ex
  exact pe_call F (hr.mono hkj) hg hm hk hb .nil (passes_call tk fun _ _ _ _ h => h) ha hdb he hpl
/-- a class whose instances are made by a call of its name -/
structure Ctor (P : Program) (w : World) (K : PySem.W.Frag) (mg : Str → Option Value) (base : Heap) (CX : CXT) (x : Str) (C : Addr) (k : Nat) (ps : List Str) (sp : Sp) : Prop where
  ex : ∃ f fd, Mk K C f ∧ FnOk P w K mg base CX k f fd ps sp ∧ Binds K fd ps []
  g : mg x = some (.ref C)
theorem pe_new {X : Cx} {k j : Nat} {ps : List Str} {sp : Sp} {x : Str} {C : Addr} {p pos : Pos} {e : Expr} {es : List Expr} {t : TA} (D : Ctor X.prog X.w X.K X.mg X.base CX0 x C k ps sp) (hr : Room j X.A) (ha : PA X (e :: es) t) (hkj : k + 1 ≤ j := by decide) (hg : Gl X x := by rfl)
    (hdb : (x == ("__debug__" : Str)) = false := by decide) (he : starEach (e :: es) X.env = (false, eval e X.env) :: starEach es X.env := by rfl) (hpl : (backTo pos (starEach es X.env)).any (·.1) = false := by rfl) :
    PE X (.Call (.Name x p) (e :: es) [] pos) (tMake C sp [] E0 t) := by
  obtain ⟨f, fd, M, F, hb⟩ := D.ex
  exact pe_make M F (hr.mono hkj) hg D.g hb .nil pass0 ha hdb he hpl
/-- e.f, e any expression -/
theorem pe_at {X : Cx} {e : Expr} {f : Str} {t : TE} {pos : Pos} (he : PE X e t) (hb : attributeBase e f X.env (eval e X.env) = eval e X.env := by rfl) : PE X (.Attribute e f pos) (tFld X.K t f) := pe_fld he hb
/-- a method of a class, as a callee -/
structure MDef (P : Program) (w : World) (K : PySem.W.Frag) (mg : Str → Option Value) (base : Heap) (CX : CXT) (C : Addr) (m : Str) (k : Nat) (ps : List Str) (sp : Sp) : Prop where
  ex : ∃ f fd, FnOk P w K mg base CX k f fd ps sp ∧ Meth K C m f ∧ Binds K fd ps []
/-- o.m(e, ..) of a method that may raise, out of a def that may raise the same -/
theorem pe_methX {X : Cx} {k j : Nat} {ps : List Str} {sp : Sp} {E : XK} {C : Addr} {m : Str} {pos apos : Pos} {o e : Expr} {es : List Expr} {ta : TE} {t : TA} {pl : Sem Bool} (D : MDef X.prog X.w X.K X.mg X.base (L2.CX X.prog X.w) C m k ps sp) (c : Cls X.K C) (hr : Room j X.A) (tk : Takes X (fun cls d _ H => E cls d H)) (he : PE X o ta) (ha : PA X (e :: es) t) (hkj : k ≤ j := by decide)
    (hst : starEach (e :: es) X.env = (false, eval e X.env) :: starEach es X.env := by rfl) (hpl : (backTo pos (starEach es X.env)).any (·.1) = false := by rfl)
    (ht : eval (.Call (.Attribute o m apos) (e :: es) [] pos) X.env = (do
      let ov ← eval o X.env
      standAt apos.atName
      let (f, first) ← holding [ov] (getMethod ov m pl)
      callWith pos f first (backTo pos (starEach (e :: es) X.env)) (backToKw pos (keywordEach [] X.env))) := by rfl) :
    PE X (.Call (.Attribute o m apos) (e :: es) [] pos) (tMeth C m sp [] E ta t) := by
  obtain ⟨f, fd, F, hm, hb⟩ := D.ex
  exact pe_meth he c hm F (hr.mono hkj) hb .nil (passes_call tk fun _ _ _ _ h => h) ha hst hpl ht
/-- o.m() of a method that lets nothing out -/
theorem pe_methN {X : Cx} {k j : Nat} {ps : List Str} {sp : Sp} {C : Addr} {m : Str} {pos apos : Pos} {o : Expr} {ta : TE} {pl : Sem Bool} (D : MDef X.prog X.w X.K X.mg X.base CX0 C m k ps sp) (c : Cls X.K C) (hr : Room j X.A) (he : PE X o ta) (hkj : k ≤ j := by decide)
    (ht : eval (.Call (.Attribute o m apos) [] [] pos) X.env = (do
      let ov ← eval o X.env
      standAt apos.atName
      let (f, first) ← holding [ov] (getMethod ov m pl)
      callWith pos f first (backTo pos (starEach [] X.env)) (backToKw pos (keywordEach [] X.env))) := by rfl) :
    PE X (.Call (.Attribute o m apos) [] [] pos) (tMeth C m sp [] E0 ta tNil) := by
  obtain ⟨f, fd, F, hm, hb⟩ := D.ex
  exact pe_meth0 he c hm F (hr.mono hkj) hb .nil pass0 ht
end J
set_option Elab.async false
set_option maxRecDepth 100000
set_option maxHeartbeats 2000000
namespace J
open PySem PySem.Spec PyProof.Rows L2
section
variable {P : Program} {w : World} {K : PySem.W.Frag} {mg : Str → Option Value} {base : Heap} {f : Addr} {fd : FuncData}
theorem sc_row_of : FnScope ["block"] ["block"] (defScope s_row_of) := ⟨rfl, rfl, rfl, by decide +kernel, rfl, by decide +kernel, by decide +kernel⟩
def sp_row_of : Sp := fun vs H Q _ => ∃ b : Int, vs = [.int b] ∧ Q (.int (b / 32)) H
theorem ok_row_of (F : Fun K "row_of" "row_of" s_row_of f fd) (mS : IntAt mg "SIDE" 32) : FnOk P w K mg base CX0 1 f fd ["block"] sp_row_of := by
  refine F.ok sc_row_of (fun vs H Q E h => ?_) (fun cdv A outer s H vs Q E hr h => ?_)
  · obtain ⟨b, rfl, _⟩ := h
    rfl
  · obtain ⟨b, rfl, q⟩ := h
    refine ⟨_, pss_one (ps_ret (pe_op op_fdiv (pv 0) (pe_num mS))), ?_⟩
    exact ⟨_, rfl, _, _, rfl, rfl, ⟨by decide, by decide⟩, q⟩
theorem sc_column_of : FnScope ["block"] ["block"] (defScope s_column_of) := ⟨rfl, rfl, rfl, by decide +kernel, rfl, by decide +kernel, by decide +kernel⟩
def sp_column_of : Sp := fun vs H Q _ => ∃ b : Int, vs = [.int b] ∧ Q (.int (b % 32)) H
theorem ok_column_of (F : Fun K "column_of" "column_of" s_column_of f fd) (mS : IntAt mg "SIDE" 32) : FnOk P w K mg base CX0 1 f fd ["block"] sp_column_of := by
  refine F.ok sc_column_of (fun vs H Q E h => ?_) (fun cdv A outer s H vs Q E hr h => ?_)
  · obtain ⟨b, rfl, _⟩ := h
    rfl
  · obtain ⟨b, rfl, q⟩ := h
    refine ⟨_, pss_one (ps_ret (pe_op op_mod (pv 0) (pe_num mS))), ?_⟩
    exact ⟨_, rfl, _, _, rfl, rfl, (by show (0 : Int) < 32; decide), q⟩
theorem sc_row_step : FnScope ["start", "end"] ["start", "end"] (defScope s_row_step) := ⟨rfl, rfl, rfl, by decide +kernel, rfl, by decide +kernel, by decide +kernel⟩
def sp_row_step : Sp := fun vs H Q _ => ∃ a b : Int, vs = [.int a, .int b] ∧ Q (.int ((b / 32 - a / 32 + 1) % 32 - 1)) H
theorem ok_row_step (F : Fun K "row_step" "row_step" s_row_step f fd) (mS : IntAt mg "SIDE" 32) (dR : Def P w K mg base CX0 "row_of" 1 ["block"] sp_row_of) : FnOk P w K mg base CX0 2 f fd ["start", "end"] sp_row_step := by
  refine F.ok sc_row_step (fun vs H Q E h => ?_) (fun cdv A outer s H vs Q E hr h => ?_)
  · obtain ⟨a, b, rfl, _⟩ := h
    rfl
  · obtain ⟨a, b, rfl, q⟩ := h
    refine ⟨_, pss_one (ps_ret (pe_op op_sub (pe_op op_mod (pe_op op_add (pe_op op_sub (pe_def dR hr (pa_cons (pv 1) pa_nil)) (pe_def dR hr (pa_cons (pv 0) pa_nil))) pe_int) (pe_num mS)) pe_int)), ?_⟩
    exact ⟨_, rfl, _, rfl, _, rfl, _, rfl, _, _, rfl, rfl, _, _, rfl, rfl, _, _, rfl, rfl, (by show (0 : Int) < 32; decide), _, _, rfl, rfl, q⟩
theorem sc_column_step : FnScope ["start", "end"] ["start", "end"] (defScope s_column_step) := ⟨rfl, rfl, rfl, by decide +kernel, rfl, by decide +kernel, by decide +kernel⟩
def sp_column_step : Sp := fun vs H Q _ => ∃ a b : Int, vs = [.int a, .int b] ∧ Q (.int (b % 32 - a % 32)) H
theorem ok_column_step (F : Fun K "column_step" "column_step" s_column_step f fd) (dC : Def P w K mg base CX0 "column_of" 1 ["block"] sp_column_of) : FnOk P w K mg base CX0 2 f fd ["start", "end"] sp_column_step := by
  refine F.ok sc_column_step (fun vs H Q E h => ?_) (fun cdv A outer s H vs Q E hr h => ?_)
  · obtain ⟨a, b, rfl, _⟩ := h
    rfl
  · obtain ⟨a, b, rfl, q⟩ := h
    refine ⟨_, pss_one (ps_ret (pe_op op_sub (pe_def dC hr (pa_cons (pv 1) pa_nil)) (pe_def dC hr (pa_cons (pv 0) pa_nil)))), ?_⟩
    exact ⟨_, rfl, _, rfl, _, rfl, _, rfl, _, _, rfl, rfl, q⟩
theorem sc_nearest : FnScope ["dividend", "divisor"] ["dividend", "divisor"] (defScope s_nearest) := ⟨rfl, rfl, rfl, by decide +kernel, rfl, by decide +kernel, by decide +kernel⟩
def sp_nearest : Sp := fun vs H Q _ => ∃ a b : Int, vs = [.int a, .int b] ∧ 0 < b ∧ b.natAbs < 2 ^ 2000 ∧ Q (.int (Sj24.nearest a b)) H
theorem ok_nearest (F : Fun K "nearest" "nearest" s_nearest f fd) : FnOk P w K mg base CX0 1 f fd ["dividend", "divisor"] sp_nearest := by
  refine F.ok sc_nearest (fun vs H Q E h => ?_) (fun cdv A outer s H vs Q E hr h => ?_)
  · obtain ⟨a, b, rfl, _⟩ := h
    rfl
  · obtain ⟨a, b, rfl, h0, hb, q⟩ := h
    refine ⟨_, pss_one (ps_ret (pe_op op_fdivW (pe_op op_add (pe_op op_mul pe_int (pv 0)) (pv 1)) (pe_op op_mul pe_int (pv 1)))), ?_⟩
    refine ⟨_, rfl, _, _, rfl, rfl, .inl ⟨by decide, by decide⟩, _, rfl, _, _, rfl, rfl, _, rfl, _, _, rfl, rfl, .inl ⟨by decide, by decide⟩, _, _, rfl, rfl, ?_, q⟩
    have e : (2 * b).natAbs < 2 ^ (2 + 2000) := wide_lt (by decide) hb
    exact wide_div (by omega) e (by decide) (by decide)
end
end J
set_option Elab.async false
set_option maxRecDepth 100000
set_option maxHeartbeats 2000000
namespace J
open PySem PySem.Spec PyProof.Rows L2
theorem Same.upd {H H' : Hp} {l : Addr} {o : HO} (s : Same H H') (n : H l = none) : Same H (upd H' l o) := fun b u e => by
  rw [upd_ne (ne_of_none e n)]
  exact s b u e
theorem Same.new {H : Hp} {l : Addr} {o : HO} (n : H l = none) : Same H (L2.upd H l o) := Same.upd (Same.refl H) n
/-- one item more -/
theorem take_more {α : Type} : ∀ {l : List α} {i : Nat} {x : α}, l[i]? = some x → l.take (i + 1) = l.take i ++ [x]
  | [], i, x, h => by simp at h
  | a :: l, 0, x, h => by
    have e : a = x := Option.some.inj h
    subst e
    rfl
  | a :: l, i + 1, x, h => by
    have ih := take_more (l := l) (i := i) (x := x) h
    show a :: l.take (i + 1) = a :: l.take i ++ [x]
    rw [ih]
    rfl
theorem take_flat {α β : Type} {l : List α} {i : Nat} {x : α} (g : α → List β) (h : l[i]? = some x) : (l.take (i + 1)).flatMap g = (l.take i).flatMap g ++ g x := by
  rw [take_more h, List.flatMap_append, List.flatMap_cons, List.flatMap_nil, List.append_nil]
theorem lst_snoc {α : Type} {g : α → V} {l : List α} {z : α} : some (HO.lst (l.map g ++ [g z])) = some (HO.lst ((l ++ [z]).map g)) := by
  rw [List.map_append]
  rfl
/-- the i-th of mapped ints -/
theorem of_map {α : Type} {g : α → V} {ns : List α} {i : Nat} {y : V} (h : (ns.map g)[i]? = some y) : ∃ z, ns[i]? = some z ∧ y = g z := by
  rw [List.getElem?_map] at h
  cases e : ns[i]? with
  | none =>
    rw [e] at h
    cases h
  | some z =>
    rw [e] at h
    exact ⟨z, rfl, (Option.some.inj h).symm⟩
theorem len_flat {α β : Type} {g : α → List β} {k : Nat} (h : ∀ x, (g x).length ≤ k) : ∀ l : List α, (l.flatMap g).length ≤ l.length * k
  | [] => by simp
  | a :: l => by
    have h1 := h a
    have h2 := len_flat h l
    rw [List.flatMap_cons, List.length_append, List.length_cons, Nat.succ_mul]
    omega
section
variable {P : Program} {w : World} {K : PySem.W.Frag} {mg : Str → Option Value} {base : Heap} {f : Addr} {fd : FuncData}
theorem sc_neighbours : FnScope ["block", "near", "row", "column", "other"] ["block"] (defScope s_neighbours) := ⟨rfl, rfl, rfl, by decide +kernel, rfl, by decide +kernel, by decide +kernel⟩
/-- the neighbours of a block, a new list -/
def sp_neighbours : Sp := fun vs H Q _ => ∃ b : Nat, vs = [.int (b : Int)] ∧ b < 1024 ∧
  ∀ (H' : Hp) (p : Addr), Same H H' → H p = none → H' p = some (.lst ((JM.nbs b).map V.int)) → Q (.ref p) H'
theorem ok_neighbours (F : Fun K "neighbours" "neighbours" s_neighbours f fd) (mS : IntAt mg "SIDE" 32) (mSo : mg "sorted" = none)
    (dR : Def P w K mg base CX0 "row_of" 1 ["block"] sp_row_of) (dC : Def P w K mg base CX0 "column_of" 1 ["block"] sp_column_of) : FnOk P w K mg base CX0 2 f fd ["block"] sp_neighbours := by
  have nd := sc_neighbours.nd
  refine F.ok sc_neighbours (fun vs H Q E h => ?_) (fun cdv A outer s H vs Q E hr h => ?_)
  · obtain ⟨b, rfl, _⟩ := h
    rfl
  · obtain ⟨b, rfl, hb, q⟩ := h
    refine ⟨_, pss_cons (ps_set (i := 1) nd rfl (.inl rfl) (pe_lst pa_nil))
      (pss_cons (ps_for PassesOwn.never rfl (pi_tup (pe_tup (pa_cons (pe_op op_sub (pe_def dR hr (pa_cons (pv 0) pa_nil)) pe_int) (pa_cons (pe_def dR hr (pa_cons (pv 0) pa_nil)) (pa_cons (pe_op op_add (pe_def dR hr (pa_cons (pv 0) pa_nil)) pe_int) pa_nil)))))
          (pg_name (i := 2) nd rfl (.inl rfl))
        (pss_one (ps_for PassesOwn.never rfl (pi_tup (pe_tup (pa_cons (pe_op op_sub (pe_def dC hr (pa_cons (pv 0) pa_nil)) pe_int) (pa_cons (pe_def dC hr (pa_cons (pv 0) pa_nil)) (pa_cons (pe_op op_add (pe_def dC hr (pa_cons (pv 0) pa_nil)) pe_int) pa_nil)))))
          (pg_name (i := 3) nd rfl (.inl rfl))
          (pss_cons (ps_set (i := 4) nd rfl (.inl rfl) (pe_op op_add (pe_op op_mul (pe_op op_mod (pv 2) (pe_num mS)) (pe_num mS)) (pv 3)))
          (pss_one (ps_if (PW.pt (pw_and (pt_chain op_le op_lt pe_int (pv 3) (pe_num mS)) (pw_and1 (pt_cmpR op_ne (pv 4) (pv 0) (nomark _)))))
            (pss_one (ps_expr (pe_bm PySem.F.plainAttrs_list PySem.F.slot_list_append PySem.F.type_list_append mt_append (pv 1) (pa_cons (pv 4) pa_nil)))) pss_nil))))))
      (pss_one (ps_ret (pe_callB cr_sortedI (by rfl) mSo (by decide +kernel) (pa_cons (pv 1) pa_nil))))), ?_⟩
    refine ⟨by decide, fun l hl => ?_⟩
    refine ⟨_, rfl, _, rfl, _, _, rfl, rfl, _, rfl, _, rfl, _, rfl, _, rfl, _, _, rfl, rfl, (by show 3 ≤ sizeLine; decide), fun t ht => ?_⟩
    have nt : H t = none := by
      cases e : H t with
      | none => rfl
      | some o => rw [upd_ne (ne_of_none e hl), e] at ht; cases ht
    have ltne : l ≠ t := fun e => by rw [← e, upd_same] at ht; cases ht
    refine ⟨t, rfl, ⟨_, SqT.of upd_same⟩, for_tup (K := K) (a := t) (xs := [(b : Int) / 32 - 1, (b : Int) / 32, (b : Int) / 32 + 1].map V.int)
      (fun i σ H' => ∃ v2 v3 v4, σ = [some (.int (b : Int)), some (.ref l), v2, v3, v4] ∧ Same H H' ∧ H' t = some (.tup ([(b : Int) / 32 - 1, (b : Int) / 32, (b : Int) / 32 + 1].map V.int)) ∧
        H' l = some (.lst ((([(b : Int) / 32 - 1, (b : Int) / 32, (b : Int) / 32 + 1].take i).flatMap (JM.rowPart b)).map V.int)))
      ⟨none, none, none, rfl, Same.upd (Same.new hl) nt, upd_same, by rw [upd_ne ltne]; exact upd_same⟩ (fun i σ H' _ ⟨_, _, _, _, _, h1, _⟩ => SqT.of h1) ?_ ?_⟩
    · rintro i x σ H1 hx ⟨v2, v3, v4, rfl, S1, T1, L1⟩
      obtain ⟨r, hr', rfl⟩ := of_map hx
      have fl := take_flat (JM.rowPart (b : Int)) hr'
      refine ⟨_, rfl, _, rfl, _, _, rfl, rfl, _, rfl, _, rfl, _, rfl, _, rfl, _, _, rfl, rfl, (by show 3 ≤ sizeLine; decide), fun u hu => ?_⟩
      have nu : H u = none := S1.free hu
      have lune : l ≠ u := ne_of_none L1 hu
      have tune : t ≠ u := ne_of_none T1 hu
      refine ⟨u, rfl, ⟨_, SqT.of upd_same⟩, for_tup (K := K) (a := u) (xs := [(b : Int) % 32 - 1, (b : Int) % 32, (b : Int) % 32 + 1].map V.int)
        (fun j σ H' => ∃ v3 v4, σ = [some (.int (b : Int)), some (.ref l), some (.int r), v3, v4] ∧ Same H H' ∧ H' t = some (.tup ([(b : Int) / 32 - 1, (b : Int) / 32, (b : Int) / 32 + 1].map V.int)) ∧
          H' u = some (.tup ([(b : Int) % 32 - 1, (b : Int) % 32, (b : Int) % 32 + 1].map V.int)) ∧
          H' l = some (.lst ((([(b : Int) / 32 - 1, (b : Int) / 32, (b : Int) / 32 + 1].take i).flatMap (JM.rowPart b) ++ ([(b : Int) % 32 - 1, (b : Int) % 32, (b : Int) % 32 + 1].take j).flatMap (JM.cand b r)).map V.int)))
        ⟨v3, v4, rfl, Same.upd S1 nu, by rw [upd_ne tune]; exact T1, upd_same, by rw [upd_ne lune, L1]; simp⟩ (fun i σ H' _ ⟨_, _, _, _, _, h1, _⟩ => SqT.of h1) ?_ ?_⟩
      · rintro j x σ H2 hx2 ⟨v3, v4, rfl, S2, T2, U2, L2'⟩
        obtain ⟨c, hc', rfl⟩ := of_map hx2
        have fc := take_flat (JM.cand (b : Int) r) hc'
        refine ⟨_, rfl, _, _, rfl, rfl, (by show (0 : Int) < 32; decide), _, _, rfl, rfl, .inr ⟨by decide, by decide⟩, _, rfl, _, _, rfl, rfl, ?_⟩
        refine ⟨_, rfl, _, _, rfl, rfl, _, rfl, ?_⟩
        have done : ∀ H3, Same H H3 → H3 t = some (.tup ([(b : Int) / 32 - 1, (b : Int) / 32, (b : Int) / 32 + 1].map V.int)) → H3 u = some (.tup ([(b : Int) % 32 - 1, (b : Int) % 32, (b : Int) % 32 + 1].map V.int)) →
            H3 l = some (.lst (((([(b : Int) / 32 - 1, (b : Int) / 32, (b : Int) / 32 + 1].take i).flatMap (JM.rowPart b) ++ ([(b : Int) % 32 - 1, (b : Int) % 32, (b : Int) % 32 + 1].take j).flatMap (JM.cand b r)) ++ JM.cand b r c).map V.int)) →
            ∃ w3 w4, [some (V.int (b : Int)), some (.ref l), some (.int r), some (.int c), some (.int (r % 32 * 32 + c))] = [some (V.int (b : Int)), some (.ref l), some (.int r), w3, w4] ∧ Same H H3 ∧ H3 t = some (.tup ([(b : Int) / 32 - 1, (b : Int) / 32, (b : Int) / 32 + 1].map V.int)) ∧
              H3 u = some (.tup ([(b : Int) % 32 - 1, (b : Int) % 32, (b : Int) % 32 + 1].map V.int)) ∧
              H3 l = some (.lst ((([(b : Int) / 32 - 1, (b : Int) / 32, (b : Int) / 32 + 1].take i).flatMap (JM.rowPart b) ++ ([(b : Int) % 32 - 1, (b : Int) % 32, (b : Int) % 32 + 1].take (j + 1)).flatMap (JM.cand b r)).map V.int)) := by
          intro H3 a1 a2 a3 a4
          refine ⟨_, _, rfl, a1, a2, a3, ?_⟩
          rw [fc, ← List.append_assoc]
          exact a4
        have skip : ¬ ((0 ≤ c ∧ c < 32) ∧ ¬ r % 32 * 32 + c = (b : Int)) → JM.cand b r c = [] := fun z => if_neg z
        refine ite2 (fun h1 => ?_) (fun h1 => ?_)
        · refine ⟨_, _, rfl, rfl, _, rfl, ite2 (fun h2 => ?_) (fun h2 => ?_)⟩
          · refine ⟨_, rfl, _, rfl, rfl, _, rfl, ite2 (fun h3 => ?_) (fun h3 => ?_)⟩
            · have k1 : 0 ≤ c := of_decide_eq_true h1
              have k2 : c < 32 := of_decide_eq_true h2
              have k3 : ¬ r % 32 * 32 + c = (b : Int) := by simpa using h3
              have ec : JM.cand b r c = [r % 32 * 32 + c] := if_pos ⟨⟨k1, k2⟩, k3⟩
              refine ⟨_, rfl, .inl ⟨rfl, _, SqL.of L2'⟩, _, rfl, _, _, _, rfl, rfl, L2', ?_, ?_⟩
              · rw [List.length_map, List.length_append]
                have b1 := len_flat (g := JM.rowPart b) (k := 3) (fun x => JM.rowPart_length b x) ([(b : Int) / 32 - 1, (b : Int) / 32, (b : Int) / 32 + 1].take i)
                have b2 := len_flat (g := JM.cand b r) (k := 1) (fun x => JM.cand_length b r x) ([(b : Int) % 32 - 1, (b : Int) % 32, (b : Int) % 32 + 1].take j)
                have b3 : ([(b : Int) / 32 - 1, (b : Int) / 32, (b : Int) / 32 + 1].take i).length ≤ 3 := List.length_take_le' _ _
                have b4 : ([(b : Int) % 32 - 1, (b : Int) % 32, (b : Int) % 32 + 1].take j).length ≤ 3 := List.length_take_le' _ _
                exact small1000 (by omega)
              · refine done _ (Same.upd S2 (by
                  cases e : H l with
                  | none => rfl
                  | some o => rw [hl] at e; cases e)) ?_ ?_ ?_
                · rw [upd_ne (ne_of T2 L2' (by intro z; cases z))]
                  exact T2
                · rw [upd_ne (ne_of U2 L2' (by intro z; cases z))]
                  exact U2
                · rw [ec]
                  exact upd_same.trans lst_snoc
            · have k3 : r % 32 * 32 + c = (b : Int) := by simpa using h3
              refine done _ S2 T2 U2 ?_
              rw [skip fun z => z.2 k3, List.append_nil]
              exact L2'
          · refine iteF ?_
            refine done _ S2 T2 U2 ?_
            rw [skip fun z => h2 (decide_eq_true z.1.2), List.append_nil]
            exact L2'
        · refine ⟨_, rfl, iteF ?_⟩
          refine iteF ?_
          refine done _ S2 T2 U2 ?_
          rw [skip fun z => h1 (decide_eq_true z.1.1), List.append_nil]
          exact L2'
      · rintro σ H2 ⟨v3, v4, rfl, S2, T2, U2, L2'⟩
        refine ⟨_, _, _, rfl, S2, T2, ?_⟩
        rw [fl, L2']
        rfl
    · rintro σ H1 ⟨v2, v3, v4, rfl, S1, T1, L1⟩
      refine ⟨_, rfl, l, _, rfl, SqL.of L1, fun ns' p hp hs hn => ?_⟩
      have e := JM.near_sorted hb hp hs
      subst e
      exact q _ p (Same.upd S1 (S1.free hn)) (S1.free hn) upd_same
end
end J
set_option Elab.async false
set_option maxRecDepth 100000
set_option maxHeartbeats 2000000
namespace J
open PySem PySem.Spec PyProof.Rows L2
/-! ### comprehensions that map -/
section
variable {K : PySem.W.Frag} {a b : Addr} {xs xs' ys : List V} {g : TG} {te : TE} {vs : List Nat} {σ : L2.St} {H1 : Hp} {D : Addr} {Qd : Hp → Prop}
theorem take_succ_of {α : Type} {l : List α} {i : Nat} {y : α} (h : l[i]? = some y) : l.take i ++ [y] = l.take (i + 1) := (take_more h).symm
theorem at_len {α β : Type} {l : List α} {m : List β} {i : Nat} {x : α} (e : m.length = l.length) (h : l[i]? = some x) : ∃ y, m[i]? = some y := by
  obtain ⟨h1, _⟩ := List.getElem?_eq_some_iff.mp h
  exact ⟨_, List.getElem?_eq_getElem (by omega)⟩
theorem take_len_lt {α β : Type} {l : List α} {m : List β} {i n : Nat} {x : α} (h : l[i]? = some x) (hz : l.length ≤ n) : (m.take i).length < n := by
  obtain ⟨h1, _⟩ := List.getElem?_eq_some_iff.mp h
  rw [List.length_take]
  omega
/-- over a list: the i-th item gives the i-th of ys -/
theorem lc_mapL (hD : H1 D = none) (hl : SqL K H1 a xs) (len : ys.length = xs.length) (hz : xs.length ≤ sizeLine)
    (hs : ∀ (i : Nat) (x y : V) (H : Hp) (R : VK), xs[i]? = some x → ys[i]? = some y → Same H1 H → (∀ H4, Same H H4 → R y H4) → g x (wipe σ vs) H fun σ2 H2 => wipe σ2 vs = wipe σ vs ∧ te σ2 H2 R)
    (hd : ∀ H, Same H1 H → H D = some (.lst ys) → Qd H) :
    ∃ W : Nat → Nat → Hp → Prop, (∃ m, W 0 m (upd H1 D (.lst []))) ∧ ∀ i m H, W i m H →
      ((Itl K a).stop i H ∧ Qd H) ∨ ((Itl K a).go i H ∧ ∃ Nx : Hp → Prop, (∀ H', Nx H' → ∃ m', m' < m ∧ W (i + 1) m' H') ∧ ∀ x H', (Itl K a).yld i H x H' → g x (wipe σ vs) H' fun σ2 H2 => wipe σ2 vs = wipe σ vs ∧ tYes σ2 H2 fun b H3 =>
        if b = true then te σ2 H3 fun y H4 => ∃ acc, H4 D = some (.lst acc) ∧ acc.length < sizeLine ∧ Nx (upd H4 D (.lst (acc ++ [y]))) else Nx H3) := by
  refine lc_list (K := K) (a := a) (xs := xs) (fun i H => Same H1 H ∧ H D = some (.lst (ys.take i))) ⟨Same.new hD, upd_same⟩ (fun i H _ ⟨s, _⟩ => s.seq hl) ?_ ?_
  · rintro i x H hx ⟨s, hl'⟩
    obtain ⟨y, hy⟩ := at_len len hx
    have h := hs i x y H (fun y H4 => ∃ acc, H4 D = some (.lst acc) ∧ acc.length < sizeLine ∧ Same H1 (upd H4 D (.lst (acc ++ [y]))) ∧ upd H4 D (.lst (acc ++ [y])) D = some (.lst (ys.take (i + 1)))) hx hy s (fun H4 s4 =>
      ⟨_, s4 _ _ hl', take_len_lt hx hz, Same.upd (s.trans s4) hD, by rw [upd_same, take_succ_of hy]⟩)
    simpa only [tYes, if_true] using h
  · rintro H ⟨s, hl'⟩
    rw [← len, List.take_length] at hl'
    exact hd H s hl'
/-- over two lists of one length -/
theorem lc_mapZ (hD : H1 D = none) (hl : SqL K H1 a xs) (hl' : SqL K H1 b xs') (ll : xs.length = xs'.length) (len : ys.length = xs.length) (hz : xs.length ≤ sizeLine)
    (hs : ∀ (i : Nat) (x x' y : V) (T : Addr) (H : Hp) (R : VK), xs[i]? = some x → xs'[i]? = some x' → ys[i]? = some y → Same H1 H → H T = some (.tup [x, x']) → (∀ H4, Same H H4 → R y H4) → g (.ref T) (wipe σ vs) H fun σ2 H2 => wipe σ2 vs = wipe σ vs ∧ te σ2 H2 R)
    (hd : ∀ H, Same H1 H → H D = some (.lst ys) → Qd H) :
    ∃ W : Nat → Nat → Hp → Prop, (∃ m, W 0 m (upd H1 D (.lst []))) ∧ ∀ i m H, W i m H →
      ((Itz K a b).stop i H ∧ Qd H) ∨ ((Itz K a b).go i H ∧ ∃ Nx : Hp → Prop, (∀ H', Nx H' → ∃ m', m' < m ∧ W (i + 1) m' H') ∧ ∀ x H', (Itz K a b).yld i H x H' → g x (wipe σ vs) H' fun σ2 H2 => wipe σ2 vs = wipe σ vs ∧ tYes σ2 H2 fun b H3 =>
        if b = true then te σ2 H3 fun y H4 => ∃ acc, H4 D = some (.lst acc) ∧ acc.length < sizeLine ∧ Nx (upd H4 D (.lst (acc ++ [y]))) else Nx H3) := by
  refine ⟨fun i m H => m = xs.length - i ∧ i ≤ xs.length ∧ Same H1 H ∧ H D = some (.lst (ys.take i)), ⟨xs.length, by simp, Nat.zero_le _, Same.new hD, upd_same⟩, ?_⟩
  rintro i m H ⟨rfl, hi, s, hDl⟩
  have qx := s.seq hl
  have qy := s.seq hl'
  by_cases hlt : i < xs.length
  · have hx : xs[i]? = some xs[i] := List.getElem?_eq_getElem hlt
    have hx' : xs'[i]? = some (xs'[i]'(by omega)) := List.getElem?_eq_getElem (by omega)
    refine .inr ⟨⟨xs, xs', _, _, qx, qy, hx, hx'⟩, fun H => Same H1 H ∧ H D = some (.lst (ys.take (i + 1))), fun H' p' => ⟨xs.length - (i + 1), by omega, rfl, hlt, p'⟩, fun v H' y => ?_⟩
    obtain ⟨T, x', y', rfl, hT, rfl, f1, f2⟩ := y
    obtain ⟨y, hy⟩ := at_len len hx
    have sT : Same H1 (upd H T (.tup [x', y'])) := Same.upd s (s.free hT)
    have dT : D ≠ T := ne_of_none hDl hT
    have h := hs i x' y' y T _ (fun y H4 => ∃ acc, H4 D = some (.lst acc) ∧ acc.length < sizeLine ∧ Same H1 (upd H4 D (.lst (acc ++ [y]))) ∧ upd H4 D (.lst (acc ++ [y])) D = some (.lst (ys.take (i + 1)))) (f1 xs qx) (f2 xs' qy) hy sT upd_same (fun H4 s4 =>
      ⟨_, s4 _ _ (by rw [upd_ne dT]; exact hDl), take_len_lt hx hz, Same.upd (sT.trans s4) hD, by rw [upd_same, take_succ_of hy]⟩)
    simpa only [tYes, if_true] using h
  · have e : i = xs.length := by omega
    subst e
    rw [← len, List.take_length] at hDl
    exact .inl ⟨⟨xs, xs', qx, qy, Or.inl (Nat.le_refl _)⟩, hd H s hDl⟩
end
end J
set_option Elab.async false
set_option maxRecDepth 100000
set_option maxHeartbeats 2000000
namespace J
open PySem PySem.Spec PyProof.Rows L2
/-- the class OutOfRange as the top has written it -/
structure Oor (K : PySem.W.Frag) (mg : Str → Option Value) (C : Addr) : Prop where
  g : mg "OutOfRange" = some (.ref C)
  x : PySem.W.excIn K C [.type "ValueError", .type "Exception", .type "BaseException", .type "object"] "ValueError.__new__" = true
  k : PySem.W.keepIn K (.ref C) = true
  b : PySem.W.subIn K (.ref C) (.type "BaseException") = some true
  t : PySem.W.typeIn K (.ref C) = some (.type "type")
  e : PySem.W.exmOne K (.ref C) (.ref C) = some true
section
variable {P : Program} {w : World} {K : PySem.W.Frag} {mg : Str → Option Value} {base : Heap} {f CO : Addr} {fd : FuncData}
theorem sc_check_range : FnScope ["value", "least", "greatest"] ["value", "least", "greatest"] (defScope s_check_range) := ⟨rfl, rfl, rfl, by decide +kernel, rfl, by decide +kernel, by decide +kernel⟩
/-- value within least and greatest, or the refusal -/
def sp_check_range (CO : Addr) : Sp := fun vs H Q E => ∃ v a b : Int, vs = [.int v, .int a, .int b] ∧ ((a ≤ v ∧ v ≤ b) → Q .non H) ∧ (¬ (a ≤ v ∧ v ≤ b) → E (.ref CO) none H)
theorem ok_check_range (F : Fun K "check_range" "check_range" s_check_range f fd) (T : Oor K mg CO) : FnOk P w K mg base (L2.CX P w) 1 f fd ["value", "least", "greatest"] (sp_check_range CO) := by
  refine F.okX sc_check_range (fun vs H Q E h => ?_) (fun cdv A outer s H vs Q E hr h => ?_)
  · obtain ⟨v, a, b, rfl, _⟩ := h
    rfl
  · obtain ⟨v, a, b, rfl, q, qe⟩ := h
    refine ⟨_, pss_one (ps_if (PW.pt (pw_or (pt_cmpR op_lt (pv 0) (pv 1) (nomark _)) (pw_or1 (pt_cmpR op_gt (pv 0) (pv 2) (nomark _)))))
      (pss_one (ps_raise rfl (takes_of rfl rfl rfl rfl) (pmk_own0 PySem.F.excBase_ValueError T.x T.g T.k (raises_own T.b T.t) rfl))) pss_nil), ?_⟩
    refine ⟨_, rfl, _, rfl, _, _, rfl, rfl, _, rfl, ite2 (fun h1 => ?_) (fun h1 => ?_)⟩
    · have h1 : v < a := of_decide_eq_true h1
      exact iteT (qe (by omega))
    · have h1 : ¬ v < a := of_decide_eq_false (by simpa using h1)
      refine ⟨_, rfl, _, rfl, _, _, rfl, rfl, _, rfl, ite2 (fun h2 => ?_) (fun h2 => ?_)⟩
      · have h2 : b < v := of_decide_eq_true h2
        exact qe (by omega)
      · have h2 : ¬ b < v := of_decide_eq_false (by simpa using h2)
        exact q (by omega)
theorem sc_check_all : FnScope ["values", "least", "greatest", "value"] ["values", "least", "greatest"] (defScope s_check_all) := ⟨rfl, rfl, rfl, by decide +kernel, rfl, by decide +kernel, by decide +kernel⟩
def allIn (ns : List Int) (a b : Int) : Prop := ∀ x ∈ ns, a ≤ x ∧ x ≤ b
def sp_check_all (K : PySem.W.Frag) (CO : Addr) : Sp := fun vs H Q E => ∃ (l : Addr) (ns : List Int) (a b : Int), vs = [.ref l, .int a, .int b] ∧ SqL K H l (ns.map V.int) ∧ (allIn ns a b → Q .non H) ∧ (¬ allIn ns a b → E (.ref CO) none H)
theorem ok_check_all (F : Fun K "check_all" "check_all" s_check_all f fd) (T : Oor K mg CO) (dR : Def P w K mg base (L2.CX P w) "check_range" 1 ["value", "least", "greatest"] (sp_check_range CO)) :
    FnOk P w K mg base (L2.CX P w) 2 f fd ["values", "least", "greatest"] (sp_check_all K CO) := by
  refine F.okX sc_check_all (fun vs H Q E h => ?_) (fun cdv A outer s H vs Q E hr h => ?_)
  · obtain ⟨l, ns, a, b, rfl, _⟩ := h
    rfl
  · obtain ⟨l, ns, a, b, rfl, hS, q, qe⟩ := h
    refine ⟨_, pss_one (ps_for (passes_of rfl) rfl (pi_list (pv 0)) (pg_name (i := 3) sc_check_all.nd rfl (.inl rfl))
      (pss_one (ps_expr (pe_defX dR hr (takes_of rfl rfl rfl rfl) (pa_cons (pv 3) (pa_cons (pv 1) (pa_cons (pv 2) pa_nil))))))), ?_⟩
    refine ⟨_, rfl, l, rfl, ⟨_, hS⟩, for_list (K := K) (a := l) (xs := ns.map V.int)
      (fun i σ H' => ∃ v, σ = [some (.ref l), some (.int a), some (.int b), v] ∧ H' = H ∧ allIn (ns.take i) a b) ⟨none, rfl, rfl, fun x hx => by simp at hx⟩ (fun i σ H' _ ⟨_, _, e, _⟩ => by rw [e]; exact hS) ?_ ?_⟩
    · rintro i x σ H1 hx ⟨v, rfl, rfl, al⟩
      obtain ⟨z, hz, rfl⟩ := of_map hx
      refine ⟨_, rfl, _, rfl, _, rfl, _, _, _, rfl, fun h1 => ?_, fun h1 => qe fun z2 => h1 (z2 _ (List.mem_of_getElem? hz))⟩
      refine ⟨_, rfl, rfl, ?_⟩
      rw [take_more hz]
      intro y hy
      rcases List.mem_append.mp hy with hy | hy
      · exact al y hy
      · rw [List.mem_singleton.mp hy]
        exact h1
    · rintro σ H1 ⟨v, rfl, rfl, al⟩
      rw [List.length_map, List.take_length] at al
      exact q al
end
end J
set_option Elab.async false
set_option maxRecDepth 100000
set_option maxHeartbeats 2000000
namespace J
open PySem PySem.Spec PyProof.Rows L2
theorem sum_eq (l : List Int) : l.sum = Sj24.sum l := by
  induction l with
  | nil => rfl
  | cons a l ih =>
    rw [List.sum_cons, ih]
    rfl
/-- a class as the top has written it: nothing stands in it under these names -/
structure Clx (K : PySem.W.Frag) (C : Addr) (fs : List Str) : Prop where
  cl : Cls K C
  nf : ∀ f ∈ fs, NoAttr K C f
/-- all but one place stands -/
def But (H H' : Hp) (p : Addr) : Prop := ∀ b o, H b = some o → b ≠ p → H' b = some o
/-- a new instance and its __init__ -/
theorem made_same {H H1 : Hp} {x dx C : Addr} (nx : H x = none) (nd : H dx = none) (k : But (upd (upd H dx (.own x)) x (.ins C dx [])) H1 x) : Same H H1 := Same.made nx nd k
section
variable {P : Program} {w : World} {K : PySem.W.Frag} {mg : Str → Option Value} {base : Heap} {f CG CR : Addr} {fd : FuncData}
theorem sc_Gain_init : FnScope ["self", "mul", "shift", "zero"] ["self", "mul", "shift", "zero"] (defScope s_Gain_init) := ⟨rfl, rfl, rfl, by decide +kernel, rfl, by decide +kernel, by decide +kernel⟩
def gF (g : Sj24.Gain) : List (Str × V) := [("mul", .int g.mul), ("shift", .int (g.shift : Int)), ("zero", .int g.zero)]
def sp_Gain_init (CG : Addr) : Sp := fun vs H Q _ => ∃ (p dx : Addr) (g : Sj24.Gain), vs = [.ref p, .int g.mul, .int (g.shift : Int), .int g.zero] ∧ H p = some (.ins CG dx []) ∧
  ∀ H' : Hp, H' p = some (.ins CG dx (gF g)) → But H H' p → Q .non H'
theorem ok_Gain_init (F : Fun K "__init__" "Gain.__init__" s_Gain_init f fd) (T : Clx K CG ["mul", "shift", "zero"]) : FnOk P w K mg base CX0 1 f fd ["self", "mul", "shift", "zero"] (sp_Gain_init CG) := by
  refine F.ok sc_Gain_init (fun vs H Q E h => ?_) (fun cdv A outer s H vs Q E hr h => ?_)
  · obtain ⟨p, dx, g, rfl, _⟩ := h
    rfl
  · obtain ⟨p, dx, g, rfl, hp, q⟩ := h
    refine ⟨_, pss_cons (ps_fld (pv 0) (pv 1) rfl) (pss_cons (ps_fld (pv 0) (pv 2) rfl) (pss_one (ps_fld (pv 0) (pv 3) rfl))), ?_⟩
    refine ⟨_, rfl, _, rfl, p, CG, dx, _, rfl, hp, T.cl, T.nf _ (by decide +kernel), (by show 0 < 1000; decide), ?_⟩
    refine ⟨_, rfl, _, rfl, p, CG, dx, _, rfl, upd_same, T.cl, T.nf _ (by decide +kernel), (by show 1 < 1000; decide), ?_⟩
    refine ⟨_, rfl, _, rfl, p, CG, dx, _, rfl, upd_same, T.cl, T.nf _ (by decide +kernel), (by show 2 < 1000; decide), ?_⟩
    refine q _ upd_same fun b o e hb => ?_
    rw [upd_ne hb, upd_ne hb, upd_ne hb]
    exact e
theorem sc_Reading_init : FnScope ["self", "energy", "time", "full"] ["self", "energy", "time", "full"] (defScope s_Reading_init) := ⟨rfl, rfl, rfl, by decide +kernel, rfl, by decide +kernel, by decide +kernel⟩
def rF (r : Sj24.Block) : List (Str × V) := [("energy", .int r.e), ("time", .int r.time), ("full", .int (Sj24.bit r.full))]
def sp_Reading_init (CR : Addr) : Sp := fun vs H Q _ => ∃ (p dx : Addr) (r : Sj24.Block), vs = [.ref p, .int r.e, .int r.time, .int (Sj24.bit r.full)] ∧ H p = some (.ins CR dx []) ∧
  ∀ H' : Hp, H' p = some (.ins CR dx (rF r)) → But H H' p → Q .non H'
theorem ok_Reading_init (F : Fun K "__init__" "Reading.__init__" s_Reading_init f fd) (T : Clx K CR ["energy", "time", "full"]) : FnOk P w K mg base CX0 1 f fd ["self", "energy", "time", "full"] (sp_Reading_init CR) := by
  refine F.ok sc_Reading_init (fun vs H Q E h => ?_) (fun cdv A outer s H vs Q E hr h => ?_)
  · obtain ⟨p, dx, g, rfl, _⟩ := h
    rfl
  · obtain ⟨p, dx, g, rfl, hp, q⟩ := h
    refine ⟨_, pss_cons (ps_fld (pv 0) (pv 1) rfl) (pss_cons (ps_fld (pv 0) (pv 2) rfl) (pss_one (ps_fld (pv 0) (pv 3) rfl))), ?_⟩
    refine ⟨_, rfl, _, rfl, p, CR, dx, _, rfl, hp, T.cl, T.nf _ (by decide +kernel), (by show 0 < 1000; decide), ?_⟩
    refine ⟨_, rfl, _, rfl, p, CR, dx, _, rfl, upd_same, T.cl, T.nf _ (by decide +kernel), (by show 1 < 1000; decide), ?_⟩
    refine ⟨_, rfl, _, rfl, p, CR, dx, _, rfl, upd_same, T.cl, T.nf _ (by decide +kernel), (by show 2 < 1000; decide), ?_⟩
    refine q _ upd_same fun b o e hb => ?_
    rw [upd_ne hb, upd_ne hb, upd_ne hb]
    exact e
theorem sc_weighed_sum : FnScope ["samples", "factors", "zero", "factor", "sample"] ["samples", "factors", "zero"] (defScope s_weighed_sum) := ⟨rfl, rfl, rfl, by decide +kernel, rfl, by decide +kernel, by decide +kernel⟩
def sp_weighed_sum (K : PySem.W.Frag) : Sp := fun vs H Q _ => ∃ (s u : Addr) (ss ws : List Int) (z : Int), vs = [.ref s, .ref u, .int z] ∧ SqL K H s (ss.map V.int) ∧ SqL K H u (ws.map V.int) ∧ ss.length = 8 ∧ ws.length = 8 ∧
  (∀ x ∈ ws, -(2 ^ 64) < x ∧ x < 2 ^ 64) ∧ ∀ H' : Hp, Same H H' → Q (.int (JM.wsum ws ss z)) H'
theorem ok_weighed_sum (F : Fun K "weighed_sum" "weighed_sum" s_weighed_sum f fd) (mSum : mg "sum" = none) (mZip : mg "zip" = none) : FnOk P w K mg base CX0 1 f fd ["samples", "factors", "zero"] (sp_weighed_sum K) := by
  have nd := sc_weighed_sum.nd
  refine F.ok sc_weighed_sum (fun vs H Q E h => ?_) (fun cdv A outer s H vs Q E hr h => ?_)
  · obtain ⟨s, u, ss, ws, z, rfl, _⟩ := h
    rfl
  · obtain ⟨s, u, ss, ws, z, rfl, hs, hu, ls, lw, bw, q⟩ := h
    refine ⟨_, pss_one (ps_ret (pe_callB (cr_sum rfl) (by rfl) mSum (by decide +kernel) (pa_cons (pe_lc (own := [("factor", 3), ("sample", 4)]) (g := gTup K 2 (gCons (gName 3) (gCons (gName 4) gNil))) (tt := tYes) rfl nd (pi_zip (by rfl) mZip (pa_cons (pv 1) (pa_cons (pv 0) pa_nil)))
      (blkOk_by (own := [("factor", 3), ("sample", 4)]) (N := ["samples", "factors", "zero", "factor", "sample"]) (sc := defScope s_weighed_sum) (by decide +kernel))
      (fun _ _ _ _ _ => pg_tup rfl (pgs_cons (pg_name (i := 3) nd rfl (.inl rfl)) (pgs_cons (pg_name (i := 4) nd rfl (.inl rfl)) pgs_nil))) (fun _ _ _ _ _ => pts_nil)
      (fun _ _ _ _ _ => pe_op op_mul (pv 3) (pe_op op_sub (pv 4) (pv 2)))) pa_nil))), ?_⟩
    have len : (((ws.zip (ss.map fun x => x - z)).map fun p => p.1 * p.2).map V.int).length = (ws.map V.int).length := by simp [ls, lw]
    refine ⟨_, rfl, _, rfl, u, s, _, _, rfl, hu, hs, fun D hD => lc_mapZ (K := K) (ys := ((ws.zip (ss.map fun x => x - z)).map fun p => p.1 * p.2).map V.int) hD hu hs (by simp [ls, lw]) len (by rw [List.length_map, lw]; decide) ?_ ?_⟩
    · intro i x x' y T H1 R hx hx' hy S1 hT k
      obtain ⟨a, ha, rfl⟩ := of_map hx
      obtain ⟨b, hb, rfl⟩ := of_map hx'
      obtain ⟨c, hc, rfl⟩ := of_map hy
      have e : c = a * (b - z) := by
        have hz : (ws.zip (ss.map fun x => x - z))[i]? = some (a, b - z) := List.getElem?_zip_eq_some.mpr ⟨ha, by rw [List.getElem?_map, hb]; rfl⟩
        rw [List.getElem?_map, hz] at hc
        exact (Option.some.inj hc).symm
      refine ⟨T, _, rfl, SqT.of hT, rfl, _, _, rfl, _, _, rfl, rfl, rfl, _, rfl, _, rfl, _, rfl, _, _, rfl, rfl, _, _, rfl, rfl, .inl (bw a (List.mem_of_getElem? ha)), ?_⟩
      subst e
      exact k _ (Same.refl _)
    · intro H1 S1 hl
      refine ⟨D, _, rfl, SqL.of hl, ?_⟩
      rw [sum_eq]
      exact q _ S1
theorem sc_weigh : FnScope ["samples", "gain", "energy_weights", "time_weights", "full", "charge", "moment", "energy", "time"] ["samples", "gain", "energy_weights", "time_weights"] (defScope s_weigh) := ⟨rfl, rfl, rfl, by decide +kernel, rfl, by decide +kernel, by decide +kernel⟩
/-- a gain object -/
def GainAt (CG : Addr) (H : Hp) (a : Addr) (g : Sj24.Gain) : Prop := ∃ dx, H a = some (.ins CG dx (gF g))
def ReadAt (CR : Addr) (H : Hp) (a : Addr) (r : Sj24.Block) : Prop := ∃ dx, H a = some (.ins CR dx (rF r))
def GainOk (g : Sj24.Gain) : Prop := 1 ≤ g.mul ∧ g.mul ≤ 1048576 ∧ g.shift ≤ 24 ∧ 0 ≤ g.zero ∧ g.zero ≤ 4095
def WOk (ws : List Int) : Prop := ws.length = 8 ∧ ∀ x ∈ ws, -32768 ≤ x ∧ x ≤ 32767
def SOk (ss : List Int) : Prop := ss.length = 8 ∧ ∀ x ∈ ss, 0 ≤ x ∧ x ≤ 4095
def sp_weigh (K : PySem.W.Frag) (CG CR : Addr) : Sp := fun vs H Q _ => ∃ (s g u v : Addr) (ss ws us : List Int) (G : Sj24.Gain), vs = [.ref s, .ref g, .ref u, .ref v] ∧ SqL K H s (ss.map V.int) ∧ GainAt CG H g G ∧ SqL K H u (ws.map V.int) ∧ SqL K H v (us.map V.int) ∧
  SOk ss ∧ GainOk G ∧ WOk ws ∧ WOk us ∧ ∀ (H' : Hp) (x : Addr), Same H H' → H x = none → ReadAt CR H' x (JM.wei ws us G ss) → Q (.ref x) H'
theorem any_in (ss : List Int) : inV (.int 4095) (ss.map V.int) = ss.any fun x => x == 4095 := by
  unfold inV
  rw [List.any_map]
  rfl
theorem flat_ints (ss : List Int) : (ss.map V.int).all flatV = true := by
  rw [List.all_map]
  exact List.all_eq_true.mpr fun x _ => rfl
theorem blk {a b c d : Int} {f : Bool} (h1 : a = c) (h2 : b = d) : Sj24.Block.mk a b f = ⟨c, d, f⟩ := by
  rw [h1, h2]
theorem min_is (a b : Int) : (if b < a then b else a) = min b a := by
  split <;> omega
theorem clamp_is (n : Int) : (if 32767 < (if -32768 > n then -32768 else n) then 32767 else (if -32768 > n then -32768 else n)) = max (-32768) (min 32767 n) := by
  split <;> split <;> omega
theorem ok_weigh (F : Fun K "weigh" "weigh" s_weigh f fd) (TG : Clx K CG ["mul", "shift", "zero"]) (n4095 : IntAt mg "GREATEST_SAMPLE" 4095) (nE : IntAt mg "GREATEST_ENERGY" 1099511627776) (nL : IntAt mg "LEAST_TIME" (-32768)) (nG : IntAt mg "GREATEST_TIME" 32767)
    (mMin : mg "min" = none) (mMax : mg "max" = none) (dW : Def P w K mg base CX0 "weighed_sum" 1 ["samples", "factors", "zero"] (sp_weighed_sum K)) (dN : Def P w K mg base CX0 "nearest" 1 ["dividend", "divisor"] sp_nearest)
    (cR : Ctor P w K mg base CX0 "Reading" CR 1 ["self", "energy", "time", "full"] (sp_Reading_init CR)) : FnOk P w K mg base CX0 3 f fd ["samples", "gain", "energy_weights", "time_weights"] (sp_weigh K CG CR) := by
  have nd := sc_weigh.nd
  refine F.ok sc_weigh (fun vs H Q E h => ?_) (fun cdv A outer s H vs Q E hr h => ?_)
  · obtain ⟨_, _, _, _, _, _, _, _, rfl, _⟩ := h
    rfl
  · obtain ⟨s, g, u, v, ss, ws, us, G, rfl, hs, ⟨dg, hg⟩, hu, hv, os, og, ow, ou, q⟩ := h
    refine ⟨_, pss_cons (ps_set (i := 4) nd rfl (.inl rfl) (pe_ifExp (pt_cmpR op_in_seq (pe_num n4095) (pv 0) (by rfl)) pe_int pe_int))
      (pss_cons (ps_set (i := 5) nd rfl (.inl rfl) (pe_def dW hr (pa_cons (pv 0) (pa_cons (pv 2) (pa_cons (pe_fld (pv 1) rfl) pa_nil)))))
      (pss_cons (ps_if (pt_cmpR op_le (pv 5) pe_int (nomark _)) (pss_one (ps_ret (pe_new cR hr (pa_cons pe_int (pa_cons pe_int (pa_cons (pv 4) pa_nil)))))) pss_nil)
      (pss_cons (ps_set (i := 6) nd rfl (.inl rfl) (pe_def dW hr (pa_cons (pv 0) (pa_cons (pv 3) (pa_cons (pe_fld (pv 1) rfl) pa_nil)))))
      (pss_cons (ps_set (i := 7) nd rfl (.inl rfl) (pe_callB (call_min2 rfl) (by rfl) mMin (by decide +kernel) (pa_cons (pe_op op_shr (pe_op op_mul (pv 5) (pe_fld (pv 1) rfl)) (pe_fld (pv 1) rfl)) (pa_cons (pe_num nE) pa_nil))))
      (pss_cons (ps_set (i := 8) nd rfl (.inl rfl) (pe_callB (call_min2 rfl) (by rfl) mMin (by decide +kernel) (pa_cons (pe_callB (call_max2 rfl) (by rfl) mMax (by decide +kernel) (pa_cons (pe_def dN hr (pa_cons (pe_op op_mul pe_int (pv 6)) (pa_cons (pv 5) pa_nil))) (pa_cons (pe_num nL) pa_nil))) (pa_cons (pe_num nG) pa_nil))))
      (pss_one (ps_ret (pe_new cR hr (pa_cons (pv 7) (pa_cons (pv 8) (pa_cons (pv 4) pa_nil))))))))))), ?_⟩
    refine ⟨_, rfl, s, _, rfl, .inl hs, rfl, flat_ints ss, _, rfl, ?_⟩
    rw [if_neg Bool.false_ne_true, any_in]
    obtain ⟨full, hfull⟩ : ∃ b : Bool, (ss.any fun x => x == 4095) = b := ⟨_, rfl⟩
    have bw := JM.wsum_bound (z := G.zero) ow.1 os.1 ow.2 os.2 ⟨og.2.2.2.1, og.2.2.2.2⟩
    have wide : ∀ xs : List Int, WOk xs → ∀ x ∈ xs, (-(2 ^ 64) : Int) < x ∧ x < 2 ^ 64 := fun xs o x hx => by
      have := o.2 x hx
      omega
    -- what is handed back
    have fin : ∀ (H1 : Hp) (r : Sj24.Block), Same H H1 → r = JM.wei ws us G ss → ∀ x dx, H1 x = none → H1 dx = none → dx ≠ x →
        sp_Reading_init CR [.ref x, .int r.e, .int r.time, .int (Sj24.bit r.full)] (upd (upd H1 dx (.own x)) x (.ins CR dx [])) (fun v H2 => v = .non ∧ Q (.ref x) H2) E0 := by
      intro H1 r S1 er x dx nx ndx ne
      refine ⟨x, dx, r, rfl, upd_same, fun H2 h2 k2 => ⟨rfl, ?_⟩⟩
      have s2 : Same H1 H2 := made_same nx ndx k2
      exact q _ x (S1.trans s2) (S1.free nx) ⟨dx, by rw [h2, er]⟩
    have e40 : Sj24.MOST = 1099511627776 := by decide
    rw [hfull]
    cases full
    all_goals first | refine iteT ?_ | refine iteF ?_
    all_goals
      refine ⟨_, rfl, _, rfl, _, rfl, g, CG, dg, _, _, rfl, hg, TG.cl, TG.nf _ (by decide +kernel), rfl, s, u, ss, ws, G.zero, rfl, hs, hu, os.1, ow.1, wide ws ow, fun H1 S1 => ?_⟩
      refine ⟨_, rfl, _, _, rfl, rfl, _, rfl, ite2 (fun h1 => ?_) (fun h1 => ?_)⟩
    · have h1 : JM.wsum ws ss G.zero ≤ 0 := of_decide_eq_true h1
      refine ⟨_, rfl, fin H1 ⟨0, 0, false⟩ S1 ?_⟩
      unfold JM.wei
      rw [if_pos h1, hfull]
    rotate_left
    · have h1 : JM.wsum ws ss G.zero ≤ 0 := of_decide_eq_true h1
      refine ⟨_, rfl, fin H1 ⟨0, 0, true⟩ S1 ?_⟩
      unfold JM.wei
      rw [if_pos h1, hfull]
    rotate_left
    all_goals
      have h1 : ¬ JM.wsum ws ss G.zero ≤ 0 := of_decide_eq_false (by simpa using h1)
      have hg1 := S1 _ _ hg
      refine ⟨_, rfl, _, rfl, _, rfl, g, CG, dg, _, _, rfl, hg1, TG.cl, TG.nf _ (by decide +kernel), rfl, s, v, ss, us, G.zero, rfl, S1.seq hs, S1.seq hv, os.1, ou.1, wide us ou, fun H2 S2 => ?_⟩
      have hg2 := S2 _ _ hg1
      refine ⟨_, rfl, _, rfl, g, CG, dg, _, _, rfl, hg2, TG.cl, TG.nf _ (by decide +kernel), rfl, _, _, rfl, rfl, .inr ⟨by have := og.1; omega, by have := og.2.1; omega⟩, _, rfl, g, CG, dg, _, _, rfl, hg2, TG.cl, TG.nf _ (by decide +kernel), rfl, _, _, rfl, rfl, Int.natCast_nonneg _, _, _, rfl, ?_⟩
      refine ⟨_, rfl, _, _, rfl, rfl, .inl ⟨by decide, by decide⟩, _, rfl, _, _, rfl, by omega, ?_, _, _, rfl, _, _, rfl, ?_⟩
      · exact Nat.lt_of_lt_of_le (show (JM.wsum ws ss G.zero).natAbs < 2 ^ 31 by omega) (Nat.pow_le_pow_right (by decide) (by decide))
    · refine ⟨_, rfl, _, rfl, _, rfl, fin H2 ⟨_, _, false⟩ (S1.trans S2) ?_⟩
      unfold JM.wei
      rw [if_neg h1, hfull, e40]
      exact blk (min_is _ _) (clamp_is _)
    · refine ⟨_, rfl, _, rfl, _, rfl, fin H2 ⟨_, _, true⟩ (S1.trans S2) ?_⟩
      unfold JM.wei
      rw [if_neg h1, hfull, e40]
      exact blk (min_is _ _) (clamp_is _)
end
end J
set_option Elab.async false
set_option maxRecDepth 100000
set_option maxHeartbeats 2000000
namespace J
open PySem PySem.Spec PyProof.Rows L2 LamX
open PySem.W (KeyPure)
/-! ### sorted(xs, key=lambda x: -x.f) -/
section
variable {P : Program} {w : World} {K : PySem.W.Frag} {H : Hp} {s : Shared} {A : Around} {a C dx : Addr} {fs : List (Str × V)} {fld : Str} {v : V}
theorem getattr_raw {E : Value → Shared → Prop} {b : Bool} {Q : Value → Shared → Prop} (KX : K.In s.heap) (hok : HOk P w H s.heap) (e : H a = some (.ins C dx fs)) (c : Cls K C) (n : NoAttr K C fld) (l : fs.lookup fld = some v)
    (h : ∀ u tk, RelV v u → Q u { s with toks := tk }) : wpAny (model P w) A (getAttr (.ref a) fld b) Q E s := by
  obtain ⟨mA, O, r, _, _, _⟩ := ins_get hok e
  obtain ⟨u, hu, ru⟩ := RelO.some_of (v := v) (o := mA fld) (by rw [← l]; exact r fld)
  exact get_map KX O (c.get fld) c.hd n hu (handed_of ru) (h u _ ru)
/-- the call of the lambda, told of the very heap -/
theorem lam_neg {x qual : Str} {params : Arguments} {scope : Scope} {p1 p2 p3 : Pos} {pm ctv : Value} {f c' : Addr} {n : Int} (KX : K.In s.heap) (lim : s.heap.NoLimit) (hok : HOk P w H s.heap) (dp : A.depth < recursionLimit)
    (hf : s.heap.get? f = some (PySem.W.kla_obj "<lambda>" qual params (.UnaryOp .USub (.Attribute (.Name x p1) fld p2) p3) scope [] pm c' ctv)) (hc : s.heap.CodeRec (.ref c') qual)
    (kind : scope.kind = .function) (co : scope.isCoroutine = false) (gen : scope.isGenerator = false) (nocell : ∀ y ∈ scope.names, y.2 ≠ .cell) (loc : scope.names.lookup x = some .local)
    (bind : ∀ cv, bindArgs (PySem.W.kla_fn "<lambda>" qual params (.UnaryOp .USub (.Attribute (.Name x p1) fld p2) p3) scope [] pm cv ctv) ⟨[.ref a], []⟩ = pure [(x, .ref a)]) (hd : (x == ("__debug__" : Str)) = false)
    (e : H a = some (.ins C dx fs)) (c : Cls K C) (na : NoAttr K C fld) (l : fs.lookup fld = some (.int n)) :
    wpAny (model P w) A (call (.ref f) [.ref a]) (KeyPure (.int (-n)) s) (fun _ _ => False) s := by
  have main : codeAny (model P w) A (.call (.ref f) ⟨[.ref a], []⟩) (fun r s' => ∃ u, r = .ok (.ret u) ∧ KeyPure (.int (-n)) s u s') s := by
    refine PySem.W.kla_callFunE dp hf rfl co gen rfl hc ?_
    rw [bind]
    refine wpAny_pure (wpAny_newFunctionEnv nocell (fun y hy => ?_) (fun h₁ hns hsb => ⟨lim.fresh _ hsb, ?_⟩) kind)
    · rw [List.mem_singleton.mp hy]
      exact loc
    · have kp : ∀ b o, s.heap.get? b = some o → h₁.get? b = some o := fun b o q => hsb.extBut b o (Nat.ne_of_lt (Heap.lt_size q)) (Heap.get?_push_of_some _ q)
      show codeAny _ _ (.expr _ (PySem.W.envX qual scope s.heap.objs.size f (.ref c') [])) _ _
      refine PySem.W.kla_codeExpr (UnaryOp_ (attr_of rfl (wpAny_Name (wpAny_loadName_local (v := .ref a) kind loc hns (by simp [List.lookup]) ?_) hd)))
      refine getattr_raw (KX.keeps kp) (hok.kept kp) e c na l fun u tk ru => ?_
      obtain ⟨t, rfl⟩ := ru
      exact neg_int ⟨_, rfl, h₁, tk + 1, rfl, kp, .int _ _⟩
  refine wpAny_call (codeAny_mono main fun r s' hq => ?_)
  obtain ⟨u, rfl, hq⟩ := hq
  exact hq
end
/-! ### the lambda is made: what was tracked is tracked -/
section
variable {X : Cx} {pins : List (Addr × Obj)} {σ : L2.St} {H : Hp} {s : Shared}
/-- a table grown by one, its code object known -/
abbrev grown (H : Hp) (P c' : Addr) (ps more : Array Value) (q : Str) : Hp := upd (upd H P (.tbl (ps ++ more))) c' (CodeO c' q)
theorem grown_ext {P c' : Addr} {ps more : Array Value} {q : Str} (n : H c' = none) (b : Addr) (o : HO) (e : H b = some o) (h1 : b ≠ P) : grown H P c' ps more q b = some o := (upd_ne (ne_of_none e n)).trans ((upd_ne h1).trans e)
theorem not_tab {P b : Addr} {ps : Array Value} {o : HO} (hP : H P = some (.tbl ps)) (e : H b = some o) (h : ∀ ps, o ≠ .tbl ps) : b ≠ P := fun z => h ps (by rw [← z, e] at hP; exact Option.some.inj hP)
theorem grown_none {P c' : Addr} {ps more : Array Value} {q : Str} {b : Addr} (e : grown H P c' ps more q b = none) : H b = none := NdefX.upd_none (NdefX.upd_none e)
theorem grown_tabs {P c' : Addr} {ps : Array Value} {q : Str} {pos : Pos} (hP : H P = some (.tbl ps)) (n : H c' = none) (ht : TriplesOk ps.toList) (at_ : ∀ (pos : Pos) (cv : Value), codeAmong pos ps.toList = some cv → ∃ c, cv = .ref c ∧ H c = some (CodeO c q)) :
    TabS (grown H P c' ps #[rawInt pos.line, rawInt pos.col, .ref c'] q) P q := by
  refine ⟨_, (upd_ne (ne_of_none hP n)).trans upd_same, ?_, fun p cv hcv => ?_⟩
  · rw [Array.toList_append]
    exact PySem.TriplesOk_snoc _ _ _ _ ht
  · rw [Array.toList_append] at hcv
    rcases among_app _ ht hcv with z | z
    · obtain ⟨d, e1, e2⟩ := at_ p cv z
      exact ⟨d, e1, grown_ext n _ _ e2 (not_tab hP e2 codeO_ne)⟩
    · exact ⟨c', z, upd_same⟩
theorem lam_made {c P : Addr} {params : Arguments} {body : Expr} {scope : Scope} {pos : Pos} {E : Value → Shared → Prop} {Q : Value → Shared → Prop} (I : Inv X pins σ H s) (TB : TabB X.base X.mg c P) (hcode : X.env.code = .ref c) (hT : TabS H P (X.env.qual ++ "<lambda>"))
    (hdef : defaultsOf params X.env = ([], [])) (nofree : ∀ y ∈ scope.names, y.2 ≠ .free) (clo : cloFrom X.env.cells scope.names [] = [])
    (h : ∀ (f c' : Addr) (pm ctv : Value) (H1 : Hp) (s' : Shared), Inv X pins σ H1 s' → (∀ b o, H b = some o → b ≠ P → H1 b = some o) → (∀ b, H1 b = none → H b = none) → TabS H1 P (X.env.qual ++ "<lambda>") →
      s'.heap.get? f = some (PySem.W.kla_obj "<lambda>" (X.env.qual ++ "<lambda>") params body scope [] pm c' ctv) → H1 c' = some (CodeO c' (X.env.qual ++ "<lambda>")) → Q (.ref f) s') :
    wpAny (model X.prog X.w) X.A (eval (.Lambda params body scope pos) X.env) Q E s := by
  obtain ⟨ps, hP, ht, at_⟩ := hT
  have cl : closureFor scope X.env = pure [] := by
    rw [← clo]
    exact closure_ok fun y hy z => absurd z (nofree y hy)
  have bP : s.heap.BuiltinsAt X.mg P := TB.bm.keeps I.bk
  have oP := I.hok P _ hP
  have gl := I.mod.glob.keeps I.bk
  have cd := TB.code.keeps I.bk
  refine PySem.W.kla_eval hdef ?_
  cases hc : codeAmong pos ps.toList with
  | some cv =>
    obtain ⟨c', rfl, hco⟩ := at_ pos cv hc
    refine PySem.W.kla_makeFunctionHit (mg := X.mg) cl I.ok.glob gl hcode cd oP ht hc bP fun ctv h' tk hx hsz => ?_
    exact h _ c' _ ctv H _ (I.kept fun b o e => Heap.get?_push_of_some _ (hx b o e)) (fun _ _ e _ => e) (fun _ e => e) ⟨ps, hP, ht, at_⟩ (Heap.get?_push_size _ rfl) hco
  | none =>
    refine PySem.W.kla_makeFunction (mg := X.mg) cl I.ok.glob gl hcode cd oP ht hc TB.gP bP fun c' ctv h' tk hx hge hlt hrec htb => ?_
    obtain ⟨c2, oc, vs, t, e2, hoc, hd, hv⟩ := hrec
    cases e2
    have nC : H c' = none := I.hok.fresh hge
    have up : ∀ b o, h'.get? b = some o → (h'.push (PySem.W.kla_obj "<lambda>" (X.env.qual ++ "<lambda>") params body scope [] ((X.mg "__name__").getD .none) c' ctv)).get? b = some o := fun b o e => Heap.get?_push_of_some _ e
    have I1 := inv_table (t' := tk) (q := X.env.qual ++ "<lambda>") I hP (fun b o hb e => up b o (hx b o hb e)) (up _ _ htb) hge ⟨oc, vs, t, up _ _ hoc, hd, hv⟩
    exact h _ c' _ ctv _ _ I1 (grown_ext nC) (fun b e => grown_none e) (grown_tabs hP nC ht at_) (Heap.get?_push_size _ rfl) upd_same
end
/-- the reading: the list, its objects' numbers, what comes back -/
def sortNegW (K : PySem.W.Frag) (P : Addr) (q : Str) (fld : Str) (Q : VK) (x : V) (H1 : Hp) : Prop := ∃ (l : Addr) (as : List Addr) (k : Addr → Int), x = .ref l ∧ SqL K H1 l (as.map V.ref) ∧ TabS H1 P q ∧
  (∀ a ∈ as, ∃ C dx fs, H1 a = some (.ins C dx fs) ∧ Cls K C ∧ NoAttr K C fld ∧ fs.lookup fld = some (.int (k a))) ∧
  ∀ (H2 : Hp) (p : Addr), (∀ b o, H1 b = some o → b ≠ P → H2 b = some o) → (∀ b, H2 b = none → H1 b = none) → TabS H2 P q → H2 p = none → Q (.ref p) (upd H2 p (.lst ((as.mergeSort fun a b => decide (-(k a) ≤ -(k b))).map V.ref)))
def tSortNeg (K : PySem.W.Frag) (P : Addr) (q : Str) (fld : Str) (te : TE) : TE := fun σ H Q => te σ H fun x H1 => sortNegW K P q fld Q x H1
theorem each_refs : ∀ {its : List Value} {as : List Addr}, Vals (as.map V.ref) its → PySem.W.EachIs (fun v a => v = Value.ref a) its as
  | _, [], h => by
    cases h
    exact .nil
  | _, a :: as, h => by
    cases h with
    | cons h1 h2 => exact .cons h1 (each_refs h2)
theorem refs_each : ∀ {out : List Value} {as : List Addr}, PySem.W.EachIs (fun v a => v = Value.ref a) out as → Vals (as.map V.ref) out
  | _, _, .nil => .nil
  | _, _, .cons h1 h2 => .cons h1 (refs_each h2)
theorem pe_sortNeg {X : Cx} {c P : Addr} {k : Nat} {x fld : Str} {p p1 p2 p3 lpos kpos pos : Pos} {e : Expr} {te : TE} {params : Arguments} {scope : Scope}
    (he : PE X e te) (hr : Room k X.A) (hg : Gl X "sorted") (hm : X.mg "sorted" = none) (TB : TabB X.base X.mg c P) (hcode : X.env.code = .ref c)
    (hdef : defaultsOf params X.env = ([], [])) (nofree : ∀ y ∈ scope.names, y.2 ≠ .free) (clo : cloFrom X.env.cells scope.names [] = [])
    (kind : scope.kind = .function) (co : scope.isCoroutine = false) (gen : scope.isGenerator = false) (nocell : ∀ y ∈ scope.names, y.2 ≠ .cell) (loc : scope.names.lookup x = some .local) (hd : (x == ("__debug__" : Str)) = false)
    (bind : ∀ (qual : Str) (pm cv ctv : Value) (a : Addr), bindArgs (PySem.W.kla_fn "<lambda>" qual params (.UnaryOp .USub (.Attribute (.Name x p1) fld p2) p3) scope [] pm cv ctv) ⟨[.ref a], []⟩ = pure [(x, .ref a)])
    (hs : starEach [e] X.env = (false, eval e X.env) :: starEach [] X.env := by rfl) :
    PE X (.Call (.Name "sorted" p) [e] [⟨some "key", .Lambda params (.UnaryOp .USub (.Attribute (.Name x p1) fld p2) p3) scope lpos, kpos⟩] pos) (tSortNeg X.K P (X.env.qual ++ "<lambda>") fld te) := by
  refine ⟨fun pins s σ H Q I h => ?_⟩
  refine wpAny_Call_Name_kw (ld_blt I hg hm (show bootBuiltins "sorted" = some (.builtin "sorted") by decide +kernel) ?_ (by decide) (by decide))
  refine PyProof.Rows.callWith_kw (thn ((pa_cons he pa_nil hs).run pos pins s σ H (fun vs H1 => match vs with | [x] => sortNegW X.K P (X.env.qual ++ "<lambda>") fld Q x H1 | _ => False) I h) fun us s1 ⟨vs, H1, I1, r1, q1⟩ => ?_) (by rw [hs]; rfl) (by rw [hs]; rfl) rfl rfl
  match vs, q1, r1 with
  | [_], q1, r1 => ?_
  obtain ⟨l, as, key, rfl, hS, hT, hobj, q⟩ := q1
  obtain rfl := Vals.ref1 r1
  show wpAny _ _ (evalAll [do let v ← eval (.Lambda params (.UnaryOp .USub (.Attribute (.Name x p1) fld p2) p3) scope lpos) X.env; standAt pos; pure v]) _ _ s1
  refine wpAny_evalAll_cons (wpAny_bind (lam_made I1 TB hcode hT hdef nofree clo fun f c' pm ctv H2 s2 I2 eN nn T2 hf hco => wpAny_bind (wpAny_standAt (wpAny_pure (wpAny_evalAll_nil ?_)))))
  show wpAny _ _ (call (.builtin "sorted") [.ref l] [(Str.ofString "key", .ref f)]) _ _ s2
  have hS2 : SqL X.K H2 l (as.map V.ref) := by
    obtain ⟨ps, hP, _⟩ := id hT
    rcases hS with (z | ⟨o, z⟩) | z
    · exact .inl (.inl (eN _ _ z (not_tab hP z fun ps y => by cases y)))
    · exact .inl (.inr ⟨o, eN _ _ z (not_tab hP z fun ps y => by cases y)⟩)
    · exact .inr z
  obtain ⟨its, rv, hl, hz⟩ := I2.list hS2
  have hlen : as.length ≤ sizeLine := by
    rw [List.length_map] at hz
    exact hz
  have code := NdefX.codeO_at I2.hok hco
  refine PySem.W.sorted_key_data (bs := as) (R := fun v a => v = Value.ref a) (b := false) (f := .ref f) (fun a => .int (-(key a))) hl.isList (each_refs rv) (fun d hd d' hd' => ?_) (PySem.W.Sortable.others fun a => ⟨(fun z => by cases z), fun xs z => by cases z⟩) hlen
    (fun a _ => by have := hr.units; show X.A.units + 2 + 0 < cLine; omega) (PyProof.Rows.ksk_s1 _ _) (fun _ => PyProof.Rows.ksk_l1 _ _) (fun _ => PyProof.Rows.ksk_t1 f _) (fun v a hv ha g tk kp => ?_) fun out cc h' tk kp fresh at_ ln each => ?_
  · obtain ⟨a, _, rfl⟩ := List.mem_map.mp hd
    obtain ⟨b, _, rfl⟩ := List.mem_map.mp hd'
    rfl
  · subst hv
    obtain ⟨C, dx, fs, e1, e2, e3, e4⟩ := hobj a ha
    obtain ⟨ci, oc, ws, t, c1, c2, c3, c4⟩ := code
    refine lam_neg (s := { s2 with heap := g, toks := tk }) (I2.kIn.keeps kp) (I2.nolimit.keeps kp) (I2.hok.kept kp) hr.depth (kp _ _ hf) ⟨ci, oc, ws, t, c1, kp _ _ c2, c3, c4⟩ kind co gen nocell loc (fun cv => bind _ _ _ _ _) hd (eN _ _ e1 (by obtain ⟨ps, hP, _⟩ := id hT; exact not_tab hP e1 fun ps y => by cases y)) e2 e3 e4
  · rw [PySem.W.dataLe_int] at each
    have hv := refs_each each
    have I3 : Inv X pins σ (upd H2 (s2.heap.objs.size + 1) (.lst ((as.mergeSort fun a b => decide (-(key a) ≤ -(key b))).map V.ref))) { s2 with heap := h', toks := tk } :=
      I2.laid kp (Nat.le_succ _) ⟨by rw [List.length_map, List.length_mergeSort]; exact hlen, out, cc, hv, at_⟩
    have n2 : H2 (s2.heap.objs.size + 1) = none := I2.hok.fresh (Nat.le_succ _)
    exact ⟨.ref _, _, I3, rfl, q _ _ eN nn T2 n2⟩
end J
set_option Elab.async false
set_option maxRecDepth 100000
set_option maxHeartbeats 2000000
namespace J
open PySem PySem.Spec PyProof.Rows L2
def esOf (h : Sj24.House) : List Int := (List.range 1024).map h.e
theorem esAt {h : Sj24.House} {j : Nat} (hj : j < 1024) : ((esOf h).map V.int)[j]? = some (V.int (h.e j)) := by
  unfold esOf
  rw [List.getElem?_map, List.getElem?_map, List.getElem?_range hj]
  rfl
theorem es_len (h : Sj24.House) : ((esOf h).map V.int).length = 1024 := by
  unfold esOf
  rw [List.length_map, List.length_map, List.length_range]
section
variable {P : Program} {w : World} {K : PySem.W.Frag} {mg : Str → Option Value} {base : Heap} {f : Addr} {fd : FuncData}
theorem sc_is_seed : FnScope ["block", "energies", "seed", "energy", "other"] ["block", "energies", "seed"] (defScope s_is_seed) := ⟨rfl, rfl, rfl, by decide +kernel, rfl, by decide +kernel, by decide +kernel⟩
def sp_is_seed (K : PySem.W.Frag) : Sp := fun vs H Q _ => ∃ (h : Sj24.House) (b : Nat) (l : Addr), vs = [.int (b : Int), .ref l, .int h.seed] ∧ b < 1024 ∧ SqL K H l ((esOf h).map V.int) ∧ ∀ H', Same H H' → Q (.bl (Sj24.isSeed h b)) H'
theorem nbs_at {b i : Nat} {y : V} (h : ((JM.nbs b).map V.int)[i]? = some y) : ∃ n : Nat, (Sj24.about b)[i]? = some n ∧ y = V.int (n : Int) := by
  obtain ⟨z, hz, rfl⟩ := of_map h
  unfold JM.nbs at hz
  rw [List.getElem?_map] at hz
  obtain ⟨n, hn, e⟩ := Option.map_eq_some_iff.mp hz
  exact ⟨n, hn, by rw [← e]; rfl⟩
theorem ok_is_seed (F : Fun K "is_seed" "is_seed" s_is_seed f fd) (dN : Def P w K mg base CX0 "neighbours" 2 ["block"] sp_neighbours) : FnOk P w K mg base CX0 3 f fd ["block", "energies", "seed"] (sp_is_seed K) := by
  have nd := sc_is_seed.nd
  refine F.ok sc_is_seed (fun vs H Q E h => ?_) (fun cdv A outer s H vs Q E hr h => ?_)
  · obtain ⟨_, _, _, rfl, _⟩ := h
    rfl
  · obtain ⟨h, b, l, rfl, hb, hl, q⟩ := h
    refine ⟨_, pss_cons (ps_set (i := 3) nd rfl (.inl rfl) (pe_ix ix_list (pv 1) (pv 0) (fun _ _ => rfl)))
      (pss_cons (ps_if (pt_cmpR op_lt (pv 3) (pv 2) (nomark _)) (pss_one (ps_ret pe_bl)) pss_nil)
      (pss_cons (ps_for PassesOwn.never rfl (pi_list (pe_def dN hr (pa_cons (pv 0) pa_nil))) (pg_name (i := 4) nd rfl (.inl rfl))
        (pss_one (ps_if (PW.pt (pw_or (pt_cmpR op_gt (pe_ix ix_list (pv 1) (pv 4) (fun _ _ => rfl)) (pv 3) (nomark _))
            (pw_or1 (PW.pt (pw_and (pt_cmpR op_eq (pe_ix ix_list (pv 1) (pv 4) (fun _ _ => rfl)) (pv 3) (nomark _)) (pw_and1 (pt_cmpR op_lt (pv 4) (pv 0) (nomark _))))))))
          (pss_one (ps_ret pe_bl)) pss_nil)))
      (pss_one (ps_ret pe_bl)))), ?_⟩
    refine ⟨_, rfl, _, rfl, l, _, _, _, rfl, rfl, hl, at_of rfl (esAt hb), _, rfl, _, rfl, _, _, rfl, rfl, _, rfl, ite2 (fun h1 => ?_) (fun h1 => ?_)⟩
    · have h1 : h.e b < h.seed := of_decide_eq_true h1
      have e : Sj24.isSeed h b = false := by
        unfold Sj24.isSeed
        rw [decide_eq_false (by omega)]
        rfl
      rw [← e]
      exact q _ (Same.refl _)
    · have h1 : ¬ h.e b < h.seed := of_decide_eq_false (by simpa using h1)
      have e : Sj24.isSeed h b = (Sj24.about b).all fun n => decide (h.e n < h.e b) || (decide (h.e n = h.e b) && decide (b < n)) := by
        unfold Sj24.isSeed
        rw [decide_eq_true (by omega)]
        rfl
      refine ⟨_, rfl, b, rfl, hb, fun H1 p S1 hp hn => ?_⟩
      refine ⟨p, rfl, ⟨_, SqL.of hn⟩, for_list (K := K) (a := p) (xs := (JM.nbs b).map V.int)
        (fun i σ H' => ∃ v, σ = [some (.int (b : Int)), some (.ref l), some (.int h.seed), some (.int (h.e b)), v] ∧ H' = H1 ∧ ((Sj24.about b).take i).all (fun n => decide (h.e n < h.e b) || (decide (h.e n = h.e b) && decide (b < n))) = true)
        ⟨none, rfl, rfl, rfl⟩ (fun i σ H' _ ⟨_, _, e, _⟩ => by rw [e]; exact SqL.of hn) ?_ ?_⟩
      · rintro i x σ H' hx ⟨v, rfl, rfl, al⟩
        obtain ⟨n, hn', rfl⟩ := nbs_at hx
        have hm := List.mem_of_getElem? hn'
        have n1 := JM.lt_of_about hm
        have nb : n ≠ b := (JM.mem_about.mp hm).2.1
        have bad : (decide (h.e n < h.e b) || (decide (h.e n = h.e b) && decide (b < n))) = false → Q (.bl false) H' := fun z => by
          have e2 : Sj24.isSeed h b = false := by
            rw [e]
            refine Bool.eq_false_iff.mpr fun z2 => ?_
            rw [List.all_eq_true.mp z2 n hm] at z
            cases z
          rw [← e2]
          exact q _ S1
        have good : (decide (h.e n < h.e b) || (decide (h.e n = h.e b) && decide (b < n))) = true → ∃ v, [some (V.int (b : Int)), some (.ref l), some (.int h.seed), some (.int (h.e b)), some (.int (n : Int))] = [some (V.int (b : Int)), some (.ref l), some (.int h.seed), some (.int (h.e b)), v] ∧ H' = H' ∧
            ((Sj24.about b).take (i + 1)).all (fun n => decide (h.e n < h.e b) || (decide (h.e n = h.e b) && decide (b < n))) = true := fun z => by
          refine ⟨_, rfl, rfl, ?_⟩
          rw [take_more hn', List.all_append, al]
          simpa using z
        refine ⟨_, rfl, _, rfl, l, _, _, _, rfl, rfl, S1.seq hl, at_of rfl (esAt n1), _, rfl, _, _, rfl, rfl, _, rfl, ite2 (fun h2 => ?_) (fun h2 => ?_)⟩
        · have h2 : h.e b < h.e n := of_decide_eq_true h2
          refine iteT (bad ?_)
          rw [decide_eq_false (by omega), decide_eq_false (by omega)]
          rfl
        · have h2 : ¬ h.e b < h.e n := of_decide_eq_false (by simpa using h2)
          refine ⟨_, rfl, _, rfl, l, _, _, _, rfl, rfl, S1.seq hl, at_of rfl (esAt n1), _, rfl, rfl, _, rfl, ite2 (fun h3 => ?_) (fun h3 => ?_)⟩
          · have h3 : h.e n = h.e b := by
              have := of_decide_eq_true h3
              injection this
            refine ⟨_, rfl, _, rfl, _, _, rfl, rfl, _, rfl, ite2 (fun h4 => ?_) (fun h4 => ?_)⟩
            · have h4 : (n : Int) < (b : Int) := of_decide_eq_true h4
              refine bad ?_
              rw [decide_eq_false (by omega), decide_eq_true h3, decide_eq_false (by omega)]
              rfl
            · have h4 : ¬ (n : Int) < (b : Int) := of_decide_eq_false (by simpa using h4)
              refine good ?_
              rw [decide_eq_true h3, decide_eq_true (show b < n by omega)]
              simp
          · have h3 : ¬ h.e n = h.e b := fun z => h3 (by rw [z]; exact decide_eq_true rfl)
            refine iteF (good ?_)
            rw [decide_eq_true (show h.e n < h.e b by omega)]
            rfl
      · rintro σ H' ⟨v, rfl, rfl, al⟩
        have el : ((JM.nbs b).map V.int).length = (Sj24.about b).length := by unfold JM.nbs; rw [List.length_map, List.length_map]
        rw [el, List.take_length, ← e] at al
        show Q (.bl true) _
        rw [← al]
        exact q _ S1
end
end J
set_option Elab.async false
set_option maxRecDepth 100000
set_option maxHeartbeats 2000000
namespace J
open PySem PySem.Spec PyProof.Rows L2
/-! ### the dict of seeds -/
def skv (S : List Nat) : List (Key × V) := S.map fun (s : Nat) => ((Sum.inl (s : Int) : Key), V.bl true)
theorem skv_none : ∀ {S : List Nat} {n : Nat}, n ∉ S → valV (skv S) (Sum.inl (n : Int)) = none
  | [], _, _ => rfl
  | a :: S, n, h => by
    have e : ¬ (Sum.inl (a : Int) : Key) = Sum.inl (n : Int) := fun z => h (by
      have := Sum.inl.inj z
      have : a = n := by omega
      rw [this]
      exact List.mem_cons_self)
    show valV (((Sum.inl (a : Int) : Key), V.bl true) :: skv S) (Sum.inl (n : Int)) = none
    rw [valV_neg e]
    exact skv_none fun z => h (List.mem_cons_of_mem _ z)
theorem skv_some : ∀ {S : List Nat} {n : Nat}, n ∈ S → valV (skv S) (Sum.inl (n : Int)) = some (V.bl true)
  | a :: S, n, h => by
    show valV (((Sum.inl (a : Int) : Key), V.bl true) :: skv S) (Sum.inl (n : Int)) = _
    by_cases e : a = n
    · subst e
      exact valV_pos rfl
    · have e2 : ¬ (Sum.inl (a : Int) : Key) = Sum.inl (n : Int) := fun z => by
        have := Sum.inl.inj z
        omega
      rw [valV_neg e2]
      exact skv_some ((List.mem_cons.mp h).resolve_left fun z => e z.symm)
theorem skv_isSome (S : List Nat) (n : Nat) : (valV (skv S) (Sum.inl (n : Int))).isSome = S.contains n := by
  by_cases h : n ∈ S
  · rw [skv_some h, List.contains_iff_mem.mpr h]
    rfl
  · rw [skv_none h]
    symm
    rw [Option.isSome_none, Bool.eq_false_iff]
    exact fun z => h (List.contains_iff_mem.mp z)
section
variable {P : Program} {w : World} {K : PySem.W.Frag} {mg : Str → Option Value} {base : Heap} {f : Addr} {fd : FuncData}
theorem sc_seed_blocks : FnScope ["energies", "seed", "found", "block"] ["energies", "seed"] (defScope s_seed_blocks) := ⟨rfl, rfl, rfl, by decide +kernel, rfl, by decide +kernel, by decide +kernel⟩
def sp_seed_blocks (K : PySem.W.Frag) : Sp := fun vs H Q _ => ∃ (h : Sj24.House) (l : Addr), vs = [.ref l, .int h.seed] ∧ SqL K H l ((esOf h).map V.int) ∧
  ∀ (H' : Hp) (p : Addr), Same H H' → H p = none → H' p = some (.dK (skv (Sj24.seeds h))) → Q (.ref p) H'
theorem range_filter (p : Nat → Bool) (i : Nat) : (List.range (i + 1)).filter p = (List.range i).filter p ++ (if p i = true then [i] else []) := by
  rw [List.range_succ, List.filter_append]
  congr 1
  by_cases h : p i = true
  · rw [if_pos h, List.filter_cons_of_pos h]
    rfl
  · rw [if_neg h, List.filter_cons_of_neg h]
    rfl
theorem ok_seed_blocks (F : Fun K "seed_blocks" "seed_blocks" s_seed_blocks f fd) (nB : IntAt mg "BLOCKS" 1024) (mR : mg "range" = none) (dS : Def P w K mg base CX0 "is_seed" 3 ["block", "energies", "seed"] (sp_is_seed K)) :
    FnOk P w K mg base CX0 4 f fd ["energies", "seed"] (sp_seed_blocks K) := by
  have nd := sc_seed_blocks.nd
  refine F.ok sc_seed_blocks (fun vs H Q E h => ?_) (fun cdv A outer s H vs Q E hr h => ?_)
  · obtain ⟨_, _, rfl, _⟩ := h
    rfl
  · obtain ⟨h, l, rfl, hl, q⟩ := h
    refine ⟨_, pss_cons (ps_set (i := 2) nd rfl (.inl rfl) pe_dnewK)
      (pss_cons (ps_for PassesOwn.never rfl (pi_range1 (by rfl) mR (pa_cons (pe_num nB) pa_nil)) (pg_name (i := 3) nd rfl (.inl rfl))
        (pss_one (ps_if (pt_val (pe_def dS hr (pa_cons (pv 3) (pa_cons (pv 0) (pa_cons (pv 1) pa_nil)))))
          (pss_one (ps_dput (hu_of hr) (pv 2) (pv 3) pe_bl rfl)) pss_nil)))
      (pss_one (ps_ret (pv 2)))), ?_⟩
    intro d hd
    refine ⟨1024, rfl, by decide, by decide, for_range (lo := 0) (n := (1024 : Int).toNat)
      (fun i σ H' => ∃ v, σ = [some (.ref l), some (.int h.seed), some (.ref d), v] ∧ Same H H' ∧ H' d = some (.dK (skv ((List.range i).filter (Sj24.isSeed h)))))
      ⟨none, rfl, Same.new hd, upd_same⟩ ?_ ?_⟩
    · rintro i σ H1 hi ⟨v, rfl, S1, D1⟩
      rw [Int.zero_add]
      have hi : i < 1024 := hi
      refine ⟨_, rfl, _, rfl, _, rfl, h, i, l, rfl, hi, S1.seq hl, fun H2 S2 => ⟨_, rfl, ?_⟩⟩
      have D2 := S2 _ _ D1
      refine ite2 (fun hb => ?_) (fun hb => ?_)
      · refine ⟨_, rfl, _, rfl, d, _, rfl, DPut.k (k := Sum.inl (i : Int)) D2 ?_, ⟨_, rfl, Same.upd (S1.trans S2) hd, ?_⟩⟩
        · unfold skv
          rw [List.length_map]
          have := List.length_filter_le (Sj24.isSeed h) (List.range i)
          rw [List.length_range] at this
          exact Nat.lt_of_le_of_lt this (Nat.lt_of_lt_of_le hi (by decide))
        · rw [upd_same, putK_new, range_filter, if_pos hb]
          · unfold skv
            rw [List.map_append]
            rfl
          · exact skv_none fun z => by
              have := List.mem_range.mp (List.mem_filter.mp z).1
              omega
      · refine ⟨_, rfl, S1.trans S2, ?_⟩
        rw [D2, range_filter, if_neg hb, List.append_nil]
    · rintro σ H1 ⟨v, rfl, S1, D1⟩
      exact ⟨_, rfl, q _ d S1 hd D1⟩
theorem sc_owners_of : FnScope ["block", "energies", "seeds", "low", "other"] ["block", "energies", "seeds", "low"] (defScope s_owners_of) := ⟨rfl, rfl, rfl, by decide +kernel, rfl, by decide +kernel, by decide +kernel⟩
def nlist (l : List Nat) : List V := l.map fun (n : Nat) => V.int (n : Int)
def sp_owners_of (K : PySem.W.Frag) : Sp := fun vs H Q _ => ∃ (h : Sj24.House) (b : Nat) (l d : Addr), vs = [.int (b : Int), .ref l, .ref d, .int h.low] ∧ b < 1024 ∧ SqL K H l ((esOf h).map V.int) ∧ H d = some (.dK (skv (Sj24.seeds h))) ∧
  ∀ (H' : Hp) (p : Addr), Same H H' → H p = none → H' p = some (.lst (nlist (Sj24.owners h (Sj24.seeds h) b))) → Q (.ref p) H'
theorem ok_owners_of (F : Fun K "owners_of" "owners_of" s_owners_of f fd) (dN : Def P w K mg base CX0 "neighbours" 2 ["block"] sp_neighbours) : FnOk P w K mg base CX0 3 f fd ["block", "energies", "seeds", "low"] (sp_owners_of K) := by
  have nd := sc_owners_of.nd
  refine F.ok sc_owners_of (fun vs H Q E h => ?_) (fun cdv A outer s H vs Q E hr h => ?_)
  · obtain ⟨_, _, _, _, rfl, _⟩ := h
    rfl
  · obtain ⟨h, b, l, d, rfl, hb, hl, hd, q⟩ := h
    refine ⟨_, pss_cons (ps_if (pt_cmp (pc_din (hu_of hr) (pv 0) (pv 2))) (pss_one (ps_ret (pe_lst (pa_cons (pv 0) pa_nil)))) pss_nil)
      (pss_cons (ps_if (pt_cmpR op_lt (pe_ix ix_list (pv 1) (pv 0) (fun _ _ => rfl)) (pv 3) (nomark _)) (pss_one (ps_ret (pe_lst pa_nil))) pss_nil)
      (pss_one (ps_ret (pe_lc (own := [("other", 4)]) (g := gName 4) rfl nd (pi_list (pe_def dN hr (pa_cons (pv 0) pa_nil)))
        (blkOk_by (own := [("other", 4)]) (N := ["block", "energies", "seeds", "low", "other"]) (sc := defScope s_owners_of) (by decide +kernel))
        (fun _ _ _ _ _ => pg_name (i := 4) nd rfl (.inl rfl)) (fun _ _ _ _ _ => pts_one (pt_cmp (pc_din (hu_of hr) (pv 4) (pv 2)))) (fun _ _ _ _ _ => pv 4))))), ?_⟩
    refine ⟨_, rfl, _, rfl, d, _, rfl, DGet.k (k := Sum.inl (b : Int)) hd, _, rfl, ?_⟩
    rw [skv_isSome]
    refine ite2 (fun h1 => ?_) (fun h1 => ?_)
    · have e : Sj24.owners h (Sj24.seeds h) b = [b] := if_pos h1
      refine ⟨_, rfl, (by show 1 ≤ sizeLine; decide), fun p hp => q _ p (Same.new hp) hp ?_⟩
      rw [e]
      exact upd_same
    · refine ⟨_, rfl, _, rfl, l, _, _, _, rfl, rfl, hl, at_of rfl (esAt hb), _, rfl, _, _, rfl, rfl, _, rfl, ite2 (fun h2 => ?_) (fun h2 => ?_)⟩
      · have h2 : h.e b < h.low := of_decide_eq_true h2
        have e : Sj24.owners h (Sj24.seeds h) b = [] := by
          unfold Sj24.owners
          rw [if_neg h1, if_pos h2]
        refine ⟨(by show 0 ≤ sizeLine; decide), fun p hp => q _ p (Same.new hp) hp ?_⟩
        rw [e]
        exact upd_same
      · have h2 : ¬ h.e b < h.low := of_decide_eq_false (by simpa using h2)
        have e : Sj24.owners h (Sj24.seeds h) b = (Sj24.about b).filter (Sj24.seeds h).contains := by
          unfold Sj24.owners
          rw [if_neg h1, if_neg h2]
        refine ⟨_, rfl, b, rfl, hb, fun H1 p S1 hp hn => ?_⟩
        refine ⟨p, rfl, ⟨_, SqL.of hn⟩, fun D hD => lc_list (K := K) (a := p) (xs := (JM.nbs b).map V.int)
          (fun i H' => Same H1 H' ∧ H' D = some (.lst (nlist (((Sj24.about b).take i).filter (Sj24.seeds h).contains)))) ⟨Same.new hD, upd_same⟩ (fun i H' _ ⟨s, _⟩ => s.seq (SqL.of hn)) ?_ ?_⟩
        · rintro i x H2 hx ⟨S2, D2⟩
          obtain ⟨n, hn', rfl⟩ := nbs_at hx
          have hm := List.mem_of_getElem? hn'
          have S12 := S1.trans S2
          refine ⟨rfl, _, rfl, _, rfl, d, _, rfl, DGet.k (k := Sum.inl (n : Int)) (S12 _ _ hd), _, rfl, ?_⟩
          rw [skv_isSome]
          refine ite2 (fun h3 => ?_) (fun h3 => ?_)
          · refine ⟨_, rfl, _, D2, ?_, Same.upd S2 hD, ?_⟩
            · unfold nlist
              rw [List.length_map]
              have a1 := List.length_filter_le (Sj24.seeds h).contains ((Sj24.about b).take i)
              have a2 := List.length_take_le' i (Sj24.about b)
              have a3 := JM.about_length hb
              exact small1000 (by omega)
            · rw [upd_same, take_more hn', List.filter_append, List.filter_cons_of_pos h3]
              unfold nlist
              rw [List.map_append]
              rfl
          · refine ⟨S2, ?_⟩
            rw [D2, take_more hn', List.filter_append, List.filter_cons_of_neg h3]
            simp
        · rintro H2 ⟨S2, D2⟩
          have el : ((JM.nbs b).map V.int).length = (Sj24.about b).length := by unfold JM.nbs; rw [List.length_map, List.length_map]
          rw [el, List.take_length, ← e] at D2
          exact q _ D (S1.trans S2) (S1.free hD) D2
end
end J
set_option Elab.async false
set_option maxRecDepth 100000
set_option maxHeartbeats 2000000
namespace J
open PySem PySem.Spec PyProof.Rows L2
theorem sum_le_of {ns : List Int} (h : ∀ x ∈ ns, 1 ≤ x ∧ x ≤ 1099511627776) (hl : ns.length ≤ 9) (ne : ns ≠ []) : 0 < Sj24.sum ns ∧ Sj24.sum ns ≤ 9895604649984 := by
  have h1 := JM.sum_bound (B := 1099511627776) ns fun x hx => by have := h x hx; omega
  have h2 : 0 < Sj24.sum ns := by
    cases ns with
    | nil => exact absurd rfl ne
    | cons a r =>
      have a1 := JM.le_sum (a :: r) (fun x hx => by have := h x hx; omega) a List.mem_cons_self
      have a2 := h a List.mem_cons_self
      omega
  omega
theorem first_at : ∀ {ns : List Int} {m : Int}, m ∈ ns → ∃ j : Nat, ns[j]? = some m ∧ ∀ (i : Nat) (z : Int), i < j → ns[i]? = some z → z ≠ m
  | a :: ns, m, h => by
    by_cases e : a = m
    · exact ⟨0, by rw [e]; rfl, fun i z hi => absurd hi (by omega)⟩
    · obtain ⟨j, hj, hf⟩ := first_at ((List.mem_cons.mp h).resolve_left fun z => e z.symm)
      refine ⟨j + 1, hj, fun i z hi hz => ?_⟩
      cases i with
      | zero =>
        have : a = z := Option.some.inj hz
        rw [← this]
        exact e
      | succ i => exact hf i z (by omega) hz
theorem ixN_nat {n j : Nat} (h : j < n) : ixN n (j : Int) = some j := by
  unfold ixN
  rw [if_pos (Int.natCast_nonneg j), if_pos (by omega)]
  rfl
section
variable {P : Program} {w : World} {K : PySem.W.Frag} {mg : Str → Option Value} {base : Heap} {f : Addr} {fd : FuncData}
theorem sc_divide : FnScope ["energy", "seed_energies", "total", "shares", "greatest", "one"] ["energy", "seed_energies"] (defScope s_divide) := ⟨rfl, rfl, rfl, by decide +kernel, rfl, by decide +kernel, by decide +kernel⟩
def sp_divide (K : PySem.W.Frag) : Sp := fun vs H Q _ => ∃ (l : Addr) (e : Int) (ns : List Int), vs = [.int e, .ref l] ∧ SqL K H l (ns.map V.int) ∧ 0 ≤ e ∧ e ≤ 1099511627776 ∧ ns ≠ [] ∧ ns.length ≤ 9 ∧ (∀ x ∈ ns, 1 ≤ x ∧ x ≤ 1099511627776) ∧
  ∀ (j : Nat) (H' : Hp) (p : Addr), JM.FirstMax ns j → Same H H' → H p = none → H' p = some (.lst ((JM.dv e ns j).map V.int)) → Q (.ref p) H'
theorem ok_divide (F : Fun K "divide" "divide" s_divide f fd) (mSum : mg "sum" = none) (mMax : mg "max" = none) : FnOk P w K mg base CX0 1 f fd ["energy", "seed_energies"] (sp_divide K) := by
  have nd := sc_divide.nd
  refine F.ok sc_divide (fun vs H Q E h => ?_) (fun cdv A outer s H vs Q E hr h => ?_)
  · obtain ⟨_, _, _, rfl, _⟩ := h
    rfl
  · obtain ⟨l, e, ns, rfl, hl, he0, he1, ne, len, hn, q⟩ := h
    refine ⟨_, pss_cons (ps_set (i := 2) nd rfl (.inr rfl) (pe_callB (cr_sum rfl) (by rfl) mSum (by decide +kernel) (pa_cons (pv 1) pa_nil)))
      (pss_cons (ps_setLc (i := 3) (own := [("one", 5)]) (g := gName 5) (tt := tYes) rfl nd rfl rfl (sw_true rfl rfl rfl (by decide +kernel)) (pi_list (pv 1))
        (blkOk_by (own := [("one", 5)]) (N := ["energy", "seed_energies", "total", "shares", "greatest", "one"]) (sc := defScope s_divide) (by decide +kernel))
        (fun _ _ _ _ _ => pg_name (i := 5) nd rfl (.inl rfl)) (fun _ _ _ _ _ => pts_nil) (fun _ _ _ _ _ => pe_op op_fdivW (pe_op op_mul (pv 0) (pv 5)) (pv 2)))
      (pss_cons (ps_set (i := 4) nd rfl (.inl rfl) (pe_bm PySem.F.plainAttrs_list PySem.F.slot_list_index PySem.F.type_list_index mt_index (pv 1) (pa_cons (pe_callB (cr_max rfl) (by rfl) mMax (by decide +kernel) (pa_cons (pv 1) pa_nil)) pa_nil)))
      (pss_cons (ps_augS (pv 3) (pv 4) get_list (pe_op op_sub (pv 0) (pe_callB (cr_sum rfl) (by rfl) mSum (by decide +kernel) (pa_cons (pv 3) pa_nil))) ip_add set_list)
      (pss_one (ps_ret (pv 3)))))), ?_⟩
    have st := sum_le_of hn len ne
    have sl : (JM.shares e ns).length = ns.length := by unfold JM.shares; simp
    refine ⟨_, rfl, l, ns, rfl, hl, ?_⟩
    rw [sum_eq]
    refine ⟨_, rfl, l, rfl, ⟨_, hl⟩, fun D hD => lc_mapL (K := K) (ys := (JM.shares e ns).map V.int) hD hl (by rw [List.length_map, List.length_map, sl]) (by rw [List.length_map]; exact Nat.le_trans len (by decide)) ?_ ?_⟩
    · intro i x y H1 R hx hy S1 k
      obtain ⟨a, ha, rfl⟩ := of_map hx
      obtain ⟨b, hb, rfl⟩ := of_map hy
      have eb : b = e * a / Sj24.sum ns := by
        unfold JM.shares at hb
        rw [List.getElem?_map, ha] at hb
        exact (Option.some.inj hb).symm
      subst eb
      refine ⟨rfl, _, rfl, _, rfl, _, _, rfl, rfl, .inl ⟨by omega, by omega⟩, _, rfl, _, _, rfl, rfl, wide_div st.1 (show (Sj24.sum ns).natAbs < 2 ^ 50 by omega) (by decide) (by decide), k _ (Same.refl _)⟩
    · intro H1 S1 hD1
      refine ⟨_, rfl, .inl ⟨rfl, _, S1.seq hl⟩, _, rfl, l, ns, rfl, S1.seq hl, List.length_pos_iff.mpr ne, fun m hm hmax => ?_⟩
      obtain ⟨j, hj, hf⟩ := first_at hm
      have hjl : j < ns.length := (List.getElem?_eq_some_iff.mp hj).1
      refine ⟨l, ns.map V.int, .int m, j, .int m, rfl, rfl, S1.seq hl, rfl, flat_ints ns, by rw [List.getElem?_map, hj]; rfl, beq_self_eq_true m, fun i z hi hz => ?_, ?_⟩
      · obtain ⟨y, hy, rfl⟩ := of_map hz
        exact beq_eq_false_iff_ne.mpr (hf i y hi hy)
      · have hz : (JM.shares e ns)[j]? = some ((JM.shares e ns).getD j 0) := by
          rw [List.getD_eq_getElem?_getD, List.getElem?_eq_getElem (by omega)]
          rfl
        refine ⟨_, rfl, _, rfl, D, _, j, .int ((JM.shares e ns).getD j 0), rfl, rfl, SqL.of hD1, (by rw [List.getElem?_map, hz]; rfl), _, rfl, _, rfl, D, _, rfl, SqL.of hD1, _, _, rfl, rfl, _, _, rfl, rfl, D, _, _, j, rfl, rfl, hD1, ixN_nat (by rw [List.length_map]; omega), _, rfl, ?_⟩
        refine q j _ D ⟨m, hj, hmax, hf⟩ (Same.upd S1 hD) hD ?_
        rw [upd_same, sum_eq, ← List.map_set]
        rfl
end
end J
set_option Elab.async false
set_option maxRecDepth 100000
set_option maxHeartbeats 2000000
namespace J
open PySem PySem.Spec PyProof.Rows L2
/-! ### parts and clusters as objects -/
def partT (p : Sj24.Part) : HO := .tup [.int (p.block : Int), .int p.e]
def PartsAt (H : Hp) (a : Addr) (ps : List Sj24.Part) : Prop := ∃ ts : List Addr, ts.length = ps.length ∧ H a = some (.lst (ts.map V.ref)) ∧ ∀ (i : Nat) (t : Addr) (p : Sj24.Part), ts[i]? = some t → ps[i]? = some p → H t = some (partT p)
theorem PartsAt.same {H H' : Hp} {a : Addr} {ps : List Sj24.Part} (s : Same H H') (h : PartsAt H a ps) : PartsAt H' a ps := by
  obtain ⟨ts, h1, h2, h3⟩ := h
  exact ⟨ts, h1, s _ _ h2, fun i t p ht hp => s _ _ (h3 i t p ht hp)⟩
def cF (c : Sj24.Cluster) (a : Addr) : List (Str × V) := [("seed", .int (c.seed : Int)), ("parts", .ref a), ("energy", .int c.e), ("column", .int c.col), ("row", .int c.row)]
def CluAt (CC : Addr) (H : Hp) (x : Addr) (c : Sj24.Cluster) : Prop := ∃ dx a, H x = some (.ins CC dx (cF c a)) ∧ PartsAt H a c.parts
theorem CluAt.same {CC : Addr} {H H' : Hp} {x : Addr} {c : Sj24.Cluster} (s : Same H H') (h : CluAt CC H x c) : CluAt CC H' x c := by
  obtain ⟨dx, a, h1, h2⟩ := h
  exact ⟨dx, a, s _ _ h1, h2.same s⟩
theorem But.refl (H : Hp) (x : Addr) : But H H x := fun _ _ e _ => e
theorem But.upd {H H' : Hp} {x : Addr} {o : HO} (k : But H H' x) : But H (L2.upd H' x o) x := fun b u e n => by
  rw [upd_ne n]
  exact k b u e n
theorem But.same {H H' H'' : Hp} {x : Addr} (k : But H H' x) (s : Same H' H'') : But H H'' x := fun b u e n => s b u (k b u e n)
theorem PartsAt.but {H H' : Hp} {a x C dx : Addr} {fs : List (Str × V)} {ps : List Sj24.Part} (hx : H x = some (.ins C dx fs)) (k : But H H' x) (h : PartsAt H a ps) : PartsAt H' a ps := by
  obtain ⟨ts, h1, h2, h3⟩ := h
  exact ⟨ts, h1, k _ _ h2 (ne_of h2 hx (by intro z; cases z)), fun i t p ht hp => k _ _ (h3 i t p ht hp) (ne_of (h3 i t p ht hp) hx (by intro z; cases z))⟩
theorem PartsAt.seq {K : PySem.W.Frag} {H : Hp} {a : Addr} {ps : List Sj24.Part} (h : PartsAt H a ps) : ∃ xs, SqL K H a xs := by
  obtain ⟨ts, h1, h2, h3⟩ := h
  exact ⟨_, SqL.of h2⟩
/-- a comprehension over parts -/
theorem lc_parts {K : PySem.W.Frag} {a : Addr} {ps : List Sj24.Part} {i5 i6 : Nat} {te : TE} {vs : List Nat} {σ : L2.St} {H1 : Hp} {D : Addr} {Qd : Hp → Prop} (g : Sj24.Part → Int) (hD : H1 D = none) (hP : PartsAt H1 a ps) (hz : ps.length ≤ sizeLine)
    (hw : ∀ (p : Sj24.Part), wipe (((wipe σ vs).set i5 (some (.int (p.block : Int)))).set i6 (some (.int p.e))) vs = wipe σ vs)
    (hs : ∀ (p : Sj24.Part) (H : Hp) (R : VK), p ∈ ps → Same H1 H → (∀ H4, Same H H4 → R (.int (g p)) H4) → te (((wipe σ vs).set i5 (some (.int (p.block : Int)))).set i6 (some (.int p.e))) H R)
    (hd : ∀ H, Same H1 H → H D = some (.lst ((ps.map g).map V.int)) → Qd H) :
    ∃ W : Nat → Nat → Hp → Prop, (∃ m, W 0 m (upd H1 D (.lst []))) ∧ ∀ i m H, W i m H →
      ((Itl K a).stop i H ∧ Qd H) ∨ ((Itl K a).go i H ∧ ∃ Nx : Hp → Prop, (∀ H', Nx H' → ∃ m', m' < m ∧ W (i + 1) m' H') ∧ ∀ x H', (Itl K a).yld i H x H' → gTup K 2 (gCons (gName i5) (gCons (gName i6) gNil)) x (wipe σ vs) H' fun σ2 H2 => wipe σ2 vs = wipe σ vs ∧ tYes σ2 H2 fun b H3 =>
        if b = true then te σ2 H3 fun y H4 => ∃ acc, H4 D = some (.lst acc) ∧ acc.length < sizeLine ∧ Nx (upd H4 D (.lst (acc ++ [y]))) else Nx H3) := by
  obtain ⟨ts, h1, h2, h3⟩ := hP
  refine lc_mapL (K := K) (ys := (ps.map g).map V.int) hD (SqL.of h2) (by simp [h1]) (by rw [List.length_map, h1]; exact hz) ?_ hd
  intro i x y H R hx hy S1 k
  obtain ⟨t, ht, rfl⟩ := of_map hx
  obtain ⟨z, hz', rfl⟩ := of_map hy
  rw [List.getElem?_map] at hz'
  obtain ⟨p, hp, rfl⟩ := Option.map_eq_some_iff.mp hz'
  have tp := S1 _ _ (h3 i t p ht hp)
  refine ⟨t, _, rfl, SqT.of tp, rfl, _, _, rfl, _, _, rfl, rfl, hw p, hs p H R (List.mem_of_getElem? hp) S1 k⟩
theorem clu_e_lt {c : Sj24.Cluster} (O : JM.CluOk c) : c.e.natAbs < 2 ^ 54 := by
  have := JM.clu_e_bound O
  have := O.pos
  omega
section
variable {P : Program} {w : World} {K : PySem.W.Frag} {mg : Str → Option Value} {base : Heap} {f CC : Addr} {fd : FuncData}
theorem sc_Cluster_init : FnScope ["self", "seed", "parts", "across", "along", "block", "energy"] ["self", "seed", "parts"] (defScope s_Cluster_init) := ⟨rfl, rfl, rfl, by decide +kernel, rfl, by decide +kernel, by decide +kernel⟩
def sp_Cluster_init (CC : Addr) : Sp := fun vs H Q _ => ∃ (x dx a : Addr) (c : Sj24.Cluster), vs = [.ref x, .int (c.seed : Int), .ref a] ∧ H x = some (.ins CC dx []) ∧ PartsAt H a c.parts ∧ JM.CluOk c ∧
  ∀ H' : Hp, H' x = some (.ins CC dx (cF c a)) → But H H' x → Q .non H'
theorem ok_Cluster_init (F : Fun K "__init__" "Cluster.__init__" s_Cluster_init f fd) (T : Clx K CC ["seed", "parts", "energy", "column", "row"]) (nF : IntAt mg "FINENESS" 64) (nY : IntAt mg "CYCLE" 2048) (mSum : mg "sum" = none)
    (dR : Def P w K mg base CX0 "row_of" 1 ["block"] sp_row_of) (dC : Def P w K mg base CX0 "column_of" 1 ["block"] sp_column_of) (dRS : Def P w K mg base CX0 "row_step" 2 ["start", "end"] sp_row_step) (dCS : Def P w K mg base CX0 "column_step" 2 ["start", "end"] sp_column_step)
    (dN : Def P w K mg base CX0 "nearest" 1 ["dividend", "divisor"] sp_nearest) : FnOk P w K mg base CX0 3 f fd ["self", "seed", "parts"] (sp_Cluster_init CC) := by
  have nd := sc_Cluster_init.nd
  refine F.ok sc_Cluster_init (fun vs H Q E h => ?_) (fun cdv A outer s H vs Q E hr h => ?_)
  · obtain ⟨_, _, _, _, rfl, _⟩ := h
    rfl
  · obtain ⟨x, dx, a, c, rfl, hx, hP, O, q⟩ := h
    refine ⟨_, pss_cons (ps_fld (pv 0) (pv 1) rfl) (pss_cons (ps_fld (pv 0) (pv 2) rfl)
      (pss_cons (ps_fld (pv 0) (pe_callB (cr_sum rfl) (by rfl) mSum (by decide +kernel) (pa_cons (pe_lc (own := [("block", 5), ("energy", 6)]) (g := gTup K 2 (gCons (gName 5) (gCons (gName 6) gNil))) (tt := tYes) rfl nd (pi_list (pv 2))
        (blkOk_by (own := [("block", 5), ("energy", 6)]) (N := ["self", "seed", "parts", "across", "along", "block", "energy"]) (sc := defScope s_Cluster_init) (by decide +kernel))
        (fun _ _ _ _ _ => pg_tup rfl (pgs_cons (pg_name (i := 5) nd rfl (.inl rfl)) (pgs_cons (pg_name (i := 6) nd rfl (.inl rfl)) pgs_nil))) (fun _ _ _ _ _ => pts_nil) (fun _ _ _ _ _ => pv 6)) pa_nil)) rfl)
      (pss_cons (ps_set (i := 3) nd rfl (.inl rfl) (pe_callB (cr_sum rfl) (by rfl) mSum (by decide +kernel) (pa_cons (pe_lc (own := [("block", 5), ("energy", 6)]) (g := gTup K 2 (gCons (gName 5) (gCons (gName 6) gNil))) (tt := tYes) rfl nd (pi_list (pv 2))
        (blkOk_by (own := [("block", 5), ("energy", 6)]) (N := ["self", "seed", "parts", "across", "along", "block", "energy"]) (sc := defScope s_Cluster_init) (by decide +kernel))
        (fun _ _ _ _ _ => pg_tup rfl (pgs_cons (pg_name (i := 5) nd rfl (.inl rfl)) (pgs_cons (pg_name (i := 6) nd rfl (.inl rfl)) pgs_nil))) (fun _ _ _ _ _ => pts_nil)
        (fun _ _ _ _ _ => pe_op op_mul (pv 6) (pe_def dCS (hr.mono (Nat.le_refl _)) (pa_cons (pv 1) (pa_cons (pv 5) pa_nil))))) pa_nil)))
      (pss_cons (ps_set (i := 4) nd rfl (.inl rfl) (pe_callB (cr_sum rfl) (by rfl) mSum (by decide +kernel) (pa_cons (pe_lc (own := [("block", 5), ("energy", 6)]) (g := gTup K 2 (gCons (gName 5) (gCons (gName 6) gNil))) (tt := tYes) rfl nd (pi_list (pv 2))
        (blkOk_by (own := [("block", 5), ("energy", 6)]) (N := ["self", "seed", "parts", "across", "along", "block", "energy"]) (sc := defScope s_Cluster_init) (by decide +kernel))
        (fun _ _ _ _ _ => pg_tup rfl (pgs_cons (pg_name (i := 5) nd rfl (.inl rfl)) (pgs_cons (pg_name (i := 6) nd rfl (.inl rfl)) pgs_nil))) (fun _ _ _ _ _ => pts_nil)
        (fun _ _ _ _ _ => pe_op op_mul (pv 6) (pe_def dRS hr (pa_cons (pv 1) (pa_cons (pv 5) pa_nil))))) pa_nil)))
      (pss_cons (ps_fld (pv 0) (pe_op op_add (pe_op op_mul (pe_num nF) (pe_def dC hr (pa_cons (pv 1) pa_nil))) (pe_def dN hr (pa_cons (pe_op op_mul (pe_num nF) (pv 3)) (pa_cons (pe_fld (pv 0) rfl) pa_nil)))) rfl)
      (pss_one (ps_fld (pv 0) (pe_op op_mod (pe_op op_add (pe_op op_mul (pe_num nF) (pe_def dR hr (pa_cons (pv 1) pa_nil))) (pe_def dN hr (pa_cons (pe_op op_mul (pe_num nF) (pv 4)) (pa_cons (pe_fld (pv 0) rfl) pa_nil)))) (pe_num nY)) rfl))))))), ?_⟩
    have hz : c.parts.length ≤ sizeLine := Nat.le_trans O.len (by decide)
    have pb : ∀ p ∈ c.parts, (-(2 ^ 64) : Int) < p.e ∧ p.e < 2 ^ 64 := fun p hp => by
      have := O.e0 p hp
      have := O.e1 p hp
      omega
    have eb : c.e.natAbs < 2 ^ 2000 := by
      have h1 := clu_e_lt O
      exact Nat.lt_of_lt_of_le h1 (Nat.pow_le_pow_right (by decide) (by decide))
    have ep := O.pos
    refine ⟨_, rfl, _, rfl, x, CC, dx, _, rfl, hx, T.cl, T.nf _ (by decide +kernel), (by show 0 < 1000; decide), ?_⟩
    refine ⟨_, rfl, _, rfl, x, CC, dx, _, rfl, upd_same, T.cl, T.nf _ (by decide +kernel), (by show 1 < 1000; decide), ?_⟩
    have k2 : But H (upd (upd H x (.ins CC dx [("seed", .int (c.seed : Int))])) x (.ins CC dx [("seed", .int (c.seed : Int)), ("parts", .ref a)])) x := (But.refl H x).upd.upd
    have P2 := hP.but hx k2
    refine ⟨_, rfl, a, rfl, P2.seq, fun D hD => lc_parts (fun p => p.e) hD P2 hz (fun p => rfl) (fun p H R hp s k => ⟨_, rfl, k _ (Same.refl _)⟩) fun H3 S3 D3 => ?_⟩
    have X3 := S3 _ _ upd_same
    refine ⟨D, _, rfl, SqL.of D3, ?_⟩
    rw [sum_eq]
    refine ⟨_, rfl, x, CC, dx, _, rfl, X3, T.cl, T.nf _ (by decide +kernel), (by show 2 < 1000; decide), ?_⟩
    have k4 : But H (upd H3 x (.ins CC dx [("seed", .int (c.seed : Int)), ("parts", .ref a), ("energy", .int c.e)])) x := (k2.same S3).upd
    have P4 := hP.but hx k4
    refine ⟨_, rfl, a, rfl, P4.seq, fun D5 hD5 => lc_parts (fun p => p.e * (((p.block % 32 : Nat) : Int) - ((c.seed % 32 : Nat) : Int))) hD5 P4 hz (fun p => rfl) (fun p H R hp s k => ?_) fun H5 S5 D5' => ?_⟩
    · exact ⟨_, rfl, _, rfl, _, rfl, _, _, rfl, _, _, rfl, rfl, .inl (pb p hp), k _ (Same.refl _)⟩
    refine ⟨D5, _, rfl, SqL.of D5', ?_⟩
    rw [sum_eq]
    have P5 := P4.same S5
    refine ⟨_, rfl, a, rfl, P5.seq, fun D6 hD6 => lc_parts (fun p => p.e * Sj24.rowStep c.seed p.block) hD6 P5 hz (fun p => rfl) (fun p H R hp s k => ?_) fun H6 S6 D6' => ?_⟩
    · refine ⟨_, rfl, _, rfl, _, rfl, _, _, rfl, _, _, rfl, rfl, .inl (pb p hp), ?_⟩
      rw [JM.rowStep_is (O.blk p hp) O.seed (O.near p hp)]
      exact k _ (Same.refl _)
    refine ⟨D6, _, rfl, SqL.of D6', ?_⟩
    rw [sum_eq]
    have X6 := S6 _ _ (S5 _ _ upd_same)
    refine ⟨_, rfl, _, rfl, _, _, rfl, rfl, .inl ⟨by decide, by decide⟩, _, rfl, _, _, rfl, rfl, .inl ⟨by decide, by decide⟩, _, rfl, x, CC, dx, _, _, rfl, X6, T.cl, T.nf _ (by decide +kernel), rfl, _, _, rfl, (show 0 < c.e by clear eb; omega), eb, _, _, rfl, rfl, ?_⟩
    refine ⟨_, rfl, x, CC, dx, _, rfl, X6, T.cl, T.nf _ (by decide +kernel), (by show 3 < 1000; decide), ?_⟩
    refine ⟨_, rfl, _, rfl, _, _, rfl, rfl, .inl ⟨by decide, by decide⟩, _, rfl, _, _, rfl, rfl, .inl ⟨by decide, by decide⟩, _, rfl, x, CC, dx, _, _, rfl, upd_same, T.cl, T.nf _ (by decide +kernel), rfl, _, _, rfl, (show 0 < c.e by clear eb; omega), eb, _, _, rfl, rfl, ?_⟩
    refine ⟨_, _, rfl, rfl, (by show (0 : Int) < 2048; decide), ?_⟩
    refine ⟨_, rfl, x, CC, dx, _, rfl, upd_same, T.cl, T.nf _ (by decide +kernel), (by show 4 < 1000; decide), ?_⟩
    refine q _ ?_ ((k4.same (S5.trans S6)).upd.upd)
    exact upd_same
end
end J
set_option Elab.async false
set_option maxRecDepth 100000
set_option maxHeartbeats 2000000
namespace J
open PySem PySem.Spec PyProof.Rows L2
/-- the readings of the blocks -/
def BlocksAt (CR : Addr) (H : Hp) (r : Addr) (bs : List Sj24.Block) : Prop := ∃ xs : List Addr, xs.length = bs.length ∧ H r = some (.lst (xs.map V.ref)) ∧ ∀ (i : Nat) (x : Addr) (b : Sj24.Block), xs[i]? = some x → bs[i]? = some b → ReadAt CR H x b
theorem ReadAt.same {CR : Addr} {H H' : Hp} {x : Addr} {b : Sj24.Block} (s : Same H H') (h : ReadAt CR H x b) : ReadAt CR H' x b := by
  obtain ⟨dx, h⟩ := h
  exact ⟨dx, s _ _ h⟩
theorem BlocksAt.same {CR : Addr} {H H' : Hp} {r : Addr} {bs : List Sj24.Block} (s : Same H H') (h : BlocksAt CR H r bs) : BlocksAt CR H' r bs := by
  obtain ⟨xs, h1, h2, h3⟩ := h
  exact ⟨xs, h1, s _ _ h2, fun i x b hx hb => (h3 i x b hx hb).same s⟩
/-- the reading of one block -/
theorem BlocksAt.at {CR : Addr} {H : Hp} {r : Addr} {h : Sj24.House} (B : BlocksAt CR H r h.blocks) (hl : h.blocks.length = 1024) {k : Nat} (hk : k < 1024) : ∃ xs x dx, H r = some (.lst xs) ∧ xs[k]? = some (V.ref x) ∧ H x = some (.ins CR dx (rF (h.block k))) := by
  obtain ⟨xs, h1, h2, h3⟩ := B
  have hx : xs[k]? = some (xs[k]'(by omega)) := List.getElem?_eq_getElem (by omega)
  have hb : h.blocks[k]? = some (h.block k) := by
    unfold Sj24.House.block
    rw [List.getD_eq_getElem?_getD, List.getElem?_eq_getElem (by omega)]
    rfl
  obtain ⟨dx, e⟩ := h3 k _ _ hx hb
  exact ⟨_, _, dx, h2, by rw [List.getElem?_map, hx]; rfl, e⟩
theorem bit_max {l : List Sj24.Part} {g : Sj24.Part → Bool} {m : Int} (hm : m ∈ l.map fun p => Sj24.bit (g p)) (h : ∀ y ∈ l.map fun p => Sj24.bit (g p), y ≤ m) : m = Sj24.bit (l.any g) := by
  obtain ⟨p, hp, e⟩ := List.mem_map.mp hm
  cases ha : l.any g with
  | true =>
    obtain ⟨z, hz, hg⟩ := List.any_eq_true.mp ha
    have := h _ (List.mem_map.mpr ⟨z, hz, rfl⟩)
    rw [hg] at this
    cases hgp : g p with
    | true => rw [← e, hgp]
    | false =>
      rw [hgp] at e
      rw [← e] at this
      exact absurd this (by decide)
  | false =>
    have : g p = false := by
      have := List.any_eq_false.mp ha p hp
      simpa using this
    rw [← e, this]
section
variable {P : Program} {w : World} {K : PySem.W.Frag} {mg : Str → Option Value} {base : Heap} {f CC CR : Addr} {fd : FuncData}
theorem sc_present_time : FnScope ["cluster", "readings", "weighted", "block", "energy"] ["cluster", "readings"] (defScope s_present_time) := ⟨rfl, rfl, rfl, by decide +kernel, rfl, by decide +kernel, by decide +kernel⟩
def sp_present_time (CC CR : Addr) : Sp := fun vs H Q _ => ∃ (x r : Addr) (c : Sj24.Cluster) (h : Sj24.House), vs = [.ref x, .ref r] ∧ CluAt CC H x c ∧ JM.CluOk c ∧ BlocksAt CR H r h.blocks ∧ h.blocks.length = 1024 ∧ ∀ H', Same H H' → Q (.int (c.time h)) H'
theorem ok_present_time (F : Fun K "present_time" "present_time" s_present_time f fd) (TC : Clx K CC ["seed", "parts", "energy", "column", "row"]) (TR : Clx K CR ["energy", "time", "full"]) (mSum : mg "sum" = none)
    (dN : Def P w K mg base CX0 "nearest" 1 ["dividend", "divisor"] sp_nearest) : FnOk P w K mg base CX0 2 f fd ["cluster", "readings"] (sp_present_time CC CR) := by
  have nd := sc_present_time.nd
  refine F.ok sc_present_time (fun vs H Q E h => ?_) (fun cdv A outer s H vs Q E hr h => ?_)
  · obtain ⟨_, _, _, _, rfl, _⟩ := h
    rfl
  · obtain ⟨x, r, c, h, rfl, ⟨dx, a, hx, hP⟩, O, B, hl, q⟩ := h
    refine ⟨_, pss_cons (ps_set (i := 2) nd rfl (.inl rfl) (pe_callB (cr_sum rfl) (by rfl) mSum (by decide +kernel) (pa_cons (pe_lc (own := [("block", 3), ("energy", 4)]) (g := gTup K 2 (gCons (gName 3) (gCons (gName 4) gNil))) (tt := tYes) (te := tOp (rI CMul fun i j => .int (i * j)) (tVar 4) (tFld K (tOp (rIxL K) (tVar 1) (tVar 3)) "time")) rfl nd (pi_list (pe_fld (pv 0) rfl))
        (blkOk_by (own := [("block", 3), ("energy", 4)]) (N := ["cluster", "readings", "weighted", "block", "energy"]) (sc := defScope s_present_time) (by decide +kernel))
        (fun _ _ _ _ _ => pg_tup rfl (pgs_cons (pg_name (i := 3) nd rfl (.inl rfl)) (pgs_cons (pg_name (i := 4) nd rfl (.inl rfl)) pgs_nil))) (fun _ _ _ _ _ => pts_nil)
        (fun _ _ _ _ _ => pe_op op_mul (pv 4) (pe_at (pe_ix ix_list (pv 1) (pv 3) (fun _ _ => rfl))))) pa_nil)))
      (pss_one (ps_ret (pe_def dN hr (pa_cons (pv 2) (pa_cons (pe_fld (pv 0) rfl) pa_nil))))), ?_⟩
    have hz : c.parts.length ≤ sizeLine := Nat.le_trans O.len (by decide)
    have pb : ∀ p ∈ c.parts, (-(2 ^ 64) : Int) < p.e ∧ p.e < 2 ^ 64 := fun p hp => by
      have := O.e0 p hp
      have := O.e1 p hp
      omega
    refine ⟨_, rfl, x, CC, dx, _, _, rfl, hx, TC.cl, TC.nf _ (by decide +kernel), rfl, a, rfl, hP.seq, fun D hD => lc_parts (fun p => p.e * (h.block p.block).time) hD hP hz (fun p => rfl) (fun p H R hp s k => ?_) fun H1 S1 D1 => ?_⟩
    · obtain ⟨xs, y, dy, e1, e2, e3⟩ := (B.same s).at hl (O.blk p hp)
      exact ⟨_, rfl, _, rfl, _, rfl, r, _, _, _, rfl, rfl, SqL.of e1, at_of rfl e2, y, CR, dy, _, _, rfl, e3, TR.cl, TR.nf _ (by decide +kernel), rfl, _, _, rfl, rfl, .inl (pb p hp), k _ (Same.refl _)⟩
    · refine ⟨D, _, rfl, SqL.of D1, ?_⟩
      rw [sum_eq]
      refine ⟨_, rfl, _, rfl, x, CC, dx, _, _, rfl, S1 _ _ hx, TC.cl, TC.nf _ (by decide +kernel), rfl, _, _, rfl, (by have := O.pos; omega), ?_, q _ S1⟩
      exact Nat.lt_of_lt_of_le (clu_e_lt O) (Nat.pow_le_pow_right (by decide) (by decide))
theorem sc_present_full : FnScope ["cluster", "readings", "block", "energy"] ["cluster", "readings"] (defScope s_present_full) := ⟨rfl, rfl, rfl, by decide +kernel, rfl, by decide +kernel, by decide +kernel⟩
def sp_present_full (CC CR : Addr) : Sp := fun vs H Q _ => ∃ (x r : Addr) (c : Sj24.Cluster) (h : Sj24.House), vs = [.ref x, .ref r] ∧ CluAt CC H x c ∧ JM.CluOk c ∧ BlocksAt CR H r h.blocks ∧ h.blocks.length = 1024 ∧
  ∀ H', Same H H' → Q (.int (Sj24.bit (c.parts.any fun p => (h.block p.block).full))) H'
theorem ok_present_full (F : Fun K "present_full" "present_full" s_present_full f fd) (TC : Clx K CC ["seed", "parts", "energy", "column", "row"]) (TR : Clx K CR ["energy", "time", "full"]) (mMax : mg "max" = none) : FnOk P w K mg base CX0 1 f fd ["cluster", "readings"] (sp_present_full CC CR) := by
  have nd := sc_present_full.nd
  refine F.ok sc_present_full (fun vs H Q E h => ?_) (fun cdv A outer s H vs Q E hr h => ?_)
  · obtain ⟨_, _, _, _, rfl, _⟩ := h
    rfl
  · obtain ⟨x, r, c, h, rfl, ⟨dx, a, hx, hP⟩, O, B, hl, q⟩ := h
    refine ⟨_, pss_one (ps_ret (pe_callB (cr_max rfl) (by rfl) mMax (by decide +kernel) (pa_cons (pe_lc (own := [("block", 2), ("energy", 3)]) (g := gTup K 2 (gCons (gName 2) (gCons (gName 3) gNil))) (tt := tYes) (te := tFld K (tOp (rIxL K) (tVar 1) (tVar 2)) "full") rfl nd (pi_list (pe_fld (pv 0) rfl))
        (blkOk_by (own := [("block", 2), ("energy", 3)]) (N := ["cluster", "readings", "block", "energy"]) (sc := defScope s_present_full) (by decide +kernel))
        (fun _ _ _ _ _ => pg_tup rfl (pgs_cons (pg_name (i := 2) nd rfl (.inl rfl)) (pgs_cons (pg_name (i := 3) nd rfl (.inl rfl)) pgs_nil))) (fun _ _ _ _ _ => pts_nil)
        (fun _ _ _ _ _ => pe_at (pe_ix ix_list (pv 1) (pv 2) (fun _ _ => rfl)))) pa_nil))), ?_⟩
    have hz : c.parts.length ≤ sizeLine := Nat.le_trans O.len (by decide)
    refine ⟨_, rfl, x, CC, dx, _, _, rfl, hx, TC.cl, TC.nf _ (by decide +kernel), rfl, a, rfl, hP.seq, fun D hD => lc_parts (fun p => Sj24.bit (h.block p.block).full) hD hP hz (fun p => rfl) (fun p H R hp s k => ?_) fun H1 S1 D1 => ?_⟩
    · obtain ⟨xs, y, dy, e1, e2, e3⟩ := (B.same s).at hl (O.blk p hp)
      exact ⟨_, rfl, _, rfl, r, _, _, _, rfl, rfl, SqL.of e1, at_of rfl e2, y, CR, dy, _, _, rfl, e3, TR.cl, TR.nf _ (by decide +kernel), rfl, k _ (Same.refl _)⟩
    · have ne : c.parts ≠ [] := fun z => by
        have h1 := O.pos
        have h2 : c.e = 0 := by
          unfold Sj24.Cluster.e
          rw [z]
          rfl
        omega
      refine ⟨D, _, rfl, SqL.of D1, by rw [List.length_map]; exact List.length_pos_iff.mpr ne, fun m hm hmax => ?_⟩
      rw [bit_max hm hmax]
      exact q _ S1
end
end J
set_option Elab.async false
set_option maxRecDepth 100000
set_option maxHeartbeats 2000000
namespace J
open PySem PySem.Spec PyProof.Rows L2
/-! ### walks over the keys of a dict -/
theorem for_keys {d : Addr} {o : Obj} {kvs : List (Key × V)} {g : TG} {tb : TS} {D : Ends} {σ : L2.St} {H : Hp} (Pv : Nat → L2.St → Hp → Prop) (h0 : Pv 0 σ H) (hl : ∀ i σ H, Pv i σ H → H d = some (.frz o (.dK kvs)))
    (hs : ∀ (i : Nat) (k : Key) (v : V) (σ : L2.St) (H : Hp), kvs[i]? = some (k, v) → Pv i σ H → g (kV k) σ H fun σ2 H2 => tb { D with nx := Pv (i + 1), ct := Pv (i + 1), bk := D.nx } σ2 H2) (hd : ∀ σ H, Pv kvs.length σ H → D.nx σ H) :
    ∃ W : Nat → Nat → L2.St → Hp → Prop, (∃ m, W 0 m σ H) ∧ ∀ i m σ H, W i m σ H →
      ((Itk d o kvs).stop i H ∧ D.nx σ H) ∨ ((Itk d o kvs).go i H ∧ ∃ N : L2.St → Hp → Prop, (∀ σ' H', N σ' H' → ∃ m', m' < m ∧ W (i + 1) m' σ' H') ∧ ∀ x H', (Itk d o kvs).yld i H x H' → g x σ H' fun σ2 H2 => tb { D with nx := N, ct := N, bk := D.nx } σ2 H2) := by
  refine ⟨fun i m σ H => m = kvs.length - i ∧ i ≤ kvs.length ∧ Pv i σ H, ⟨kvs.length, by simp, Nat.zero_le _, h0⟩, ?_⟩
  rintro i m σ H ⟨rfl, hi, p⟩
  by_cases hlt : i < kvs.length
  · refine .inr ⟨⟨hl i σ H p, hlt⟩, Pv (i + 1), fun σ' H' p' => ⟨kvs.length - (i + 1), by omega, rfl, hlt, p'⟩, fun x H' y => ?_⟩
    obtain ⟨rfl, k, v, hk, rfl⟩ := y
    exact hs i k v σ _ hk p
  · have e : i = kvs.length := by omega
    subst e
    exact .inl ⟨⟨hl _ σ H p, Nat.le_refl _⟩, hd σ H p⟩
theorem lc_keys {d : Addr} {o : Obj} {kvs : List (Key × V)} {g : TG} {tt : TT} {te : TE} {vs : List Nat} {σ : L2.St} {H1 : Hp} {D : Addr} {Qd : Hp → Prop} (Pv : Nat → Hp → Prop) (h0 : Pv 0 (upd H1 D (.lst []))) (hl : ∀ i H, Pv i H → H d = some (.frz o (.dK kvs)))
    (hs : ∀ (i : Nat) (k : Key) (v : V) (H : Hp), kvs[i]? = some (k, v) → Pv i H → g (kV k) (wipe σ vs) H fun σ2 H2 => wipe σ2 vs = wipe σ vs ∧ tt σ2 H2 fun b H3 =>
      if b = true then te σ2 H3 fun y H4 => ∃ acc, H4 D = some (.lst acc) ∧ acc.length < sizeLine ∧ Pv (i + 1) (upd H4 D (.lst (acc ++ [y]))) else Pv (i + 1) H3) (hd : ∀ H, Pv kvs.length H → Qd H) :
    ∃ W : Nat → Nat → Hp → Prop, (∃ m, W 0 m (upd H1 D (.lst []))) ∧ ∀ i m H, W i m H →
      ((Itk d o kvs).stop i H ∧ Qd H) ∨ ((Itk d o kvs).go i H ∧ ∃ Nx : Hp → Prop, (∀ H', Nx H' → ∃ m', m' < m ∧ W (i + 1) m' H') ∧ ∀ x H', (Itk d o kvs).yld i H x H' → g x (wipe σ vs) H' fun σ2 H2 => wipe σ2 vs = wipe σ vs ∧ tt σ2 H2 fun b H3 =>
        if b = true then te σ2 H3 fun y H4 => ∃ acc, H4 D = some (.lst acc) ∧ acc.length < sizeLine ∧ Nx (upd H4 D (.lst (acc ++ [y]))) else Nx H3) := by
  refine ⟨fun i m H => m = kvs.length - i ∧ i ≤ kvs.length ∧ Pv i H, ⟨kvs.length, by simp, Nat.zero_le _, h0⟩, ?_⟩
  rintro i m H ⟨rfl, hi, p⟩
  by_cases hlt : i < kvs.length
  · refine .inr ⟨⟨hl i H p, hlt⟩, Pv (i + 1), fun H' p' => ⟨kvs.length - (i + 1), by omega, rfl, hlt, p'⟩, fun x H' y => ?_⟩
    obtain ⟨rfl, k, v, hk, rfl⟩ := y
    exact hs i k v _ hk p
  · have e : i = kvs.length := by omega
    subst e
    exact .inl ⟨⟨hl _ H p, Nat.le_refl _⟩, hd H p⟩
/-! ### what is new against a heap -/
def New (H H' : Hp) : Hp := fun b => match H b with
  | none => H' b
  | some _ => none
theorem New.get {H H' : Hp} {b : Addr} {o : HO} (n : H b = none) (e : H' b = some o) : New H H' b = some o := by
  unfold New
  rw [n]
  exact e
theorem New.sub {H H' : Hp} : Same (New H H') H' := fun b o e => by
  unfold New at e
  cases h : H b with
  | none =>
    rw [h] at e
    exact e
  | some u =>
    rw [h] at e
    cases e
theorem New.free {H H' : Hp} {b : Addr} {o : HO} (e : New H H' b = some o) : H b = none := by
  unfold New at e
  cases h : H b with
  | none => rfl
  | some u =>
    rw [h] at e
    cases e
theorem New.same {H H1 H2 : Hp} (s : Same H1 H2) : Same (New H H1) (New H H2) := fun b o e => New.get (New.free e) (s _ _ (New.sub _ _ e))
theorem New.upd {H H' : Hp} {x : Addr} {o : HO} (n : H x = none) : New H (L2.upd H' x o) = L2.upd (New H H') x o := by
  funext b
  unfold New L2.upd
  by_cases e : b = x
  · subst e
    rw [n, if_pos rfl, if_pos rfl]
  · rw [if_neg e, if_neg e]
/-! ### the dict of parts -/
def pkv (S : List Nat) (as : List Addr) : List (Key × V) := (S.zip as).map fun (p : Nat × Addr) => ((Sum.inl (p.1 : Int) : Key), V.ref p.2)
theorem pkv_at : ∀ {S : List Nat} {as : List Addr} {m s : Nat} {a : Addr}, S.Nodup → S[m]? = some s → as[m]? = some a → valV (pkv S as) (Sum.inl (s : Int)) = some (V.ref a)
  | x :: S, y :: as, 0, s, a, _, h1, h2 => by
    have e1 : x = s := Option.some.inj h1
    have e2 : y = a := Option.some.inj h2
    subst e1 e2
    exact valV_pos rfl
  | x :: S, y :: as, m + 1, s, a, nd, h1, h2 => by
    obtain ⟨n1, n2⟩ := List.nodup_cons.mp nd
    have h1' : S[m]? = some s := h1
    have e : ¬ (Sum.inl (x : Int) : Key) = Sum.inl (s : Int) := fun z => n1 (by
      have := Sum.inl.inj z
      have : x = s := by omega
      rw [this]
      exact List.mem_of_getElem? h1')
    show valV (((Sum.inl (x : Int) : Key), V.ref y) :: pkv S as) _ = _
    rw [valV_neg e]
    exact pkv_at n2 h1' h2
  | [], _, _, _, _, _, h1, _ => by simp at h1
  | _ :: _, [], _, _, _, _, _, h2 => by simp at h2
theorem pkv_none : ∀ {S : List Nat} {as : List Addr} {s : Nat}, s ∉ S → valV (pkv S as) (Sum.inl (s : Int)) = none
  | [], _, _, _ => rfl
  | _ :: _, [], _, _ => rfl
  | x :: S, y :: as, s, h => by
    have e : ¬ (Sum.inl (x : Int) : Key) = Sum.inl (s : Int) := fun z => h (by
      have := Sum.inl.inj z
      have : x = s := by omega
      rw [this]
      exact List.mem_cons_self)
    show valV (((Sum.inl (x : Int) : Key), V.ref y) :: pkv S as) _ = _
    rw [valV_neg e]
    exact pkv_none fun z => h (List.mem_cons_of_mem _ z)
theorem pkv_snoc {S : List Nat} {as : List Addr} {s : Nat} {a : Addr} (e : S.length = as.length) : pkv (S ++ [s]) (as ++ [a]) = pkv S as ++ [((Sum.inl (s : Int) : Key), V.ref a)] := by
  unfold pkv
  rw [List.zip_append e, List.map_append]
  rfl
/-- the lists of parts, one a seed -/
structure AllParts (H : Hp) (S : List Nat) (as : List Addr) (L : List (Nat × Sj24.Part)) : Prop where
  len : as.length = S.length
  nd : as.Nodup
  at_ : ∀ (j s : Nat) (a : Addr), S[j]? = some s → as[j]? = some a → PartsAt H a (JM.partsOf L s)
theorem AllParts.same {H H' : Hp} {S : List Nat} {as : List Addr} {L : List (Nat × Sj24.Part)} (s : Same H H') (h : AllParts H S as L) : AllParts H' S as L :=
  ⟨h.len, h.nd, fun j n a h1 h2 => (h.at_ j n a h1 h2).same s⟩
/-- one part more -/
theorem AllParts.push {H : Hp} {S : List Nat} {as : List Addr} {L : List (Nat × Sj24.Part)} {m o : Nat} {a t : Addr} {p : Sj24.Part} {xs : List V} (A : AllParts H S as L) (nd : S.Nodup) (h1 : S[m]? = some o) (h2 : as[m]? = some a)
    (ha : H a = some (.lst xs)) (ht : H t = some (partT p)) : AllParts (upd H a (.lst (xs ++ [.ref t]))) S as (L ++ [(o, p)]) := by
  refine ⟨A.len, A.nd, fun j s b hj hb => ?_⟩
  rw [JM.partsOf_append]
  by_cases e : j = m
  · subst e
    have e1 : s = o := Option.some.inj (hj.symm.trans h1)
    have e2 : b = a := Option.some.inj (hb.symm.trans h2)
    subst e1 e2
    obtain ⟨ts, q1, q2, q3⟩ := A.at_ j s b hj hb
    have ex : xs = ts.map V.ref := by
      rw [ha] at q2
      injection q2 with q2
      injection q2
    have ep : JM.partsOf [(s, p)] s = [p] := by
      unfold JM.partsOf
      simp
    rw [ep]
    refine ⟨ts ++ [t], by simp [q1], ?_, fun i u z hu hz => ?_⟩
    · rw [upd_same, ex, List.map_append]
      rfl
    · by_cases hi : i < ts.length
      · rw [List.getElem?_append_left hi] at hu
        rw [List.getElem?_append_left (by omega)] at hz
        have := q3 i u z hu hz
        rw [upd_ne (ne_of this ha (by intro z; cases z))]
        exact this
      · have hi' : i = ts.length := by
          have := (List.getElem?_eq_some_iff.mp hu).1
          rw [List.length_append] at this
          have : ([t] : List Addr).length = 1 := rfl
          omega
        subst hi'
        rw [List.getElem?_concat_length] at hu
        rw [q1, List.getElem?_concat_length] at hz
        cases hu
        cases hz
        rw [upd_ne (ne_of ht ha (by intro z; cases z))]
        exact ht
  · have ns : s ≠ o := fun z => e (by
      subst z
      exact nd_ix nd hj h1)
    have ep : JM.partsOf [(o, p)] s = [] := by
      unfold JM.partsOf
      have : (o == s) = false := beq_eq_false_iff_ne.mpr fun z => ns z.symm
      simp [this]
    rw [ep, List.append_nil]
    have nb : b ≠ a := fun z => e (by
      subst z
      exact nd_ix A.nd hb h2)
    obtain ⟨ts, q1, q2, q3⟩ := A.at_ j s b hj hb
    refine ⟨ts, q1, by rw [upd_ne nb]; exact q2, fun i u z hu hz => ?_⟩
    have := q3 i u z hu hz
    rw [upd_ne (ne_of this ha (by intro z; cases z))]
    exact this
def ClustersAt (CC : Addr) (H : Hp) (l : Addr) (cs : List Sj24.Cluster) : Prop := ∃ xs : List Addr, xs.length = cs.length ∧ H l = some (.lst (xs.map V.ref)) ∧ ∀ (i : Nat) (x : Addr) (c : Sj24.Cluster), xs[i]? = some x → cs[i]? = some c → CluAt CC H x c
theorem ClustersAt.same {CC : Addr} {H H' : Hp} {l : Addr} {cs : List Sj24.Cluster} (s : Same H H') (h : ClustersAt CC H l cs) : ClustersAt CC H' l cs := by
  obtain ⟨xs, h1, h2, h3⟩ := h
  exact ⟨xs, h1, s _ _ h2, fun i x c hx hc => (h3 i x c hx hc).same s⟩
end J
set_option Elab.async false
set_option maxRecDepth 100000
set_option maxHeartbeats 2000000
namespace J
open PySem PySem.Spec PyProof.Rows L2
theorem skv_at {S : List Nat} {i : Nat} {k : Key} {v : V} (h : (skv S)[i]? = some (k, v)) : ∃ s, S[i]? = some s ∧ k = Sum.inl (s : Int) := by
  unfold skv at h
  rw [List.getElem?_map] at h
  obtain ⟨s, hs, e⟩ := Option.map_eq_some_iff.mp h
  exact ⟨s, hs, (congrArg Prod.fst e).symm⟩
theorem skv_len (S : List Nat) : (skv S).length = S.length := List.length_map _
theorem nlist_at {l : List Nat} {i : Nat} {y : V} (h : (nlist l)[i]? = some y) : ∃ n : Nat, l[i]? = some n ∧ y = V.int (n : Int) := by
  unfold nlist at h
  rw [List.getElem?_map] at h
  obtain ⟨n, hn, e⟩ := Option.map_eq_some_iff.mp h
  exact ⟨n, hn, e.symm⟩
theorem nlist_len (l : List Nat) : (nlist l).length = l.length := List.length_map _
theorem not_take {S : List Nat} {i s : Nat} (nd : S.Nodup) (h : S[i]? = some s) : s ∉ S.take i := fun z => by
  obtain ⟨j, hj⟩ := List.getElem?_of_mem z
  have hji : j < i := by
    have := (List.getElem?_eq_some_iff.mp hj).1
    rw [List.length_take] at this
    omega
  rw [List.getElem?_take_of_lt hji] at hj
  have := nd_ix nd hj h
  omega
theorem seeds_len (h : Sj24.House) : (Sj24.seeds h).length ≤ 1024 := by
  unfold Sj24.seeds
  have := List.length_filter_le (Sj24.isSeed h) (List.range Sj24.BLOCKS)
  rw [List.length_range] at this
  exact this
theorem off_lst {H H' : Hp} {x : Addr} {o : HO} {a : Addr} {xs : List V} (h : H a = some (.lst xs)) (hx : H x = some o) (n : ∀ z, HO.lst z ≠ o) (k : But H H' x) : H' a = some (.lst xs) := k _ _ h (ne_of h hx (n _))
theorem PartsAt.off {H H' : Hp} {a x : Addr} {o : HO} {ps : List Sj24.Part} (hx : H x = some o) (n1 : ∀ z, HO.lst z ≠ o) (n2 : ∀ z, HO.tup z ≠ o) (k : But H H' x) (h : PartsAt H a ps) : PartsAt H' a ps := by
  obtain ⟨ts, h1, h2, h3⟩ := h
  exact ⟨ts, h1, k _ _ h2 (ne_of h2 hx (n1 _)), fun i t p ht hp => k _ _ (h3 i t p ht hp) (ne_of (h3 i t p ht hp) hx (n2 _))⟩
theorem yes {σ : L2.St} {H : Hp} {B : Hp → Prop} {R : Hp → Prop} (h : R H) : tYes σ H (fun b H3 => if b = true then R H3 else B H3) := by
  show (if true = true then R H else B H)
  rw [if_pos rfl]
  exact h
theorem PartsAt.put {H : Hp} {a D : Addr} {xs : List V} {o : HO} {ps : List Sj24.Part} (h : PartsAt H a ps) (hD : H D = some (.lst xs)) (na : a ≠ D) : PartsAt (L2.upd H D o) a ps := by
  obtain ⟨ts, h1, h2, h3⟩ := h
  refine ⟨ts, h1, by rw [upd_ne na]; exact h2, fun i t p ht hp => ?_⟩
  have := h3 i t p ht hp
  rw [upd_ne (ne_of this hD (by intro z; cases z))]
  exact this
theorem CluAt.off {CC : Addr} {H H' : Hp} {a x : Addr} {o : HO} {c : Sj24.Cluster} (hx : H x = some o) (n1 : ∀ z, HO.lst z ≠ o) (n2 : ∀ z, HO.tup z ≠ o) (n3 : ∀ C dx fs, HO.ins C dx fs ≠ o) (k : But H H' x) (h : CluAt CC H a c) : CluAt CC H' a c := by
  obtain ⟨dx, b, h1, h2⟩ := h
  exact ⟨dx, b, k _ _ h1 (ne_of h1 hx (n3 _ _ _)), h2.off hx n1 n2 k⟩
theorem But.of_upd {H : Hp} {x : Addr} {o : HO} : But H (L2.upd H x o) x := (But.refl H x).upd
section
variable {P : Program} {w : World} {K : PySem.W.Frag} {mg : Str → Option Value} {base : Heap} {f CC : Addr} {fd : FuncData}
theorem sc_clusters_of : FnScope ["energies", "seed", "low", "seeds", "parts", "block", "owners", "owner", "shares", "share"] ["energies", "seed", "low"] (defScope s_clusters_of) := ⟨rfl, rfl, rfl, by decide +kernel, rfl, by decide +kernel, by decide +kernel⟩
def sp_clusters_of (K : PySem.W.Frag) (CC : Addr) : Sp := fun vs H Q _ => ∃ (h : Sj24.House) (l : Addr), vs = [.ref l, .int h.seed, .int h.low] ∧ JM.EOk h ∧ SqL K H l ((esOf h).map V.int) ∧
  ∀ (H' : Hp) (p : Addr), Same H H' → H p = none → ClustersAt CC (New H H') p (Sj24.clustersOf h) → Q (.ref p) H'
theorem ok_clusters_of (F : Fun K "clusters_of" "clusters_of" s_clusters_of f fd) (nB : IntAt mg "BLOCKS" 1024) (mR : mg "range" = none) (mZ : mg "zip" = none)
    (dSB : Def P w K mg base CX0 "seed_blocks" 4 ["energies", "seed"] (sp_seed_blocks K)) (dO : Def P w K mg base CX0 "owners_of" 3 ["block", "energies", "seeds", "low"] (sp_owners_of K)) (dD : Def P w K mg base CX0 "divide" 1 ["energy", "seed_energies"] (sp_divide K))
    (cC : Ctor P w K mg base CX0 "Cluster" CC 3 ["self", "seed", "parts"] (sp_Cluster_init CC)) : FnOk P w K mg base CX0 5 f fd ["energies", "seed", "low"] (sp_clusters_of K CC) := by
  have nd := sc_clusters_of.nd
  refine F.ok sc_clusters_of (fun vs H Q E h => ?_) (fun cdv A outer s H vs Q E hr h => ?_)
  · obtain ⟨_, _, rfl, _⟩ := h
    rfl
  · obtain ⟨h, l, rfl, EO, hl, q⟩ := h
    refine ⟨_, pss_cons (ps_set (i := 3) nd rfl (.inl rfl) (pe_def dSB hr (pa_cons (pv 0) (pa_cons (pv 1) pa_nil))))
      (pss_cons (ps_set (i := 4) nd rfl (.inr rfl) pe_dnewK)
      (pss_cons (ps_lock (ps_for PassesOwn.never rfl (pi_keys (pv 3)) (pg_name (i := 5) nd rfl (.inl rfl)) (pss_one (ps_dput (hu_of hr) (pv 4) (pv 5) (pe_lst pa_nil) rfl))))
      (pss_cons (ps_for PassesOwn.never rfl (pi_range1 (by rfl) mR (pa_cons (pe_num nB) pa_nil)) (pg_name (i := 5) nd rfl (.inl rfl))
        (pss_cons (ps_set (i := 6) nd rfl (.inl rfl) (pe_def dO hr (pa_cons (pv 5) (pa_cons (pv 0) (pa_cons (pv 3) (pa_cons (pv 2) pa_nil))))))
        (pss_one (ps_if (pt_truth (pv 6) (by intro _; rfl))
          (pss_cons (ps_set (i := 8) nd rfl (.inl rfl) (pe_def dD hr (pa_cons (pe_ix ix_list (pv 0) (pv 5) (fun _ _ => rfl)) (pa_cons
            (pe_lc (own := [("owner", 7)]) (g := gName 7) (tt := tYes) (te := tOp (rIxL K) (tVar 0) (tVar 7)) rfl nd (pi_list (pv 6))
              (blkOk_by (own := [("owner", 7)]) (N := ["energies", "seed", "low", "seeds", "parts", "block", "owners", "owner", "shares", "share"]) (sc := defScope s_clusters_of) (by decide +kernel))
              (fun _ _ _ _ _ => pg_name (i := 7) nd rfl (.inl rfl)) (fun _ _ _ _ _ => pts_nil) (fun _ _ _ _ _ => pe_ix ix_list (pv 0) (pv 7) (fun _ _ => rfl))) pa_nil))))
          (pss_one (ps_for PassesOwn.never rfl (pi_zip (by rfl) mZ (pa_cons (pv 6) (pa_cons (pv 8) pa_nil))) (pg_tup rfl (pgs_cons (pg_name (i := 7) nd rfl (.inl rfl)) (pgs_cons (pg_name (i := 9) nd rfl (.inl rfl)) pgs_nil)))
            (pss_one (ps_expr (pe_bm PySem.F.plainAttrs_list PySem.F.slot_list_append PySem.F.type_list_append mt_append (pe_dget (hu_of hr) (pv 4) (pv 7) (fun _ _ => rfl)) (pa_cons (pe_tup (pa_cons (pv 5) (pa_cons (pv 9) pa_nil))) pa_nil)))))))
          pss_nil))))
      (pss_one (ps_ret (pe_lock (pe_lc (own := [("block", 5)]) (g := gName 5) (tt := tYes) (te := tMake CC (sp_Cluster_init CC) [] E0 (tCons (tVar 5) (tCons (tDGet (tVar 4) (tVar 5)) tNil))) rfl nd (pi_keys (pv 3))
        (blkOk_by (own := [("block", 5)]) (N := ["energies", "seed", "low", "seeds", "parts", "block", "owners", "owner", "shares", "share"]) (sc := defScope s_clusters_of) (by decide +kernel))
        (fun _ _ _ _ _ => pg_name (i := 5) nd rfl (.inl rfl)) (fun _ _ _ _ _ => pts_nil) (fun _ _ _ _ _ => pe_new cC hr (pa_cons (pv 5) (pa_cons (pe_dget (hu_of hr) (pv 4) (pv 5) (fun _ _ => rfl)) pa_nil)))))))))), ?_⟩
    have SN := JM.seeds_nodup h
    generalize hS : Sj24.seeds h = S at *
    refine ⟨_, rfl, _, rfl, h, l, rfl, hl, fun H1 p1 S1 n1 D1 => ?_⟩
    rw [hS] at D1
    intro d4 n4
    have n4' : H d4 = none := S1.free n4
    have p1d4 : p1 ≠ d4 := ne_of_none D1 n4
    have D1' : upd H1 d4 (.dK []) p1 = some (.dK (skv S)) := by
      rw [upd_ne p1d4]
      exact D1
    refine ⟨p1, _, D1', trivial, fun od => ⟨_, rfl, p1, od, rfl, .inl ⟨_, upd_same, ?_⟩⟩⟩
    refine for_keys (fun i σ H' => ∃ v as, σ = [some (.ref l), some (.int h.seed), some (.int h.low), some (.ref p1), some (.ref d4), v, none, none, none, none] ∧ H' p1 = some (.frz od (.dK (skv S))) ∧
        H' d4 = some (.dK (pkv (S.take i) as)) ∧ as.length = (S.take i).length ∧ as.Nodup ∧ (∀ a ∈ as, H' a = some (.lst []) ∧ H a = none) ∧ Same H H')
      ⟨none, [], rfl, upd_same, by rw [upd_ne p1d4.symm]; exact upd_same, rfl, List.nodup_nil, fun a ha => by simp at ha, Same.upd (Same.upd S1 n4') n1⟩ (fun i σ H' ⟨_, _, _, e, _⟩ => e) ?_ ?_
    · rintro i k v σ H2 hk ⟨v5, as, rfl, e1, e2, ln, ndA, ha, S2⟩
      obtain ⟨s, hs, rfl⟩ := skv_at hk
      have nin := not_take SN hs
      refine ⟨(by show 0 ≤ sizeLine; omega), fun a na => ⟨_, rfl, _, rfl, d4, _, rfl, DPut.k (k := Sum.inl (s : Int)) (by rw [upd_ne (ne_of_none e2 na)]; exact e2) ?_, ?_⟩⟩
      · have : (pkv (S.take i) as).length ≤ 1024 := by
          unfold pkv
          rw [List.length_map, List.length_zip]
          have := seeds_len h
          rw [hS] at this
          rw [List.length_take]
          omega
        exact Nat.lt_of_le_of_lt this (by decide)
      · have nA : a ∉ as := fun z => by
          have := (ha a z).1
          rw [na] at this
          cases this
        have nH : H a = none := S2.free na
        refine ⟨_, as ++ [a], rfl, ?_, ?_, ?_, ?_, ?_, ?_⟩
        · rw [upd_ne (ne_of e1 e2 (by intro z; cases z)), upd_ne (ne_of_none e1 na)]
          exact e1
        · rw [upd_same, putK_new _ (pkv_none nin), take_more hs, pkv_snoc ln.symm]
        · rw [take_more hs]
          simp [ln]
        · exact nd_snoc ndA nA
        · intro b hb
          rcases List.mem_append.mp hb with hb | hb
          · obtain ⟨q1, q2⟩ := ha b hb
            refine ⟨?_, q2⟩
            rw [upd_ne (ne_of q1 e2 (by intro z; cases z)), upd_ne (ne_of_none q1 na)]
            exact q1
          · rw [List.mem_singleton.mp hb]
            refine ⟨?_, nH⟩
            rw [upd_ne (ne_of_none e2 na).symm]
            exact upd_same
        · exact Same.upd (Same.upd S2 nH) n4'
    · rintro σ H2 ⟨v5, as, rfl, e1, e2, ln, ndA, ha, S2⟩
      rw [skv_len, List.take_length] at e2 ln
      refine ⟨e1, ?_⟩
      have A3 : AllParts (New H (upd H2 p1 (.dK (skv S)))) S as [] := ⟨ln, ndA, fun j s a hj hb => by
        obtain ⟨this, aH⟩ := ha a (List.mem_of_getElem? hb)
        refine ⟨[], rfl, New.get aH ?_, fun i t p ht => by simp at ht⟩
        rw [upd_ne (ne_of this e1 (by intro z; cases z))]
        exact this⟩
      have as0 : ∀ a ∈ as, H a = none := fun a z => (ha a z).2
      refine ⟨1024, rfl, by decide, by decide, for_range (lo := 0) (n := (1024 : Int).toNat)
        (fun i σ H' => ∃ v5 v6 v7 v8 v9, σ = [some (.ref l), some (.int h.seed), some (.int h.low), some (.ref p1), some (.ref d4), v5, v6, v7, v8, v9] ∧ Same H H' ∧ H' p1 = some (.dK (skv S)) ∧ H' d4 = some (.dK (pkv S as)) ∧ AllParts (New H H') S as (JM.allP h i))
        ⟨_, _, _, _, _, rfl, Same.upd S2 n1, upd_same, by rw [upd_ne p1d4.symm]; exact e2, A3⟩ ?_ ?_⟩
      · rintro i σ H3 hi ⟨v5, v6, v7, v8, v9, rfl, S3, E1, E2, A3⟩
        rw [Int.zero_add]
        have hi : i < 1024 := hi
        refine ⟨_, rfl, _, rfl, _, rfl, _, rfl, h, i, l, p1, rfl, hi, S3.seq hl, by rw [hS]; exact E1, fun H4 p2 S4 n2 L2 => ?_⟩
        rw [hS] at L2
        have S34 := S3.trans S4
        have A4 := A3.same (New.same S4)
        have F2 := S4 _ _ E2
        have F1 := S4 _ _ E1
        have p2as : p2 ∉ as := fun z => by
          obtain ⟨j, hj⟩ := List.getElem?_of_mem z
          obtain ⟨s, hs⟩ := at_len A3.len.symm hj
          obtain ⟨ts, _, q2, _⟩ := A3.at_ j s p2 hs hj
          have q2 := New.sub _ _ q2
          rw [n2] at q2
          cases q2
        refine ⟨_, rfl, !(nlist (Sj24.owners h S i)).isEmpty, .inl ⟨_, SqL.of L2, rfl⟩, ?_⟩
        by_cases ne : Sj24.owners h S i = []
        · rw [ne]
          refine iteF ?_
          refine ⟨_, _, _, _, _, rfl, S34, F1, F2, ?_⟩
          rw [JM.allP_succ, JM.chunk_nil (by rw [hS]; exact ne), List.append_nil]
          exact A4
        · have ne' : (!(nlist (Sj24.owners h S i)).isEmpty) = true := by
            unfold nlist
            rw [List.isEmpty_map]
            cases hh : Sj24.owners h S i with
            | nil => exact absurd hh ne
            | cons a b => rfl
          rw [ne']
          refine iteT ?_
          have own1 : ∀ o ∈ Sj24.owners h S i, o ∈ S := fun o ho => by
            have := JM.owners_sub (h := h) (b := i) (o := o)
            rw [hS] at this
            exact this ho
          have olt : ∀ o ∈ Sj24.owners h S i, o < 1024 := fun o ho => JM.lt_of_seeds (h := h) (by rw [hS]; exact own1 o ho)
          have olen : (Sj24.owners h S i).length ≤ 9 := by
            have := JM.owners_length (h := h) hi
            rw [hS] at this
            exact this
          have ond : (Sj24.owners h S i).Nodup := by
            have := JM.owners_nodup h i
            rw [hS] at this
            exact this
          have oe : ∀ x ∈ (Sj24.owners h S i).map h.e, 1 ≤ x := by
            have := JM.owner_e EO (b := i)
            rw [hS] at this
            exact this
          refine ⟨_, rfl, _, rfl, l, _, _, _, rfl, rfl, S34.seq hl, at_of rfl (esAt hi), _, rfl, p2, rfl, ⟨_, SqL.of L2⟩, fun D hD => lc_mapL (K := K) (ys := ((Sj24.owners h S i).map h.e).map V.int) hD (SqL.of L2) (by rw [nlist_len, List.length_map, List.length_map]) (by rw [nlist_len]; exact Nat.le_trans olen (by decide)) ?_ ?_⟩
          · intro j x y H5 R hx hy S5 k
            obtain ⟨o, ho, rfl⟩ := nlist_at hx
            obtain ⟨z, hz, rfl⟩ := of_map hy
            have ez : z = h.e o := by
              rw [List.getElem?_map, ho] at hz
              exact (Option.some.inj hz).symm
            subst ez
            exact ⟨rfl, _, rfl, _, rfl, l, _, _, _, rfl, rfl, (S34.trans S5).seq hl, at_of rfl (esAt (olt o (List.mem_of_getElem? ho))), k _ (Same.refl _)⟩
          · intro H5 S5 D5
            refine ⟨D, h.e i, (Sj24.owners h S i).map h.e, rfl, SqL.of D5, EO.e0 i, EO.e1 i, fun z => ne (List.map_eq_nil_iff.mp z), by rw [List.length_map]; exact olen, fun x hx => ⟨oe x hx, ?_⟩, fun jm H6 p4 fm S6 n4b L4 => ?_⟩
            · obtain ⟨o, _, rfl⟩ := List.mem_map.mp hx
              exact EO.e1 o
            have S46 := S5.trans S6
            have A6 := A4.same (New.same S46)
            have p4as : p4 ∉ as := fun z => by
              obtain ⟨j, hj⟩ := List.getElem?_of_mem z
              obtain ⟨s, hs⟩ := at_len A3.len.symm hj
              obtain ⟨ts, _, q2, _⟩ := (A4.same (New.same S5)).at_ j s p4 hs hj
              have q2 := New.sub _ _ q2
              rw [n4b] at q2
              cases q2
            have cz : JM.chunk h i = ((Sj24.owners h S i).zip (JM.dv (h.e i) ((Sj24.owners h S i).map h.e) jm)).map fun x => (x.1, (⟨i, x.2⟩ : Sj24.Part)) := by
              have := JM.chunk_zip (h := h) (b := i) (j := jm)
              rw [hS] at this
              exact this fm
            have dl : (JM.dv (h.e i) ((Sj24.owners h S i).map h.e) jm).length = (Sj24.owners h S i).length := by rw [JM.dv_length, List.length_map]
            refine ⟨_, rfl, _, rfl, p2, p4, _, _, rfl, SqL.of (S46 _ _ L2), SqL.of L4, RZ.for_zipL (K := K) (xs := nlist (Sj24.owners h S i)) (ys := (JM.dv (h.e i) ((Sj24.owners h S i).map h.e) jm).map V.int) (by rw [nlist_len, List.length_map, dl])
              (fun j σ H' => ∃ v7 v9, σ = [some (.ref l), some (.int h.seed), some (.int h.low), some (.ref p1), some (.ref d4), some (.int (i : Int)), some (.ref p2), v7, some (.ref p4), v9] ∧ Same H H' ∧ H' p1 = some (.dK (skv S)) ∧ H' d4 = some (.dK (pkv S as)) ∧
                H' p2 = some (.lst (nlist (Sj24.owners h S i))) ∧ H' p4 = some (.lst ((JM.dv (h.e i) ((Sj24.owners h S i).map h.e) jm).map V.int)) ∧ AllParts (New H H') S as (JM.allP h i ++ (JM.chunk h i).take j))
              ⟨_, _, rfl, S34.trans S46, S46 _ _ F1, S46 _ _ F2, S46 _ _ L2, L4, by rw [List.take_zero, List.append_nil]; exact A6⟩ (fun j σ H' ⟨_, _, _, _, _, _, g1, g2, _⟩ => ⟨SqL.of g1, SqL.of g2⟩) ?_ ?_⟩
            · rintro j x y T σ H7 hx hy ⟨v7, v9, rfl, S7, G1, G2, G3, G4, A7⟩ nT
              obtain ⟨o, ho, rfl⟩ := nlist_at hx
              obtain ⟨z, hz, rfl⟩ := of_map hy
              have oS := own1 o (List.mem_of_getElem? ho)
              obtain ⟨m, hm⟩ := List.getElem?_of_mem oS
              obtain ⟨a, hma⟩ := at_len A7.len hm
              have ST : Same H7 (upd H7 T (.tup [.int (o : Int), .int z])) := Same.new nT
              refine ⟨T, _, rfl, SqT.of upd_same, rfl, _, _, rfl, _, _, rfl, rfl, ?_⟩
              have dg := DGet.k (k := Sum.inl (o : Int)) (ST _ _ G2)
              rw [pkv_at SN hm hma] at dg
              obtain ⟨ts, q1, q2, q3⟩ := (A7.same (New.same ST)).at_ m o a hm hma
              have q2 := New.sub _ _ q2
              refine ⟨_, rfl, _, rfl, d4, _, rfl, dg, .inl ⟨rfl, _, SqL.of q2⟩, _, rfl, _, rfl, (by show 2 ≤ sizeLine; decide), fun t nt => ?_⟩
              have St : Same (upd H7 T (.tup [.int (o : Int), .int z])) (upd (upd H7 T (.tup [.int (o : Int), .int z])) t (.tup [.int (i : Int), .int z])) := Same.new nt
              have S8 := ST.trans St
              refine ⟨a, _, _, rfl, rfl, St _ _ q2, ?_, ?_⟩
              · rw [List.length_map, q1]
                have b1 := JM.partsOf_length (JM.allP h i ++ (JM.chunk h i).take j) o
                have b2 := JM.allP_length (h := h) (i := i) (by omega)
                have b3 := JM.chunk_length (h := h) hi
                rw [List.length_append] at b1
                have b4 := List.length_take_le' j (JM.chunk h i)
                exact Nat.lt_of_le_of_lt (show _ ≤ 9225 by omega) (by decide)
              · have aH := as0 a (List.mem_of_getElem? hma)
                have am := List.mem_of_getElem? hma
                refine ⟨_, _, rfl, Same.upd (S7.trans S8) aH, ?_, ?_, ?_, ?_, ?_⟩
                · rw [upd_ne (ne_of (S8 _ _ G1) (St _ _ q2) (by intro z; cases z))]
                  exact S8 _ _ G1
                · rw [upd_ne (ne_of (S8 _ _ G2) (St _ _ q2) (by intro z; cases z))]
                  exact S8 _ _ G2
                · rw [upd_ne (fun z => p2as (by rw [z]; exact am))]
                  exact S8 _ _ G3
                · rw [upd_ne (fun z => p4as (by rw [z]; exact am))]
                  exact S8 _ _ G4
                · have hc : (JM.chunk h i)[j]? = some (o, (⟨i, z⟩ : Sj24.Part)) := by
                    have hzz : ((Sj24.owners h S i).zip (JM.dv (h.e i) ((Sj24.owners h S i).map h.e) jm))[j]? = some (o, z) := List.getElem?_zip_eq_some.mpr ⟨ho, hz⟩
                    rw [cz, List.getElem?_map, hzz]
                    rfl
                  rw [take_more hc, ← List.append_assoc]
                  rw [New.upd aH]
                  exact (A7.same (New.same S8)).push SN hm hma (New.get aH (St _ _ q2)) (New.get ((S7.trans ST).free nt) upd_same)
            · rintro σ H7 ⟨v7, v9, rfl, S7, G1, G2, G3, G4, A7⟩
              refine ⟨_, _, _, _, _, rfl, S7, G1, G2, ?_⟩
              have cl : (nlist (Sj24.owners h S i)).length = (JM.chunk h i).length := by
                rw [nlist_len, cz, List.length_map, List.length_zip, dl, Nat.min_self]
              rw [cl, List.take_length] at A7
              rw [JM.allP_succ]
              exact A7
      · rintro σ H3 ⟨v5, v6, v7, v8, v9, rfl, S3, E1, E2, A3⟩
        have A3 : AllParts (New H H3) S as (JM.allP h 1024) := A3
        refine ⟨p1, _, E1, trivial, fun od2 => ⟨_, rfl, p1, od2, rfl, .inl ⟨_, upd_same, fun D hD => ?_⟩⟩⟩
        have kL : But H3 (upd H3 p1 (.frz od2 (.dK (skv S)))) p1 := But.of_upd
        have kN : But (New H H3) (New H (upd H3 p1 (.frz od2 (.dK (skv S))))) p1 := by
          rw [New.upd n1]
          exact But.of_upd
        have AL : AllParts (New H (upd H3 p1 (.frz od2 (.dK (skv S))))) S as (JM.allP h 1024) := ⟨A3.len, A3.nd, fun j s a hs ha => (A3.at_ j s a hs ha).off (New.get n1 E1) (by intro z q; cases q) (by intro z q; cases q) kN⟩
        have SH : ∀ H', Same (upd H3 p1 (.frz od2 (.dK (skv S)))) H' → Same H H' := fun H' s b o e => s _ _ (kL _ _ (S3 _ _ e) (ne_of_none e n1))
        have HD : H D = none := (SH _ (Same.refl _)).free hD
        have E2L : upd H3 p1 (.frz od2 (.dK (skv S))) d4 = some (.dK (pkv S as)) := by
          rw [upd_ne p1d4.symm]
          exact E2
        have csat : ∀ (j s : Nat), S[j]? = some s → (Sj24.clustersOf h)[j]? = some ⟨s, JM.partsOf (JM.allP h 1024) s⟩ := fun j s hj => by
          rw [JM.clusters_is, hS, List.getElem?_map, hj]
          rfl
        have clen : (Sj24.clustersOf h).length = S.length := by
          rw [JM.clusters_is, hS, List.length_map]
        refine lc_keys (fun i H' => ∃ xs : List Addr, xs.length = i ∧ H' D = some (.lst (xs.map V.ref)) ∧ Same (upd H3 p1 (.frz od2 (.dK (skv S)))) H' ∧
            ∀ (j : Nat) (x : Addr) (c : Sj24.Cluster), xs[j]? = some x → (Sj24.clustersOf h)[j]? = some c → ∃ dx a, New H H' x = some (.ins CC dx (cF c a)) ∧ PartsAt (New H H') a c.parts ∧ a ≠ D) ⟨[], rfl, upd_same, Same.new hD, fun j x c hx => by simp at hx⟩ (fun i H' ⟨_, _, _, s, _⟩ => s _ _ upd_same) ?_ ?_
        · rintro i k v H4 hk ⟨xs, ln, hDl, S4, CA⟩
          obtain ⟨s, hs, rfl⟩ := skv_at hk
          obtain ⟨a, ha⟩ := at_len A3.len hs
          have dg := DGet.k (k := Sum.inl (s : Int)) (S4 _ _ E2L)
          rw [pkv_at SN hs ha] at dg
          have cs := csat i s hs
          refine ⟨rfl, yes ⟨_, rfl, _, rfl, _, rfl, d4, _, rfl, dg, fun x dx nx ndx ne => ?_⟩⟩
          have PaN := (AL.at_ i s a hs ha).same (New.same S4)
          have Pa := (PaN.same New.sub).same (Same.upd (Same.new ndx) nx : Same H4 (upd (upd H4 dx (.own x)) x (.ins CC dx [])))
          have xH : H x = none := (SH _ S4).free nx
          refine ⟨x, dx, a, ⟨s, JM.partsOf (JM.allP h 1024) s⟩, rfl, upd_same, Pa, JM.cluster_ok EO (List.mem_of_getElem? cs), fun H5 h5 k5 => ⟨rfl, xs.map V.ref, ?_, ?_, xs ++ [x], by simp [ln], ?_, ?_, ?_⟩⟩
          · exact made_same nx ndx k5 _ _ hDl
          · rw [List.length_map, ln]
            have h1 := (List.getElem?_eq_some_iff.mp hs).1
            have h2 := seeds_len h
            rw [hS] at h2
            exact Nat.lt_of_lt_of_le (show i < 1024 by omega) (by decide)
          · rw [upd_same, List.map_append]
            rfl
          · exact Same.upd (S4.trans (made_same nx ndx k5)) hD
          · have S5 : Same H4 H5 := made_same nx ndx k5
            have hD5 := S5 _ _ hDl
            have aD : a ≠ D := by
              obtain ⟨ts, _, q2, _⟩ := AL.at_ i s a hs ha
              exact ne_of_none (New.sub _ _ q2) hD
            have put : ∀ (y : Addr) (c : Sj24.Cluster) (dy b : Addr), New H H5 y = some (.ins CC dy (cF c b)) → PartsAt (New H H5) b c.parts → b ≠ D → ∃ dx a, New H (upd H5 D (.lst (xs.map V.ref ++ [V.ref x]))) y = some (.ins CC dx (cF c a)) ∧ PartsAt (New H (upd H5 D (.lst (xs.map V.ref ++ [V.ref x])))) a c.parts ∧ a ≠ D := by
              intro y c dy b e1 e2 e3
              rw [New.upd HD]
              refine ⟨dy, b, ?_, e2.put (New.get HD hD5) e3, e3⟩
              rw [upd_ne (ne_of (New.sub _ _ e1) hD5 (by intro z; cases z))]
              exact e1
            intro j y c hy hc
            by_cases hj : j < xs.length
            · rw [List.getElem?_append_left hj] at hy
              obtain ⟨dy, b, e1, e2, e3⟩ := CA j y c hy hc
              exact put y c dy b (New.same S5 _ _ e1) (e2.same (New.same S5)) e3
            · have hj' : j = xs.length := by
                have := (List.getElem?_eq_some_iff.mp hy).1
                rw [List.length_append] at this
                have : ([x] : List Addr).length = 1 := rfl
                omega
              subst hj'
              rw [List.getElem?_concat_length] at hy
              cases hy
              rw [ln, cs] at hc
              cases hc
              exact put x _ dx a (New.get xH h5) (PaN.same (New.same S5)) aD
        · rintro H4 ⟨xs, ln, hDl, S4, CA⟩
          rw [skv_len] at ln
          have nN : But (New H H4) (New H (upd H4 p1 (.dK (skv S)))) p1 := by
            rw [New.upd n1]
            exact But.of_upd
          refine ⟨S4 _ _ upd_same, q _ D ?_ HD ?_⟩
          · intro b o e
            rw [upd_ne (ne_of_none e n1)]
            exact SH _ S4 _ _ e
          · refine ⟨xs, by rw [ln, clen], New.get HD ?_, fun j x c hx hc => ?_⟩
            · rw [upd_ne (ne_of hDl (S4 _ _ upd_same) (by intro z; cases z))]
              exact hDl
            · obtain ⟨dx, a, e1, e2, _⟩ := CA j x c hx hc
              exact CluAt.off (New.get n1 (S4 _ _ upd_same)) (by intro z q; cases q) (by intro z q; cases q) (by intro C dx fs q; cases q) nN ⟨dx, a, e1, e2⟩
end
end J
set_option Elab.async false
set_option maxRecDepth 100000
set_option maxHeartbeats 2000000
namespace J
open PySem PySem.Spec PyProof.Rows L2
/-! ### jets as objects -/
def jF (j : Sj24.Jet) (a : Addr) : List (Str × V) := [("energy", .int j.e), ("column", .int j.col), ("row", .int j.row), ("clusters", .ref a)]
/-- a pseudojet: its clusters in increasing order -/
def JetAt (CJ : Addr) (H : Hp) (x : Addr) (j : Sj24.Jet) : Prop := ∃ dx a, H x = some (.ins CJ dx (jF j a)) ∧ H a = some (.lst (nlist (Sj24.rising j.members)))
theorem JetAt.same {CJ : Addr} {H H' : Hp} {x : Addr} {j : Sj24.Jet} (s : Same H H') (h : JetAt CJ H x j) : JetAt CJ H' x j := by
  obtain ⟨dx, a, h1, h2⟩ := h
  exact ⟨dx, a, s _ _ h1, s _ _ h2⟩
def JetsAt (CJ : Addr) (H : Hp) (l : Addr) (js : List Sj24.Jet) : Prop := ∃ xs : List Addr, xs.length = js.length ∧ H l = some (.lst (xs.map V.ref)) ∧ ∀ (i : Nat) (x : Addr) (j : Sj24.Jet), xs[i]? = some x → js[i]? = some j → JetAt CJ H x j
theorem JetsAt.same {CJ : Addr} {H H' : Hp} {l : Addr} {js : List Sj24.Jet} (s : Same H H') (h : JetsAt CJ H l js) : JetsAt CJ H' l js := by
  obtain ⟨xs, h1, h2, h3⟩ := h
  exact ⟨xs, h1, s _ _ h2, fun i x c hx hc => (h3 i x c hx hc).same s⟩
theorem JetsAt.nil {CJ : Addr} {H : Hp} {l : Addr} (h : H l = some (.lst [])) : JetsAt CJ H l [] := ⟨[], rfl, h, fun i x j hx => by simp at hx⟩
end J
set_option Elab.async false
set_option maxRecDepth 100000
set_option maxHeartbeats 2000000
namespace J
open PySem PySem.Spec PyProof.Rows L2
/-! ### what does not change: all but the places M -/
def Off (M : List Addr) (H : Hp) : Hp := fun b => if b ∈ M then none else H b
theorem Off.get {M : List Addr} {H : Hp} {b : Addr} {o : HO} (n : b ∉ M) (e : H b = some o) : Off M H b = some o := by
  unfold Off
  rw [if_neg n]
  exact e
theorem Off.not {M : List Addr} {H : Hp} {b : Addr} {o : HO} (e : Off M H b = some o) : b ∉ M := fun z => by
  unfold Off at e
  rw [if_pos z] at e
  cases e
theorem Off.sub {M : List Addr} {H : Hp} : Same (Off M H) H := fun b o e => by
  have n := Off.not e
  unfold Off at e
  rw [if_neg n] at e
  exact e
/-- outside M all stands -/
def Keep (M : List Addr) (H H' : Hp) : Prop := ∀ b o, H b = some o → b ∉ M → H' b = some o
theorem Keep.refl (M : List Addr) (H : Hp) : Keep M H H := fun _ _ e _ => e
theorem Keep.same {M : List Addr} {H H' H'' : Hp} (k : Keep M H H') (s : Same H' H'') : Keep M H H'' := fun b o e n => s _ _ (k b o e n)
theorem Keep.of_same {M : List Addr} {H H' : Hp} (s : Same H H') : Keep M H H' := fun b o e _ => s b o e
theorem Keep.trans {M : List Addr} {H H' H'' : Hp} (k : Keep M H H') (k' : Keep M H' H'') : Keep M H H'' := fun b o e n => k' _ _ (k b o e n) n
theorem Keep.upd {M : List Addr} {H H' : Hp} {x : Addr} {o : HO} (k : Keep M H H') (hx : x ∈ M) : Keep M H (L2.upd H' x o) := fun b u e n => by
  rw [upd_ne (fun z => n (by rw [z]; exact hx))]
  exact k b u e n
theorem Keep.mono {M N : List Addr} {H H' : Hp} (k : Keep M H H') (h : ∀ x ∈ M, x ∈ N) : Keep N H H' := fun b o e n => k b o e fun z => n (h b z)
theorem Off.keep {M N : List Addr} {H H' : Hp} (k : Keep N H H') (h : ∀ x ∈ N, x ∈ M) : Same (Off M H) (Off M H') := fun b o e =>
  Off.get (Off.not e) (k b o (Off.sub _ _ e) fun z => Off.not e (h b z))
/-- what is new lies outside M, if all of M was there -/
theorem Off.new {M : List Addr} {H H' : Hp} (all : ∀ m ∈ M, H m ≠ none) : Same (New H H') (Off M H') := fun b o e =>
  Off.get (fun z => all b z (New.free e)) (New.sub _ _ e)
theorem GainAt.same {CG : Addr} {H H' : Hp} {x : Addr} {g : Sj24.Gain} (s : Same H H') (h : GainAt CG H x g) : GainAt CG H' x g := by
  obtain ⟨dx, h⟩ := h
  exact ⟨dx, s _ _ h⟩
/-- [C(..) for _ in range(n)]: n new instances alike -/
theorem lc_make {lo : Int} {n : Nat} {C : Addr} {fs : List (Str × V)} {g : TG} {te : TE} {vs : List Nat} {σ : L2.St} {H1 : Hp} {D : Addr} {Qd : Hp → Prop} (hD : H1 D = none) (hz : n ≤ sizeLine)
    (hs : ∀ (i : Nat) (H : Hp) (R : VK), i < n → (∀ (x : Addr) (H4 : Hp), Same H H4 → H x = none → (∃ dx, H4 x = some (.ins C dx fs)) → R (.ref x) H4) → g (.int (lo + i)) (wipe σ vs) H fun σ2 H2 => wipe σ2 vs = wipe σ vs ∧ te σ2 H2 R)
    (hd : ∀ (H : Hp) (xs : List Addr), Same H1 H → H D = some (.lst (xs.map V.ref)) → xs.length = n → (∀ x ∈ xs, ∃ dx, New H1 H x = some (.ins C dx fs)) → Qd H) :
    ∃ W : Nat → Nat → Hp → Prop, (∃ m, W 0 m (upd H1 D (.lst []))) ∧ ∀ i m H, W i m H →
      ((Itr lo n).stop i H ∧ Qd H) ∨ ((Itr lo n).go i H ∧ ∃ Nx : Hp → Prop, (∀ H', Nx H' → ∃ m', m' < m ∧ W (i + 1) m' H') ∧ ∀ x H', (Itr lo n).yld i H x H' → g x (wipe σ vs) H' fun σ2 H2 => wipe σ2 vs = wipe σ vs ∧ tYes σ2 H2 fun b H3 =>
        if b = true then te σ2 H3 fun y H4 => ∃ acc, H4 D = some (.lst acc) ∧ acc.length < sizeLine ∧ Nx (upd H4 D (.lst (acc ++ [y]))) else Nx H3) := by
  refine lc_range (lo := lo) (n := n) (fun i H => ∃ xs : List Addr, xs.length = i ∧ Same H1 H ∧ H D = some (.lst (xs.map V.ref)) ∧ ∀ x ∈ xs, ∃ dx, New H1 H x = some (.ins C dx fs)) ⟨[], rfl, Same.new hD, upd_same, fun x hx => by simp at hx⟩ ?_ ?_
  · rintro i H hi ⟨xs, ln, S, hl, A⟩
    have h := hs i H (fun y H4 => ∃ acc, H4 D = some (.lst acc) ∧ acc.length < sizeLine ∧ ∃ xs : List Addr, xs.length = i + 1 ∧ Same H1 (upd H4 D (.lst (acc ++ [y]))) ∧ upd H4 D (.lst (acc ++ [y])) D = some (.lst (xs.map V.ref)) ∧ ∀ x ∈ xs, ∃ dx, New H1 (upd H4 D (.lst (acc ++ [y]))) x = some (.ins C dx fs)) hi
      (fun x H4 s4 nx ⟨dx, hx⟩ => by
        have hl4 := s4 _ _ hl
        refine ⟨_, hl4, by rw [List.length_map]; omega, xs ++ [x], by simp [ln], Same.upd (S.trans s4) hD, ?_, ?_⟩
        · rw [upd_same, List.map_append]
          rfl
        · intro y hy
          rw [New.upd hD]
          rcases List.mem_append.mp hy with hy | hy
          · obtain ⟨dy, e⟩ := A y hy
            have e4 := New.same s4 _ _ e
            refine ⟨dy, ?_⟩
            rw [upd_ne (ne_of (New.sub _ _ e4) hl4 (by intro z; cases z))]
            exact e4
          · rw [List.mem_singleton.mp hy]
            refine ⟨dx, ?_⟩
            rw [upd_ne (ne_of hx hl4 (by intro z; cases z))]
            exact New.get (S.free nx) hx)
    simpa only [tYes, if_true] using h
  · rintro H ⟨xs, ln, S, hl, A⟩
    exact hd H xs S hl ln A
/-! ### the calorimeter as an object -/
structure Cls4 where
  CD : Addr
  CG : Addr
  CR : Addr
  CC : Addr
  CJ : Addr
def dF (h : Sj24.House) (g ew tw r cl jl : Addr) : List (Str × V) := [("seed", .int h.seed), ("low", .int h.low), ("reach", .int h.reach), ("gains", .ref g), ("energy_weights", .ref ew), ("time_weights", .ref tw), ("readings", .ref r), ("clusters", .ref cl), ("jets", .ref jl)]
/-- the parts of a calorimeter: J tells what stands for good -/
structure DetCore (Z : Cls4) (J H : Hp) (d g r : Addr) (h : Sj24.House) (ew tw cl jl : Addr) (gs rs : List Addr) : Prop where
  d : ∃ dx, H d = some (.ins Z.CD dx (dF h g ew tw r cl jl))
  g : H g = some (.lst (gs.map V.ref))
  gl : gs.length = h.gains.length
  ga : ∀ (i : Nat) (a : Addr) (G : Sj24.Gain), gs[i]? = some a → h.gains[i]? = some G → GainAt Z.CG J a G
  r : H r = some (.lst (rs.map V.ref))
  rl : rs.length = h.blocks.length
  ra : ∀ (i : Nat) (a : Addr) (B : Sj24.Block), rs[i]? = some a → h.blocks[i]? = some B → ReadAt Z.CR J a B
  w : J ew = some (.lst (h.w.map V.int))
  v : J tw = some (.lst (h.v.map V.int))
  c : ClustersAt Z.CC J cl h.clusters
  j : JetsAt Z.CJ J jl h.jets
structure DetAt (Z : Cls4) (M : List Addr) (H : Hp) (d g r : Addr) (h : Sj24.House) : Prop where
  dM : d ∈ M
  gM : g ∈ M
  rM : r ∈ M
  gr : g ≠ r
  all : ∀ m ∈ M, H m ≠ none
  core : ∃ ew tw cl jl gs rs, DetCore Z (Off M H) H d g r h ew tw cl jl gs rs
structure HouseOk (h : Sj24.House) : Prop where
  low : 1 ≤ h.low
  seed : h.low ≤ h.seed
  top : h.seed ≤ 1099511627776
  r0 : 1 ≤ h.reach
  r1 : h.reach ≤ 1024
  gl : h.gains.length = 4
  g : ∀ G ∈ h.gains, GainOk G
  w : WOk h.w
  v : WOk h.v
  bl : h.blocks.length = 1024
  b : ∀ B ∈ h.blocks, JM.BlockOk B
  c : ∀ c ∈ h.clusters, JM.CluOk c
  cl : h.clusters.length ≤ 1024
  j : ∀ x ∈ h.jets, x.members.length ≤ 1024
  jl : h.jets.length ≤ 1024
theorem HouseOk.block {h : Sj24.House} (O : HouseOk h) (k : Nat) : JM.BlockOk (h.block k) := by
  unfold Sj24.House.block
  rw [List.getD_eq_getElem?_getD]
  cases e : h.blocks[k]? with
  | none => exact ⟨by show (0 : Int) ≤ 0; omega, by show (0 : Int) ≤ _; omega, by show (-32768 : Int) ≤ 0; omega, by show (0 : Int) ≤ _; omega⟩
  | some B => exact O.b B (List.mem_of_getElem? e)
theorem HouseOk.eok {h : Sj24.House} (O : HouseOk h) : JM.EOk h := ⟨fun k => (O.block k).1, fun k => (O.block k).2.1, O.low, O.seed⟩
theorem DetCore.keep {Z : Cls4} {J J' H H' : Hp} {d g r ew tw cl jl : Addr} {h : Sj24.House} {gs rs : List Addr} (s : Same J J') (ed : H' d = H d) (eg : H' g = H g) (er : H' r = H r) (D : DetCore Z J H d g r h ew tw cl jl gs rs) : DetCore Z J' H' d g r h ew tw cl jl gs rs :=
  ⟨by rw [ed]; exact D.d, by rw [eg]; exact D.g, D.gl, fun i a G h1 h2 => (D.ga i a G h1 h2).same s, by rw [er]; exact D.r, D.rl, fun i a B h1 h2 => (D.ra i a B h1 h2).same s, s _ _ D.w, s _ _ D.v, D.c.same s, D.j.same s⟩
theorem DetAt.keep {Z : Cls4} {M N : List Addr} {H H' : Hp} {d g r : Addr} {h : Sj24.House} (k : Keep N H H') (hN : ∀ x ∈ N, x ∈ M) (nd : d ∉ N) (ng : g ∉ N) (nr : r ∉ N) (hM : ∀ x ∈ N, H' x ≠ none) (D : DetAt Z M H d g r h) : DetAt Z M H' d g r h := by
  obtain ⟨ew, tw, cl, jl, gs, rs, c⟩ := D.core
  have at_ : ∀ x ∉ N, H x ≠ none → H' x = H x := fun x hx e => by
    cases q : H x with
    | none => exact absurd q e
    | some o => exact k _ _ q hx
  refine ⟨D.dM, D.gM, D.rM, D.gr, fun m hm => ?_, ew, tw, cl, jl, gs, rs, c.keep (Off.keep k hN) (at_ d nd (D.all d D.dM)) (at_ g ng (D.all g D.gM)) (at_ r nr (D.all r D.rM))⟩
  by_cases e : m ∈ N
  · exact hM m e
  · rw [at_ m e (D.all m hm)]
    exact D.all m hm
theorem DetAt.same {Z : Cls4} {M : List Addr} {H H' : Hp} {d g r : Addr} {h : Sj24.House} (s : Same H H') (D : DetAt Z M H d g r h) : DetAt Z M H' d g r h :=
  D.keep (N := []) (Keep.of_same s) (fun x hx => by simp at hx) (by simp) (by simp) (by simp) (fun x hx => by simp at hx)
end J
set_option Elab.async false
set_option maxRecDepth 100000
set_option maxHeartbeats 2000000
namespace J
open PySem PySem.Spec PyProof.Rows L2
def jetNames : List Str := ["energy", "column", "row", "clusters"]
theorem nlist_ints (l : List Nat) : nlist l = (l.map fun (n : Nat) => (n : Int)).map V.int := by
  unfold nlist
  rw [List.map_map]
  rfl
section
variable {P : Program} {w : World} {K : PySem.W.Frag} {mg : Str → Option Value} {base : Heap} {f CJ : Addr} {fd : FuncData}
theorem sc_Pseudojet_init : FnScope ["self", "energy", "column", "row", "clusters"] ["self", "energy", "column", "row", "clusters"] (defScope s_Pseudojet_init) := ⟨rfl, rfl, rfl, by decide +kernel, rfl, by decide +kernel, by decide +kernel⟩
def sp_Pseudojet_init (CJ : Addr) : Sp := fun vs H Q _ => ∃ (p dx a : Addr) (e c r : Int), vs = [.ref p, .int e, .int c, .int r, .ref a] ∧ H p = some (.ins CJ dx []) ∧
  ∀ H' : Hp, H' p = some (.ins CJ dx [("energy", .int e), ("column", .int c), ("row", .int r), ("clusters", .ref a)]) → But H H' p → Q .non H'
theorem ok_Pseudojet_init (F : Fun K "__init__" "Pseudojet.__init__" s_Pseudojet_init f fd) (T : Clx K CJ jetNames) : FnOk P w K mg base CX0 1 f fd ["self", "energy", "column", "row", "clusters"] (sp_Pseudojet_init CJ) := by
  refine F.ok sc_Pseudojet_init (fun vs H Q E h => ?_) (fun cdv A outer s H vs Q E hr h => ?_)
  · obtain ⟨_, _, _, _, _, _, rfl, _⟩ := h
    rfl
  · obtain ⟨p, dx, a, e, c, r, rfl, hp, q⟩ := h
    refine ⟨_, pss_cons (ps_fld (pv 0) (pv 1) rfl) (pss_cons (ps_fld (pv 0) (pv 2) rfl) (pss_cons (ps_fld (pv 0) (pv 3) rfl) (pss_one (ps_fld (pv 0) (pv 4) rfl)))), ?_⟩
    refine ⟨_, rfl, _, rfl, p, CJ, dx, _, rfl, hp, T.cl, T.nf _ (by decide +kernel), (by show 0 < 1000; decide), ?_⟩
    refine ⟨_, rfl, _, rfl, p, CJ, dx, _, rfl, upd_same, T.cl, T.nf _ (by decide +kernel), (by show 1 < 1000; decide), ?_⟩
    refine ⟨_, rfl, _, rfl, p, CJ, dx, _, rfl, upd_same, T.cl, T.nf _ (by decide +kernel), (by show 2 < 1000; decide), ?_⟩
    refine ⟨_, rfl, _, rfl, p, CJ, dx, _, rfl, upd_same, T.cl, T.nf _ (by decide +kernel), (by show 3 < 1000; decide), ?_⟩
    exact q _ upd_same (But.refl H p).upd.upd.upd.upd
theorem sc_squared_distance : FnScope ["one", "other", "columns", "rows"] ["one", "other"] (defScope s_squared_distance) := ⟨rfl, rfl, rfl, by decide +kernel, rfl, by decide +kernel, by decide +kernel⟩
def sp_squared_distance (CJ : Addr) : Sp := fun vs H Q _ => ∃ (x y : Addr) (a b : Sj24.Jet), vs = [.ref x, .ref y] ∧ JetAt CJ H x a ∧ JetAt CJ H y b ∧ JM.JOk a ∧ JM.JOk b ∧ Q (.int (Sj24.apart a b)) H
theorem ok_squared_distance (F : Fun K "squared_distance" "squared_distance" s_squared_distance f fd) (T : Clx K CJ jetNames) (nY : IntAt mg "CYCLE" 2048) (mAbs : mg "abs" = none) (mMin : mg "min" = none) : FnOk P w K mg base CX0 1 f fd ["one", "other"] (sp_squared_distance CJ) := by
  have nd := sc_squared_distance.nd
  refine F.ok sc_squared_distance (fun vs H Q E h => ?_) (fun cdv A outer s H vs Q E hr h => ?_)
  · obtain ⟨_, _, _, _, rfl, _⟩ := h
    rfl
  · obtain ⟨x, y, a, b, rfl, ⟨dx, ax, hx, _⟩, ⟨dy, ay, hy, _⟩, A, B, q⟩ := h
    refine ⟨_, pss_cons (ps_set (i := 2) nd rfl (.inl rfl) (pe_op op_sub (pe_at (pv 0)) (pe_at (pv 1))))
      (pss_cons (ps_set (i := 3) nd rfl (.inl rfl) (pe_callB call_abs (by rfl) mAbs (by decide +kernel) (pa_cons (pe_op op_sub (pe_at (pv 0)) (pe_at (pv 1))) pa_nil)))
      (pss_cons (ps_set (i := 3) nd rfl (.inl rfl) (pe_callB (call_min2 rfl) (by rfl) mMin (by decide +kernel) (pa_cons (pv 3) (pa_cons (pe_op op_sub (pe_num nY) (pv 3)) pa_nil))))
      (pss_one (ps_ret (pe_op op_add (pe_op op_mul (pv 2) (pv 2)) (pe_op op_mul (pv 3) (pv 3))))))), ?_⟩
    refine ⟨_, rfl, x, CJ, dx, _, _, rfl, hx, T.cl, T.nf _ (by decide +kernel), rfl, _, rfl, y, CJ, dy, _, _, rfl, hy, T.cl, T.nf _ (by decide +kernel), rfl, _, _, rfl, rfl, ?_⟩
    refine ⟨_, rfl, x, CJ, dx, _, _, rfl, hx, T.cl, T.nf _ (by decide +kernel), rfl, _, rfl, y, CJ, dy, _, _, rfl, hy, T.cl, T.nf _ (by decide +kernel), rfl, _, _, rfl, rfl, _, rfl, ?_⟩
    refine ⟨_, rfl, _, rfl, _, _, rfl, rfl, _, _, rfl, ?_⟩
    have ed := JM.rows_apart A.r0 A.r1 B.r0 B.r1
    rw [JM.min_way, ed]
    have c0 := A.c0
    have c1 := A.c1
    have d0 := B.c0
    have d1 := B.c1
    exact ⟨_, rfl, _, rfl, _, _, rfl, rfl, .inl ⟨by omega, by omega⟩, _, rfl, _, rfl, _, _, rfl, rfl, .inl ⟨by omega, by omega⟩, _, _, rfl, rfl, q⟩
theorem sc_joined : FnScope ["first", "second", "greater", "clusters"] ["first", "second"] (defScope s_joined) := ⟨rfl, rfl, rfl, by decide +kernel, rfl, by decide +kernel, by decide +kernel⟩
def sp_joined (CJ : Addr) : Sp := fun vs H Q _ => ∃ (x y : Addr) (a b : Sj24.Jet), vs = [.ref x, .ref y] ∧ JetAt CJ H x a ∧ JetAt CJ H y b ∧ a.members.length + b.members.length ≤ 1024 ∧
  ∀ (H' : Hp) (z : Addr), Same H H' → H z = none → JetAt CJ (New H H') z (Sj24.joined a b) → Q (.ref z) H'
theorem rising_len (l : List Nat) : (Sj24.rising l).length = l.length := (JM.rising_perm l).length_eq
theorem nlist_length (l : List Nat) : (nlist l).length = l.length := List.length_map _
theorem ok_joined (F : Fun K "joined" "joined" s_joined f fd) (T : Clx K CJ jetNames) (mSo : mg "sorted" = none) (cJ : Ctor P w K mg base CX0 "Pseudojet" CJ 1 ["self", "energy", "column", "row", "clusters"] (sp_Pseudojet_init CJ)) :
    FnOk P w K mg base CX0 3 f fd ["first", "second"] (sp_joined CJ) := by
  have nd := sc_joined.nd
  refine F.ok sc_joined (fun vs H Q E h => ?_) (fun cdv A outer s H vs Q E hr h => ?_)
  · obtain ⟨_, _, _, _, rfl, _⟩ := h
    rfl
  · obtain ⟨x, y, a, b, rfl, ⟨dx, ax, hx, hax⟩, ⟨dy, ay, hy, hay⟩, ln, q⟩ := h
    refine ⟨_, pss_cons (ps_set (i := 2) nd rfl (.inl rfl) (pe_ifExp (pt_cmpR op_gt (pe_at (pv 1)) (pe_at (pv 0)) (nomark _)) (pv 1) (pv 0)))
      (pss_cons (ps_set (i := 3) nd rfl (.inl rfl) (pe_callB cr_sortedI (by rfl) mSo (by decide +kernel) (pa_cons (pe_op op_cat (pe_at (pv 0)) (pe_at (pv 1))) pa_nil)))
      (pss_one (ps_ret (pe_new cJ hr (pa_cons (pe_op op_add (pe_at (pv 0)) (pe_at (pv 1))) (pa_cons (pe_at (pv 2)) (pa_cons (pe_at (pv 2)) (pa_cons (pv 3) pa_nil)))))))), ?_⟩
    refine ⟨_, rfl, y, CJ, dy, _, _, rfl, hy, T.cl, T.nf _ (by decide +kernel), rfl, _, rfl, x, CJ, dx, _, _, rfl, hx, T.cl, T.nf _ (by decide +kernel), rfl, _, _, rfl, rfl, _, rfl, ?_⟩
    -- what is handed back, whichever is the greater one
    have fin : ∀ (D : Addr) (ns : List Int) (c r : Int), Same H (upd H D (.lst (nlist (Sj24.rising a.members) ++ nlist (Sj24.rising b.members)))) → c = (Sj24.joined a b).col → r = (Sj24.joined a b).row → H D = none →
        ns.Perm (((Sj24.rising a.members).map fun (n : Nat) => (n : Int)) ++ ((Sj24.rising b.members).map fun (n : Nat) => (n : Int))) → ns.Pairwise (· ≤ ·) → ∀ S, upd H D (.lst (nlist (Sj24.rising a.members) ++ nlist (Sj24.rising b.members))) S = none → ∀ z dz, upd (upd H D (.lst (nlist (Sj24.rising a.members) ++ nlist (Sj24.rising b.members)))) S (.lst (ns.map V.int)) z = none →
        upd (upd H D (.lst (nlist (Sj24.rising a.members) ++ nlist (Sj24.rising b.members)))) S (.lst (ns.map V.int)) dz = none → dz ≠ z →
        sp_Pseudojet_init CJ [.ref z, .int (a.e + b.e), .int c, .int r, .ref S] (upd (upd (upd (upd H D (.lst (nlist (Sj24.rising a.members) ++ nlist (Sj24.rising b.members)))) S (.lst (ns.map V.int))) dz (.own z)) z (.ins CJ dz [])) (fun v H2 => v = .non ∧ Q (.ref z) H2) E0 := by
      intro D ns c r S1 ec er nD perm up S nS z dz nz ndz ne
      refine ⟨z, dz, S, _, _, _, rfl, upd_same, fun H2 h2 k2 => ⟨rfl, ?_⟩⟩
      have s2 := made_same nz ndz k2
      have S2 := S1.trans (Same.new (o := .lst (ns.map V.int)) nS)
      refine q _ z (S2.trans s2) (S2.free nz) ⟨dz, S, New.get (S2.free nz) ?_, New.get (S1.free nS) ?_⟩
      · rw [h2, ec, er, ← JM.joined_e]
        rfl
      · rw [s2 _ _ upd_same, nlist_ints]
        congr 3
        refine JM.rising_is (perm.trans ?_) up
        rw [JM.joined_members, List.map_append]
        exact ((JM.rising_perm a.members).map _).append ((JM.rising_perm b.members).map _)
    have ll : (nlist (Sj24.rising a.members)).length + (nlist (Sj24.rising b.members)).length ≤ sizeLine := by
      rw [nlist_length, nlist_length, rising_len, rising_len]
      exact Nat.le_trans ln (by decide)
    have cat : ∀ D : Addr, upd H D (.lst (nlist (Sj24.rising a.members) ++ nlist (Sj24.rising b.members))) D = some (.lst ((((Sj24.rising a.members).map fun (n : Nat) => (n : Int)) ++ ((Sj24.rising b.members).map fun (n : Nat) => (n : Int))).map V.int)) := fun D => by
      rw [upd_same, List.map_append, ← nlist_ints, ← nlist_ints]
    refine ite2 (fun h1 => ?_) (fun h1 => ?_)
    · have h1 : b.e > a.e := of_decide_eq_true h1
      refine ⟨_, rfl, ?_⟩
      refine ⟨_, rfl, x, CJ, dx, _, _, rfl, hx, T.cl, T.nf _ (by decide +kernel), rfl, _, rfl, y, CJ, dy, _, _, rfl, hy, T.cl, T.nf _ (by decide +kernel), rfl, ax, ay, _, _, rfl, rfl, hax, hay, ll, fun D nD => ?_⟩
      have S1 := Same.new (o := .lst (nlist (Sj24.rising a.members) ++ nlist (Sj24.rising b.members))) nD
      refine ⟨D, _, rfl, SqL.of (cat D), fun ns S perm up nS => ?_⟩
      have S2 := S1.trans (Same.new (o := .lst (ns.map V.int)) nS)
      refine ⟨_, rfl, x, CJ, dx, _, _, rfl, S2 _ _ hx, T.cl, T.nf _ (by decide +kernel), rfl, _, rfl, y, CJ, dy, _, _, rfl, S2 _ _ hy, T.cl, T.nf _ (by decide +kernel), rfl, _, _, rfl, rfl, _, rfl, y, CJ, dy, _, _, rfl, S2 _ _ hy, T.cl, T.nf _ (by decide +kernel), rfl, _, rfl, y, CJ, dy, _, _, rfl, S2 _ _ hy, T.cl, T.nf _ (by decide +kernel), rfl, _, rfl, ?_⟩
      exact fin D ns _ _ S1 (by rw [JM.joined_col, if_pos h1]) (by rw [JM.joined_row, if_pos h1]) nD perm up S nS
    · have h1 : ¬ b.e > a.e := of_decide_eq_false (by simpa using h1)
      refine ⟨_, rfl, ?_⟩
      refine ⟨_, rfl, x, CJ, dx, _, _, rfl, hx, T.cl, T.nf _ (by decide +kernel), rfl, _, rfl, y, CJ, dy, _, _, rfl, hy, T.cl, T.nf _ (by decide +kernel), rfl, ax, ay, _, _, rfl, rfl, hax, hay, ll, fun D nD => ?_⟩
      have S1 := Same.new (o := .lst (nlist (Sj24.rising a.members) ++ nlist (Sj24.rising b.members))) nD
      refine ⟨D, _, rfl, SqL.of (cat D), fun ns S perm up nS => ?_⟩
      have S2 := S1.trans (Same.new (o := .lst (ns.map V.int)) nS)
      refine ⟨_, rfl, x, CJ, dx, _, _, rfl, S2 _ _ hx, T.cl, T.nf _ (by decide +kernel), rfl, _, rfl, y, CJ, dy, _, _, rfl, S2 _ _ hy, T.cl, T.nf _ (by decide +kernel), rfl, _, _, rfl, rfl, _, rfl, x, CJ, dx, _, _, rfl, S2 _ _ hx, T.cl, T.nf _ (by decide +kernel), rfl, _, rfl, x, CJ, dx, _, _, rfl, S2 _ _ hx, T.cl, T.nf _ (by decide +kernel), rfl, _, rfl, ?_⟩
      exact fin D ns _ _ S1 (by rw [JM.joined_col, if_neg h1]) (by rw [JM.joined_row, if_neg h1]) nD perm up S nS
theorem sc_greatest_place : FnScope ["pseudojets", "energies", "pseudojet"] ["pseudojets"] (defScope s_greatest_place) := ⟨rfl, rfl, rfl, by decide +kernel, rfl, by decide +kernel, by decide +kernel⟩
def sp_greatest_place (CJ : Addr) : Sp := fun vs H Q _ => ∃ (l : Addr) (js : List Sj24.Jet), vs = [.ref l] ∧ JetsAt CJ H l js ∧ js ≠ [] ∧ js.length ≤ 1024 ∧ ∀ (g : Nat) (H' : Hp), JM.FirstMax (js.map fun a => a.e) g → Same H H' → Q (.int (g : Int)) H'
theorem ok_greatest_place (F : Fun K "greatest_place" "greatest_place" s_greatest_place f fd) (T : Clx K CJ jetNames) (mMax : mg "max" = none) : FnOk P w K mg base CX0 1 f fd ["pseudojets"] (sp_greatest_place CJ) := by
  have nd := sc_greatest_place.nd
  refine F.ok sc_greatest_place (fun vs H Q E h => ?_) (fun cdv A outer s H vs Q E hr h => ?_)
  · obtain ⟨_, _, rfl, _⟩ := h
    rfl
  · obtain ⟨l, js, rfl, ⟨xs, ln, hl, hJ⟩, ne, lim, q⟩ := h
    refine ⟨_, pss_cons (ps_setLc (i := 1) (own := [("pseudojet", 2)]) (g := gName 2) (tt := tYes) (te := tFld K (tVar 2) "energy") rfl nd rfl rfl (sw_true rfl rfl rfl (by decide +kernel)) (pi_list (pv 0))
        (blkOk_by (own := [("pseudojet", 2)]) (N := ["pseudojets", "energies", "pseudojet"]) (sc := defScope s_greatest_place) (by decide +kernel))
        (fun _ _ _ _ _ => pg_name (i := 2) nd rfl (.inl rfl)) (fun _ _ _ _ _ => pts_nil) (fun _ _ _ _ _ => pe_at (pv 2)))
      (pss_one (ps_ret (pe_bm PySem.F.plainAttrs_list PySem.F.slot_list_index PySem.F.type_list_index mt_index (pv 1) (pa_cons (pe_callB (cr_max rfl) (by rfl) mMax (by decide +kernel) (pa_cons (pv 1) pa_nil)) pa_nil)))), ?_⟩
    refine ⟨_, rfl, l, rfl, ⟨_, SqL.of hl⟩, fun D hD => lc_mapL (K := K) (ys := (js.map fun a => a.e).map V.int) hD (SqL.of hl) (by simp [ln]) (by rw [List.length_map, ln]; exact Nat.le_trans lim (by decide)) ?_ ?_⟩
    · intro i x y H1 R hx hy S1 k
      obtain ⟨a, ha, rfl⟩ := of_map hx
      obtain ⟨z, hz, rfl⟩ := of_map hy
      rw [List.getElem?_map] at hz
      obtain ⟨j, hj, rfl⟩ := Option.map_eq_some_iff.mp hz
      obtain ⟨dx, b, e1, _⟩ := (hJ i a j ha hj).same S1
      exact ⟨rfl, _, rfl, a, CJ, dx, _, _, rfl, e1, T.cl, T.nf _ (by decide +kernel), rfl, k _ (Same.refl _)⟩
    · intro H1 S1 D1
      refine ⟨_, rfl, .inl ⟨rfl, _, SqL.of D1⟩, _, rfl, D, _, rfl, SqL.of D1, by rw [List.length_map]; exact List.length_pos_iff.mpr ne, fun m hm hmax => ?_⟩
      obtain ⟨j, hj, hf⟩ := first_at hm
      refine ⟨D, _, .int m, j, .int m, rfl, rfl, SqL.of D1, rfl, flat_ints _, by rw [List.getElem?_map, hj]; rfl, beq_self_eq_true m, fun i z hi hz => ?_, q j _ ⟨m, hj, hmax, hf⟩ S1⟩
      obtain ⟨y, hy, rfl⟩ := of_map hz
      exact beq_eq_false_iff_ne.mpr (hf i y hi hy)
end
end J
set_option Elab.async false
set_option maxRecDepth 100000
set_option maxHeartbeats 2000000
namespace J
open PySem PySem.Spec PyProof.Rows L2
section
variable {P : Program} {w : World} {K : PySem.W.Frag} {mg : Str → Option Value} {base : Heap} {f CJ : Addr} {fd : FuncData}
theorem sc_next_step : FnScope ["pseudojets", "reach", "greatest", "places", "dividend", "divisor", "first", "one", "second", "other", "distance", "energy"] ["pseudojets", "reach"] (defScope s_next_step) := ⟨rfl, rfl, rfl, by decide +kernel, rfl, by decide +kernel, by decide +kernel⟩
/-- the places that a step names -/
def placesOf : Sj24.Next → List V
  | .done i => [.int (i : Int)]
  | .join i j => [.int (i : Int), .int (j : Int)]
def GoodJets (js : List Sj24.Jet) : Prop := JM.AllOk js 10376293541461622784 1024 ∧ js.length ≤ 1024
def sp_next_step (CJ : Addr) : Sp := fun vs H Q _ => ∃ (l : Addr) (js : List Sj24.Jet) (reach : Int), vs = [.ref l, .int reach] ∧ JetsAt CJ H l js ∧ js ≠ [] ∧ GoodJets js ∧ 1 ≤ reach ∧ reach ≤ 1024 ∧
  ∀ (H' : Hp) (p : Addr) (x : Sj24.Next × Sj24.Frac), Sj24.least (Sj24.choices reach js) = some x → Same H H' → H p = none → H' p = some (.lst (placesOf x.1)) → Q (.ref p) H'
theorem jet_at {H : Hp} {l : Addr} {js : List Sj24.Jet} (J : JetsAt CJ H l js) {i : Nat} (hi : i < js.length) : ∃ xs x dx a, H l = some (.lst xs) ∧ xs.length = js.length ∧ xs[i]? = some (V.ref x) ∧ H x = some (.ins CJ dx (jF (JM.jd js i) a)) ∧ H a = some (.lst (nlist (Sj24.rising (JM.jd js i).members))) := by
  obtain ⟨xs, ln, hl, hJ⟩ := J
  have hx : xs[i]? = some (xs[i]'(by omega)) := List.getElem?_eq_getElem (by omega)
  obtain ⟨dx, a, e1, e2⟩ := hJ i _ _ hx (JM.jd_at hi)
  exact ⟨_, _, dx, a, hl, by rw [List.length_map, ln], by rw [List.getElem?_map, hx]; rfl, e1, e2⟩
theorem ok_next_step (F : Fun K "next_step" "next_step" s_next_step f fd) (T : Clx K CJ jetNames) (mR : mg "range" = none) (mLen : mg "len" = none) (mMax : mg "max" = none)
    (dG : Def P w K mg base CX0 "greatest_place" 1 ["pseudojets"] (sp_greatest_place CJ)) (dS : Def P w K mg base CX0 "squared_distance" 1 ["one", "other"] (sp_squared_distance CJ)) : FnOk P w K mg base CX0 2 f fd ["pseudojets", "reach"] (sp_next_step CJ) := by
  have nd := sc_next_step.nd
  refine F.ok sc_next_step (fun vs H Q E h => ?_) (fun cdv A outer s H vs Q E hr h => ?_)
  · obtain ⟨_, _, _, rfl, _⟩ := h
    rfl
  · obtain ⟨l, js, reach, rfl, J, ne, ⟨AO, lim⟩, r0, r1, q⟩ := h
    refine ⟨_, pss_cons (ps_set (i := 2) nd rfl (.inl rfl) (pe_def dG hr (pa_cons (pv 0) pa_nil)))
      (pss_cons (ps_set (i := 3) nd rfl (.inl rfl) (pe_lst (pa_cons (pv 2) pa_nil)))
      (pss_cons (ps_set (i := 4) nd rfl (.inl rfl) (pe_op op_mul (pv 1) (pv 1)))
      (pss_cons (ps_set (i := 5) nd rfl (.inl rfl) (pe_op op_mul (pe_at (pe_ix ix_list (pv 0) (pv 2) (fun _ _ => rfl))) (pe_at (pe_ix ix_list (pv 0) (pv 2) (fun _ _ => rfl)))))
      (pss_cons (ps_for PassesOwn.never rfl (pi_range1 (by rfl) mR (pa_cons (pe_callB call_len_seq (by rfl) mLen (by decide +kernel) (pa_cons (pv 0) pa_nil)) pa_nil)) (pg_name (i := 6) nd rfl (.inl rfl))
        (pss_cons (ps_set (i := 7) nd rfl (.inl rfl) (pe_ix ix_list (pv 0) (pv 6) (fun _ _ => rfl)))
        (pss_one (ps_for PassesOwn.never rfl (pi_range2 (by rfl) mR (pa_cons (pe_op op_add (pv 6) pe_int) (pa_cons (pe_callB call_len_seq (by rfl) mLen (by decide +kernel) (pa_cons (pv 0) pa_nil)) pa_nil))) (pg_name (i := 8) nd rfl (.inl rfl))
          (pss_cons (ps_set (i := 9) nd rfl (.inl rfl) (pe_ix ix_list (pv 0) (pv 8) (fun _ _ => rfl)))
          (pss_cons (ps_set (i := 10) nd rfl (.inl rfl) (pe_def dS hr (pa_cons (pv 7) (pa_cons (pv 9) pa_nil))))
          (pss_cons (ps_set (i := 11) nd rfl (.inl rfl) (pe_callB (call_max2 rfl) (by rfl) mMax (by decide +kernel) (pa_cons (pe_at (pv 7)) (pa_cons (pe_at (pv 9)) pa_nil))))
          (pss_one (ps_if (pt_cmpR op_lt (pe_op op_mul (pv 10) (pv 5)) (pe_op op_mul (pe_op op_mul (pv 4) (pv 11)) (pv 11)) (nomark _))
            (pss_cons (ps_set (i := 3) nd rfl (.inl rfl) (pe_lst (pa_cons (pv 6) (pa_cons (pv 8) pa_nil))))
            (pss_cons (ps_set (i := 4) nd rfl (.inl rfl) (pv 10))
            (pss_one (ps_set (i := 5) nd rfl (.inl rfl) (pe_op op_mul (pv 11) (pv 11))))))
            pss_nil)))))))))
      (pss_one (ps_ret (pv 3))))))), ?_⟩
    have EP := AO.epos
    have ebound : ∀ i, i < js.length → 1 ≤ (JM.jd js i).e ∧ (JM.jd js i).e ≤ 10376293541461622784 := fun i hi => ⟨JM.epos_at EP hi, JM.e_le AO (JM.jd_mem hi)⟩
    refine ⟨_, rfl, l, js, rfl, J, ne, lim, fun g H1 FM S1 => ?_⟩
    obtain ⟨hg, _⟩ := JM.least_fins EP FM
    have J1 := J.same S1
    obtain ⟨xs, xg, dg, ag, hl1, lxs, hxg, hog, _⟩ := jet_at J1 hg
    have hL : H1 l = some (.lst xs) := hl1
    refine ⟨_, rfl, (by show 1 ≤ sizeLine; decide), fun p np => ?_⟩
    have nH : H p = none := S1.free np
    have pl : l ≠ p := ne_of_none hl1 np
    have S2 := S1.trans (Same.new (o := .lst [.int (g : Int)]) np)
    refine ⟨_, rfl, _, rfl, _, _, rfl, rfl, .inl ⟨by omega, by omega⟩, ?_⟩
    have hl2 : upd H1 p (.lst [.int (g : Int)]) l = some (.lst xs) := (upd_ne pl).trans hl1
    have hog2 : upd H1 p (.lst [.int (g : Int)]) xg = some (.ins CJ dg (jF (JM.jd js g) ag)) := (upd_ne (ne_of_none hog np)).trans hog
    have eg := ebound g hg
    refine ⟨_, rfl, _, rfl, l, _, _, _, rfl, rfl, SqL.of hl2, at_of rfl hxg, xg, CJ, dg, _, _, rfl, hog2, T.cl, T.nf _ (by decide +kernel), rfl, _, rfl, _, rfl, l, _, _, _, rfl, rfl, SqL.of hl2, at_of rfl hxg, xg, CJ, dg, _, _, rfl, hog2, T.cl, T.nf _ (by decide +kernel), rfl, _, _, rfl, rfl, .inl ⟨by omega, by omega⟩, ?_⟩
    have le := JM.least_choices r0 EP FM
    -- what stands at any turn
    let sc : Nat → Nat → Sj24.Next × Sj24.Frac := fun i t => JM.scan (Sj24.Next.done g, JM.finM (JM.jd js g)) (JM.upTo reach js i t)
    let Z : Nat → Nat → Hp → Int → Int → Addr → Prop := fun i t H' n d p => Same H H' ∧ JetsAt CJ H' l js ∧ H' l = some (.lst xs) ∧ H p = none ∧ H' p = some (.lst (placesOf (sc i t).1)) ∧ JM.Meas (reach * reach) (sc i t).2 n d ∧ 0 ≤ n ∧ n ≤ 68157440
    have z0 : Z 0 0 (upd H1 p (.lst [.int (g : Int)])) (reach * reach) ((JM.jd js g).e * (JM.jd js g).e) p := by
      have rr := JM.mul_bound (a := reach) (b := reach) (A := 1024) (B := 1024) (by omega) (by omega) (by decide) (by decide)
      have rp : 0 ≤ reach * reach := Int.mul_nonneg (by omega) (by omega)
      exact ⟨S2, J1.same (Same.new np), hl2, nH, upd_same, JM.meas_fin eg.1, rp, by omega⟩
    have lim2 : xs.length ≤ 1024 := by omega
    refine ⟨_, rfl, l, xs, rfl, .inl (SqL.of hl2), _, rfl, by omega, by omega, for_range (lo := 0) (n := ((xs.length : Nat) : Int).toNat)
      (fun i σ H' => ∃ p n d v6 v7 v8 v9 v10 v11, σ = [some (.ref l), some (.int reach), some (.int (g : Int)), some (.ref p), some (.int n), some (.int d), v6, v7, v8, v9, v10, v11] ∧ Z i 0 H' n d p) ⟨_, _, _, _, _, _, _, _, _, rfl, z0⟩ ?_ ?_⟩
    · rintro i σ H3 hi0 ⟨p, n, d, v6, v7, v8, v9, v10, v11, rfl, z⟩
      rw [Int.zero_add]
      have hi : i < js.length := by omega
      obtain ⟨S3, J3, hl3, nH3, hp3, M3, n0, n1⟩ := z
      obtain ⟨xs', xi, di, ai, hl', _, hxi, hoi, _⟩ := jet_at J3 hi
      have ex : xs' = xs := by
        rw [hl3] at hl'
        injection hl' with hl'
        injection hl' with hl'
        exact hl'.symm
      subst ex
      refine ⟨_, rfl, _, rfl, l, _, _, _, rfl, rfl, SqL.of hl3, at_of rfl hxi, ?_⟩
      refine ⟨_, rfl, _, _, rfl, rfl, _, rfl, l, xs', rfl, .inl (SqL.of hl3), _, _, rfl, ⟨by omega, by omega, by omega, by omega⟩, for_range (lo := (i : Int) + 1) (n := (((xs'.length : Nat) : Int) - ((i : Int) + 1)).toNat)
        (fun t σ H' => ∃ p n d v8 v9 v10 v11, σ = [some (.ref l), some (.int reach), some (.int (g : Int)), some (.ref p), some (.int n), some (.int d), some (.int (i : Int)), some (.ref xi), v8, v9, v10, v11] ∧ Z i t H' n d p) ⟨_, _, _, _, _, _, _, rfl, S3, J3, hl3, nH3, hp3, M3, n0, n1⟩ ?_ ?_⟩
      · rintro t σ H4 ht ⟨p, n, d, v8, v9, v10, v11, rfl, S4, J4, hl4, nH4, hp4, M4, n0, n1⟩
        have et : (i : Int) + 1 + (t : Int) = ((i + 1 + t : Nat) : Int) := by omega
        rw [et]
        have hj : i + 1 + t < js.length := by omega
        obtain ⟨xs2, xj, dj, aj, hl2', _, hxj, hoj, hmj⟩ := jet_at J4 hj
        have ex2 : xs2 = xs' := by
          rw [hl4] at hl2'
          injection hl2' with hl2'
          injection hl2' with hl2'
          exact hl2'.symm
        subst ex2
        obtain ⟨xs3, xi2, di2, ai2, hl3', _, hxi2, hoi2, hmi2⟩ := jet_at J4 hi
        have ex3 : xs3 = xs2 := by
          rw [hl4] at hl3'
          injection hl3' with hl3'
          injection hl3' with hl3'
          exact hl3'.symm
        subst ex3
        have exi : xi2 = xi := by
          rw [hxi] at hxi2
          injection hxi2 with hxi2
          injection hxi2 with hxi2
          exact hxi2.symm
        subst exi
        have Oi := AO.ok _ (JM.jd_mem hi)
        have Oj := AO.ok _ (JM.jd_mem hj)
        have bi := ebound i hi
        have bj := ebound _ hj
        have ba := JM.apart_bound Oi Oj
        have em : (if (JM.jd js (i + 1 + t)).e > (JM.jd js i).e then (JM.jd js (i + 1 + t)).e else (JM.jd js i).e) = Sj24.most (JM.jd js i) (JM.jd js (i + 1 + t)) := JM.max_way _ _
        have bm : 1 ≤ Sj24.most (JM.jd js i) (JM.jd js (i + 1 + t)) ∧ Sj24.most (JM.jd js i) (JM.jd js (i + 1 + t)) ≤ 10376293541461622784 := by
          unfold Sj24.most
          omega
        refine ⟨_, rfl, _, rfl, l, _, _, _, rfl, rfl, SqL.of hl4, at_of rfl hxj, ?_⟩
        refine ⟨_, rfl, _, rfl, xi2, xj, _, _, rfl, ⟨di2, ai2, hoi2, hmi2⟩, ⟨dj, aj, hoj, hmj⟩, Oi, Oj, ?_⟩
        refine ⟨_, rfl, xi2, CJ, di2, _, _, rfl, hoi2, T.cl, T.nf _ (by decide +kernel), rfl, _, rfl, xj, CJ, dj, _, _, rfl, hoj, T.cl, T.nf _ (by decide +kernel), rfl, _, _, rfl, ?_⟩
        rw [em]
        generalize hmost : Sj24.most (JM.jd js i) (JM.jd js (i + 1 + t)) = m at bm
        generalize hap : Sj24.apart (JM.jd js i) (JM.jd js (i + 1 + t)) = D at ba
        have less := JM.join_less (a := JM.jd js i) (b := JM.jd js (i + 1 + t)) r0 M4
        rw [hmost, hap] at less
        have nx : sc i (t + 1) = if (JM.joinM reach (JM.jd js i) (JM.jd js (i + 1 + t))).less (sc i t).2 then (Sj24.Next.join i (i + 1 + t), JM.joinM reach (JM.jd js i) (JM.jd js (i + 1 + t))) else sc i t := by
          show JM.scan _ (JM.upTo reach js i (t + 1)) = _
          rw [JM.upTo_next, JM.scan_snoc]
        refine ⟨_, rfl, _, rfl, _, _, rfl, rfl, .inl ⟨by omega, by omega⟩, _, rfl, _, rfl, _, _, rfl, rfl, .inl ⟨by omega, by omega⟩, _, rfl, _, _, rfl, rfl, .inr ⟨by omega, by omega⟩, _, _, rfl, rfl, _, rfl, ite2 (fun h1 => ?_) (fun h1 => ?_)⟩
        · have h1 : D * d < n * m * m := of_decide_eq_true h1
          have nx := nx.trans (if_pos (less.mpr h1))
          refine ⟨_, rfl, _, rfl, (by show 2 ≤ sizeLine; decide), fun p2 np2 => ?_⟩
          have nH5 : H p2 = none := S4.free np2
          have S5 : Same H4 (upd H4 p2 (.lst [.int (i : Int), .int ((i + 1 + t : Nat) : Int)])) := Same.new np2
          refine ⟨_, rfl, _, rfl, _, rfl, _, _, rfl, rfl, .inl ⟨by omega, by omega⟩, ?_⟩
          refine ⟨p2, D, m * m, _, _, _, _, rfl, S4.trans S5, J4.same S5, S5 _ _ hl4, nH5, ?_, ?_, ba⟩
          · rw [upd_same, nx]
            rfl
          · rw [nx]
            have := JM.meas_join (reach := reach) (a := JM.jd js i) (b := JM.jd js (i + 1 + t)) bi.1
            rw [hmost, hap] at this
            exact this
        · have h1 : ¬ D * d < n * m * m := of_decide_eq_false (by simpa using h1)
          have nx := nx.trans (if_neg fun z => h1 (less.mp z))
          refine ⟨p, n, d, _, _, _, _, rfl, S4, J4, hl4, nH4, ?_, ?_, n0, n1⟩
          · rw [nx]
            exact hp4
          · rw [nx]
            exact M4
      · rintro σ H4 ⟨p, n, d, v8, v9, v10, v11, rfl, S4, J4, hl4, nH4, hp4, M4, n0, n1⟩
        have en : (((xs'.length : Nat) : Int) - ((i : Int) + 1)).toNat = js.length - (i + 1) := by omega
        have eu : sc i (js.length - (i + 1)) = sc (i + 1) 0 := by
          show JM.scan _ (JM.upTo reach js i (js.length - (i + 1))) = JM.scan _ (JM.upTo reach js (i + 1) 0)
          rw [JM.upTo_row]
        rw [en, eu] at hp4 M4
        exact ⟨p, n, d, _, _, _, _, _, _, rfl, S4, J4, hl4, nH4, hp4, M4, n0, n1⟩
    · rintro σ H3 ⟨p, n, d, v6, v7, v8, v9, v10, v11, rfl, S3, J3, hl3, nH3, hp3, M3, n0, n1⟩
      have en : ((xs.length : Nat) : Int).toNat = js.length := by omega
      rw [en] at hp3
      refine ⟨_, rfl, q _ p (sc js.length 0) ?_ S3 nH3 hp3⟩
      rw [le]
      show _ = some (JM.scan _ (JM.upTo reach js js.length 0))
      rw [JM.upTo_all]
end
end J
set_option Elab.async false
set_option maxRecDepth 100000
set_option maxHeartbeats 2000000
namespace J
open PySem PySem.Spec PyProof.Rows L2 LamX
/-! ### a def whose code object is told -/
structure FunC (K : PySem.W.Frag) (x qual : Str) (st : Stmt) (f : Addr) (fd : FuncData) (c : Addr) : Prop where
  ex : ∃ (oc : Value) (od : Option Addr) (kV doc pm : Value) (an : Option Addr) (ct : Value) (osl : Array (Option Value)),
    fd = PySem.W.fnOf x qual (defArgs st) (defBody st) (defScope st) .none kV doc pm an (.ref c) ct ∧ K.lookup f = some ⟨oc, od, .func fd, osl⟩ ∧ PySem.W.codeIn K (.ref c) qual = true
theorem FunC.ok {P : Program} {w : World} {K : PySem.W.Frag} {mg : Str → Option Value} {base : Heap} {x qual : Str} {st : Stmt} {f c : Addr} {fd : FuncData} {N ps : List Str} {k : Nat} {sp : Sp} (F : FunC K x qual st f fd c) (S : FnScope N ps (defScope st)) (len : ∀ vs H Q E, sp vs H Q E → vs.length = ps.length)
    (body : ∀ (A : Around) (outer : List Env) (s : Shared) (H : Hp) (vs : List V) (Q : VK) (E : XK), Room k (A.deeper (envOfC qual (defScope st) s.heap.objs.size f (.ref c))) → sp vs H Q E →
      ∃ t, PSs (cxOf CX0 P w K mg base N qual (defScope st) f (.ref c) A outer s H E).nox (defBody st) t ∧ t { nx := fun _ H' => Q .non H', rt := Q } (L2.start N vs) H) : FnOk P w K mg base CX0 (k + 1) f fd ps sp := by
  obtain ⟨oc, od, kV, doc, pm, an, ct, osl, rfl, lk, hcd⟩ := F.ex
  exact fn_of lk hcd S len fun A outer s H vs Q E hr hsp => (body A outer s H vs Q E hr hsp).elim fun t ht => ⟨t, ht.1.nox, ht.2⟩
/-- a comprehension over enumerate -/
theorem lc_enum {K : PySem.W.Frag} {a : Addr} {xs : List V} {g : TG} {tt : TT} {te : TE} {vs : List Nat} {σ : L2.St} {H1 : Hp} {D : Addr} {Qd : Hp → Prop} (Pv : Nat → Hp → Prop) (h0 : Pv 0 (upd H1 D (.lst []))) (hl : ∀ i H, Pv i H → SqL K H a xs)
    (hs : ∀ (i : Nat) (x : V) (T : Addr) (H : Hp), xs[i]? = some x → Pv i H → H T = none → g (.ref T) (wipe σ vs) (upd H T (.tup [.int (i : Nat), x])) fun σ2 H2 => wipe σ2 vs = wipe σ vs ∧ tt σ2 H2 fun b H3 =>
      if b = true then te σ2 H3 fun y H4 => ∃ acc, H4 D = some (.lst acc) ∧ acc.length < sizeLine ∧ Pv (i + 1) (upd H4 D (.lst (acc ++ [y]))) else Pv (i + 1) H3) (hd : ∀ H, Pv xs.length H → Qd H) :
    ∃ W : Nat → Nat → Hp → Prop, (∃ m, W 0 m (upd H1 D (.lst []))) ∧ ∀ i m H, W i m H →
      ((Ite K a).stop i H ∧ Qd H) ∨ ((Ite K a).go i H ∧ ∃ Nx : Hp → Prop, (∀ H', Nx H' → ∃ m', m' < m ∧ W (i + 1) m' H') ∧ ∀ x H', (Ite K a).yld i H x H' → g x (wipe σ vs) H' fun σ2 H2 => wipe σ2 vs = wipe σ vs ∧ tt σ2 H2 fun b H3 =>
        if b = true then te σ2 H3 fun y H4 => ∃ acc, H4 D = some (.lst acc) ∧ acc.length < sizeLine ∧ Nx (upd H4 D (.lst (acc ++ [y]))) else Nx H3) := by
  refine ⟨fun i m H => m = xs.length - i ∧ i ≤ xs.length ∧ Pv i H, ⟨xs.length, by simp, Nat.zero_le _, h0⟩, ?_⟩
  rintro i m H ⟨rfl, hi, p⟩
  have q := hl i H p
  by_cases hlt : i < xs.length
  · have hx : xs[i]? = some xs[i] := List.getElem?_eq_getElem hlt
    refine .inr ⟨⟨xs, _, q, hx⟩, Pv (i + 1), fun H' p' => ⟨xs.length - (i + 1), by omega, rfl, hlt, p'⟩, fun x H' y => ?_⟩
    obtain ⟨T, x, rfl, hT, rfl, f⟩ := y
    exact hs i x T H (f xs q) p hT
  · have e : i = xs.length := by omega
    subst e
    exact .inl ⟨⟨xs, q, Nat.le_refl _⟩, hd H p⟩
/-! ### lists of objects beside lists of jets -/
def Objs (CJ : Addr) (J : Hp) (xs : List Addr) (js : List Sj24.Jet) : Prop := xs.length = js.length ∧ ∀ (i : Nat) (x : Addr) (j : Sj24.Jet), xs[i]? = some x → js[i]? = some j → JetAt CJ J x j
theorem Objs.same {CJ : Addr} {J J' : Hp} {xs : List Addr} {js : List Sj24.Jet} (s : Same J J') (h : Objs CJ J xs js) : Objs CJ J' xs js := ⟨h.1, fun i x j h1 h2 => (h.2 i x j h1 h2).same s⟩
theorem Objs.jets {CJ : Addr} {J H : Hp} {xs : List Addr} {js : List Sj24.Jet} {l : Addr} (h : Objs CJ J xs js) (s : Same J H) (hl : H l = some (.lst (xs.map V.ref))) : JetsAt CJ H l js := ⟨xs, h.1, hl, (h.same s).2⟩
theorem Objs.snoc {CJ : Addr} {J : Hp} {xs : List Addr} {js : List Sj24.Jet} {x : Addr} {j : Sj24.Jet} (h : Objs CJ J xs js) (n : JetAt CJ J x j) : Objs CJ J (xs ++ [x]) (js ++ [j]) := by
  refine ⟨by simp [h.1], fun i y k hy hk => ?_⟩
  by_cases hi : i < xs.length
  · rw [List.getElem?_append_left hi] at hy
    rw [List.getElem?_append_left (by rw [← h.1]; exact hi)] at hk
    exact h.2 i y k hy hk
  · have e : i = xs.length := by
      have := (List.getElem?_eq_some_iff.mp hy).1
      rw [List.length_append] at this
      have : ([x] : List Addr).length = 1 := rfl
      omega
    subst e
    rw [List.getElem?_concat_length] at hy
    rw [h.1, List.getElem?_concat_length] at hk
    cases hy
    cases hk
    exact n
theorem Objs.erase {CJ : Addr} {J : Hp} {xs : List Addr} {js : List Sj24.Jet} (h : Objs CJ J xs js) (n : Nat) : Objs CJ J (xs.eraseIdx n) (js.eraseIdx n) := by
  refine ⟨by rw [List.length_eraseIdx, List.length_eraseIdx, h.1], fun i y k hy hk => ?_⟩
  rw [List.getElem?_eraseIdx] at hy hk
  by_cases c : i < n
  · rw [if_pos c] at hy hk
    exact h.2 i y k hy hk
  · rw [if_neg c] at hy hk
    exact h.2 (i + 1) y k hy hk
theorem Objs.put {CJ : Addr} {J : Hp} {xs : List Addr} {js : List Sj24.Jet} {x : Addr} {j : Sj24.Jet} (h : Objs CJ J xs js) (p : JetAt CJ J x j) (n : Nat) : Objs CJ J (xs.set n x) (js.set n j) := by
  refine ⟨by rw [List.length_set, List.length_set, h.1], fun i y k hy hk => ?_⟩
  by_cases c : n = i
  · subst c
    have h1 := (List.getElem?_eq_some_iff.mp hy).1
    have h2 := (List.getElem?_eq_some_iff.mp hk).1
    rw [List.length_set] at h1 h2
    rw [List.getElem?_set_self h1] at hy
    rw [List.getElem?_set_self h2] at hk
    cases hy
    cases hk
    exact p
  · rw [List.getElem?_set_ne c] at hy hk
    exact h.2 i y k hy hk
theorem Objs.get {CJ : Addr} {J : Hp} {xs : List Addr} {js : List Sj24.Jet} (h : Objs CJ J xs js) {i : Nat} (hi : i < js.length) : ∃ x, xs[i]? = some x ∧ (xs.map V.ref)[i]? = some (V.ref x) ∧ JetAt CJ J x (JM.jd js i) := by
  have hx : xs[i]? = some (xs[i]'(by rw [h.1]; exact hi)) := List.getElem?_eq_getElem (by rw [h.1]; exact hi)
  exact ⟨_, hx, by rw [List.getElem?_map, hx]; rfl, h.2 i _ _ hx (JM.jd_at hi)⟩
/-- what is written at the places M is not seen -/
theorem off_put {M : List Addr} {H H' : Hp} {m : Addr} {o : HO} (h : m ∈ M) : Same (Off M (New H H')) (Off M (New H (L2.upd H' m o))) := fun b u e => by
  have nb := Off.not e
  have e1 := Off.sub _ _ e
  refine Off.get nb (New.get (New.free e1) ?_)
  rw [upd_ne (fun z => nb (by rw [z]; exact h))]
  exact New.sub _ _ e1
theorem off_new {M : List Addr} {H H' H'' : Hp} (s : Same H' H'') : Same (Off M (New H H')) (Off M (New H H'')) := fun b u e => Off.get (Off.not e) (New.same s _ _ (Off.sub _ _ e))
theorem off_sub {M : List Addr} {H H' : Hp} : Same (Off M (New H H')) H' := fun b u e => New.sub _ _ (Off.sub _ _ e)
theorem ifT {c : Prop} [Decidable c] {A B : Prop} (h : c) (a : A) : if c then A else B := by
  rw [if_pos h]
  exact a
theorem ifF {c : Prop} [Decidable c] {A B : Prop} (h : ¬ c) (b : B) : if c then A else B := by
  rw [if_neg h]
  exact b
theorem seq_at {i n : Nat} (h : i < n) : seqIndex? (i : Int) n = some i := by
  rw [PySem.seqIndex_of (Int.natCast_nonneg i) (by omega)]
  rfl
/-- the number by which an object is sorted -/
def keyOf (H : Hp) (a : Addr) : Int := match H a with
  | some (.ins _ _ fs) => match fs.lookup ("energy" : Str) with
    | some (.int n) => n
    | _ => 0
  | _ => 0
theorem keyOf_is {CJ : Addr} {H : Hp} {x : Addr} {j : Sj24.Jet} (h : JetAt CJ H x j) : keyOf H x = j.e := by
  obtain ⟨dx, a, e, _⟩ := h
  unfold keyOf
  rw [e]
  rfl
theorem zip_fst {α β : Type} : ∀ {l : List α} {m : List β}, l.length = m.length → (l.zip m).map Prod.fst = l
  | [], _, _ => rfl
  | a :: l, [], h => by simp at h
  | a :: l, b :: m, h => by
    rw [List.zip_cons_cons, List.map_cons, zip_fst (by simpa using h)]
theorem zip_snd {α β : Type} : ∀ {l : List α} {m : List β}, l.length = m.length → (l.zip m).map Prod.snd = m
  | [], [], _ => rfl
  | [], b :: m, h => by simp at h
  | a :: l, [], h => by simp at h
  | a :: l, b :: m, h => by
    rw [List.zip_cons_cons, List.map_cons, zip_snd (by simpa using h)]
/-- the objects in the sort's order stand for the jets in theirs -/
theorem Objs.sorted {CJ : Addr} {J H : Hp} {xs : List Addr} {js : List Sj24.Jet} (h : Objs CJ J xs js) (s : Same J H) : Objs CJ J (xs.mergeSort fun a b => decide (-(keyOf H a) ≤ -(keyOf H b))) (Sj24.ordered js) := by
  have mem : ∀ z ∈ xs.zip js, JetAt CJ J z.1 z.2 := fun z hz => by
    obtain ⟨i, hi⟩ := List.getElem?_of_mem hz
    obtain ⟨h1, h2⟩ := List.getElem?_zip_eq_some.mp hi
    exact h.2 i _ _ h1 h2
  have e1 : xs.mergeSort (fun a b => decide (-(keyOf H a) ≤ -(keyOf H b))) = ((xs.zip js).mergeSort fun a b => decide (b.2.e ≤ a.2.e)).map Prod.fst := by
    rw [List.map_mergeSort (s := fun a b => decide (-(keyOf H a) ≤ -(keyOf H b)))]
    · rw [zip_fst h.1]
    · intro a ha b hb
      rw [keyOf_is ((mem a ha).same s), keyOf_is ((mem b hb).same s)]
      exact decide_eq_decide.mpr (by omega)
  have e2 : Sj24.ordered js = ((xs.zip js).mergeSort fun a b => decide (b.2.e ≤ a.2.e)).map Prod.snd := by
    rw [JM.ordered_sort, List.map_mergeSort (s := fun a b => decide (b.e ≤ a.e))]
    · rw [zip_snd h.1]
    · intro a ha b hb
      rfl
  rw [e1, e2]
  refine ⟨by rw [List.length_map, List.length_map], fun i x j hx hj => ?_⟩
  rw [List.getElem?_map] at hx hj
  obtain ⟨z, hz, rfl⟩ := Option.map_eq_some_iff.mp hx
  rw [hz] at hj
  cases hj
  exact mem z (List.mem_mergeSort.mp (List.mem_of_getElem? hz))
theorem erase_map {α β : Type} (g : α → β) : ∀ (l : List α) (i : Nat), (l.map g).eraseIdx i = (l.eraseIdx i).map g
  | [], _ => rfl
  | _ :: _, 0 => rfl
  | a :: l, i + 1 => congrArg (g a :: ·) (erase_map g l i)
def qLam : Str := (("jets_of" : Str) ++ ".<locals>.") ++ "<lambda>"
section
variable {P : Program} {w : World} {K : PySem.W.Frag} {mg : Str → Option Value} {base : Heap} {f CC CJ c T : Addr} {fd : FuncData}
theorem sc_jets_of : FnScope ["clusters", "reach", "pseudojets", "finished", "places", "number", "cluster"] ["clusters", "reach"] (defScope s_jets_of) := ⟨rfl, rfl, rfl, by decide +kernel, rfl, by decide +kernel, by decide +kernel⟩
def sp_jets_of (CC CJ T : Addr) : Sp := fun vs H Q _ => ∃ (l : Addr) (cs : List Sj24.Cluster) (reach : Int), vs = [.ref l, .int reach] ∧ ClustersAt CC H l cs ∧ cs.length ≤ 1024 ∧ (∀ c ∈ cs, JM.CluOk c) ∧ 1 ≤ reach ∧ reach ≤ 1024 ∧ TabS H T qLam ∧
  ∀ (H' : Hp) (p : Addr), (∀ b o, H b = some o → b ≠ T → H' b = some o) → TabS H' T qLam → H p = none → JetsAt CJ (New H H') p (Sj24.ordered (Sj24.jetsOf reach cs)) → Q (.ref p) H'
theorem ok_jets_of (F : FunC K "jets_of" "jets_of" s_jets_of f fd c) (TB : TabB base mg c T) (TC : Clx K CC ["seed", "parts", "energy", "column", "row"]) (TJ : Clx K CJ jetNames) (mE : mg "enumerate" = none) (mLen : mg "len" = none) (mSo : mg "sorted" = none)
    (dN : Def P w K mg base CX0 "next_step" 2 ["pseudojets", "reach"] (sp_next_step CJ)) (dJ : Def P w K mg base CX0 "joined" 3 ["first", "second"] (sp_joined CJ)) (cJ : Ctor P w K mg base CX0 "Pseudojet" CJ 1 ["self", "energy", "column", "row", "clusters"] (sp_Pseudojet_init CJ)) :
    FnOk P w K mg base CX0 4 f fd ["clusters", "reach"] (sp_jets_of CC CJ T) := by
  have nd := sc_jets_of.nd
  refine F.ok sc_jets_of (fun vs H Q E h => ?_) (fun A outer s H vs Q E hr h => ?_)
  · obtain ⟨_, _, _, rfl, _⟩ := h
    rfl
  · obtain ⟨l, cs, reach, rfl, C, lim, CO, r0, r1, hT, q⟩ := h
    refine ⟨_, pss_cons (ps_setLc (i := 2) (own := [("number", 5), ("cluster", 6)]) (g := gTup K 2 (gCons (gName 5) (gCons (gName 6) gNil))) (tt := tYes) (te := tMake CJ (sp_Pseudojet_init CJ) [] E0 (tCons (tFld K (tVar 6) "energy") (tCons (tFld K (tVar 6) "column") (tCons (tFld K (tVar 6) "row") (tCons (tLst (tCons (tVar 5) tNil)) tNil))))) rfl nd rfl rfl (sw_true rfl rfl rfl (by decide +kernel)) (pi_enum (by rfl) mE (pa_cons (pv 0) pa_nil))
        (blkOk_by (own := [("number", 5), ("cluster", 6)]) (N := ["clusters", "reach", "pseudojets", "finished", "places", "number", "cluster"]) (sc := defScope s_jets_of) (by decide +kernel))
        (fun _ _ _ _ _ => pg_tup rfl (pgs_cons (pg_name (i := 5) nd rfl (.inl rfl)) (pgs_cons (pg_name (i := 6) nd rfl (.inl rfl)) pgs_nil))) (fun _ _ _ _ _ => pts_nil)
        (fun _ _ _ _ _ => pe_new cJ hr (pa_cons (pe_at (pv 6)) (pa_cons (pe_at (pv 6)) (pa_cons (pe_at (pv 6)) (pa_cons (pe_lst (pa_cons (pv 5) pa_nil)) pa_nil))))))
      (pss_cons (ps_set (i := 3) nd rfl (.inl rfl) (pe_lst pa_nil))
      (pss_cons (ps_while PassesOwn.never (pt_truth (pv 2) (by intro _; rfl))
        (pss_cons (ps_set (i := 4) nd rfl (.inl rfl) (pe_def dN hr (pa_cons (pv 2) (pa_cons (pv 1) pa_nil))))
        (pss_one (ps_if (pt_cmpR op_eq (pe_callB call_len_seq (by rfl) mLen (by decide +kernel) (pa_cons (pv 4) pa_nil)) pe_int (nomark _))
          (pss_one (ps_expr (pe_bm PySem.F.plainAttrs_list PySem.F.slot_list_append PySem.F.type_list_append mt_append (pv 3) (pa_cons (pe_bm PySem.F.plainAttrs_list PySem.F.slot_list_pop PySem.F.type_list_pop mt_popAt (pv 2) (pa_cons (pe_ix ix_list (pv 4) pe_int (fun _ _ => rfl)) pa_nil)) pa_nil))))
          (pss_cons (ps_asg (pe_def dJ hr (pa_cons (pe_ix ix_list (pv 2) (pe_ix ix_list (pv 4) pe_int (fun _ _ => rfl)) (fun _ _ => rfl)) (pa_cons (pe_ix ix_list (pv 2) (pe_ix ix_list (pv 4) pe_int (fun _ _ => rfl)) (fun _ _ => rfl)) pa_nil))) (pg_sub (pv 2) (pe_ix ix_list (pv 4) pe_int (fun _ _ => rfl)) set_list))
          (pss_one (ps_expr (pe_bm PySem.F.plainAttrs_list PySem.F.slot_list_pop PySem.F.type_list_pop mt_popAt (pv 2) (pa_cons (pe_ix ix_list (pv 4) pe_int (fun _ _ => rfl)) pa_nil)))))))))
      (pss_one (ps_ret (pe_sortNeg (c := c) (P := T) (k := 3) (pv 3) hr rfl mSo TB rfl rfl (by decide +kernel) rfl rfl rfl rfl (by decide +kernel) (by decide +kernel) (by decide) (fun _ _ _ _ _ => rfl)))))), ?_⟩
    obtain ⟨cxs, cln, hl, hC⟩ := C
    have j0 := JM.jets0_ok lim CO
    refine ⟨_, rfl, l, _, rfl, SqL.of hl, fun D nD => lc_enum (K := K) (fun i H' => ∃ xs : List Addr, xs.length = i ∧ H' D = some (.lst (xs.map V.ref)) ∧ Same H H' ∧ ∀ (j : Nat) (x : Addr) (k : Sj24.Jet), xs[j]? = some x → (JM.jets0 cs)[j]? = some k → JetAt CJ (Off [D] (New H H')) x k)
      ⟨[], rfl, upd_same, Same.new nD, fun j x k hx => by simp at hx⟩ (fun i H' ⟨_, _, _, s, _⟩ => s.seq (SqL.of hl)) ?_ ?_⟩
    · rintro i v T1 H1 hv ⟨xs, ln, hD, S1, O1⟩ nT1
      obtain ⟨cx, hcx, rfl⟩ := of_map hv
      obtain ⟨cc, hcc⟩ := at_len cln.symm hcx
      have ST := Same.new (o := .tup [.int (i : Nat), .ref cx]) nT1
      obtain ⟨dcx, pcx, hcl, _⟩ := (hC i cx cc hcx hcc).same (S1.trans ST)
      refine ⟨T1, _, rfl, SqT.of upd_same, rfl, _, _, rfl, _, _, rfl, rfl, rfl, yes ?_⟩
      refine ⟨_, rfl, cx, CC, dcx, _, _, rfl, hcl, TC.cl, TC.nf _ (by decide +kernel), rfl, _, rfl, cx, CC, dcx, _, _, rfl, hcl, TC.cl, TC.nf _ (by decide +kernel), rfl, _, rfl, cx, CC, dcx, _, _, rfl, hcl, TC.cl, TC.nf _ (by decide +kernel), rfl, _, rfl, (by show 1 ≤ sizeLine; decide), fun S nS => ?_⟩
      have SS := ST.trans (Same.new (o := .lst [.int (i : Nat)]) nS)
      intro x dx nx ndx ne
      refine ⟨x, dx, S, _, _, _, rfl, upd_same, fun H5 h5 k5 => ⟨rfl, xs.map V.ref, ?_, ?_, xs ++ [x], by simp [ln], ?_, ?_, ?_⟩⟩
      · exact made_same nx ndx k5 _ _ (SS _ _ hD)
      · rw [List.length_map, ln]
        have h1 := (List.getElem?_eq_some_iff.mp hcx).1
        exact Nat.lt_of_lt_of_le (show i < 1024 by omega) (by decide)
      · rw [upd_same, List.map_append]
        rfl
      · exact Same.upd (S1.trans (SS.trans (made_same nx ndx k5))) nD
      · have s5 := made_same nx ndx k5
        have S15 := SS.trans s5
        have hD5 := S15 _ _ hD
        have xD : x ∉ [D] := fun z => by
          rw [List.mem_singleton.mp z, SS _ _ hD] at nx
          cases nx
        have SD : S ∉ [D] := fun z => by
          rw [List.mem_singleton.mp z, ST _ _ hD] at nS
          cases nS
        have xH : H x = none := (S1.trans SS).free nx
        have SH : H S = none := (S1.trans ST).free nS
        have step : Same (Off [D] (New H H1)) (Off [D] (New H (upd H5 D (.lst (xs.map V.ref ++ [V.ref x]))))) := (off_new S15).trans (off_put (List.mem_singleton.mpr rfl))
        have hk : (JM.jets0 cs)[i]? = some ⟨cc.e, cc.col, cc.row, [i]⟩ := JM.jets0_at hcc
        intro j y k hy hkk
        by_cases hj : j < xs.length
        · rw [List.getElem?_append_left hj] at hy
          exact (O1 j y k hy hkk).same step
        · have hj' : j = xs.length := by
            have := (List.getElem?_eq_some_iff.mp hy).1
            rw [List.length_append] at this
            have : ([x] : List Addr).length = 1 := rfl
            omega
          subst hj'
          rw [List.getElem?_concat_length] at hy
          cases hy
          rw [ln, hk] at hkk
          cases hkk
          refine JetAt.same (off_put (List.mem_singleton.mpr rfl)) ⟨dx, S, Off.get xD (New.get xH h5), Off.get SD (New.get SH (s5 _ _ upd_same))⟩
    · rintro H1 ⟨xs0, ln0, hD, S1, O1⟩
      rw [List.length_map] at ln0
      refine ⟨(by show 0 ≤ sizeLine; omega), fun F nF => ?_⟩
      have FH : H F = none := S1.free nF
      have DF : D ≠ F := ne_of_none hD nF
      have l0 : (JM.jets0 cs).length = cs.length := JM.jets0_len cs
      have ob0 : Objs CJ (Off [D, F] (New H (upd H1 F (.lst [])))) xs0 (JM.jets0 cs) := by
        refine ⟨by rw [ln0, l0, cln], fun i x k hx hk => ?_⟩
        refine (O1 i x k hx hk).same fun b o e => ?_
        have e1 := Off.sub _ _ e
        have nb := Off.not e
        have bF : b ≠ F := ne_of_none (New.sub _ _ e1) nF
        refine Off.get (fun z => ?_) (New.get (New.free e1) (by rw [upd_ne bF]; exact New.sub _ _ e1))
        rcases List.mem_cons.mp z with z | z
        · exact nb (by rw [z]; exact List.mem_singleton.mpr rfl)
        · exact bF (List.mem_singleton.mp z)
      refine ⟨fun m σ H' => ∃ (js done : List Sj24.Jet) (xs ys : List Addr) (v4 v5 v6 : Option V), m = js.length ∧ σ = [some (.ref l), some (.int reach), some (.ref D), some (.ref F), v4, v5, v6] ∧ Same H H' ∧ H' D = some (.lst (xs.map V.ref)) ∧ H' F = some (.lst (ys.map V.ref)) ∧
          Objs CJ (Off [D, F] (New H H')) xs js ∧ Objs CJ (Off [D, F] (New H H')) ys done ∧ GoodJets js ∧ done ++ Sj24.gather reach js.length js = Sj24.jetsOf reach cs ∧ done.length + js.length ≤ 1024,
        ⟨_, JM.jets0 cs, [], xs0, [], _, _, _, rfl, rfl, Same.upd S1 FH, (by rw [upd_ne DF]; exact hD), upd_same, ob0, ⟨rfl, fun i x j hx => by simp at hx⟩, ⟨j0, by rw [l0]; exact lim⟩, ?_, ?_⟩, ?_⟩
      · rw [l0, List.nil_append]
        exact (JM.jetsOf_is reach cs).symm
      · show 0 + _ ≤ 1024
        omega
      · rintro m σ H2 ⟨js, done, xs, ys, v4, v5, v6, rfl, rfl, S2, hD2, hF2, oj, od, gj, hg, cnt⟩
        refine ⟨_, rfl, !(xs.map V.ref).isEmpty, .inl ⟨_, SqL.of hD2, rfl⟩, ?_⟩
        have xlen := oj.1
        by_cases nj : js = []
        · -- nothing is left: the jets by their energies
          subst nj
          have ex : xs = [] := List.length_eq_zero_iff.mp xlen
          subst ex
          refine iteF ?_
          have hgd : done = Sj24.jetsOf reach cs := by
            rw [← hg]
            simp [JM.gather_nil]
          have hT2 : TabS H2 T qLam := hT.ext S2
          refine ⟨_, rfl, F, ys, keyOf H2, rfl, SqL.of hF2, hT2, fun a ha => ?_, fun H5 p keep nn T5 np => ?_⟩
          · obtain ⟨i, hi⟩ := List.getElem?_of_mem ha
            obtain ⟨j, hj⟩ := at_len od.1.symm hi
            have J2 := (od.2 i a j hi hj).same off_sub
            obtain ⟨dx, b, e, _⟩ := id J2
            exact ⟨CJ, dx, _, e, TJ.cl, TJ.nf _ (by decide +kernel), by rw [keyOf_is J2]; rfl⟩
          · obtain ⟨tps, hTH, _⟩ := id hT
            have pH : H p = none := S2.free (nn p np)
            have kp : ∀ b o, H5 b = some o → upd H5 p (.lst ((ys.mergeSort fun a b => decide (-(keyOf H2 a) ≤ -(keyOf H2 b))).map V.ref)) b = some o := Same.new np
            have st : Same (Off [D, F] (New H H2)) (New H (upd H5 p (.lst ((ys.mergeSort fun a b => decide (-(keyOf H2 a) ≤ -(keyOf H2 b))).map V.ref)))) := fun b o e => by
              have e1 := Off.sub _ _ e
              have bT : b ≠ T := fun z => by
                have := New.free e1
                rw [z, hTH] at this
                cases this
              exact New.get (New.free e1) (kp _ _ (keep _ _ (New.sub _ _ e1) bT))
            refine q _ p (fun b o e bT => kp _ _ (keep _ _ (S2 _ _ e) bT)) (T5.ext kp) pH ?_
            rw [← hgd]
            exact (od.sorted off_sub).jets st (New.get pH upd_same)
        · have ne' : (!(xs.map V.ref).isEmpty) = true := by
            rw [List.isEmpty_map]
            cases xs with
            | nil => exact absurd (List.length_eq_zero_iff.mp xlen.symm) nj
            | cons a b => rfl
          rw [ne']
          refine iteT ?_
          have AO := gj.1
          -- what the turn leaves
          refine ⟨fun σ' H' => ∃ (js' done' : List Sj24.Jet) (xs ys : List Addr) (v4 v5 v6 : Option V), js'.length < js.length ∧ σ' = [some (.ref l), some (.int reach), some (.ref D), some (.ref F), v4, v5, v6] ∧ Same H H' ∧ H' D = some (.lst (xs.map V.ref)) ∧ H' F = some (.lst (ys.map V.ref)) ∧
            Objs CJ (Off [D, F] (New H H')) xs js' ∧ Objs CJ (Off [D, F] (New H H')) ys done' ∧ GoodJets js' ∧ done' ++ Sj24.gather reach js'.length js' = Sj24.jetsOf reach cs ∧ done'.length + js'.length ≤ 1024, ?_, ?_⟩
          · rintro σ' H' ⟨js', done', xs', ys', w4, w5, w6, lt, e2⟩
            exact ⟨js'.length, lt, js', done', xs', ys', w4, w5, w6, rfl, e2⟩
          · refine ⟨_, rfl, _, rfl, D, js, reach, rfl, oj.jets off_sub hD2, nj, gj, r0, r1, fun H3 p x hx S3 np hp => ?_⟩
            have S23 := S2.trans S3
            have hD3 := S3 _ _ hD2
            have hF3 := S3 _ _ hF2
            have oj3 := oj.same (off_new S3)
            have od3 := od.same (off_new S3)
            have fit := JM.choices_fit (JM.least_mem hx)
            have one := JM.gather_one hx
            have al := JM.after_length fit
            have ok2 := JM.allOk_after AO fit
            have pD : p ≠ D := fun z => by
              rw [z, hD2] at np
              cases np
            have pF : p ≠ F := fun z => by
              rw [z, hF2] at np
              cases np
            have xz : xs.length ≤ 1024 := by
              have := gj.2
              omega
            obtain ⟨nx, fr⟩ := x
            cases nx with
            | done i =>
              have hi : i < js.length := fit
              obtain ⟨x, hxi, hxv, Jx⟩ := oj3.get hi
              refine ⟨_, rfl, p, _, rfl, .inl (SqL.of hp), rfl, _, rfl, ifT (decide_eq_true rfl) ?_⟩
              refine ⟨_, rfl, .inl ⟨rfl, _, SqL.of hF3⟩, _, rfl, .inl ⟨rfl, _, SqL.of hD3⟩, _, rfl, p, _, _, _, rfl, rfl, SqL.of hp, at_of (j := 0) rfl rfl, D, _, _, i, _, rfl, rfl, hD3, by omega, by omega, seq_at (by rw [List.length_map, xlen]; exact hi), hxv, ?_⟩
              refine ⟨F, ys.map V.ref, .ref x, rfl, rfl, (by rw [upd_ne DF.symm]; exact hF3), ?_, ?_⟩
              · rw [List.length_map, od.1]
                exact Nat.lt_of_le_of_lt (show done.length ≤ 1024 by omega) (by decide)
              · have o1 : Same (Off [D, F] (New H H3)) (Off [D, F] (New H (upd (upd H3 D (.lst ((xs.map V.ref).eraseIdx i))) F (.lst (ys.map V.ref ++ [.ref x]))))) := (off_put (by simp)).trans (off_put (by simp))
                refine ⟨js.eraseIdx i, done ++ [JM.jd js i], xs.eraseIdx i, ys ++ [x], _, _, _, ?_, rfl, Same.upd (Same.upd S23 nD) FH, ?_, ?_, (oj3.erase i).same o1, (od3.snoc Jx).same o1, ⟨ok2, ?_⟩, ?_, ?_⟩
                · have : (js.eraseIdx i).length + 1 = js.length := al
                  omega
                · rw [upd_ne DF, upd_same, erase_map]
                · rw [upd_same, List.map_append]
                  rfl
                · have : (js.eraseIdx i).length + 1 = js.length := al
                  have := gj.2
                  omega
                · rw [one] at hg
                  rw [List.append_assoc]
                  exact hg
                · have : (js.eraseIdx i).length + 1 = js.length := al
                  rw [List.length_append]
                  show done.length + 1 + _ ≤ 1024
                  omega
            | join i j =>
              obtain ⟨hij, hj⟩ : i < j ∧ j < js.length := fit
              have hi : i < js.length := by omega
              obtain ⟨x, hxi, hxv, Jx⟩ := oj3.get hi
              obtain ⟨y, hyi, hyv, Jy⟩ := oj3.get hj
              refine ⟨_, rfl, p, _, rfl, .inl (SqL.of hp), rfl, _, rfl, ifF (fun z => ?_) ?_⟩
              · have z := of_decide_eq_true z
                injection z with z
                exact absurd z (by decide : ¬ ((2 : Nat) : Int) = 1)
              refine ⟨_, rfl, _, rfl, p, _, _, _, rfl, rfl, SqL.of hp, at_of (j := 0) rfl rfl, D, _, _, _, rfl, rfl, SqL.of hD3, at_of rfl hxv, _, rfl, _, rfl, p, _, _, _, rfl, rfl, SqL.of hp, at_of (j := 1) rfl rfl, D, _, _, _, rfl, rfl, SqL.of hD3, at_of rfl hyv, x, y, _, _, rfl, Jx.same off_sub, Jy.same off_sub, ?_, fun H4 z S4 nz Jz => ?_⟩
              · have h1 := JM.msum_erase hj
                have h2 := JM.m_le (l := js.eraseIdx j) (a := JM.jd js i) (by
                  refine List.mem_of_getElem? (i := i) ?_
                  rw [List.getElem?_eraseIdx, if_pos hij]
                  exact JM.jd_at hi)
                have := AO.m
                omega
              · have S24 := S23.trans S4
                have hD4 := S4 _ _ hD3
                have hF4 := S4 _ _ hF3
                have hp4 := S4 _ _ hp
                have zH : H z = none := S23.free nz
                have new4 : Same (New H3 H4) (Off [D, F] (New H H4)) := fun b o e => by
                  have b3 := New.free e
                  refine Off.get (fun q => ?_) (New.get (S23.free b3) (New.sub _ _ e))
                  rcases List.mem_cons.mp q with q | q
                  · rw [q, hD3] at b3
                    cases b3
                  · rw [List.mem_singleton.mp q, hF3] at b3
                    cases b3
                refine ⟨_, rfl, _, rfl, p, _, _, _, rfl, rfl, SqL.of hp4, at_of (j := 0) rfl rfl, D, _, _, i, rfl, rfl, hD4, ixN_nat (by rw [List.length_map, xlen]; exact hi), ?_⟩
                refine ⟨_, rfl, .inl ⟨rfl, _, SqL.of upd_same⟩, _, rfl, p, _, _, _, rfl, rfl, SqL.of ((upd_ne pD).trans hp4), at_of (j := 1) rfl rfl, D, _, _, j, _, rfl, rfl, upd_same, by omega, by omega, seq_at (by rw [List.length_set, List.length_map, xlen]; exact hj), (by rw [List.getElem?_set_ne (by omega)]; exact hyv), ?_⟩
                have o1 : Same (Off [D, F] (New H H4)) (Off [D, F] (New H (upd (upd H4 D (.lst ((xs.map V.ref).set i (.ref z)))) D (.lst (((xs.map V.ref).set i (.ref z)).eraseIdx j))))) := (off_put (by simp)).trans (off_put (by simp))
                refine ⟨(js.set i (Sj24.joined (JM.jd js i) (JM.jd js j))).eraseIdx j, done, (xs.set i z).eraseIdx j, ys, _, _, _, ?_, rfl, Same.upd (Same.upd S24 nD) nD, ?_, ?_, ((((oj3.same (off_new S4)).put (Jz.same new4) i).erase j)).same o1, (od3.same (off_new S4)).same o1, ⟨ok2, ?_⟩, ?_, ?_⟩
                · have : ((js.set i (Sj24.joined (JM.jd js i) (JM.jd js j))).eraseIdx j).length + 1 = js.length := al
                  omega
                · rw [upd_same, ← List.map_set, erase_map]
                · rw [upd_ne DF.symm, upd_ne DF.symm]
                  exact hF4
                · have : ((js.set i (Sj24.joined (JM.jd js i) (JM.jd js j))).eraseIdx j).length + 1 = js.length := al
                  have := gj.2
                  omega
                · rw [one] at hg
                  exact hg
                · have : ((js.set i (Sj24.joined (JM.jd js i) (JM.jd js j))).eraseIdx j).length + 1 = js.length := al
                  omega
end
end J
set_option Elab.async false
set_option maxRecDepth 100000
set_option maxHeartbeats 2000000
namespace J
open PySem PySem.Spec PyProof.Rows L2
theorem cut_mid {xs : List V} {i n : Nat} (h : i + n ≤ xs.length) : cutV xs (some (i : Int)) (some ((i + n : Nat) : Int)) = (xs.drop i).take n := by
  unfold cutV
  rw [HT.sIx_nat, HT.sIx_nat, Nat.min_eq_left h, Nat.min_eq_left (by omega)]
  congr 1
  omega
/-- a cut of the energies -/
theorem es_cut {h : Sj24.House} {k w : Nat} (hk : k + w ≤ 1024) : (((esOf h).map V.int).drop k).take w = ((List.range w).map fun c => h.e (k + c)).map V.int := by
  apply List.ext_getElem?
  intro i
  by_cases hi : i < w
  · rw [List.getElem?_take_of_lt hi, List.getElem?_drop, esAt (by omega), List.getElem?_map, List.getElem?_map, List.getElem?_range hi]
    rfl
  · rw [List.getElem?_eq_none (by rw [List.length_take]; omega), List.getElem?_eq_none (by rw [List.length_map, List.length_map, List.length_range]; omega)]
section
variable {P : Program} {w : World} {K : PySem.W.Frag} {mg : Str → Option Value} {base : Heap} {f : Addr} {fd : FuncData}
theorem sc_energy_inside : FnScope ["energies", "seed", "low", "seeds", "block"] ["energies", "seed", "low"] (defScope s_energy_inside) := ⟨rfl, rfl, rfl, by decide +kernel, rfl, by decide +kernel, by decide +kernel⟩
def sp_energy_inside (K : PySem.W.Frag) : Sp := fun vs H Q _ => ∃ (h : Sj24.House) (l : Addr), vs = [.ref l, .int h.seed, .int h.low] ∧ SqL K H l ((esOf h).map V.int) ∧ ∀ H', Same H H' → Q (.int (JM.insideOf h)) H'
def tOwn (K : PySem.W.Frag) : TT := fun σ H Q => tCall (sp_owners_of K) [] E0 (tCons (tVar 4) (tCons (tVar 0) (tCons (tVar 3) (tCons (tVar 2) tNil)))) σ H fun x H' => ∃ k, TruV K x H' k ∧ Q k H'
theorem ok_energy_inside (F : Fun K "energy_inside" "energy_inside" s_energy_inside f fd) (nB : IntAt mg "BLOCKS" 1024) (mR : mg "range" = none) (mSum : mg "sum" = none) (dSB : Def P w K mg base CX0 "seed_blocks" 4 ["energies", "seed"] (sp_seed_blocks K))
    (dO : Def P w K mg base CX0 "owners_of" 3 ["block", "energies", "seeds", "low"] (sp_owners_of K)) : FnOk P w K mg base CX0 5 f fd ["energies", "seed", "low"] (sp_energy_inside K) := by
  have nd := sc_energy_inside.nd
  refine F.ok sc_energy_inside (fun vs H Q E h => ?_) (fun cdv A outer s H vs Q E hr h => ?_)
  · obtain ⟨_, _, rfl, _⟩ := h
    rfl
  · obtain ⟨h, l, rfl, hl, q⟩ := h
    refine ⟨_, pss_cons (ps_set (i := 3) nd rfl (.inr rfl) (pe_def dSB hr (pa_cons (pv 0) (pa_cons (pv 1) pa_nil))))
      (pss_one (ps_ret (pe_callB (cr_sum rfl) (by rfl) mSum (by decide +kernel) (pa_cons (pe_lc (own := [("block", 4)]) (g := gName 4) (tt := tOwn K) (te := tOp (rIxL K) (tVar 0) (tVar 4)) rfl nd (pi_range1 (by rfl) mR (pa_cons (pe_num nB) pa_nil))
        (blkOk_by (own := [("block", 4)]) (N := ["energies", "seed", "low", "seeds", "block"]) (sc := defScope s_energy_inside) (by decide +kernel))
        (fun _ _ _ _ _ => pg_name (i := 4) nd rfl (.inl rfl)) (fun _ _ _ _ _ => pts_one (pt_truth (pe_def dO hr (pa_cons (pv 4) (pa_cons (pv 0) (pa_cons (pv 3) (pa_cons (pv 2) pa_nil))))) (by intro _; rfl)))
        (fun _ _ _ _ _ => pe_ix ix_list (pv 0) (pv 4) (fun _ _ => rfl))) pa_nil)))), ?_⟩
    refine ⟨_, rfl, _, rfl, h, l, rfl, hl, fun H1 d S1 n1 D1 => ?_⟩
    refine ⟨1024, rfl, by decide, by decide, fun D nD => lc_range (lo := 0) (n := (1024 : Int).toNat) (fun i H' => Same H1 H' ∧ H' D = some (.lst ((((List.range i).filter fun b => !(Sj24.owners h (Sj24.seeds h) b).isEmpty).map h.e).map V.int))) ⟨Same.new nD, upd_same⟩ ?_ ?_⟩
    · rintro i H2 hi ⟨S2, hD⟩
      rw [Int.zero_add]
      have hi : i < 1024 := hi
      have S12 := S1.trans S2
      refine ⟨rfl, _, rfl, _, rfl, _, rfl, _, rfl, h, i, l, d, rfl, hi, S12.seq hl, S2 _ _ D1, fun H3 p S3 np hp => ?_⟩
      refine ⟨!(nlist (Sj24.owners h (Sj24.seeds h) i)).isEmpty, .inl ⟨_, SqL.of hp, rfl⟩, ?_⟩
      have ee : (!(nlist (Sj24.owners h (Sj24.seeds h) i)).isEmpty) = !(Sj24.owners h (Sj24.seeds h) i).isEmpty := by
        unfold nlist
        rw [List.isEmpty_map]
      rw [ee]
      refine ite2 (fun hb => ?_) (fun hb => ?_)
      · refine ⟨_, rfl, _, rfl, l, _, _, _, rfl, rfl, (S12.trans S3).seq hl, at_of rfl (esAt hi), _, S3 _ _ hD, ?_, Same.upd (S2.trans S3) nD, ?_⟩
        · rw [List.length_map, List.length_map]
          have := List.length_filter_le (fun b => !(Sj24.owners h (Sj24.seeds h) b).isEmpty) (List.range i)
          rw [List.length_range] at this
          exact Nat.lt_of_le_of_lt (show _ ≤ 1024 by omega) (by decide)
        · rw [upd_same, range_filter, if_pos hb, List.map_append, List.map_append]
          rfl
      · refine ⟨S2.trans S3, ?_⟩
        rw [S3 _ _ hD, range_filter, if_neg hb, List.append_nil]
    · rintro H2 ⟨S2, hD⟩
      refine ⟨D, _, rfl, SqL.of hD, ?_⟩
      rw [sum_eq]
      exact q _ (S1.trans S2)
theorem sc_strips_of : FnScope ["energies", "row", "width", "start", "column"] ["energies", "row", "width"] (defScope s_strips_of) := ⟨rfl, rfl, rfl, by decide +kernel, rfl, by decide +kernel, by decide +kernel⟩
/-- the strips of a row -/
def stripsV (h : Sj24.House) (row w : Nat) : List V := (List.range (33 - w)).map fun c => V.int (JM.strip h.e (32 * row + c) w)
def sp_strips_of (K : PySem.W.Frag) : Sp := fun vs H Q _ => ∃ (h : Sj24.House) (l : Addr) (row w : Nat), vs = [.ref l, .int (row : Int), .int (w : Int)] ∧ row < 32 ∧ 1 ≤ w ∧ w ≤ 32 ∧ SqL K H l ((esOf h).map V.int) ∧
  ∀ (H' : Hp) (p : Addr), Same H H' → H p = none → H' p = some (.lst (stripsV h row w)) → Q (.ref p) H'
def tStrip (K : PySem.W.Frag) : TE := tCB (rSum K) (tCons (tSl (rSlL K) (tVar 0) (tPart (tOp (rI0 fun i j => .int (i + j)) (tVar 3) (tVar 4))) (tPart (tOp (rI0 fun i j => .int (i + j)) (tOp (rI0 fun i j => .int (i + j)) (tVar 3) (tVar 4)) (tVar 2)))) tNil)
theorem ok_strips_of (F : Fun K "strips_of" "strips_of" s_strips_of f fd) (nS : IntAt mg "SIDE" 32) (mR : mg "range" = none) (mSum : mg "sum" = none) : FnOk P w K mg base CX0 1 f fd ["energies", "row", "width"] (sp_strips_of K) := by
  have nd := sc_strips_of.nd
  refine F.ok sc_strips_of (fun vs H Q E h => ?_) (fun cdv A outer s H vs Q E hr h => ?_)
  · obtain ⟨_, _, _, _, rfl, _⟩ := h
    rfl
  · obtain ⟨h, l, row, wd, rfl, r32, w1, w32, hl, q⟩ := h
    refine ⟨_, pss_cons (ps_set (i := 3) nd rfl (.inr rfl) (pe_op op_mul (pe_num nS) (pv 1)))
      (pss_one (ps_ret (pe_lc (own := [("column", 4)]) (g := gName 4) (tt := tYes) (te := tStrip K) rfl nd (pi_range1 (by rfl) mR (pa_cons (pe_op op_add (pe_op op_sub (pe_num nS) (pv 2)) pe_int) pa_nil))
        (blkOk_by (own := [("column", 4)]) (N := ["energies", "row", "width", "start", "column"]) (sc := defScope s_strips_of) (by decide +kernel))
        (fun _ _ _ _ _ => pg_name (i := 4) nd rfl (.inl rfl)) (fun _ _ _ _ _ => pts_nil)
        (fun _ _ _ _ _ => pe_callB (cr_sum rfl) (by rfl) mSum (by decide +kernel) (pa_cons (pe_slice sl_list (pv 0) (po_some (pe_op op_add (pv 3) (pv 4))) (po_some (pe_op op_add (pe_op op_add (pv 3) (pv 4)) (pv 2)))) pa_nil))))), ?_⟩
    refine ⟨_, rfl, _, _, rfl, rfl, .inl ⟨by decide, by decide⟩, ?_⟩
    have ew : (32 : Int) - (wd : Int) + 1 = ((33 - wd : Nat) : Int) := by omega
    refine ⟨_, rfl, _, _, rfl, rfl, _, _, rfl, rfl, _, rfl, by omega, by omega, fun D nD => lc_range (lo := 0) (n := ((32 : Int) - (wd : Int) + 1).toNat) (fun i H' => Same H H' ∧ H' D = some (.lst ((stripsV h row wd).take i))) ⟨Same.new nD, upd_same⟩ ?_ ?_⟩
    · rintro i H1 hi ⟨S1, hD⟩
      rw [Int.zero_add]
      have hi : i < 33 - wd := by omega
      refine ⟨rfl, yes ?_⟩
      refine ⟨_, rfl, _, rfl, _, rfl, _, _, rfl, rfl, _, rfl, _, rfl, _, rfl, _, _, rfl, rfl, _, rfl, _, _, rfl, rfl, _, rfl, l, _, rfl, S1.seq hl, fun p np => ?_⟩
      have e1 : (32 : Int) * (row : Int) + (i : Int) = ((32 * row + i : Nat) : Int) := by omega
      have e2 : ((32 * row + i : Nat) : Int) + (wd : Int) = ((32 * row + i + wd : Nat) : Int) := by omega
      rw [e1, e2, cut_mid (by rw [es_len]; omega), es_cut (by omega)]
      refine ⟨p, _, rfl, SqL.of upd_same, ?_⟩
      rw [sum_eq]
      have s1 : Same H1 (upd H1 p (.lst (((List.range wd).map fun c => h.e (32 * row + i + c)).map V.int))) := Same.new np
      have hv : (stripsV h row wd)[i]? = some (V.int (JM.strip h.e (32 * row + i) wd)) := by
        unfold stripsV
        rw [List.getElem?_map, List.getElem?_range hi]
        rfl
      refine ⟨_, s1 _ _ hD, ?_, Same.upd (S1.trans s1) nD, ?_⟩
      · rw [List.length_take]
        exact Nat.lt_of_le_of_lt (show _ ≤ 33 by omega) (by decide)
      · rw [upd_same, take_more hv]
        rfl
    · rintro H1 ⟨S1, hD⟩
      have ln : (stripsV h row wd).length = 33 - wd := by
        unfold stripsV
        rw [List.length_map, List.length_range]
      refine q _ D S1 nD ?_
      rw [hD, List.take_of_length_le (by omega)]
end
end J
set_option Elab.async false
set_option maxRecDepth 100000
set_option maxHeartbeats 2000000
namespace J
open PySem PySem.Spec PyProof.Rows L2
section
variable {P : Program} {w : World} {K : PySem.W.Frag} {mg : Str → Option Value} {base : Heap} {f : Addr} {fd : FuncData}
def winN : List Str := ["energies", "width", "height", "row", "strips", "first", "greatest", "column", "energy", "step"]
theorem sc_greatest_window : FnScope ["energies", "width", "height", "row", "strips", "first", "greatest", "column", "energy", "step"] ["energies", "width", "height"] (defScope s_greatest_window) := ⟨rfl, rfl, rfl, by decide +kernel, rfl, by decide +kernel, by decide +kernel⟩
def sp_greatest_window (K : PySem.W.Frag) : Sp := fun vs H Q _ => ∃ (h : Sj24.House) (l : Addr) (wd n : Nat), vs = [.ref l, .int (wd : Int), .int (n : Int)] ∧ 1 ≤ wd ∧ wd ≤ 32 ∧ 1 ≤ n ∧ n ≤ 32 ∧ (∀ b, 0 ≤ h.e b) ∧ SqL K H l ((esOf h).map V.int) ∧
  ∀ (H' : Hp) (p : Addr), Same H H' → H p = none → H' p = some (.tup [.int ((Sj24.best h wd n).1 : Int), .int (Sj24.best h wd n).2]) → Q (.ref p) H'
/-- the energies of the rows of a window -/
def rowsV (h : Sj24.House) (wd n row col : Nat) : List V := (List.range n).map fun r => V.int (JM.strip h.e ((row + r) % 32 * 32 + col) wd)
def tWin (K : PySem.W.Frag) : TE := tOp (rIxL K) (tOp (rIxL K) (tVar 4) (tOp (rI (fun i j => 0 < j) fun i j => .int (i % j)) (tOp (rI0 fun i j => .int (i + j)) (tVar 3) (tVar 9)) (tC (.int 32)))) (tVar 7)
theorem ok_greatest_window (F : Fun K "greatest_window" "greatest_window" s_greatest_window f fd) (nS : IntAt mg "SIDE" 32) (mR : mg "range" = none) (mSum : mg "sum" = none) (dS : Def P w K mg base CX0 "strips_of" 1 ["energies", "row", "width"] (sp_strips_of K)) :
    FnOk P w K mg base CX0 2 f fd ["energies", "width", "height"] (sp_greatest_window K) := by
  have nd := sc_greatest_window.nd
  refine F.ok sc_greatest_window (fun vs H Q E h => ?_) (fun cdv A outer s H vs Q E hr h => ?_)
  · obtain ⟨_, _, _, _, rfl, _⟩ := h
    rfl
  · obtain ⟨h, l, wd, n, rfl, w1, w32, n1, n32, e0, hl, q⟩ := h
    refine ⟨_, pss_cons (ps_set (i := 4) nd rfl (.inr rfl) (pe_lc (own := [("row", 3)]) (g := gName 3) (tt := tYes) (te := tCall (sp_strips_of K) [] E0 (tCons (tVar 0) (tCons (tVar 3) (tCons (tVar 1) tNil)))) rfl nd (pi_range1 (by rfl) mR (pa_cons (pe_num nS) pa_nil))
        (blkOk_by (own := [("row", 3)]) (N := winN) (sc := defScope s_greatest_window) (by decide +kernel))
        (fun _ _ _ _ _ => pg_name (i := 3) nd rfl (.inl rfl)) (fun _ _ _ _ _ => pts_nil) (fun _ _ _ _ _ => pe_def dS hr (pa_cons (pv 0) (pa_cons (pv 3) (pa_cons (pv 1) pa_nil))))))
      (pss_cons (ps_set (i := 5) nd rfl (.inl rfl) pe_int)
      (pss_cons (ps_set (i := 6) nd rfl (.inl rfl) (pe_un un_neg pe_int))
      (pss_cons (ps_for PassesOwn.never rfl (pi_range1 (by rfl) mR (pa_cons (pe_num nS) pa_nil)) (pg_name (i := 3) nd rfl (.inr rfl))
        (pss_one (ps_for PassesOwn.never rfl (pi_range1 (by rfl) mR (pa_cons (pe_op op_add (pe_op op_sub (pe_num nS) (pv 1)) pe_int) pa_nil)) (pg_name (i := 7) nd rfl (.inr rfl))
          (pss_cons (ps_set (i := 8) nd rfl (.inl rfl) (pe_callB (cr_sum rfl) (by rfl) mSum (by decide +kernel) (pa_cons (pe_lc (own := [("step", 9)]) (g := gName 9) (tt := tYes) (te := tWin K) rfl nd (pi_range1 (by rfl) mR (pa_cons (pv 2) pa_nil))
              (blkOk_by (own := [("step", 9)]) (N := winN) (sc := defScope s_greatest_window) (by decide +kernel))
              (fun _ _ _ _ _ => pg_name (i := 9) nd rfl (.inl rfl)) (fun _ _ _ _ _ => pts_nil)
              (fun _ _ _ _ _ => pe_ix ix_list (pe_ix ix_list (pv 4) (pe_op op_mod (pe_op op_add (pv 3) (pv 9)) (pe_num nS)) (fun _ _ => rfl)) (pv 7) (fun _ _ => rfl))) pa_nil)))
          (pss_one (ps_if (pt_cmpR op_gt (pv 8) (pv 6) (nomark _))
            (pss_cons (ps_set (i := 5) nd rfl (.inl rfl) (pe_op op_add (pe_op op_mul (pe_num nS) (pv 3)) (pv 7)))
            (pss_one (ps_set (i := 6) nd rfl (.inl rfl) (pv 8))))
            pss_nil))))))
      (pss_one (ps_ret (pe_tup (pa_cons (pv 5) (pa_cons (pv 6) pa_nil)))))))), ?_⟩
    refine ⟨32, rfl, by decide, by decide, fun D nD => lc_range (lo := 0) (n := (32 : Int).toNat) (fun i H' => ∃ xs : List Addr, xs.length = i ∧ H' D = some (.lst (xs.map V.ref)) ∧ Same H H' ∧ ∀ (j : Nat) (x : Addr), xs[j]? = some x → H' x = some (.lst (stripsV h j wd)) ∧ x ≠ D)
      ⟨[], rfl, upd_same, Same.new nD, fun j x hx => by simp at hx⟩ ?_ ?_⟩
    · rintro i H1 hi ⟨xs, ln, hD, S1, O1⟩
      rw [Int.zero_add]
      have hi : i < 32 := hi
      refine ⟨rfl, yes ⟨_, rfl, _, rfl, _, rfl, h, l, i, wd, rfl, hi, w1, w32, S1.seq hl, fun H2 p S2 np hp => ⟨_, S2 _ _ hD, ?_, xs ++ [p], by simp [ln], ?_, Same.upd (S1.trans S2) nD, fun j x hx => ?_⟩⟩⟩
      · rw [List.length_map, ln]
        exact Nat.lt_of_lt_of_le hi (by decide)
      · rw [upd_same, List.map_append]
        rfl
      · have pD : p ≠ D := fun z => by
          rw [z, hD] at np
          cases np
        by_cases hj : j < xs.length
        · rw [List.getElem?_append_left hj] at hx
          obtain ⟨e1, e2⟩ := O1 j x hx
          exact ⟨by rw [upd_ne e2]; exact S2 _ _ e1, e2⟩
        · have hj' : j = xs.length := by
            have := (List.getElem?_eq_some_iff.mp hx).1
            rw [List.length_append] at this
            have : ([p] : List Addr).length = 1 := rfl
            omega
          subst hj'
          rw [List.getElem?_concat_length] at hx
          cases hx
          rw [ln]
          exact ⟨by rw [upd_ne pD]; exact hp, pD⟩
    · rintro H1 ⟨xs, ln, hD, S1, O1⟩
      have ln : xs.length = 32 := ln
      refine ⟨_, rfl, ?_⟩
      -- what was seen up to a place
      let tp : Nat → Nat → Nat × Int := fun row col => JM.top1 (Sj24.inWindow h wd n) (0, -1) (JM.seenOf wd row col)
      refine ⟨32, rfl, by decide, by decide, for_range (lo := 0) (n := (32 : Int).toNat)
        (fun i σ H' => ∃ v3 v7 v8 v9, σ = [some (.ref l), some (.int (wd : Int)), some (.int (n : Int)), v3, some (.ref D), some (.int ((tp i 0).1 : Int)), some (.int (tp i 0).2), v7, v8, v9] ∧ Same H1 H') ⟨_, _, _, _, rfl, Same.refl _⟩ ?_ ?_⟩
      · rintro row σ H2 hrow ⟨v3, v7, v8, v9, rfl, S2⟩
        rw [Int.zero_add]
        have hrow : row < 32 := hrow
        refine ⟨_, rfl, _, _, rfl, rfl, _, _, rfl, rfl, _, rfl, by omega, by omega, for_range (lo := 0) (n := ((32 : Int) - (wd : Int) + 1).toNat)
          (fun c σ H' => ∃ v7 v8 v9, σ = [some (.ref l), some (.int (wd : Int)), some (.int (n : Int)), some (.int (row : Int)), some (.ref D), some (.int ((tp row c).1 : Int)), some (.int (tp row c).2), v7, v8, v9] ∧ Same H1 H') ⟨_, _, _, rfl, S2⟩ ?_ ?_⟩
        · rintro c σ H3 hc0 ⟨v7, v8, v9, rfl, S3⟩
          rw [Int.zero_add]
          have hc : c < 33 - wd := by omega
          have ecells : (rowsV h wd n row c).length = n := by
            unfold rowsV
            rw [List.length_map, List.length_range]
          refine ⟨_, rfl, _, rfl, by omega, by omega, fun W nW => lc_range (lo := 0) (n := ((n : Int)).toNat) (fun i H' => Same H3 H' ∧ H' W = some (.lst ((rowsV h wd n row c).take i))) ⟨Same.new nW, upd_same⟩ ?_ ?_⟩
          · rintro i H4 hi0 ⟨S4, hW⟩
            rw [Int.zero_add]
            have hi : i < n := by omega
            have S14 := S3.trans S4
            have hr : (row + i) % 32 < xs.length := by omega
            have hx : xs[(row + i) % 32]? = some xs[(row + i) % 32] := List.getElem?_eq_getElem hr
            obtain ⟨hs, _⟩ := O1 _ _ hx
            have hv : (stripsV h ((row + i) % 32) wd)[c]? = some (V.int (JM.strip h.e (32 * ((row + i) % 32) + c) wd)) := by
              unfold stripsV
              rw [List.getElem?_map, List.getElem?_range hc]
              rfl
            refine ⟨rfl, yes ?_⟩
            refine ⟨_, rfl, _, rfl, _, rfl, _, _, rfl, rfl, _, _, rfl, rfl, (by show (0 : Int) < 32; decide), D, _, _, _, rfl, rfl, SqL.of (S14 _ _ hD), at_of (j := (row + i) % 32) (by omega) (by rw [List.getElem?_map, hx]; rfl), _, rfl, _, _, _, _, rfl, rfl, SqL.of (S14 _ _ hs), at_of rfl hv, ?_⟩
            have hk : (rowsV h wd n row c)[i]? = some (V.int (JM.strip h.e ((row + i) % 32 * 32 + c) wd)) := by
              unfold rowsV
              rw [List.getElem?_map, List.getElem?_range hi]
              rfl
            rw [show 32 * ((row + i) % 32) + c = (row + i) % 32 * 32 + c by omega]
            refine ⟨_, hW, ?_, Same.upd S4 nW, ?_⟩
            · rw [List.length_take]
              exact Nat.lt_of_le_of_lt (show _ ≤ 32 by omega) (by decide)
            · rw [upd_same, take_more hk]
          · rintro H4 ⟨S4, hW⟩
            have hW : H4 W = some (.lst (rowsV h wd n row c)) := by
              rw [hW, List.take_of_length_le (by omega)]
            have er : rowsV h wd n row c = ((List.range n).map fun r => JM.strip h.e ((row + r) % 32 * 32 + c) wd).map V.int := by
              unfold rowsV
              rw [List.map_map]
              rfl
            refine ⟨W, (List.range n).map fun r => JM.strip h.e ((row + r) % 32 * 32 + c) wd, rfl, SqL.of (by rw [← er]; exact hW), ?_⟩
            rw [sum_eq, ← JM.inWindow_is h wd n row c (by omega)]
            have nx : tp row (c + 1) = if (tp row c).2 < Sj24.inWindow h wd n (32 * row + c) then (32 * row + c, Sj24.inWindow h wd n (32 * row + c)) else tp row c := by
              show JM.top1 _ _ (JM.seenOf wd row (c + 1)) = _
              rw [JM.seen_next, JM.top1_snoc]
            generalize Sj24.inWindow h wd n (32 * row + c) = e at nx
            refine ⟨_, rfl, _, rfl, _, _, rfl, rfl, _, rfl, ite2 (fun h1 => ?_) (fun h1 => ?_)⟩
            · have h1 : (tp row c).2 < e := of_decide_eq_true h1
              have nx := nx.trans (if_pos h1)
              refine ⟨_, rfl, _, _, rfl, rfl, .inl ⟨by decide, by decide⟩, _, rfl, _, _, rfl, rfl, _, rfl, some (.int (c : Int)), some (.int e), v9, ?_, S3.trans S4⟩
              rw [nx]
              have e2 : (32 : Int) * (row : Int) + (c : Int) = ((32 * row + c : Nat) : Int) := by omega
              rw [← e2]
              rfl
            · have h1 : ¬ (tp row c).2 < e := of_decide_eq_false (by simpa using h1)
              have nx := nx.trans (if_neg h1)
              refine ⟨some (.int (c : Int)), some (.int e), v9, ?_, S3.trans S4⟩
              rw [nx]
              rfl
        · rintro σ H3 ⟨v7, v8, v9, rfl, S3⟩
          have en : ((32 : Int) - (wd : Int) + 1).toNat = 33 - wd := by omega
          have et : tp row (33 - wd) = tp (row + 1) 0 := by
            show JM.top1 _ _ (JM.seenOf wd row (33 - wd)) = JM.top1 _ _ (JM.seenOf wd (row + 1) 0)
            rw [JM.seen_row]
          rw [en, et]
          exact ⟨_, _, _, _, rfl, S3⟩
      · rintro σ H2 ⟨v3, v7, v8, v9, rfl, S2⟩
        have eb : Sj24.best h wd n = tp 32 0 := JM.best_seen w1 w32 (JM.inWindow_nonneg e0 _ _ _)
        refine ⟨_, rfl, _, rfl, (by show 2 ≤ sizeLine; decide), fun p np => ?_⟩
        refine q _ p (S1.trans (S2.trans (Same.new np))) (S1.free (S2.free np)) ?_
        rw [upd_same, eb]
        rfl
end
end J
set_option Elab.async false
set_option maxRecDepth 100000
set_option maxHeartbeats 2000000
namespace J
open PySem PySem.Spec PyProof.Rows L2
theorem But.trans {H H' H'' : Hp} {x : Addr} (k : But H H' x) (k' : But H' H'' x) : But H H'' x := fun b o e n => k' _ _ (k b o e n) n
theorem But.of_same {H H' : Hp} {x : Addr} (s : Same H H') : But H H' x := fun b o e _ => s b o e
theorem But.free {H H' : Hp} {p x : Addr} {o : HO} (k : But H H' p) (hp : H' p = some o) (n : H' x = none) : H x = none := by
  cases e : H x with
  | none => rfl
  | some u =>
    have np : x ≠ p := fun z => by
      rw [z, hp] at n
      cases n
    have := k _ _ e np
    rw [n] at this
    cases this
/-- what was new in the middle is new in the whole -/
theorem New.but {H H4 H5 H16 : Hp} {p b : Addr} {o u : HO} (k : But H H4 p) (h4 : H4 p = some u) (k' : But H5 H16 p) (e : New H4 H5 b = some o) : New H H16 b = some o := by
  have n4 := New.free e
  have nb : b ≠ p := fun z => by
    rw [z, h4] at n4
    cases n4
  exact New.get (k.free h4 n4) (k' _ _ (New.sub _ _ e) nb)
def house0 (x y z : Int) : Sj24.House := ⟨x, y, z, List.replicate 4 Sj24.gain1, List.replicate 8 1, List.replicate 8 0, List.replicate Sj24.BLOCKS Sj24.none_, [], []⟩
def GoodOpen (x y z : Int) : Prop := (1 ≤ y ∧ y ≤ 1099511627776) ∧ (y ≤ x ∧ x ≤ 1099511627776) ∧ 1 ≤ z ∧ z ≤ 1024
theorem house0_ok {x y z : Int} (g : GoodOpen x y z) : HouseOk (house0 x y z) := by
  obtain ⟨⟨g1, g2⟩, ⟨g3, g4⟩, g5, g6⟩ := g
  refine ⟨g1, g3, g4, g5, g6, rfl, fun G hG => ?_, ⟨rfl, fun x hx => ?_⟩, ⟨rfl, fun x hx => ?_⟩, List.length_replicate, fun B hB => ?_, fun c hc => by simp [house0] at hc, by show 0 ≤ 1024; omega, fun c hc => by simp [house0] at hc, by show 0 ≤ 1024; omega⟩
  · rw [List.eq_of_mem_replicate hG]
    exact ⟨by show (1 : Int) ≤ 1; omega, by show (1 : Int) ≤ _; omega, by show 0 ≤ 24; omega, by show (0 : Int) ≤ 0; omega, by show (0 : Int) ≤ _; omega⟩
  · rw [List.eq_of_mem_replicate hx]
    omega
  · rw [List.eq_of_mem_replicate hx]
    omega
  · rw [List.eq_of_mem_replicate hB]
    exact ⟨by show (0 : Int) ≤ 0; omega, by show (0 : Int) ≤ _; omega, by show (-32768 : Int) ≤ 0; omega, by show (0 : Int) ≤ _; omega⟩
/-- f() of such a def that lets nothing out -/
theorem pe_def0 {X : Cx} {k j : Nat} {ps : List Str} {sp : Sp} {x : Str} {p pos : Pos} (D : Def X.prog X.w X.K X.mg X.base CX0 x k ps sp) (hr : Room j X.A) (hkj : k ≤ j := by decide) (hg : Gl X x := by rfl)
    (hdb : (x == ("__debug__" : Str)) = false := by decide) : PE X (.Call (.Name x p) [] [] pos) (tCall sp [] E0 tNil) := by
  obtain ⟨f, fd, F, hm, hk, hb⟩ := D.ex
  exact pe_call0 F (hr.mono hkj) hg hm hk hb .nil pass0 hdb
section
variable {P : Program} {w : World} {K : PySem.W.Frag} {mg : Str → Option Value} {base : Heap} {f CR : Addr} {fd : FuncData}
theorem sc_blank_readings : FnScope ["block"] [] (defScope s_blank_readings) := ⟨rfl, rfl, rfl, by decide +kernel, rfl, by decide +kernel, by decide +kernel⟩
/-- the readings of a calorimeter without pulses, all new -/
def sp_blank_readings (CR : Addr) : Sp := fun vs H Q _ => vs = [] ∧ ∀ (H' : Hp) (p : Addr) (xs : List Addr), Same H H' → H p = none → H' p = some (.lst (xs.map V.ref)) → xs.length = (1024 : Int).toNat → (∀ x ∈ xs, ∃ dx, New H H' x = some (.ins CR dx (rF Sj24.none_))) → Q (.ref p) H'
theorem ok_blank_readings (F : Fun K "blank_readings" "blank_readings" s_blank_readings f fd) (nB : IntAt mg "BLOCKS" 1024) (mR : mg "range" = none) (cR : Ctor P w K mg base CX0 "Reading" CR 1 ["self", "energy", "time", "full"] (sp_Reading_init CR)) :
    FnOk P w K mg base CX0 3 f fd [] (sp_blank_readings CR) := by
  have nd := sc_blank_readings.nd
  refine F.ok sc_blank_readings (fun vs H Q E h => ?_) (fun cdv A outer s H vs Q E hr h => ?_)
  · obtain ⟨rfl, _⟩ := h
    rfl
  · obtain ⟨rfl, q⟩ := h
    refine ⟨_, pss_one (ps_ret (pe_lc (own := [("block", 0)]) (g := gName 0) (tt := tYes) (te := tMake CR (sp_Reading_init CR) [] E0 (tCons (tC (.int 0)) (tCons (tC (.int 0)) (tCons (tC (.int 0)) tNil)))) rfl nd (pi_range1 (by rfl) mR (pa_cons (pe_num nB) pa_nil))
      (blkOk_by (own := [("block", 0)]) (N := ["block"]) (sc := defScope s_blank_readings) (by decide +kernel))
      (fun _ _ _ _ _ => pg_name (i := 0) nd rfl (.inl rfl)) (fun _ _ _ _ _ => pts_nil) (fun _ _ _ _ _ => pe_new cR hr (pa_cons pe_int (pa_cons pe_int (pa_cons pe_int pa_nil)))))), ?_⟩
    refine ⟨1024, rfl, by decide, by decide, fun D nD => lc_make (lo := 0) (n := (1024 : Int).toNat) (C := CR) (fs := rF Sj24.none_) nD (by decide) (fun i H R hi k => ⟨rfl, fun x dx nx ndx ne => ⟨x, dx, Sj24.none_, rfl, upd_same, fun H2 h2 k2 => ⟨rfl, k x H2 (made_same nx ndx k2) nx ⟨dx, h2⟩⟩⟩⟩) ?_⟩
    exact fun H1 xs S L ln A => q H1 D xs S nD L ln A
end
section
variable {P : Program} {w : World} {K : PySem.W.Frag} {mg : Str → Option Value} {base : Heap} {f CO : Addr} {Z : Cls4} {fd : FuncData}
theorem sc_Detector_init : FnScope ["self", "seed", "low", "reach", "gain"] ["self", "seed", "low", "reach"] (defScope s_Detector_init) := ⟨rfl, rfl, rfl, by decide +kernel, rfl, by decide +kernel, by decide +kernel⟩
def sp_Detector_init (Z : Cls4) (CO : Addr) : Sp := fun vs H Q E => ∃ (p dx : Addr) (x y z : Int), vs = [.ref p, .int x, .int y, .int z] ∧ H p = some (.ins Z.CD dx []) ∧ (¬ GoodOpen x y z → E (.ref CO) none H) ∧
  (GoodOpen x y z → ∀ (H' : Hp) (g r ew tw cl jl : Addr) (gs rs : List Addr), But H H' p → H g = none → H r = none → g ≠ r → DetCore Z (Off [g, r] (New H H')) H' p g r (house0 x y z) ew tw cl jl gs rs → Q .non H')
theorem ok_Detector_init (F : Fun K "__init__" "Detector.__init__" s_Detector_init f fd) (T : Clx K Z.CD ["seed", "low", "reach", "gains", "energy_weights", "time_weights", "readings", "clusters", "jets"])
    (nE : IntAt mg "GREATEST_ENERGY" 1099511627776) (nR : IntAt mg "GREATEST_REACH" 1024) (nG : IntAt mg "GAINS" 4) (nS : IntAt mg "SAMPLES" 8) (mR : mg "range" = none)
    (dR : Def P w K mg base (L2.CX P w) "check_range" 1 ["value", "least", "greatest"] (sp_check_range CO)) (cG : Ctor P w K mg base CX0 "Gain" Z.CG 1 ["self", "mul", "shift", "zero"] (sp_Gain_init Z.CG))
    (dB : Def P w K mg base CX0 "blank_readings" 3 [] (sp_blank_readings Z.CR)) : FnOk P w K mg base (L2.CX P w) 4 f fd ["self", "seed", "low", "reach"] (sp_Detector_init Z CO) := by
  have nd := sc_Detector_init.nd
  refine F.okX sc_Detector_init (fun vs H Q E h => ?_) (fun cdv A outer s H vs Q E hr h => ?_)
  · obtain ⟨_, _, _, _, _, rfl, _⟩ := h
    rfl
  · obtain ⟨p, dx, x, y, z, rfl, hp, qe, q⟩ := h
    refine ⟨_, pss_cons (ps_expr (pe_defX dR hr (takes_of rfl rfl rfl rfl) (pa_cons (pv 2) (pa_cons pe_int (pa_cons (pe_num nE) pa_nil)))))
      (pss_cons (ps_expr (pe_defX dR hr (takes_of rfl rfl rfl rfl) (pa_cons (pv 1) (pa_cons (pv 2) (pa_cons (pe_num nE) pa_nil)))))
      (pss_cons (ps_expr (pe_defX dR hr (takes_of rfl rfl rfl rfl) (pa_cons (pv 3) (pa_cons pe_int (pa_cons (pe_num nR) pa_nil)))))
      (pss_cons (ps_fld (pv 0) (pv 1) rfl) (pss_cons (ps_fld (pv 0) (pv 2) rfl) (pss_cons (ps_fld (pv 0) (pv 3) rfl)
      (pss_cons (ps_fld (pv 0) (pe_lc (own := [("gain", 4)]) (g := gName 4) (tt := tYes) (te := tMake Z.CG (sp_Gain_init Z.CG) [] E0 (tCons (tC (.int 1)) (tCons (tC (.int 0)) (tCons (tC (.int 0)) tNil)))) rfl nd (pi_range1 (by rfl) mR (pa_cons (pe_num nG) pa_nil))
        (blkOk_by (own := [("gain", 4)]) (N := ["self", "seed", "low", "reach", "gain"]) (sc := defScope s_Detector_init) (by decide +kernel))
        (fun _ _ _ _ _ => pg_name (i := 4) nd rfl (.inl rfl)) (fun _ _ _ _ _ => pts_nil) (fun _ _ _ _ _ => pe_new cG hr (pa_cons pe_int (pa_cons pe_int (pa_cons pe_int pa_nil))))) rfl)
      (pss_cons (ps_fld (pv 0) (pe_op op_rep (pe_lst (pa_cons pe_int pa_nil)) (pe_num nS)) rfl)
      (pss_cons (ps_fld (pv 0) (pe_op op_rep (pe_lst (pa_cons pe_int pa_nil)) (pe_num nS)) rfl)
      (pss_cons (ps_fld (pv 0) (pe_def0 dB hr) rfl)
      (pss_cons (ps_fld (pv 0) (pe_lst pa_nil) rfl)
      (pss_one (ps_fld (pv 0) (pe_lst pa_nil) rfl)))))))))))), ?_⟩
    refine ⟨_, rfl, _, _, _, rfl, fun g1 => ?_, fun g1 => qe fun z => g1 z.1⟩
    refine ⟨_, rfl, _, rfl, _, _, _, rfl, fun g2 => ?_, fun g2 => qe fun z => g2 z.2.1⟩
    refine ⟨_, rfl, _, _, _, rfl, fun g3 => ?_, fun g3 => qe fun z => g3 z.2.2⟩
    have q := q ⟨g1, g2, g3⟩
    refine ⟨_, rfl, _, rfl, p, Z.CD, dx, _, rfl, hp, T.cl, T.nf _ (by decide +kernel), (by show 0 < 1000; decide), ?_⟩
    refine ⟨_, rfl, _, rfl, p, Z.CD, dx, _, rfl, upd_same, T.cl, T.nf _ (by decide +kernel), (by show 1 < 1000; decide), ?_⟩
    refine ⟨_, rfl, _, rfl, p, Z.CD, dx, _, rfl, upd_same, T.cl, T.nf _ (by decide +kernel), (by show 2 < 1000; decide), ?_⟩
    have k4 := ((But.refl H p).upd (o := .ins Z.CD dx [("seed", .int x)])).upd (o := .ins Z.CD dx [("seed", .int x), ("low", .int y)]) |>.upd (o := .ins Z.CD dx [("seed", .int x), ("low", .int y), ("reach", .int z)])
    refine ⟨4, rfl, by decide, by decide, fun D1 nD1 => lc_make (lo := 0) (n := (4 : Int).toNat) (C := Z.CG) (fs := gF Sj24.gain1) nD1 (by decide) (fun i H R hi k => ⟨rfl, fun x dx nx ndx ne => ⟨x, dx, Sj24.gain1, rfl, upd_same, fun H2 h2 k2 => ⟨rfl, k x H2 (made_same nx ndx k2) nx ⟨dx, h2⟩⟩⟩⟩) ?_⟩
    intro H5 xs1 S5 L5 ln1 A5
    have P5 := S5 _ _ upd_same
    refine ⟨_, rfl, p, Z.CD, dx, _, rfl, P5, T.cl, T.nf _ (by decide +kernel), (by show 3 < 1000; decide), ?_⟩
    refine ⟨(by show 1 ≤ sizeLine; decide), fun l1 nl1 => ⟨l1, 8, _, rfl, rfl, upd_same, by decide, by decide, (by show 1 * 8 ≤ sizeLine; decide), fun p2 np2 => ?_⟩⟩
    have s68 := (Same.new (o := .lst [.int 1]) nl1).trans (Same.new (o := .lst (List.replicate (8 : Int).toNat [V.int 1]).flatten) np2)
    have P8 := s68 _ _ upd_same
    refine ⟨_, rfl, p, Z.CD, dx, _, rfl, P8, T.cl, T.nf _ (by decide +kernel), (by show 4 < 1000; decide), ?_⟩
    refine ⟨(by show 1 ≤ sizeLine; decide), fun l3 nl3 => ⟨l3, 8, _, rfl, rfl, upd_same, by decide, by decide, (by show 1 * 8 ≤ sizeLine; decide), fun p4 np4 => ?_⟩⟩
    have s911 := (Same.new (o := .lst [.int 0]) nl3).trans (Same.new (o := .lst (List.replicate (8 : Int).toNat [V.int 0]).flatten) np4)
    have P11 := s911 _ _ upd_same
    refine ⟨_, rfl, p, Z.CD, dx, _, rfl, P11, T.cl, T.nf _ (by decide +kernel), (by show 5 < 1000; decide), ?_⟩
    refine ⟨rfl, fun H13 D5 xs5 S13 nD5 L13 ln5 A13 => ?_⟩
    have P13 := S13 _ _ upd_same
    refine ⟨_, rfl, p, Z.CD, dx, _, rfl, P13, T.cl, T.nf _ (by decide +kernel), (by show 6 < 1000; decide), ?_⟩
    refine ⟨(by show 0 ≤ sizeLine; omega), fun D6 nD6 => ?_⟩
    have s15 := Same.new (o := .lst []) nD6
    refine ⟨_, rfl, p, Z.CD, dx, _, rfl, s15 _ _ upd_same, T.cl, T.nf _ (by decide +kernel), (by show 7 < 1000; decide), ?_⟩
    refine ⟨(by show 0 ≤ sizeLine; omega), fun D7 nD7 => ?_⟩
    have s17 := Same.new (o := .lst []) nD7
    refine ⟨_, rfl, p, Z.CD, dx, _, rfl, s17 _ _ upd_same, T.cl, T.nf _ (by decide +kernel), (by show 8 < 1000; decide), ?_⟩
    have k5 := k4.same S5
    have k6 := k5.upd (o := .ins Z.CD dx [("seed", .int x), ("low", .int y), ("reach", .int z), ("gains", .ref D1)])
    have k7 := k6.same (Same.new (o := .lst [.int 1]) nl1)
    have k8 := k6.same s68
    have k9 := k8.upd (o := .ins Z.CD dx [("seed", .int x), ("low", .int y), ("reach", .int z), ("gains", .ref D1), ("energy_weights", .ref p2)])
    have k10 := k9.same (Same.new (o := .lst [.int 0]) nl3)
    have k11 := k9.same s911
    have k12 := k11.upd (o := .ins Z.CD dx [("seed", .int x), ("low", .int y), ("reach", .int z), ("gains", .ref D1), ("energy_weights", .ref p2), ("time_weights", .ref p4)])
    have k13 := k12.same S13
    have k14 := k13.upd (o := .ins Z.CD dx [("seed", .int x), ("low", .int y), ("reach", .int z), ("gains", .ref D1), ("energy_weights", .ref p2), ("time_weights", .ref p4), ("readings", .ref D5)])
    have hD1 : H D1 = none := k4.free upd_same nD1
    have hp2 : H p2 = none := k7.free (Same.new nl1 _ _ upd_same) np2
    have hp4 : H p4 = none := k10.free (Same.new nl3 _ _ upd_same) np4
    have hD5 : H D5 = none := k12.free upd_same nD5
    have hD6 : H D6 = none := k14.free upd_same nD6
    have k15 := k14.same s15
    have k16 := k15.upd (o := .ins Z.CD dx [("seed", .int x), ("low", .int y), ("reach", .int z), ("gains", .ref D1), ("energy_weights", .ref p2), ("time_weights", .ref p4), ("readings", .ref D5), ("clusters", .ref D6)])
    have hD7 : H D7 = none := k16.free upd_same nD7
    have o1 : ∀ b, H b = none → b ≠ p := fun b e => (ne_of_none hp e).symm
    -- the lists as they lie at the end
    have e2 := upd_same (H := upd (upd H5 p (.ins Z.CD dx [("seed", .int x), ("low", .int y), ("reach", .int z), ("gains", .ref D1)])) l1 (.lst [.int 1])) (a := p2) (o := .lst (List.replicate (8 : Int).toNat [V.int 1]).flatten)
    have e4 := upd_same (H := upd (upd (upd (upd (upd H5 p (.ins Z.CD dx [("seed", .int x), ("low", .int y), ("reach", .int z), ("gains", .ref D1)])) l1 (.lst [.int 1])) p2 (.lst (List.replicate (8 : Int).toNat [V.int 1]).flatten)) p (.ins Z.CD dx [("seed", .int x), ("low", .int y), ("reach", .int z), ("gains", .ref D1), ("energy_weights", .ref p2)])) l3 (.lst [.int 0])) (a := p4) (o := .lst (List.replicate (8 : Int).toNat [V.int 0]).flatten)
    refine q _ D1 D5 p2 p4 D6 D7 xs1 xs5 ((k16.same s17).upd) hD1 hD5 ?_ ?_
    · exact ne_of_none ((((But.of_upd.same s68).upd.same s911).upd) _ _ L5 (o1 D1 hD1)) nD5
    · have F5 : ∀ {Hf : Hp} {o : HO}, Hf = upd (upd (upd (upd (upd H13 p (.ins Z.CD dx [("seed", .int x), ("low", .int y), ("reach", .int z), ("gains", .ref D1), ("energy_weights", .ref p2), ("time_weights", .ref p4), ("readings", .ref D5)])) D6 (.lst [])) p (.ins Z.CD dx [("seed", .int x), ("low", .int y), ("reach", .int z), ("gains", .ref D1), ("energy_weights", .ref p2), ("time_weights", .ref p4), ("readings", .ref D5), ("clusters", .ref D6)])) D7 (.lst [])) p o → But H5 Hf p := fun e => by
        rw [e]
        exact (((((But.of_upd.same s68).upd.same s911).upd.same S13).upd.same s15).upd.same s17).upd
      have F8 : ∀ {Hf : Hp} {o : HO}, Hf = upd (upd (upd (upd (upd H13 p (.ins Z.CD dx [("seed", .int x), ("low", .int y), ("reach", .int z), ("gains", .ref D1), ("energy_weights", .ref p2), ("time_weights", .ref p4), ("readings", .ref D5)])) D6 (.lst [])) p (.ins Z.CD dx [("seed", .int x), ("low", .int y), ("reach", .int z), ("gains", .ref D1), ("energy_weights", .ref p2), ("time_weights", .ref p4), ("readings", .ref D5), ("clusters", .ref D6)])) D7 (.lst [])) p o → Hf p2 = some (.lst (List.replicate (8 : Int).toNat [V.int 1]).flatten) := fun e => by
        rw [e]
        exact ((((But.of_upd.same s911).upd.same S13).upd.same s15).upd.same s17).upd _ _ e2 (o1 p2 hp2)
      have F11 : ∀ {Hf : Hp} {o : HO}, Hf = upd (upd (upd (upd (upd H13 p (.ins Z.CD dx [("seed", .int x), ("low", .int y), ("reach", .int z), ("gains", .ref D1), ("energy_weights", .ref p2), ("time_weights", .ref p4), ("readings", .ref D5)])) D6 (.lst [])) p (.ins Z.CD dx [("seed", .int x), ("low", .int y), ("reach", .int z), ("gains", .ref D1), ("energy_weights", .ref p2), ("time_weights", .ref p4), ("readings", .ref D5), ("clusters", .ref D6)])) D7 (.lst [])) p o → Hf p4 = some (.lst (List.replicate (8 : Int).toNat [V.int 0]).flatten) := fun e => by
        rw [e]
        exact (((But.of_upd.same S13).upd.same s15).upd.same s17).upd _ _ e4 (o1 p4 hp4)
      have F13 : ∀ {Hf : Hp} {o : HO}, Hf = upd (upd (upd (upd (upd H13 p (.ins Z.CD dx [("seed", .int x), ("low", .int y), ("reach", .int z), ("gains", .ref D1), ("energy_weights", .ref p2), ("time_weights", .ref p4), ("readings", .ref D5)])) D6 (.lst [])) p (.ins Z.CD dx [("seed", .int x), ("low", .int y), ("reach", .int z), ("gains", .ref D1), ("energy_weights", .ref p2), ("time_weights", .ref p4), ("readings", .ref D5), ("clusters", .ref D6)])) D7 (.lst [])) p o → But H13 Hf p := fun e => by
        rw [e]
        exact ((But.of_upd.same s15).upd.same s17).upd
      have F15 : ∀ {Hf : Hp} {o : HO}, Hf = upd (upd (upd (upd (upd H13 p (.ins Z.CD dx [("seed", .int x), ("low", .int y), ("reach", .int z), ("gains", .ref D1), ("energy_weights", .ref p2), ("time_weights", .ref p4), ("readings", .ref D5)])) D6 (.lst [])) p (.ins Z.CD dx [("seed", .int x), ("low", .int y), ("reach", .int z), ("gains", .ref D1), ("energy_weights", .ref p2), ("time_weights", .ref p4), ("readings", .ref D5), ("clusters", .ref D6)])) D7 (.lst [])) p o → Hf D6 = some (.lst []) := fun e => by
        rw [e]
        exact (But.of_upd.same s17).upd _ _ upd_same (o1 D6 hD6)
      have F17 : ∀ {Hf : Hp} {o : HO}, Hf = upd (upd (upd (upd (upd H13 p (.ins Z.CD dx [("seed", .int x), ("low", .int y), ("reach", .int z), ("gains", .ref D1), ("energy_weights", .ref p2), ("time_weights", .ref p4), ("readings", .ref D5)])) D6 (.lst [])) p (.ins Z.CD dx [("seed", .int x), ("low", .int y), ("reach", .int z), ("gains", .ref D1), ("energy_weights", .ref p2), ("time_weights", .ref p4), ("readings", .ref D5), ("clusters", .ref D6)])) D7 (.lst [])) p o → Hf D7 = some (.lst []) := fun e => by
        rw [e]
        exact But.of_upd _ _ upd_same (o1 D7 hD7)
      obtain ⟨Hf, hf⟩ : ∃ Hf, Hf = upd (upd (upd (upd (upd H13 p (.ins Z.CD dx [("seed", .int x), ("low", .int y), ("reach", .int z), ("gains", .ref D1), ("energy_weights", .ref p2), ("time_weights", .ref p4), ("readings", .ref D5)])) D6 (.lst [])) p (.ins Z.CD dx [("seed", .int x), ("low", .int y), ("reach", .int z), ("gains", .ref D1), ("energy_weights", .ref p2), ("time_weights", .ref p4), ("readings", .ref D5), ("clusters", .ref D6)])) D7 (.lst [])) p (.ins Z.CD dx (dF (house0 x y z) D1 p2 p4 D5 D6 D7)) := ⟨_, rfl⟩
      suffices hh : DetCore Z (Off [D1, D5] (New H Hf)) Hf p D1 D5 (house0 x y z) p2 p4 D6 D7 xs1 xs5 by
        rw [hf] at hh
        exact hh
      have f5 := F5 hf
      have f8 := F8 hf
      have f11 := F11 hf
      have f13 := F13 hf
      have f15 := F15 hf
      have f17 := F17 hf
      have g1 := f5 _ _ L5 (o1 D1 hD1)
      have g5 := f13 _ _ L13 (o1 D5 hD5)
      have offI : ∀ b o, H b = none → Hf b = some o → (∀ u, o ≠ .lst u) → Off [D1, D5] (New H Hf) b = some o := fun b o n e nl => by
        refine Off.get (fun m => ?_) (New.get n e)
        rcases List.mem_cons.mp m with e1 | m
        · rw [e1, g1] at e
          exact nl _ (Option.some.inj e).symm
        · rw [List.mem_singleton.mp m, g5] at e
          exact nl _ (Option.some.inj e).symm
      have offL : ∀ b us, H b = none → Hf b = some (.lst us) → us ≠ xs1.map V.ref → us ≠ xs5.map V.ref → Off [D1, D5] (New H Hf) b = some (.lst us) := fun b us n e n1 n5 => by
        refine Off.get (fun m => ?_) (New.get n e)
        rcases List.mem_cons.mp m with e1 | m
        · rw [e1, g1] at e
          injection e with e
          injection e with e
          exact n1 e.symm
        · rw [List.mem_singleton.mp m, g5] at e
          injection e with e
          injection e with e
          exact n5 e.symm
      have ne1 : ∀ us : List V, us.length ≠ 4 → us ≠ xs1.map V.ref := fun us h z => h (by rw [z, List.length_map, ln1]; rfl)
      have ne5 : ∀ us : List V, us.length ≠ 1024 → us ≠ xs5.map V.ref := fun us h z => h (by rw [z, List.length_map, ln5]; rfl)
      refine ⟨⟨dx, by rw [hf]; exact upd_same⟩, g1, ln1.trans rfl, fun i a G ha hG => ?_, g5, ?_, fun i a B ha hB => ?_, ?_, ?_, ⟨[], rfl, ?_, fun i x c hx => by simp at hx⟩, JetsAt.nil ?_⟩
      · have eG : G = Sj24.gain1 := List.eq_of_mem_replicate (List.mem_of_getElem? hG)
        subst eG
        obtain ⟨da, e⟩ := A5 a (List.mem_of_getElem? ha)
        have n4 := k4.free upd_same (New.free e)
        exact ⟨da, offI _ _ n4 (f5 _ _ (New.sub _ _ e) (o1 a n4)) (by intro u z; cases z)⟩
      · rw [ln5]
        show (1024 : Int).toNat = (List.replicate Sj24.BLOCKS Sj24.none_).length
        rw [List.length_replicate]
        rfl
      · have eB : B = Sj24.none_ := List.eq_of_mem_replicate (List.mem_of_getElem? hB)
        subst eB
        obtain ⟨da, e⟩ := A13 a (List.mem_of_getElem? ha)
        have n12 := k12.free upd_same (New.free e)
        exact ⟨da, offI _ _ n12 (f13 _ _ (New.sub _ _ e) (o1 a n12)) (by intro u z; cases z)⟩
      · exact offL _ _ hp2 f8 (ne1 _ (by show 8 ≠ 4; decide)) (ne5 _ (by show 8 ≠ 1024; decide))
      · exact offL _ _ hp4 f11 (ne1 _ (by show 8 ≠ 4; decide)) (ne5 _ (by show 8 ≠ 1024; decide))
      · exact offL _ _ hD6 f15 (ne1 _ (by decide)) (ne5 _ (by decide))
      · exact offL _ _ hD7 f17 (ne1 _ (by decide)) (ne5 _ (by decide))
end
end J
set_option Elab.async false
set_option maxRecDepth 100000
set_option maxHeartbeats 2000000
namespace J
open PySem PySem.Spec PyProof.Rows L2
theorem set_at {α : Type} {l : List α} {j i : Nat} {x y : α} (h : (l.set j x)[i]? = some y) : (i = j ∧ y = x) ∨ (i ≠ j ∧ l[i]? = some y) := by
  by_cases e : i = j
  · subst e
    left
    have hl : i < l.length := by
      have := (List.getElem?_eq_some_iff.mp h).1
      rw [List.length_set] at this
      exact this
    rw [List.getElem?_set_self hl] at h
    exact ⟨rfl, (Option.some.inj h).symm⟩
  · right
    rw [List.getElem?_set_ne (fun z => e z.symm)] at h
    exact ⟨e, h⟩
/-- a gain more, at its place -/
theorem DetAt.setGain {Z : Cls4} {M : List Addr} {H H1 : Hp} {d g r x : Addr} {h : Sj24.House} {j : Nat} {G : Sj24.Gain} {xs : List V} (D : DetAt Z M H d g r h) (s : Same H H1) (hx : H x = none) (e : GainAt Z.CG H1 x G) (hg : H g = some (.lst xs)) :
    DetAt Z M (upd H1 g (.lst (xs.set j (.ref x)))) d g r { h with gains := h.gains.set j G } := by
  obtain ⟨ew, tw, cl, jl, gs, rs, c⟩ := (D.same s).core
  have hg1 := s _ _ hg
  have ex : xs = gs.map V.ref := by
    have := hg1.symm.trans c.g
    injection this with this
    injection this
  subst ex
  have xM : x ∉ M := fun z => D.all x z hx
  have eo : Off M (upd H1 g (.lst ((gs.map V.ref).set j (.ref x)))) = Off M H1 := by
    funext b
    unfold Off
    by_cases hb : b ∈ M
    · rw [if_pos hb, if_pos hb]
    · rw [if_neg hb, if_neg hb, upd_ne (fun z => hb (by rw [z]; exact D.gM))]
  refine ⟨D.dM, D.gM, D.rM, D.gr, fun m hm => ?_, ew, tw, cl, jl, gs.set j x, rs, ?_⟩
  · by_cases e : m = g
    · rw [e, upd_same]
      exact fun z => by cases z
    · rw [upd_ne e]
      exact (D.same s).all m hm
  · rw [eo]
    obtain ⟨dx, hd⟩ := c.d
    refine ⟨⟨dx, ?_⟩, ?_, ?_, fun i a G' ha hG => ?_, ?_, c.rl, c.ra, c.w, c.v, c.c, c.j⟩
    · rw [upd_ne (ne_of hd c.g (by intro z; cases z))]
      exact hd
    · rw [upd_same, List.map_set]
    · rw [List.length_set, List.length_set]
      exact c.gl
    · rcases set_at ha with ⟨e1, e2⟩ | ⟨e1, e2⟩
      · rcases set_at hG with ⟨_, e3⟩ | ⟨e3, _⟩
        · rw [e2, e3]
          obtain ⟨dy, q⟩ := e
          exact ⟨dy, Off.get xM q⟩
        · exact absurd e1 e3
      · rcases set_at hG with ⟨e3, _⟩ | ⟨_, e4⟩
        · exact absurd e3 e1
        · exact c.ga i a G' e2 e4
    · rw [upd_ne (fun z => D.gr z.symm)]
      exact c.r
theorem DetAt.setBlock {Z : Cls4} {M : List Addr} {H H1 : Hp} {d g r x : Addr} {h : Sj24.House} {j : Nat} {B : Sj24.Block} {xs : List V} (D : DetAt Z M H d g r h) (s : Same H H1) (hx : H x = none) (e : ReadAt Z.CR H1 x B) (hg : H r = some (.lst xs)) :
    DetAt Z M (upd H1 r (.lst (xs.set j (.ref x)))) d g r { h with blocks := h.blocks.set j B } := by
  obtain ⟨ew, tw, cl, jl, gs, rs, c⟩ := (D.same s).core
  have hg1 := s _ _ hg
  have ex : xs = rs.map V.ref := by
    have := hg1.symm.trans c.r
    injection this with this
    injection this
  subst ex
  have xM : x ∉ M := fun z => D.all x z hx
  have eo : Off M (upd H1 r (.lst ((rs.map V.ref).set j (.ref x)))) = Off M H1 := by
    funext b
    unfold Off
    by_cases hb : b ∈ M
    · rw [if_pos hb, if_pos hb]
    · rw [if_neg hb, if_neg hb, upd_ne (fun z => hb (by rw [z]; exact D.rM))]
  refine ⟨D.dM, D.gM, D.rM, D.gr, fun m hm => ?_, ew, tw, cl, jl, gs, rs.set j x, ?_⟩
  · by_cases e : m = r
    · rw [e, upd_same]
      exact fun z => by cases z
    · rw [upd_ne e]
      exact (D.same s).all m hm
  · rw [eo]
    obtain ⟨dx, hd⟩ := c.d
    refine ⟨⟨dx, ?_⟩, ?_, c.gl, c.ga, ?_, ?_, fun i a G' ha hG => ?_, c.w, c.v, c.c, c.j⟩
    · rw [upd_ne (ne_of hd c.r (by intro z; cases z))]
      exact hd
    · rw [upd_ne D.gr]
      exact c.g
    · rw [upd_same, List.map_set]
    · rw [List.length_set, List.length_set]
      exact c.rl
    · rcases set_at ha with ⟨e1, e2⟩ | ⟨e1, e2⟩
      · rcases set_at hG with ⟨_, e3⟩ | ⟨e3, _⟩
        · rw [e2, e3]
          obtain ⟨dy, q⟩ := e
          exact ⟨dy, Off.get xM q⟩
        · exact absurd e1 e3
      · rcases set_at hG with ⟨e3, _⟩ | ⟨_, e4⟩
        · exact absurd e3 e1
        · exact c.ra i a G' e2 e4
/-- the object's own fields are others -/
theorem DetAt.fields {Z : Cls4} {M : List Addr} {H H1 : Hp} {d g r dx ew tw cl jl : Addr} {h h' : Sj24.House} (D : DetAt Z M H d g r h) (s : Same H H1) (eg : h'.gains = h.gains) (eb : h'.blocks = h.blocks)
    (w : Off M H1 ew = some (.lst (h'.w.map V.int))) (v : Off M H1 tw = some (.lst (h'.v.map V.int))) (cc : ClustersAt Z.CC (Off M H1) cl h'.clusters) (jj : JetsAt Z.CJ (Off M H1) jl h'.jets) : DetAt Z M (upd H1 d (.ins Z.CD dx (dF h' g ew tw r cl jl))) d g r h' := by
  obtain ⟨_, _, _, _, gs, rs, c⟩ := (D.same s).core
  have eo : Off M (upd H1 d (.ins Z.CD dx (dF h' g ew tw r cl jl))) = Off M H1 := by
    funext b
    unfold Off
    by_cases hb : b ∈ M
    · rw [if_pos hb, if_pos hb]
    · rw [if_neg hb, if_neg hb, upd_ne (fun z => hb (by rw [z]; exact D.dM))]
  obtain ⟨dx', hd⟩ := c.d
  have dg : g ≠ d := ne_of c.g hd (by intro z; cases z)
  have dr : r ≠ d := ne_of c.r hd (by intro z; cases z)
  refine ⟨D.dM, D.gM, D.rM, D.gr, fun m hm => ?_, ew, tw, cl, jl, gs, rs, ?_⟩
  · by_cases e : m = d
    · rw [e, upd_same]
      exact fun z => by cases z
    · rw [upd_ne e]
      exact (D.same s).all m hm
  · rw [eo]
    exact ⟨⟨dx, upd_same⟩, by rw [upd_ne dg]; exact c.g, by rw [eg]; exact c.gl, by rw [eg]; exact c.ga, by rw [upd_ne dr]; exact c.r, by rw [eb]; exact c.rl, by rw [eb]; exact c.ra, w, v, cc, jj⟩
end J
set_option Elab.async false
set_option maxRecDepth 100000
set_option maxHeartbeats 2000000
namespace J
open PySem PySem.Spec PyProof.Rows L2
section
variable {P : Program} {w : World} {K : PySem.W.Frag} {mg : Str → Option Value} {base : Heap} {f CO : Addr} {Z : Cls4} {fd : FuncData}
/-- what the calls read of a calorimeter's object -/
theorem dF_gains (h : Sj24.House) (g ew tw r cl jl : Addr) : (dF h g ew tw r cl jl).lookup ("gains" : Str) = some (.ref g) := rfl
def detNames : List Str := ["seed", "low", "reach", "gains", "energy_weights", "time_weights", "readings", "clusters", "jets"]
theorem sc_set_gain : FnScope ["self", "k", "mul", "shift", "zero"] ["self", "k", "mul", "shift", "zero"] (defScope s_Detector_set_gain) := ⟨rfl, rfl, rfl, by decide +kernel, rfl, by decide +kernel, by decide +kernel⟩
def GoodGain (k m s z : Int) : Prop := (0 ≤ k ∧ k ≤ 3) ∧ (1 ≤ m ∧ m ≤ 1048576) ∧ (0 ≤ s ∧ s ≤ 24) ∧ 0 ≤ z ∧ z ≤ 4095
def sp_set_gain (Z : Cls4) (CO : Addr) : Sp := fun vs H Q E => ∃ (M : List Addr) (d g r : Addr) (h : Sj24.House) (k m s z : Int), vs = [.ref d, .int k, .int m, .int s, .int z] ∧ DetAt Z M H d g r h ∧ HouseOk h ∧ (¬ GoodGain k m s z → E (.ref CO) none H) ∧
  (GoodGain k m s z → ∀ H', DetAt Z M H' d g r { h with gains := h.gains.set k.toNat ⟨m, s.toNat, z⟩ } → Keep [g] H H' → Q .non H')
theorem ok_set_gain (F : Fun K "set_gain" "Detector.set_gain" s_Detector_set_gain f fd) (T : Clx K Z.CD detNames) (nG : IntAt mg "GAINS" 4) (nM : IntAt mg "GREATEST_MUL" 1048576) (nS : IntAt mg "GREATEST_SHIFT" 24) (n4095 : IntAt mg "GREATEST_SAMPLE" 4095)
    (dR : Def P w K mg base (L2.CX P w) "check_range" 1 ["value", "least", "greatest"] (sp_check_range CO)) (cG : Ctor P w K mg base CX0 "Gain" Z.CG 1 ["self", "mul", "shift", "zero"] (sp_Gain_init Z.CG)) :
    FnOk P w K mg base (L2.CX P w) 3 f fd ["self", "k", "mul", "shift", "zero"] (sp_set_gain Z CO) := by
  have nd := sc_set_gain.nd
  refine F.okX sc_set_gain (fun vs H Q E h => ?_) (fun cdv A outer s H vs Q E hr h => ?_)
  · obtain ⟨_, _, _, _, _, _, _, _, _, rfl, _⟩ := h
    rfl
  · obtain ⟨M, d, g, r, h, k, m, s, z, rfl, D, O, qe, q⟩ := h
    refine ⟨_, pss_cons (ps_expr (pe_defX dR hr (takes_of rfl rfl rfl rfl) (pa_cons (pv 1) (pa_cons pe_int (pa_cons (pe_op op_sub (pe_num nG) pe_int) pa_nil)))))
      (pss_cons (ps_expr (pe_defX dR hr (takes_of rfl rfl rfl rfl) (pa_cons (pv 2) (pa_cons pe_int (pa_cons (pe_num nM) pa_nil)))))
      (pss_cons (ps_expr (pe_defX dR hr (takes_of rfl rfl rfl rfl) (pa_cons (pv 3) (pa_cons pe_int (pa_cons (pe_num nS) pa_nil)))))
      (pss_cons (ps_expr (pe_defX dR hr (takes_of rfl rfl rfl rfl) (pa_cons (pv 4) (pa_cons pe_int (pa_cons (pe_num n4095) pa_nil)))))
      (pss_one (ps_asg (pe_new cG hr (pa_cons (pv 2) (pa_cons (pv 3) (pa_cons (pv 4) pa_nil)))) (pg_sub (pe_at (pv 0)) (pv 1) set_list)))))), ?_⟩
    refine ⟨_, rfl, _, _, rfl, rfl, _, _, _, rfl, fun g1 => ?_, fun g1 => qe fun z => g1 z.1⟩
    refine ⟨_, rfl, _, _, _, rfl, fun g2 => ?_, fun g2 => qe fun z => g2 z.2.1⟩
    refine ⟨_, rfl, _, _, _, rfl, fun g3 => ?_, fun g3 => qe fun z => g3 z.2.2.1⟩
    refine ⟨_, rfl, _, _, _, rfl, fun g4 => ?_, fun g4 => qe fun z => g4 z.2.2.2⟩
    have q := q ⟨g1, g2, g3, g4⟩
    have es : ((s.toNat : Nat) : Int) = s := Int.toNat_of_nonneg g3.1
    obtain ⟨j, rfl⟩ : ∃ j : Nat, k = (j : Int) := ⟨k.toNat, (Int.toNat_of_nonneg g1.1).symm⟩
    have hj4 : j < 4 := by omega
    refine ⟨_, rfl, _, rfl, _, rfl, fun x dx nx ndx ne => ⟨x, dx, ⟨m, s.toNat, z⟩, by rw [es]; rfl, upd_same, fun H2 h2 k2 => ⟨rfl, ?_⟩⟩⟩
    have s2 := made_same nx ndx k2
    obtain ⟨ew, tw, cl, jl, gs, rs, c⟩ := D.core
    obtain ⟨dd, hd⟩ := c.d
    refine ⟨_, rfl, d, Z.CD, dd, _, _, rfl, s2 _ _ hd, T.cl, T.nf _ (by decide +kernel), rfl, _, rfl, g, _, _, j, rfl, rfl, s2 _ _ c.g, ixN_nat (by rw [List.length_map, c.gl, O.gl]; exact hj4), ?_⟩
    refine q _ (D.setGain s2 nx ⟨dx, h2⟩ c.g) (fun b o e n => ?_)
    rw [upd_ne (fun z => n (by rw [z]; exact List.mem_singleton.mpr rfl))]
    exact s2 _ _ e
theorem sc_set_weights : FnScope ["self", "energy_weights", "time_weights"] ["self", "energy_weights", "time_weights"] (defScope s_Detector_set_weights) := ⟨rfl, rfl, rfl, by decide +kernel, rfl, by decide +kernel, by decide +kernel⟩
def sp_set_weights (Z : Cls4) (CO : Addr) : Sp := fun vs H Q E => ∃ (M : List Addr) (d g r a b : Addr) (h : Sj24.House) (ws us : List Int), vs = [.ref d, .ref a, .ref b] ∧ DetAt Z M H d g r h ∧ H a = some (.lst (ws.map V.int)) ∧ H b = some (.lst (us.map V.int)) ∧ a ∉ M ∧ b ∉ M ∧
  (¬ (allIn ws (-32768) 32767 ∧ allIn us (-32768) 32767) → E (.ref CO) none H) ∧
  ((allIn ws (-32768) 32767 ∧ allIn us (-32768) 32767) → ∀ H', DetAt Z M H' d g r { h with w := ws, v := us } → Keep [d] H H' → Q .non H')
theorem ok_set_weights (F : Fun K "set_weights" "Detector.set_weights" s_Detector_set_weights f fd) (T : Clx K Z.CD detNames) (nL : IntAt mg "LEAST_WEIGHT" (-32768)) (nG : IntAt mg "GREATEST_WEIGHT" 32767)
    (dA : Def P w K mg base (L2.CX P w) "check_all" 2 ["values", "least", "greatest"] (sp_check_all K CO)) : FnOk P w K mg base (L2.CX P w) 3 f fd ["self", "energy_weights", "time_weights"] (sp_set_weights Z CO) := by
  have nd := sc_set_weights.nd
  refine F.okX sc_set_weights (fun vs H Q E h => ?_) (fun cdv A outer s H vs Q E hr h => ?_)
  · obtain ⟨_, _, _, _, _, _, _, _, _, rfl, _⟩ := h
    rfl
  · obtain ⟨M, d, g, r, a, b, h, ws, us, rfl, D, ha, hb, na, nb, qe, q⟩ := h
    refine ⟨_, pss_cons (ps_expr (pe_defX dA hr (takes_of rfl rfl rfl rfl) (pa_cons (pv 1) (pa_cons (pe_num nL) (pa_cons (pe_num nG) pa_nil)))))
      (pss_cons (ps_expr (pe_defX dA hr (takes_of rfl rfl rfl rfl) (pa_cons (pv 2) (pa_cons (pe_num nL) (pa_cons (pe_num nG) pa_nil)))))
      (pss_cons (ps_fld (pv 0) (pv 1) rfl) (pss_one (ps_fld (pv 0) (pv 2) rfl)))), ?_⟩
    refine ⟨_, rfl, a, ws, _, _, rfl, SqL.of ha, fun g1 => ?_, fun g1 => qe fun z => g1 z.1⟩
    refine ⟨_, rfl, b, us, _, _, rfl, SqL.of hb, fun g2 => ?_, fun g2 => qe fun z => g2 z.2⟩
    obtain ⟨ew, tw, cl, jl, gs, rs, c⟩ := D.core
    obtain ⟨dd, hd⟩ := c.d
    refine ⟨_, rfl, _, rfl, d, Z.CD, dd, _, rfl, hd, T.cl, T.nf _ (by decide +kernel), (by show 9 < 1000; decide), ?_⟩
    refine ⟨_, rfl, _, rfl, d, Z.CD, dd, _, rfl, upd_same, T.cl, T.nf _ (by decide +kernel), (by show 9 < 1000; decide), ?_⟩
    rw [upd_upd]
    exact q ⟨g1, g2⟩ _ (D.fields (ew := a) (tw := b) (h' := { h with w := ws, v := us }) (Same.refl _) rfl rfl (Off.get na ha) (Off.get nb hb) c.c c.j) (fun b o e n => by
      rw [upd_ne (fun z => n (by rw [z]; exact List.mem_singleton.mpr rfl))]
      exact e)
theorem sc_take_pulse : FnScope ["self", "block", "k", "samples", "reading"] ["self", "block", "k", "samples"] (defScope s_Detector_take_pulse) := ⟨rfl, rfl, rfl, by decide +kernel, rfl, by decide +kernel, by decide +kernel⟩
def GoodPulse (b k : Int) (ss : List Int) : Prop := (0 ≤ b ∧ b ≤ 1023) ∧ (0 ≤ k ∧ k ≤ 3) ∧ allIn ss 0 4095
def sp_take_pulse (K : PySem.W.Frag) (Z : Cls4) (CO : Addr) : Sp := fun vs H Q E => ∃ (M : List Addr) (d g r l : Addr) (h : Sj24.House) (b k : Int) (ss : List Int), vs = [.ref d, .int b, .int k, .ref l] ∧ DetAt Z M H d g r h ∧ HouseOk h ∧ SqL K H l (ss.map V.int) ∧ ss.length = 8 ∧
  (¬ GoodPulse b k ss → E (.ref CO) none H) ∧
  (GoodPulse b k ss → ∀ (H' : Hp) (x : Addr), DetAt Z M H' d g r { h with blocks := h.blocks.set b.toNat (Sj24.weighed h (h.gains.getD k.toNat Sj24.gain1) ss) } → Keep [r] H H' → ReadAt Z.CR H' x (Sj24.weighed h (h.gains.getD k.toNat Sj24.gain1) ss) → Q (.ref x) H')
theorem ok_take_pulse (F : Fun K "take_pulse" "Detector.take_pulse" s_Detector_take_pulse f fd) (T : Clx K Z.CD detNames) (nB : IntAt mg "BLOCKS" 1024) (nG : IntAt mg "GAINS" 4) (n4095 : IntAt mg "GREATEST_SAMPLE" 4095)
    (dR : Def P w K mg base (L2.CX P w) "check_range" 1 ["value", "least", "greatest"] (sp_check_range CO)) (dA : Def P w K mg base (L2.CX P w) "check_all" 2 ["values", "least", "greatest"] (sp_check_all K CO))
    (dW : Def P w K mg base CX0 "weigh" 3 ["samples", "gain", "energy_weights", "time_weights"] (sp_weigh K Z.CG Z.CR)) : FnOk P w K mg base (L2.CX P w) 4 f fd ["self", "block", "k", "samples"] (sp_take_pulse K Z CO) := by
  have nd := sc_take_pulse.nd
  refine F.okX sc_take_pulse (fun vs H Q E h => ?_) (fun cdv A outer s H vs Q E hr h => ?_)
  · obtain ⟨_, _, _, _, _, _, _, _, _, rfl, _⟩ := h
    rfl
  · obtain ⟨M, d, g, r, l, h, b, k, ss, rfl, D, O, hl, ln, qe, q⟩ := h
    refine ⟨_, pss_cons (ps_expr (pe_defX dR hr (takes_of rfl rfl rfl rfl) (pa_cons (pv 1) (pa_cons pe_int (pa_cons (pe_op op_sub (pe_num nB) pe_int) pa_nil)))))
      (pss_cons (ps_expr (pe_defX dR hr (takes_of rfl rfl rfl rfl) (pa_cons (pv 2) (pa_cons pe_int (pa_cons (pe_op op_sub (pe_num nG) pe_int) pa_nil)))))
      (pss_cons (ps_expr (pe_defX dA hr (takes_of rfl rfl rfl rfl) (pa_cons (pv 3) (pa_cons pe_int (pa_cons (pe_num n4095) pa_nil)))))
      (pss_cons (ps_set (i := 4) nd rfl (.inl rfl) (pe_def dW hr (pa_cons (pv 3) (pa_cons (pe_ix ix_list (pe_at (pv 0)) (pv 2) (fun _ _ => rfl)) (pa_cons (pe_at (pv 0)) (pa_cons (pe_at (pv 0)) pa_nil))))))
      (pss_cons (ps_asg (pv 4) (pg_sub (pe_at (pv 0)) (pv 1) set_list))
      (pss_one (ps_ret (pv 4))))))), ?_⟩
    refine ⟨_, rfl, _, _, rfl, rfl, _, _, _, rfl, fun g1 => ?_, fun g1 => qe fun z => g1 z.1⟩
    refine ⟨_, rfl, _, _, rfl, rfl, _, _, _, rfl, fun g2 => ?_, fun g2 => qe fun z => g2 z.2.1⟩
    refine ⟨_, rfl, l, ss, _, _, rfl, hl, fun g3 => ?_, fun g3 => qe fun z => g3 z.2.2⟩
    have q := q ⟨g1, g2, g3⟩
    obtain ⟨ew, tw, cl, jl, gs, rs, c⟩ := D.core
    obtain ⟨dd, hd⟩ := c.d
    obtain ⟨j, rfl⟩ : ∃ j : Nat, k = (j : Int) := ⟨k.toNat, (Int.toNat_of_nonneg g2.1).symm⟩
    obtain ⟨n, rfl⟩ : ∃ n : Nat, b = (n : Int) := ⟨b.toNat, (Int.toNat_of_nonneg g1.1).symm⟩
    have hj4 : j < 4 := by omega
    have nl : n < 1024 := by omega
    have hG : h.gains[j]? = some (h.gains.getD j Sj24.gain1) := by
      rw [List.getD_eq_getElem?_getD, List.getElem?_eq_getElem (by rw [O.gl]; exact hj4)]
      rfl
    obtain ⟨ga, hga⟩ := at_len (l := h.gains) (m := gs) c.gl hG
    have gat := (c.ga j ga _ hga hG).same Off.sub
    refine ⟨_, rfl, _, rfl, d, Z.CD, dd, _, _, rfl, hd, T.cl, T.nf _ (by decide +kernel), rfl, _, rfl, g, _, _, _, rfl, rfl, SqL.of c.g, at_of rfl (by rw [List.getElem?_map, hga]; rfl),
      _, rfl, d, Z.CD, dd, _, _, rfl, hd, T.cl, T.nf _ (by decide +kernel), rfl, _, rfl, d, Z.CD, dd, _, _, rfl, hd, T.cl, T.nf _ (by decide +kernel), rfl, ?_⟩
    refine ⟨l, ga, ew, tw, ss, h.w, h.v, _, rfl, hl, gat, SqL.of (Off.sub _ _ c.w), SqL.of (Off.sub _ _ c.v), ⟨ln, g3⟩, O.g _ (List.mem_of_getElem? hG), O.w, O.v, fun H1 x S1 nx R1 => ?_⟩
    refine ⟨_, rfl, _, rfl, d, Z.CD, dd, _, _, rfl, S1 _ _ hd, T.cl, T.nf _ (by decide +kernel), rfl, _, rfl, r, _, _, n, rfl, rfl, S1 _ _ c.r, ixN_nat (by rw [List.length_map, c.rl, O.bl]; exact nl), ?_⟩
    refine ⟨_, rfl, ?_⟩
    have D2 := D.setBlock (j := n) S1 nx R1 c.r
    refine q _ x D2 (fun b o e n => ?_) ?_
    · rw [upd_ne (fun z => n (by rw [z]; exact List.mem_singleton.mpr rfl))]
      exact S1 _ _ e
    · obtain ⟨dx, e⟩ := R1
      refine ⟨dx, ?_⟩
      rw [upd_ne (ne_of e (S1 _ _ c.r) (by intro z; cases z))]
      exact e
theorem sc_reading_of : FnScope ["self", "block"] ["self", "block"] (defScope s_Detector_reading_of) := ⟨rfl, rfl, rfl, by decide +kernel, rfl, by decide +kernel, by decide +kernel⟩
def sp_reading_of (Z : Cls4) (CO : Addr) : Sp := fun vs H Q E => ∃ (M : List Addr) (d g r : Addr) (h : Sj24.House) (b : Int), vs = [.ref d, .int b] ∧ DetAt Z M H d g r h ∧ HouseOk h ∧
  (¬ (0 ≤ b ∧ b ≤ 1023) → E (.ref CO) none H) ∧ ((0 ≤ b ∧ b ≤ 1023) → ∀ x, ReadAt Z.CR H x (h.block b.toNat) → Q (.ref x) H)
theorem DetAt.blocks {M : List Addr} {H : Hp} {d g r : Addr} {h : Sj24.House} (D : DetAt Z M H d g r h) : BlocksAt Z.CR H r h.blocks := by
  obtain ⟨ew, tw, cl, jl, gs, rs, c⟩ := D.core
  exact ⟨rs, c.rl, c.r, fun i x b hx hb => (c.ra i x b hx hb).same Off.sub⟩
theorem ok_reading_of (F : Fun K "reading_of" "Detector.reading_of" s_Detector_reading_of f fd) (T : Clx K Z.CD detNames) (nB : IntAt mg "BLOCKS" 1024)
    (dR : Def P w K mg base (L2.CX P w) "check_range" 1 ["value", "least", "greatest"] (sp_check_range CO)) : FnOk P w K mg base (L2.CX P w) 2 f fd ["self", "block"] (sp_reading_of Z CO) := by
  refine F.okX sc_reading_of (fun vs H Q E h => ?_) (fun cdv A outer s H vs Q E hr h => ?_)
  · obtain ⟨_, _, _, _, _, _, rfl, _⟩ := h
    rfl
  · obtain ⟨M, d, g, r, h, b, rfl, D, O, qe, q⟩ := h
    refine ⟨_, pss_cons (ps_expr (pe_defX dR hr (takes_of rfl rfl rfl rfl) (pa_cons (pv 1) (pa_cons pe_int (pa_cons (pe_op op_sub (pe_num nB) pe_int) pa_nil)))))
      (pss_one (ps_ret (pe_ix ix_list (pe_at (pv 0)) (pv 1) (fun _ _ => rfl)))), ?_⟩
    refine ⟨_, rfl, _, _, rfl, rfl, _, _, _, rfl, fun g1 => ?_, fun g1 => qe fun z => g1 z⟩
    obtain ⟨n, rfl⟩ : ∃ n : Nat, b = (n : Int) := ⟨b.toNat, (Int.toNat_of_nonneg g1.1).symm⟩
    obtain ⟨ew, tw, cl, jl, gs, rs, c⟩ := D.core
    obtain ⟨dd, hd⟩ := c.d
    obtain ⟨xs, x, dx, e1, e2, e3⟩ := D.blocks.at O.bl (k := n) (by omega)
    exact ⟨_, rfl, d, Z.CD, dd, _, _, rfl, hd, T.cl, T.nf _ (by decide +kernel), rfl, _, rfl, r, _, _, _, rfl, rfl, SqL.of e1, at_of rfl e2, q g1 x ⟨dx, e3⟩⟩
theorem sc_present_energies : FnScope ["self", "reading"] ["self"] (defScope s_Detector_present_energies) := ⟨rfl, rfl, rfl, by decide +kernel, rfl, by decide +kernel, by decide +kernel⟩
def sp_present_energies (Z : Cls4) : Sp := fun vs H Q _ => ∃ (M : List Addr) (d g r : Addr) (h : Sj24.House), vs = [.ref d] ∧ DetAt Z M H d g r h ∧ HouseOk h ∧
  ∀ (H' : Hp) (p : Addr), Same H H' → H p = none → H' p = some (.lst ((esOf h).map V.int)) → Q (.ref p) H'
theorem ok_present_energies (F : Fun K "present_energies" "Detector.present_energies" s_Detector_present_energies f fd) (T : Clx K Z.CD detNames) (TR : Clx K Z.CR ["energy", "time", "full"]) : FnOk P w K mg base CX0 1 f fd ["self"] (sp_present_energies Z) := by
  have nd := sc_present_energies.nd
  refine F.ok sc_present_energies (fun vs H Q E h => ?_) (fun cdv A outer s H vs Q E hr h => ?_)
  · obtain ⟨_, _, _, _, _, rfl, _⟩ := h
    rfl
  · obtain ⟨M, d, g, r, h, rfl, D, O, q⟩ := h
    refine ⟨_, pss_one (ps_ret (pe_lc (own := [("reading", 1)]) (g := gName 1) (tt := tYes) (te := tFld K (tVar 1) "energy") rfl nd (pi_list (pe_at (pv 0)))
        (blkOk_by (own := [("reading", 1)]) (N := ["self", "reading"]) (sc := defScope s_Detector_present_energies) (by decide +kernel))
        (fun _ _ _ _ _ => pg_name (i := 1) nd rfl (.inl rfl)) (fun _ _ _ _ _ => pts_nil) (fun _ _ _ _ _ => pe_at (pv 1)))), ?_⟩
    obtain ⟨ew, tw, cl, jl, gs, rs, c⟩ := D.core
    obtain ⟨dd, hd⟩ := c.d
    have B := D.blocks
    refine ⟨_, rfl, d, Z.CD, dd, _, _, rfl, hd, T.cl, T.nf _ (by decide +kernel), rfl, r, rfl, ⟨_, SqL.of c.r⟩, fun L hL => lc_mapL (K := K) (ys := (esOf h).map V.int) hL (SqL.of c.r) (by rw [es_len, List.length_map, c.rl, O.bl]) (by rw [List.length_map, c.rl, O.bl]; decide) ?_ ?_⟩
    · intro i x y H1 R hx hy S1 k
      have hi : i < 1024 := by
        have := (List.getElem?_eq_some_iff.mp hx).1
        rw [List.length_map, c.rl, O.bl] at this
        exact this
      obtain ⟨xs, a, dx, e1, e2, e3⟩ := (B.same S1).at O.bl hi
      have ey : y = V.int (h.e i) := Option.some.inj (hy.symm.trans (esAt hi))
      have ex : x = V.ref a := by
        have := (S1 _ _ c.r).symm.trans e1
        injection this with this
        injection this with this
        rw [this] at hx
        exact Option.some.inj (hx.symm.trans e2)
      subst ey ex
      exact ⟨rfl, _, rfl, a, Z.CR, dx, _, _, rfl, e3, TR.cl, TR.nf _ (by decide +kernel), rfl, k _ (Same.refl _)⟩
    · exact fun H1 S1 L1 => q H1 L S1 hL L1
/-- what was written and is written again -/
theorem upd_over {H : Hp} {d x : Addr} {a b o : HO} (n : x ≠ d) : upd (upd (upd H d a) x o) d b = upd (upd H x o) d b := by
  funext c
  unfold upd
  by_cases h1 : c = d
  · rw [if_pos h1, if_pos h1]
  · rw [if_neg h1, if_neg h1]
    by_cases h2 : c = x
    · rw [if_pos h2]
      exact (if_neg h1).symm
    · rw [if_neg h2]
      exact (if_neg h1).symm
theorem sc_find_clusters : FnScope ["self"] ["self"] (defScope s_Detector_find_clusters) := ⟨rfl, rfl, rfl, by decide +kernel, rfl, by decide +kernel, by decide +kernel⟩
def sp_find_clusters (Z : Cls4) : Sp := fun vs H Q _ => ∃ (M : List Addr) (d g r : Addr) (h : Sj24.House), vs = [.ref d] ∧ DetAt Z M H d g r h ∧ HouseOk h ∧
  ∀ H', DetAt Z M H' d g r { h with clusters := Sj24.clustersOf h, jets := [] } → Keep [d] H H' → Q (.int ((Sj24.clustersOf h).length : Int)) H'
theorem ok_find_clusters (F : Fun K "find_clusters" "Detector.find_clusters" s_Detector_find_clusters f fd) (T : Clx K Z.CD detNames) (mLen : mg "len" = none) (mE : MDef P w K mg base CX0 Z.CD "present_energies" 1 ["self"] (sp_present_energies Z))
    (dC : Def P w K mg base CX0 "clusters_of" 5 ["energies", "seed", "low"] (sp_clusters_of K Z.CC)) : FnOk P w K mg base CX0 6 f fd ["self"] (sp_find_clusters Z) := by
  have nd := sc_find_clusters.nd
  refine F.ok sc_find_clusters (fun vs H Q E h => ?_) (fun cdv A outer s H vs Q E hr h => ?_)
  · obtain ⟨_, _, _, _, _, rfl, _⟩ := h
    rfl
  · obtain ⟨M, d, g, r, h, rfl, D, O, q⟩ := h
    refine ⟨_, pss_cons (ps_fld (pv 0) (pe_def dC hr (pa_cons (pe_methN mE T.cl hr (pv 0)) (pa_cons (pe_at (pv 0)) (pa_cons (pe_at (pv 0)) pa_nil)))) rfl)
      (pss_cons (ps_fld (pv 0) (pe_lst pa_nil) rfl)
      (pss_one (ps_ret (pe_callB call_len_seq (by rfl) mLen (by decide +kernel) (pa_cons (pe_at (pv 0)) pa_nil))))), ?_⟩
    obtain ⟨ew, tw, cl, jl, gs, rs, c⟩ := D.core
    obtain ⟨dd, hd⟩ := c.d
    refine ⟨_, rfl, d, dd, _, rfl, hd, rfl, M, d, g, r, h, rfl, D, O, fun H1 L S1 nL L1 => ?_⟩
    have hd1 := S1 _ _ hd
    refine ⟨_, rfl, d, Z.CD, dd, _, _, rfl, hd1, T.cl, T.nf _ (by decide +kernel), rfl, _, rfl, d, Z.CD, dd, _, _, rfl, hd1, T.cl, T.nf _ (by decide +kernel), rfl, h, L, rfl, O.eok, SqL.of L1, fun H2 p S2 np C2 => ?_⟩
    have hd2 := S2 _ _ hd1
    have D1 := D.same S1
    have C3 := C2.same (Off.new D1.all)
    refine ⟨_, rfl, d, Z.CD, dd, _, rfl, hd2, T.cl, T.nf _ (by decide +kernel), (by show 9 < 1000; decide), ?_⟩
    refine ⟨(by show 0 ≤ sizeLine; omega), fun J nJ => ?_⟩
    have Jd : J ≠ d := fun z => by
      rw [z, upd_same] at nJ
      cases nJ
    have nJ2 : H2 J = none := by
      rw [upd_ne Jd] at nJ
      exact nJ
    have S3 : Same H2 (upd H2 J (.lst [])) := Same.new nJ2
    have S := (S1.trans S2).trans S3
    refine ⟨_, rfl, d, Z.CD, dd, _, rfl, (by rw [upd_ne (fun z => Jd z.symm)]; exact upd_same), T.cl, T.nf _ (by decide +kernel), (by show 9 < 1000; decide), ?_⟩
    have C4 := C3.same (Off.keep (N := []) (Keep.of_same S3) (by simp))
    have JM : J ∉ M := fun z => (D.same (S1.trans S2)).all J z nJ2
    have D3 := D.fields (dx := dd) (ew := ew) (tw := tw) (h' := { h with clusters := Sj24.clustersOf h, jets := [] }) S rfl rfl ((Off.keep (N := []) (Keep.of_same S) (by simp)) _ _ c.w) ((Off.keep (N := []) (Keep.of_same S) (by simp)) _ _ c.v) C4 (JetsAt.nil (Off.get JM upd_same))
    have ef := upd_over (H := H2) (a := .ins Z.CD dd (dF { h with clusters := Sj24.clustersOf h } g ew tw r p jl)) (b := .ins Z.CD dd (dF { h with clusters := Sj24.clustersOf h, jets := [] } g ew tw r p J)) (o := .lst []) Jd
    have fin : ∀ Hf, Hf = upd (upd H2 J (.lst [])) d (.ins Z.CD dd (dF { h with clusters := Sj24.clustersOf h, jets := [] } g ew tw r p J)) → tRet (fun σ H Q => tCons (tFld K (tVar 0) "clusters") tNil σ H fun xs H => ∃ (p : Addr) (ys : List V), xs = [.ref p] ∧ (SqL K H p ys ∨ SqT K H p ys) ∧ Q (.int (ys.length : Int)) H) { nx := fun _ H' => Q .non H', rt := Q } [some (.ref d)] Hf := fun Hf e => by
      subst e
      obtain ⟨xs, l1, l2, l3⟩ := C4
      have l2' := Off.sub _ _ l2
      refine ⟨_, rfl, d, Z.CD, dd, _, _, rfl, upd_same, T.cl, T.nf _ (by decide +kernel), rfl, p, xs.map V.ref, rfl, .inl (SqL.of ?_), ?_⟩
      · rw [upd_ne (ne_of l2' (S3 _ _ hd2) (by intro z; cases z))]
        exact l2'
      · rw [List.length_map, l1]
        exact q _ D3 (fun b o e n => by
          rw [upd_ne (fun z => n (by rw [z]; exact List.mem_singleton.mpr rfl))]
          exact S _ _ e)
    exact fin _ ef
theorem sc_cluster_at : FnScope ["self", "number"] ["self", "number"] (defScope s_Detector_cluster_at) := ⟨rfl, rfl, rfl, by decide +kernel, rfl, by decide +kernel, by decide +kernel⟩
def sp_cluster_at (Z : Cls4) (CO : Addr) : Sp := fun vs H Q E => ∃ (M : List Addr) (d g r : Addr) (h : Sj24.House) (b : Int), vs = [.ref d, .int b] ∧ DetAt Z M H d g r h ∧
  (¬ (0 ≤ b ∧ b ≤ (h.clusters.length : Int) - 1) → E (.ref CO) none H) ∧ ((0 ≤ b ∧ b ≤ (h.clusters.length : Int) - 1) → ∀ x c, h.clusters[b.toNat]? = some c → CluAt Z.CC H x c → Q (.ref x) H)
theorem ok_cluster_at (F : Fun K "cluster_at" "Detector.cluster_at" s_Detector_cluster_at f fd) (T : Clx K Z.CD detNames) (mLen : mg "len" = none)
    (dR : Def P w K mg base (L2.CX P w) "check_range" 1 ["value", "least", "greatest"] (sp_check_range CO)) : FnOk P w K mg base (L2.CX P w) 2 f fd ["self", "number"] (sp_cluster_at Z CO) := by
  refine F.okX sc_cluster_at (fun vs H Q E h => ?_) (fun cdv A outer s H vs Q E hr h => ?_)
  · obtain ⟨_, _, _, _, _, _, rfl, _⟩ := h
    rfl
  · obtain ⟨M, d, g, r, h, b, rfl, D, qe, q⟩ := h
    refine ⟨_, pss_cons (ps_expr (pe_defX dR hr (takes_of rfl rfl rfl rfl) (pa_cons (pv 1) (pa_cons pe_int (pa_cons (pe_op op_sub (pe_callB call_len_seq (by rfl) mLen (by decide +kernel) (pa_cons (pe_at (pv 0)) pa_nil)) pe_int) pa_nil)))))
      (pss_one (ps_ret (pe_ix ix_list (pe_at (pv 0)) (pv 1) (fun _ _ => rfl)))), ?_⟩
    obtain ⟨ew, tw, cl, jl, gs, rs, c⟩ := D.core
    obtain ⟨dd, hd⟩ := c.d
    obtain ⟨xs, l1, l2, l3⟩ := c.c
    have l2' := Off.sub _ _ l2
    have e : ((xs.map V.ref).length : Int) - 1 = (h.clusters.length : Int) - 1 := by rw [List.length_map, l1]
    refine ⟨_, rfl, _, rfl, d, Z.CD, dd, _, _, rfl, hd, T.cl, T.nf _ (by decide +kernel), rfl, cl, xs.map V.ref, rfl, .inl (SqL.of l2'), _, _, rfl, rfl, _, _, _, rfl, ?_, ?_⟩
    · rw [e]
      intro g1
      obtain ⟨n, rfl⟩ : ∃ n : Nat, b = (n : Int) := ⟨b.toNat, (Int.toNat_of_nonneg g1.1).symm⟩
      have hn : n < h.clusters.length := by omega
      have hc : h.clusters[n]? = some h.clusters[n] := List.getElem?_eq_getElem hn
      obtain ⟨x, hx⟩ := at_len (l := h.clusters) (m := xs) l1 hc
      exact ⟨_, rfl, d, Z.CD, dd, _, _, rfl, hd, T.cl, T.nf _ (by decide +kernel), rfl, _, rfl, cl, _, _, _, rfl, rfl, SqL.of l2', at_of rfl (by rw [List.getElem?_map, hx]; rfl), q g1 x _ hc ((l3 n x _ hx hc).same Off.sub)⟩
    · rw [e]
      exact fun g1 => qe g1
end
end J
set_option Elab.async false
set_option maxRecDepth 100000
set_option maxHeartbeats 2000000
namespace J
open PySem PySem.Spec PyProof.Rows L2 LamX
section
variable {P : Program} {w : World} {K : PySem.W.Frag} {mg : Str → Option Value} {base : Heap} {f CO T : Addr} {Z : Cls4} {fd : FuncData}
theorem sc_jet_at : FnScope ["self", "number"] ["self", "number"] (defScope s_Detector_jet_at) := ⟨rfl, rfl, rfl, by decide +kernel, rfl, by decide +kernel, by decide +kernel⟩
def sp_jet_at (Z : Cls4) (CO : Addr) : Sp := fun vs H Q E => ∃ (M : List Addr) (d g r : Addr) (h : Sj24.House) (b : Int), vs = [.ref d, .int b] ∧ DetAt Z M H d g r h ∧
  (¬ (0 ≤ b ∧ b ≤ (h.jets.length : Int) - 1) → E (.ref CO) none H) ∧ ((0 ≤ b ∧ b ≤ (h.jets.length : Int) - 1) → ∀ x j, h.jets[b.toNat]? = some j → JetAt Z.CJ H x j → Q (.ref x) H)
theorem ok_jet_at (F : Fun K "jet_at" "Detector.jet_at" s_Detector_jet_at f fd) (TD : Clx K Z.CD detNames) (mLen : mg "len" = none)
    (dR : Def P w K mg base (L2.CX P w) "check_range" 1 ["value", "least", "greatest"] (sp_check_range CO)) : FnOk P w K mg base (L2.CX P w) 2 f fd ["self", "number"] (sp_jet_at Z CO) := by
  refine F.okX sc_jet_at (fun vs H Q E h => ?_) (fun cdv A outer s H vs Q E hr h => ?_)
  · obtain ⟨_, _, _, _, _, _, rfl, _⟩ := h
    rfl
  · obtain ⟨M, d, g, r, h, b, rfl, D, qe, q⟩ := h
    refine ⟨_, pss_cons (ps_expr (pe_defX dR hr (takes_of rfl rfl rfl rfl) (pa_cons (pv 1) (pa_cons pe_int (pa_cons (pe_op op_sub (pe_callB call_len_seq (by rfl) mLen (by decide +kernel) (pa_cons (pe_at (pv 0)) pa_nil)) pe_int) pa_nil)))))
      (pss_one (ps_ret (pe_ix ix_list (pe_at (pv 0)) (pv 1) (fun _ _ => rfl)))), ?_⟩
    obtain ⟨ew, tw, cl, jl, gs, rs, c⟩ := D.core
    obtain ⟨dd, hd⟩ := c.d
    obtain ⟨xs, l1, l2, l3⟩ := c.j
    have l2' := Off.sub _ _ l2
    have e : ((xs.map V.ref).length : Int) - 1 = (h.jets.length : Int) - 1 := by rw [List.length_map, l1]
    refine ⟨_, rfl, _, rfl, d, Z.CD, dd, _, _, rfl, hd, TD.cl, TD.nf _ (by decide +kernel), rfl, jl, xs.map V.ref, rfl, .inl (SqL.of l2'), _, _, rfl, rfl, _, _, _, rfl, ?_, ?_⟩
    · rw [e]
      intro g1
      obtain ⟨n, rfl⟩ : ∃ n : Nat, b = (n : Int) := ⟨b.toNat, (Int.toNat_of_nonneg g1.1).symm⟩
      have hn : n < h.jets.length := by omega
      have hc : h.jets[n]? = some h.jets[n] := List.getElem?_eq_getElem hn
      obtain ⟨x, hx⟩ := at_len (l := h.jets) (m := xs) l1 hc
      exact ⟨_, rfl, d, Z.CD, dd, _, _, rfl, hd, TD.cl, TD.nf _ (by decide +kernel), rfl, _, rfl, jl, _, _, _, rfl, rfl, SqL.of l2', at_of rfl (by rw [List.getElem?_map, hx]; rfl), q g1 x _ hc ((l3 n x _ hx hc).same Off.sub)⟩
    · rw [e]
      exact fun g1 => qe g1
theorem sc_energy_sums : FnScope ["self", "energies", "total", "inside"] ["self"] (defScope s_Detector_energy_sums) := ⟨rfl, rfl, rfl, by decide +kernel, rfl, by decide +kernel, by decide +kernel⟩
def sp_energy_sums (Z : Cls4) : Sp := fun vs H Q _ => ∃ (M : List Addr) (d g r : Addr) (h : Sj24.House), vs = [.ref d] ∧ DetAt Z M H d g r h ∧ HouseOk h ∧
  ∀ (H' : Hp) (p : Addr), Same H H' → H p = none → H' p = some (.tup [.int (Sj24.total h), .int (Sj24.total h - Sj24.outside h), .int (Sj24.outside h)]) → Q (.ref p) H'
theorem ok_energy_sums (F : Fun K "energy_sums" "Detector.energy_sums" s_Detector_energy_sums f fd) (TD : Clx K Z.CD detNames) (mSum : mg "sum" = none) (mE : MDef P w K mg base CX0 Z.CD "present_energies" 1 ["self"] (sp_present_energies Z))
    (dI : Def P w K mg base CX0 "energy_inside" 5 ["energies", "seed", "low"] (sp_energy_inside K)) : FnOk P w K mg base CX0 6 f fd ["self"] (sp_energy_sums Z) := by
  have nd := sc_energy_sums.nd
  refine F.ok sc_energy_sums (fun vs H Q E h => ?_) (fun cdv A outer s H vs Q E hr h => ?_)
  · obtain ⟨_, _, _, _, _, rfl, _⟩ := h
    rfl
  · obtain ⟨M, d, g, r, h, rfl, D, O, q⟩ := h
    refine ⟨_, pss_cons (ps_set (i := 1) nd rfl (.inl rfl) (pe_methN mE TD.cl hr (pv 0)))
      (pss_cons (ps_set (i := 2) nd rfl (.inl rfl) (pe_callB (cr_sum rfl) (by rfl) mSum (by decide +kernel) (pa_cons (pv 1) pa_nil)))
      (pss_cons (ps_set (i := 3) nd rfl (.inl rfl) (pe_def dI hr (pa_cons (pv 1) (pa_cons (pe_at (pv 0)) (pa_cons (pe_at (pv 0)) pa_nil)))))
      (pss_one (ps_ret (pe_tup (pa_cons (pv 2) (pa_cons (pv 3) (pa_cons (pe_op op_sub (pv 2) (pv 3)) pa_nil)))))))), ?_⟩
    obtain ⟨ew, tw, cl, jl, gs, rs, c⟩ := D.core
    obtain ⟨dd, hd⟩ := c.d
    refine ⟨_, rfl, d, dd, _, rfl, hd, rfl, M, d, g, r, h, rfl, D, O, fun H1 L S1 nL L1 => ?_⟩
    refine ⟨_, rfl, L, _, rfl, SqL.of L1, ?_⟩
    have hd1 := S1 _ _ hd
    refine ⟨_, rfl, _, rfl, d, Z.CD, dd, _, _, rfl, hd1, TD.cl, TD.nf _ (by decide +kernel), rfl, _, rfl, d, Z.CD, dd, _, _, rfl, hd1, TD.cl, TD.nf _ (by decide +kernel), rfl, h, L, rfl, SqL.of L1, fun H2 S2 => ?_⟩
    refine ⟨_, rfl, _, rfl, _, rfl, _, rfl, _, _, rfl, rfl, (by show 3 ≤ sizeLine; decide), fun p np => ?_⟩
    have et : (esOf h).sum = Sj24.total h := sum_eq _
    have ei := JM.inside_is h
    have eo : Sj24.total h - (Sj24.total h - Sj24.outside h) = Sj24.outside h := by omega
    refine q _ p (S1.trans (S2.trans (Same.new np))) (S1.free (S2.free np)) ?_
    rw [upd_same, et, ei]
    show some (HO.tup [_, _, V.int (Sj24.total h - (Sj24.total h - Sj24.outside h))]) = _
    rw [eo]
theorem sc_window_of : FnScope ["self", "width", "height"] ["self", "width", "height"] (defScope s_Detector_window_of) := ⟨rfl, rfl, rfl, by decide +kernel, rfl, by decide +kernel, by decide +kernel⟩
def GoodWindow (a b : Int) : Prop := (1 ≤ a ∧ a ≤ 32) ∧ 1 ≤ b ∧ b ≤ 32
def sp_window_of (Z : Cls4) (CO : Addr) : Sp := fun vs H Q E => ∃ (M : List Addr) (d g r : Addr) (h : Sj24.House) (a b : Int), vs = [.ref d, .int a, .int b] ∧ DetAt Z M H d g r h ∧ HouseOk h ∧ (¬ GoodWindow a b → E (.ref CO) none H) ∧
  (GoodWindow a b → ∀ (H' : Hp) (p : Addr), Same H H' → H p = none → H' p = some (.tup [.int ((Sj24.best h a.toNat b.toNat).1 : Int), .int (Sj24.best h a.toNat b.toNat).2]) → Q (.ref p) H')
theorem ok_window_of (F : Fun K "window_of" "Detector.window_of" s_Detector_window_of f fd) (TD : Clx K Z.CD detNames) (nS : IntAt mg "SIDE" 32) (mE : MDef P w K mg base CX0 Z.CD "present_energies" 1 ["self"] (sp_present_energies Z))
    (dR : Def P w K mg base (L2.CX P w) "check_range" 1 ["value", "least", "greatest"] (sp_check_range CO)) (dW : Def P w K mg base CX0 "greatest_window" 2 ["energies", "width", "height"] (sp_greatest_window K)) : FnOk P w K mg base (L2.CX P w) 3 f fd ["self", "width", "height"] (sp_window_of Z CO) := by
  refine F.okX sc_window_of (fun vs H Q E h => ?_) (fun cdv A outer s H vs Q E hr h => ?_)
  · obtain ⟨_, _, _, _, _, _, _, rfl, _⟩ := h
    rfl
  · obtain ⟨M, d, g, r, h, a, b, rfl, D, O, qe, q⟩ := h
    refine ⟨_, pss_cons (ps_expr (pe_defX dR hr (takes_of rfl rfl rfl rfl) (pa_cons (pv 1) (pa_cons pe_int (pa_cons (pe_num nS) pa_nil)))))
      (pss_cons (ps_expr (pe_defX dR hr (takes_of rfl rfl rfl rfl) (pa_cons (pv 2) (pa_cons pe_int (pa_cons (pe_num nS) pa_nil)))))
      (pss_one (ps_ret (pe_def dW hr (pa_cons (pe_methN mE TD.cl hr (pv 0)) (pa_cons (pv 1) (pa_cons (pv 2) pa_nil))))))), ?_⟩
    refine ⟨_, rfl, _, _, _, rfl, fun g1 => ?_, fun g1 => qe fun z => g1 z.1⟩
    refine ⟨_, rfl, _, _, _, rfl, fun g2 => ?_, fun g2 => qe fun z => g2 z.2⟩
    have q := q ⟨g1, g2⟩
    obtain ⟨ew, tw, cl, jl, gs, rs, c⟩ := D.core
    obtain ⟨dd, hd⟩ := c.d
    obtain ⟨n, rfl⟩ : ∃ n : Nat, a = (n : Int) := ⟨a.toNat, (Int.toNat_of_nonneg (by omega)).symm⟩
    obtain ⟨k, rfl⟩ : ∃ k : Nat, b = (k : Int) := ⟨b.toNat, (Int.toNat_of_nonneg (by omega)).symm⟩
    refine ⟨_, rfl, d, dd, _, rfl, hd, rfl, M, d, g, r, h, rfl, D, O, fun H1 L S1 nL L1 => ?_⟩
    refine ⟨_, rfl, _, rfl, h, L, n, k, rfl, by omega, by omega, by omega, by omega, fun b => (O.block b).1, SqL.of L1, fun H2 p S2 np hp => ?_⟩
    exact q _ p (S1.trans S2) (S1.free np) hp
theorem sc_find_jets : FnScope ["self"] ["self"] (defScope s_Detector_find_jets) := ⟨rfl, rfl, rfl, by decide +kernel, rfl, by decide +kernel, by decide +kernel⟩
/-- the jets as the calls number them -/
def jetsNow (h : Sj24.House) : List Sj24.Jet := Sj24.ordered (Sj24.jetsOf h.reach h.clusters)
def sp_find_jets (Z : Cls4) (T : Addr) : Sp := fun vs H Q _ => ∃ (M : List Addr) (d g r : Addr) (h : Sj24.House), vs = [.ref d] ∧ DetAt Z M H d g r h ∧ HouseOk h ∧ T ∈ M ∧ TabS H T qLam ∧
  ∀ H', DetAt Z M H' d g r { h with jets := jetsNow h } → Keep [d, T] H H' → TabS H' T qLam → Q (.int ((jetsNow h).length : Int)) H'
theorem ok_find_jets (F : Fun K "find_jets" "Detector.find_jets" s_Detector_find_jets f fd) (TD : Clx K Z.CD detNames) (mLen : mg "len" = none) (dJ : Def P w K mg base CX0 "jets_of" 4 ["clusters", "reach"] (sp_jets_of Z.CC Z.CJ T)) :
    FnOk P w K mg base CX0 5 f fd ["self"] (sp_find_jets Z T) := by
  refine F.ok sc_find_jets (fun vs H Q E h => ?_) (fun cdv A outer s H vs Q E hr h => ?_)
  · obtain ⟨_, _, _, _, _, rfl, _⟩ := h
    rfl
  · obtain ⟨M, d, g, r, h, rfl, D, O, TM, tab, q⟩ := h
    refine ⟨_, pss_cons (ps_fld (pv 0) (pe_def dJ hr (pa_cons (pe_at (pv 0)) (pa_cons (pe_at (pv 0)) pa_nil))) rfl)
      (pss_one (ps_ret (pe_callB call_len_seq (by rfl) mLen (by decide +kernel) (pa_cons (pe_at (pv 0)) pa_nil)))), ?_⟩
    obtain ⟨ew, tw, cl, jl, gs, rs, c⟩ := D.core
    obtain ⟨dd, hd⟩ := c.d
    obtain ⟨tps, hT, _⟩ := id tab
    have dT : d ≠ T := ne_of hd hT (by intro z; cases z)
    have gT : g ≠ T := ne_of c.g hT (by intro z; cases z)
    have rT : r ≠ T := ne_of c.r hT (by intro z; cases z)
    refine ⟨_, rfl, d, Z.CD, dd, _, _, rfl, hd, TD.cl, TD.nf _ (by decide +kernel), rfl, _, rfl, d, Z.CD, dd, _, _, rfl, hd, TD.cl, TD.nf _ (by decide +kernel), rfl, cl, h.clusters, h.reach, rfl, c.c.same Off.sub, O.cl, O.c, O.r0, O.r1, tab, fun H1 p k1 tab1 np J1 => ?_⟩
    have K1 : Keep [T] H H1 := fun b o e n => k1 b o e fun z => n (by rw [z]; exact List.mem_singleton.mpr rfl)
    obtain ⟨tps1, hT1, _⟩ := id tab1
    have D1 := D.keep K1 (fun x hx => by rw [List.mem_singleton.mp hx]; exact TM) (by simpa using dT) (by simpa using gT) (by simpa using rT) (fun x hx => by rw [List.mem_singleton.mp hx, hT1]; exact fun z => by cases z)
    have hd1 := k1 _ _ hd dT
    have kO : Same (Off M H) (Off M H1) := Off.keep K1 fun x hx => by rw [List.mem_singleton.mp hx]; exact TM
    have J2 : JetsAt Z.CJ (Off M H1) p (jetsNow h) := J1.same (Off.new D.all)
    refine ⟨_, rfl, d, Z.CD, dd, _, rfl, hd1, TD.cl, TD.nf _ (by decide +kernel), (by show 9 < 1000; decide), ?_⟩
    have D3 := D1.fields (dx := dd) (ew := ew) (tw := tw) (h' := { h with jets := jetsNow h }) (Same.refl _) rfl rfl (kO _ _ c.w) (kO _ _ c.v) (c.c.same kO) J2
    obtain ⟨xs, l1, l2, l3⟩ := J2
    have l2' := Off.sub _ _ l2
    have pd : p ≠ d := ne_of l2' hd1 (by intro z; cases z)
    refine ⟨_, rfl, d, Z.CD, dd, _, _, rfl, upd_same, TD.cl, TD.nf _ (by decide +kernel), rfl, p, xs.map V.ref, rfl, .inl (SqL.of ((upd_ne pd).trans l2')), ?_⟩
    rw [List.length_map, l1]
    refine q _ D3 (fun b o e n => ?_) ?_
    · rw [upd_ne (fun z => n (by rw [z]; simp))]
      exact k1 _ _ e fun z => n (by rw [z]; simp)
    · refine ⟨tps1, (upd_ne dT.symm).trans hT1, ?_⟩
      obtain ⟨ps2, e2, e3, e4⟩ := tab1
      rw [hT1] at e2
      cases e2
      refine ⟨e3, fun pos cv hcv => ?_⟩
      obtain ⟨cc, e5, e6⟩ := e4 pos cv hcv
      exact ⟨cc, e5, (upd_ne (ne_of e6 hd1 (by intro z; cases z))).trans e6⟩
theorem sc_clear_blocks : FnScope ["self"] ["self"] (defScope s_Detector_clear_blocks) := ⟨rfl, rfl, rfl, by decide +kernel, rfl, by decide +kernel, by decide +kernel⟩
def clearOf (h : Sj24.House) : Sj24.House := { h with blocks := List.replicate Sj24.BLOCKS Sj24.none_, clusters := [], jets := [] }
def sp_clear_blocks (Z : Cls4) : Sp := fun vs H Q _ => ∃ (M : List Addr) (d g r : Addr) (h : Sj24.House), vs = [.ref d] ∧ DetAt Z M H d g r h ∧
  ∀ (H' : Hp) (r' : Addr), DetAt Z (r' :: M) H' d g r' (clearOf h) → H r' = none → Keep [d] H H' → Q .non H'
theorem ok_clear_blocks (F : Fun K "clear_blocks" "Detector.clear_blocks" s_Detector_clear_blocks f fd) (TD : Clx K Z.CD detNames) (dB : Def P w K mg base CX0 "blank_readings" 3 [] (sp_blank_readings Z.CR)) : FnOk P w K mg base CX0 4 f fd ["self"] (sp_clear_blocks Z) := by
  refine F.ok sc_clear_blocks (fun vs H Q E h => ?_) (fun cdv A outer s H vs Q E hr h => ?_)
  · obtain ⟨_, _, _, _, _, rfl, _⟩ := h
    rfl
  · obtain ⟨M, d, g, r, h, rfl, D, q⟩ := h
    refine ⟨_, pss_cons (ps_fld (pv 0) (pe_def0 dB hr) rfl) (pss_cons (ps_fld (pv 0) (pe_lst pa_nil) rfl) (pss_one (ps_fld (pv 0) (pe_lst pa_nil) rfl))), ?_⟩
    obtain ⟨ew, tw, cl, jl, gs, rs, c⟩ := D.core
    obtain ⟨dd, hd⟩ := c.d
    refine ⟨rfl, fun H1 R xs S1 nR L1 ln A1 => ?_⟩
    have hd1 := S1 _ _ hd
    refine ⟨_, rfl, d, Z.CD, dd, _, rfl, hd1, TD.cl, TD.nf _ (by decide +kernel), (by show 9 < 1000; decide), ?_⟩
    have off : ∀ {h0 : Hp} {o : HO} {x : Addr}, upd h0 d o x = none → x ≠ d ∧ h0 x = none := fun {h0 o x} e => by
      have n : x ≠ d := fun z => by
        rw [z, upd_same] at e
        cases e
      exact ⟨n, by rw [upd_ne n] at e; exact e⟩
    refine ⟨(by show 0 ≤ sizeLine; omega), fun C nC => ?_⟩
    obtain ⟨Cd, nC1⟩ := off nC
    refine ⟨_, rfl, d, Z.CD, dd, _, rfl, (by rw [upd_ne Cd.symm]; exact upd_same), TD.cl, TD.nf _ (by decide +kernel), (by show 9 < 1000; decide), ?_⟩
    refine ⟨(by show 0 ≤ sizeLine; omega), fun J nJ => ?_⟩
    obtain ⟨Jd, nJ1⟩ := off nJ
    have JC : J ≠ C := fun z => by
      rw [z, upd_same] at nJ1
      cases nJ1
    rw [upd_ne JC, upd_ne Jd] at nJ1
    refine ⟨_, rfl, d, Z.CD, dd, _, rfl, (by rw [upd_ne Jd.symm]; exact upd_same), TD.cl, TD.nf _ (by decide +kernel), (by show 9 < 1000; decide), ?_⟩
    have S3 : Same H1 (upd (upd H1 C (.lst [])) J (.lst [])) := (Same.new nC1).trans (Same.new (by rw [upd_ne JC]; exact nJ1))
    have S := S1.trans S3
    have fin : ∀ Hf, Hf = upd (upd (upd H1 C (.lst [])) J (.lst [])) d (.ins Z.CD dd (dF (clearOf h) g ew tw R C J)) → Q .non Hf := fun Hf e => by
      have kf : ∀ b o, upd (upd H1 C (.lst [])) J (.lst []) b = some o → b ≠ d → Hf b = some o := fun b o e1 n => by
        rw [e, upd_ne n]
        exact e1
      have nM : ∀ b, H b = none → b ∉ M := fun b n z => D.all b z n
      have HC : H C = none := S1.free nC1
      have HJ : H J = none := S1.free nJ1
      have Rd : R ≠ d := fun z => by
        rw [z, hd] at nR
        cases nR
      have RC : R ≠ C := ne_of_none L1 nC1
      have RJ : R ≠ J := ne_of_none L1 nJ1
      have offOld : Same (Off M H) (Off (R :: M) Hf) := fun b o e1 => by
        have n := Off.not e1
        have e2 := Off.sub _ _ e1
        refine Off.get (fun z => ?_) (kf _ _ (S _ _ e2) fun z => n (by rw [z]; exact D.dM))
        rcases List.mem_cons.mp z with z | z
        · rw [z, nR] at e2
          cases e2
        · exact n z
      have offNew : ∀ b o, H b = none → b ≠ R → upd (upd H1 C (.lst [])) J (.lst []) b = some o → Off (R :: M) Hf b = some o := fun b o n bR e1 => by
        refine Off.get (fun z => ?_) (kf _ _ e1 fun z => by rw [z, hd] at n; cases n)
        rcases List.mem_cons.mp z with z | z
        · exact bR z
        · exact nM b n z
      have gd : g ≠ d := ne_of c.g hd (by intro z; cases z)
      refine q Hf R ⟨List.mem_cons_of_mem _ D.dM, List.mem_cons_of_mem _ D.gM, List.mem_cons_self, fun z => ?_, fun m hm => ?_, ew, tw, C, J, gs, xs, ?_⟩ nR fun b o e1 n => kf _ _ (S _ _ e1) fun z => n (by rw [z]; exact List.mem_singleton.mpr rfl)
      · rw [← z, c.g] at nR
        cases nR
      · rcases List.mem_cons.mp hm with z | z
        · rw [z, kf _ _ (S3 _ _ L1) Rd]
          exact fun z => by cases z
        · cases q2 : H m with
          | none => exact absurd q2 (D.all m z)
          | some o =>
            by_cases md : m = d
            · rw [md, e, upd_same]
              exact fun z => by cases z
            · rw [kf _ _ (S _ _ q2) md]
              exact fun z => by cases z
      · refine ⟨⟨dd, by rw [e]; exact upd_same⟩, kf _ _ (S _ _ c.g) gd, c.gl, fun i a G h1 h2 => (c.ga i a G h1 h2).same offOld, kf _ _ (S3 _ _ L1) Rd, ?_, fun i a B ha hB => ?_, offOld _ _ c.w, offOld _ _ c.v, ⟨[], rfl, offNew _ _ HC (fun z => RC z.symm) ?_, fun i x cc hx => by simp at hx⟩, JetsAt.nil (offNew _ _ HJ (fun z => RJ z.symm) upd_same)⟩
        · rw [ln]
          show (1024 : Int).toNat = (List.replicate Sj24.BLOCKS Sj24.none_).length
          rw [List.length_replicate]
          rfl
        · have eB : B = Sj24.none_ := List.eq_of_mem_replicate (List.mem_of_getElem? hB)
          subst eB
          obtain ⟨da, e1⟩ := A1 a (List.mem_of_getElem? ha)
          have e2 := New.sub _ _ e1
          refine ⟨da, offNew _ _ (New.free e1) (fun z => ?_) (S3 _ _ e2)⟩
          rw [z, L1] at e2
          cases e2
        · rw [upd_ne JC.symm]
          exact upd_same
    exact fin _ ((congrArg (fun X => upd (upd X J (.lst [])) d _) (upd_over Cd)).trans (upd_over Jd))
end
end J
set_option Elab.async false
set_option maxRecDepth 100000
set_option maxHeartbeats 2000000
namespace J
open PySem PySem.Spec PyProof.Rows L2 LamX
section
variable {P : Program} {w : World} {K : PySem.W.Frag} {mg : Str → Option Value} {base : Heap} {f CO Tb : Addr} {Z : Cls4} {fd : FuncData}
/-- what an answer's def promises: R tells which call it is, by what stands behind its number -/
def spAns (K : PySem.W.Frag) (Z : Cls4) (CO Tb : Addr) (p : Int) : Sp := fun vs H Q E => ∃ (M : List Addr) (d g r gv : Addr) (h : Sj24.House) (as : List Int) (q : Sj24.Call), vs = [.ref d, .ref gv] ∧ DetAt Z M H d g r h ∧ HouseOk h ∧ SqL K H gv (as.map V.int) ∧ Sj24Neutral.callOf (p :: as) = some q ∧ Tb ∈ M ∧ TabS H Tb qLam ∧
  (∀ H', Same H H' → Sj24.on h q = (h, Sj24.just (-2)) → E (.ref CO) none H') ∧
  (∀ (H' : Hp) (a r' : Addr), DetAt Z (r' :: M) H' d g r' (Sj24.on h q).1 → (r' = r ∨ H r' = none) → Keep [d, g, r, Tb] H H' → TabS H' Tb qLam → H a = none → H' a = some (.lst (((Sj24.on h q).2.v :: (Sj24.on h q).2.l).map V.int)) → Q (.ref a) H')
/-- the table stands where no table and no code object is written -/
theorem tab_keep {N : List Addr} {H H' : Hp} {q : Str} (k : Keep N H H') (n : ∀ b ∈ N, ∀ o, H b = some o → (∀ ps, o ≠ .tbl ps) ∧ ∀ c, o ≠ CodeO c q) (t : TabS H Tb q) : TabS H' Tb q := by
  obtain ⟨ps, h1, h2, h3⟩ := t
  refine ⟨ps, k _ _ h1 fun z => (n _ z _ h1).1 ps rfl, h2, fun pos cv hc => ?_⟩
  obtain ⟨c, e1, e2⟩ := h3 pos cv hc
  exact ⟨c, e1, k _ _ e2 fun z => (n _ z _ e2).2 c rfl⟩
theorem DetAt.kinds {M : List Addr} {H : Hp} {d g r : Addr} {h : Sj24.House} (D : DetAt Z M H d g r h) : ∀ b ∈ [d, g, r], ∀ o, H b = some o → (∀ ps, o ≠ .tbl ps) ∧ ∀ c q, o ≠ CodeO c q := by
  obtain ⟨ew, tw, cl, jl, gs, rs, c⟩ := D.core
  obtain ⟨dd, hd⟩ := c.d
  intro b hb o e
  rcases List.mem_cons.mp hb with z | hb
  · rw [z, hd] at e
    cases e
    exact ⟨(fun ps z => by cases z), fun c q z => by cases z⟩
  rcases List.mem_cons.mp hb with z | hb
  · rw [z, c.g] at e
    cases e
    exact ⟨(fun ps z => by cases z), fun c q z => by cases z⟩
  · rw [List.mem_singleton.mp hb, c.r] at e
    cases e
    exact ⟨(fun ps z => by cases z), fun c q z => by cases z⟩
/-- one place more that is there already -/
theorem DetAt.again {M : List Addr} {H : Hp} {d g r : Addr} {h : Sj24.House} (D : DetAt Z M H d g r h) : DetAt Z (r :: M) H d g r h := by
  have eo : Off (r :: M) H = Off M H := by
    funext b
    unfold Off
    by_cases hb : b ∈ M
    · rw [if_pos hb, if_pos (List.mem_cons_of_mem _ hb)]
    · rw [if_neg hb, if_neg fun z => (List.mem_cons.mp z).elim (fun z => hb (by rw [z]; exact D.rM)) hb]
  refine ⟨List.mem_cons_of_mem _ D.dM, List.mem_cons_of_mem _ D.gM, List.mem_cons_self, D.gr, fun m hm => ?_, by rw [eo]; exact D.core⟩
  rcases List.mem_cons.mp hm with z | z
  · rw [z]
    exact D.all r D.rM
  · exact D.all m z
/-- the calls that keep the readings' list and the table -/
theorem old_way {M : List Addr} {H : Hp} {d g r : Addr} {h h' : Sj24.House} {ans : List V} {Q : VK} (D : DetAt Z M H d g r h) (tab : TabS H Tb qLam)
    (kq : ∀ (H' : Hp) (a r' : Addr), DetAt Z (r' :: M) H' d g r' h' → (r' = r ∨ H r' = none) → Keep [d, g, r, Tb] H H' → TabS H' Tb qLam → H a = none → H' a = some (.lst ans) → Q (.ref a) H') :
    ∀ (H' : Hp) (a : Addr), DetAt Z M H' d g r h' → Keep [d, g, r] H H' → H a = none → H' a = some (.lst ans) → Q (.ref a) H' := fun H' a D' k na e =>
  kq H' a r D'.again (.inl rfl) (k.mono fun x hx => by
    rcases List.mem_cons.mp hx with z | hx
    · simp [z]
    rcases List.mem_cons.mp hx with z | hx
    · simp [z]
    · simp [List.mem_singleton.mp hx]) (tab_keep k (fun b hb o e => ⟨(D.kinds b hb o e).1, fun c => (D.kinds b hb o e).2 c _⟩) tab) na e
theorem len_ans {p : Int} {vs : List V} {H : Hp} {Q : VK} {E : XK} (h : spAns K Z CO Tb p vs H Q E) : vs.length = 2 := by
  obtain ⟨_, _, _, _, _, _, _, _, rfl, _⟩ := h
  rfl
theorem at4 {as : List Int} {i : Nat} {z : Int} (h : as[i]? = some z) : atI (as.map V.int) (i : Int) = some (V.int z) := at_of rfl (by rw [List.getElem?_map, h]; rfl)
theorem Keep.free {N : List Addr} {H H' : Hp} {a : Addr} (k : Keep N H H') (all : ∀ x ∈ N, H' x ≠ none) (n : H' a = none) : H a = none := by
  cases e : H a with
  | none => rfl
  | some o =>
    have := k _ _ e fun z => all a z n
    rw [n] at this
    cases this
theorem Keep.one {H H' : Hp} {d g r x : Addr} (k : Keep [x] H H') (h : x = d ∨ x = g ∨ x = r) : Keep [d, g, r] H H' := k.mono fun y hy => by
  rw [List.mem_singleton.mp hy]
  rcases h with h | h | h <;> simp [h]
theorem sc_answer_gain : FnScope ["detector", "given"] ["detector", "given"] (defScope s_answer_gain) := ⟨rfl, rfl, rfl, by decide +kernel, rfl, by decide +kernel, by decide +kernel⟩
theorem ok_answer_gain (F : Fun K "answer_gain" "answer_gain" s_answer_gain f fd) (T : Clx K Z.CD detNames) (D : MDef P w K mg base (L2.CX P w) Z.CD "set_gain" 3 ["self", "k", "mul", "shift", "zero"] (sp_set_gain Z CO)) :
    FnOk P w K mg base (L2.CX P w) 4 f fd ["detector", "given"] (spAns K Z CO Tb 2) := by
  refine F.okX sc_answer_gain (fun vs H Q E h => len_ans h) (fun cdv A outer s H vs Q E hr h => ?_)
  obtain ⟨M, d, g, r, gv, h, as, q, rfl, DA, O, hl, hc, TM, tab, ke, kq⟩ := h
  have kq := old_way DA tab kq
  obtain ⟨k, m, s, z, rfl, rfl⟩ := JM.inv2 hc
  refine ⟨_, pss_cons (ps_expr (pe_methX D T.cl hr (takes_of rfl rfl rfl rfl) (pv 0) (pa_cons (pe_ix ix_list (pv 1) pe_int (fun _ _ => rfl)) (pa_cons (pe_ix ix_list (pv 1) pe_int (fun _ _ => rfl)) (pa_cons (pe_ix ix_list (pv 1) pe_int (fun _ _ => rfl)) (pa_cons (pe_ix ix_list (pv 1) pe_int (fun _ _ => rfl)) pa_nil))))))
    (pss_one (ps_ret (pe_lst (pa_cons pe_int pa_nil)))), ?_⟩
  obtain ⟨ew, tw, cl, jl, gs, rs, c⟩ := DA.core
  obtain ⟨dd, hd⟩ := c.d
  refine ⟨_, rfl, d, dd, _, rfl, hd, rfl, _, rfl, gv, _, _, _, rfl, rfl, hl, at4 (i := 0) rfl, _, rfl, gv, _, _, _, rfl, rfl, hl, at4 (i := 1) rfl, _, rfl, gv, _, _, _, rfl, rfl, hl, at4 (i := 2) rfl, _, rfl, gv, _, _, _, rfl, rfl, hl, at4 (i := 3) rfl,
    M, d, g, r, h, k, m, s, z, rfl, DA, O, fun g1 => ke _ (Same.refl _) (JM.on_gain.trans (if_neg g1)), fun g1 H1 D1 K1 => ?_⟩
  have e : Sj24.on h (.gain k m s z) = _ := JM.on_gain.trans (if_pos g1)
  rw [e] at kq
  refine ⟨(by show 1 ≤ sizeLine; decide), fun a na => kq _ a (D1.same (Same.new na)) ((K1.same (Same.new na)).one (.inr (.inl rfl))) (K1.free (fun x hx => by rw [List.mem_singleton.mp hx]; exact D1.all g D1.gM) na) upd_same⟩
theorem cut_take {xs : List V} {k : Nat} (h : k ≤ xs.length) : cutV xs none (some (k : Int)) = xs.take k := by
  unfold cutV
  rw [HT.sIx_nat, HT.sIx_none, List.drop_zero, Nat.sub_zero, Nat.min_eq_left h]
theorem cut_drop {xs : List V} {k : Nat} (h : k ≤ xs.length) : cutV xs (some (k : Int)) none = xs.drop k := by
  unfold cutV
  rw [HT.sIx_nat, HT.sIx_none, Nat.min_eq_left h]
  exact List.take_of_length_le (by rw [List.length_drop]; exact Nat.le_refl _)
theorem sc_answer_weights : FnScope ["detector", "given"] ["detector", "given"] (defScope s_answer_weights) := ⟨rfl, rfl, rfl, by decide +kernel, rfl, by decide +kernel, by decide +kernel⟩
theorem ok_answer_weights (F : Fun K "answer_weights" "answer_weights" s_answer_weights f fd) (T : Clx K Z.CD detNames) (D : MDef P w K mg base (L2.CX P w) Z.CD "set_weights" 3 ["self", "energy_weights", "time_weights"] (sp_set_weights Z CO)) :
    FnOk P w K mg base (L2.CX P w) 4 f fd ["detector", "given"] (spAns K Z CO Tb 3) := by
  refine F.okX sc_answer_weights (fun vs H Q E h => len_ans h) (fun cdv A outer s H vs Q E hr h => ?_)
  obtain ⟨M, d, g, r, gv, h, as, q, rfl, DA, O, hl, hc, TM, tab, ke, kq⟩ := h
  have kq := old_way DA tab kq
  obtain ⟨ln, rfl⟩ := JM.inv3 hc
  refine ⟨_, pss_cons (ps_expr (pe_methX D T.cl hr (takes_of rfl rfl rfl rfl) (pv 0) (pa_cons (pe_slice sl_list (pv 1) po_none (po_some pe_int)) (pa_cons (pe_slice sl_list (pv 1) (po_some pe_int) po_none) pa_nil))))
    (pss_one (ps_ret (pe_lst (pa_cons pe_int pa_nil)))), ?_⟩
  obtain ⟨ew, tw, cl, jl, gs, rs, c⟩ := DA.core
  obtain ⟨dd, hd⟩ := c.d
  have lw : (as.take 8).length = 8 := by rw [List.length_take, ln]; rfl
  have lu : (as.drop 8).length = 8 := by rw [List.length_drop, ln]
  refine ⟨_, rfl, d, dd, _, rfl, hd, rfl, _, rfl, 8, rfl, gv, _, rfl, hl, fun a na => ?_⟩
  rw [show (some (8 : Int)) = some ((8 : Nat) : Int) from rfl, cut_take (by rw [List.length_map, ln]; decide), ← List.map_take]
  have S1 := Same.new (o := .lst ((as.take 8).map V.int)) na
  refine ⟨_, rfl, 8, rfl, gv, _, rfl, S1.seq hl, fun b nb => ?_⟩
  rw [show (some (8 : Int)) = some ((8 : Nat) : Int) from rfl, cut_drop (by rw [List.length_map, ln]; decide), ← List.map_drop]
  have S2 := S1.trans (Same.new (o := .lst ((as.drop 8).map V.int)) nb)
  have D2 := DA.same S2
  have aM : a ∉ M := fun z => DA.all a z na
  have bM : b ∉ M := fun z => DA.all b z (S1.free nb)
  refine ⟨M, d, g, r, a, b, h, as.take 8, as.drop 8, rfl, D2, Same.new nb _ _ upd_same, upd_same, aM, bM, fun g1 => ke _ S2 ((JM.on_weights lw lu).trans (if_neg g1)), fun g1 H1 D1 K1 => ?_⟩
  have e : Sj24.on h (.weights (as.take 8) (as.drop 8)) = _ := (JM.on_weights lw lu).trans (if_pos g1)
  rw [e] at kq
  refine ⟨(by show 1 ≤ sizeLine; decide), fun p np => kq _ p (D1.same (Same.new np)) (((Keep.of_same S2).trans (K1.same (Same.new np))).one (.inl rfl)) (S2.free (K1.free (fun x hx => by rw [List.mem_singleton.mp hx]; exact D1.all d D1.dM) np)) upd_same⟩
theorem sc_answer_pulse : FnScope ["detector", "given", "reading"] ["detector", "given"] (defScope s_answer_pulse) := ⟨rfl, rfl, rfl, by decide +kernel, rfl, by decide +kernel, by decide +kernel⟩
theorem ok_answer_pulse (F : Fun K "answer_pulse" "answer_pulse" s_answer_pulse f fd) (T : Clx K Z.CD detNames) (TR : Clx K Z.CR ["energy", "time", "full"]) (D : MDef P w K mg base (L2.CX P w) Z.CD "take_pulse" 4 ["self", "block", "k", "samples"] (sp_take_pulse K Z CO)) :
    FnOk P w K mg base (L2.CX P w) 5 f fd ["detector", "given"] (spAns K Z CO Tb 4) := by
  have nd := sc_answer_pulse.nd
  refine F.okX sc_answer_pulse (fun vs H Q E h => len_ans h) (fun cdv A outer s H vs Q E hr h => ?_)
  obtain ⟨M, d, g, r, gv, h, as, q, rfl, DA, O, hl, hc, TM, tab, ke, kq⟩ := h
  have kq := old_way DA tab kq
  obtain ⟨b, k, ss, rfl, ln, rfl⟩ := JM.inv4 hc
  refine ⟨_, pss_cons (ps_set (i := 2) nd rfl (.inl rfl) (pe_methX D T.cl hr (takes_of rfl rfl rfl rfl) (pv 0) (pa_cons (pe_ix ix_list (pv 1) pe_int (fun _ _ => rfl)) (pa_cons (pe_ix ix_list (pv 1) pe_int (fun _ _ => rfl)) (pa_cons (pe_slice sl_list (pv 1) (po_some pe_int) po_none) pa_nil)))))
    (pss_one (ps_ret (pe_lst (pa_cons (pe_ifExp (pt_cmpR op_gt (pe_at (pv 2)) pe_int (nomark _)) pe_int pe_int) pa_nil)))), ?_⟩
  obtain ⟨ew, tw, cl, jl, gs, rs, c⟩ := DA.core
  obtain ⟨dd, hd⟩ := c.d
  refine ⟨_, rfl, d, dd, _, rfl, hd, rfl, _, rfl, gv, _, _, _, rfl, rfl, hl, at4 (i := 0) rfl, _, rfl, gv, _, _, _, rfl, rfl, hl, at4 (i := 1) rfl, _, rfl, 2, rfl, gv, _, rfl, hl, fun a na => ?_⟩
  rw [show (some (2 : Int)) = some ((2 : Nat) : Int) from rfl, cut_drop (by rw [List.length_map]; show 2 ≤ ss.length + 1 + 1; omega)]
  have S1 := Same.new (o := .lst (((b :: k :: ss).map V.int).drop 2)) na
  have D1 := DA.same S1
  refine ⟨M, d, g, r, a, h, b, k, ss, rfl, D1, O, SqL.of upd_same, ln, fun g1 => ke _ S1 ((JM.on_pulse ln).trans (if_neg g1)), fun g1 H1 x D2 K2 ⟨dx, R2⟩ => ?_⟩
  have e : Sj24.on h (.pulse b k ss) = _ := (JM.on_pulse ln).trans (if_pos g1)
  rw [e] at kq
  have done : ∀ z : Int, z = Sj24.bit (decide (0 < (Sj24.weighed h (h.gains.getD k.toNat Sj24.gain1) ss).e)) → 1 ≤ sizeLine ∧ ∀ p, H1 p = none → Q (.ref p) (upd H1 p (.lst [.int z])) := fun z ez => by
    refine ⟨by decide, fun p np => kq _ p (D2.same (Same.new np)) (((Keep.of_same S1).trans (K2.same (Same.new np))).one (.inr (.inr rfl))) (S1.free (K2.free (fun x hx => by rw [List.mem_singleton.mp hx]; exact D2.all r D2.rM) np)) ?_⟩
    rw [ez]
    exact upd_same
  refine ⟨_, rfl, x, Z.CR, dx, _, _, rfl, R2, TR.cl, TR.nf _ (by decide +kernel), rfl, _, _, rfl, rfl, _, rfl, ite2 (fun h1 => ?_) (fun h1 => ?_)⟩
  · exact done 1 (by rw [h1]; rfl)
  · have h1 : decide (0 < (Sj24.weighed h (h.gains.getD k.toNat Sj24.gain1) ss).e) = false := by simpa using h1
    exact done 0 (by rw [h1]; rfl)
theorem sc_answer_block : FnScope ["detector", "given", "reading"] ["detector", "given"] (defScope s_answer_block) := ⟨rfl, rfl, rfl, by decide +kernel, rfl, by decide +kernel, by decide +kernel⟩
theorem ok_answer_block (F : Fun K "answer_block" "answer_block" s_answer_block f fd) (T : Clx K Z.CD detNames) (TR : Clx K Z.CR ["energy", "time", "full"]) (D : MDef P w K mg base (L2.CX P w) Z.CD "reading_of" 2 ["self", "block"] (sp_reading_of Z CO)) :
    FnOk P w K mg base (L2.CX P w) 3 f fd ["detector", "given"] (spAns K Z CO Tb 5) := by
  have nd := sc_answer_block.nd
  refine F.okX sc_answer_block (fun vs H Q E h => len_ans h) (fun cdv A outer s H vs Q E hr h => ?_)
  obtain ⟨M, d, g, r, gv, h, as, q, rfl, DA, O, hl, hc, TM, tab, ke, kq⟩ := h
  have kq := old_way DA tab kq
  obtain ⟨b, rfl, rfl⟩ := JM.inv5 hc
  refine ⟨_, pss_cons (ps_set (i := 2) nd rfl (.inl rfl) (pe_methX D T.cl hr (takes_of rfl rfl rfl rfl) (pv 0) (pa_cons (pe_ix ix_list (pv 1) pe_int (fun _ _ => rfl)) pa_nil)))
    (pss_one (ps_ret (pe_lst (pa_cons pe_int (pa_cons (pe_at (pv 2)) (pa_cons (pe_at (pv 2)) (pa_cons (pe_at (pv 2)) pa_nil))))))), ?_⟩
  obtain ⟨ew, tw, cl, jl, gs, rs, c⟩ := DA.core
  obtain ⟨dd, hd⟩ := c.d
  refine ⟨_, rfl, d, dd, _, rfl, hd, rfl, _, rfl, gv, _, _, _, rfl, rfl, hl, at4 (i := 0) rfl, M, d, g, r, h, b, rfl, DA, O, fun g1 => ke _ (Same.refl _) (JM.on_block.trans (if_neg g1)), fun g1 x ⟨dx, R⟩ => ?_⟩
  have e : Sj24.on h (.block b) = _ := JM.on_block.trans (if_pos g1)
  rw [e] at kq
  refine ⟨_, rfl, x, Z.CR, dx, _, _, rfl, R, TR.cl, TR.nf _ (by decide +kernel), rfl, _, rfl, x, Z.CR, dx, _, _, rfl, R, TR.cl, TR.nf _ (by decide +kernel), rfl, _, rfl, x, Z.CR, dx, _, _, rfl, R, TR.cl, TR.nf _ (by decide +kernel), rfl, (by show 4 ≤ sizeLine; decide), fun p np => ?_⟩
  exact kq _ p (DA.same (Same.new np)) (Keep.of_same (Same.new np)) np upd_same
theorem sc_answer_find_clusters : FnScope ["detector", "given"] ["detector", "given"] (defScope s_answer_find_clusters) := ⟨rfl, rfl, rfl, by decide +kernel, rfl, by decide +kernel, by decide +kernel⟩
theorem ok_answer_find_clusters (F : Fun K "answer_find_clusters" "answer_find_clusters" s_answer_find_clusters f fd) (T : Clx K Z.CD detNames) (D : MDef P w K mg base CX0 Z.CD "find_clusters" 6 ["self"] (sp_find_clusters Z)) :
    FnOk P w K mg base (L2.CX P w) 7 f fd ["detector", "given"] (spAns K Z CO Tb 6) := by
  refine F.okX sc_answer_find_clusters (fun vs H Q E h => len_ans h) (fun cdv A outer s H vs Q E hr h => ?_)
  obtain ⟨M, d, g, r, gv, h, as, q, rfl, DA, O, hl, hc, TM, tab, ke, kq⟩ := h
  have kq := old_way DA tab kq
  obtain ⟨rfl, rfl⟩ := JM.inv6 hc
  refine ⟨_, pss_one (ps_ret (pe_lst (pa_cons (pe_methN D T.cl hr (pv 0)) pa_nil))), ?_⟩
  obtain ⟨ew, tw, cl, jl, gs, rs, c⟩ := DA.core
  obtain ⟨dd, hd⟩ := c.d
  rw [JM.on_clusters] at kq
  refine ⟨_, rfl, d, dd, _, rfl, hd, rfl, M, d, g, r, h, rfl, DA, O, fun H1 D1 K1 => ⟨(by show 1 ≤ sizeLine; decide), fun p np => ?_⟩⟩
  have D3 := D1.same (Same.new (o := .lst [.int ((Sj24.clustersOf h).length : Int)]) np)
  exact kq _ p D3 ((K1.same (Same.new np)).one (.inl rfl)) (K1.free (fun x hx => by rw [List.mem_singleton.mp hx]; exact D1.all d D1.dM) np) upd_same
theorem sc_answer_cluster : FnScope ["detector", "given", "cluster", "time", "full"] ["detector", "given"] (defScope s_answer_cluster) := ⟨rfl, rfl, rfl, by decide +kernel, rfl, by decide +kernel, by decide +kernel⟩
theorem ok_answer_cluster (F : Fun K "answer_cluster" "answer_cluster" s_answer_cluster f fd) (T : Clx K Z.CD detNames) (TC : Clx K Z.CC ["seed", "parts", "energy", "column", "row"]) (mLen : mg "len" = none) (D : MDef P w K mg base (L2.CX P w) Z.CD "cluster_at" 2 ["self", "number"] (sp_cluster_at Z CO))
    (dT : Def P w K mg base CX0 "present_time" 2 ["cluster", "readings"] (sp_present_time Z.CC Z.CR)) (dF : Def P w K mg base CX0 "present_full" 1 ["cluster", "readings"] (sp_present_full Z.CC Z.CR)) : FnOk P w K mg base (L2.CX P w) 3 f fd ["detector", "given"] (spAns K Z CO Tb 7) := by
  have nd := sc_answer_cluster.nd
  refine F.okX sc_answer_cluster (fun vs H Q E h => len_ans h) (fun cdv A outer s H vs Q E hr h => ?_)
  obtain ⟨M, d, g, r, gv, h, as, q, rfl, DA, O, hl, hc, TM, tab, ke, kq⟩ := h
  have kq := old_way DA tab kq
  obtain ⟨b, rfl, rfl⟩ := JM.inv7 hc
  refine ⟨_, pss_cons (ps_set (i := 2) nd rfl (.inl rfl) (pe_methX D T.cl hr (takes_of rfl rfl rfl rfl) (pv 0) (pa_cons (pe_ix ix_list (pv 1) pe_int (fun _ _ => rfl)) pa_nil)))
    (pss_cons (ps_set (i := 3) nd rfl (.inl rfl) (pe_def dT hr (pa_cons (pv 2) (pa_cons (pe_at (pv 0)) pa_nil))))
    (pss_cons (ps_set (i := 4) nd rfl (.inl rfl) (pe_def dF hr (pa_cons (pv 2) (pa_cons (pe_at (pv 0)) pa_nil))))
    (pss_one (ps_ret (pe_lst (pa_cons (pe_callB call_len_seq (by rfl) mLen (by decide +kernel) (pa_cons (pe_at (pv 2)) pa_nil)) (pa_cons (pe_at (pv 2)) (pa_cons (pe_at (pv 2)) (pa_cons (pe_at (pv 2)) (pa_cons (pe_at (pv 2)) (pa_cons (pv 3) (pa_cons (pv 4) pa_nil)))))))))))), ?_⟩
  obtain ⟨ew, tw, cl, jl, gs, rs, c⟩ := DA.core
  obtain ⟨dd, hd⟩ := c.d
  refine ⟨_, rfl, d, dd, _, rfl, hd, rfl, _, rfl, gv, _, _, _, rfl, rfl, hl, at4 (i := 0) rfl, M, d, g, r, h, b, rfl, DA, fun g1 => ke _ (Same.refl _) (JM.on_cluster_bad g1), fun g1 x cc hcc CA => ?_⟩
  have e : Sj24.on h (.cluster b) = _ := JM.on_cluster g1 hcc
  rw [e] at kq
  have CO' := O.c cc (List.mem_of_getElem? hcc)
  refine ⟨_, rfl, _, rfl, d, Z.CD, dd, _, _, rfl, hd, T.cl, T.nf _ (by decide +kernel), rfl, x, r, cc, h, rfl, CA, CO', DA.blocks, O.bl, fun H1 S1 => ?_⟩
  have D1 := DA.same S1
  refine ⟨_, rfl, _, rfl, d, Z.CD, dd, _, _, rfl, S1 _ _ hd, T.cl, T.nf _ (by decide +kernel), rfl, x, r, cc, h, rfl, CA.same S1, CO', D1.blocks, O.bl, fun H2 S2 => ?_⟩
  obtain ⟨dx, a, hx, hP⟩ := (CA.same S1).same S2
  obtain ⟨ts, t1, t2, t3⟩ := hP
  have D2 := D1.same S2
  have S := S1.trans S2
  refine ⟨_, rfl, x, Z.CC, dx, _, _, rfl, hx, TC.cl, TC.nf _ (by decide +kernel), rfl, a, ts.map V.ref, rfl, .inl (SqL.of t2), ?_⟩
  refine ⟨_, rfl, x, Z.CC, dx, _, _, rfl, hx, TC.cl, TC.nf _ (by decide +kernel), rfl, _, rfl, x, Z.CC, dx, _, _, rfl, hx, TC.cl, TC.nf _ (by decide +kernel), rfl, _, rfl, x, Z.CC, dx, _, _, rfl, hx, TC.cl, TC.nf _ (by decide +kernel), rfl, _, rfl, x, Z.CC, dx, _, _, rfl, hx, TC.cl, TC.nf _ (by decide +kernel), rfl, _, rfl, _, rfl, (by show 7 ≤ sizeLine; decide), fun p np => ?_⟩
  refine kq _ p (D2.same (Same.new np)) (Keep.of_same (S.trans (Same.new np))) (S.free np) ?_
  rw [upd_same, List.length_map, t1]
  rfl
end
end J
set_option Elab.async false
set_option maxRecDepth 100000
set_option maxHeartbeats 2000000
namespace J
open PySem PySem.Spec PyProof.Rows L2 LamX
section
variable {P : Program} {w : World} {K : PySem.W.Frag} {mg : Str → Option Value} {base : Heap} {f CO Tb : Addr} {Z : Cls4} {fd : FuncData}
theorem sc_answer_parts : FnScope ["detector", "given", "cluster", "numbers", "block", "energy"] ["detector", "given"] (defScope s_answer_parts) := ⟨rfl, rfl, rfl, by decide +kernel, rfl, by decide +kernel, by decide +kernel⟩
theorem ok_answer_parts (F : Fun K "answer_parts" "answer_parts" s_answer_parts f fd) (T : Clx K Z.CD detNames) (TC : Clx K Z.CC ["seed", "parts", "energy", "column", "row"]) (mLen : mg "len" = none)
    (D : MDef P w K mg base (L2.CX P w) Z.CD "cluster_at" 2 ["self", "number"] (sp_cluster_at Z CO)) : FnOk P w K mg base (L2.CX P w) 3 f fd ["detector", "given"] (spAns K Z CO Tb 8) := by
  have nd := sc_answer_parts.nd
  refine F.okX sc_answer_parts (fun vs H Q E h => len_ans h) (fun cdv A outer s H vs Q E hr h => ?_)
  obtain ⟨M, d, g, r, gv, h, as, q, rfl, DA, O, hl, hc, TM, tab, ke, kq⟩ := h
  have kq := old_way DA tab kq
  obtain ⟨b, rfl, rfl⟩ := JM.inv8 hc
  refine ⟨_, pss_cons (ps_set (i := 2) nd rfl (.inl rfl) (pe_methX D T.cl hr (takes_of rfl rfl rfl rfl) (pv 0) (pa_cons (pe_ix ix_list (pv 1) pe_int (fun _ _ => rfl)) pa_nil)))
    (pss_cons (ps_set (i := 3) nd rfl (.inl rfl) (pe_lst (pa_cons (pe_callB call_len_seq (by rfl) mLen (by decide +kernel) (pa_cons (pe_at (pv 2)) pa_nil)) pa_nil)))
    (pss_cons (ps_for (passes_of rfl) rfl (pi_list (pe_at (pv 2))) (pg_tup rfl (pgs_cons (pg_name (i := 4) nd rfl (.inl rfl)) (pgs_cons (pg_name (i := 5) nd rfl (.inl rfl)) pgs_nil)))
      (pss_one (ps_expr (pe_bm PySem.F.plainAttrs_list PySem.F.slot_list_extend PySem.F.type_list_extend mt_extend (pv 3) (pa_cons (pe_lst (pa_cons (pv 4) (pa_cons (pv 5) pa_nil))) pa_nil)))))
    (pss_one (ps_ret (pv 3))))), ?_⟩
  obtain ⟨ew, tw, cl, jl, gs, rs, c⟩ := DA.core
  obtain ⟨dd, hd⟩ := c.d
  refine ⟨_, rfl, d, dd, _, rfl, hd, rfl, _, rfl, gv, _, _, _, rfl, rfl, hl, at4 (i := 0) rfl, M, d, g, r, h, b, rfl, DA, fun g1 => ke _ (Same.refl _) (JM.on_parts_bad g1), fun g1 x cc hcc CA => ?_⟩
  rw [JM.on_parts g1 hcc] at kq
  have Oc := O.c cc (List.mem_of_getElem? hcc)
  obtain ⟨dx, a, hx, ts, t1, t2, t3⟩ := CA
  refine ⟨_, rfl, x, Z.CC, dx, _, _, rfl, hx, TC.cl, TC.nf _ (by decide +kernel), rfl, a, ts.map V.ref, rfl, .inl (SqL.of t2), (by show 1 ≤ sizeLine; decide), fun n nn => ?_⟩
  have S1 := Same.new (o := .lst [.int ((ts.map V.ref).length : Int)]) nn
  have pl := Oc.len
  refine ⟨_, rfl, x, Z.CC, dx, _, _, rfl, S1 _ _ hx, TC.cl, TC.nf _ (by decide +kernel), rfl, a, rfl, ⟨_, SqL.of (S1 _ _ t2)⟩, for_list (K := K) (a := a) (xs := ts.map V.ref)
    (fun i σ H' => ∃ v4 v5, σ = [some (.ref d), some (.ref gv), some (.ref x), some (.ref n), v4, v5] ∧ Same H H' ∧ H' n = some (.lst ((((cc.parts.length : Nat) : Int) :: (cc.parts.take i).flatMap fun p => [(p.block : Int), p.e]).map V.int)))
    ⟨_, _, rfl, S1, ?_⟩ (fun i σ H' _ ⟨_, _, _, s, _⟩ => SqL.of (s _ _ t2)) ?_ ?_⟩
  · rw [upd_same, List.length_map, t1]
    rfl
  · rintro i v σ H2 hv ⟨v4, v5, rfl, S2, hn⟩
    obtain ⟨t, ht, rfl⟩ := of_map hv
    obtain ⟨p, hp⟩ := at_len t1.symm ht
    have htp := S2 _ _ (t3 i t p ht hp)
    have hi := (List.getElem?_eq_some_iff.mp hp).1
    refine ⟨t, _, rfl, SqT.of htp, rfl, _, _, rfl, _, _, rfl, rfl, ?_⟩
    refine ⟨_, rfl, .inl ⟨rfl, _, SqL.of hn⟩, _, rfl, _, rfl, (by show 2 ≤ sizeLine; decide), fun e ne => ?_⟩
    have S3 : Same H2 (upd H2 e (.lst [.int (p.block : Int), .int p.e])) := Same.new ne
    have en : e ≠ n := fun z => by
      rw [z, hn] at ne
      cases ne
    refine ⟨n, e, _, _, rfl, rfl, S3 _ _ hn, upd_same, ?_, _, _, rfl, Same.upd (S2.trans S3) nn, ?_⟩
    · have q1 := len_flat (g := fun p : Sj24.Part => [(p.block : Int), p.e]) (k := 2) (fun _ => Nat.le_refl _) (cc.parts.take i)
      have q2 : (cc.parts.take i).length ≤ 9216 := Nat.le_trans (List.length_take_le' _ _) pl
      rw [List.length_map, List.length_cons]
      show _ + 2 ≤ sizeLine
      exact Nat.le_trans (show _ ≤ 20000 by omega) (by decide)
    · rw [upd_same, take_flat _ hp, ← List.cons_append, List.map_append]
      rfl
  · rintro σ H2 ⟨v4, v5, rfl, S2, hn⟩
    rw [List.length_map, t1, List.take_length] at hn
    refine ⟨_, rfl, kq _ n (DA.same S2) (Keep.of_same S2) nn ?_⟩
    rw [hn]
    rfl
theorem sc_answer_find_jets : FnScope ["detector", "given"] ["detector", "given"] (defScope s_answer_find_jets) := ⟨rfl, rfl, rfl, by decide +kernel, rfl, by decide +kernel, by decide +kernel⟩
theorem ok_answer_find_jets (F : Fun K "answer_find_jets" "answer_find_jets" s_answer_find_jets f fd) (T : Clx K Z.CD detNames) (D : MDef P w K mg base CX0 Z.CD "find_jets" 5 ["self"] (sp_find_jets Z Tb)) :
    FnOk P w K mg base (L2.CX P w) 6 f fd ["detector", "given"] (spAns K Z CO Tb 9) := by
  refine F.okX sc_answer_find_jets (fun vs H Q E h => len_ans h) (fun cdv A outer s H vs Q E hr h => ?_)
  obtain ⟨M, d, g, r, gv, h, as, q, rfl, DA, O, hl, hc, TM, tab, ke, kq⟩ := h
  obtain ⟨rfl, rfl⟩ := JM.inv9 hc
  refine ⟨_, pss_one (ps_ret (pe_lst (pa_cons (pe_methN D T.cl hr (pv 0)) pa_nil))), ?_⟩
  obtain ⟨ew, tw, cl, jl, gs, rs, c⟩ := DA.core
  obtain ⟨dd, hd⟩ := c.d
  rw [JM.on_jets] at kq
  refine ⟨_, rfl, d, dd, _, rfl, hd, rfl, M, d, g, r, h, rfl, DA, O, TM, tab, fun H1 D1 K1 tab1 => ⟨(by show 1 ≤ sizeLine; decide), fun p np => ?_⟩⟩
  have S1 : Same H1 (upd H1 p (.lst [.int ((jetsNow h).length : Int)])) := Same.new np
  obtain ⟨tps, hT, _⟩ := id tab1
  refine kq _ p r (D1.same S1).again (.inl rfl) ((K1.same S1).mono fun x hx => ?_) (tab1.ext S1) (K1.free (fun x hx => ?_) np) upd_same
  · rcases List.mem_cons.mp hx with z | hx
    · simp [z]
    · simp [List.mem_singleton.mp hx]
  · rcases List.mem_cons.mp hx with z | hx
    · rw [z]
      exact D1.all d D1.dM
    · rw [List.mem_singleton.mp hx, hT]
      exact fun z => by cases z
theorem sc_answer_jet : FnScope ["detector", "given", "jet"] ["detector", "given"] (defScope s_answer_jet) := ⟨rfl, rfl, rfl, by decide +kernel, rfl, by decide +kernel, by decide +kernel⟩
theorem ok_answer_jet (F : Fun K "answer_jet" "answer_jet" s_answer_jet f fd) (T : Clx K Z.CD detNames) (TJ : Clx K Z.CJ jetNames) (mLen : mg "len" = none)
    (D : MDef P w K mg base (L2.CX P w) Z.CD "jet_at" 2 ["self", "number"] (sp_jet_at Z CO)) : FnOk P w K mg base (L2.CX P w) 3 f fd ["detector", "given"] (spAns K Z CO Tb 10) := by
  have nd := sc_answer_jet.nd
  refine F.okX sc_answer_jet (fun vs H Q E h => len_ans h) (fun cdv A outer s H vs Q E hr h => ?_)
  obtain ⟨M, d, g, r, gv, h, as, q, rfl, DA, O, hl, hc, TM, tab, ke, kq⟩ := h
  have kq := old_way DA tab kq
  obtain ⟨b, rfl, rfl⟩ := JM.inv10 hc
  refine ⟨_, pss_cons (ps_set (i := 2) nd rfl (.inl rfl) (pe_methX D T.cl hr (takes_of rfl rfl rfl rfl) (pv 0) (pa_cons (pe_ix ix_list (pv 1) pe_int (fun _ _ => rfl)) pa_nil)))
    (pss_one (ps_ret (pe_op op_cat (pe_lst (pa_cons (pe_callB call_len_seq (by rfl) mLen (by decide +kernel) (pa_cons (pe_at (pv 2)) pa_nil)) (pa_cons (pe_at (pv 2)) (pa_cons (pe_at (pv 2)) (pa_cons (pe_at (pv 2)) pa_nil))))) (pe_at (pv 2))))), ?_⟩
  obtain ⟨ew, tw, cl, jl, gs, rs, c⟩ := DA.core
  obtain ⟨dd, hd⟩ := c.d
  refine ⟨_, rfl, d, dd, _, rfl, hd, rfl, _, rfl, gv, _, _, _, rfl, rfl, hl, at4 (i := 0) rfl, M, d, g, r, h, b, rfl, DA, fun g1 => ke _ (Same.refl _) (JM.on_jet_bad g1), fun g1 x j hj JA => ?_⟩
  rw [JM.on_jet g1 hj] at kq
  have jm := O.j j (List.mem_of_getElem? hj)
  obtain ⟨dx, a, hx, ha⟩ := JA
  refine ⟨_, rfl, x, Z.CJ, dx, _, _, rfl, hx, TJ.cl, TJ.nf _ (by decide +kernel), rfl, a, _, rfl, .inl (SqL.of ha), ?_⟩
  refine ⟨_, rfl, x, Z.CJ, dx, _, _, rfl, hx, TJ.cl, TJ.nf _ (by decide +kernel), rfl, _, rfl, x, Z.CJ, dx, _, _, rfl, hx, TJ.cl, TJ.nf _ (by decide +kernel), rfl, _, rfl, x, Z.CJ, dx, _, _, rfl, hx, TJ.cl, TJ.nf _ (by decide +kernel), rfl, (by show 4 ≤ sizeLine; decide), fun e ne => ?_⟩
  have S1 := Same.new (o := .lst [.int ((nlist (Sj24.rising j.members)).length : Int), .int j.e, .int j.col, .int j.row]) ne
  refine ⟨_, rfl, x, Z.CJ, dx, _, _, rfl, S1 _ _ hx, TJ.cl, TJ.nf _ (by decide +kernel), rfl, e, a, _, _, rfl, rfl, upd_same, S1 _ _ ha, ?_, fun p np => ?_⟩
  · rw [nlist_length, rising_len]
    show 4 + _ ≤ sizeLine
    exact Nat.le_trans (show _ ≤ 2000 by omega) (by decide)
  · have S2 := S1.trans (Same.new (o := .lst ([.int ((nlist (Sj24.rising j.members)).length : Int), .int j.e, .int j.col, .int j.row] ++ nlist (Sj24.rising j.members))) np)
    refine kq _ p (DA.same S2) (Keep.of_same S2) (S1.free np) ?_
    rw [upd_same, nlist_length, rising_len, nlist_ints]
    rfl
theorem sc_answer_sums : FnScope ["detector", "given"] ["detector", "given"] (defScope s_answer_sums) := ⟨rfl, rfl, rfl, by decide +kernel, rfl, by decide +kernel, by decide +kernel⟩
theorem ok_answer_sums (F : Fun K "answer_sums" "answer_sums" s_answer_sums f fd) (T : Clx K Z.CD detNames) (mL : mg "list" = none) (D : MDef P w K mg base CX0 Z.CD "energy_sums" 6 ["self"] (sp_energy_sums Z)) :
    FnOk P w K mg base (L2.CX P w) 7 f fd ["detector", "given"] (spAns K Z CO Tb 11) := by
  refine F.okX sc_answer_sums (fun vs H Q E h => len_ans h) (fun cdv A outer s H vs Q E hr h => ?_)
  obtain ⟨M, d, g, r, gv, h, as, q, rfl, DA, O, hl, hc, TM, tab, ke, kq⟩ := h
  have kq := old_way DA tab kq
  obtain ⟨rfl, rfl⟩ := JM.inv11 hc
  refine ⟨_, pss_one (ps_ret (pe_op op_cat (pe_lst (pa_cons pe_int pa_nil)) (pe_callTy call_list_of (by rfl) mL (by decide +kernel) (pa_cons (pe_methN D T.cl hr (pv 0)) pa_nil)))), ?_⟩
  obtain ⟨ew, tw, cl, jl, gs, rs, c⟩ := DA.core
  obtain ⟨dd, hd⟩ := c.d
  rw [JM.on_sums] at kq
  refine ⟨(by show 1 ≤ sizeLine; decide), fun e ne => ?_⟩
  have S1 := Same.new (o := .lst [.int 0]) ne
  have D1 := DA.same S1
  refine ⟨_, rfl, d, dd, _, rfl, S1 _ _ hd, rfl, M, d, g, r, h, rfl, D1, O, fun H2 t S2 nt ht => ?_⟩
  refine ⟨t, _, rfl, .inr (SqT.of ht), fun l nl => ?_⟩
  have S3 := S2.trans (Same.new (o := .lst [.int (Sj24.total h), .int (Sj24.total h - Sj24.outside h), .int (Sj24.outside h)]) nl)
  refine ⟨e, l, _, _, rfl, rfl, S3 _ _ upd_same, upd_same, (by show 1 + 3 ≤ sizeLine; decide), fun p np => ?_⟩
  have S4 := S1.trans (S3.trans (Same.new (o := .lst ([.int 0] ++ [.int (Sj24.total h), .int (Sj24.total h - Sj24.outside h), .int (Sj24.outside h)])) np))
  exact kq _ p (DA.same S4) (Keep.of_same S4) (S1.free (S3.free np)) upd_same
theorem sc_answer_window : FnScope ["detector", "given"] ["detector", "given"] (defScope s_answer_window) := ⟨rfl, rfl, rfl, by decide +kernel, rfl, by decide +kernel, by decide +kernel⟩
theorem ok_answer_window (F : Fun K "answer_window" "answer_window" s_answer_window f fd) (T : Clx K Z.CD detNames) (mL : mg "list" = none) (D : MDef P w K mg base (L2.CX P w) Z.CD "window_of" 3 ["self", "width", "height"] (sp_window_of Z CO)) :
    FnOk P w K mg base (L2.CX P w) 4 f fd ["detector", "given"] (spAns K Z CO Tb 12) := by
  refine F.okX sc_answer_window (fun vs H Q E h => len_ans h) (fun cdv A outer s H vs Q E hr h => ?_)
  obtain ⟨M, d, g, r, gv, h, as, q, rfl, DA, O, hl, hc, TM, tab, ke, kq⟩ := h
  have kq := old_way DA tab kq
  obtain ⟨a, b, rfl, rfl⟩ := JM.inv12 hc
  refine ⟨_, pss_one (ps_ret (pe_callTy call_list_of (by rfl) mL (by decide +kernel) (pa_cons (pe_methX D T.cl hr (takes_of rfl rfl rfl rfl) (pv 0) (pa_cons (pe_ix ix_list (pv 1) pe_int (fun _ _ => rfl)) (pa_cons (pe_ix ix_list (pv 1) pe_int (fun _ _ => rfl)) pa_nil))) pa_nil))), ?_⟩
  obtain ⟨ew, tw, cl, jl, gs, rs, c⟩ := DA.core
  obtain ⟨dd, hd⟩ := c.d
  refine ⟨_, rfl, d, dd, _, rfl, hd, rfl, _, rfl, gv, _, _, _, rfl, rfl, hl, at4 (i := 0) rfl, _, rfl, gv, _, _, _, rfl, rfl, hl, at4 (i := 1) rfl, M, d, g, r, h, a, b, rfl, DA, O, fun g1 => ke _ (Same.refl _) (JM.on_window.trans (if_neg g1)), fun g1 H1 t S1 nt ht => ?_⟩
  have e : Sj24.on h (.window a b) = _ := JM.on_window.trans (if_pos g1)
  rw [e] at kq
  refine ⟨t, _, rfl, .inr (SqT.of ht), fun l nl => ?_⟩
  have S2 := S1.trans (Same.new (o := .lst [.int ((Sj24.best h a.toNat b.toNat).1 : Int), .int (Sj24.best h a.toNat b.toNat).2]) nl)
  exact kq _ l (DA.same S2) (Keep.of_same S2) (S1.free nl) upd_same
theorem sc_answer_clear : FnScope ["detector", "given"] ["detector", "given"] (defScope s_answer_clear) := ⟨rfl, rfl, rfl, by decide +kernel, rfl, by decide +kernel, by decide +kernel⟩
theorem ok_answer_clear (F : Fun K "answer_clear" "answer_clear" s_answer_clear f fd) (T : Clx K Z.CD detNames) (D : MDef P w K mg base CX0 Z.CD "clear_blocks" 4 ["self"] (sp_clear_blocks Z)) :
    FnOk P w K mg base (L2.CX P w) 5 f fd ["detector", "given"] (spAns K Z CO Tb 13) := by
  refine F.okX sc_answer_clear (fun vs H Q E h => len_ans h) (fun cdv A outer s H vs Q E hr h => ?_)
  obtain ⟨M, d, g, r, gv, h, as, q, rfl, DA, O, hl, hc, TM, tab, ke, kq⟩ := h
  obtain ⟨rfl, rfl⟩ := JM.inv13 hc
  refine ⟨_, pss_cons (ps_expr (pe_methN D T.cl hr (pv 0))) (pss_one (ps_ret (pe_lst (pa_cons pe_int pa_nil)))), ?_⟩
  obtain ⟨ew, tw, cl, jl, gs, rs, c⟩ := DA.core
  obtain ⟨dd, hd⟩ := c.d
  rw [JM.on_clear] at kq
  refine ⟨_, rfl, d, dd, _, rfl, hd, rfl, M, d, g, r, h, rfl, DA, fun H1 r' D1 nr K1 => ⟨(by show 1 ≤ sizeLine; decide), fun p np => ?_⟩⟩
  have S1 : Same H1 (upd H1 p (.lst [.int 0])) := Same.new np
  have kinds := DA.kinds d List.mem_cons_self
  refine kq _ p r' (D1.same S1) (.inr nr) ((K1.same S1).mono fun x hx => by simp [List.mem_singleton.mp hx]) ((tab_keep K1 (fun b hb o e => ?_) tab).ext S1) (K1.free (fun x hx => by rw [List.mem_singleton.mp hx]; exact D1.all d D1.dM) np) upd_same
  rw [List.mem_singleton.mp hb] at e
  exact ⟨(kinds o e).1, fun c => (kinds o e).2 c _⟩
end
end J
set_option Elab.async false
set_option maxRecDepth 100000
set_option maxHeartbeats 2000000
namespace J
open PySem PySem.Spec PyProof.Rows L2 LamX
theorem step_open {st : Sj24.State} {x y z : Int} : Sj24.step st (.open_ x y z) = if (1 ≤ y ∧ y ≤ 1099511627776) ∧ (y ≤ x ∧ x ≤ 1099511627776) ∧ 1 ≤ z ∧ z ≤ 1024 then (some (house0 x y z), Sj24.just 0) else (st, Sj24.just (-2)) := by
  show (if (!Sj24.isIn 1 Sj24.MOST y || !Sj24.isIn y Sj24.MOST x || !Sj24.isIn 1 1024 z) = true then (st, Sj24.just (-2)) else (some (house0 x y z), Sj24.just 0)) = _
  refine JM.ite_swap ?_
  rw [JM.p40, JM.isIn_dec, JM.isIn_dec, JM.isIn_dec, ← Bool.not_and, ← Bool.not_and, ← Bool.decide_and, ← Bool.decide_and]
  congr 1
  exact decide_eq_decide.mpr ⟨fun ⟨⟨a, b⟩, c⟩ => ⟨a, b, c⟩, fun ⟨a, b, c⟩ => ⟨⟨a, b⟩, c⟩⟩
/-- the session's object and what it holds; M0: the other places that may change -/
def SessAt (Z : Cls4) (CS : Addr) (M0 : List Addr) (H : Hp) (s : Addr) (st : Sj24.State) : Prop := (∀ m ∈ M0, H m ≠ none) ∧ s ∉ M0 ∧ match st with
  | none => ∃ ds, H s = some (.ins CS ds [("detector", .non)])
  | some h => ∃ ds d g r, H s = some (.ins CS ds [("detector", .ref d)]) ∧ DetAt Z (d :: g :: r :: s :: M0) H d g r h ∧ HouseOk h ∧ d ∉ s :: M0 ∧ g ∉ s :: M0 ∧ r ∉ s :: M0
/-- the places of M0 and what is locked stand -/
def Stay (Tb : Addr) (M0 : List Addr) (H H' : Hp) : Prop := ∀ b o, H b = some o → ((b ∈ M0 ∧ b ≠ Tb) ∨ ∃ ob u, o = .frz ob u) → H' b = some o
theorem Stay.same {Tb : Addr} {M0 : List Addr} {H H' : Hp} (s : Same H H') : Stay Tb M0 H H' := fun b o e _ => s b o e
theorem SessAt.self {Z : Cls4} {CS : Addr} {M0 : List Addr} {H : Hp} {s : Addr} {st : Sj24.State} (S : SessAt Z CS M0 H s st) : ∃ ds v, H s = some (.ins CS ds [("detector", v)]) := by
  obtain ⟨_, _, m⟩ := S
  cases st with
  | none =>
    obtain ⟨ds, e⟩ := m
    exact ⟨ds, _, e⟩
  | some h =>
    obtain ⟨ds, d, g, r, e, _⟩ := m
    exact ⟨ds, _, e⟩
theorem SessAt.same {Z : Cls4} {CS : Addr} {M0 : List Addr} {H H' : Hp} {s : Addr} {st : Sj24.State} (e : Same H H') (S : SessAt Z CS M0 H s st) : SessAt Z CS M0 H' s st := by
  obtain ⟨a, b, m⟩ := S
  refine ⟨fun x hx => ?_, b, ?_⟩
  · cases q : H x with
    | none => exact absurd q (a x hx)
    | some o =>
      rw [e _ _ q]
      exact fun z => by cases z
  · cases st with
    | none =>
      obtain ⟨ds, q⟩ := m
      exact ⟨ds, e _ _ q⟩
    | some h =>
      obtain ⟨ds, d, g, r, q, D, O, n1, n2, n3⟩ := m
      exact ⟨ds, d, g, r, e _ _ q, D.same e, O, n1, n2, n3⟩
theorem mem_set_of {α : Type} {l : List α} {j : Nat} {x y : α} (h : y ∈ l.set j x) : y ∈ l ∨ y = x := List.mem_or_eq_of_mem_set h
/-- a calorimeter keeps its bounds -/
theorem on_ok {h : Sj24.House} (O : HouseOk h) {p : Int} {as : List Int} {q : Sj24.Call} (hc : Sj24Neutral.callOf (p :: as) = some q) (p2 : 2 ≤ p) (p7 : p ≤ 13) : HouseOk (Sj24.on h q).1 := by
  have hp : p = 2 ∨ p = 3 ∨ p = 4 ∨ p = 5 ∨ p = 6 ∨ p = 7 ∨ p = 8 ∨ p = 9 ∨ p = 10 ∨ p = 11 ∨ p = 12 ∨ p = 13 := by omega
  rcases hp with rfl | rfl | rfl | rfl | rfl | rfl | rfl | rfl | rfl | rfl | rfl | rfl
  · obtain ⟨k, m, s, z, rfl, rfl⟩ := JM.inv2 hc
    by_cases g : (0 ≤ k ∧ k ≤ 3) ∧ (1 ≤ m ∧ m ≤ 1048576) ∧ (0 ≤ s ∧ s ≤ 24) ∧ 0 ≤ z ∧ z ≤ 4095
    · rw [JM.on_gain.trans (if_pos g)]
      refine ⟨O.low, O.seed, O.top, O.r0, O.r1, by show (h.gains.set _ _).length = 4; rw [List.length_set]; exact O.gl, fun G hG => ?_, O.w, O.v, O.bl, O.b, O.c, O.cl, O.j, O.jl⟩
      rcases mem_set_of hG with e | e
      · exact O.g G e
      · rw [e]
        exact ⟨g.2.1.1, g.2.1.2, by show s.toNat ≤ 24; omega, g.2.2.2.1, g.2.2.2.2⟩
    · rw [JM.on_gain.trans (if_neg g)]
      exact O
  · obtain ⟨ln, rfl⟩ := JM.inv3 hc
    have lw : (as.take 8).length = 8 := by rw [List.length_take, ln]; rfl
    have lu : (as.drop 8).length = 8 := by rw [List.length_drop, ln]
    by_cases g : (∀ x ∈ as.take 8, -32768 ≤ x ∧ x ≤ 32767) ∧ (∀ x ∈ as.drop 8, -32768 ≤ x ∧ x ≤ 32767)
    · rw [(JM.on_weights lw lu).trans (if_pos g)]
      exact ⟨O.low, O.seed, O.top, O.r0, O.r1, O.gl, O.g, ⟨lw, g.1⟩, ⟨lu, g.2⟩, O.bl, O.b, O.c, O.cl, O.j, O.jl⟩
    · rw [(JM.on_weights lw lu).trans (if_neg g)]
      exact O
  · obtain ⟨b, k, ss, rfl, ln, rfl⟩ := JM.inv4 hc
    by_cases g : (0 ≤ b ∧ b ≤ 1023) ∧ (0 ≤ k ∧ k ≤ 3) ∧ (∀ x ∈ ss, 0 ≤ x ∧ x ≤ 4095)
    · rw [(JM.on_pulse ln).trans (if_pos g)]
      refine ⟨O.low, O.seed, O.top, O.r0, O.r1, O.gl, O.g, O.w, O.v, by show (h.blocks.set _ _).length = 1024; rw [List.length_set]; exact O.bl, fun B hB => ?_, O.c, O.cl, O.j, O.jl⟩
      rcases mem_set_of hB with e | e
      · exact O.b B e
      · rw [e, JM.weighed_is]
        refine JM.wei_ok _ _ _ _ ?_
        rw [List.getD_eq_getElem?_getD]
        cases e2 : h.gains[k.toNat]? with
        | none => exact (by decide : (0 : Int) ≤ Sj24.gain1.mul)
        | some G =>
          have := (O.g G (List.mem_of_getElem? e2)).1
          show 0 ≤ G.mul
          omega
    · rw [(JM.on_pulse ln).trans (if_neg g)]
      exact O
  · obtain ⟨b, rfl, rfl⟩ := JM.inv5 hc
    by_cases g : 0 ≤ b ∧ b ≤ 1023
    · rw [JM.on_block.trans (if_pos g)]
      exact O
    · rw [JM.on_block.trans (if_neg g)]
      exact O
  · obtain ⟨rfl, rfl⟩ := JM.inv6 hc
    rw [JM.on_clusters]
    refine ⟨O.low, O.seed, O.top, O.r0, O.r1, O.gl, O.g, O.w, O.v, O.bl, O.b, fun c hc => JM.cluster_ok O.eok hc, ?_, (fun x hx => by cases hx), by show 0 ≤ 1024; omega⟩
    show (Sj24.clustersOf h).length ≤ 1024
    rw [JM.clusters_is, List.length_map]
    exact seeds_len h
  · obtain ⟨b, rfl, rfl⟩ := JM.inv7 hc
    by_cases g : 0 ≤ b ∧ b ≤ (h.clusters.length : Int) - 1
    · have hcc : h.clusters[b.toNat]? = some (h.clusters[b.toNat]'(by omega)) := List.getElem?_eq_getElem (by omega)
      rw [JM.on_cluster g hcc]
      exact O
    · rw [JM.on_cluster_bad g]
      exact O
  · obtain ⟨b, rfl, rfl⟩ := JM.inv8 hc
    by_cases g : 0 ≤ b ∧ b ≤ (h.clusters.length : Int) - 1
    · have hcc : h.clusters[b.toNat]? = some (h.clusters[b.toNat]'(by omega)) := List.getElem?_eq_getElem (by omega)
      rw [JM.on_parts g hcc]
      exact O
    · rw [JM.on_parts_bad g]
      exact O
  · obtain ⟨rfl, rfl⟩ := JM.inv9 hc
    rw [JM.on_jets]
    obtain ⟨q1, q2⟩ := JM.gather_facts (reach := h.reach) h.clusters.length (JM.jets0 h.clusters) (JM.jets0_ok O.cl O.c)
    rw [← JM.jetsOf_is] at q1 q2
    refine ⟨O.low, O.seed, O.top, O.r0, O.r1, O.gl, O.g, O.w, O.v, O.bl, O.b, O.c, O.cl, fun x hx => q1 x ((JM.ordered_perm _).mem_iff.mp hx), ?_⟩
    have e : (Sj24.ordered (Sj24.jetsOf h.reach h.clusters)).length = _ := (JM.ordered_perm _).length_eq
    have := JM.jets0_len h.clusters
    have := O.cl
    show (Sj24.ordered (Sj24.jetsOf h.reach h.clusters)).length ≤ 1024
    omega
  · obtain ⟨b, rfl, rfl⟩ := JM.inv10 hc
    by_cases g : 0 ≤ b ∧ b ≤ (h.jets.length : Int) - 1
    · have hcc : h.jets[b.toNat]? = some (h.jets[b.toNat]'(by omega)) := List.getElem?_eq_getElem (by omega)
      rw [JM.on_jet g hcc]
      exact O
    · rw [JM.on_jet_bad g]
      exact O
  · obtain ⟨rfl, rfl⟩ := JM.inv11 hc
    exact O
  · obtain ⟨a, b, rfl, rfl⟩ := JM.inv12 hc
    by_cases g : (1 ≤ a ∧ a ≤ 32) ∧ 1 ≤ b ∧ b ≤ 32
    · rw [JM.on_window.trans (if_pos g)]
      exact O
    · rw [JM.on_window.trans (if_neg g)]
      exact O
  · obtain ⟨rfl, rfl⟩ := JM.inv13 hc
    rw [JM.on_clear]
    refine ⟨O.low, O.seed, O.top, O.r0, O.r1, O.gl, O.g, O.w, O.v, List.length_replicate, fun B hB => ?_, (fun c hc => by cases hc), by show 0 ≤ 1024; omega, (fun c hc => by cases hc), by show 0 ≤ 1024; omega⟩
    rw [List.eq_of_mem_replicate hB]
    exact ⟨by show (0 : Int) ≤ 0; omega, by show (0 : Int) ≤ _; omega, by show (-32768 : Int) ≤ 0; omega, by show (0 : Int) ≤ _; omega⟩
/-- a call but open -/
theorem step_on {p : Int} {as : List Int} {q : Sj24.Call} (hc : Sj24Neutral.callOf (p :: as) = some q) (p2 : 2 ≤ p) (p7 : p ≤ 13) : Sj24.step none q = (none, Sj24.just (-7)) ∧ ∀ h, Sj24.step (some h) q = (some (Sj24.on h q).1, (Sj24.on h q).2) := by
  have hp : p = 2 ∨ p = 3 ∨ p = 4 ∨ p = 5 ∨ p = 6 ∨ p = 7 ∨ p = 8 ∨ p = 9 ∨ p = 10 ∨ p = 11 ∨ p = 12 ∨ p = 13 := by omega
  rcases hp with rfl | rfl | rfl | rfl | rfl | rfl | rfl | rfl | rfl | rfl | rfl | rfl
  · obtain ⟨k, m, s, z, rfl, rfl⟩ := JM.inv2 hc
    exact ⟨rfl, fun h => rfl⟩
  · obtain ⟨ln, rfl⟩ := JM.inv3 hc
    exact ⟨rfl, fun h => rfl⟩
  · obtain ⟨b, k, ss, rfl, ln, rfl⟩ := JM.inv4 hc
    exact ⟨rfl, fun h => rfl⟩
  · obtain ⟨b, rfl, rfl⟩ := JM.inv5 hc
    exact ⟨rfl, fun h => rfl⟩
  · obtain ⟨rfl, rfl⟩ := JM.inv6 hc
    exact ⟨rfl, fun h => rfl⟩
  · obtain ⟨b, rfl, rfl⟩ := JM.inv7 hc
    exact ⟨rfl, fun h => rfl⟩
  · obtain ⟨b, rfl, rfl⟩ := JM.inv8 hc
    exact ⟨rfl, fun h => rfl⟩
  · obtain ⟨rfl, rfl⟩ := JM.inv9 hc
    exact ⟨rfl, fun h => rfl⟩
  · obtain ⟨b, rfl, rfl⟩ := JM.inv10 hc
    exact ⟨rfl, fun h => rfl⟩
  · obtain ⟨rfl, rfl⟩ := JM.inv11 hc
    exact ⟨rfl, fun h => rfl⟩
  · obtain ⟨a, b, rfl, rfl⟩ := JM.inv12 hc
    exact ⟨rfl, fun h => rfl⟩
  · obtain ⟨rfl, rfl⟩ := JM.inv13 hc
    exact ⟨rfl, fun h => rfl⟩
section
variable {P : Program} {w : World} {K : PySem.W.Frag} {mg : Str → Option Value} {base : Heap} {f CO CS dH Tb : Addr} {Z : Cls4} {fd : FuncData}
theorem sc_Session_init : FnScope ["self"] ["self"] (defScope s_Session_init) := ⟨rfl, rfl, rfl, by decide +kernel, rfl, by decide +kernel, by decide +kernel⟩
def sp_Session_init (CS : Addr) : Sp := fun vs H Q _ => ∃ (p dx : Addr), vs = [.ref p] ∧ H p = some (.ins CS dx []) ∧ ∀ H', H' p = some (.ins CS dx [("detector", .non)]) → But H H' p → Q .non H'
theorem ok_Session_init (F : Fun K "__init__" "Session.__init__" s_Session_init f fd) (T : Clx K CS ["detector"]) : FnOk P w K mg base CX0 1 f fd ["self"] (sp_Session_init CS) := by
  refine F.ok sc_Session_init (fun vs H Q E h => ?_) (fun cdv A outer s H vs Q E hr h => ?_)
  · obtain ⟨_, _, rfl, _⟩ := h
    rfl
  · obtain ⟨p, dx, rfl, hp, q⟩ := h
    refine ⟨_, pss_one (ps_fld (pv 0) pe_non rfl), ?_⟩
    refine ⟨_, rfl, p, CS, dx, _, rfl, hp, T.cl, T.nf _ (by decide +kernel), (by show 0 < 1000; decide), ?_⟩
    exact q _ upd_same But.of_upd
theorem sc_Session_answer : FnScope ["self", "call", "given"] ["self", "call", "given"] (defScope s_Session_answer) := ⟨rfl, rfl, rfl, by decide +kernel, rfl, by decide +kernel, by decide +kernel⟩
def sp_Session_answer (K : PySem.W.Frag) (Z : Cls4) (CS Tb : Addr) : Sp := fun vs H Q _ => ∃ (M0 : List Addr) (s gv : Addr) (st : Sj24.State) (p : Int) (as : List Int) (q : Sj24.Call), vs = [.ref s, .int p, .ref gv] ∧ SessAt Z CS M0 H s st ∧ SqL K H gv (as.map V.int) ∧ Sj24Neutral.callOf (p :: as) = some q ∧ 1 ≤ p ∧ p ≤ 13 ∧ Tb ∈ M0 ∧ TabS H Tb qLam ∧
  ∀ (H' : Hp) (a : Addr), SessAt Z CS M0 H' s (Sj24.step st q).1 → Stay Tb M0 H H' → TabS H' Tb qLam → H a = none → H' a = some (.lst (((Sj24.step st q).2.v :: (Sj24.step st q).2.l).map V.int)) → Q (.ref a) H'
def t_try (P : Program) (w : World) (K : PySem.W.Frag) (mg : Str → Option Value) (base : Heap) (Z : Cls4) (CO dH : Addr) (W : WX) : TS :=
  tSeq (tIfS (tTest (tOp rEq (tVar 1) (tC (.int 1)))) (tSeq (sFld K (tVar 0) (tMakeS Z.CD (sp_Detector_init Z CO) (WE W) (tCons (tOp (rIxL K) (tVar 2) (tC (.int 0))) (tCons (tOp (rIxL K) (tVar 2) (tC (.int 1))) (tCons (tOp (rIxL K) (tVar 2) (tC (.int 2))) tNil)))) "detector") (tRet (tLst (tCons (tC (.int 0)) tNil)))) tNext)
  (tSeq (tIfS (tTest (tOp (fun x y H Q => y = .non ∧ Q (.bl (decide (x = .non))) H) (tFld K (tVar 0) "detector") (tC .non))) (tRet (tLst (tCons (tC (.int (-7))) tNil))) tNext)
  (tRet (tCallF P w K mg base 7 (WE W) (tOp (rIxKI K) (tC (.ref dH)) (tVar 1)) (tCons (tFld K (tVar 0) "detector") (tCons (tVar 2) tNil)))))
theorem ok_Session_answer (F : Fun K "answer" "Session.answer" s_Session_answer f fd) (TO : Oor K mg CO) (TS : Clx K CS ["detector"]) (n1 : IntAt mg "OPENING" 1) (n7 : IntAt mg "NO_CALORIMETER" (-7)) (n2 : IntAt mg "OUT_OF_RANGE" (-2))
    (mH : mg "HANDLERS" = some (.ref dH)) (hH : ∀ p : Int, 2 ≤ p → p ≤ 13 → ∃ fp, KInt K dH p (.ref fp) ∧ HeldX P w K mg base 7 fp (spAns K Z CO Tb p))
    (cD : Ctor P w K mg base (L2.CX P w) "Detector" Z.CD 4 ["self", "seed", "low", "reach"] (sp_Detector_init Z CO)) : FnOk P w K mg base CX0 8 f fd ["self", "call", "given"] (sp_Session_answer K Z CS Tb) := by
  have nd := sc_Session_answer.nd
  refine F.ok sc_Session_answer (fun vs H Q E h => ?_) (fun cdv A outer s H vs Q E hr h => ?_)
  · obtain ⟨_, _, _, _, _, _, _, rfl, _⟩ := h
    rfl
  · obtain ⟨M0, s, gv, st, p, as, q, rfl, SA, hl, hc, p1, p7, TM0, tab, kq⟩ := h
    obtain ⟨fD, fdD, MkD, FD, bD⟩ := cD.ex
    refine ⟨_, pss_one (ps_try_only (tb := t_try P w K mg base Z CO dH) (ts := fun _ _ _ => tRet (tLst (tCons (tC (.int (-2))) tNil))) (Wout := fun _ _ _ _ => False) rfl rfl ⟨rfl, by decide, Or.inl TO.g⟩ L2.takes0
      (fun W pn xe tk _ => pss_cons (ps_if (pt_cmpR op_eq (pv 1) (pe_num n1) (nomark _))
          (pss_cons (ps_fld (pv 0) (pe_makeS MkD FD (hr.mono (by decide)) rfl cD.g bD (fun σ => passAt tk σ) (pa_cons (pe_ix ix_list (pv 2) pe_int (fun _ _ => rfl)) (pa_cons (pe_ix ix_list (pv 2) pe_int (fun _ _ => rfl)) (pa_cons (pe_ix ix_list (pv 2) pe_int (fun _ _ => rfl)) pa_nil)))) rfl)
          (pss_one (ps_ret (pe_lst (pa_cons pe_int pa_nil))))) pss_nil)
        (pss_cons (ps_if (pt_cmpR op_isN (pe_at (pv 0)) pe_non (nomark _)) (pss_one (ps_ret (pe_lst (pa_cons (pe_num n7) pa_nil)))) pss_nil)
        (pss_one (ps_ret (pe_callF (pe_ix ix_kint (pe_glob (v := .ref dH) rfl mH rfl) (pv 1) (fun _ _ => rfl)) hr (fun σ => passAt tk σ) (pa_cons (pe_at (pv 0)) (pa_cons (pv 2) pa_nil)))))))
      (fun _ _ _ _ _ _ _ => pss_one (ps_ret (pe_lst (pa_cons (pe_num n2) pa_nil))))), ?_⟩
    obtain ⟨ds, v, hs⟩ := SA.self
    -- a refusal
    have fail : ∀ H', Same H H' → Sj24.step st q = (st, Sj24.just (-2)) → 1 ≤ sizeLine ∧ ∀ l, H' l = none → Q (.ref l) (upd H' l (.lst [.int (-2)])) := fun H' s1 e => by
      refine ⟨by decide, fun l nl => ?_⟩
      rw [e] at kq
      exact kq _ l (SA.same (s1.trans (Same.new nl))) (Stay.same (s1.trans (Same.new nl))) (tab.ext (s1.trans (Same.new nl))) (s1.free nl) upd_same
    refine ⟨_, rfl, rfl, _, rfl, ite2 (fun h1 => ?_) (fun h1 => ?_)⟩
    · have e1 : p = 1 := by
        have := of_decide_eq_true h1
        injection this
      subst e1
      obtain ⟨x, y, z, rfl, rfl⟩ := JM.inv1 hc
      refine ⟨_, rfl, gv, _, _, _, rfl, rfl, hl, at4 (i := 0) rfl, _, rfl, gv, _, _, _, rfl, rfl, hl, at4 (i := 1) rfl, _, rfl, gv, _, _, _, rfl, rfl, hl, at4 (i := 2) rfl, fun d dx nd' ndx ne => ⟨d, dx, x, y, z, rfl, upd_same, fun g1 => ?_, fun g1 => ?_⟩⟩
      · exact ⟨true, TO.e, fun _ a na => fail _ (Same.upd (Same.new ndx) nd') (step_open.trans (if_neg g1)), fun z => nomatch z⟩
      · intro H1 g r ew tw cl jl gs rs k1 ng nr gr core
        have Sm : Same H (upd (upd H dx (.own d)) d (.ins Z.CD dx [])) := Same.upd (Same.new ndx) nd'
        have sd : s ≠ d := ne_of_none hs nd'
        have hs1 := k1 _ _ (Sm _ _ hs) sd
        have e : Sj24.step st (.open_ x y z) = (some (house0 x y z), Sj24.just 0) := step_open.trans (if_pos g1)
        rw [e] at kq
        have M0n : ∀ m ∈ M0, ∀ b, (upd (upd H dx (.own d)) d (.ins Z.CD dx [])) b = none → m ≠ b := fun m hm b nb z => by
          cases q : H m with
          | none => exact SA.1 m hm q
          | some o =>
            have := Sm _ _ q
            rw [z, nb] at this
            cases this
        have gM0 : g ∉ s :: M0 := fun z => by
          rcases List.mem_cons.mp z with z | z
          · exact ne_of_none (Sm _ _ hs) ng z.symm
          · exact M0n g z g ng rfl
        have rM0 : r ∉ s :: M0 := fun z => by
          rcases List.mem_cons.mp z with z | z
          · exact ne_of_none (Sm _ _ hs) nr z.symm
          · exact M0n r z r nr rfl
        have dM0 : d ∉ s :: M0 := fun z => by
          rcases List.mem_cons.mp z with z | z
          · exact sd z.symm
          · exact SA.1 d z nd'
        refine ⟨rfl, _, rfl, s, CS, ds, _, rfl, hs1, TS.cl, TS.nf _ (by decide +kernel), (by show 1 < 1000; decide), ?_⟩
        have eds : (upd H1 s (.ins CS ds [("detector", .ref d)])) d = H1 d := upd_ne sd.symm
        have egs : (upd H1 s (.ins CS ds [("detector", .ref d)])) g = H1 g := upd_ne (fun z => gM0 (by rw [z]; exact List.mem_cons_self))
        have ers : (upd H1 s (.ins CS ds [("detector", .ref d)])) r = H1 r := upd_ne (fun z => rM0 (by rw [z]; exact List.mem_cons_self))
        have D2 : DetAt Z (d :: g :: r :: s :: M0) (upd H1 s (.ins CS ds [("detector", .ref d)])) d g r (house0 x y z) := by
          have co := core.keep (J' := Off (d :: g :: r :: s :: M0) (upd H1 s (.ins CS ds [("detector", .ref d)]))) (fun b o hb => by
            have n1 := Off.not hb
            have hb := Off.sub _ _ hb
            have nm := New.free hb
            have hb := New.sub _ _ hb
            have bs : b ≠ s := fun z => ne_of_none (Sm _ _ hs) nm z.symm
            refine Off.get (fun z => ?_) (by rw [upd_ne bs]; exact hb)
            rcases List.mem_cons.mp z with z | z
            · rw [z, upd_same] at nm
              cases nm
            rcases List.mem_cons.mp z with z | z
            · exact n1 (by simp [z])
            rcases List.mem_cons.mp z with z | z
            · exact n1 (by simp [z])
            rcases List.mem_cons.mp z with z | z
            · exact bs z
            · exact M0n b z b nm rfl) eds egs ers
          refine ⟨by simp, by simp, by simp, gr, fun m hm => ?_, ew, tw, cl, jl, gs, rs, co⟩
          obtain ⟨dd, hd⟩ := co.d
          rcases List.mem_cons.mp hm with z | hm
          · rw [z, hd]
            exact fun z => by cases z
          rcases List.mem_cons.mp hm with z | hm
          · rw [z, co.g]
            exact fun z => by cases z
          rcases List.mem_cons.mp hm with z | hm
          · rw [z, co.r]
            exact fun z => by cases z
          rcases List.mem_cons.mp hm with z | hm
          · rw [z, upd_same]
            exact fun z => by cases z
          · have ms : m ≠ s := fun z => SA.2.1 (by rw [← z]; exact hm)
            rw [upd_ne ms]
            cases q : H m with
            | none => exact absurd q (SA.1 m hm)
            | some o =>
              rw [k1 _ _ (Sm _ _ q) (fun z => dM0 (by rw [← z]; exact List.mem_cons_of_mem _ hm))]
              exact fun z => by cases z
        refine ⟨(by show 1 ≤ sizeLine; decide), fun l nl => ?_⟩
        have D3 := D2.same (Same.new (o := .lst [.int 0]) nl)
        have sl : s ≠ l := fun z => by
          rw [← z, upd_same] at nl
          cases nl
        refine kq _ l ⟨fun m hm => D3.all m (by simp [hm]), SA.2.1, ds, d, g, r, ?_, D3, house0_ok g1, dM0, gM0, rM0⟩ ?_ ?_ ?_ upd_same
        · rw [upd_ne sl]
          exact upd_same
        · intro b o hb hw
          have bs : b ≠ s := fun z => by
            rcases hw with ⟨hw, _⟩ | ⟨ob, u, rfl⟩
            · exact SA.2.1 (by rw [← z]; exact hw)
            · rw [z, hs] at hb
              cases hb
          have hb2 : upd H1 s (.ins CS ds [("detector", .ref d)]) b = some o := by
            rw [upd_ne bs]
            exact k1 _ _ (Sm _ _ hb) (ne_of_none hb nd')
          exact Same.new nl _ _ hb2
        · have Kt : Keep [s] H (upd (upd H1 s (.ins CS ds [("detector", .ref d)])) l (.lst [.int 0])) := fun b o hb n => by
            have bs : b ≠ s := fun z => n (by rw [z]; exact List.mem_singleton.mpr rfl)
            refine Same.new nl _ _ ?_
            rw [upd_ne bs]
            exact k1 _ _ (Sm _ _ hb) (ne_of_none hb nd')
          refine tab_keep Kt (fun b hb o e => ?_) tab
          rw [List.mem_singleton.mp hb, hs] at e
          cases e
          exact ⟨(fun ps z => by cases z), fun c z => by cases z⟩
        · cases q : H l with
          | none => rfl
          | some o =>
            by_cases z : l = s
            · exact absurd z.symm sl
            · rw [upd_ne z, k1 _ _ (Sm _ _ q) (ne_of_none q nd')] at nl
              cases nl
    · have p2 : 2 ≤ p := by
        have : ¬ p = 1 := fun z => h1 (by rw [z]; exact decide_eq_true rfl)
        omega
      have so := step_on hc p2 p7
      refine ⟨_, rfl, s, CS, ds, _, v, rfl, hs, TS.cl, TS.nf _ (by decide +kernel), rfl, rfl, _, rfl, ?_⟩
      obtain ⟨hM0, sM0, m⟩ := id SA
      cases st with
      | none =>
        obtain ⟨ds', e⟩ := m
        rw [hs] at e
        cases e
        refine iteT ⟨(by show 1 ≤ sizeLine; decide), fun l nl => ?_⟩
        rw [so.1] at kq
        exact kq _ l (SA.same (Same.new nl)) (Stay.same (Same.new nl)) (tab.ext (Same.new nl)) nl upd_same
      | some h =>
        obtain ⟨ds', d, g, r, e, DA, O, n1, n2, n3⟩ := m
        rw [hs] at e
        cases e
        refine iteF ?_
        obtain ⟨fp, kp, hp⟩ := hH p p2 p7
        refine ⟨_, rfl, dH, p, .ref fp, rfl, rfl, kp, fp, spAns K Z CO Tb p, rfl, hp, _, rfl, s, CS, ds, _, _, rfl, hs, TS.cl, TS.nf _ (by decide +kernel), rfl, _, rfl, ?_⟩
        refine ⟨d :: g :: r :: s :: M0, d, g, r, gv, h, as, q, rfl, DA, O, hl, hc, by simp [TM0], tab, fun H' s1 e => ?_, fun H' a r' D1 er K1 tab1 na ha => ?_⟩
        · refine ⟨true, TO.e, fun _ a na => fail _ s1 ?_, fun z => nomatch z⟩
          rw [so.2, e]
        · rw [so.2] at kq
          obtain ⟨tps, hT, _⟩ := id tab
          have sT : s ≠ Tb := ne_of hs hT (by intro z; cases z)
          have sK : s ∉ [d, g, r, Tb] := fun z => by
            rcases List.mem_cons.mp z with z | z
            · exact n1 (by rw [z]; exact List.mem_cons_self)
            rcases List.mem_cons.mp z with z | z
            · exact n2 (by rw [z]; exact List.mem_cons_self)
            rcases List.mem_cons.mp z with z | z
            · exact n3 (by rw [z]; exact List.mem_cons_self)
            · exact sT (List.mem_singleton.mp z)
          have n3' : r' ∉ s :: M0 := by
            rcases er with e | e
            · rw [e]
              exact n3
            · intro z
              rcases List.mem_cons.mp z with z | z
              · rw [z, hs] at e
                cases e
              · exact hM0 r' z e
          have D2 : DetAt Z (d :: g :: r' :: s :: M0) H' d g r' (Sj24.on h q).1 := by
            obtain ⟨ew, tw, cl, jl, gs, rs, c⟩ := D1.core
            have sub : ∀ x ∈ d :: g :: r' :: s :: M0, x ∈ r' :: d :: g :: r :: s :: M0 := fun x hx => by
              simp only [List.mem_cons] at hx ⊢
              rcases hx with z | z | z | z | z
              · exact .inr (.inl z)
              · exact .inr (.inr (.inl z))
              · exact .inl z
              · exact .inr (.inr (.inr (.inr (.inl z))))
              · exact .inr (.inr (.inr (.inr (.inr z))))
            refine ⟨by simp, by simp, by simp, D1.gr, fun m hm => D1.all m (sub m hm), ew, tw, cl, jl, gs, rs, c.keep (fun b o e => Off.get (fun z => Off.not e (sub b z)) (Off.sub _ _ e)) rfl rfl rfl⟩
          refine kq H' a ⟨fun m hm => D2.all m (by simp [hm]), sM0, ds, d, g, r', K1 _ _ hs sK, D2, on_ok O hc p2 p7, n1, n2, n3'⟩ (fun b o hb hw => K1 _ _ hb fun z => ?_) tab1 na ha
          obtain ⟨ew, tw, cl, jl, gs, rs, c⟩ := DA.core
          obtain ⟨dd, hdd⟩ := c.d
          rcases hw with ⟨hw, hwT⟩ | ⟨ob, u, rfl⟩
          · rcases List.mem_cons.mp z with z | z
            · exact n1 (by rw [← z]; exact List.mem_cons_of_mem _ hw)
            rcases List.mem_cons.mp z with z | z
            · exact n2 (by rw [← z]; exact List.mem_cons_of_mem _ hw)
            rcases List.mem_cons.mp z with z | z
            · exact n3 (by rw [← z]; exact List.mem_cons_of_mem _ hw)
            · exact hwT (List.mem_singleton.mp z)
          · rcases List.mem_cons.mp z with z | z
            · rw [z, hdd] at hb
              cases hb
            rcases List.mem_cons.mp z with z | z
            · rw [z, c.g] at hb
              cases hb
            rcases List.mem_cons.mp z with z | z
            · rw [z, c.r] at hb
              cases hb
            · rw [List.mem_singleton.mp z, hT] at hb
              cases hb
end
end J
set_option Elab.async false
set_option maxRecDepth 100000
set_option maxHeartbeats 2000000
namespace J
open PySem PySem.Spec PyProof.Rows L2 LamX
/-- C() -/
theorem pe_new0 {X : Cx} {k j : Nat} {ps : List Str} {sp : Sp} {x : Str} {C : Addr} {p pos : Pos} (D : Ctor X.prog X.w X.K X.mg X.base CX0 x C k ps sp) (hr : Room j X.A) (hkj : k + 1 ≤ j := by decide) (hg : Gl X x := by rfl)
    (hdb : (x == ("__debug__" : Str)) = false := by decide) : PE X (.Call (.Name x p) [] [] pos) (tMake C sp [] E0 tNil) := by
  obtain ⟨f, fd, M, F, hb⟩ := D.ex
  exact pe_make0 M F (hr.mono hkj) hg D.g hb .nil pass0 hdb
/-- o.m(e, ..) of a method that lets nothing out -/
theorem pe_methC {X : Cx} {k j : Nat} {ps : List Str} {sp : Sp} {C : Addr} {m : Str} {pos apos : Pos} {o e : Expr} {es : List Expr} {ta : TE} {t : TA} {pl : Sem Bool} (D : MDef X.prog X.w X.K X.mg X.base CX0 C m k ps sp) (c : Cls X.K C) (hr : Room j X.A) (he : PE X o ta) (ha : PA X (e :: es) t) (hkj : k ≤ j := by decide)
    (hst : starEach (e :: es) X.env = (false, eval e X.env) :: starEach es X.env := by rfl) (hpl : (backTo pos (starEach es X.env)).any (·.1) = false := by rfl)
    (ht : eval (.Call (.Attribute o m apos) (e :: es) [] pos) X.env = (do
      let ov ← eval o X.env
      standAt apos.atName
      let (f, first) ← holding [ov] (getMethod ov m pl)
      callWith pos f first (backTo pos (starEach (e :: es) X.env)) (backToKw pos (keywordEach [] X.env))) := by rfl) :
    PE X (.Call (.Attribute o m apos) (e :: es) [] pos) (tMeth C m sp [] E0 ta t) := by
  obtain ⟨f, fd, F, hm, hb⟩ := D.ex
  exact pe_meth he c hm F (hr.mono hkj) hb .nil pass0 ha hst hpl ht
theorem SessAt.put {Z : Cls4} {CS : Addr} {M0 : List Addr} {H : Hp} {s m : Addr} {st : Sj24.State} {o : HO} (S : SessAt Z CS M0 H s st) (hm : m ∈ M0) : SessAt Z CS M0 (upd H m o) s st := by
  obtain ⟨a, b, e⟩ := S
  have sm : s ≠ m := fun z => b (by rw [z]; exact hm)
  refine ⟨fun x hx => ?_, b, ?_⟩
  · by_cases z : x = m
    · rw [z, upd_same]
      exact fun z => by cases z
    · rw [upd_ne z]
      exact a x hx
  · cases st with
    | none =>
      obtain ⟨ds, q⟩ := e
      exact ⟨ds, by rw [upd_ne sm]; exact q⟩
    | some h =>
      obtain ⟨ds, d, g, r, q, D, O, n1, n2, n3⟩ := e
      have off : ∀ x, x ∉ s :: M0 → x ∉ [m] := fun x n z => n (by rw [List.mem_singleton.mp z]; exact List.mem_cons_of_mem _ hm)
      refine ⟨ds, d, g, r, by rw [upd_ne sm]; exact q, D.keep (N := [m]) ((Keep.refl [m] H).upd (List.mem_singleton.mpr rfl)) (fun x hx => ?_) (off d n1) (off g n2) (off r n3) (fun x hx => ?_), O, n1, n2, n3⟩
      · rw [List.mem_singleton.mp hx]
        simp [hm]
      · rw [List.mem_singleton.mp hx, upd_same]
        exact fun z => by cases z
section
variable {P : Program} {w : World} {K : PySem.W.Frag} {mg : Str → Option Value} {base : Heap} {f CO CS dA Tb : Addr} {Z : Cls4} {fd : FuncData}
theorem sc_answers : FnScope ["calls", "session", "numbers", "position", "call", "behind", "answer"] ["calls"] (defScope s_answers) := ⟨rfl, rfl, rfl, by decide +kernel, rfl, by decide +kernel, by decide +kernel⟩
def sp_answers (Tb : Addr) (K : PySem.W.Frag) : Sp := fun vs H Q _ => ∃ (a : Addr) (ns : List Int), vs = [.ref a] ∧ SqL K H a (ns.map V.int) ∧ (∀ b, b ≠ Tb → H b = none ∨ ∃ o u, H b = some (.frz o u)) ∧ H Tb = some (.tbl #[]) ∧ PySj24.answers_asked ns = true ∧ ∀ (H' : Hp) (p : Addr), H' p = some (.lst ((PySj24.answers ns).map V.int)) → Q (.ref p) H'
/-- a list that no one writes to -/
def Fast (K : PySem.W.Frag) (H : Hp) (a : Addr) (xs : List V) : Prop := (∃ o, H a = some (.frz o (.lst xs))) ∨ ∀ H', SqL K H' a xs
theorem Fast.seq {K : PySem.W.Frag} {H : Hp} {a : Addr} {xs : List V} (h : Fast K H a xs) : SqL K H a xs := by
  rcases h with ⟨o, e⟩ | h
  · exact .inl (.inr ⟨o, e⟩)
  · exact h H
theorem Fast.keep {K : PySem.W.Frag} {H H' : Hp} {a : Addr} {xs : List V} (h : Fast K H a xs) (k : ∀ b ob u, H b = some (.frz ob u) → H' b = some (.frz ob u)) : Fast K H' a xs := by
  rcases h with ⟨o, e⟩ | h
  · exact .inl ⟨o, k _ _ _ e⟩
  · exact .inr h
theorem Fast.of {K : PySem.W.Frag} {H : Hp} {a Tb : Addr} {xs : List V} (h : SqL K H a xs) (o : ∀ b, b ≠ Tb → H b = none ∨ ∃ o u, H b = some (.frz o u)) (t : H Tb = some (.tbl #[])) : Fast K H a xs := by
  rcases h with (h | h) | h
  · have n : a ≠ Tb := ne_of h t (by intro z; cases z)
    rcases o a n with z | ⟨ob, u, z⟩
    · rw [h] at z
      cases z
    · rw [h] at z
      cases z
  · exact .inl h
  · exact .inr fun H' => .inr h
theorem ok_answers (F : Fun K "answers" "answers" s_answers f fd) (TS : Clx K CS ["detector"]) (mLen : mg "len" = none) (mA : mg "ARGUMENTS" = some (.ref dA)) (hA : ∀ (p : Int) (n : Nat), PySj24.shape p = some (n, 0) → KInt K dA p (.int (n : Int)))
    (cS : Ctor P w K mg base CX0 "Session" CS 1 ["self"] (sp_Session_init CS)) (mS : MDef P w K mg base CX0 CS "answer" 8 ["self", "call", "given"] (sp_Session_answer K Z CS Tb)) : FnOk P w K mg base CX0 9 f fd ["calls"] (sp_answers Tb K) := by
  have nd := sc_answers.nd
  refine F.ok sc_answers (fun vs H Q E h => ?_) (fun cdv A outer s H vs Q E hr h => ?_)
  · obtain ⟨_, _, rfl, _⟩ := h
    rfl
  · obtain ⟨a, ns, rfl, hl, oF, hTb, asked, kq⟩ := h
    have fa := Fast.of hl oF hTb
    have tab0 : TabS H Tb qLam := TabS.nil hTb
    obtain ⟨css0, R0, ea, lim, _⟩ := JM.asked_runs asked
    refine ⟨_, pss_cons (ps_set (i := 1) nd rfl (.inl rfl) (pe_new0 cS hr))
      (pss_cons (ps_set (i := 2) nd rfl (.inl rfl) (pe_lst pa_nil))
      (pss_cons (ps_set (i := 3) nd rfl (.inl rfl) pe_int)
      (pss_cons (ps_while PassesOwn.never (pt_cmpR op_lt (pv 3) (pe_callB call_len_seq (by rfl) mLen (by decide +kernel) (pa_cons (pv 0) pa_nil)) (nomark _))
        (pss_cons (ps_set (i := 4) nd rfl (.inl rfl) (pe_ix ix_list (pv 0) (pv 3) (fun _ _ => rfl)))
        (pss_cons (ps_set (i := 5) nd rfl (.inl rfl) (pe_op op_add (pe_op op_add (pv 3) pe_int) (pe_ix ix_kint (pe_glob (v := .ref dA) rfl mA rfl) (pv 4) (fun _ _ => rfl))))
        (pss_cons (ps_set (i := 6) nd rfl (.inl rfl) (pe_methC mS TS.cl hr (pv 1) (pa_cons (pv 4) (pa_cons (pe_slice sl_list (pv 0) (po_some (pe_op op_add (pv 3) pe_int)) (po_some (pv 5))) pa_nil))))
        (pss_cons (ps_expr (pe_bm PySem.F.plainAttrs_list PySem.F.slot_list_append PySem.F.type_list_append mt_append (pv 2) (pa_cons (pe_callB call_len_seq (by rfl) mLen (by decide +kernel) (pa_cons (pv 6) pa_nil)) pa_nil)))
        (pss_cons (ps_expr (pe_bm PySem.F.plainAttrs_list PySem.F.slot_list_extend PySem.F.type_list_extend mt_extend (pv 2) (pa_cons (pv 6) pa_nil)))
        (pss_one (ps_set (i := 3) nd rfl (.inl rfl) (pv 5)))))))))
      (pss_one (ps_ret (pv 2)))))), ?_⟩
    intro sx dx nx ndx ne
    refine ⟨sx, dx, rfl, upd_same, fun H1 h1 k1 => ⟨rfl, ?_⟩⟩
    have S1 := made_same nx ndx k1
    refine ⟨(by show 0 ≤ sizeLine; omega), fun nm nnm => ?_⟩
    have nmH : H nm = none := S1.free nnm
    have sxnm : sx ≠ nm := ne_of_none h1 nnm
    have S0 : Same H (upd H1 nm (.lst [])) := Same.upd S1 nmH
    have sxT : sx ≠ Tb := ne_of h1 (S1 _ _ hTb) (by intro z; cases z)
    refine ⟨fun m σ H' => ∃ (done rest : List Int) (css : List (List Int)) (st : Sj24.State) (acc : List Int) (v4 v5 v6 : Option V), m = css.length ∧ σ = [some (.ref a), some (.ref sx), some (.ref nm), some (.int (done.length : Int)), v4, v5, v6] ∧ ns = done ++ rest ∧ JM.Runs rest css ∧
        SessAt Z CS [nm, Tb] H' sx st ∧ H' nm = some (.lst (acc.map V.int)) ∧ acc ++ PyFlat.told (PyFlat.played Sj24Neutral.step st (css.map fun c => [c])) = PySj24.answers ns ∧ Fast K H' a (ns.map V.int) ∧ TabS H' Tb qLam,
      ⟨_, [], ns, css0, none, [], none, none, none, rfl, rfl, rfl, R0, ⟨fun m hm => ?_, ?_, dx, ?_⟩, upd_same, ea.symm, fa.keep (fun b ob u e => S0 _ _ e), tab0.ext S0⟩, ?_⟩
    · rcases List.mem_cons.mp hm with z | hm
      · rw [z, upd_same]
        exact fun z => by cases z
      · rw [List.mem_singleton.mp hm, S0 _ _ hTb]
        exact fun z => by cases z
    · intro z
      rcases List.mem_cons.mp z with z | z
      · exact sxnm z
      · exact sxT (List.mem_singleton.mp z)
    · rw [upd_ne sxnm]
      exact h1
    · rintro m σ H2 ⟨done, rest, css, st, acc, v4, v5, v6, rfl, rfl, hns, R, SA, Hn, hacc, fa2, tab2⟩
      have nmT : nm ≠ Tb := by
        obtain ⟨tps, hT, _⟩ := id tab2
        exact ne_of Hn hT (by intro z; cases z)
      refine ⟨_, rfl, _, rfl, a, _, rfl, .inl fa2.seq, _, _, rfl, rfl, _, rfl, ite2 (fun hb => ?_) (fun hb => ?_)⟩
      · have hb : (done.length : Int) < ((ns.map V.int).length : Int) := of_decide_eq_true hb
        rw [List.length_map] at hb
        have hrest : rest ≠ [] := fun z => by
          rw [hns, z, List.append_nil] at hb
          omega
        cases R with
        | nil => exact absurd rfl hrest
        | @cons p as rest' css' q hsh hq R' =>
          have hr1 := JM.shape_range hsh
          have hp : ns[done.length]? = some p := by
            rw [hns, List.getElem?_append_right (Nat.le_refl _), Nat.sub_self]
            rfl
          have hlen : done.length + 1 + as.length ≤ ns.length := by
            rw [hns, List.length_append, List.length_append, List.length_cons]
            omega
          refine ⟨fun σ' H' => ∃ (done' rest2 : List Int) (css2 : List (List Int)) (st' : Sj24.State) (acc' : List Int) (v4 v5 v6 : Option V), css2.length = css'.length ∧ σ' = [some (.ref a), some (.ref sx), some (.ref nm), some (.int (done'.length : Int)), v4, v5, v6] ∧ ns = done' ++ rest2 ∧ JM.Runs rest2 css2 ∧
            SessAt Z CS [nm, Tb] H' sx st' ∧ H' nm = some (.lst (acc'.map V.int)) ∧ acc' ++ PyFlat.told (PyFlat.played Sj24Neutral.step st' (css2.map fun c => [c])) = PySj24.answers ns ∧ Fast K H' a (ns.map V.int) ∧ TabS H' Tb qLam, ?_, ?_⟩
          · rintro σ' H' ⟨d', r2, c2, st', acc', w4, w5, w6, e1, e2⟩
            exact ⟨c2.length, by rw [e1, List.length_cons]; exact Nat.lt_succ_self _, d', r2, c2, st', acc', w4, w5, w6, rfl, e2⟩
          · refine ⟨_, rfl, _, rfl, a, _, _, _, rfl, rfl, fa2.seq, at_of rfl (by rw [List.getElem?_map, hp]; rfl), ?_⟩
            refine ⟨_, rfl, _, _, rfl, rfl, _, rfl, dA, p, _, rfl, rfl, hA p _ hsh, _, _, rfl, rfl, ?_⟩
            obtain ⟨ds, v, hs⟩ := SA.self
            have e5 : ((done.length : Int) + 1 + (as.length : Int)) = ((done.length + 1 + as.length : Nat) : Int) := by omega
            refine ⟨_, rfl, sx, ds, _, rfl, hs, rfl, _, rfl, _, rfl, _, rfl, _, _, rfl, rfl, _, rfl, _, rfl, _, rfl, a, _, rfl, fa2.seq, fun gv ngv => ?_⟩
            have ecut : cutV (ns.map V.int) (some ((done.length : Int) + 1)) (some ((done.length : Int) + 1 + (as.length : Int))) = as.map V.int := by
              rw [e5, show ((done.length : Int) + 1) = ((done.length + 1 : Nat) : Int) from rfl, cut_mid (by rw [List.length_map]; exact hlen), ← List.map_drop, ← List.map_take]
              congr 1
              rw [hns, show done.length + 1 = done.length + 1 from rfl, ← List.drop_drop, List.drop_left]
              show (as ++ rest').take as.length = as
              exact List.take_left
            rw [ecut]
            have Sg := Same.new (o := .lst (as.map V.int)) ngv
            refine ⟨[nm, Tb], sx, gv, st, p, as, q, rfl, SA.same Sg, SqL.of upd_same, hq, hr1.1, hr1.2, by simp, tab2.ext Sg, fun H3 aa SA3 St tab3 na ha => ?_⟩
            have Hn3 : H3 nm = some (.lst (acc.map V.int)) := St _ _ (Sg _ _ Hn) (.inl ⟨by simp, nmT⟩)
            have aanm : aa ≠ nm := fun z => by
              rw [z, Sg _ _ Hn] at na
              cases na
            have fa3 : Fast K H3 a (ns.map V.int) := fa2.keep fun b ob u e => St _ _ (Sg _ _ e) (.inr ⟨ob, u, rfl⟩)
            have put : ∀ (H4 : Hp) (o : HO), H4 nm = some (.lst (acc.map V.int)) ∨ (∃ l, H4 nm = some (.lst l)) → Fast K H4 a (ns.map V.int) ∧ TabS H4 Tb qLam → Fast K (upd H4 nm o) a (ns.map V.int) ∧ TabS (upd H4 nm o) Tb qLam := fun H4 o e ⟨f1, f2⟩ => by
              obtain ⟨l, el⟩ : ∃ l, H4 nm = some (.lst l) := by
                rcases e with e | e
                · exact ⟨_, e⟩
                · exact e
              refine ⟨f1.keep fun b ob u z => ?_, tab_keep (N := [nm]) ((Keep.refl [nm] H4).upd (List.mem_singleton.mpr rfl)) (fun b hb o z => ?_) f2⟩
              · rw [upd_ne (ne_of z el (by intro y; cases y))]
                exact z
              · rw [List.mem_singleton.mp hb, el] at z
                cases z
                exact ⟨(fun ps y => by cases y), fun c y => by cases y⟩
            rw [JM.played_cons hq] at hacc
            have lacc := congrArg List.length hacc
            simp only [List.length_append, List.length_cons] at lacc
            have l10 : 10000000 < sizeLine := by decide
            refine ⟨_, rfl, .inl ⟨rfl, _, SqL.of Hn3⟩, _, rfl, aa, _, rfl, .inl (SqL.of ha), nm, _, _, rfl, rfl, Hn3, by rw [List.length_map]; omega, ?_⟩
            refine ⟨_, rfl, .inl ⟨rfl, _, SqL.of upd_same⟩, _, rfl, nm, aa, _, _, rfl, rfl, upd_same, by rw [upd_ne aanm]; exact ha, ?_, ?_⟩
            · rw [List.length_append, List.length_map, List.length_map, List.length_cons]
              show acc.length + 1 + ((Sj24.step st q).2.l.length + 1) ≤ sizeLine
              omega
            · refine ⟨_, rfl, done ++ p :: as, rest', css', (Sj24.step st q).1, acc ++ ((((Sj24.step st q).2.v :: (Sj24.step st q).2.l).length : Int) :: ((Sj24.step st q).2.v :: (Sj24.step st q).2.l)), some (.int p), some (.int ((done.length : Int) + 1 + (as.length : Int))), some (.ref aa), rfl, ?_, ?_, R', (SA3.put (m := nm) (by simp)).put (m := nm) (by simp), ?_, ?_, ?_⟩
              · have e6 : ((done ++ p :: as).length : Int) = (done.length : Int) + 1 + (as.length : Int) := by
                  rw [List.length_append, List.length_cons]
                  omega
                rw [e6]
                rfl
              · rw [hns, List.append_assoc]
              · rw [upd_same]
                simp
              · rw [← hacc, List.append_assoc]
              · exact put _ _ (.inr ⟨_, upd_same⟩) (put _ _ (.inl Hn3) ⟨fa3, tab3⟩)
      · have hb : ¬ (done.length : Int) < ((ns.map V.int).length : Int) := fun z => hb (decide_eq_true z)
        rw [List.length_map, hns, List.length_append] at hb
        cases R with
        | nil =>
          refine ⟨_, rfl, kq _ nm ?_⟩
          rw [Hn, ← hacc]
          show some (HO.lst (acc.map V.int)) = some (HO.lst ((acc ++ []).map V.int))
          rw [List.append_nil]
        | cons _ _ _ =>
          rw [List.length_append, List.length_cons] at hb
          omega
end
end J
set_option Elab.async false
set_option maxRecDepth 100000
set_option maxHeartbeats 2000000
namespace J
open PySem PySem.Spec PyProof.Rows L2
section
variable {P : Program} {w : World} {K : PySem.W.Frag} {h : Heap} {mg : Str → Option Value}
/-- a def of the text that stands at a module's name -/
def FunAt (K : PySem.W.Frag) (mg : Str → Option Value) (x : Str) (st : Stmt) : Prop := ∃ f fd, Fun K x x st f fd ∧ mg x = some (.ref f)
theorem fun_at {x : Str} {st : Stmt} {f : Addr} {oc kV doc pm cdv ct : Value} {od an : Option Addr} {osl : Array (Option Value)} (X : K.In h) (G : h.Ns mainGlobals mg) (a : PySem.W.nsIn K mainGlobals x = some (some (.ref f)))
    (l : K.lookup f = some ⟨oc, od, .func (PySem.W.fnOf x x (defArgs st) (defBody st) (defScope st) .none kV doc pm an cdv ct), osl⟩) (c : PySem.W.codeIn K cdv x = true) (k : PySem.W.keepIn K (.ref f) = true) : FunAt K mg x st :=
  ⟨f, _, fun_mk l c k, PySem.W.mg_of X G a⟩
/-- a method of a class -/
def MethAt (K : PySem.W.Frag) (C : Addr) (m qual : Str) (st : Stmt) : Prop := ∃ f fd, Fun K m qual st f fd ∧ Meth K C m f
theorem meth_at {C f : Addr} {m qual : Str} {st : Stmt} {oc kV doc pm cdv ct : Value} {od an : Option Addr} {osl : Array (Option Value)} (a : PySem.W.findIn K (.ref C) m = some (some (.ref f))) (i : PySem.W.isFn K (.ref f) = true)
    (l : K.lookup f = some ⟨oc, od, .func (PySem.W.fnOf m qual (defArgs st) (defBody st) (defScope st) .none kV doc pm an cdv ct), osl⟩) (c : PySem.W.codeIn K cdv qual = true) (k : PySem.W.keepIn K (.ref f) = true) : MethAt K C m qual st :=
  ⟨f, _, fun_mk l c k, ⟨a, i, k⟩⟩
def InitAt (K : PySem.W.Frag) (C : Addr) (qual : Str) (st : Stmt) : Prop := ∃ f fd, Fun K "__init__" qual st f fd ∧ Mk K C f
theorem init_at {C f : Addr} {qual : Str} {st : Stmt} {oc kV doc pm cdv ct : Value} {od an : Option Addr} {osl : Array (Option Value)} (a : PySem.W.findIn K (.ref C) "__init__" = some (some (.ref f))) (i : PySem.W.isFn K (.ref f) = true)
    (l : K.lookup f = some ⟨oc, od, .func (PySem.W.fnOf "__init__" qual (defArgs st) (defBody st) (defScope st) .none kV doc pm an cdv ct), osl⟩) (c : PySem.W.codeIn K cdv qual = true) (k : PySem.W.keepIn K (.ref f) = true)
    (mk : PySem.W.makesIn K C = true) (kc : PySem.W.keepIn K (.ref C) = true) : InitAt K C qual st :=
  ⟨f, _, fun_mk l c k, ⟨mk, a, i, kc⟩⟩
end
end J
set_option Elab.async false
set_option maxRecDepth 100000
set_option maxHeartbeats 2000000
namespace J
open PySem PySem.Spec PyProof.Rows L2
/-- a def whose code object is told: what stands at its name -/
def FunAtC (K : PySem.W.Frag) (mg : Str → Option Value) (x : Str) (st : Stmt) (c : Addr) : Prop := ∃ f fd, FunC K x x st f fd c ∧ Fun K x x st f fd ∧ mg x = some (.ref f)
theorem fun_atC {K : PySem.W.Frag} {h : Heap} {mg : Str → Option Value} {x : Str} {st : Stmt} {f fx c : Addr} {oc kV doc pm cdv ct : Value} {od an : Option Addr} {osl : Array (Option Value)} (X : K.In h) (G : h.Ns mainGlobals mg) (a : PySem.W.nsIn K mainGlobals x = some (some (.ref f)))
    (l : K.lookup f = some ⟨oc, od, .func (PySem.W.fnOf x x (defArgs st) (defBody st) (defScope st) .none kV doc pm an cdv ct), osl⟩) (cc : PySem.W.codeIn K cdv x = true) (k : PySem.W.keepIn K (.ref f) = true)
    (hx : mg x = some (.ref fx)) (ho : ∃ o fd, h.get? fx = some o ∧ o.data = .func fd ∧ fd.code = .ref c) : FunAtC K mg x st c := by
  have e := hx.symm.trans (PySem.W.mg_of X G a)
  cases e
  obtain ⟨o, fd, e1, e2, e3⟩ := ho
  rw [X f _ l] at e1
  cases e1
  injection e2 with e2
  subst e2
  have e3 : cdv = .ref c := e3
  subst e3
  exact ⟨f, _, ⟨⟨oc, od, kV, doc, pm, an, ct, osl, rfl, l, cc⟩⟩, fun_mk l cc k, PySem.W.mg_of X G a⟩
end J
set_option Elab.async false
set_option maxRecDepth 100000
set_option maxHeartbeats 2000000
namespace J
open PySem PySem.Spec PyProof.Rows L2
open PySem.W (WData Codec OpenSpec WellAll)
/-! ### the end of a row whose program keeps one table of code objects -/
/-- an empty table -/
def tab0 : Obj := { cls := .none, data := .fields #[] }
/-- what is tracked at the entry: the arguments and the table -/
def hpT (H0 : Hp) (T : Addr) : Hp := fun b => if b = T then some (.tbl #[]) else H0 b
theorem hpT_at (H0 : Hp) (T : Addr) : hpT H0 T T = some (.tbl #[]) := if_pos rfl
theorem hpT_ne {H0 : Hp} {T b : Addr} (h : b ≠ T) : hpT H0 T b = H0 b := if_neg h
theorem hpT_same {H0 : Hp} {T : Addr} (n : H0 T = none) : Same H0 (hpT H0 T) := fun b o e => by
  exact (hpT_ne (ne_of_none e n)).trans e
section
variable {P : Program} {w : World} {K : PySem.W.Frag} {mg mb : Str → Option Value} {s₁ : Shared} {c T : Addr} {H0 : Hp}
/-- lists and tuples that no one writes to, the table beside them -/
structure Entry (P : Program) (w : World) (K : PySem.W.Frag) (h : Heap) (T : Addr) (H0 : Hp) : Prop where
  ok : HOk P w H0 h
  k0 : ∀ b u, H0 b = some u → K.lookup b = none
  sq : ∀ b u, H0 b = some u → ∃ cls vs n, h.get? b = some { cls := cls, data := .seq vs n }
  tab : h.get? T = some tab0
  kT : K.lookup T = none
theorem Entry.free (X : Entry P w K s₁.heap T H0) {b : Addr} {o : Obj} (e : s₁.heap.get? b = some o) (n1 : ∀ vs n, o.data ≠ .seq vs n) (n2 : o.data ≠ .fields #[]) : hpT H0 T b = none := by
  have bT : b ≠ T := fun z => by
    rw [z, X.tab] at e
    cases e
    exact n2 rfl
  rw [hpT_ne bT]
  cases q : H0 b with
  | none => rfl
  | some u =>
    obtain ⟨cls, vs, n, e2⟩ := X.sq b u q
    rw [e2] at e
    cases e
    exact absurd rfl (n1 vs n)
theorem Entry.h0T (X : Entry P w K s₁.heap T H0) : H0 T = none := by
  cases q : H0 T with
  | none => rfl
  | some u =>
    obtain ⟨cls, vs, n, e2⟩ := X.sq T u q
    rw [X.tab] at e2
    cases e2
theorem Entry.hok (X : Entry P w K s₁.heap T H0) : HOk P w (hpT H0 T) s₁.heap := fun b u e => by
  by_cases hb : b = T
  · subst hb
    rw [hpT_at] at e
    cases e
    exact X.tab
  · rw [hpT_ne hb] at e
    have S := hpT_same (T := T) X.h0T
    exact (X.ok b u e).stay (fun _ _ _ q => q) (fun b q => S _ _ q) fun b xs q => S _ _ q
theorem Entry.ns (X : Entry P w K s₁.heap T H0) {b : Addr} {m : Str → Option Value} (N : s₁.heap.Ns b m) : (hidT s₁.heap (hpT H0 T)).Ns b m := by
  obtain ⟨o, es, ep, e, d, r⟩ := N
  refine ⟨o, es, ep, hidT_get e (X.free e (fun vs n z => ?_) fun z => ?_), d, r⟩
  · rw [d] at z
    cases z
  · rw [d] at z
    cases z
theorem Entry.kin (X : Entry P w K s₁.heap T H0) (KX : K.In s₁.heap) : K.In (hidT s₁.heap (hpT H0 T)) := fun b o e => by
  refine hidT_get (KX b o e) ?_
  have bT : b ≠ T := fun z => by
    rw [z, X.kT] at e
    cases e
  rw [hpT_ne bT]
  cases q : H0 b with
  | none => rfl
  | some u =>
    rw [X.k0 b u q] at e
    cases e
theorem Entry.tabB (X : Entry P w K s₁.heap T H0) (C : PySem.W.CodeHd s₁.heap c T) (hns : s₁.heap.Ns mainGlobals mg)
    (hbm : ∃ (bm : Addr) (ob : Obj), mg "__builtins__" = some (.ref bm) ∧ bm ≠ builtinsNs ∧ s₁.heap.get? bm = some ob ∧ ob.cls = .type "module" ∧ ob.dict = some builtinsNs ∧ ob.data = .plain) : LamX.TabB (hidT s₁.heap (hpT H0 T)) mg c T := by
  refine ⟨?_, ?_, fun z => ?_⟩
  · obtain ⟨o, us, file, tf, flags, tg, inF, text, tt, e1, r1, r2, r3, r⟩ := C
    refine ⟨o, us, file, tf, flags, tg, inF, text, tt, hidT_get e1 (X.free e1 (fun vs n z => ?_) fun z => ?_), r1, r2, r3, r⟩
    · rw [r2] at z
      cases z
    · rw [r2] at z
      cases z
      cases r3
  · obtain ⟨bm, ob, b1, b2, b3, b4, b5, b6⟩ := hbm
    refine ⟨bm, ob, b1, b2, fun q => ?_, fun q => ?_, hidT_get b3 (X.free b3 (fun vs n z => ?_) fun z => ?_), b4, b5, b6⟩
    · obtain ⟨o, es, ep, e, hd, _⟩ := hns
      rw [q, e] at b3
      cases b3
      rw [hd] at b6
      cases b6
    · rw [q, X.tab] at b3
      cases b3
      cases b6
    · rw [b6] at z
      cases z
    · rw [b6] at z
      cases z
  · obtain ⟨o, es, ep, e, hd, _⟩ := hns
    rw [z, X.tab] at e
    cases e
    cases hd
end
/-- what an argument tracks -/
theorem entry_args {P : Program} {w : World} {K : PySem.W.Frag} {h : Heap} {T : Addr} {A : List Addr} (ar : ∀ a ∈ A, ArgOb h A a) (tab : h.get? T = some tab0) (kT : K.lookup T = none) : Entry P w K h T (argH K h A) := by
  refine ⟨argH_ok ar, fun b u q => (argH_is ar q).1, fun b u q => ?_, tab, kT⟩
  obtain ⟨_, vs, _, _, ⟨e, _⟩ | ⟨e, _⟩⟩ := argH_is ar q
  · exact ⟨_, _, _, e⟩
  · exact ⟨_, _, _, e⟩
/-- the call itself -/
theorem tab_call {P : Program} {w : World} {K : PySem.W.Frag} {mg mb : Str → Option Value} {k : Nat} {fa c T : Addr} {fd : FuncData} {ps : List Str} {sp : Sp} {s₁ : Shared} {vals : List Value} {ds : List WData} {R : PySem.W.WRecords} {cl : Str → Option Addr} {d0 : WData}
    (KX : K.In s₁.heap) (hns : s₁.heap.Ns mainGlobals mg) (hb : s₁.heap.Ns builtinsNs mb) (hbb : ∀ x : Str, x ≠ "__name__" → mb x = bootBuiltins x) (lim : s₁.heap.NoLimit) (hg : s₁.gens = #[])
    (hwl : WellAll w.params s₁.heap vals ds) (hpl : plWs ds = true) (hwt : ∀ d ∈ ds, d.weight ≤ 1048576) (hr : Room k callerA)
    (hbm : ∃ (bm : Addr) (ob : Obj), mg "__builtins__" = some (.ref bm) ∧ bm ≠ builtinsNs ∧ s₁.heap.get? bm = some ob ∧ ob.cls = .type "module" ∧ ob.dict = some builtinsNs ∧ ob.data = .plain)
    (C : PySem.W.CodeHd s₁.heap c T) (tab : s₁.heap.get? T = some tab0) (kT : K.lookup T = none)
    (F : ∀ base : Heap, K.In base → base.Ns mainGlobals mg → LamX.TabB base mg c T → FnOk P w K mg base CX0 k fa fd ps sp)
    (bind : ∀ (s : Shared) (us : List Value), us.length = ps.length → BindsTo s fd ⟨us, []⟩ (ps.zip us)) (hlen : ds.length = ps.length)
    (hsp : ∀ (H0 H : Hp) (xs : List V), OnlyF H0 → Same H0 H → (∀ b, b ≠ T → H b = H0 b) → H T = some (.tbl #[]) → DwAll K H0 xs ds → sp xs H (fun v H' => Dw K H' v d0) E0) :
    codeAny (model P w) callerA (.call (.ref fa) ⟨vals, []⟩) (fun r s' => ∃ u as, r = .ok (.ret u) ∧ PySem.W.ReadsW R cl s'.heap u d0 as ∧ OldK s₁.heap s'.heap ∧ s'.os = s₁.os ∧ AllBare s'.gens) s₁ := by
  obtain ⟨A, ho, ar⟩ := area_all ds vals hwl hpl hwt
  have X : Entry P w K s₁.heap T (argH K s₁.heap A) := entry_args ar tab kT
  have only : OnlyF (argH K s₁.heap A) := argH_only ar
  have dw := dw_all KX ar ds _ hwl hpl ho
  have len : vals.length = ps.length := (wellAll_len hwl).trans hlen
  generalize argH K s₁.heap A = H0 at X only dw
  have ent : Env0 P w K mg (hidT s₁.heap (hpT H0 T)) callerA [] s₁ (hpT H0 T) :=
    ⟨rfl, ⟨X.kin KX, X.ns hns, ⟨mb, X.ns hb, hbb⟩, (by obtain ⟨mc, q1, q2⟩ := lim; exact ⟨mc, X.ns q1, q2⟩)⟩, fun b o e => of_hidT e, Nat.le_of_eq (hidT_size _ _), trivial, (fun b hb => by cases hb), X.hok, .of_eq hg⟩
  have want := hsp H0 (hpT H0 T) _ only (hpT_same X.h0T) (fun b hb => hpT_ne hb) (hpT_at H0 T) dw
  refine codeAny_mono ((F _ (X.kin KX) (X.ns hns) (X.tabB C hns hbm)).run callerA [] s₁ _ ⟨vals, []⟩ vals _ _ _ hr ent (bind s₁ vals len) (vals_toV ho) want) fun r s' x => ?_
  match r, x with
  | .ok (.ret u), x =>
    obtain ⟨v, H', os, bare, un, hok', rv, q⟩ := x
    have stay : ∀ b o, b ≠ T → s₁.heap.get? b = some o → s'.heap.get? b = some o := fun b o bT e => by
      cases q2 : H0 b with
      | none => exact un.keep b o e ((hpT_ne bT).trans q2) (fun z => by cases z) (fun z => by cases z)
      | some u2 =>
        rcases only b with z | ⟨ob, u3, z⟩
        · rw [q2] at z
          cases z
        · have z1 := (hpT_ne (H0 := H0) bT).trans z
          obtain ⟨e1, _⟩ := X.hok b _ z1
          obtain ⟨e2, _⟩ := hok' b _ (un.frzs b ob _ z1)
          rw [e] at e1
          cases e1
          exact e2
    obtain ⟨more, grown⟩ : ∃ more : Array Value, s'.heap.get? T = some { cls := .none, data := .fields more } := by
      obtain ⟨more, z⟩ := un.tbls T #[] (hpT_at H0 T)
      exact ⟨_, hok' T _ z⟩
    have KX' : K.In s'.heap := fun b o e => stay b o (fun z => by rw [z, kT] at e; cases e) (KX b o e)
    obtain ⟨as, rd⟩ := Dw.reads (R := R) (cl := cl) hok' KX' d0 v u q rv
    refine ⟨u, as, rfl, rd, ⟨fun b o e => ?_, fun b o e => ?_⟩, os, bare⟩
    · by_cases bT : b = T
      · subst bT
        rw [tab] at e
        cases e
        exact .inr (.inl ⟨(C.tab tab).isCodeTable, rfl, #[], more, rfl, by rw [Array.empty_append]; exact grown⟩)
      · exact .inl (stay b o bT e)
    · by_cases bT : b = T
      · rw [bT]
        exact ⟨_, grown⟩
      · exact ⟨o, stay b o bT e⟩
  | .ok .next, x => exact False.elim x
  | .ok .brk, x => exact False.elim x
  | .ok .cont, x => exact False.elim x
  | .error e, x => exact False.elim x
/-- no empty table stands in the written part -/
def isTab (o : Obj) : Bool := match o.cls, o.data with
  | .none, .fields vs => vs.isEmpty
  | _, _ => false
def noTab (K : PySem.W.Frag) : Bool := K.all fun p => !isTab p.2
theorem of_lookup {a : Addr} {o : Obj} : ∀ {K : PySem.W.Frag}, K.lookup a = some o → (a, o) ∈ K
  | [], h => by cases h
  | (b, u) :: K, h => by
    rw [List.lookup_cons] at h
    by_cases e : (a == b) = true
    · rw [e] at h
      cases h
      rw [beq_iff_eq.mp e]
      exact List.mem_cons_self
    · rw [Bool.eq_false_iff.mpr e] at h
      exact List.mem_cons_of_mem _ (of_lookup h)
theorem no_tab {K : PySem.W.Frag} {h : Heap} {T : Addr} (n : noTab K = true) (X : K.In h) (t : h.get? T = some tab0) : K.lookup T = none := by
  cases e : K.lookup T with
  | none => rfl
  | some o =>
    have q := X T o e
    rw [t] at q
    cases q
    have := List.all_eq_true.mp n (T, tab0) (of_lookup e)
    cases this
/-- the row: a def of the program with a table of code objects is told by its record -/
theorem walk_tab {r : OpenSpec} {k : Nat} {q : Program} {loose : List Str} {XP : (Str → Option Value) → Heap → Prop} {YP : World → Heap → Prop} {d : DefRec} {K : Params → PySem.W.Frag} {ps : List Str} {sp : Addr → PySem.W.Frag → Sp} (x : Str)
    (well : r.wellSaid = true) (hlen : r.args.length = ps.length) (hr : Room k callerA) (hY : ∀ (w : World) (h : Heap), YP w h → (K w.params).In h) (hdx : ((recsOf q).any fun d => d.name == x) = true)
    (F : ∀ (w : World) (mg : Str → Option Value) (fa fx c T : Addr) (h : Heap), (K w.params).In h → h.Ns mainGlobals mg → mg d.name = some (.ref fa) → mg x = some (.ref fx) → (∃ o fd, h.get? fx = some o ∧ o.data = .func fd ∧ fd.code = .ref c) → h.get? T = some tab0 →
      (K w.params).lookup T = none ∧ ∃ fd : FuncData, (∀ (s : Shared) (us : List Value), us.length = ps.length → BindsTo s fd ⟨us, []⟩ (ps.zip us)) ∧
        ∀ base : Heap, (K w.params).In base → base.Ns mainGlobals mg → LamX.TabB base mg c T → FnOk r.prog w (K w.params) mg base CX0 k fa fd ps (sp T (K w.params)))
    (hsp : ∀ (K : PySem.W.Frag) (T : Addr) (H0 H : Hp) (xs : List V) (a : Codec.denoteAll r.args), OnlyF H0 → Same H0 H → (∀ b, b ≠ T → H b = H0 b) → H T = some (.tbl #[]) → Codec.withinAll r.args a = true → Codec.app r.args r.asked a = true → DwAll K H0 xs (Codec.encAll r.args a) →
      sp T K xs H (fun v H' => Dw K H' v (r.ret.enc (Codec.app r.args r.f a))) E0) :
    PySem.W.WalkOS q loose XP YP r d [] (fun f vs => PySem.call f vs) := by
  intro w s₀ s₁ mg mb G Y fa o pm cd doc dV kV ho hd hcd hD hmg hg args vals as hpre hlay hrd hwl hlo
  obtain ⟨a, e1, asked⟩ := PySem.W.os_pre_some hpre
  obtain ⟨rfl, hwi⟩ := Codec.encAll_of_decAll r.args args a e1
  obtain ⟨dx, hm, hn⟩ := List.any_eq_true.mp hdx
  obtain ⟨fx, ox, fdx, c, T, t1, t2, t3, t4, t5, t6⟩ := G.T.tab dx hm
  rw [beq_iff_eq.mp hn] at t1
  obtain ⟨kT, fd, bind, hF⟩ := F w mg fa fx c T _ (hY w _ Y) G.T.g hmg t1 ⟨ox, fdx, t2, t3, t4⟩ t6.2
  have call := tab_call (R := []) (cl := classAt s₀.heap) (d0 := r.ret.enc (Codec.app r.args r.f a)) (hY w _ Y) G.T.g G.T.b G.T.builtins G.T.nolimit hg hwl (pl_encAll _ _) (layable_weight hlay) hr G.T.bmain (PySem.W.CodeHd.of t5 t6) t6.2 kT hF bind ((encAll_len _ _).trans hlen)
    fun H0 H xs h1 h2 h3 h4 h5 => hsp (K w.params) T H0 H xs a h1 h2 h3 h4 hwi asked h5
  refine PySem.W.enter_call (codeAny_mono call fun r' s' hq => ?_)
  obtain ⟨u, as', rfl, h1, h2, h3, h4⟩ := hq
  exact ⟨.inl ⟨u, _, as', rfl, fun _ => rfl, h1, (OpenSpec.post_iff well hwi _ _).mpr rfl, fun z => by cases z⟩, h2, h3, h4⟩
end J
set_option Elab.async false
set_option maxRecDepth 100000
set_option maxHeartbeats 4000000
namespace J
open PySem PySem.Spec PyProof.Rows L2
theorem exm_self {K : PySem.W.Frag} {S : Addr} (h1 : PySem.W.subIn K (.ref S) (.type "BaseException") = some true) (h2 : PySem.W.isClsIn K S = true) (h3 : PySem.W.typeIn K (.ref S) = some (.type "type")) (h4 : PySem.W.subIn K (.ref S) (.ref S) = some true) :
    PySem.W.exmOne K (.ref S) (.ref S) = some true := by
  have e1 : (PySem.W.subIn K (.ref S) (.type "BaseException") == some true) = true := by rw [h1] <;> rfl
  have e2 : ((PySem.W.clsIn K S).isSome && PySem.W.typeIn K (.ref S) == some (.type "type")) = true := by
    have h2' : (PySem.W.clsIn K S).isSome = true := h2
    rw [h2', h3] <;> rfl
  show (if (PySem.W.subIn K (.ref S) (.type "BaseException") == some true) = true then (if ((PySem.W.clsIn K S).isSome && PySem.W.typeIn K (.ref S) == some (.type "type")) = true then PySem.W.subIn K (.ref S) (.ref S) else none) else none) = some true
  rw [if_pos e1, if_pos e2]
  exact h4
/-- how many numbers stand behind a call's number, as the program's table has it -/
def tabOk (es : Array DictEntry) : Bool := (List.range 13).all fun i => match PySj24.shape ((i : Int) + 1), findBy keyIs es (.inl ((i : Int) + 1)) with
  | some (n, 0), some (.int m _) => m == (n : Int)
  | _, _ => false
theorem tab_at {K : PySem.W.Frag} {dA : Addr} {es : Array DictEntry} {n : Nat} (l : K.lookup dA = some ⟨.type "dict", none, .dict es n, #[]⟩) (c : chkInts es = true) (t : tabOk es = true) : ∀ (p : Int) (k : Nat), PySj24.shape p = some (k, 0) → KInt K dA p (.int (k : Int)) := fun p k h => by
  obtain ⟨h1, h2⟩ := JM.shape_range h
  have q := List.all_eq_true.mp t (p.toNat - 1) (List.mem_range.mpr (by omega))
  have ep : ((p.toNat - 1 : Nat) : Int) + 1 = p := by omega
  rw [ep, h] at q
  cases e : findBy keyIs es (.inl p) with
  | none =>
    rw [e] at q
    cases q
  | some u =>
    rw [e] at q
    cases u with
    | int m t => exact ⟨es, n, .int m t, l, c, e, t, by rw [beq_iff_eq.mp q]⟩
    | _ => cases q
/-- all that the top has written and the proof asks for -/
structure Facts (K : PySem.W.Frag) (mg : Str → Option Value) (Z : Cls4) (CS CO dA dH c : Addr) : Prop where
  f_row_of : FunAt K mg "row_of" s_row_of
  f_column_of : FunAt K mg "column_of" s_column_of
  f_row_step : FunAt K mg "row_step" s_row_step
  f_column_step : FunAt K mg "column_step" s_column_step
  f_neighbours : FunAt K mg "neighbours" s_neighbours
  f_nearest : FunAt K mg "nearest" s_nearest
  f_check_range : FunAt K mg "check_range" s_check_range
  f_check_all : FunAt K mg "check_all" s_check_all
  f_weighed_sum : FunAt K mg "weighed_sum" s_weighed_sum
  f_weigh : FunAt K mg "weigh" s_weigh
  f_is_seed : FunAt K mg "is_seed" s_is_seed
  f_seed_blocks : FunAt K mg "seed_blocks" s_seed_blocks
  f_owners_of : FunAt K mg "owners_of" s_owners_of
  f_divide : FunAt K mg "divide" s_divide
  f_clusters_of : FunAt K mg "clusters_of" s_clusters_of
  f_energy_inside : FunAt K mg "energy_inside" s_energy_inside
  f_squared_distance : FunAt K mg "squared_distance" s_squared_distance
  f_joined : FunAt K mg "joined" s_joined
  f_greatest_place : FunAt K mg "greatest_place" s_greatest_place
  f_next_step : FunAt K mg "next_step" s_next_step
  f_jets_of : FunAtC K mg "jets_of" s_jets_of c
  f_strips_of : FunAt K mg "strips_of" s_strips_of
  f_greatest_window : FunAt K mg "greatest_window" s_greatest_window
  f_blank_readings : FunAt K mg "blank_readings" s_blank_readings
  f_present_time : FunAt K mg "present_time" s_present_time
  f_present_full : FunAt K mg "present_full" s_present_full
  i_Gain : InitAt K Z.CG "Gain.__init__" s_Gain_init
  g_Gain : mg "Gain" = some (.ref Z.CG)
  c_Gain : Clx K Z.CG ["mul", "shift", "zero"]
  i_Reading : InitAt K Z.CR "Reading.__init__" s_Reading_init
  g_Reading : mg "Reading" = some (.ref Z.CR)
  c_Reading : Clx K Z.CR ["energy", "time", "full"]
  i_Cluster : InitAt K Z.CC "Cluster.__init__" s_Cluster_init
  g_Cluster : mg "Cluster" = some (.ref Z.CC)
  c_Cluster : Clx K Z.CC ["seed", "parts", "energy", "column", "row"]
  i_Detector : InitAt K Z.CD "Detector.__init__" s_Detector_init
  g_Detector : mg "Detector" = some (.ref Z.CD)
  c_Detector : Clx K Z.CD ["seed", "low", "reach", "gains", "energy_weights", "time_weights", "readings", "clusters", "jets"]
  i_Pseudojet : InitAt K Z.CJ "Pseudojet.__init__" s_Pseudojet_init
  g_Pseudojet : mg "Pseudojet" = some (.ref Z.CJ)
  c_Pseudojet : Clx K Z.CJ ["energy", "column", "row", "clusters"]
  i_Session : InitAt K CS "Session.__init__" s_Session_init
  g_Session : mg "Session" = some (.ref CS)
  c_Session : Clx K CS ["detector"]
  f_set_gain : MethAt K Z.CD "set_gain" "Detector.set_gain" s_Detector_set_gain
  f_set_weights : MethAt K Z.CD "set_weights" "Detector.set_weights" s_Detector_set_weights
  f_take_pulse : MethAt K Z.CD "take_pulse" "Detector.take_pulse" s_Detector_take_pulse
  f_reading_of : MethAt K Z.CD "reading_of" "Detector.reading_of" s_Detector_reading_of
  f_present_energies : MethAt K Z.CD "present_energies" "Detector.present_energies" s_Detector_present_energies
  f_find_clusters : MethAt K Z.CD "find_clusters" "Detector.find_clusters" s_Detector_find_clusters
  f_cluster_at : MethAt K Z.CD "cluster_at" "Detector.cluster_at" s_Detector_cluster_at
  f_find_jets : MethAt K Z.CD "find_jets" "Detector.find_jets" s_Detector_find_jets
  f_jet_at : MethAt K Z.CD "jet_at" "Detector.jet_at" s_Detector_jet_at
  f_energy_sums : MethAt K Z.CD "energy_sums" "Detector.energy_sums" s_Detector_energy_sums
  f_window_of : MethAt K Z.CD "window_of" "Detector.window_of" s_Detector_window_of
  f_clear_blocks : MethAt K Z.CD "clear_blocks" "Detector.clear_blocks" s_Detector_clear_blocks
  f_answer : MethAt K CS "answer" "Session.answer" s_Session_answer
  f_answer_gain : ∃ f fd, Fun K "answer_gain" "answer_gain" s_answer_gain f fd ∧ KInt K dH 2 (.ref f)
  f_answer_weights : ∃ f fd, Fun K "answer_weights" "answer_weights" s_answer_weights f fd ∧ KInt K dH 3 (.ref f)
  f_answer_pulse : ∃ f fd, Fun K "answer_pulse" "answer_pulse" s_answer_pulse f fd ∧ KInt K dH 4 (.ref f)
  f_answer_block : ∃ f fd, Fun K "answer_block" "answer_block" s_answer_block f fd ∧ KInt K dH 5 (.ref f)
  f_answer_find_clusters : ∃ f fd, Fun K "answer_find_clusters" "answer_find_clusters" s_answer_find_clusters f fd ∧ KInt K dH 6 (.ref f)
  f_answer_cluster : ∃ f fd, Fun K "answer_cluster" "answer_cluster" s_answer_cluster f fd ∧ KInt K dH 7 (.ref f)
  f_answer_parts : ∃ f fd, Fun K "answer_parts" "answer_parts" s_answer_parts f fd ∧ KInt K dH 8 (.ref f)
  f_answer_find_jets : ∃ f fd, Fun K "answer_find_jets" "answer_find_jets" s_answer_find_jets f fd ∧ KInt K dH 9 (.ref f)
  f_answer_jet : ∃ f fd, Fun K "answer_jet" "answer_jet" s_answer_jet f fd ∧ KInt K dH 10 (.ref f)
  f_answer_sums : ∃ f fd, Fun K "answer_sums" "answer_sums" s_answer_sums f fd ∧ KInt K dH 11 (.ref f)
  f_answer_window : ∃ f fd, Fun K "answer_window" "answer_window" s_answer_window f fd ∧ KInt K dH 12 (.ref f)
  f_answer_clear : ∃ f fd, Fun K "answer_clear" "answer_clear" s_answer_clear f fd ∧ KInt K dH 13 (.ref f)
  n_SIDE : IntAt mg "SIDE" 32
  n_BLOCKS : IntAt mg "BLOCKS" 1024
  n_FINENESS : IntAt mg "FINENESS" 64
  n_CYCLE : IntAt mg "CYCLE" 2048
  n_SAMPLES : IntAt mg "SAMPLES" 8
  n_GREATEST_SAMPLE : IntAt mg "GREATEST_SAMPLE" 4095
  n_GREATEST_ENERGY : IntAt mg "GREATEST_ENERGY" 1099511627776
  n_LEAST_TIME : IntAt mg "LEAST_TIME" (-32768)
  n_GREATEST_TIME : IntAt mg "GREATEST_TIME" 32767
  n_GAINS : IntAt mg "GAINS" 4
  n_GREATEST_REACH : IntAt mg "GREATEST_REACH" 1024
  n_GREATEST_MUL : IntAt mg "GREATEST_MUL" 1048576
  n_GREATEST_SHIFT : IntAt mg "GREATEST_SHIFT" 24
  n_LEAST_WEIGHT : IntAt mg "LEAST_WEIGHT" (-32768)
  n_GREATEST_WEIGHT : IntAt mg "GREATEST_WEIGHT" 32767
  n_NO_CALORIMETER : IntAt mg "NO_CALORIMETER" (-7)
  n_OUT_OF_RANGE : IntAt mg "OUT_OF_RANGE" (-2)
  n_OPENING : IntAt mg "OPENING" 1
  z_sum : mg "sum" = none
  z_max : mg "max" = none
  z_min : mg "min" = none
  z_len : mg "len" = none
  z_range : mg "range" = none
  z_zip : mg "zip" = none
  z_sorted : mg "sorted" = none
  z_abs : mg "abs" = none
  z_enumerate : mg "enumerate" = none
  z_list : mg "list" = none
  oor : Oor K mg CO
  gA : mg "ARGUMENTS" = some (.ref dA)
  gH : mg "HANDLERS" = some (.ref dH)
  hA : ∀ (p : Int) (n : Nat), PySj24.shape p = some (n, 0) → KInt K dA p (.int (n : Int))
section
variable {P : Program} {w : World} {K : PySem.W.Frag} {mg : Str → Option Value} {base : Heap} {f CO CS dA dH c T : Addr} {Z : Cls4} {fd : FuncData}
/-- every def keeps its promise: the whole, from the facts -/
theorem whole (A : Facts K mg Z CS CO dA dH c) (TB : LamX.TabB base mg c T) (F : Fun K "answers" "answers" s_answers f fd) : FnOk P w K mg base CX0 9 f fd ["calls"] (sp_answers T K) := by
  have d_row_of : Def P w K mg base CX0 "row_of" 1 ["block"] sp_row_of := by
    obtain ⟨f, fd, F, hm⟩ := A.f_row_of
    exact Def.mk' (ok_row_of F A.n_SIDE) hm F.kp (F.binds (ps := ["block"]) fun _ _ _ _ _ _ us hl => match us, hl with | [_], _ => rfl)
  have d_column_of : Def P w K mg base CX0 "column_of" 1 ["block"] sp_column_of := by
    obtain ⟨f, fd, F, hm⟩ := A.f_column_of
    exact Def.mk' (ok_column_of F A.n_SIDE) hm F.kp (F.binds (ps := ["block"]) fun _ _ _ _ _ _ us hl => match us, hl with | [_], _ => rfl)
  have d_row_step : Def P w K mg base CX0 "row_step" 2 ["start", "end"] sp_row_step := by
    obtain ⟨f, fd, F, hm⟩ := A.f_row_step
    exact Def.mk' (ok_row_step F A.n_SIDE d_row_of) hm F.kp (F.binds (ps := ["start", "end"]) fun _ _ _ _ _ _ us hl => match us, hl with | [_, _], _ => rfl)
  have d_column_step : Def P w K mg base CX0 "column_step" 2 ["start", "end"] sp_column_step := by
    obtain ⟨f, fd, F, hm⟩ := A.f_column_step
    exact Def.mk' (ok_column_step F d_column_of) hm F.kp (F.binds (ps := ["start", "end"]) fun _ _ _ _ _ _ us hl => match us, hl with | [_, _], _ => rfl)
  have d_neighbours : Def P w K mg base CX0 "neighbours" 2 ["block"] sp_neighbours := by
    obtain ⟨f, fd, F, hm⟩ := A.f_neighbours
    exact Def.mk' (ok_neighbours F A.n_SIDE A.z_sorted d_row_of d_column_of) hm F.kp (F.binds (ps := ["block"]) fun _ _ _ _ _ _ us hl => match us, hl with | [_], _ => rfl)
  have d_nearest : Def P w K mg base CX0 "nearest" 1 ["dividend", "divisor"] sp_nearest := by
    obtain ⟨f, fd, F, hm⟩ := A.f_nearest
    exact Def.mk' (ok_nearest F ) hm F.kp (F.binds (ps := ["dividend", "divisor"]) fun _ _ _ _ _ _ us hl => match us, hl with | [_, _], _ => rfl)
  have d_check_range : Def P w K mg base (L2.CX P w) "check_range" 1 ["value", "least", "greatest"] (sp_check_range CO) := by
    obtain ⟨f, fd, F, hm⟩ := A.f_check_range
    exact Def.mk' (ok_check_range F A.oor) hm F.kp (F.binds (ps := ["value", "least", "greatest"]) fun _ _ _ _ _ _ us hl => match us, hl with | [_, _, _], _ => rfl)
  have d_check_all : Def P w K mg base (L2.CX P w) "check_all" 2 ["values", "least", "greatest"] (sp_check_all K CO) := by
    obtain ⟨f, fd, F, hm⟩ := A.f_check_all
    exact Def.mk' (ok_check_all F A.oor d_check_range) hm F.kp (F.binds (ps := ["values", "least", "greatest"]) fun _ _ _ _ _ _ us hl => match us, hl with | [_, _, _], _ => rfl)
  have d_weighed_sum : Def P w K mg base CX0 "weighed_sum" 1 ["samples", "factors", "zero"] (sp_weighed_sum K) := by
    obtain ⟨f, fd, F, hm⟩ := A.f_weighed_sum
    exact Def.mk' (ok_weighed_sum F A.z_sum A.z_zip) hm F.kp (F.binds (ps := ["samples", "factors", "zero"]) fun _ _ _ _ _ _ us hl => match us, hl with | [_, _, _], _ => rfl)
  have k_Gain : Ctor P w K mg base CX0 "Gain" Z.CG 1 ["self", "mul", "shift", "zero"] (sp_Gain_init Z.CG) := by
    obtain ⟨f, fd, F, M⟩ := A.i_Gain
    exact ⟨⟨f, fd, M, ok_Gain_init F A.c_Gain, (F.binds (ps := ["self", "mul", "shift", "zero"]) fun _ _ _ _ _ _ us hl => match us, hl with | [_, _, _, _], _ => rfl)⟩, A.g_Gain⟩
  have k_Reading : Ctor P w K mg base CX0 "Reading" Z.CR 1 ["self", "energy", "time", "full"] (sp_Reading_init Z.CR) := by
    obtain ⟨f, fd, F, M⟩ := A.i_Reading
    exact ⟨⟨f, fd, M, ok_Reading_init F A.c_Reading, (F.binds (ps := ["self", "energy", "time", "full"]) fun _ _ _ _ _ _ us hl => match us, hl with | [_, _, _, _], _ => rfl)⟩, A.g_Reading⟩
  have d_weigh : Def P w K mg base CX0 "weigh" 3 ["samples", "gain", "energy_weights", "time_weights"] (sp_weigh K Z.CG Z.CR) := by
    obtain ⟨f, fd, F, hm⟩ := A.f_weigh
    exact Def.mk' (ok_weigh F A.c_Gain A.n_GREATEST_SAMPLE A.n_GREATEST_ENERGY A.n_LEAST_TIME A.n_GREATEST_TIME A.z_min A.z_max d_weighed_sum d_nearest k_Reading) hm F.kp (F.binds (ps := ["samples", "gain", "energy_weights", "time_weights"]) fun _ _ _ _ _ _ us hl => match us, hl with | [_, _, _, _], _ => rfl)
  have d_is_seed : Def P w K mg base CX0 "is_seed" 3 ["block", "energies", "seed"] (sp_is_seed K) := by
    obtain ⟨f, fd, F, hm⟩ := A.f_is_seed
    exact Def.mk' (ok_is_seed F d_neighbours) hm F.kp (F.binds (ps := ["block", "energies", "seed"]) fun _ _ _ _ _ _ us hl => match us, hl with | [_, _, _], _ => rfl)
  have d_seed_blocks : Def P w K mg base CX0 "seed_blocks" 4 ["energies", "seed"] (sp_seed_blocks K) := by
    obtain ⟨f, fd, F, hm⟩ := A.f_seed_blocks
    exact Def.mk' (ok_seed_blocks F A.n_BLOCKS A.z_range d_is_seed) hm F.kp (F.binds (ps := ["energies", "seed"]) fun _ _ _ _ _ _ us hl => match us, hl with | [_, _], _ => rfl)
  have d_owners_of : Def P w K mg base CX0 "owners_of" 3 ["block", "energies", "seeds", "low"] (sp_owners_of K) := by
    obtain ⟨f, fd, F, hm⟩ := A.f_owners_of
    exact Def.mk' (ok_owners_of F d_neighbours) hm F.kp (F.binds (ps := ["block", "energies", "seeds", "low"]) fun _ _ _ _ _ _ us hl => match us, hl with | [_, _, _, _], _ => rfl)
  have d_divide : Def P w K mg base CX0 "divide" 1 ["energy", "seed_energies"] (sp_divide K) := by
    obtain ⟨f, fd, F, hm⟩ := A.f_divide
    exact Def.mk' (ok_divide F A.z_sum A.z_max) hm F.kp (F.binds (ps := ["energy", "seed_energies"]) fun _ _ _ _ _ _ us hl => match us, hl with | [_, _], _ => rfl)
  have k_Cluster : Ctor P w K mg base CX0 "Cluster" Z.CC 3 ["self", "seed", "parts"] (sp_Cluster_init Z.CC) := by
    obtain ⟨f, fd, F, M⟩ := A.i_Cluster
    exact ⟨⟨f, fd, M, ok_Cluster_init F A.c_Cluster A.n_FINENESS A.n_CYCLE A.z_sum d_row_of d_column_of d_row_step d_column_step d_nearest, (F.binds (ps := ["self", "seed", "parts"]) fun _ _ _ _ _ _ us hl => match us, hl with | [_, _, _], _ => rfl)⟩, A.g_Cluster⟩
  have d_clusters_of : Def P w K mg base CX0 "clusters_of" 5 ["energies", "seed", "low"] (sp_clusters_of K Z.CC) := by
    obtain ⟨f, fd, F, hm⟩ := A.f_clusters_of
    exact Def.mk' (ok_clusters_of F A.n_BLOCKS A.z_range A.z_zip d_seed_blocks d_owners_of d_divide k_Cluster) hm F.kp (F.binds (ps := ["energies", "seed", "low"]) fun _ _ _ _ _ _ us hl => match us, hl with | [_, _, _], _ => rfl)
  have d_energy_inside : Def P w K mg base CX0 "energy_inside" 5 ["energies", "seed", "low"] (sp_energy_inside K) := by
    obtain ⟨f, fd, F, hm⟩ := A.f_energy_inside
    exact Def.mk' (ok_energy_inside F A.n_BLOCKS A.z_range A.z_sum d_seed_blocks d_owners_of) hm F.kp (F.binds (ps := ["energies", "seed", "low"]) fun _ _ _ _ _ _ us hl => match us, hl with | [_, _, _], _ => rfl)
  have k_Pseudojet : Ctor P w K mg base CX0 "Pseudojet" Z.CJ 1 ["self", "energy", "column", "row", "clusters"] (sp_Pseudojet_init Z.CJ) := by
    obtain ⟨f, fd, F, M⟩ := A.i_Pseudojet
    exact ⟨⟨f, fd, M, ok_Pseudojet_init F A.c_Pseudojet, (F.binds (ps := ["self", "energy", "column", "row", "clusters"]) fun _ _ _ _ _ _ us hl => match us, hl with | [_, _, _, _, _], _ => rfl)⟩, A.g_Pseudojet⟩
  have d_squared_distance : Def P w K mg base CX0 "squared_distance" 1 ["one", "other"] (sp_squared_distance Z.CJ) := by
    obtain ⟨f, fd, F, hm⟩ := A.f_squared_distance
    exact Def.mk' (ok_squared_distance F A.c_Pseudojet A.n_CYCLE A.z_abs A.z_min) hm F.kp (F.binds (ps := ["one", "other"]) fun _ _ _ _ _ _ us hl => match us, hl with | [_, _], _ => rfl)
  have d_joined : Def P w K mg base CX0 "joined" 3 ["first", "second"] (sp_joined Z.CJ) := by
    obtain ⟨f, fd, F, hm⟩ := A.f_joined
    exact Def.mk' (ok_joined F A.c_Pseudojet A.z_sorted k_Pseudojet) hm F.kp (F.binds (ps := ["first", "second"]) fun _ _ _ _ _ _ us hl => match us, hl with | [_, _], _ => rfl)
  have d_greatest_place : Def P w K mg base CX0 "greatest_place" 1 ["pseudojets"] (sp_greatest_place Z.CJ) := by
    obtain ⟨f, fd, F, hm⟩ := A.f_greatest_place
    exact Def.mk' (ok_greatest_place F A.c_Pseudojet A.z_max) hm F.kp (F.binds (ps := ["pseudojets"]) fun _ _ _ _ _ _ us hl => match us, hl with | [_], _ => rfl)
  have d_next_step : Def P w K mg base CX0 "next_step" 2 ["pseudojets", "reach"] (sp_next_step Z.CJ) := by
    obtain ⟨f, fd, F, hm⟩ := A.f_next_step
    exact Def.mk' (ok_next_step F A.c_Pseudojet A.z_range A.z_len A.z_max d_greatest_place d_squared_distance) hm F.kp (F.binds (ps := ["pseudojets", "reach"]) fun _ _ _ _ _ _ us hl => match us, hl with | [_, _], _ => rfl)
  have d_jets_of : Def P w K mg base CX0 "jets_of" 4 ["clusters", "reach"] (sp_jets_of Z.CC Z.CJ T) := by
    obtain ⟨f, fd, FC, F, hm⟩ := A.f_jets_of
    exact Def.mk' (ok_jets_of FC TB A.c_Cluster A.c_Pseudojet A.z_enumerate A.z_len A.z_sorted d_next_step d_joined k_Pseudojet) hm F.kp (F.binds (ps := ["clusters", "reach"]) fun _ _ _ _ _ _ us hl => match us, hl with | [_, _], _ => rfl)
  have d_strips_of : Def P w K mg base CX0 "strips_of" 1 ["energies", "row", "width"] (sp_strips_of K) := by
    obtain ⟨f, fd, F, hm⟩ := A.f_strips_of
    exact Def.mk' (ok_strips_of F A.n_SIDE A.z_range A.z_sum) hm F.kp (F.binds (ps := ["energies", "row", "width"]) fun _ _ _ _ _ _ us hl => match us, hl with | [_, _, _], _ => rfl)
  have d_greatest_window : Def P w K mg base CX0 "greatest_window" 2 ["energies", "width", "height"] (sp_greatest_window K) := by
    obtain ⟨f, fd, F, hm⟩ := A.f_greatest_window
    exact Def.mk' (ok_greatest_window F A.n_SIDE A.z_range A.z_sum d_strips_of) hm F.kp (F.binds (ps := ["energies", "width", "height"]) fun _ _ _ _ _ _ us hl => match us, hl with | [_, _, _], _ => rfl)
  have d_blank_readings : Def P w K mg base CX0 "blank_readings" 3 [] (sp_blank_readings Z.CR) := by
    obtain ⟨f, fd, F, hm⟩ := A.f_blank_readings
    exact Def.mk' (ok_blank_readings F A.n_BLOCKS A.z_range k_Reading) hm F.kp (F.binds (ps := []) fun _ _ _ _ _ _ us hl => match us, hl with | [], _ => rfl)
  have d_present_time : Def P w K mg base CX0 "present_time" 2 ["cluster", "readings"] (sp_present_time Z.CC Z.CR) := by
    obtain ⟨f, fd, F, hm⟩ := A.f_present_time
    exact Def.mk' (ok_present_time F A.c_Cluster A.c_Reading A.z_sum d_nearest) hm F.kp (F.binds (ps := ["cluster", "readings"]) fun _ _ _ _ _ _ us hl => match us, hl with | [_, _], _ => rfl)
  have d_present_full : Def P w K mg base CX0 "present_full" 1 ["cluster", "readings"] (sp_present_full Z.CC Z.CR) := by
    obtain ⟨f, fd, F, hm⟩ := A.f_present_full
    exact Def.mk' (ok_present_full F A.c_Cluster A.c_Reading A.z_max) hm F.kp (F.binds (ps := ["cluster", "readings"]) fun _ _ _ _ _ _ us hl => match us, hl with | [_, _], _ => rfl)
  have k_Detector : Ctor P w K mg base (L2.CX P w) "Detector" Z.CD 4 ["self", "seed", "low", "reach"] (sp_Detector_init Z CO) := by
    obtain ⟨f, fd, F, M⟩ := A.i_Detector
    exact ⟨⟨f, fd, M, ok_Detector_init F A.c_Detector A.n_GREATEST_ENERGY A.n_GREATEST_REACH A.n_GAINS A.n_SAMPLES A.z_range d_check_range k_Gain d_blank_readings, (F.binds (ps := ["self", "seed", "low", "reach"]) fun _ _ _ _ _ _ us hl => match us, hl with | [_, _, _, _], _ => rfl)⟩, A.g_Detector⟩
  have k_Session : Ctor P w K mg base CX0 "Session" CS 1 ["self"] (sp_Session_init CS) := by
    obtain ⟨f, fd, F, M⟩ := A.i_Session
    exact ⟨⟨f, fd, M, ok_Session_init F A.c_Session, (F.binds (ps := ["self"]) fun _ _ _ _ _ _ us hl => match us, hl with | [_], _ => rfl)⟩, A.g_Session⟩
  have m_set_gain : MDef P w K mg base (L2.CX P w) Z.CD "set_gain" 3 ["self", "k", "mul", "shift", "zero"] (sp_set_gain Z CO) := by
    obtain ⟨f, fd, F, M⟩ := A.f_set_gain
    exact ⟨⟨f, fd, ok_set_gain F A.c_Detector A.n_GAINS A.n_GREATEST_MUL A.n_GREATEST_SHIFT A.n_GREATEST_SAMPLE d_check_range k_Gain, M, (F.binds (ps := ["self", "k", "mul", "shift", "zero"]) fun _ _ _ _ _ _ us hl => match us, hl with | [_, _, _, _, _], _ => rfl)⟩⟩
  have m_set_weights : MDef P w K mg base (L2.CX P w) Z.CD "set_weights" 3 ["self", "energy_weights", "time_weights"] (sp_set_weights Z CO) := by
    obtain ⟨f, fd, F, M⟩ := A.f_set_weights
    exact ⟨⟨f, fd, ok_set_weights F A.c_Detector A.n_LEAST_WEIGHT A.n_GREATEST_WEIGHT d_check_all, M, (F.binds (ps := ["self", "energy_weights", "time_weights"]) fun _ _ _ _ _ _ us hl => match us, hl with | [_, _, _], _ => rfl)⟩⟩
  have m_take_pulse : MDef P w K mg base (L2.CX P w) Z.CD "take_pulse" 4 ["self", "block", "k", "samples"] (sp_take_pulse K Z CO) := by
    obtain ⟨f, fd, F, M⟩ := A.f_take_pulse
    exact ⟨⟨f, fd, ok_take_pulse F A.c_Detector A.n_BLOCKS A.n_GAINS A.n_GREATEST_SAMPLE d_check_range d_check_all d_weigh, M, (F.binds (ps := ["self", "block", "k", "samples"]) fun _ _ _ _ _ _ us hl => match us, hl with | [_, _, _, _], _ => rfl)⟩⟩
  have m_reading_of : MDef P w K mg base (L2.CX P w) Z.CD "reading_of" 2 ["self", "block"] (sp_reading_of Z CO) := by
    obtain ⟨f, fd, F, M⟩ := A.f_reading_of
    exact ⟨⟨f, fd, ok_reading_of F A.c_Detector A.n_BLOCKS d_check_range, M, (F.binds (ps := ["self", "block"]) fun _ _ _ _ _ _ us hl => match us, hl with | [_, _], _ => rfl)⟩⟩
  have m_present_energies : MDef P w K mg base CX0 Z.CD "present_energies" 1 ["self"] (sp_present_energies Z) := by
    obtain ⟨f, fd, F, M⟩ := A.f_present_energies
    exact ⟨⟨f, fd, ok_present_energies F A.c_Detector A.c_Reading, M, (F.binds (ps := ["self"]) fun _ _ _ _ _ _ us hl => match us, hl with | [_], _ => rfl)⟩⟩
  have m_find_clusters : MDef P w K mg base CX0 Z.CD "find_clusters" 6 ["self"] (sp_find_clusters Z) := by
    obtain ⟨f, fd, F, M⟩ := A.f_find_clusters
    exact ⟨⟨f, fd, ok_find_clusters F A.c_Detector A.z_len m_present_energies d_clusters_of, M, (F.binds (ps := ["self"]) fun _ _ _ _ _ _ us hl => match us, hl with | [_], _ => rfl)⟩⟩
  have m_cluster_at : MDef P w K mg base (L2.CX P w) Z.CD "cluster_at" 2 ["self", "number"] (sp_cluster_at Z CO) := by
    obtain ⟨f, fd, F, M⟩ := A.f_cluster_at
    exact ⟨⟨f, fd, ok_cluster_at F A.c_Detector A.z_len d_check_range, M, (F.binds (ps := ["self", "number"]) fun _ _ _ _ _ _ us hl => match us, hl with | [_, _], _ => rfl)⟩⟩
  have m_find_jets : MDef P w K mg base CX0 Z.CD "find_jets" 5 ["self"] (sp_find_jets Z T) := by
    obtain ⟨f, fd, F, M⟩ := A.f_find_jets
    exact ⟨⟨f, fd, ok_find_jets F A.c_Detector A.z_len d_jets_of, M, (F.binds (ps := ["self"]) fun _ _ _ _ _ _ us hl => match us, hl with | [_], _ => rfl)⟩⟩
  have m_jet_at : MDef P w K mg base (L2.CX P w) Z.CD "jet_at" 2 ["self", "number"] (sp_jet_at Z CO) := by
    obtain ⟨f, fd, F, M⟩ := A.f_jet_at
    exact ⟨⟨f, fd, ok_jet_at F A.c_Detector A.z_len d_check_range, M, (F.binds (ps := ["self", "number"]) fun _ _ _ _ _ _ us hl => match us, hl with | [_, _], _ => rfl)⟩⟩
  have m_energy_sums : MDef P w K mg base CX0 Z.CD "energy_sums" 6 ["self"] (sp_energy_sums Z) := by
    obtain ⟨f, fd, F, M⟩ := A.f_energy_sums
    exact ⟨⟨f, fd, ok_energy_sums F A.c_Detector A.z_sum m_present_energies d_energy_inside, M, (F.binds (ps := ["self"]) fun _ _ _ _ _ _ us hl => match us, hl with | [_], _ => rfl)⟩⟩
  have m_window_of : MDef P w K mg base (L2.CX P w) Z.CD "window_of" 3 ["self", "width", "height"] (sp_window_of Z CO) := by
    obtain ⟨f, fd, F, M⟩ := A.f_window_of
    exact ⟨⟨f, fd, ok_window_of F A.c_Detector A.n_SIDE m_present_energies d_check_range d_greatest_window, M, (F.binds (ps := ["self", "width", "height"]) fun _ _ _ _ _ _ us hl => match us, hl with | [_, _, _], _ => rfl)⟩⟩
  have m_clear_blocks : MDef P w K mg base CX0 Z.CD "clear_blocks" 4 ["self"] (sp_clear_blocks Z) := by
    obtain ⟨f, fd, F, M⟩ := A.f_clear_blocks
    exact ⟨⟨f, fd, ok_clear_blocks F A.c_Detector d_blank_readings, M, (F.binds (ps := ["self"]) fun _ _ _ _ _ _ us hl => match us, hl with | [_], _ => rfl)⟩⟩
  have hH : ∀ p : Int, 2 ≤ p → p ≤ 13 → ∃ fp, KInt K dH p (.ref fp) ∧ HeldX P w K mg base 7 fp (spAns K Z CO T p) := fun p h1 h2 => by
    have hp : p = 2 ∨ p = 3 ∨ p = 4 ∨ p = 5 ∨ p = 6 ∨ p = 7 ∨ p = 8 ∨ p = 9 ∨ p = 10 ∨ p = 11 ∨ p = 12 ∨ p = 13 := by omega
    rcases hp with rfl | rfl | rfl | rfl | rfl | rfl | rfl | rfl | rfl | rfl | rfl | rfl
    · obtain ⟨f, fd, F, hk⟩ := A.f_answer_gain
      exact ⟨f, hk, ⟨fd, _, (ok_answer_gain F A.c_Detector m_set_gain).mono (by decide), F.kp, (F.binds (ps := ["detector", "given"]) fun _ _ _ _ _ _ us hl => match us, hl with | [_, _], _ => rfl)⟩⟩
    · obtain ⟨f, fd, F, hk⟩ := A.f_answer_weights
      exact ⟨f, hk, ⟨fd, _, (ok_answer_weights F A.c_Detector m_set_weights).mono (by decide), F.kp, (F.binds (ps := ["detector", "given"]) fun _ _ _ _ _ _ us hl => match us, hl with | [_, _], _ => rfl)⟩⟩
    · obtain ⟨f, fd, F, hk⟩ := A.f_answer_pulse
      exact ⟨f, hk, ⟨fd, _, (ok_answer_pulse F A.c_Detector A.c_Reading m_take_pulse).mono (by decide), F.kp, (F.binds (ps := ["detector", "given"]) fun _ _ _ _ _ _ us hl => match us, hl with | [_, _], _ => rfl)⟩⟩
    · obtain ⟨f, fd, F, hk⟩ := A.f_answer_block
      exact ⟨f, hk, ⟨fd, _, (ok_answer_block F A.c_Detector A.c_Reading m_reading_of).mono (by decide), F.kp, (F.binds (ps := ["detector", "given"]) fun _ _ _ _ _ _ us hl => match us, hl with | [_, _], _ => rfl)⟩⟩
    · obtain ⟨f, fd, F, hk⟩ := A.f_answer_find_clusters
      exact ⟨f, hk, ⟨fd, _, (ok_answer_find_clusters F A.c_Detector m_find_clusters).mono (by decide), F.kp, (F.binds (ps := ["detector", "given"]) fun _ _ _ _ _ _ us hl => match us, hl with | [_, _], _ => rfl)⟩⟩
    · obtain ⟨f, fd, F, hk⟩ := A.f_answer_cluster
      exact ⟨f, hk, ⟨fd, _, (ok_answer_cluster F A.c_Detector A.c_Cluster A.z_len m_cluster_at d_present_time d_present_full).mono (by decide), F.kp, (F.binds (ps := ["detector", "given"]) fun _ _ _ _ _ _ us hl => match us, hl with | [_, _], _ => rfl)⟩⟩
    · obtain ⟨f, fd, F, hk⟩ := A.f_answer_parts
      exact ⟨f, hk, ⟨fd, _, (ok_answer_parts F A.c_Detector A.c_Cluster A.z_len m_cluster_at).mono (by decide), F.kp, (F.binds (ps := ["detector", "given"]) fun _ _ _ _ _ _ us hl => match us, hl with | [_, _], _ => rfl)⟩⟩
    · obtain ⟨f, fd, F, hk⟩ := A.f_answer_find_jets
      exact ⟨f, hk, ⟨fd, _, (ok_answer_find_jets F A.c_Detector m_find_jets).mono (by decide), F.kp, (F.binds (ps := ["detector", "given"]) fun _ _ _ _ _ _ us hl => match us, hl with | [_, _], _ => rfl)⟩⟩
    · obtain ⟨f, fd, F, hk⟩ := A.f_answer_jet
      exact ⟨f, hk, ⟨fd, _, (ok_answer_jet F A.c_Detector A.c_Pseudojet A.z_len m_jet_at).mono (by decide), F.kp, (F.binds (ps := ["detector", "given"]) fun _ _ _ _ _ _ us hl => match us, hl with | [_, _], _ => rfl)⟩⟩
    · obtain ⟨f, fd, F, hk⟩ := A.f_answer_sums
      exact ⟨f, hk, ⟨fd, _, (ok_answer_sums F A.c_Detector A.z_list m_energy_sums).mono (by decide), F.kp, (F.binds (ps := ["detector", "given"]) fun _ _ _ _ _ _ us hl => match us, hl with | [_, _], _ => rfl)⟩⟩
    · obtain ⟨f, fd, F, hk⟩ := A.f_answer_window
      exact ⟨f, hk, ⟨fd, _, (ok_answer_window F A.c_Detector A.z_list m_window_of).mono (by decide), F.kp, (F.binds (ps := ["detector", "given"]) fun _ _ _ _ _ _ us hl => match us, hl with | [_, _], _ => rfl)⟩⟩
    · obtain ⟨f, fd, F, hk⟩ := A.f_answer_clear
      exact ⟨f, hk, ⟨fd, _, (ok_answer_clear F A.c_Detector m_clear_blocks).mono (by decide), F.kp, (F.binds (ps := ["detector", "given"]) fun _ _ _ _ _ _ us hl => match us, hl with | [_, _], _ => rfl)⟩⟩
  have m_answer : MDef P w K mg base CX0 CS "answer" 8 ["self", "call", "given"] (sp_Session_answer K Z CS T) := by
    obtain ⟨f, fd, F, M⟩ := A.f_answer
    exact ⟨⟨f, fd, ok_Session_answer F A.oor A.c_Session A.n_OPENING A.n_NO_CALORIMETER A.n_OUT_OF_RANGE A.gH hH k_Detector, M, (F.binds (ps := ["self", "call", "given"]) fun _ _ _ _ _ _ us hl => match us, hl with | [_, _, _], _ => rfl)⟩⟩
  exact ok_answers F A.c_Session A.z_len A.gA A.hA k_Session m_answer
end
set_option linter.unusedVariables false in
theorem all_mk {P : Program} {w : World} {K : PySem.W.Frag} {h : Heap} {mg : Str → Option Value} {fa fx c T : Addr} (X : K.In h) (G : h.Ns mainGlobals mg) (hfa : mg "answers" = some (.ref fa)) (hfx : mg "jets_of" = some (.ref fx)) (hox : ∃ o fd, h.get? fx = some o ∧ o.data = .func fd ∧ fd.code = .ref c)
    {f0 : Addr} {oc0 kV0 doc0 pm0 cdv0 ct0 : Value} {od0 an0 : Option Addr} {osl0 : Array (Option Value)}
    {f1 : Addr} {oc1 kV1 doc1 pm1 cdv1 ct1 : Value} {od1 an1 : Option Addr} {osl1 : Array (Option Value)}
    {f2 : Addr} {oc2 kV2 doc2 pm2 cdv2 ct2 : Value} {od2 an2 : Option Addr} {osl2 : Array (Option Value)}
    {f3 : Addr} {oc3 kV3 doc3 pm3 cdv3 ct3 : Value} {od3 an3 : Option Addr} {osl3 : Array (Option Value)}
    {f4 : Addr} {oc4 kV4 doc4 pm4 cdv4 ct4 : Value} {od4 an4 : Option Addr} {osl4 : Array (Option Value)}
    {f5 : Addr} {oc5 kV5 doc5 pm5 cdv5 ct5 : Value} {od5 an5 : Option Addr} {osl5 : Array (Option Value)}
    {f6 : Addr} {oc6 kV6 doc6 pm6 cdv6 ct6 : Value} {od6 an6 : Option Addr} {osl6 : Array (Option Value)}
    {f7 : Addr} {oc7 kV7 doc7 pm7 cdv7 ct7 : Value} {od7 an7 : Option Addr} {osl7 : Array (Option Value)}
    {f8 : Addr} {oc8 kV8 doc8 pm8 cdv8 ct8 : Value} {od8 an8 : Option Addr} {osl8 : Array (Option Value)}
    {f9 : Addr} {oc9 kV9 doc9 pm9 cdv9 ct9 : Value} {od9 an9 : Option Addr} {osl9 : Array (Option Value)}
    {f10 : Addr} {oc10 kV10 doc10 pm10 cdv10 ct10 : Value} {od10 an10 : Option Addr} {osl10 : Array (Option Value)}
    {f11 : Addr} {oc11 kV11 doc11 pm11 cdv11 ct11 : Value} {od11 an11 : Option Addr} {osl11 : Array (Option Value)}
    {f12 : Addr} {oc12 kV12 doc12 pm12 cdv12 ct12 : Value} {od12 an12 : Option Addr} {osl12 : Array (Option Value)}
    {f13 : Addr} {oc13 kV13 doc13 pm13 cdv13 ct13 : Value} {od13 an13 : Option Addr} {osl13 : Array (Option Value)}
    {f14 : Addr} {oc14 kV14 doc14 pm14 cdv14 ct14 : Value} {od14 an14 : Option Addr} {osl14 : Array (Option Value)}
    {f15 : Addr} {oc15 kV15 doc15 pm15 cdv15 ct15 : Value} {od15 an15 : Option Addr} {osl15 : Array (Option Value)}
    {f16 : Addr} {oc16 kV16 doc16 pm16 cdv16 ct16 : Value} {od16 an16 : Option Addr} {osl16 : Array (Option Value)}
    {f17 : Addr} {oc17 kV17 doc17 pm17 cdv17 ct17 : Value} {od17 an17 : Option Addr} {osl17 : Array (Option Value)}
    {f18 : Addr} {oc18 kV18 doc18 pm18 cdv18 ct18 : Value} {od18 an18 : Option Addr} {osl18 : Array (Option Value)}
    {f19 : Addr} {oc19 kV19 doc19 pm19 cdv19 ct19 : Value} {od19 an19 : Option Addr} {osl19 : Array (Option Value)}
    {f20 : Addr} {oc20 kV20 doc20 pm20 cdv20 ct20 : Value} {od20 an20 : Option Addr} {osl20 : Array (Option Value)}
    {f21 : Addr} {oc21 kV21 doc21 pm21 cdv21 ct21 : Value} {od21 an21 : Option Addr} {osl21 : Array (Option Value)}
    {f22 : Addr} {oc22 kV22 doc22 pm22 cdv22 ct22 : Value} {od22 an22 : Option Addr} {osl22 : Array (Option Value)}
    {f23 : Addr} {oc23 kV23 doc23 pm23 cdv23 ct23 : Value} {od23 an23 : Option Addr} {osl23 : Array (Option Value)}
    {f24 : Addr} {oc24 kV24 doc24 pm24 cdv24 ct24 : Value} {od24 an24 : Option Addr} {osl24 : Array (Option Value)}
    {f25 : Addr} {oc25 kV25 doc25 pm25 cdv25 ct25 : Value} {od25 an25 : Option Addr} {osl25 : Array (Option Value)}
    {f26 : Addr} {oc26 kV26 doc26 pm26 cdv26 ct26 : Value} {od26 an26 : Option Addr} {osl26 : Array (Option Value)}
    {f27 : Addr} {oc27 kV27 doc27 pm27 cdv27 ct27 : Value} {od27 an27 : Option Addr} {osl27 : Array (Option Value)}
    {f28 : Addr} {oc28 kV28 doc28 pm28 cdv28 ct28 : Value} {od28 an28 : Option Addr} {osl28 : Array (Option Value)}
    {f29 : Addr} {oc29 kV29 doc29 pm29 cdv29 ct29 : Value} {od29 an29 : Option Addr} {osl29 : Array (Option Value)}
    {f30 : Addr} {oc30 kV30 doc30 pm30 cdv30 ct30 : Value} {od30 an30 : Option Addr} {osl30 : Array (Option Value)}
    {f31 : Addr} {oc31 kV31 doc31 pm31 cdv31 ct31 : Value} {od31 an31 : Option Addr} {osl31 : Array (Option Value)}
    {f32 : Addr} {oc32 kV32 doc32 pm32 cdv32 ct32 : Value} {od32 an32 : Option Addr} {osl32 : Array (Option Value)}
    {f33 : Addr} {oc33 kV33 doc33 pm33 cdv33 ct33 : Value} {od33 an33 : Option Addr} {osl33 : Array (Option Value)}
    {f34 : Addr} {oc34 kV34 doc34 pm34 cdv34 ct34 : Value} {od34 an34 : Option Addr} {osl34 : Array (Option Value)}
    {f35 : Addr} {oc35 kV35 doc35 pm35 cdv35 ct35 : Value} {od35 an35 : Option Addr} {osl35 : Array (Option Value)}
    {f36 : Addr} {oc36 kV36 doc36 pm36 cdv36 ct36 : Value} {od36 an36 : Option Addr} {osl36 : Array (Option Value)}
    {f37 : Addr} {oc37 kV37 doc37 pm37 cdv37 ct37 : Value} {od37 an37 : Option Addr} {osl37 : Array (Option Value)}
    {f38 : Addr} {oc38 kV38 doc38 pm38 cdv38 ct38 : Value} {od38 an38 : Option Addr} {osl38 : Array (Option Value)}
    {CG CR CC CD CJ CS CO dA dH : Addr}
    {f39 : Addr} {oc39 kV39 doc39 pm39 cdv39 ct39 : Value} {od39 an39 : Option Addr} {osl39 : Array (Option Value)}
    {f40 : Addr} {oc40 kV40 doc40 pm40 cdv40 ct40 : Value} {od40 an40 : Option Addr} {osl40 : Array (Option Value)}
    {f41 : Addr} {oc41 kV41 doc41 pm41 cdv41 ct41 : Value} {od41 an41 : Option Addr} {osl41 : Array (Option Value)}
    {f42 : Addr} {oc42 kV42 doc42 pm42 cdv42 ct42 : Value} {od42 an42 : Option Addr} {osl42 : Array (Option Value)}
    {f43 : Addr} {oc43 kV43 doc43 pm43 cdv43 ct43 : Value} {od43 an43 : Option Addr} {osl43 : Array (Option Value)}
    {f44 : Addr} {oc44 kV44 doc44 pm44 cdv44 ct44 : Value} {od44 an44 : Option Addr} {osl44 : Array (Option Value)}
    {f45 : Addr} {oc45 kV45 doc45 pm45 cdv45 ct45 : Value} {od45 an45 : Option Addr} {osl45 : Array (Option Value)}
    {f46 : Addr} {oc46 kV46 doc46 pm46 cdv46 ct46 : Value} {od46 an46 : Option Addr} {osl46 : Array (Option Value)}
    {f47 : Addr} {oc47 kV47 doc47 pm47 cdv47 ct47 : Value} {od47 an47 : Option Addr} {osl47 : Array (Option Value)}
    {f48 : Addr} {oc48 kV48 doc48 pm48 cdv48 ct48 : Value} {od48 an48 : Option Addr} {osl48 : Array (Option Value)}
    {f49 : Addr} {oc49 kV49 doc49 pm49 cdv49 ct49 : Value} {od49 an49 : Option Addr} {osl49 : Array (Option Value)}
    {f50 : Addr} {oc50 kV50 doc50 pm50 cdv50 ct50 : Value} {od50 an50 : Option Addr} {osl50 : Array (Option Value)}
    {f51 : Addr} {oc51 kV51 doc51 pm51 cdv51 ct51 : Value} {od51 an51 : Option Addr} {osl51 : Array (Option Value)}
    {f52 : Addr} {oc52 kV52 doc52 pm52 cdv52 ct52 : Value} {od52 an52 : Option Addr} {osl52 : Array (Option Value)}
    {f53 : Addr} {oc53 kV53 doc53 pm53 cdv53 ct53 : Value} {od53 an53 : Option Addr} {osl53 : Array (Option Value)}
    {f54 : Addr} {oc54 kV54 doc54 pm54 cdv54 ct54 : Value} {od54 an54 : Option Addr} {osl54 : Array (Option Value)}
    {f55 : Addr} {oc55 kV55 doc55 pm55 cdv55 ct55 : Value} {od55 an55 : Option Addr} {osl55 : Array (Option Value)}
    {f56 : Addr} {oc56 kV56 doc56 pm56 cdv56 ct56 : Value} {od56 an56 : Option Addr} {osl56 : Array (Option Value)}
    {f57 : Addr} {oc57 kV57 doc57 pm57 cdv57 ct57 : Value} {od57 an57 : Option Addr} {osl57 : Array (Option Value)}
    {t0 : Tok}
    {t1 : Tok}
    {t2 : Tok}
    {t3 : Tok}
    {t4 : Tok}
    {t5 : Tok}
    {t6 : Tok}
    {t7 : Tok}
    {t8 : Tok}
    {t9 : Tok}
    {t10 : Tok}
    {t11 : Tok}
    {t12 : Tok}
    {t13 : Tok}
    {t14 : Tok}
    {t15 : Tok}
    {t16 : Tok}
    {t17 : Tok}
    {esA esH : Array DictEntry} {nA nH : Nat}
    (a0 : PySem.W.nsIn K mainGlobals "row_of" = some (some (.ref f0)))
    (l0 : K.lookup f0 = some ⟨oc0, od0, .func (PySem.W.fnOf "row_of" "row_of" (defArgs s_row_of) (defBody s_row_of) (defScope s_row_of) .none kV0 doc0 pm0 an0 cdv0 ct0), osl0⟩)
    (c0 : PySem.W.codeIn K cdv0 "row_of" = true)
    (k0 : PySem.W.keepIn K (.ref f0) = true)
    (a1 : PySem.W.nsIn K mainGlobals "column_of" = some (some (.ref f1)))
    (l1 : K.lookup f1 = some ⟨oc1, od1, .func (PySem.W.fnOf "column_of" "column_of" (defArgs s_column_of) (defBody s_column_of) (defScope s_column_of) .none kV1 doc1 pm1 an1 cdv1 ct1), osl1⟩)
    (c1 : PySem.W.codeIn K cdv1 "column_of" = true)
    (k1 : PySem.W.keepIn K (.ref f1) = true)
    (a2 : PySem.W.nsIn K mainGlobals "row_step" = some (some (.ref f2)))
    (l2 : K.lookup f2 = some ⟨oc2, od2, .func (PySem.W.fnOf "row_step" "row_step" (defArgs s_row_step) (defBody s_row_step) (defScope s_row_step) .none kV2 doc2 pm2 an2 cdv2 ct2), osl2⟩)
    (c2 : PySem.W.codeIn K cdv2 "row_step" = true)
    (k2 : PySem.W.keepIn K (.ref f2) = true)
    (a3 : PySem.W.nsIn K mainGlobals "column_step" = some (some (.ref f3)))
    (l3 : K.lookup f3 = some ⟨oc3, od3, .func (PySem.W.fnOf "column_step" "column_step" (defArgs s_column_step) (defBody s_column_step) (defScope s_column_step) .none kV3 doc3 pm3 an3 cdv3 ct3), osl3⟩)
    (c3 : PySem.W.codeIn K cdv3 "column_step" = true)
    (k3 : PySem.W.keepIn K (.ref f3) = true)
    (a4 : PySem.W.nsIn K mainGlobals "neighbours" = some (some (.ref f4)))
    (l4 : K.lookup f4 = some ⟨oc4, od4, .func (PySem.W.fnOf "neighbours" "neighbours" (defArgs s_neighbours) (defBody s_neighbours) (defScope s_neighbours) .none kV4 doc4 pm4 an4 cdv4 ct4), osl4⟩)
    (c4 : PySem.W.codeIn K cdv4 "neighbours" = true)
    (k4 : PySem.W.keepIn K (.ref f4) = true)
    (a5 : PySem.W.nsIn K mainGlobals "nearest" = some (some (.ref f5)))
    (l5 : K.lookup f5 = some ⟨oc5, od5, .func (PySem.W.fnOf "nearest" "nearest" (defArgs s_nearest) (defBody s_nearest) (defScope s_nearest) .none kV5 doc5 pm5 an5 cdv5 ct5), osl5⟩)
    (c5 : PySem.W.codeIn K cdv5 "nearest" = true)
    (k5 : PySem.W.keepIn K (.ref f5) = true)
    (a6 : PySem.W.nsIn K mainGlobals "check_range" = some (some (.ref f6)))
    (l6 : K.lookup f6 = some ⟨oc6, od6, .func (PySem.W.fnOf "check_range" "check_range" (defArgs s_check_range) (defBody s_check_range) (defScope s_check_range) .none kV6 doc6 pm6 an6 cdv6 ct6), osl6⟩)
    (c6 : PySem.W.codeIn K cdv6 "check_range" = true)
    (k6 : PySem.W.keepIn K (.ref f6) = true)
    (a7 : PySem.W.nsIn K mainGlobals "check_all" = some (some (.ref f7)))
    (l7 : K.lookup f7 = some ⟨oc7, od7, .func (PySem.W.fnOf "check_all" "check_all" (defArgs s_check_all) (defBody s_check_all) (defScope s_check_all) .none kV7 doc7 pm7 an7 cdv7 ct7), osl7⟩)
    (c7 : PySem.W.codeIn K cdv7 "check_all" = true)
    (k7 : PySem.W.keepIn K (.ref f7) = true)
    (a8 : PySem.W.nsIn K mainGlobals "weighed_sum" = some (some (.ref f8)))
    (l8 : K.lookup f8 = some ⟨oc8, od8, .func (PySem.W.fnOf "weighed_sum" "weighed_sum" (defArgs s_weighed_sum) (defBody s_weighed_sum) (defScope s_weighed_sum) .none kV8 doc8 pm8 an8 cdv8 ct8), osl8⟩)
    (c8 : PySem.W.codeIn K cdv8 "weighed_sum" = true)
    (k8 : PySem.W.keepIn K (.ref f8) = true)
    (a9 : PySem.W.nsIn K mainGlobals "weigh" = some (some (.ref f9)))
    (l9 : K.lookup f9 = some ⟨oc9, od9, .func (PySem.W.fnOf "weigh" "weigh" (defArgs s_weigh) (defBody s_weigh) (defScope s_weigh) .none kV9 doc9 pm9 an9 cdv9 ct9), osl9⟩)
    (c9 : PySem.W.codeIn K cdv9 "weigh" = true)
    (k9 : PySem.W.keepIn K (.ref f9) = true)
    (a10 : PySem.W.nsIn K mainGlobals "is_seed" = some (some (.ref f10)))
    (l10 : K.lookup f10 = some ⟨oc10, od10, .func (PySem.W.fnOf "is_seed" "is_seed" (defArgs s_is_seed) (defBody s_is_seed) (defScope s_is_seed) .none kV10 doc10 pm10 an10 cdv10 ct10), osl10⟩)
    (c10 : PySem.W.codeIn K cdv10 "is_seed" = true)
    (k10 : PySem.W.keepIn K (.ref f10) = true)
    (a11 : PySem.W.nsIn K mainGlobals "seed_blocks" = some (some (.ref f11)))
    (l11 : K.lookup f11 = some ⟨oc11, od11, .func (PySem.W.fnOf "seed_blocks" "seed_blocks" (defArgs s_seed_blocks) (defBody s_seed_blocks) (defScope s_seed_blocks) .none kV11 doc11 pm11 an11 cdv11 ct11), osl11⟩)
    (c11 : PySem.W.codeIn K cdv11 "seed_blocks" = true)
    (k11 : PySem.W.keepIn K (.ref f11) = true)
    (a12 : PySem.W.nsIn K mainGlobals "owners_of" = some (some (.ref f12)))
    (l12 : K.lookup f12 = some ⟨oc12, od12, .func (PySem.W.fnOf "owners_of" "owners_of" (defArgs s_owners_of) (defBody s_owners_of) (defScope s_owners_of) .none kV12 doc12 pm12 an12 cdv12 ct12), osl12⟩)
    (c12 : PySem.W.codeIn K cdv12 "owners_of" = true)
    (k12 : PySem.W.keepIn K (.ref f12) = true)
    (a13 : PySem.W.nsIn K mainGlobals "divide" = some (some (.ref f13)))
    (l13 : K.lookup f13 = some ⟨oc13, od13, .func (PySem.W.fnOf "divide" "divide" (defArgs s_divide) (defBody s_divide) (defScope s_divide) .none kV13 doc13 pm13 an13 cdv13 ct13), osl13⟩)
    (c13 : PySem.W.codeIn K cdv13 "divide" = true)
    (k13 : PySem.W.keepIn K (.ref f13) = true)
    (a14 : PySem.W.nsIn K mainGlobals "clusters_of" = some (some (.ref f14)))
    (l14 : K.lookup f14 = some ⟨oc14, od14, .func (PySem.W.fnOf "clusters_of" "clusters_of" (defArgs s_clusters_of) (defBody s_clusters_of) (defScope s_clusters_of) .none kV14 doc14 pm14 an14 cdv14 ct14), osl14⟩)
    (c14 : PySem.W.codeIn K cdv14 "clusters_of" = true)
    (k14 : PySem.W.keepIn K (.ref f14) = true)
    (a15 : PySem.W.nsIn K mainGlobals "energy_inside" = some (some (.ref f15)))
    (l15 : K.lookup f15 = some ⟨oc15, od15, .func (PySem.W.fnOf "energy_inside" "energy_inside" (defArgs s_energy_inside) (defBody s_energy_inside) (defScope s_energy_inside) .none kV15 doc15 pm15 an15 cdv15 ct15), osl15⟩)
    (c15 : PySem.W.codeIn K cdv15 "energy_inside" = true)
    (k15 : PySem.W.keepIn K (.ref f15) = true)
    (a16 : PySem.W.nsIn K mainGlobals "squared_distance" = some (some (.ref f16)))
    (l16 : K.lookup f16 = some ⟨oc16, od16, .func (PySem.W.fnOf "squared_distance" "squared_distance" (defArgs s_squared_distance) (defBody s_squared_distance) (defScope s_squared_distance) .none kV16 doc16 pm16 an16 cdv16 ct16), osl16⟩)
    (c16 : PySem.W.codeIn K cdv16 "squared_distance" = true)
    (k16 : PySem.W.keepIn K (.ref f16) = true)
    (a17 : PySem.W.nsIn K mainGlobals "joined" = some (some (.ref f17)))
    (l17 : K.lookup f17 = some ⟨oc17, od17, .func (PySem.W.fnOf "joined" "joined" (defArgs s_joined) (defBody s_joined) (defScope s_joined) .none kV17 doc17 pm17 an17 cdv17 ct17), osl17⟩)
    (c17 : PySem.W.codeIn K cdv17 "joined" = true)
    (k17 : PySem.W.keepIn K (.ref f17) = true)
    (a18 : PySem.W.nsIn K mainGlobals "greatest_place" = some (some (.ref f18)))
    (l18 : K.lookup f18 = some ⟨oc18, od18, .func (PySem.W.fnOf "greatest_place" "greatest_place" (defArgs s_greatest_place) (defBody s_greatest_place) (defScope s_greatest_place) .none kV18 doc18 pm18 an18 cdv18 ct18), osl18⟩)
    (c18 : PySem.W.codeIn K cdv18 "greatest_place" = true)
    (k18 : PySem.W.keepIn K (.ref f18) = true)
    (a19 : PySem.W.nsIn K mainGlobals "next_step" = some (some (.ref f19)))
    (l19 : K.lookup f19 = some ⟨oc19, od19, .func (PySem.W.fnOf "next_step" "next_step" (defArgs s_next_step) (defBody s_next_step) (defScope s_next_step) .none kV19 doc19 pm19 an19 cdv19 ct19), osl19⟩)
    (c19 : PySem.W.codeIn K cdv19 "next_step" = true)
    (k19 : PySem.W.keepIn K (.ref f19) = true)
    (a20 : PySem.W.nsIn K mainGlobals "jets_of" = some (some (.ref f20)))
    (l20 : K.lookup f20 = some ⟨oc20, od20, .func (PySem.W.fnOf "jets_of" "jets_of" (defArgs s_jets_of) (defBody s_jets_of) (defScope s_jets_of) .none kV20 doc20 pm20 an20 cdv20 ct20), osl20⟩)
    (c20 : PySem.W.codeIn K cdv20 "jets_of" = true)
    (k20 : PySem.W.keepIn K (.ref f20) = true)
    (a21 : PySem.W.nsIn K mainGlobals "strips_of" = some (some (.ref f21)))
    (l21 : K.lookup f21 = some ⟨oc21, od21, .func (PySem.W.fnOf "strips_of" "strips_of" (defArgs s_strips_of) (defBody s_strips_of) (defScope s_strips_of) .none kV21 doc21 pm21 an21 cdv21 ct21), osl21⟩)
    (c21 : PySem.W.codeIn K cdv21 "strips_of" = true)
    (k21 : PySem.W.keepIn K (.ref f21) = true)
    (a22 : PySem.W.nsIn K mainGlobals "greatest_window" = some (some (.ref f22)))
    (l22 : K.lookup f22 = some ⟨oc22, od22, .func (PySem.W.fnOf "greatest_window" "greatest_window" (defArgs s_greatest_window) (defBody s_greatest_window) (defScope s_greatest_window) .none kV22 doc22 pm22 an22 cdv22 ct22), osl22⟩)
    (c22 : PySem.W.codeIn K cdv22 "greatest_window" = true)
    (k22 : PySem.W.keepIn K (.ref f22) = true)
    (a23 : PySem.W.nsIn K mainGlobals "blank_readings" = some (some (.ref f23)))
    (l23 : K.lookup f23 = some ⟨oc23, od23, .func (PySem.W.fnOf "blank_readings" "blank_readings" (defArgs s_blank_readings) (defBody s_blank_readings) (defScope s_blank_readings) .none kV23 doc23 pm23 an23 cdv23 ct23), osl23⟩)
    (c23 : PySem.W.codeIn K cdv23 "blank_readings" = true)
    (k23 : PySem.W.keepIn K (.ref f23) = true)
    (a24 : PySem.W.nsIn K mainGlobals "present_time" = some (some (.ref f24)))
    (l24 : K.lookup f24 = some ⟨oc24, od24, .func (PySem.W.fnOf "present_time" "present_time" (defArgs s_present_time) (defBody s_present_time) (defScope s_present_time) .none kV24 doc24 pm24 an24 cdv24 ct24), osl24⟩)
    (c24 : PySem.W.codeIn K cdv24 "present_time" = true)
    (k24 : PySem.W.keepIn K (.ref f24) = true)
    (a25 : PySem.W.nsIn K mainGlobals "present_full" = some (some (.ref f25)))
    (l25 : K.lookup f25 = some ⟨oc25, od25, .func (PySem.W.fnOf "present_full" "present_full" (defArgs s_present_full) (defBody s_present_full) (defScope s_present_full) .none kV25 doc25 pm25 an25 cdv25 ct25), osl25⟩)
    (c25 : PySem.W.codeIn K cdv25 "present_full" = true)
    (k25 : PySem.W.keepIn K (.ref f25) = true)
    (a26 : PySem.W.nsIn K mainGlobals "answer_gain" = some (some (.ref f26)))
    (l26 : K.lookup f26 = some ⟨oc26, od26, .func (PySem.W.fnOf "answer_gain" "answer_gain" (defArgs s_answer_gain) (defBody s_answer_gain) (defScope s_answer_gain) .none kV26 doc26 pm26 an26 cdv26 ct26), osl26⟩)
    (c26 : PySem.W.codeIn K cdv26 "answer_gain" = true)
    (k26 : PySem.W.keepIn K (.ref f26) = true)
    (a27 : PySem.W.nsIn K mainGlobals "answer_weights" = some (some (.ref f27)))
    (l27 : K.lookup f27 = some ⟨oc27, od27, .func (PySem.W.fnOf "answer_weights" "answer_weights" (defArgs s_answer_weights) (defBody s_answer_weights) (defScope s_answer_weights) .none kV27 doc27 pm27 an27 cdv27 ct27), osl27⟩)
    (c27 : PySem.W.codeIn K cdv27 "answer_weights" = true)
    (k27 : PySem.W.keepIn K (.ref f27) = true)
    (a28 : PySem.W.nsIn K mainGlobals "answer_pulse" = some (some (.ref f28)))
    (l28 : K.lookup f28 = some ⟨oc28, od28, .func (PySem.W.fnOf "answer_pulse" "answer_pulse" (defArgs s_answer_pulse) (defBody s_answer_pulse) (defScope s_answer_pulse) .none kV28 doc28 pm28 an28 cdv28 ct28), osl28⟩)
    (c28 : PySem.W.codeIn K cdv28 "answer_pulse" = true)
    (k28 : PySem.W.keepIn K (.ref f28) = true)
    (a29 : PySem.W.nsIn K mainGlobals "answer_block" = some (some (.ref f29)))
    (l29 : K.lookup f29 = some ⟨oc29, od29, .func (PySem.W.fnOf "answer_block" "answer_block" (defArgs s_answer_block) (defBody s_answer_block) (defScope s_answer_block) .none kV29 doc29 pm29 an29 cdv29 ct29), osl29⟩)
    (c29 : PySem.W.codeIn K cdv29 "answer_block" = true)
    (k29 : PySem.W.keepIn K (.ref f29) = true)
    (a30 : PySem.W.nsIn K mainGlobals "answer_find_clusters" = some (some (.ref f30)))
    (l30 : K.lookup f30 = some ⟨oc30, od30, .func (PySem.W.fnOf "answer_find_clusters" "answer_find_clusters" (defArgs s_answer_find_clusters) (defBody s_answer_find_clusters) (defScope s_answer_find_clusters) .none kV30 doc30 pm30 an30 cdv30 ct30), osl30⟩)
    (c30 : PySem.W.codeIn K cdv30 "answer_find_clusters" = true)
    (k30 : PySem.W.keepIn K (.ref f30) = true)
    (a31 : PySem.W.nsIn K mainGlobals "answer_cluster" = some (some (.ref f31)))
    (l31 : K.lookup f31 = some ⟨oc31, od31, .func (PySem.W.fnOf "answer_cluster" "answer_cluster" (defArgs s_answer_cluster) (defBody s_answer_cluster) (defScope s_answer_cluster) .none kV31 doc31 pm31 an31 cdv31 ct31), osl31⟩)
    (c31 : PySem.W.codeIn K cdv31 "answer_cluster" = true)
    (k31 : PySem.W.keepIn K (.ref f31) = true)
    (a32 : PySem.W.nsIn K mainGlobals "answer_parts" = some (some (.ref f32)))
    (l32 : K.lookup f32 = some ⟨oc32, od32, .func (PySem.W.fnOf "answer_parts" "answer_parts" (defArgs s_answer_parts) (defBody s_answer_parts) (defScope s_answer_parts) .none kV32 doc32 pm32 an32 cdv32 ct32), osl32⟩)
    (c32 : PySem.W.codeIn K cdv32 "answer_parts" = true)
    (k32 : PySem.W.keepIn K (.ref f32) = true)
    (a33 : PySem.W.nsIn K mainGlobals "answer_find_jets" = some (some (.ref f33)))
    (l33 : K.lookup f33 = some ⟨oc33, od33, .func (PySem.W.fnOf "answer_find_jets" "answer_find_jets" (defArgs s_answer_find_jets) (defBody s_answer_find_jets) (defScope s_answer_find_jets) .none kV33 doc33 pm33 an33 cdv33 ct33), osl33⟩)
    (c33 : PySem.W.codeIn K cdv33 "answer_find_jets" = true)
    (k33 : PySem.W.keepIn K (.ref f33) = true)
    (a34 : PySem.W.nsIn K mainGlobals "answer_jet" = some (some (.ref f34)))
    (l34 : K.lookup f34 = some ⟨oc34, od34, .func (PySem.W.fnOf "answer_jet" "answer_jet" (defArgs s_answer_jet) (defBody s_answer_jet) (defScope s_answer_jet) .none kV34 doc34 pm34 an34 cdv34 ct34), osl34⟩)
    (c34 : PySem.W.codeIn K cdv34 "answer_jet" = true)
    (k34 : PySem.W.keepIn K (.ref f34) = true)
    (a35 : PySem.W.nsIn K mainGlobals "answer_sums" = some (some (.ref f35)))
    (l35 : K.lookup f35 = some ⟨oc35, od35, .func (PySem.W.fnOf "answer_sums" "answer_sums" (defArgs s_answer_sums) (defBody s_answer_sums) (defScope s_answer_sums) .none kV35 doc35 pm35 an35 cdv35 ct35), osl35⟩)
    (c35 : PySem.W.codeIn K cdv35 "answer_sums" = true)
    (k35 : PySem.W.keepIn K (.ref f35) = true)
    (a36 : PySem.W.nsIn K mainGlobals "answer_window" = some (some (.ref f36)))
    (l36 : K.lookup f36 = some ⟨oc36, od36, .func (PySem.W.fnOf "answer_window" "answer_window" (defArgs s_answer_window) (defBody s_answer_window) (defScope s_answer_window) .none kV36 doc36 pm36 an36 cdv36 ct36), osl36⟩)
    (c36 : PySem.W.codeIn K cdv36 "answer_window" = true)
    (k36 : PySem.W.keepIn K (.ref f36) = true)
    (a37 : PySem.W.nsIn K mainGlobals "answer_clear" = some (some (.ref f37)))
    (l37 : K.lookup f37 = some ⟨oc37, od37, .func (PySem.W.fnOf "answer_clear" "answer_clear" (defArgs s_answer_clear) (defBody s_answer_clear) (defScope s_answer_clear) .none kV37 doc37 pm37 an37 cdv37 ct37), osl37⟩)
    (c37 : PySem.W.codeIn K cdv37 "answer_clear" = true)
    (k37 : PySem.W.keepIn K (.ref f37) = true)
    (a38 : PySem.W.nsIn K mainGlobals "answers" = some (some (.ref f38)))
    (l38 : K.lookup f38 = some ⟨oc38, od38, .func (PySem.W.fnOf "answers" "answers" (defArgs s_answers) (defBody s_answers) (defScope s_answers) .none kV38 doc38 pm38 an38 cdv38 ct38), osl38⟩)
    (c38 : PySem.W.codeIn K cdv38 "answers" = true)
    (k38 : PySem.W.keepIn K (.ref f38) = true)
    (gCG : PySem.W.nsIn K mainGlobals "Gain" = some (some (.ref CG)))
    (pgCG : PySem.W.plainGet K CG Str.empty = true)
    (hdCG : PySem.W.hasDictIn K CG = true)
    (poCG : PySem.W.plainOver K CG = true)
    (saCG : PySem.W.findIn K (.ref CG) "__setattr__" = some (some (.builtin "object.__setattr__")))
    (mkCG : PySem.W.makesIn K CG = true)
    (kcCG : PySem.W.keepIn K (.ref CG) = true)
    (naCG0 : PySem.W.findIn K (.ref CG) "mul" = some none)
    (naCG1 : PySem.W.findIn K (.ref CG) "shift" = some none)
    (naCG2 : PySem.W.findIn K (.ref CG) "zero" = some none)
    (a39 : PySem.W.findIn K (.ref CG) "__init__" = some (some (.ref f39)))
    (i39 : PySem.W.isFn K (.ref f39) = true)
    (l39 : K.lookup f39 = some ⟨oc39, od39, .func (PySem.W.fnOf "__init__" "Gain.__init__" (defArgs s_Gain_init) (defBody s_Gain_init) (defScope s_Gain_init) .none kV39 doc39 pm39 an39 cdv39 ct39), osl39⟩)
    (c39 : PySem.W.codeIn K cdv39 "Gain.__init__" = true)
    (k39 : PySem.W.keepIn K (.ref f39) = true)
    (gCR : PySem.W.nsIn K mainGlobals "Reading" = some (some (.ref CR)))
    (pgCR : PySem.W.plainGet K CR Str.empty = true)
    (hdCR : PySem.W.hasDictIn K CR = true)
    (poCR : PySem.W.plainOver K CR = true)
    (saCR : PySem.W.findIn K (.ref CR) "__setattr__" = some (some (.builtin "object.__setattr__")))
    (mkCR : PySem.W.makesIn K CR = true)
    (kcCR : PySem.W.keepIn K (.ref CR) = true)
    (naCR0 : PySem.W.findIn K (.ref CR) "energy" = some none)
    (naCR1 : PySem.W.findIn K (.ref CR) "time" = some none)
    (naCR2 : PySem.W.findIn K (.ref CR) "full" = some none)
    (a40 : PySem.W.findIn K (.ref CR) "__init__" = some (some (.ref f40)))
    (i40 : PySem.W.isFn K (.ref f40) = true)
    (l40 : K.lookup f40 = some ⟨oc40, od40, .func (PySem.W.fnOf "__init__" "Reading.__init__" (defArgs s_Reading_init) (defBody s_Reading_init) (defScope s_Reading_init) .none kV40 doc40 pm40 an40 cdv40 ct40), osl40⟩)
    (c40 : PySem.W.codeIn K cdv40 "Reading.__init__" = true)
    (k40 : PySem.W.keepIn K (.ref f40) = true)
    (gCC : PySem.W.nsIn K mainGlobals "Cluster" = some (some (.ref CC)))
    (pgCC : PySem.W.plainGet K CC Str.empty = true)
    (hdCC : PySem.W.hasDictIn K CC = true)
    (poCC : PySem.W.plainOver K CC = true)
    (saCC : PySem.W.findIn K (.ref CC) "__setattr__" = some (some (.builtin "object.__setattr__")))
    (mkCC : PySem.W.makesIn K CC = true)
    (kcCC : PySem.W.keepIn K (.ref CC) = true)
    (naCC0 : PySem.W.findIn K (.ref CC) "seed" = some none)
    (naCC1 : PySem.W.findIn K (.ref CC) "parts" = some none)
    (naCC2 : PySem.W.findIn K (.ref CC) "energy" = some none)
    (naCC3 : PySem.W.findIn K (.ref CC) "column" = some none)
    (naCC4 : PySem.W.findIn K (.ref CC) "row" = some none)
    (a41 : PySem.W.findIn K (.ref CC) "__init__" = some (some (.ref f41)))
    (i41 : PySem.W.isFn K (.ref f41) = true)
    (l41 : K.lookup f41 = some ⟨oc41, od41, .func (PySem.W.fnOf "__init__" "Cluster.__init__" (defArgs s_Cluster_init) (defBody s_Cluster_init) (defScope s_Cluster_init) .none kV41 doc41 pm41 an41 cdv41 ct41), osl41⟩)
    (c41 : PySem.W.codeIn K cdv41 "Cluster.__init__" = true)
    (k41 : PySem.W.keepIn K (.ref f41) = true)
    (gCD : PySem.W.nsIn K mainGlobals "Detector" = some (some (.ref CD)))
    (pgCD : PySem.W.plainGet K CD Str.empty = true)
    (hdCD : PySem.W.hasDictIn K CD = true)
    (poCD : PySem.W.plainOver K CD = true)
    (saCD : PySem.W.findIn K (.ref CD) "__setattr__" = some (some (.builtin "object.__setattr__")))
    (mkCD : PySem.W.makesIn K CD = true)
    (kcCD : PySem.W.keepIn K (.ref CD) = true)
    (naCD0 : PySem.W.findIn K (.ref CD) "seed" = some none)
    (naCD1 : PySem.W.findIn K (.ref CD) "low" = some none)
    (naCD2 : PySem.W.findIn K (.ref CD) "reach" = some none)
    (naCD3 : PySem.W.findIn K (.ref CD) "gains" = some none)
    (naCD4 : PySem.W.findIn K (.ref CD) "energy_weights" = some none)
    (naCD5 : PySem.W.findIn K (.ref CD) "time_weights" = some none)
    (naCD6 : PySem.W.findIn K (.ref CD) "readings" = some none)
    (naCD7 : PySem.W.findIn K (.ref CD) "clusters" = some none)
    (naCD8 : PySem.W.findIn K (.ref CD) "jets" = some none)
    (a42 : PySem.W.findIn K (.ref CD) "__init__" = some (some (.ref f42)))
    (i42 : PySem.W.isFn K (.ref f42) = true)
    (l42 : K.lookup f42 = some ⟨oc42, od42, .func (PySem.W.fnOf "__init__" "Detector.__init__" (defArgs s_Detector_init) (defBody s_Detector_init) (defScope s_Detector_init) .none kV42 doc42 pm42 an42 cdv42 ct42), osl42⟩)
    (c42 : PySem.W.codeIn K cdv42 "Detector.__init__" = true)
    (k42 : PySem.W.keepIn K (.ref f42) = true)
    (gCJ : PySem.W.nsIn K mainGlobals "Pseudojet" = some (some (.ref CJ)))
    (pgCJ : PySem.W.plainGet K CJ Str.empty = true)
    (hdCJ : PySem.W.hasDictIn K CJ = true)
    (poCJ : PySem.W.plainOver K CJ = true)
    (saCJ : PySem.W.findIn K (.ref CJ) "__setattr__" = some (some (.builtin "object.__setattr__")))
    (mkCJ : PySem.W.makesIn K CJ = true)
    (kcCJ : PySem.W.keepIn K (.ref CJ) = true)
    (naCJ0 : PySem.W.findIn K (.ref CJ) "energy" = some none)
    (naCJ1 : PySem.W.findIn K (.ref CJ) "column" = some none)
    (naCJ2 : PySem.W.findIn K (.ref CJ) "row" = some none)
    (naCJ3 : PySem.W.findIn K (.ref CJ) "clusters" = some none)
    (a43 : PySem.W.findIn K (.ref CJ) "__init__" = some (some (.ref f43)))
    (i43 : PySem.W.isFn K (.ref f43) = true)
    (l43 : K.lookup f43 = some ⟨oc43, od43, .func (PySem.W.fnOf "__init__" "Pseudojet.__init__" (defArgs s_Pseudojet_init) (defBody s_Pseudojet_init) (defScope s_Pseudojet_init) .none kV43 doc43 pm43 an43 cdv43 ct43), osl43⟩)
    (c43 : PySem.W.codeIn K cdv43 "Pseudojet.__init__" = true)
    (k43 : PySem.W.keepIn K (.ref f43) = true)
    (gCS : PySem.W.nsIn K mainGlobals "Session" = some (some (.ref CS)))
    (pgCS : PySem.W.plainGet K CS Str.empty = true)
    (hdCS : PySem.W.hasDictIn K CS = true)
    (poCS : PySem.W.plainOver K CS = true)
    (saCS : PySem.W.findIn K (.ref CS) "__setattr__" = some (some (.builtin "object.__setattr__")))
    (mkCS : PySem.W.makesIn K CS = true)
    (kcCS : PySem.W.keepIn K (.ref CS) = true)
    (naCS0 : PySem.W.findIn K (.ref CS) "detector" = some none)
    (a44 : PySem.W.findIn K (.ref CS) "__init__" = some (some (.ref f44)))
    (i44 : PySem.W.isFn K (.ref f44) = true)
    (l44 : K.lookup f44 = some ⟨oc44, od44, .func (PySem.W.fnOf "__init__" "Session.__init__" (defArgs s_Session_init) (defBody s_Session_init) (defScope s_Session_init) .none kV44 doc44 pm44 an44 cdv44 ct44), osl44⟩)
    (c44 : PySem.W.codeIn K cdv44 "Session.__init__" = true)
    (k44 : PySem.W.keepIn K (.ref f44) = true)
    (a45 : PySem.W.findIn K (.ref CD) "set_gain" = some (some (.ref f45)))
    (i45 : PySem.W.isFn K (.ref f45) = true)
    (l45 : K.lookup f45 = some ⟨oc45, od45, .func (PySem.W.fnOf "set_gain" "Detector.set_gain" (defArgs s_Detector_set_gain) (defBody s_Detector_set_gain) (defScope s_Detector_set_gain) .none kV45 doc45 pm45 an45 cdv45 ct45), osl45⟩)
    (c45 : PySem.W.codeIn K cdv45 "Detector.set_gain" = true)
    (k45 : PySem.W.keepIn K (.ref f45) = true)
    (a46 : PySem.W.findIn K (.ref CD) "set_weights" = some (some (.ref f46)))
    (i46 : PySem.W.isFn K (.ref f46) = true)
    (l46 : K.lookup f46 = some ⟨oc46, od46, .func (PySem.W.fnOf "set_weights" "Detector.set_weights" (defArgs s_Detector_set_weights) (defBody s_Detector_set_weights) (defScope s_Detector_set_weights) .none kV46 doc46 pm46 an46 cdv46 ct46), osl46⟩)
    (c46 : PySem.W.codeIn K cdv46 "Detector.set_weights" = true)
    (k46 : PySem.W.keepIn K (.ref f46) = true)
    (a47 : PySem.W.findIn K (.ref CD) "take_pulse" = some (some (.ref f47)))
    (i47 : PySem.W.isFn K (.ref f47) = true)
    (l47 : K.lookup f47 = some ⟨oc47, od47, .func (PySem.W.fnOf "take_pulse" "Detector.take_pulse" (defArgs s_Detector_take_pulse) (defBody s_Detector_take_pulse) (defScope s_Detector_take_pulse) .none kV47 doc47 pm47 an47 cdv47 ct47), osl47⟩)
    (c47 : PySem.W.codeIn K cdv47 "Detector.take_pulse" = true)
    (k47 : PySem.W.keepIn K (.ref f47) = true)
    (a48 : PySem.W.findIn K (.ref CD) "reading_of" = some (some (.ref f48)))
    (i48 : PySem.W.isFn K (.ref f48) = true)
    (l48 : K.lookup f48 = some ⟨oc48, od48, .func (PySem.W.fnOf "reading_of" "Detector.reading_of" (defArgs s_Detector_reading_of) (defBody s_Detector_reading_of) (defScope s_Detector_reading_of) .none kV48 doc48 pm48 an48 cdv48 ct48), osl48⟩)
    (c48 : PySem.W.codeIn K cdv48 "Detector.reading_of" = true)
    (k48 : PySem.W.keepIn K (.ref f48) = true)
    (a49 : PySem.W.findIn K (.ref CD) "present_energies" = some (some (.ref f49)))
    (i49 : PySem.W.isFn K (.ref f49) = true)
    (l49 : K.lookup f49 = some ⟨oc49, od49, .func (PySem.W.fnOf "present_energies" "Detector.present_energies" (defArgs s_Detector_present_energies) (defBody s_Detector_present_energies) (defScope s_Detector_present_energies) .none kV49 doc49 pm49 an49 cdv49 ct49), osl49⟩)
    (c49 : PySem.W.codeIn K cdv49 "Detector.present_energies" = true)
    (k49 : PySem.W.keepIn K (.ref f49) = true)
    (a50 : PySem.W.findIn K (.ref CD) "find_clusters" = some (some (.ref f50)))
    (i50 : PySem.W.isFn K (.ref f50) = true)
    (l50 : K.lookup f50 = some ⟨oc50, od50, .func (PySem.W.fnOf "find_clusters" "Detector.find_clusters" (defArgs s_Detector_find_clusters) (defBody s_Detector_find_clusters) (defScope s_Detector_find_clusters) .none kV50 doc50 pm50 an50 cdv50 ct50), osl50⟩)
    (c50 : PySem.W.codeIn K cdv50 "Detector.find_clusters" = true)
    (k50 : PySem.W.keepIn K (.ref f50) = true)
    (a51 : PySem.W.findIn K (.ref CD) "cluster_at" = some (some (.ref f51)))
    (i51 : PySem.W.isFn K (.ref f51) = true)
    (l51 : K.lookup f51 = some ⟨oc51, od51, .func (PySem.W.fnOf "cluster_at" "Detector.cluster_at" (defArgs s_Detector_cluster_at) (defBody s_Detector_cluster_at) (defScope s_Detector_cluster_at) .none kV51 doc51 pm51 an51 cdv51 ct51), osl51⟩)
    (c51 : PySem.W.codeIn K cdv51 "Detector.cluster_at" = true)
    (k51 : PySem.W.keepIn K (.ref f51) = true)
    (a52 : PySem.W.findIn K (.ref CD) "find_jets" = some (some (.ref f52)))
    (i52 : PySem.W.isFn K (.ref f52) = true)
    (l52 : K.lookup f52 = some ⟨oc52, od52, .func (PySem.W.fnOf "find_jets" "Detector.find_jets" (defArgs s_Detector_find_jets) (defBody s_Detector_find_jets) (defScope s_Detector_find_jets) .none kV52 doc52 pm52 an52 cdv52 ct52), osl52⟩)
    (c52 : PySem.W.codeIn K cdv52 "Detector.find_jets" = true)
    (k52 : PySem.W.keepIn K (.ref f52) = true)
    (a53 : PySem.W.findIn K (.ref CD) "jet_at" = some (some (.ref f53)))
    (i53 : PySem.W.isFn K (.ref f53) = true)
    (l53 : K.lookup f53 = some ⟨oc53, od53, .func (PySem.W.fnOf "jet_at" "Detector.jet_at" (defArgs s_Detector_jet_at) (defBody s_Detector_jet_at) (defScope s_Detector_jet_at) .none kV53 doc53 pm53 an53 cdv53 ct53), osl53⟩)
    (c53 : PySem.W.codeIn K cdv53 "Detector.jet_at" = true)
    (k53 : PySem.W.keepIn K (.ref f53) = true)
    (a54 : PySem.W.findIn K (.ref CD) "energy_sums" = some (some (.ref f54)))
    (i54 : PySem.W.isFn K (.ref f54) = true)
    (l54 : K.lookup f54 = some ⟨oc54, od54, .func (PySem.W.fnOf "energy_sums" "Detector.energy_sums" (defArgs s_Detector_energy_sums) (defBody s_Detector_energy_sums) (defScope s_Detector_energy_sums) .none kV54 doc54 pm54 an54 cdv54 ct54), osl54⟩)
    (c54 : PySem.W.codeIn K cdv54 "Detector.energy_sums" = true)
    (k54 : PySem.W.keepIn K (.ref f54) = true)
    (a55 : PySem.W.findIn K (.ref CD) "window_of" = some (some (.ref f55)))
    (i55 : PySem.W.isFn K (.ref f55) = true)
    (l55 : K.lookup f55 = some ⟨oc55, od55, .func (PySem.W.fnOf "window_of" "Detector.window_of" (defArgs s_Detector_window_of) (defBody s_Detector_window_of) (defScope s_Detector_window_of) .none kV55 doc55 pm55 an55 cdv55 ct55), osl55⟩)
    (c55 : PySem.W.codeIn K cdv55 "Detector.window_of" = true)
    (k55 : PySem.W.keepIn K (.ref f55) = true)
    (a56 : PySem.W.findIn K (.ref CD) "clear_blocks" = some (some (.ref f56)))
    (i56 : PySem.W.isFn K (.ref f56) = true)
    (l56 : K.lookup f56 = some ⟨oc56, od56, .func (PySem.W.fnOf "clear_blocks" "Detector.clear_blocks" (defArgs s_Detector_clear_blocks) (defBody s_Detector_clear_blocks) (defScope s_Detector_clear_blocks) .none kV56 doc56 pm56 an56 cdv56 ct56), osl56⟩)
    (c56 : PySem.W.codeIn K cdv56 "Detector.clear_blocks" = true)
    (k56 : PySem.W.keepIn K (.ref f56) = true)
    (a57 : PySem.W.findIn K (.ref CS) "answer" = some (some (.ref f57)))
    (i57 : PySem.W.isFn K (.ref f57) = true)
    (l57 : K.lookup f57 = some ⟨oc57, od57, .func (PySem.W.fnOf "answer" "Session.answer" (defArgs s_Session_answer) (defBody s_Session_answer) (defScope s_Session_answer) .none kV57 doc57 pm57 an57 cdv57 ct57), osl57⟩)
    (c57 : PySem.W.codeIn K cdv57 "Session.answer" = true)
    (k57 : PySem.W.keepIn K (.ref f57) = true)
    (n0 : PySem.W.nsIn K mainGlobals "SIDE" = some (some (.int 32 t0)))
    (n1 : PySem.W.nsIn K mainGlobals "BLOCKS" = some (some (.int 1024 t1)))
    (n2 : PySem.W.nsIn K mainGlobals "FINENESS" = some (some (.int 64 t2)))
    (n3 : PySem.W.nsIn K mainGlobals "CYCLE" = some (some (.int 2048 t3)))
    (n4 : PySem.W.nsIn K mainGlobals "SAMPLES" = some (some (.int 8 t4)))
    (n5 : PySem.W.nsIn K mainGlobals "GREATEST_SAMPLE" = some (some (.int 4095 t5)))
    (n6 : PySem.W.nsIn K mainGlobals "GREATEST_ENERGY" = some (some (.int 1099511627776 t6)))
    (n7 : PySem.W.nsIn K mainGlobals "LEAST_TIME" = some (some (.int (-32768) t7)))
    (n8 : PySem.W.nsIn K mainGlobals "GREATEST_TIME" = some (some (.int 32767 t8)))
    (n9 : PySem.W.nsIn K mainGlobals "GAINS" = some (some (.int 4 t9)))
    (n10 : PySem.W.nsIn K mainGlobals "GREATEST_REACH" = some (some (.int 1024 t10)))
    (n11 : PySem.W.nsIn K mainGlobals "GREATEST_MUL" = some (some (.int 1048576 t11)))
    (n12 : PySem.W.nsIn K mainGlobals "GREATEST_SHIFT" = some (some (.int 24 t12)))
    (n13 : PySem.W.nsIn K mainGlobals "LEAST_WEIGHT" = some (some (.int (-32768) t13)))
    (n14 : PySem.W.nsIn K mainGlobals "GREATEST_WEIGHT" = some (some (.int 32767 t14)))
    (n15 : PySem.W.nsIn K mainGlobals "NO_CALORIMETER" = some (some (.int (-7) t15)))
    (n16 : PySem.W.nsIn K mainGlobals "OUT_OF_RANGE" = some (some (.int (-2) t16)))
    (n17 : PySem.W.nsIn K mainGlobals "OPENING" = some (some (.int 1 t17)))
    (z_sum : PySem.W.nsIn K mainGlobals "sum" = some none)
    (z_max : PySem.W.nsIn K mainGlobals "max" = some none)
    (z_min : PySem.W.nsIn K mainGlobals "min" = some none)
    (z_len : PySem.W.nsIn K mainGlobals "len" = some none)
    (z_range : PySem.W.nsIn K mainGlobals "range" = some none)
    (z_zip : PySem.W.nsIn K mainGlobals "zip" = some none)
    (z_sorted : PySem.W.nsIn K mainGlobals "sorted" = some none)
    (z_abs : PySem.W.nsIn K mainGlobals "abs" = some none)
    (z_enumerate : PySem.W.nsIn K mainGlobals "enumerate" = some none)
    (z_list : PySem.W.nsIn K mainGlobals "list" = some none)
    (gCO : PySem.W.nsIn K mainGlobals "OutOfRange" = some (some (.ref CO)))
    (xO : PySem.W.excIn K CO [.type "ValueError", .type "Exception", .type "BaseException", .type "object"] "ValueError.__new__" = true)
    (kO : PySem.W.keepIn K (.ref CO) = true)
    (bO : PySem.W.subIn K (.ref CO) (.type "BaseException") = some true)
    (tO : PySem.W.typeIn K (.ref CO) = some (.type "type"))
    (iO : PySem.W.isClsIn K CO = true)
    (sO : PySem.W.subIn K (.ref CO) (.ref CO) = some true)
    (gA : PySem.W.nsIn K mainGlobals "ARGUMENTS" = some (some (.ref dA)))
    (lA : K.lookup dA = some ⟨.type "dict", none, .dict esA nA, #[]⟩)
    (cA : chkInts esA = true)
    (tA : tabOk esA = true)
    (gH : PySem.W.nsIn K mainGlobals "HANDLERS" = some (some (.ref dH)))
    (lH : K.lookup dH = some ⟨.type "dict", none, .dict esH nH, #[]⟩)
    (cH : chkInts esH = true)
    (h2 : findBy keyIs esH (.inl 2) = some (.ref f26))
    (h3 : findBy keyIs esH (.inl 3) = some (.ref f27))
    (h4 : findBy keyIs esH (.inl 4) = some (.ref f28))
    (h5 : findBy keyIs esH (.inl 5) = some (.ref f29))
    (h6 : findBy keyIs esH (.inl 6) = some (.ref f30))
    (h7 : findBy keyIs esH (.inl 7) = some (.ref f31))
    (h8 : findBy keyIs esH (.inl 8) = some (.ref f32))
    (h9 : findBy keyIs esH (.inl 9) = some (.ref f33))
    (h10 : findBy keyIs esH (.inl 10) = some (.ref f34))
    (h11 : findBy keyIs esH (.inl 11) = some (.ref f35))
    (h12 : findBy keyIs esH (.inl 12) = some (.ref f36))
    (h13 : findBy keyIs esH (.inl 13) = some (.ref f37))
    : ∃ fd : FuncData, (∀ (s : Shared) (us : List Value), us.length = (["calls"] : List Str).length → BindsTo s fd ⟨us, []⟩ ((["calls"] : List Str).zip us)) ∧ ∀ base : Heap, K.In base → base.Ns mainGlobals mg → LamX.TabB base mg c T → FnOk P w K mg base CX0 9 fa fd ["calls"] (sp_answers T K) := by
  have e := hfa.symm.trans (PySem.W.mg_of X G a38)
  cases e
  have A : Facts K mg ⟨CD, CG, CR, CC, CJ⟩ CS CO dA dH c := {
    f_row_of := fun_at X G a0 l0 c0 k0
    f_column_of := fun_at X G a1 l1 c1 k1
    f_row_step := fun_at X G a2 l2 c2 k2
    f_column_step := fun_at X G a3 l3 c3 k3
    f_neighbours := fun_at X G a4 l4 c4 k4
    f_nearest := fun_at X G a5 l5 c5 k5
    f_check_range := fun_at X G a6 l6 c6 k6
    f_check_all := fun_at X G a7 l7 c7 k7
    f_weighed_sum := fun_at X G a8 l8 c8 k8
    f_weigh := fun_at X G a9 l9 c9 k9
    f_is_seed := fun_at X G a10 l10 c10 k10
    f_seed_blocks := fun_at X G a11 l11 c11 k11
    f_owners_of := fun_at X G a12 l12 c12 k12
    f_divide := fun_at X G a13 l13 c13 k13
    f_clusters_of := fun_at X G a14 l14 c14 k14
    f_energy_inside := fun_at X G a15 l15 c15 k15
    f_squared_distance := fun_at X G a16 l16 c16 k16
    f_joined := fun_at X G a17 l17 c17 k17
    f_greatest_place := fun_at X G a18 l18 c18 k18
    f_next_step := fun_at X G a19 l19 c19 k19
    f_jets_of := fun_atC X G a20 l20 c20 k20 hfx hox
    f_strips_of := fun_at X G a21 l21 c21 k21
    f_greatest_window := fun_at X G a22 l22 c22 k22
    f_blank_readings := fun_at X G a23 l23 c23 k23
    f_present_time := fun_at X G a24 l24 c24 k24
    f_present_full := fun_at X G a25 l25 c25 k25
    i_Gain := init_at a39 i39 l39 c39 k39 mkCG kcCG
    g_Gain := PySem.W.mg_of X G gCG
    c_Gain := ⟨⟨pgCG, hdCG, poCG, saCG⟩, List.forall_mem_cons.mpr ⟨naCG0, List.forall_mem_cons.mpr ⟨naCG1, List.forall_mem_cons.mpr ⟨naCG2, fun _ h => nomatch h⟩⟩⟩⟩
    i_Reading := init_at a40 i40 l40 c40 k40 mkCR kcCR
    g_Reading := PySem.W.mg_of X G gCR
    c_Reading := ⟨⟨pgCR, hdCR, poCR, saCR⟩, List.forall_mem_cons.mpr ⟨naCR0, List.forall_mem_cons.mpr ⟨naCR1, List.forall_mem_cons.mpr ⟨naCR2, fun _ h => nomatch h⟩⟩⟩⟩
    i_Cluster := init_at a41 i41 l41 c41 k41 mkCC kcCC
    g_Cluster := PySem.W.mg_of X G gCC
    c_Cluster := ⟨⟨pgCC, hdCC, poCC, saCC⟩, List.forall_mem_cons.mpr ⟨naCC0, List.forall_mem_cons.mpr ⟨naCC1, List.forall_mem_cons.mpr ⟨naCC2, List.forall_mem_cons.mpr ⟨naCC3, List.forall_mem_cons.mpr ⟨naCC4, fun _ h => nomatch h⟩⟩⟩⟩⟩⟩
    i_Detector := init_at a42 i42 l42 c42 k42 mkCD kcCD
    g_Detector := PySem.W.mg_of X G gCD
    c_Detector := ⟨⟨pgCD, hdCD, poCD, saCD⟩, List.forall_mem_cons.mpr ⟨naCD0, List.forall_mem_cons.mpr ⟨naCD1, List.forall_mem_cons.mpr ⟨naCD2, List.forall_mem_cons.mpr ⟨naCD3, List.forall_mem_cons.mpr ⟨naCD4, List.forall_mem_cons.mpr ⟨naCD5, List.forall_mem_cons.mpr ⟨naCD6, List.forall_mem_cons.mpr ⟨naCD7, List.forall_mem_cons.mpr ⟨naCD8, fun _ h => nomatch h⟩⟩⟩⟩⟩⟩⟩⟩⟩⟩
    i_Pseudojet := init_at a43 i43 l43 c43 k43 mkCJ kcCJ
    g_Pseudojet := PySem.W.mg_of X G gCJ
    c_Pseudojet := ⟨⟨pgCJ, hdCJ, poCJ, saCJ⟩, List.forall_mem_cons.mpr ⟨naCJ0, List.forall_mem_cons.mpr ⟨naCJ1, List.forall_mem_cons.mpr ⟨naCJ2, List.forall_mem_cons.mpr ⟨naCJ3, fun _ h => nomatch h⟩⟩⟩⟩⟩
    i_Session := init_at a44 i44 l44 c44 k44 mkCS kcCS
    g_Session := PySem.W.mg_of X G gCS
    c_Session := ⟨⟨pgCS, hdCS, poCS, saCS⟩, List.forall_mem_cons.mpr ⟨naCS0, fun _ h => nomatch h⟩⟩
    f_set_gain := meth_at a45 i45 l45 c45 k45
    f_set_weights := meth_at a46 i46 l46 c46 k46
    f_take_pulse := meth_at a47 i47 l47 c47 k47
    f_reading_of := meth_at a48 i48 l48 c48 k48
    f_present_energies := meth_at a49 i49 l49 c49 k49
    f_find_clusters := meth_at a50 i50 l50 c50 k50
    f_cluster_at := meth_at a51 i51 l51 c51 k51
    f_find_jets := meth_at a52 i52 l52 c52 k52
    f_jet_at := meth_at a53 i53 l53 c53 k53
    f_energy_sums := meth_at a54 i54 l54 c54 k54
    f_window_of := meth_at a55 i55 l55 c55 k55
    f_clear_blocks := meth_at a56 i56 l56 c56 k56
    f_answer := meth_at a57 i57 l57 c57 k57
    f_answer_gain := ⟨f26, _, fun_mk l26 c26 k26, ⟨esH, nH, .ref f26, lH, cH, h2, rfl⟩⟩
    f_answer_weights := ⟨f27, _, fun_mk l27 c27 k27, ⟨esH, nH, .ref f27, lH, cH, h3, rfl⟩⟩
    f_answer_pulse := ⟨f28, _, fun_mk l28 c28 k28, ⟨esH, nH, .ref f28, lH, cH, h4, rfl⟩⟩
    f_answer_block := ⟨f29, _, fun_mk l29 c29 k29, ⟨esH, nH, .ref f29, lH, cH, h5, rfl⟩⟩
    f_answer_find_clusters := ⟨f30, _, fun_mk l30 c30 k30, ⟨esH, nH, .ref f30, lH, cH, h6, rfl⟩⟩
    f_answer_cluster := ⟨f31, _, fun_mk l31 c31 k31, ⟨esH, nH, .ref f31, lH, cH, h7, rfl⟩⟩
    f_answer_parts := ⟨f32, _, fun_mk l32 c32 k32, ⟨esH, nH, .ref f32, lH, cH, h8, rfl⟩⟩
    f_answer_find_jets := ⟨f33, _, fun_mk l33 c33 k33, ⟨esH, nH, .ref f33, lH, cH, h9, rfl⟩⟩
    f_answer_jet := ⟨f34, _, fun_mk l34 c34 k34, ⟨esH, nH, .ref f34, lH, cH, h10, rfl⟩⟩
    f_answer_sums := ⟨f35, _, fun_mk l35 c35 k35, ⟨esH, nH, .ref f35, lH, cH, h11, rfl⟩⟩
    f_answer_window := ⟨f36, _, fun_mk l36 c36 k36, ⟨esH, nH, .ref f36, lH, cH, h12, rfl⟩⟩
    f_answer_clear := ⟨f37, _, fun_mk l37 c37 k37, ⟨esH, nH, .ref f37, lH, cH, h13, rfl⟩⟩
    n_SIDE := ⟨t0, PySem.W.mg_of X G n0⟩
    n_BLOCKS := ⟨t1, PySem.W.mg_of X G n1⟩
    n_FINENESS := ⟨t2, PySem.W.mg_of X G n2⟩
    n_CYCLE := ⟨t3, PySem.W.mg_of X G n3⟩
    n_SAMPLES := ⟨t4, PySem.W.mg_of X G n4⟩
    n_GREATEST_SAMPLE := ⟨t5, PySem.W.mg_of X G n5⟩
    n_GREATEST_ENERGY := ⟨t6, PySem.W.mg_of X G n6⟩
    n_LEAST_TIME := ⟨t7, PySem.W.mg_of X G n7⟩
    n_GREATEST_TIME := ⟨t8, PySem.W.mg_of X G n8⟩
    n_GAINS := ⟨t9, PySem.W.mg_of X G n9⟩
    n_GREATEST_REACH := ⟨t10, PySem.W.mg_of X G n10⟩
    n_GREATEST_MUL := ⟨t11, PySem.W.mg_of X G n11⟩
    n_GREATEST_SHIFT := ⟨t12, PySem.W.mg_of X G n12⟩
    n_LEAST_WEIGHT := ⟨t13, PySem.W.mg_of X G n13⟩
    n_GREATEST_WEIGHT := ⟨t14, PySem.W.mg_of X G n14⟩
    n_NO_CALORIMETER := ⟨t15, PySem.W.mg_of X G n15⟩
    n_OUT_OF_RANGE := ⟨t16, PySem.W.mg_of X G n16⟩
    n_OPENING := ⟨t17, PySem.W.mg_of X G n17⟩
    z_sum := PySem.W.mg_none_of X G z_sum
    z_max := PySem.W.mg_none_of X G z_max
    z_min := PySem.W.mg_none_of X G z_min
    z_len := PySem.W.mg_none_of X G z_len
    z_range := PySem.W.mg_none_of X G z_range
    z_zip := PySem.W.mg_none_of X G z_zip
    z_sorted := PySem.W.mg_none_of X G z_sorted
    z_abs := PySem.W.mg_none_of X G z_abs
    z_enumerate := PySem.W.mg_none_of X G z_enumerate
    z_list := PySem.W.mg_none_of X G z_list
    oor := ⟨PySem.W.mg_of X G gCO, xO, kO, bO, tO, exm_self bO iO tO sO⟩
    gA := PySem.W.mg_of X G gA
    gH := PySem.W.mg_of X G gH
    hA := tab_at lA cA tA }
  exact ⟨_, fun s us hu => match us, hu with | [_], _ => .of_eq rfl, fun base _ _ TB => whole A TB (fun_mk l38 c38 k38)⟩
end J
set_option Elab.async false
open PySem PySem.W PyProof.Rows
set_option maxRecDepth 100000 in
set_option maxHeartbeats 8000000 in
theorem PySem.Challenge.cw_jetblocks_s01_answers_holds : PySem.Challenge.rw_jetblocks_s01_answers.Holds := by
  w_on; k_headS; (case hw => exact ⟨[.list [.int 6]], by decide +kernel, by decide +kernel⟩)
  k_fillS
  refine J.walk_tab (r := PySem.Challenge.rw_jetblocks_s01_answers) (k := 9) (ps := ["calls"]) (sp := fun T K => J.sp_answers T K) "jets_of" (by decide +kernel) rfl ⟨rfl, by decide, by decide⟩ (fun w h Y => PySem.W.kIn_of Y) (by decide +kernel) ?F ?S
  case F =>
    intro w mg fa fx c T h KX G hmg hfx hox tab
    refine ⟨J.no_tab (by first | rfl | kernel_rfl) KX tab, ?_⟩
    refine' J.all_mk KX G hmg hfx hox ?a0 ?l0 ?c0 ?k0 ?a1 ?l1 ?c1 ?k1 ?a2 ?l2 ?c2 ?k2 ?a3 ?l3 ?c3 ?k3 ?a4 ?l4 ?c4 ?k4 ?a5 ?l5 ?c5 ?k5 ?a6 ?l6 ?c6 ?k6 ?a7 ?l7 ?c7 ?k7 ?a8 ?l8 ?c8 ?k8 ?a9 ?l9 ?c9 ?k9 ?a10 ?l10 ?c10 ?k10 ?a11 ?l11 ?c11 ?k11 ?a12 ?l12 ?c12 ?k12 ?a13 ?l13 ?c13 ?k13 ?a14 ?l14 ?c14 ?k14 ?a15 ?l15 ?c15 ?k15 ?a16 ?l16 ?c16 ?k16 ?a17 ?l17 ?c17 ?k17 ?a18 ?l18 ?c18 ?k18 ?a19 ?l19 ?c19 ?k19 ?a20 ?l20 ?c20 ?k20 ?a21 ?l21 ?c21 ?k21 ?a22 ?l22 ?c22 ?k22 ?a23 ?l23 ?c23 ?k23 ?a24 ?l24 ?c24 ?k24 ?a25 ?l25 ?c25 ?k25 ?a26 ?l26 ?c26 ?k26 ?a27 ?l27 ?c27 ?k27 ?a28 ?l28 ?c28 ?k28 ?a29 ?l29 ?c29 ?k29 ?a30 ?l30 ?c30 ?k30 ?a31 ?l31 ?c31 ?k31 ?a32 ?l32 ?c32 ?k32 ?a33 ?l33 ?c33 ?k33 ?a34 ?l34 ?c34 ?k34 ?a35 ?l35 ?c35 ?k35 ?a36 ?l36 ?c36 ?k36 ?a37 ?l37 ?c37 ?k37 ?a38 ?l38 ?c38 ?k38 ?gCG ?pgCG ?hdCG ?poCG ?saCG ?mkCG ?kcCG ?naCG0 ?naCG1 ?naCG2 ?a39 ?i39 ?l39 ?c39 ?k39 ?gCR ?pgCR ?hdCR ?poCR ?saCR ?mkCR ?kcCR ?naCR0 ?naCR1 ?naCR2 ?a40 ?i40 ?l40 ?c40 ?k40 ?gCC ?pgCC ?hdCC ?poCC ?saCC ?mkCC ?kcCC ?naCC0 ?naCC1 ?naCC2 ?naCC3 ?naCC4 ?a41 ?i41 ?l41 ?c41 ?k41 ?gCD ?pgCD ?hdCD ?poCD ?saCD ?mkCD ?kcCD ?naCD0 ?naCD1 ?naCD2 ?naCD3 ?naCD4 ?naCD5 ?naCD6 ?naCD7 ?naCD8 ?a42 ?i42 ?l42 ?c42 ?k42 ?gCJ ?pgCJ ?hdCJ ?poCJ ?saCJ ?mkCJ ?kcCJ ?naCJ0 ?naCJ1 ?naCJ2 ?naCJ3 ?a43 ?i43 ?l43 ?c43 ?k43 ?gCS ?pgCS ?hdCS ?poCS ?saCS ?mkCS ?kcCS ?naCS0 ?a44 ?i44 ?l44 ?c44 ?k44 ?a45 ?i45 ?l45 ?c45 ?k45 ?a46 ?i46 ?l46 ?c46 ?k46 ?a47 ?i47 ?l47 ?c47 ?k47 ?a48 ?i48 ?l48 ?c48 ?k48 ?a49 ?i49 ?l49 ?c49 ?k49 ?a50 ?i50 ?l50 ?c50 ?k50 ?a51 ?i51 ?l51 ?c51 ?k51 ?a52 ?i52 ?l52 ?c52 ?k52 ?a53 ?i53 ?l53 ?c53 ?k53 ?a54 ?i54 ?l54 ?c54 ?k54 ?a55 ?i55 ?l55 ?c55 ?k55 ?a56 ?i56 ?l56 ?c56 ?k56 ?a57 ?i57 ?l57 ?c57 ?k57 ?n0 ?n1 ?n2 ?n3 ?n4 ?n5 ?n6 ?n7 ?n8 ?n9 ?n10 ?n11 ?n12 ?n13 ?n14 ?n15 ?n16 ?n17 ?z_sum ?z_max ?z_min ?z_len ?z_range ?z_zip ?z_sorted ?z_abs ?z_enumerate ?z_list ?gCO ?xO ?kO ?bO ?tO ?iO ?sO ?gA ?lA ?cA ?tA ?gH ?lH ?cH ?h2 ?h3 ?h4 ?h5 ?h6 ?h7 ?h8 ?h9 ?h10 ?h11 ?h12 ?h13
    (case a0 => k_is)
    (case l0 => k_is)
    (case c0 => k_is)
    (case k0 => k_is)
    (case a1 => k_is)
    (case l1 => k_is)
    (case c1 => k_is)
    (case k1 => k_is)
    (case a2 => k_is)
    (case l2 => k_is)
    (case c2 => k_is)
    (case k2 => k_is)
    (case a3 => k_is)
    (case l3 => k_is)
    (case c3 => k_is)
    (case k3 => k_is)
    (case a4 => k_is)
    (case l4 => k_is)
    (case c4 => k_is)
    (case k4 => k_is)
    (case a5 => k_is)
    (case l5 => k_is)
    (case c5 => k_is)
    (case k5 => k_is)
    (case a6 => k_is)
    (case l6 => k_is)
    (case c6 => k_is)
    (case k6 => k_is)
    (case a7 => k_is)
    (case l7 => k_is)
    (case c7 => k_is)
    (case k7 => k_is)
    (case a8 => k_is)
    (case l8 => k_is)
    (case c8 => k_is)
    (case k8 => k_is)
    (case a9 => k_is)
    (case l9 => k_is)
    (case c9 => k_is)
    (case k9 => k_is)
    (case a10 => k_is)
    (case l10 => k_is)
    (case c10 => k_is)
    (case k10 => k_is)
    (case a11 => k_is)
    (case l11 => k_is)
    (case c11 => k_is)
    (case k11 => k_is)
    (case a12 => k_is)
    (case l12 => k_is)
    (case c12 => k_is)
    (case k12 => k_is)
    (case a13 => k_is)
    (case l13 => k_is)
    (case c13 => k_is)
    (case k13 => k_is)
    (case a14 => k_is)
    (case l14 => k_is)
    (case c14 => k_is)
    (case k14 => k_is)
    (case a15 => k_is)
    (case l15 => k_is)
    (case c15 => k_is)
    (case k15 => k_is)
    (case a16 => k_is)
    (case l16 => k_is)
    (case c16 => k_is)
    (case k16 => k_is)
    (case a17 => k_is)
    (case l17 => k_is)
    (case c17 => k_is)
    (case k17 => k_is)
    (case a18 => k_is)
    (case l18 => k_is)
    (case c18 => k_is)
    (case k18 => k_is)
    (case a19 => k_is)
    (case l19 => k_is)
    (case c19 => k_is)
    (case k19 => k_is)
    (case a20 => k_is)
    (case l20 => k_is)
    (case c20 => k_is)
    (case k20 => k_is)
    (case a21 => k_is)
    (case l21 => k_is)
    (case c21 => k_is)
    (case k21 => k_is)
    (case a22 => k_is)
    (case l22 => k_is)
    (case c22 => k_is)
    (case k22 => k_is)
    (case a23 => k_is)
    (case l23 => k_is)
    (case c23 => k_is)
    (case k23 => k_is)
    (case a24 => k_is)
    (case l24 => k_is)
    (case c24 => k_is)
    (case k24 => k_is)
    (case a25 => k_is)
    (case l25 => k_is)
    (case c25 => k_is)
    (case k25 => k_is)
    (case a26 => k_is)
    (case l26 => k_is)
    (case c26 => k_is)
    (case k26 => k_is)
    (case a27 => k_is)
    (case l27 => k_is)
    (case c27 => k_is)
    (case k27 => k_is)
    (case a28 => k_is)
    (case l28 => k_is)
    (case c28 => k_is)
    (case k28 => k_is)
    (case a29 => k_is)
    (case l29 => k_is)
    (case c29 => k_is)
    (case k29 => k_is)
    (case a30 => k_is)
    (case l30 => k_is)
    (case c30 => k_is)
    (case k30 => k_is)
    (case a31 => k_is)
    (case l31 => k_is)
    (case c31 => k_is)
    (case k31 => k_is)
    (case a32 => k_is)
    (case l32 => k_is)
    (case c32 => k_is)
    (case k32 => k_is)
    (case a33 => k_is)
    (case l33 => k_is)
    (case c33 => k_is)
    (case k33 => k_is)
    (case a34 => k_is)
    (case l34 => k_is)
    (case c34 => k_is)
    (case k34 => k_is)
    (case a35 => k_is)
    (case l35 => k_is)
    (case c35 => k_is)
    (case k35 => k_is)
    (case a36 => k_is)
    (case l36 => k_is)
    (case c36 => k_is)
    (case k36 => k_is)
    (case a37 => k_is)
    (case l37 => k_is)
    (case c37 => k_is)
    (case k37 => k_is)
    (case a38 => k_is)
    (case l38 => k_is)
    (case c38 => k_is)
    (case k38 => k_is)
    (case gCG => k_is)
    (case pgCG => k_is)
    (case hdCG => k_is)
    (case poCG => k_is)
    (case saCG => k_is)
    (case mkCG => k_is)
    (case kcCG => k_is)
    (case naCG0 => k_is)
    (case naCG1 => k_is)
    (case naCG2 => k_is)
    (case a39 => k_is)
    (case i39 => k_is)
    (case l39 => k_is)
    (case c39 => k_is)
    (case k39 => k_is)
    (case gCR => k_is)
    (case pgCR => k_is)
    (case hdCR => k_is)
    (case poCR => k_is)
    (case saCR => k_is)
    (case mkCR => k_is)
    (case kcCR => k_is)
    (case naCR0 => k_is)
    (case naCR1 => k_is)
    (case naCR2 => k_is)
    (case a40 => k_is)
    (case i40 => k_is)
    (case l40 => k_is)
    (case c40 => k_is)
    (case k40 => k_is)
    (case gCC => k_is)
    (case pgCC => k_is)
    (case hdCC => k_is)
    (case poCC => k_is)
    (case saCC => k_is)
    (case mkCC => k_is)
    (case kcCC => k_is)
    (case naCC0 => k_is)
    (case naCC1 => k_is)
    (case naCC2 => k_is)
    (case naCC3 => k_is)
    (case naCC4 => k_is)
    (case a41 => k_is)
    (case i41 => k_is)
    (case l41 => k_is)
    (case c41 => k_is)
    (case k41 => k_is)
    (case gCD => k_is)
    (case pgCD => k_is)
    (case hdCD => k_is)
    (case poCD => k_is)
    (case saCD => k_is)
    (case mkCD => k_is)
    (case kcCD => k_is)
    (case naCD0 => k_is)
    (case naCD1 => k_is)
    (case naCD2 => k_is)
    (case naCD3 => k_is)
    (case naCD4 => k_is)
    (case naCD5 => k_is)
    (case naCD6 => k_is)
    (case naCD7 => k_is)
    (case naCD8 => k_is)
    (case a42 => k_is)
    (case i42 => k_is)
    (case l42 => k_is)
    (case c42 => k_is)
    (case k42 => k_is)
    (case gCJ => k_is)
    (case pgCJ => k_is)
    (case hdCJ => k_is)
    (case poCJ => k_is)
    (case saCJ => k_is)
    (case mkCJ => k_is)
    (case kcCJ => k_is)
    (case naCJ0 => k_is)
    (case naCJ1 => k_is)
    (case naCJ2 => k_is)
    (case naCJ3 => k_is)
    (case a43 => k_is)
    (case i43 => k_is)
    (case l43 => k_is)
    (case c43 => k_is)
    (case k43 => k_is)
    (case gCS => k_is)
    (case pgCS => k_is)
    (case hdCS => k_is)
    (case poCS => k_is)
    (case saCS => k_is)
    (case mkCS => k_is)
    (case kcCS => k_is)
    (case naCS0 => k_is)
    (case a44 => k_is)
    (case i44 => k_is)
    (case l44 => k_is)
    (case c44 => k_is)
    (case k44 => k_is)
    (case a45 => k_is)
    (case i45 => k_is)
    (case l45 => k_is)
    (case c45 => k_is)
    (case k45 => k_is)
    (case a46 => k_is)
    (case i46 => k_is)
    (case l46 => k_is)
    (case c46 => k_is)
    (case k46 => k_is)
    (case a47 => k_is)
    (case i47 => k_is)
    (case l47 => k_is)
    (case c47 => k_is)
    (case k47 => k_is)
    (case a48 => k_is)
    (case i48 => k_is)
    (case l48 => k_is)
    (case c48 => k_is)
    (case k48 => k_is)
    (case a49 => k_is)
    (case i49 => k_is)
    (case l49 => k_is)
    (case c49 => k_is)
    (case k49 => k_is)
    (case a50 => k_is)
    (case i50 => k_is)
    (case l50 => k_is)
    (case c50 => k_is)
    (case k50 => k_is)
    (case a51 => k_is)
    (case i51 => k_is)
    (case l51 => k_is)
    (case c51 => k_is)
    (case k51 => k_is)
    (case a52 => k_is)
    (case i52 => k_is)
    (case l52 => k_is)
    (case c52 => k_is)
    (case k52 => k_is)
    (case a53 => k_is)
    (case i53 => k_is)
    (case l53 => k_is)
    (case c53 => k_is)
    (case k53 => k_is)
    (case a54 => k_is)
    (case i54 => k_is)
    (case l54 => k_is)
    (case c54 => k_is)
    (case k54 => k_is)
    (case a55 => k_is)
    (case i55 => k_is)
    (case l55 => k_is)
    (case c55 => k_is)
    (case k55 => k_is)
    (case a56 => k_is)
    (case i56 => k_is)
    (case l56 => k_is)
    (case c56 => k_is)
    (case k56 => k_is)
    (case a57 => k_is)
    (case i57 => k_is)
    (case l57 => k_is)
    (case c57 => k_is)
    (case k57 => k_is)
    (case n0 => k_is)
    (case n1 => k_is)
    (case n2 => k_is)
    (case n3 => k_is)
    (case n4 => k_is)
    (case n5 => k_is)
    (case n6 => k_is)
    (case n7 => k_is)
    (case n8 => k_is)
    (case n9 => k_is)
    (case n10 => k_is)
    (case n11 => k_is)
    (case n12 => k_is)
    (case n13 => k_is)
    (case n14 => k_is)
    (case n15 => k_is)
    (case n16 => k_is)
    (case n17 => k_is)
    (case z_sum => k_is)
    (case z_max => k_is)
    (case z_min => k_is)
    (case z_len => k_is)
    (case z_range => k_is)
    (case z_zip => k_is)
    (case z_sorted => k_is)
    (case z_abs => k_is)
    (case z_enumerate => k_is)
    (case z_list => k_is)
    (case gCO => k_is)
    (case xO => k_exc)
    (case kO => k_is)
    (case bO => k_is)
    (case tO => k_is)
    (case iO => k_is)
    (case sO => first | rfl | k_is)
    (case gA => k_is)
    (case lA => k_is)
    (case cA => first | rfl | decide +kernel)
    (case tA => first | rfl | decide +kernel)
    (case gH => k_is)
    (case lH => k_is)
    (case cH => first | rfl | decide +kernel)
    (case h2 => first | rfl | decide +kernel)
    (case h3 => first | rfl | decide +kernel)
    (case h4 => first | rfl | decide +kernel)
    (case h5 => first | rfl | decide +kernel)
    (case h6 => first | rfl | decide +kernel)
    (case h7 => first | rfl | decide +kernel)
    (case h8 => first | rfl | decide +kernel)
    (case h9 => first | rfl | decide +kernel)
    (case h10 => first | rfl | decide +kernel)
    (case h11 => first | rfl | decide +kernel)
    (case h12 => first | rfl | decide +kernel)
    (case h13 => first | rfl | decide +kernel)
  case S =>
    intro K T H0 H xs a hO S0 off hT hwi hask hx
    cases hx with
    | cons h1 h2 =>
      cases h2
      cases h1 with
      | lst hs ha =>
        have e := L2.ints_dw a.1 _ ha
        subst e
        exact ⟨_, a.1, rfl, L2.Same.seq S0 hs, fun b hb => by rw [off b hb]; exact hO b, hT, hask, fun H' p hp => .lst (L2.SqL.of hp) (L2.dw_ints _)⟩
#print axioms PySem.Challenge.cw_jetblocks_s01_answers_holds
