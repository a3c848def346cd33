import PyProof.Rows.All
import Wide.All
import OpenK.AllK
import Wide.FinOn
import HandS.ForExc
import HandS.Comp
import HandS.Dict
import HandS.Iter
import HandS.Walk
import HandS.IsInst
import HandS.Rev
import HandS.Gcd
import HandS.More
import KE.KMathGC
import KE.GoesEnumKw
import HandS.ExcIs
import HandS.ExcValue
import HandS.TupAny
import HandS.Style
import HandS.Conv
import HandS.SortInts
import HandS.CallLocal
import HandS.TupLen
import HandS.Set
import HandS.Strs
import HandS.SetFor
import PySem.Challenge.RW_doorpicks_k07_no_picks
set_option Elab.async false
set_option linter.all false
set_option maxRecDepth 100000
set_option maxHeartbeats 4000000
namespace Dp
/-! ways to pick -/
def ch : Nat → Nat → Nat
  | _, 0 => 1
  | 0, _ + 1 => 0
  | n + 1, k + 1 => ch n k + ch n (k + 1)
theorem ch_zero (n : Nat) : ch n 0 = 1 := by cases n <;> rfl
theorem ch_succ (n k : Nat) : ch (n + 1) (k + 1) = ch n k + ch n (k + 1) := rfl
theorem ch_above : ∀ {n k : Nat}, n < k → ch n k = 0
  | n, 0, h => absurd h (Nat.not_lt_zero _)
  | 0, k + 1, _ => rfl
  | n + 1, k + 1, h => by
    rw [ch_succ, ch_above (n := n) (k := k) (by omega), ch_above (n := n) (k := k + 1) (by omega)]
theorem ch_self : ∀ n : Nat, ch n n = 1
  | 0 => rfl
  | n + 1 => by rw [ch_succ, ch_self n, ch_above (Nat.lt_succ_self n)]
theorem ch_pos : ∀ {n k : Nat}, k ≤ n → 1 ≤ ch n k
  | n, 0, _ => by rw [ch_zero]; exact Nat.le_refl 1
  | 0, k + 1, h => absurd h (by omega)
  | n + 1, k + 1, h => by
    rw [ch_succ]
    have := ch_pos (n := n) (k := k) (by omega)
    omega
theorem ch_step (n k : Nat) : ch n k ≤ ch (n + 1) k := by
  cases k with
  | zero => rw [ch_zero, ch_zero]; exact Nat.le_refl _
  | succ k => rw [ch_succ]; exact Nat.le_add_left _ _
theorem ch_mono {n m k : Nat} (h : n ≤ m) : ch n k ≤ ch m k := by
  induction m with
  | zero =>
    have e : n = 0 := by omega
    subst e
    exact Nat.le_refl _
  | succ m ih =>
    by_cases e : n = m + 1
    · subst e; exact Nat.le_refl _
    · exact Nat.le_trans (ih (by omega)) (ch_step m k)
theorem ch_two {n k : Nat} (h0 : 0 < k) (h1 : k < n) : 2 ≤ ch n k := by
  obtain ⟨n, rfl⟩ : ∃ m, n = m + 1 := ⟨n - 1, by omega⟩
  obtain ⟨k, rfl⟩ : ∃ m, k = m + 1 := ⟨k - 1, by omega⟩
  rw [ch_succ]
  have a := ch_pos (n := n) (k := k) (by omega)
  have b := ch_pos (n := n) (k := k + 1) (by omega)
  omega
/-! falling products: the ways by a quotient -/
def fp (n : Int) : Nat → Int
  | 0 => 1
  | k + 1 => fp n k * (n - (k : Int))
theorem fp_shift (n : Int) : ∀ k : Nat, fp (n + 1) (k + 1) = (n + 1) * fp n k
  | 0 => by show (1 : Int) * (n + 1 - ((0 : Nat) : Int)) = (n + 1) * 1; simp
  | k + 1 => by
    show fp (n + 1) (k + 1) * (n + 1 - ((k + 1 : Nat) : Int)) = (n + 1) * (fp n k * (n - (k : Int)))
    rw [fp_shift n k]
    have e : n + 1 - ((k + 1 : Nat) : Int) = n - (k : Int) := by omega
    rw [e, Int.mul_assoc]
theorem fp_pascal (n : Int) (k : Nat) : fp (n + 1) (k + 1) = fp n (k + 1) + ((k : Int) + 1) * fp n k := by
  rw [fp_shift]
  show (n + 1) * fp n k = fp n k * (n - (k : Int)) + ((k : Int) + 1) * fp n k
  rw [Int.mul_comm (fp n k), ← Int.add_mul]
  congr 1
  omega
theorem fp_zero_succ (k : Nat) : fp 0 (k + 1) = 0 := by
  have e : fp (0 : Int) (k + 1) = fp ((-1 : Int) + 1) (k + 1) := rfl
  rw [e, fp_shift]
  show (-1 + 1 : Int) * _ = 0
  rw [show (-1 + 1 : Int) = 0 from rfl, Int.zero_mul]
theorem fp_self_pos : ∀ k : Nat, 0 < fp (k : Int) k
  | 0 => by show (0 : Int) < 1; decide
  | k + 1 => by
    have e : ((k + 1 : Nat) : Int) = (k : Int) + 1 := by omega
    rw [e, fp_shift]
    exact Int.mul_pos (by omega) (fp_self_pos k)
theorem ch_fp : ∀ n k : Nat, (ch n k : Int) * fp (k : Int) k = fp (n : Int) k
  | n, 0 => by rw [ch_zero]; rfl
  | 0, k + 1 => by
    show ((0 : Nat) : Int) * _ = fp 0 (k + 1)
    rw [fp_zero_succ]; simp
  | n + 1, k + 1 => by
    rw [ch_succ, Int.natCast_add, Int.add_mul, ch_fp n (k + 1)]
    have e1 : ((k + 1 : Nat) : Int) = (k : Int) + 1 := by omega
    have e2 : ((n + 1 : Nat) : Int) = (n : Int) + 1 := by omega
    rw [e2, fp_pascal]
    have e3 : fp ((k + 1 : Nat) : Int) (k + 1) = ((k : Int) + 1) * fp (k : Int) k := by rw [e1, fp_shift]
    rw [e3, ← Int.mul_assoc, Int.mul_comm (ch n k : Int), Int.mul_assoc, ch_fp n k, Int.add_comm]
theorem ch_div (n k : Nat) : fp (n : Int) k / fp (k : Int) k = (ch n k : Int) := by
  rw [← ch_fp n k]
  exact Int.mul_ediv_cancel _ (by have := fp_self_pos k; omega)
theorem ch_sym : ∀ {n k : Nat}, k ≤ n → ch n k = ch n (n - k)
  | 0, k, h => by
    have e : k = 0 := by omega
    subst e; rfl
  | n + 1, 0, h => by rw [ch_zero, Nat.sub_zero, ch_self]
  | n + 1, k + 1, h => by
    by_cases e : k = n
    · subst e
      rw [ch_self, Nat.sub_self, ch_zero]
    · rw [ch_succ, ch_sym (n := n) (k := k) (by omega), ch_sym (n := n) (k := k + 1) (by omega)]
      obtain ⟨d, hd⟩ : ∃ d, n - k = d + 1 := ⟨n - k - 1, by omega⟩
      have e1 : n + 1 - (k + 1) = d + 1 := by omega
      have e2 : n - (k + 1) = d := by omega
      rw [e1, hd, e2, ch_succ, Nat.add_comm]
/-! picks: things falling (the greatest first) -/
def Desc : Nat → List Nat → Prop
  | _, [] => True
  | n, g :: r => g < n ∧ Desc g r
def rk : List Nat → Int
  | [] => 0
  | g :: r => (ch (g + 1) (r.length + 1) : Int) - 1 - rk r
theorem Desc.mono {n m : Nat} {l : List Nat} (h : Desc n l) (le : n ≤ m) : Desc m l := by
  cases l with
  | nil => trivial
  | cons g r => exact ⟨Nat.lt_of_lt_of_le h.1 le, h.2⟩
theorem Desc.len : ∀ {n : Nat} {l : List Nat}, Desc n l → l.length ≤ n
  | _, [], _ => Nat.zero_le _
  | n, g :: r, h => by
    have := Desc.len h.2
    have := h.1
    show r.length + 1 ≤ n
    omega
theorem Desc.mem : ∀ {n : Nat} {l : List Nat}, Desc n l → ∀ x ∈ l, x < n
  | _, [], _, x, h => by simp at h
  | n, g :: r, h, x, hx => by
    rcases List.mem_cons.mp hx with e | e
    · rw [e]; exact h.1
    · exact Nat.lt_trans (Desc.mem h.2 x e) h.1
theorem rk_bounds : ∀ {n : Nat} {l : List Nat}, Desc n l → 0 ≤ rk l ∧ rk l < ch n l.length
  | n, [], _ => by
    show (0 : Int) ≤ 0 ∧ (0 : Int) < ch n 0
    rw [ch_zero]; exact ⟨Int.le_refl _, by decide⟩
  | n, g :: r, h => by
    have ⟨a, b⟩ := rk_bounds h.2
    have c : ch (g + 1) (r.length + 1) ≤ ch n (r.length + 1) := ch_mono h.1
    have e := ch_succ g r.length
    show 0 ≤ (ch (g + 1) (r.length + 1) : Int) - 1 - rk r ∧ (ch (g + 1) (r.length + 1) : Int) - 1 - rk r < ch n (r.length + 1)
    omega
theorem rk_head {g : Nat} {r : List Nat} (h : Desc g r) : (ch g (r.length + 1) : Int) ≤ rk (g :: r) ∧ rk (g :: r) < ch (g + 1) (r.length + 1) := by
  have ⟨a, b⟩ := rk_bounds h
  have e := ch_succ g r.length
  show (ch g (r.length + 1) : Int) ≤ (ch (g + 1) (r.length + 1) : Int) - 1 - rk r ∧ (ch (g + 1) (r.length + 1) : Int) - 1 - rk r < ch (g + 1) (r.length + 1)
  omega
theorem head_one {g g' k : Nat} {p : Int} (h1 : (ch g k : Int) ≤ p) (h2 : p < ch (g + 1) k) (h3 : (ch g' k : Int) ≤ p) (h4 : p < ch (g' + 1) k) : g = g' := by
  rcases Nat.lt_trichotomy g g' with h | h | h
  · have := ch_mono (k := k) (show g + 1 ≤ g' from h)
    omega
  · exact h
  · have := ch_mono (k := k) (show g' + 1 ≤ g from h)
    omega
theorem rk_inj : ∀ {a b : List Nat} {n m : Nat}, Desc n a → Desc m b → a.length = b.length → rk a = rk b → a = b
  | [], [], _, _, _, _, _, _ => rfl
  | [], _ :: _, _, _, _, _, h, _ => by simp at h
  | _ :: _, [], _, _, _, _, h, _ => by simp at h
  | g :: r, g' :: r', n, m, ha, hb, hl, hr => by
    have hl' : r.length = r'.length := by simpa using hl
    have ⟨a1, a2⟩ := rk_head ha.2
    have ⟨b1, b2⟩ := rk_head hb.2
    rw [← hl'] at b1 b2
    rw [← hr] at b1 b2
    have e := head_one a1 a2 b1 b2
    subst e
    have e2 : rk r = rk r' := by
      have q : (ch (g + 1) (r.length + 1) : Int) - 1 - rk r = (ch (g + 1) (r'.length + 1) : Int) - 1 - rk r' := hr
      rw [hl'] at q
      omega
    rw [rk_inj ha.2 hb.2 hl' e2]
/-- the search: the greatest g below n with no more than p ahead -/
def dn (k : Nat) (p : Int) : Nat → Nat
  | 0 => 0
  | g + 1 => if (ch (g + 1) k : Int) > p then dn k p g else g + 1
theorem dn_spec {k : Nat} {p : Int} (hk : 0 < k) (hp : 0 ≤ p) : ∀ n : Nat, p < ch n k → dn k p n < n ∧ (ch (dn k p n) k : Int) ≤ p ∧ p < ch (dn k p n + 1) k
  | 0, h => by
    rw [ch_above hk] at h
    exact absurd h (by omega)
  | n + 1, h => by
    show dn k p (n + 1) < n + 1 ∧ _
    have e : dn k p (n + 1) = dn k p n := by
      show (if (ch (n + 1) k : Int) > p then dn k p n else n + 1) = dn k p n
      rw [if_pos h]
    rw [e]
    by_cases c : p < ch n k
    · have ⟨a, b, d⟩ := dn_spec hk hp n c
      exact ⟨Nat.lt_succ_of_lt a, b, d⟩
    · have e2 : dn k p n = n := by
        cases n with
        | zero => rfl
        | succ m =>
          show (if (ch (m + 1) k : Int) > p then dn k p m else m + 1) = m + 1
          rw [if_neg (by omega)]
      rw [e2]
      exact ⟨Nat.lt_succ_self n, by omega, h⟩
def un : Nat → Nat → Int → List Nat
  | _, 0, _ => []
  | n, k + 1, p => dn (k + 1) p n :: un (dn (k + 1) p n) k ((ch (dn (k + 1) p n + 1) (k + 1) : Int) - 1 - p)
theorem un_spec : ∀ (k n : Nat) (p : Int), 0 ≤ p → p < ch n k → Desc n (un n k p) ∧ (un n k p).length = k ∧ rk (un n k p) = p
  | 0, n, p, h0, h1 => by
    rw [ch_zero] at h1
    refine ⟨trivial, rfl, ?_⟩
    show (0 : Int) = p
    omega
  | k + 1, n, p, h0, h1 => by
    have ⟨a, b, c⟩ := dn_spec (k := k + 1) (Nat.succ_pos k) h0 n h1
    have e := ch_succ (dn (k + 1) p n) k
    have ⟨d1, d2, d3⟩ := un_spec k (dn (k + 1) p n) ((ch (dn (k + 1) p n + 1) (k + 1) : Int) - 1 - p) (by omega) (by omega)
    refine ⟨⟨a, d1⟩, ?_, ?_⟩
    · show (un _ k _).length + 1 = k + 1
      rw [d2]
    · show (ch (dn (k + 1) p n + 1) ((un _ k _).length + 1) : Int) - 1 - rk (un _ k _) = p
      rw [d2, d3]
      omega
theorem un_rk {n : Nat} {l : List Nat} (h : Desc n l) : un n l.length (rk l) = l := by
  have ⟨a, b⟩ := rk_bounds h
  have ⟨d1, d2, d3⟩ := un_spec l.length n (rk l) a b
  exact rk_inj d1 h d2 d3
theorem un_more {n m k : Nat} {p : Int} (hn : n ≤ m) (h0 : 0 ≤ p) (h1 : p < ch n k) : un m k p = un n k p := by
  have ⟨a1, a2, a3⟩ := un_spec k n p h0 h1
  have le : ch n k ≤ ch m k := ch_mono hn
  have ⟨b1, b2, b3⟩ := un_spec k m p h0 (by omega)
  exact rk_inj b1 a1 (by rw [a2, b2]) (by rw [a3, b3])
/-! the first pick -/
def fst : Nat → List Nat
  | 0 => []
  | m + 1 => m :: fst m
theorem fst_len : ∀ m : Nat, (fst m).length = m
  | 0 => rfl
  | m + 1 => by show (fst m).length + 1 = m + 1; rw [fst_len m]
theorem fst_desc : ∀ m : Nat, Desc m (fst m)
  | 0 => trivial
  | m + 1 => ⟨Nat.lt_succ_self m, fst_desc m⟩
theorem fst_mem : ∀ {m x : Nat}, x ∈ fst m ↔ x < m
  | 0, x => by simp [fst]
  | m + 1, x => by
    show x ∈ m :: fst m ↔ _
    rw [List.mem_cons, fst_mem (m := m)]
    omega
theorem fst_rk : ∀ m : Nat, rk (fst m) = 0
  | 0 => rfl
  | m + 1 => by
    show (ch (m + 1) ((fst m).length + 1) : Int) - 1 - rk (fst m) = 0
    rw [fst_len, ch_self, fst_rk m]; rfl
theorem fst_of {n : Nat} {l : List Nat} (h : Desc n l) (e : rk l = 0) : l = fst l.length :=
  rk_inj h (fst_desc _) (fst_len _).symm (by rw [e, fst_rk])
/-- the last pick: the greatest thing, and the first ones of the rest -/
theorem last_of {n m : Nat} {l : List Nat} (h : Desc n l) (hl : l.length = m + 1) (e : rk l = (ch n (m + 1) : Int) - 1) : l = (n - 1) :: fst m := by
  have hn : m + 1 ≤ n := by rw [← hl]; exact h.len
  obtain ⟨k, rfl⟩ : ∃ k, n = k + 1 := ⟨n - 1, by omega⟩
  refine rk_inj h (m := k + 1) ⟨Nat.lt_succ_self _, (fst_desc m).mono (by omega)⟩ (by rw [hl]; show m + 1 = (fst m).length + 1; rw [fst_len]) ?_
  rw [e]
  show _ = (ch (k + 1 - 1 + 1) ((fst m).length + 1) : Int) - 1 - rk (fst m)
  rw [fst_len, fst_rk]
  simp
/-! one goes out, one comes in -/
structure Ex (a b : List Nat) (o i : Nat) : Prop where
  oa : o ∈ a
  ob : o ∉ b
  ib : i ∈ b
  ia : i ∉ a
  same : ∀ x, x ≠ o → x ≠ i → (x ∈ a ↔ x ∈ b)
theorem Ex.symm {a b : List Nat} {o i : Nat} (h : Ex a b o i) : Ex b a i o := ⟨h.ib, h.ia, h.oa, h.ob, fun x h1 h2 => (h.same x h2 h1).symm⟩
theorem Ex.cons {a b : List Nat} {o i g : Nat} (h : Ex a b o i) (ho : o ≠ g) (hi : i ≠ g) : Ex (g :: a) (g :: b) o i :=
  ⟨List.mem_cons_of_mem _ h.oa, fun q => (List.mem_cons.mp q).elim ho h.ob, List.mem_cons_of_mem _ h.ib, fun q => (List.mem_cons.mp q).elim hi h.ia, fun x h1 h2 => by rw [List.mem_cons, List.mem_cons, h.same x h1 h2]⟩
theorem ex_next : ∀ {a b : List Nat} {n m : Nat}, Desc n a → Desc m b → a.length = b.length → rk b = rk a + 1 → ∃ o i, Ex a b o i
  | [], [], _, _, _, _, _, h => by
    have h' : (0 : Int) = 0 + 1 := h
    exact absurd h' (by decide)
  | [], _ :: _, _, _, _, _, h, _ => by simp at h
  | _ :: _, [], _, _, _, _, h, _ => by simp at h
  | ga :: ra, gb :: rb, n, m, ha, hb, hl, hr => by
    have hl' : ra.length = rb.length := by simpa using hl
    have ⟨a1, a2⟩ := rk_head ha.2
    have ⟨b1, b2⟩ := rk_head hb.2
    have ea : rk (ga :: ra) = (ch (ga + 1) (ra.length + 1) : Int) - 1 - rk ra := rfl
    have eb : rk (gb :: rb) = (ch (gb + 1) (rb.length + 1) : Int) - 1 - rk rb := rfl
    rcases Nat.lt_trichotomy ga gb with h | h | h
    · have c1 := ch_mono (k := ra.length + 1) (show ga + 1 ≤ gb from h)
      have la := ha.2.len
      have eg : gb = ga + 1 := by
        apply Classical.byContradiction
        intro ne
        have c2 := ch_mono (k := ra.length + 1) (show ga + 1 + 1 ≤ gb by omega)
        have c3 := ch_succ (ga + 1) ra.length
        have c4 := ch_pos (n := ga + 1) (k := ra.length) (by omega)
        rw [← hl'] at b1
        omega
      subst eg
      rw [← hl'] at b1 eb
      have ra0 : rk ra = 0 := by omega
      have e1 := ch_succ (ga + 1) ra.length
      have rbl : rk rb = (ch (ga + 1) ra.length : Int) - 1 := by omega
      have ra_is := fst_of ha.2 ra0
      cases hm : ra.length with
      | zero =>
        have e1 : ra = [] := List.length_eq_zero_iff.mp hm
        have e2 : rb = [] := List.length_eq_zero_iff.mp (by omega)
        subst e1 e2
        exact ⟨ga, ga + 1, by simp, by simp, by simp, by simp, fun x h1 h2 => by simp [h1, h2]⟩
      | succ j =>
        have rb_is := last_of hb.2 (m := j) (by omega) (by rw [rbl, hm])
        rw [hm] at ra_is
        have e3 : ga + 1 - 1 = ga := rfl
        rw [e3] at rb_is
        have jl : j < ga := by omega
        refine ⟨j, ga + 1, ?_, ?_, ?_, ?_, ?_⟩
        · rw [ra_is]; show j ∈ ga :: j :: fst j; simp
        · rw [rb_is]
          simp only [List.mem_cons, fst_mem]
          omega
        · simp
        · rw [ra_is]
          simp only [List.mem_cons, fst_mem]
          omega
        · intro x h1 h2
          rw [ra_is, rb_is]
          simp only [List.mem_cons, fst_mem]
          omega
    · subst h
      rw [← hl'] at eb
      have q : rk ra = rk rb + 1 := by omega
      obtain ⟨o, i, e⟩ := ex_next hb.2 ha.2 hl'.symm q
      have o1 := hb.2.mem o e.oa
      have i1 := ha.2.mem i e.ib
      exact ⟨i, o, e.symm.cons (by omega) (by omega)⟩
    · have c1 := ch_mono (k := ra.length + 1) (show gb + 1 ≤ ga from h)
      rw [← hl'] at b2
      omega
termination_by a b _ _ => a.length + b.length
decreasing_by
  all_goals simp only [List.length_cons]
  all_goals omega
theorem ex_round {n m : Nat} {a b : List Nat} (ha : Desc n a) (hb : Desc n b) (la : a.length = m) (lb : b.length = m) (h0 : 0 < m) (h1 : m < n) (ea : rk a = (ch n m : Int) - 1) (eb : rk b = 0) : ∃ o i, Ex a b o i := by
  obtain ⟨k, rfl⟩ : ∃ k, m = k + 1 := ⟨m - 1, by omega⟩
  have a_is := last_of ha la ea
  have b_is := fst_of hb eb
  rw [lb] at b_is
  refine ⟨n - 1, k, ?_, ?_, ?_, ?_, ?_⟩
  · rw [a_is]; simp
  · rw [b_is, fst_mem]; omega
  · rw [b_is, fst_mem]; omega
  · rw [a_is]; simp only [List.mem_cons, fst_mem]; omega
  · intro x h2 h3
    rw [a_is, b_is]
    simp only [List.mem_cons, fst_mem]
    omega
/-- from each pick to the next, round the end -/
theorem ex_step {n m : Nat} {a b : List Nat} (ha : Desc n a) (hb : Desc n b) (la : a.length = m) (lb : b.length = m) (h0 : 0 < m) (h1 : m < n) (e : rk b = (rk a + 1) % (ch n m : Int)) : ∃ o i, Ex a b o i := by
  have ⟨x, y⟩ := rk_bounds ha
  rw [la] at y
  by_cases c : rk a + 1 = ch n m
  · refine ex_round ha hb la lb h0 h1 (by omega) ?_
    rw [e, c, Int.emod_self]
  · refine ex_next ha hb (by rw [la, lb]) ?_
    rw [e]
    exact Int.emod_eq_of_lt (by omega) (by omega)
/-- nodup, as lists -/
theorem Desc.nodup : ∀ {n : Nat} {l : List Nat}, Desc n l → l.Nodup
  | _, [], _ => List.nodup_nil
  | n, g :: r, h => List.nodup_cons.mpr ⟨fun q => absurd (h.2.mem g q) (Nat.lt_irrefl _), h.2.nodup⟩
theorem filter_one {l : List Nat} {p : Nat → Bool} {o : Nat} (nd : l.Nodup) (hm : o ∈ l) (hp : ∀ x ∈ l, (p x = true ↔ x = o)) : l.filter p = [o] := by
  induction l with
  | nil => simp at hm
  | cons a r ih =>
    have ⟨n1, n2⟩ := List.nodup_cons.mp nd
    by_cases e : a = o
    · subst e
      have pa : p a = true := (hp a (by simp)).mpr rfl
      rw [List.filter_cons_of_pos pa]
      have : r.filter p = [] := by
        rw [List.filter_eq_nil_iff]
        intro x hx px
        have := (hp x (List.mem_cons_of_mem _ hx)).mp px
        subst this
        exact n1 hx
      rw [this]
    · have pa : ¬ p a = true := fun q => e ((hp a (by simp)).mp q)
      rw [List.filter_cons_of_neg pa]
      refine ih n2 ?_ (fun x hx => hp x (List.mem_cons_of_mem _ hx))
      rcases List.mem_cons.mp hm with q | q
      · exact absurd q.symm e
      · exact q
theorem Ex.outs {a b : List Nat} {o i : Nat} (h : Ex a b o i) (nd : a.Nodup) : a.filter (fun x => !b.contains x) = [o] := by
  refine filter_one nd h.oa fun x hx => ?_
  simp only [Bool.not_eq_true', List.contains_eq_mem, decide_eq_false_iff_not]
  constructor
  · intro q
    apply Classical.byContradiction
    intro ne
    by_cases e : x = i
    · subst e; exact h.ia hx
    · exact q ((h.same x ne e).mp hx)
  · intro q; rw [q]; exact h.ob
end Dp
namespace DpR
open PySem PySem.Spec PyProof.Rows L2
/-! ### comb -/
theorem fp_eq (n : Int) (k : Nat) : Builtin.Math.fallingProduct n k = Dp.fp n k := by
  induction k with
  | zero => rfl
  | succ k ih =>
    rw [PySem.W.mc_fp_succ, ih]
    rfl
theorem comb_eq (n k : Nat) : PySem.W.mcComb (n : Int) (k : Int) = (Dp.ch n k : Int) := by
  by_cases h : k ≤ n
  · by_cases h2 : k ≤ n - k
    · rw [PySem.W.mcComb_at (m := (k : Int)) (by omega) (by omega) (by omega), fp_eq, fp_eq, Int.toNat_natCast, Dp.ch_div]
    · have e : min (k : Int) ((n : Int) - (k : Int)) = ((n - k : Nat) : Int) := by omega
      rw [PySem.W.mcComb_at (by omega) (by omega) e, fp_eq, fp_eq, Int.toNat_natCast, Dp.ch_div, ← Dp.ch_sym h]
  · rw [PySem.W.mcComb_above (by omega), Dp.ch_above (by omega)]
    rfl
def rComb : List V → Hp → VK → Prop := fun vs H Q => ∃ a b : Nat, vs = [.int a, .int b] ∧ a ≤ 18000 ∧ Q (.int (Dp.ch a b : Nat)) H
section
variable {X : Cx}
theorem cr_comb : CallR X (.builtin "math.comb") rComb := by
  intro pins s σ H vs us Q I r h
  obtain ⟨a, b, rfl, ha, q⟩ := h
  obtain ⟨t, u, rfl⟩ := Vals.int2 r
  exact PySem.W.mc_comb_v (by omega) (by omega) (by omega) (.inr (by omega)) (comb_eq a b) ⟨.int _, H, I.tok _, ⟨_, rfl⟩, q⟩
/-! ### type(x) == int -/
theorem op_eqTy : OpR X (compareOp .Eq) (fun x y H Q => ∃ m n, x = .ty m ∧ y = .ty n ∧ PySem.W.kitMeta m = true ∧ PySem.W.kitMeta n = true ∧ Q (.bl (decide (m = n))) H) := by
  intro pins s σ H x y v u Q I rx ry h
  obtain ⟨m, n, rfl, rfl, h1, h2, q⟩ := h
  cases (show v = Value.type m from rx)
  cases (show u = Value.type n from ry)
  by_cases e : m = n
  · subst e
    refine TypeEq.eq_type_same (fun s' => ?_) (fin_bl I q (by simp))
    exact PySem.W.kitMeta_of h1
  · refine TypeEq.eq_type_other (fun s' => ?_) (fun s' => ?_) ?_ (fin_bl I q (by simp [e]))
    · exact PySem.W.kitMeta_of h1
    · exact PySem.W.kitMeta_of h2
    · rw [ty_beq, decide_eq_false e]

/-! ### a row: a list or a tuple, at its address -/
def SqB (b : Bool) (K : PySem.W.Frag) (H : Hp) (a : Addr) (xs : List V) : Prop := match b with
  | false => SqL K H a xs
  | true => SqT K H a xs
def InB (b : Bool) (h : Heap) (it a : Addr) (i : Nat) : Prop := match b with
  | false => h.IsListIter it a i
  | true => h.IsTupleIter it a i
def IsB (b : Bool) (h : Heap) (a : Addr) (its : Array Value) : Prop := match b with
  | false => h.IsList a its
  | true => h.IsTuple a its
def Itb (b : Bool) (K : PySem.W.Frag) (a : Addr) : It := match b with
  | false => Itl K a
  | true => Itt K a
/-- for x in row -/
def iSq (K : PySem.W.Frag) (tl : TE) : TI := fun σ H R => tl σ H fun x H1 => ∃ a b xs, x = .ref a ∧ SqB b K H1 a xs ∧ R (Itb b K a) H1
theorem pi_sq {tg l : Expr} {tl : TE} (hl : PE X l tl) : PI X tg l (iSq X.K tl) := by
  refine ⟨fun pins s σ H R I h => ?_⟩
  refine thn (hl.run pins s σ H _ I h) fun v s1 ⟨x, H1, I1, r1, q1⟩ => ?_
  obtain ⟨a, b, xs, e, hq, q⟩ := q1
  subst e
  cases r1
  cases b with
  | false =>
    obtain ⟨its, rv, p, hz⟩ := I1.list hq
    refine wpAny_pyIter_list p.isList ?_
    refine ⟨s1.heap.objs.size, [s1.heap.objs.size], _, _, H1, rfl, I1.kept (t' := s1.toks) fun b o e => Heap.get?_push_of_some _ e, turn_list a _, ⟨_, Heap.get?_push_size _ rfl, rfl, rfl⟩, fun b hb => ?_, q⟩
    have e : b = s1.heap.objs.size := by simpa using hb
    subst e
    exact I1.fpOk (Nat.le_refl _) (I1.hok.fresh (Nat.le_refl _))
  | true =>
    obtain ⟨its, rv, p, hz⟩ := I1.tuple hq
    refine wpAny_pyIter_tuple (show s1.heap.IsTuple a its.toArray from p) ?_
    refine ⟨s1.heap.objs.size, [s1.heap.objs.size], _, _, H1, rfl, I1.kept (t' := s1.toks) fun b o e => Heap.get?_push_of_some _ e, turn_tuple a _, ⟨_, Heap.get?_push_size _ rfl, rfl, rfl⟩, fun b hb => ?_, q⟩
    have e : b = s1.heap.objs.size := by simpa using hb
    subst e
    exact I1.fpOk (Nat.le_refl _) (I1.hok.fresh (Nat.le_refl _))
theorem walk_itb {K : PySem.W.Frag} {a : Addr} {xs : List V} : ∀ {b : Bool}, L2.Walk (Itb b K a) xs.length (fun H => SqB b K H a xs) (YAt xs)
  | false => walk_list
  | true => walk_tup

/-! ### enumerate(row, start=k) -/
/-- each item of the row at a in a new pair, counted from k -/
def Ies (b : Bool) (K : PySem.W.Frag) (k : Int) (a : Addr) : It :=
  ⟨fun i H => ∃ (xs : List V) (x : V), SqB b K H a xs ∧ xs[i]? = some x, fun i H v H' => ∃ T x, v = .ref T ∧ H T = none ∧ H' = upd H T (.tup [.int (k + (i : Nat)), x]) ∧ ∀ xs, SqB b K H a xs → xs[i]? = some x, fun i H => ∃ xs : List V, SqB b K H a xs ∧ xs.length ≤ i⟩
end
theorem sqB_is {X : Cx} {pins : List (Addr × Obj)} {σ : L2.St} {H : Hp} {s : Shared} {a : Addr} {xs : List V} {b : Bool} (I : Inv X pins σ H s) (h : SqB b X.K H a xs) : ∃ its : List Value, Vals xs its ∧ IsB b s.heap a its.toArray ∧ xs.length ≤ sizeLine := by
  cases b with
  | false =>
    obtain ⟨its, rv, p, hz⟩ := I.list h
    exact ⟨its, rv, p.isList, hz⟩
  | true =>
    obtain ⟨its, rv, p, hz⟩ := I.tuple h
    exact ⟨its, rv, (show s.heap.IsTuple a its.toArray from p), hz⟩
theorem sqB_inj {X : Cx} {pins : List (Addr × Obj)} {σ : L2.St} {H : Hp} {s : Shared} {a : Addr} {xs ys : List V} {b : Bool} (I : Inv X pins σ H s) (h : SqB b X.K H a xs) (h' : SqB b X.K H a ys) : xs = ys := by
  cases b with
  | false => exact I.list_inj h h'
  | true => exact I.tuple_inj h h'
theorem inB_obj {b : Bool} {h : Heap} {it a : Addr} {i : Nat} (x : InB b h it a i) : ∃ (o : Obj) (vs : Array Value) (n : String), h.get? it = some o ∧ o.data = .fields vs ∧ o.cls = .type n ∧ (n = "list_iterator" ∨ n = "tuple_iterator") := by
  cases b with
  | false => obtain ⟨o, e, c, d⟩ := x; exact ⟨o, _, _, e, d, c, .inl rfl⟩
  | true => obtain ⟨o, e, c, d⟩ := x; exact ⟨o, _, _, e, d, c, .inr rfl⟩
theorem inB_at {b : Bool} {h h' : Heap} {it a : Addr} {i : Nat} (x : InB b h it a i) (k : ∀ o, h.get? it = some o → h'.get? it = some o) : InB b h' it a i := by
  cases b with
  | false => exact Heap.IsListIter.at x k
  | true => exact Heap.IsTupleIter.at x k
theorem isB_ne {b : Bool} {h : Heap} {a it : Addr} {its : Array Value} {o : Obj} {vs : Array Value} (x : IsB b h a its) (e : h.get? it = some o) (d : o.data = .fields vs) : a ≠ it := by
  intro z
  subst z
  cases b with
  | false =>
    obtain ⟨o', e', c', n, d'⟩ := x
    rw [e] at e'; cases e'; rw [d] at d'; cases d'
  | true =>
    obtain ⟨o', e', c', n, d'⟩ := x
    rw [e] at e'; cases e'; rw [d] at d'; cases d'
theorem drawsB {b : Bool} {prog : Program} {w : World} {A : Around} (hh : A.handled = none) (it a : Addr) (hne : a ≠ it) (items : Array Value) :
    Draws prog w A it [it, a] items.size (fun i v => items[i]? = some v) (fun i h => InB b h it a i ∧ IsB b h a items) := by
  cases b with
  | false => exact Draws.list hh it a hne items
  | true => exact Draws.tuple hh it a hne items
theorem turn_ies {b : Bool} {P : Program} {w : World} {K : PySem.W.Frag} {elts : List Expr} {kk : Nat} {tpos : Pos} (k : Int) (a e it : Addr) :
    Turn P w K (.Tuple elts kk tpos) (Ies b K k a) [e, it] e (fun i h => (∃ old, IsEnum h e it (k + ((i : Nat) : Int)) old) ∧ InB b h it a i ∧ e ≠ it) where
  mem := by simp
  obj := fun i h st c hc => by
    obtain ⟨⟨old, he⟩, hi, _⟩ := st
    obtain ⟨o, vs, n, ho, hd, _⟩ := inB_obj hi
    have e' : c = e ∨ c = it := by simpa using hc
    rcases e' with z | z
    · rw [z]; exact ⟨_, he, fun v q => nomatch q⟩
    · rw [z]; exact ⟨o, ho, fun v q => by rw [hd] at q; cases q⟩
  keep := fun i h h' st k => let ⟨⟨old, he⟩, hi, hne⟩ := st; ⟨⟨old, k e (by simp) _ he⟩, inB_at hi fun o q => k it (by simp) o q, hne⟩
  item := by
    intro X hP hw hK hc i pins s σ H E I hf st hg
    subst hP hw hK
    obtain ⟨⟨old, he⟩, hit, hne⟩ := st
    obtain ⟨xs, x, hq, hx⟩ := hg
    obtain ⟨its, rv, p, hz⟩ := sqB_is I hq
    obtain ⟨u, hu, ru⟩ := rv.get hx
    obtain ⟨oi, vsi, ni, hoi, hdi, _⟩ := inB_obj hit
    have hel : e < s.heap.objs.size := Heap.lt_size he
    have hil : it < s.heap.objs.size := Heap.lt_size hoi
    have hai : a ≠ it := isB_ne p hoi hdi
    have hae : a ≠ e := isB_ne p he rfl
    have hh : X.A.in1.handled = none := I.ok.hd hc
    have hlt : i < its.toArray.size := by
      have := (List.getElem?_eq_some_iff.mp hu).1
      simpa using this
    refine wpAny_pyNext_enum_itemC (drawsB (b := b) hh it a hai its.toArray) he ⟨hit, p⟩ hlt hne (by simp [hne, Ne.symm hae]) fun x' h' tk hx' ho hst' hT hsz hk => ?_
    have hx'' : x' = u := by
      have h1 : its.toArray[i]? = some x' := hx'
      have h2 : its.toArray[i]? = some u := by simpa using hu
      rw [h1] at h2
      exact Option.some.inj h2
    subst hx''
    refine ⟨_, rfl, wpAny_letOwnedTupleGo_enum (s := { s with heap := h', toks := tk + 1 }) ho fun h'' he' sb => ?_⟩
    have hT2 : h''.get? s.heap.objs.size = some { cls := .type "tuple", data := .seq #[.int (k + (i : Nat)) tk, x'] } := (sb.2 _ (Nat.ne_of_gt hel)).trans hT
    have new : ObjOk X.prog X.w (upd H s.heap.objs.size (.tup [.int (k + (i : Nat)), x])) h'' s.heap.objs.size (.tup [.int (k + (i : Nat)), x]) :=
      ⟨by show 2 ≤ sizeLine; decide, [.int (k + (i : Nat)) tk, x'], .cons ⟨_, rfl⟩ (.cons ru .nil), ⟨_, hT2, rfl, _, rfl⟩⟩
    have I1 : Inv X pins σ (upd H s.heap.objs.size (.tup [.int (k + (i : Nat)), x])) { s with heap := h'', toks := tk + 1 } :=
      I.turnedNew (ch := [e, it]) (fun b ob hb q => (sb.2 b (fun z => hb (by simp [z]))).trans (hk b ob (fun z => hb (by simp [z])) (fun z => hb (by simp [z])) q)) hf (Nat.le_refl _) new
    refine ⟨.ref s.heap.objs.size, _, I1, rfl, ⟨_, x, rfl, I.hok.fresh (Nat.le_refl _), rfl, fun ys hy => by rw [sqB_inj I hy hq]; exact hx⟩, ⟨⟨x', ?_⟩, inB_at hst'.1 fun o q => (sb.2 it (Ne.symm hne)).trans q, hne⟩, fun b hb => ?_⟩
    · have e1 : k + ((i + 1 : Nat) : Int) = k + (i : Int) + 1 := by omega
      rw [e1]; exact he'
    · have hb' : b < s.heap.objs.size := by
        have e' : b = e ∨ b = it := by simpa using hb
        rcases e' with z | z
        · rw [z]; exact hel
        · rw [z]; exact hil
      rw [upd_ne (Nat.ne_of_lt hb')]
      exact (hf b hb).1
  done := by
    intro X hP hw hK hc i pins s σ H E I hf st hg
    subst hP hw hK
    obtain ⟨⟨old, he⟩, hit, hne⟩ := st
    obtain ⟨xs, hq, hx⟩ := hg
    obtain ⟨its, rv, p, hz⟩ := sqB_is I hq
    obtain ⟨f0, f1, f2, f3, f4, f5⟩ := hf it (by simp)
    obtain ⟨oi, vsi, ni, hoi, hdi, _⟩ := inB_obj hit
    have hai : a ≠ it := isB_ne p hoi hdi
    have hh : X.A.in1.handled = none := I.ok.hd hc
    have hl := rv.length
    -- the iterator stands at i, at or behind the end
    have D : Draws X.prog X.w X.A.in1 it [it, a] i (fun _ _ => True) (fun j h => j = i ∧ InB b h it a i ∧ IsB b h a its.toArray) :=
      { live := fun j h st => let ⟨o, _, _, ho, _⟩ := inB_obj st.2.1; ⟨o, ho⟩
        frame := fun j h h' st hk => ⟨st.1, inB_at st.2.1 fun o e => hk it (by simp) o e, by
          have q := st.2.2
          cases b with
          | false => exact Heap.IsList.at q fun o e => hk a (by simp) o e
          | true => exact Heap.IsTuple.at q fun o e => hk a (by simp) o e⟩
        item := fun j s Q E hj st _ => absurd st.1 (Nat.ne_of_lt hj)
        done := fun s Q E st hE => by
          have q := st.2
          cases b with
          | false => exact wpAny_nextOf_list_end hh q.1 q.2 (by simp; omega) hE
          | true => exact wpAny_nextOf_tuple_end hh q.1 q.2 (by simp; omega) hE }
    exact wpAny_pyNext_enum_endD D he ⟨rfl, hit, p⟩ fun h' eb => ⟨rfl, I.turned (t' := s.toks) (fun b o hb q => eb b o hb q) f0 f1 f3 f4 f5⟩
  self := fun A i s Q E st h => let ⟨⟨_, he⟩, _⟩ := st; wpAny_pyIter_enum he h
/-- enumerate(e, start=k): of a list or a tuple -/
def iEnumS (K : PySem.W.Frag) (k : Int) (ta : TE) : TI := fun σ H R => ta σ H fun v H1 => ∃ a b xs, v = .ref a ∧ SqB b K H1 a xs ∧ R (Ies b K k a) H1
def enumQ (K : PySem.W.Frag) (k : Int) (R : It → Hp → Prop) : List V → Hp → Prop := fun vs H1 => match vs with
  | [v] => ∃ a b xs, v = .ref a ∧ SqB b K H1 a xs ∧ R (Ies b K k a) H1
  | _ => False
theorem beginsB (b : Bool) (a : Addr) (items : Array Value) : ∃ o, Begins (.ref a) o (fun h => IsB b h a items) ∧ ∀ h it, h.get? it = some o → InB b h it a 0 := by
  cases b with
  | false => exact ⟨_, begins_list a items, fun h it e => ⟨_, e, rfl, rfl⟩⟩
  | true => exact ⟨_, begins_tuple a items, fun h it e => ⟨_, e, rfl, rfl⟩⟩
theorem callWith_typeKw {M : Model} {A : Around} {E : Value → Shared → Prop} {s : Shared} {pos : Pos} {T : String} {first : List Value} {args : List (Bool × Sem Value)} {kws : List (Option Str × Sem Value)} {Q : Value → Shared → Prop} (hplain : (args.any (·.1) || kws.any (·.1.isNone)) = false)
    (h : wpAny M A (evalArgs (.type T) true args kws) (fun a s₁ => wpAny M A (call (.type T) (first ++ a.pos) a.kw) Q E s₁) E s) :
    wpAny M A (callWith pos (.type T) first args kws) Q E s := by
  unfold callWith
  refine wpAny_bind (wpAny_holding (wpAny_mono h (fun a s₁ h₁ => wpAny_bind (wpAny_standAt ?_)) fun _ _ x => x))
  simp only [hplain]
  refine wpAny_bind (wpAny_pure ?_)
  exact wpAny_bind (wpAny_mono h₁ (fun r s₂ hr => wpAny_bind (wpAny_holding (wpAny_point (wpAny_pure hr)))) fun _ _ x => x)
theorem pi_enumS {X : Cx} {e : Expr} {ta : TE} {k : Int} {j : Nat} {p pos tpos p2 kpos : Pos} {elts : List Expr} {kk : Nat} (hk0 : -(2 ^ 63) ≤ k) (hk1 : k < 2 ^ 63) (hg : Gl X "enumerate") (hm : X.mg "enumerate" = none) (he : PE X e ta)
    (hs : starEach [e] X.env = (false, eval e X.env) :: starEach [] X.env := by rfl) (hall : (backToKw pos (keywordEach [⟨some "start", .Constant (.int k) j p2, kpos⟩] X.env)).all (·.1.isSome) = true := by rfl)
    (hks : (backToKw pos (keywordEach [⟨some "start", .Constant (.int k) j p2, kpos⟩] X.env)).filterMap (·.1) = [Str.ofString "start"] := by rfl)
    (hpl : ((backTo pos (starEach [e] X.env)).any (·.1) || (backToKw pos (keywordEach [⟨some "start", .Constant (.int k) j p2, kpos⟩] X.env)).any (·.1.isNone)) = false := by rfl) :
    PI X (.Tuple elts kk tpos) (.Call (.Name "enumerate" p) [e] [⟨some "start", .Constant (.int k) j p2, kpos⟩] pos) (iEnumS X.K k ta) := by
  refine ⟨fun pins s σ H R I h => ?_⟩
  refine wpAny_Call_Name_kw (ld_blt I hg hm boot_enumerate ?_)
  have hpa : PA X [e] (tCons ta tNil) := pa_cons he pa_nil hs
  have hpk : PK X [⟨some "start", .Constant (.int k) j p2, kpos⟩] (tCons (tC (.int k)) tNil) := pk_cons pe_int pk_nil
  refine callWith_typeKw hpl ?_
  refine PyProof.Rows.evalArgs_kw2 hall (thn (hpa.run pos pins s σ H (enumQ X.K k R) I h) fun us s1 hu => ?_) hs
  obtain ⟨vs, H1, I1, r, hQ⟩ := hu
  obtain ⟨a, b, xs, rfl, hq, q⟩ : ∃ a b xs, vs = [V.ref a] ∧ SqB b X.K H1 a xs ∧ R (Ies b X.K k a) H1 := by
    match vs, hQ with
    | [v], ⟨a, b, xs, e, hq, q⟩ => exact ⟨a, b, xs, by rw [e], hq, q⟩
  refine thn (hpk.run pos pins s1 σ H1 (fun zs H2 => zs = [.int k] ∧ H2 = H1) I1 ⟨rfl, rfl⟩) fun ws s2 hw => ?_
  obtain ⟨zs, H2, I2, rz, rfl, rfl⟩ := hw
  rw [hks]
  obtain ⟨u, rfl, ru⟩ := vals1 r
  obtain ⟨u2, rfl, ru2⟩ := vals1 rz
  obtain ⟨t2, rfl⟩ := ru2
  cases ru
  obtain ⟨its, rv, p', hz⟩ := sqB_is I2 hq
  obtain ⟨o, B, hin⟩ := beginsB b a its.toArray
  refine enum_begins_start B p' hk0 hk1 fun h' he hit hsz hk => wpAny_pyIter_enum he ?_
  have I3 : Inv X pins σ H2 { s2 with heap := h' } := I2.kept (t' := s2.toks) hk
  refine ⟨s2.heap.objs.size + 1, [s2.heap.objs.size + 1, s2.heap.objs.size], _, _, H2, rfl, I3, turn_ies (b := b) k a (s2.heap.objs.size + 1) s2.heap.objs.size, ⟨⟨.none, ?_⟩, hin _ _ hit, Nat.succ_ne_self _⟩, fun c hc => ?_, q⟩
  · have e1 : k + ((0 : Nat) : Int) = k := by omega
    rw [e1]; exact he
  · have e' : c = s2.heap.objs.size + 1 ∨ c = s2.heap.objs.size := by simpa using hc
    have hle : s2.heap.objs.size ≤ c := by
      rcases e' with z | z
      · rw [z]; exact Nat.le_add_right _ _
      · rw [z]; exact Nat.le_refl _
    exact I2.fpOk hle (I2.hok.fresh hle)
theorem walk_ies {b : Bool} {K : PySem.W.Frag} {k : Int} {a : Addr} {xs : List V} : L2.Walk (Ies b K k a) xs.length (fun H => SqB b K H a xs) (YPair (fun i => some (.int (k + (i : Nat)))) (fun i => xs[i]?)) := by
  refine ⟨fun i _ hi q => ⟨xs, xs[i], q, by simp [hi]⟩, fun _ q => ⟨xs, q, Nat.le_refl _⟩, fun i H v H' _ q y => ?_⟩
  obtain ⟨T, x, h1, h2, h3, h4⟩ := y
  exact ⟨T, .int (k + (i : Nat)), x, h1, h2, h3, rfl, h4 xs q⟩
theorem if_true_of {c : Bool} {A B : Prop} (h : c = true) (a : A) : if c = true then A else B := by rw [if_pos h]; exact a
theorem if_false_of {c : Bool} {A B : Prop} (h : c = false) (b : B) : if c = true then A else B := by rw [h]; exact iteF b
theorem two_int {a b : Int} {x y : Nat} (h1 : a = x) (h2 : b = y) : [V.int a, V.int b] = [V.int x, V.int y] := by rw [h1, h2]
end DpR
namespace Dp
open PySem PySem.Spec PyProof.Rows L2 DpR
/-! ### data that is handed in -/
def nv (t : Nat) : V := .int (t : Int)
def rowO : Bool → List V → HO
  | false, xs => .lst xs
  | true, xs => .tup xs
/-- a pick's things, rising -/
def asc (ds : List Nat) : List V := ds.reverse.map nv
theorem asc_len (ds : List Nat) : (asc ds).length = ds.length := by unfold asc; rw [List.length_map, List.length_reverse]
theorem row_sq {K : PySem.W.Frag} {H : Hp} {a : Addr} {xs : List V} : ∀ {b : Bool}, H a = some (rowO b xs) → SqB b K H a xs
  | false, h => SqL.of h
  | true, h => SqT.of h
inductive Dt (H : Hp) : V → Prop where
  | non : Dt H .non
  | bl (b : Bool) : Dt H (.bl b)
  | int (i : Int) : Dt H (.int i)
  | str (x : Str) : Dt H (.str x)
  | row {a : Addr} (b : Bool) (xs : List V) (h : H a = some (rowO b xs)) : Dt H (.ref a)
  | dic {a : Addr} (kvs : List (Key × V)) (h : H a = some (.dK kvs)) : Dt H (.ref a)
theorem Dt.mono {H H' : Hp} {x : V} (h : Dt H x) (s : Same H H') : Dt H' x := by
  cases h with
  | non => exact .non
  | bl b => exact .bl b
  | int i => exact .int i
  | str x => exact .str x
  | row b xs h => exact .row b xs (s _ _ h)
  | dic kvs h => exact .dic kvs (s _ _ h)
theorem Dt.tyB {K : PySem.W.Frag} {H : Hp} {x : V} (h : Dt H x) : ∃ T, TyB K H x T ∧ PySem.W.kitMeta T = true ∧ (T = "int" ↔ ∃ i, x = .int i) := by
  cases h with
  | non => exact ⟨_, .non, by decide +kernel, ⟨fun z => absurd z (by decide), fun ⟨_, z⟩ => (nomatch z)⟩⟩
  | bl b => exact ⟨_, .bl b, by decide +kernel, ⟨fun z => absurd z (by decide), fun ⟨_, z⟩ => (nomatch z)⟩⟩
  | int i => exact ⟨_, .int i, by decide +kernel, ⟨fun _ => ⟨i, rfl⟩, fun _ => rfl⟩⟩
  | str x => exact ⟨_, .str x, by decide +kernel, ⟨fun z => absurd z (by decide), fun ⟨_, z⟩ => (nomatch z)⟩⟩
  | row b xs h =>
    cases b with
    | false => exact ⟨_, .lst (SqL.of h), by decide +kernel, ⟨fun z => absurd z (by decide), fun ⟨_, z⟩ => (nomatch z)⟩⟩
    | true => exact ⟨_, .tup (SqT.of h), by decide +kernel, ⟨fun z => absurd z (by decide), fun ⟨_, z⟩ => (nomatch z)⟩⟩
  | dic kvs h => exact ⟨_, .dK h, by decide +kernel, ⟨fun z => absurd z (by decide), fun ⟨_, z⟩ => (nomatch z)⟩⟩
/-- is it a row? -/
def isRow (H : Hp) (x : V) : Prop := ∃ a b xs, x = .ref a ∧ H a = some (rowO b xs)
theorem Dt.tyX {K : PySem.W.Frag} {H : Hp} {x : V} (h : Dt H x) : ∃ (T : String) (r : Bool), TyX K H x (.type T) ∧ PySem.W.kitAny K (.type T) [.type "tuple", .type "list"] = some r ∧ (r = true ↔ isRow H x) := by
  have no : ∀ {T : String}, kitB T "tuple" = some false → kitB T "list" = some false → PySem.W.kitAny K (.type T) [.type "tuple", .type "list"] = some false := fun h1 h2 =>
    kitAny_cons (kit_ty h1) (fun _ => kitAny_cons (kit_ty h2) (fun _ => kitAny_nil) (fun z => (nomatch z))) (fun z => (nomatch z))
  cases h with
  | non => exact ⟨_, false, .base .non, no (by decide +kernel) (by decide +kernel), ⟨fun z => (nomatch z), fun ⟨_, _, _, z, _⟩ => (nomatch z)⟩⟩
  | bl b => exact ⟨_, false, .base (.bl b), no (by decide +kernel) (by decide +kernel), ⟨fun z => (nomatch z), fun ⟨_, _, _, z, _⟩ => (nomatch z)⟩⟩
  | int i => exact ⟨_, false, .base (.int i), no (by decide +kernel) (by decide +kernel), ⟨fun z => (nomatch z), fun ⟨_, _, _, z, _⟩ => (nomatch z)⟩⟩
  | str x => exact ⟨_, false, .base (.str x), no (by decide +kernel) (by decide +kernel), ⟨fun z => (nomatch z), fun ⟨_, _, _, z, _⟩ => (nomatch z)⟩⟩
  | @row a b xs h =>
    cases b with
    | false =>
      refine ⟨_, true, .base (.lst h), kitAny_cons (b := false) (kit_ty (by decide +kernel)) (fun _ => kitAny_cons (b := true) (kit_ty (by decide +kernel)) (fun z => (nomatch z)) (fun _ => rfl)) (fun z => (nomatch z)), ⟨fun _ => ⟨a, false, xs, rfl, h⟩, fun _ => rfl⟩⟩
    | true =>
      refine ⟨_, true, .base (.tup h), kitAny_cons (b := true) (kit_ty (by decide +kernel)) (fun z => (nomatch z)) (fun _ => rfl), ⟨fun _ => ⟨a, true, xs, rfl, h⟩, fun _ => rfl⟩⟩
  | @dic a kvs h =>
    refine ⟨_, false, .base (.dK h), no (by decide +kernel) (by decide +kernel), ⟨fun z => (nomatch z), fun ⟨a', b, xs, e, h'⟩ => ?_⟩⟩
    cases e
    rw [h] at h'
    cases b <;> cases h'
/-! ### a whole number within bounds; a rising row -/
def wholeV (x : V) (lo hi : Int) : Bool := match x with
  | .int i => decide (lo ≤ i) && decide (i ≤ hi)
  | _ => false
def risV (n : Int) : Int → List V → Bool
  | _, [] => true
  | lo, x :: r => match x with
    | .int i => decide (lo ≤ i) && decide (i ≤ n - 1) && risV n (i + 1) r
    | _ => false
/-- where a rising row is one, it is a pick's things -/
theorem ris_desc {n : Nat} : ∀ (xs : List V) (pre : List Nat) (lo : Nat), Desc lo pre → lo ≤ n → risV n lo xs = true → ∃ ds, asc pre ++ xs = asc ds ∧ Desc n ds ∧ ds.length = pre.length + xs.length
  | [], pre, lo, hp, hl, _ => ⟨pre, by rw [List.append_nil], hp.mono hl, rfl⟩
  | x :: r, pre, lo, hp, hl, h => by
    cases x with
    | int i =>
      have h' : (decide ((lo : Int) ≤ i) && decide (i ≤ (n : Int) - 1) && risV n (i + 1) r) = true := h
      rw [Bool.and_eq_true, Bool.and_eq_true, decide_eq_true_eq, decide_eq_true_eq] at h'
      obtain ⟨⟨h1, h2⟩, h3⟩ := h'
      obtain ⟨t, rfl⟩ : ∃ t : Nat, i = (t : Int) := ⟨i.toNat, by omega⟩
      have e1 : ((t : Nat) : Int) + 1 = ((t + 1 : Nat) : Int) := by omega
      rw [e1] at h3
      obtain ⟨ds, a1, a2, a3⟩ := ris_desc r (t :: pre) (t + 1) ⟨Nat.lt_succ_self t, hp.mono (by omega)⟩ (by omega) h3
      refine ⟨ds, ?_, a2, ?_⟩
      · rw [← a1]
        unfold asc
        rw [List.reverse_cons, List.map_append, List.append_assoc]
        rfl
      · rw [a3, List.length_cons, List.length_cons]; omega
    | _ => exact absurd (show false = true from h) Bool.false_ne_true
theorem asc_cons (t : Nat) (ds : List Nat) : asc (t :: ds) = asc ds ++ [nv t] := by
  unfold asc
  rw [List.reverse_cons, List.map_append]
  rfl
theorem ris_app (n : Int) : ∀ (xs : List V) (lo i : Int), risV n lo xs = true → (∀ j, xs.getLast? = some (.int j) → j < i) → lo ≤ i → i ≤ n - 1 → risV n lo (xs ++ [.int i]) = true
  | [], lo, i, _, _, h1, h2 => by
    show (decide (lo ≤ i) && decide (i ≤ n - 1) && true) = true
    simp [h1, h2]
  | x :: r, lo, i, h, hl, h1, h2 => by
    cases x with
    | int j =>
      have h' : (decide (lo ≤ j) && decide (j ≤ n - 1) && risV n (j + 1) r) = true := h
      rw [Bool.and_eq_true] at h'
      obtain ⟨q1, q2⟩ := h'
      show (decide (lo ≤ j) && decide (j ≤ n - 1) && risV n (j + 1) (r ++ [.int i])) = true
      rw [q1, Bool.true_and]
      cases r with
      | nil =>
        have := hl j rfl
        show (decide (j + 1 ≤ i) && decide (i ≤ n - 1) && true) = true
        simp [h2]
        omega
      | cons y r =>
        refine ris_app n (y :: r) (j + 1) i q2 (fun k hk => hl k (by rw [List.getLast?_cons_cons]; exact hk)) ?_ h2
        have : ∀ (l : List V) (lo : Int), l ≠ [] → risV n lo l = true → ∃ j, l.getLast? = some (.int j) ∧ lo ≤ j := by
          intro l
          induction l with
          | nil => intro lo h; exact absurd rfl h
          | cons z l ih =>
            intro lo _ hz
            cases z with
            | int a =>
              have hz' : (decide (lo ≤ a) && decide (a ≤ n - 1) && risV n (a + 1) l) = true := hz
              rw [Bool.and_eq_true, Bool.and_eq_true, decide_eq_true_eq] at hz'
              cases l with
              | nil => exact ⟨a, rfl, hz'.1.1⟩
              | cons z' l =>
                obtain ⟨b, hb, hle⟩ := ih (a + 1) (by simp) hz'.2
                exact ⟨b, by rw [List.getLast?_cons_cons]; exact hb, by omega⟩
            | _ => exact absurd (show false = true from hz) Bool.false_ne_true
        obtain ⟨b, hb, hle⟩ := this (y :: r) (j + 1) (by simp) q2
        have := hl b (by rw [List.getLast?_cons_cons]; exact hb)
        omega
    | _ => exact absurd (show false = true from h) Bool.false_ne_true
theorem asc_last : ∀ {ds : List Nat} {n : Nat} {j : Int}, Desc n ds → (asc ds).getLast? = some (.int j) → j < n
  | [], _, _, _, h => by simp [asc] at h
  | t :: ds, n, j, hd, h => by
    rw [asc_cons, List.getLast?_concat] at h
    have e : (t : Int) = j := V.int.inj (Option.some.inj h)
    have := hd.1
    omega
theorem desc_ris : ∀ {ds : List Nat} {n : Nat}, Desc n ds → risV n 0 (asc ds) = true
  | [], _, _ => rfl
  | t :: ds, n, h => by
    rw [asc_cons]
    have h1 := h.1
    have ih : risV n 0 (asc ds) = true := desc_ris (h.2.mono (by omega))
    exact ris_app n (asc ds) 0 t ih (fun j hj => asc_last h.2 hj) (by omega) (by omega)
theorem asc_inj {a b : List Nat} (h : asc a = asc b) : a = b := by
  unfold asc at h
  have h2 := (List.map_inj_right (f := nv) (fun x y e => by
    have := V.int.inj e
    omega)).mp h
  exact List.reverse_inj.mp h2
end Dp
namespace DpR
open PySem PySem.Spec PyProof.Rows L2
/-! ### an exception that was caught, kept in a name -/
def ExD (cls : Value) (d : Option Addr) (a : Addr) : HO := .ext fun h => ∃ (oe : Obj) (vs : Array Value), h.get? a = some oe ∧ Zc cls d oe ∧ oe.data = .fields vs
theorem exD_ok {P : Program} {w : World} {H : Hp} {h : Heap} {a : Addr} {cls : Value} {d : Option Addr} {oe : Obj} {vs : Array Value} (e : h.get? a = some oe) (z : Zc cls d oe) (f : oe.data = .fields vs) : ObjOk P w H h a (ExD cls d a) :=
  ⟨⟨oe, vs, e, z, f⟩, ⟨oe, e⟩, fun _ _ ⟨o, v, q, r⟩ k => ⟨o, v, k o q, r⟩⟩
/-- an object that came while we looked away is tracked from now on -/
theorem inv_track {X : Cx} {pins : List (Addr × Obj)} {σ : L2.St} {H : Hp} {sI s : Shared} {a : Addr} {cls : Value} {d : Option Addr} {oe : Obj} {vs : Array Value} (hx : X.ex = []) (J : Inv X pins σ H sI) (I : Inv X pins σ H s)
    (hI : sI.heap.get? a = none) (na : H a = none) (nL : a ≠ X.env.locals) (e : s.heap.get? a = some oe) (z : Zc cls d oe) (f : oe.data = .fields vs) : Inv X pins σ (upd H a (ExD cls d a)) s := by
  have n0 : X.s_0.heap.get? a = none := by
    cases q : X.s_0.heap.get? a with
    | none => rfl
    | some o =>
      obtain ⟨o', q'⟩ := J.base.there a o q (by rw [hx]; simp)
      rw [hI] at q'; cases q'
  have keepN : ∀ b, b ≠ a → H b = none → upd H a (ExD cls d a) b = none := fun b hb q => by rw [upd_ne hb]; exact q
  refine ⟨I.ok, I.os, I.bare, ⟨I.base.keep, I.base.slot, fun b o q n h => ?_, I.base.there, fun b xs q => ?_, fun b o u q => ?_, fun b ps q => ?_⟩, I.loc, I.cell, ?_, fun x c q => ?_, fun p hp => ?_, ?_, I.len⟩
  · exact keepN b (fun y => by rw [y, n0] at q; cases q) (I.base.free b o q n h)
  · have h := I.base.tups b xs q
    rw [upd_ne (ne_of_none h na)]; exact h
  · have h := I.base.frzs b o u q
    rw [upd_ne (ne_of_none h na)]; exact h
  · obtain ⟨m, h⟩ := I.base.tbls b ps q
    exact ⟨m, by rw [upd_ne (ne_of_none h na)]; exact h⟩
  · exact keepN _ (Ne.symm nL) I.free
  · refine keepN c (fun y => ?_) (I.freeC x c q)
    obtain ⟨v, o, ho, hd⟩ := I.cell x c q
    rw [y, e] at ho
    cases ho
    rw [f] at hd; cases hd
  · obtain ⟨h1, h2, h3, h4, h5⟩ := I.pin p hp
    refine ⟨h1, keepN p.1 (fun y => ?_) h2, h3, h4, h5⟩
    have h6 := (J.pin p hp).1
    rw [y, hI] at h6; cases h6
  · exact I.hok.laidN (fun _ _ q => q) na (exD_ok e z f)
theorem inv_suiteT {X : Cx} {pins : List (Addr × Obj)} {σ : L2.St} {H : Hp} {s : Shared} {a : Addr} (I : Inv X pins σ H s) : Inv (X.suite a (X.pn ++ pins)) [] σ H s :=
  ⟨I.ok.suite _ _, I.os, I.bare, I.base, I.loc, I.cell, I.free, I.freeC, fun p hp => I.pin p (by rw [List.append_nil] at hp; exact hp), I.hok, I.len⟩
theorem inv_unsuiteT {X : Cx} {pins pn' : List (Addr × Obj)} {σ : L2.St} {H : Hp} {s : Shared} {a : Addr} (I : Inv (X.suite a (X.pn ++ pins)) pn' σ H s) (ok : X.Ok) : Inv X pins σ H s :=
  ⟨ok, I.os, I.bare, I.base, I.loc, I.cell, I.free, I.freeC, fun p hp => I.pin p (List.mem_append_left _ hp), I.hok, I.len⟩
/-- what the clause 'except x as n' wishes where the exception is tracked within and behind the suite; slot i is n's -/
def wAsT (K : PySem.W.Frag) (c : Value) (i : Nat) (ts : Addr → TS) (Wout : WX) (D : Ends) : WX := fun cls d σ H =>
  ∃ b, PySem.W.exmOne K cls c = some b ∧ (b = true → ∀ a, H a = none → ts a { nx := fun σ' H' => D.nx (σ'.set i none) H', rt := D.rt, bk := fun σ' H' => D.bk (σ'.set i none) H', ct := fun σ' H' => D.ct (σ'.set i none) H' } (σ.set i (some (.ref a))) (upd H a (ExD cls d a))) ∧
    (b = false → Wout cls d σ H)
section
variable {X : Cx} {x n : Str} {c : Value} {i : Nat} {body suite : List Stmt} {b₀ : Stmt} {np pos pos' : Pos} {tb : WX → TS} {ts : Addr → TS} {Wout : WX}
theorem ps_tryT (hs : X.stack = X.env :: X.outer) (hf : X.env.frame = some X.env.locals) (hex : X.ex = []) (hN : X.N.Nodup) (hi : X.N[i]? = some n) (hln : X.env.kindOf n = some .local) (hc : Names X x c) (tk : Takes X Wout)
    (hb : ∀ (W : WX) (pn : List (Addr × Obj)) (xe : Value → Shared → Prop), Takes (X.tr pn xe) W → PassesOwn (model X.prog X.w) X.A X.env xe → PSs (X.tr pn xe) body (tb W))
    (hsu : ∀ (a : Addr) (pn : List (Addr × Obj)), PSs (X.suite a pn) (b₀ :: suite) (ts a)) :
    PS X (.Try body [.ExceptHandler (some (.Name x np)) (some n) (b₀ :: suite) pos'] [] [] pos) (fun D σ H => tb (wAsT X.K c i ts Wout D) D σ H) := by
  refine ⟨fun pins s σ H D I h => ?_⟩
  have ok := I.ok
  have hfr : X.A.frames = some (X.env :: X.outer) := by rw [ok.frames, hs]
  have hloc : Loc X.env.scope n := .inl hln
  refine wpAny_Try_except ?_
  refine wpAny_mono ((hb (wAsT X.K c i ts Wout D) (X.pn ++ pins) (fun e s₁ => wpAny (model X.prog X.w) X.A (noteFrame e X.env) (fun _ s₂ => wpAny (model X.prog X.w) X.A (setFlight e none) (fun _ s₃ =>
    wpAny (model X.prog X.w) X.A (handleBy e X.env [.ExceptHandler (some (.Name x np)) (some n) (b₀ :: suite) pos']) (SP X pins D) X.xe s₃) X.xe s₂) X.xe s₁) (fun u s' xx => ?_) PassesOwn.looking).run [] s σ H D (I.toTry _) h) (fun f s1 hsp => ?_) (fun e s1 he => he)
  · obtain ⟨a, B, sI, pins', σ', H', cls, d, rfl, J', nb, up, sky, na, os, ag, b, hb1, hyes, hno⟩ := xx
    have J : Inv X pins σ' H' sI := J'.ofTry ok
    have sky' : Sky B (X.env :: X.outer) a (Zc cls d) X.env.locals s'.heap := by rw [← hs]; exact sky
    show wpAny (model X.prog X.w) X.A (noteFrame (.ref a) X.env) _ _ _
    refine Sky.land Zc.steady hfr hf sky' fun h3 fl3 up3 => ?_
    have J3 : Inv X pins σ' H' { s' with heap := h3 } := J.landed nb fl3.1 (up.trans up3) os ag
    obtain ⟨oe3, vs3, he3, hz3, hd3⟩ := fl3.there
    have nfr : a ∉ frs (X.env :: X.outer) := fun hm => by
      obtain ⟨_, o', e', hnf⟩ := fl3.2.2.1.mem hm
      rw [he3] at e'; cases e'
      exact hnf _ hd3
    have nL : a ≠ X.env.locals := fun z => nfr (List.mem_filterMap.mpr ⟨X.env, List.mem_cons_self, by rw [hf, z]⟩)
    have hI : sI.heap.get? a = none := by
      cases q : sI.heap.get? a with
      | none => rfl
      | some o =>
        have h1 := nb a o q (by rw [hs]; exact nfr)
        rw [fl3.2.1] at h1; cases h1
    have T3 := inv_track hex J J3 hI na nL he3 hz3 hd3
    have S3 : Inv (X.suite a (X.pn ++ pins)) [] σ' (upd H' a (ExD cls d a)) { s' with heap := h3 } := inv_suiteT T3
    refine wpAny_handleBy_cons (codeAny_handlers_test ?_) (by intro q; cases q)
    have LT : PySem.W.Looks (model X.prog X.w) h3 (typeOf (.ref a)) cls := fun A Q E s k q => wpAny_typeOf_ref (k _ _ he3) (by rw [hz3.1]; exact q)
    have LM := PySem.W.exm_one (M := model X.prog X.w) (J3.kIn) LT hb1
    have test : ∀ {Q : Value → Shared → Prop} {E : Value → Shared → Prop}, Q c { s' with heap := h3 } → wpAny (model X.prog X.w) (X.A.mark (some (.ref a))) (eval (.Name x np) X.env) Q E { s' with heap := h3 } := fun {Q E} q => by
      obtain ⟨hg, hdbg, hm | ⟨hm, hv, hnn⟩⟩ := hc
      · exact ld_glob (X := X.suite a (X.pn ++ pins)) S3 hg hm q hdbg
      · exact ld_blt (X := X.suite a (X.pn ++ pins)) S3 hg hm hv q hnn hdbg
    refine test (LM.here ?_)
    cases b with
    | true =>
      refine codeAny_handlers_suite_as ?_
      refine HandSPX.lands_againZ fl3 fun h4 fl4 up4 => ?_
      have J4 : Inv X pins σ' H' { s' with heap := h4 } := J.landed nb fl4.1 ((up.trans up3).trans up4) os ag
      obtain ⟨oe4, vs4, he4, hz4, hd4⟩ := fl4.there
      have S4 : Inv (X.suite a (X.pn ++ pins)) [] σ' (upd H' a (ExD cls d a)) { s' with heap := h4 } := inv_suiteT (inv_track hex J J4 hI na nL he4 hz4 hd4)
      refine store_ok (X := X.suite a (X.pn ++ pins)) (v := .ref a) S4 hN hi hloc rfl (fun s5 S5 => ?_) (.inr hln)
      refine wpAny_mono ((hsu a (X.pn ++ pins)).run [] s5 _ _ _ S5 (hyes rfl a na)) (fun f s6 hsp => ?_) (fun _ _ z => False.elim z)
      have end_ : ∀ {σ6 : L2.St} {H6 : Hp} {Q : Shared → Prop}, Inv (X.suite a (X.pn ++ pins)) [] σ6 H6 s6 → (∀ s7, Inv X pins (σ6.set i none) H6 s7 → Q s7) →
          wpAny (model X.prog X.w) X.A (do bindName X.env n .none; unbindBehindTheSuite X.env n pos') (fun _ s7 => Q s7) X.xe s6 := fun {σ6 H6 Q} S6 hq => gone_ok (inv_unsuiteT S6 ok) hN hi hln hq
      cases f with
      | next =>
        obtain ⟨σ6, H6, S6, q6⟩ := hsp
        exact end_ S6 fun s7 J7 => ⟨_, _, J7, q6⟩
      | brk =>
        obtain ⟨σ6, H6, S6, q6⟩ := hsp
        exact end_ S6 fun s7 J7 => ⟨_, _, J7, q6⟩
      | cont =>
        obtain ⟨σ6, H6, S6, q6⟩ := hsp
        exact end_ S6 fun s7 J7 => ⟨_, _, J7, q6⟩
      | ret u =>
        obtain ⟨v6, σ6, H6, S6, r6, q6⟩ := hsp
        exact end_ S6 fun s7 J7 => ⟨_, _, _, J7, r6, q6⟩
    | false =>
      show wpAny _ X.A (handleBy (.ref a) X.env []) _ _ _
      refine wpAny_handleBy_nil ?_
      obtain ⟨k1, k2, k3, oe, vs, T, oT, ts', he, hz, hd, h1, hr⟩ := id fl3
      unfold PySem.passOn
      refine wpAny_bind (wpAny_field he hd h1 ?_)
      rw [if_neg (show ¬ ((Value.ref T == Value.none) = true) from by simp)]
      have fin : wpAny (model X.prog X.w) X.A (setFlight (.ref a) X.env.frame) (fun _ s4 => wpAny (model X.prog X.w) X.A (throw (.ref a) : Sem Flow) (SP X pins D) X.xe s4) X.xe { s' with heap := h3 } := by
        rw [hf]
        refine HandSPX.setFlight_upZ fl3 fun h4 hh4 up4 => wpAny_throw (tk _ _ ?_)
        exact ⟨a, B, sI, pins, σ', H', cls, d, rfl, J, nb, (up.trans up3).trans up4, .inr (.inr (by rw [hs]; exact hh4)), na, os, ag, hno rfl⟩
      first
        | exact wpAny_bind (wpAny_pure (wpAny_bind fin))
        | exact wpAny_bind fin
  · cases f with
    | next =>
      obtain ⟨σ', H', J', q⟩ := hsp
      exact wpAny_execs_nil ⟨σ', H', J'.ofTry ok, q⟩
    | brk =>
      obtain ⟨σ', H', J', q⟩ := hsp
      exact ⟨σ', H', J'.ofTry ok, q⟩
    | cont =>
      obtain ⟨σ', H', J', q⟩ := hsp
      exact ⟨σ', H', J'.ofTry ok, q⟩
    | ret u =>
      obtain ⟨v, σ', H', J', r, q⟩ := hsp
      exact ⟨v, σ', H', J'.ofTry ok, r, q⟩
end
/-! ### a method's call whose exceptions are wished for at the caller's slots -/
def tMethE (C : Addr) (m : Str) (sp : Sp) (E : L2.St → XK) (ta : TE) (t : TA) : TE := fun σ H Q => ta σ H fun x H1 => ∃ a dx fs, x = .ref a ∧ H1 a = some (.ins C dx fs) ∧ fs.lookup m = none ∧
  t σ H1 fun vs H2 => sp (x :: vs) H2 Q (E σ)
theorem pe_methE {X : Cx} {CX : CXT} {k : Nat} {f C : Addr} {fd : FuncData} {ps : List Str} {sp : Sp} {E : L2.St → XK} {m : Str} {pos apos : Pos} {e o : Expr} {es : List Expr} {ta : TE} {t : TA} {pl : Sem Bool} (he : PE X o ta) (c : Cls X.K C) (hm : Meth X.K C m f)
    (F : FnOk X.prog X.w X.K X.mg X.base CX k f fd ps sp) (hr : Room k X.A) (hb : Binds X.K fd ps []) (hx : ∀ σ, PassesAt CX X σ (E σ)) (ha : PA X (e :: es) t)
    (hst : starEach (e :: es) X.env = (false, eval e X.env) :: starEach es X.env := by rfl) (hpl : (backTo pos (starEach es X.env)).any (·.1) = false := by rfl)
    (ht : eval (.Call (.Attribute o m apos) (e :: es) [] pos) X.env = (do
      let ov ← eval o X.env
      standAt apos.atName
      let (f, first) ← holding [ov] (getMethod ov m pl)
      callWith pos f first (backTo pos (starEach (e :: es) X.env)) (backToKw pos (keywordEach [] X.env))) := by rfl) :
    PE X (.Call (.Attribute o m apos) (e :: es) [] pos) (tMethE C m sp E ta t) := by
  refine ⟨fun pins s σ H Q I h => ?_⟩
  refine PySem.W.methodCall_KW (pl := pl) (thn (he.run pins s σ H _ I h) fun u s1 ⟨x, H1, I1, rx, a, dx, fs, ex, ea, l, q⟩ => ?_) ht
  subst ex
  obtain rfl : u = Value.ref a := rx
  refine getmeth_ok I1 ea c hm l ?_
  refine PySem.W.callWith_K (first := [.ref a]) (h₀ := X.base) I.ok.mod.kin hm.kp (thn (ha.run pos pins s1 σ H1 _ I1 q) fun us s2 ⟨vs, H2, I2, r, q2⟩ => ⟨I2.kIn, ?_⟩) hst hpl
  exact run_fnS (us := .ref a :: us) (vs := .ref a :: vs) F hr hb (hx σ) I2 (.cons rfl r) q2
/-! ### isinstance of a kept exception -/
def rIsX (K : PySem.W.Frag) : List V → Hp → VK → Prop := fun xs H Q => ∃ (a D : Addr) (c : V) (cv : Value) (b : Bool), xs = [.ref a, c] ∧ H a = some (ExD (.ref D) none a) ∧ ExcC K D ∧ ClsV c cv ∧ PySem.W.kitOne K (.ref D) cv = some b ∧ Q (.bl b) H
theorem call_isX {X : Cx} : CallR X (.builtin "isinstance") (rIsX X.K) := by
  intro pins s σ H xs us Q I r h
  obtain ⟨a, D, c, cv, b, rfl, ha, C, hcv, e, q⟩ := h
  obtain ⟨u1, u2, rfl, r1, r2⟩ := vals2 r
  cases r1
  have ec := hcv.eq r2
  subst ec
  obtain ⟨⟨oe, vs, ho, hz, hv⟩, _, _⟩ := I.hok a _ ha
  have J : PySem.W.InstAt s.heap a oe D none := by
    obtain ⟨oc, od, oda, osl⟩ := oe
    obtain ⟨h1, h2⟩ := hz
    dsimp only at h1 h2 hv
    subst h1 h2 hv
    exact ⟨ho, rfl, rfl, trivial⟩
  exact PySem.W.kia_one (PySem.W.handS_kitx_exc C.hg C.hk C.hs C.hd C.ha C.hn C.ht C.hm) I.kIn J e (fun z => (nomatch z)) fun tk => ⟨.bl b, H, I.kept (t' := tk) fun _ _ z => z, rfl, q⟩
/-! ### list.count of flat things -/
def rCountF (K : PySem.W.Frag) : V → List V → Hp → VK → Prop := fun x xs H Q => ∃ (a : Addr) (ys : List V) (y : V), x = V.ref a ∧ xs = [y] ∧ SqL K H a ys ∧ flatV y = true ∧ ys.all flatV = true ∧ Q (.int ((ys.countP fun z => eqV z y : Nat) : Int)) H
theorem countP_eqU {x : V} : ∀ {xs : List V} {us : List Value}, Vals xs us → xs.all flatV = true → us.countP (eqU x) = xs.countP fun y => eqV y x
  | _, _, .nil, _ => rfl
  | y :: xs, u :: us, .cons r t, h => by
    have h' : flatV y = true ∧ xs.all flatV = true := by simpa using h
    rw [List.countP_cons, List.countP_cons, countP_eqU t h'.2, eqU_of r h'.1]
theorem mt_countF {X : Cx} : MtR X "list.count" (rCountF X.K) := by
  intro pins s σ H x xs v us Q I rx rxs h
  obtain ⟨a, ys, y, rfl, rfl, hs, fy, fys, q⟩ := h
  cases rx
  obtain ⟨u, rfl, ru⟩ := vals1 rxs
  obtain ⟨its, rv, ⟨⟨cls, dd, data, sl⟩, n, ho, hc, hdn, hd⟩, hlen⟩ := I.list hs
  simp only at hc hd
  subst hc hd
  refine call_meets PySem.F.slot_list_count ⟨_, ho, rfl⟩ PySem.F.entry_list_count (PySem.F.args_list_count_2 _ _)
    (SeqAt.list_countAt a its.toArray n dd sl u (eqU y)) ⟨ho, fun u' hu' => mem_eqAt ru fy rv fys u' (by simpa using hu'), ?_⟩
  have ec : its.toArray.toList.countP (eqU y) = ys.countP fun z => eqV z y := countP_eqU rv fys
  refine ⟨.int ((ys.countP fun z => eqV z y : Nat) : Int), H, I.tok _, ⟨s.toks, ?_⟩, q⟩
  show Value.int ((its.toArray.toList.countP (eqU y) : Nat) : Int) s.toks = Value.int ((ys.countP fun z => eqV z y : Nat) : Int) s.toks
  rw [ec]
end DpR
namespace DpR
end DpR
/-! the order of the sets: each set is its things, falling -/
namespace Dp
def gr : List Nat → Int
  | [] => 0
  | g :: r => (2 ^ (g + 1) : Nat) - 1 - gr r
theorem p2_pos (n : Nat) : 1 ≤ 2 ^ n := Nat.one_le_two_pow
theorem p2_succ (n : Nat) : 2 ^ (n + 1) = 2 ^ n + 2 ^ n := by rw [Nat.pow_succ]; omega
theorem p2_mono {n m : Nat} (h : n ≤ m) : 2 ^ n ≤ 2 ^ m := Nat.pow_le_pow_right (by decide) h
theorem gr_bounds : ∀ {n : Nat} {l : List Nat}, Desc n l → 0 ≤ gr l ∧ gr l < (2 ^ n : Nat)
  | n, [], _ => by
    have := p2_pos n
    show (0 : Int) ≤ 0 ∧ (0 : Int) < (2 ^ n : Nat)
    omega
  | n, g :: r, h => by
    have ⟨a, b⟩ := gr_bounds h.2
    have c := p2_mono (show g + 1 ≤ n from h.1)
    have e := p2_succ g
    show 0 ≤ ((2 ^ (g + 1) : Nat) : Int) - 1 - gr r ∧ ((2 ^ (g + 1) : Nat) : Int) - 1 - gr r < (2 ^ n : Nat)
    omega
theorem gr_head {g : Nat} {r : List Nat} (h : Desc g r) : ((2 ^ g : Nat) : Int) ≤ gr (g :: r) ∧ gr (g :: r) < (2 ^ (g + 1) : Nat) := by
  have ⟨a, b⟩ := gr_bounds h
  have e := p2_succ g
  show ((2 ^ g : Nat) : Int) ≤ ((2 ^ (g + 1) : Nat) : Int) - 1 - gr r ∧ ((2 ^ (g + 1) : Nat) : Int) - 1 - gr r < (2 ^ (g + 1) : Nat)
  omega
theorem ghead_one {g g' : Nat} {p : Int} (h1 : ((2 ^ g : Nat) : Int) ≤ p) (h2 : p < (2 ^ (g + 1) : Nat)) (h3 : ((2 ^ g' : Nat) : Int) ≤ p) (h4 : p < (2 ^ (g' + 1) : Nat)) : g = g' := by
  rcases Nat.lt_trichotomy g g' with h | h | h
  · have := p2_mono (show g + 1 ≤ g' from h)
    omega
  · exact h
  · have := p2_mono (show g' + 1 ≤ g from h)
    omega
theorem gr_inj : ∀ {a b : List Nat} {n m : Nat}, Desc n a → Desc m b → gr a = gr b → a = b
  | [], [], _, _, _, _, _ => rfl
  | [], g :: r, _, _, _, hb, h => by
    have ⟨a, _⟩ := gr_head hb.2
    have := p2_pos g
    have h' : (0 : Int) = gr (g :: r) := h
    omega
  | g :: r, [], _, _, ha, _, h => by
    have ⟨a, _⟩ := gr_head ha.2
    have := p2_pos g
    have h' : gr (g :: r) = 0 := h
    omega
  | g :: r, g' :: r', n, m, ha, hb, hr => by
    have ⟨a1, a2⟩ := gr_head ha.2
    have ⟨b1, b2⟩ := gr_head hb.2
    rw [← hr] at b1 b2
    have e := ghead_one a1 a2 b1 b2
    subst e
    have e2 : gr r = gr r' := by
      have q : ((2 ^ (g + 1) : Nat) : Int) - 1 - gr r = ((2 ^ (g + 1) : Nat) : Int) - 1 - gr r' := hr
      omega
    rw [gr_inj ha.2 hb.2 e2]
/-- the set of a number -/
def gu : Nat → Int → List Nat
  | 0, _ => []
  | n + 1, k => if k < (2 ^ n : Nat) then gu n k else n :: gu n ((2 ^ (n + 1) : Nat) - 1 - k)
theorem gu_spec : ∀ (n : Nat) (k : Int), 0 ≤ k → k < (2 ^ n : Nat) → Desc n (gu n k) ∧ gr (gu n k) = k
  | 0, k, h0, h1 => by
    have e : k = 0 := by
      have : ((2 ^ 0 : Nat) : Int) = 1 := rfl
      omega
    subst e
    exact ⟨trivial, rfl⟩
  | n + 1, k, h0, h1 => by
    have e := p2_succ n
    by_cases c : k < (2 ^ n : Nat)
    · have ⟨a, b⟩ := gu_spec n k h0 c
      have q : gu (n + 1) k = gu n k := by show (if _ then _ else _) = _; rw [if_pos c]
      rw [q]
      exact ⟨a.mono (Nat.le_succ n), b⟩
    · have ⟨a, b⟩ := gu_spec n ((2 ^ (n + 1) : Nat) - 1 - k) (by omega) (by omega)
      have q : gu (n + 1) k = n :: gu n ((2 ^ (n + 1) : Nat) - 1 - k) := by show (if _ then _ else _) = _; rw [if_neg c]
      rw [q]
      refine ⟨⟨Nat.lt_succ_self n, a⟩, ?_⟩
      show ((2 ^ (n + 1) : Nat) : Int) - 1 - gr (gu n _) = k
      rw [b]
      omega
theorem gu_gr {n : Nat} {l : List Nat} (h : Desc n l) : gu n (gr l) = l := by
  have ⟨a, b⟩ := gr_bounds h
  have ⟨d1, d2⟩ := gu_spec n (gr l) a b
  exact gr_inj d1 h d2
theorem gu_more {n m : Nat} {p : Int} (hn : n ≤ m) (h0 : 0 ≤ p) (h1 : p < (2 ^ n : Nat)) : gu m p = gu n p := by
  have ⟨a1, a2⟩ := gu_spec n p h0 h1
  have le := p2_mono hn
  have ⟨b1, b2⟩ := gu_spec m p h0 (by omega)
  exact gr_inj b1 a1 (by rw [a2, b2])
/-- the last set: the greatest thing alone -/
theorem gr_last (n : Nat) : gr [n] = (2 ^ (n + 1) : Nat) - 1 := by
  show ((2 ^ (n + 1) : Nat) : Int) - 1 - 0 = _
  omega
/-! one thing is put in or taken out -/
structure Tg (a b : List Nat) (t : Nat) : Prop where
  flip : t ∈ a ↔ t ∉ b
  same : ∀ x, x ≠ t → (x ∈ a ↔ x ∈ b)
theorem Tg.symm {a b : List Nat} {t : Nat} (h : Tg a b t) : Tg b a t :=
  ⟨⟨fun q r => h.flip.mp r q, fun q => Classical.byContradiction fun r => q (h.flip.mpr r)⟩, fun x n => (h.same x n).symm⟩
theorem Tg.cons {a b : List Nat} {t g : Nat} (h : Tg a b t) (n : t ≠ g) : Tg (g :: a) (g :: b) t := by
  refine ⟨?_, fun x hx => by rw [List.mem_cons, List.mem_cons, h.same x hx]⟩
  rw [List.mem_cons, List.mem_cons]
  constructor
  · rintro (e | q) (e' | q')
    · exact n e
    · exact n e
    · exact n e'
    · exact h.flip.mp q q'
  · intro q
    exact .inr (h.flip.mpr fun r => q (.inr r))
/-- the thing that changes is the only one -/
theorem Tg.one {a b : List Nat} {t u : Nat} (h : Tg a b t) (h' : Tg a b u) : t = u := by
  apply Classical.byContradiction
  intro n
  have s := h'.same t n
  by_cases q : t ∈ b
  · exact (h.flip.mp (s.mpr q)) q
  · exact q (s.mp (h.flip.mpr q))
theorem tg_next : ∀ {a b : List Nat} {n m : Nat}, Desc n a → Desc m b → gr b = gr a + 1 → ∃ t, Tg a b t
  | [], [], _, _, _, _, h => by
    have h' : (0 : Int) = 0 + 1 := h
    exact absurd h' (by decide)
  | [], g :: r, _, _, _, hb, h => by
    have ⟨x, y⟩ := gr_head hb.2
    have h' : gr (g :: r) = 0 + 1 := h
    have g0 : g = 0 := by
      apply Classical.byContradiction
      intro ne
      have := p2_mono (show 1 ≤ g by omega)
      have e : 2 ^ 1 = 2 := rfl
      omega
    subst g0
    have r0 : r = [] := by
      cases r with
      | nil => rfl
      | cons a b => exact absurd hb.2.1 (Nat.not_lt_zero _)
    subst r0
    exact ⟨0, by simp, fun x hx => by simp [hx]⟩
  | g :: r, [], _, _, ha, _, h => by
    have ⟨x, y⟩ := gr_head ha.2
    have := p2_pos g
    have h' : (0 : Int) = gr (g :: r) + 1 := h
    omega
  | ga :: ra, gb :: rb, n, m, ha, hb, hr => by
    have ⟨a1, a2⟩ := gr_head ha.2
    have ⟨b1, b2⟩ := gr_head hb.2
    have ea : gr (ga :: ra) = (2 ^ (ga + 1) : Nat) - 1 - gr ra := rfl
    have eb : gr (gb :: rb) = (2 ^ (gb + 1) : Nat) - 1 - gr rb := rfl
    rcases Nat.lt_trichotomy ga gb with h | h | h
    · have c1 := p2_mono (show ga + 1 ≤ gb from h)
      have eg : gb = ga + 1 := by
        apply Classical.byContradiction
        intro ne
        have c2 := p2_mono (show ga + 1 + 1 ≤ gb by omega)
        have c3 := p2_succ (ga + 1)
        have c4 := p2_pos (ga + 1)
        omega
      subst eg
      have c3 := p2_succ (ga + 1)
      have ra0 : gr ra = 0 := by omega
      have era : ra = [] := gr_inj ha.2 (b := []) (m := 0) trivial ra0
      have rb1 : gr rb = (2 ^ (ga + 1) : Nat) - 1 := by omega
      have erb : rb = [ga] := gr_inj hb.2 (b := [ga]) (m := ga + 1) ⟨Nat.lt_succ_self _, trivial⟩ (by rw [gr_last]; exact rb1)
      subst era
      subst erb
      exact ⟨ga + 1, by simp, fun x hx => by simp [hx]⟩
    · subst h
      have q : gr ra = gr rb + 1 := by omega
      obtain ⟨t, e⟩ := tg_next hb.2 ha.2 q
      refine ⟨t, e.symm.cons ?_⟩
      intro et
      subst et
      have m1 : t ∉ ra := fun q => absurd (ha.2.mem t q) (Nat.lt_irrefl _)
      have m2 : t ∉ rb := fun q => absurd (hb.2.mem t q) (Nat.lt_irrefl _)
      exact m2 (e.flip.mpr m1)
    · have c1 := p2_mono (show gb + 1 ≤ ga from h)
      omega
termination_by a b _ _ => a.length + b.length
decreasing_by
  all_goals simp only [List.length_cons]
  all_goals omega
theorem tg_round {n : Nat} {a b : List Nat} (ha : Desc n a) (hb : Desc n b) (h0 : 0 < n) (ea : gr a = (2 ^ n : Nat) - 1) (eb : gr b = 0) : Tg a b (n - 1) := by
  obtain ⟨k, rfl⟩ : ∃ k, n = k + 1 := ⟨n - 1, by omega⟩
  have a_is : a = [k] := gr_inj ha (b := [k]) (m := k + 1) ⟨Nat.lt_succ_self _, trivial⟩ (by rw [gr_last]; exact ea)
  have b_is : b = [] := gr_inj hb (b := []) (m := 0) trivial eb
  subst a_is b_is
  exact ⟨by simp, fun x hx => by
    have : x ≠ k := hx
    simp [this]⟩
theorem tg_step {n : Nat} {a b : List Nat} (ha : Desc n a) (hb : Desc n b) (h0 : 0 < n) (e : gr b = (gr a + 1) % ((2 ^ n : Nat) : Int)) : ∃ t, t < n ∧ Tg a b t := by
  have ⟨x, y⟩ := gr_bounds ha
  have key : ∃ t, Tg a b t := by
    by_cases c : gr a + 1 = (2 ^ n : Nat)
    · refine ⟨_, tg_round ha hb h0 (by omega) ?_⟩
      rw [e, c, Int.emod_self]
    · refine tg_next ha hb ?_
      rw [e]
      exact Int.emod_eq_of_lt (by omega) (by omega)
  obtain ⟨t, ht⟩ := key
  refine ⟨t, ?_, ht⟩
  by_cases q : t ∈ b
  · exact hb.mem t q
  · exact ha.mem t (ht.flip.mpr q)
/-- what remains of the one without the other -/
theorem Tg.filters {a b : List Nat} {t : Nat} (h : Tg a b t) (na : a.Nodup) (nb : b.Nodup) :
    (t ∈ a ∧ t ∉ b ∧ a.filter (fun x => !b.contains x) = [t] ∧ b.filter (fun x => !a.contains x) = []) ∨ (t ∉ a ∧ t ∈ b ∧ a.filter (fun x => !b.contains x) = [] ∧ b.filter (fun x => !a.contains x) = [t]) := by
  have lem : ∀ {a b : List Nat}, Tg a b t → t ∈ a → t ∉ b → a.Nodup → a.filter (fun x => !b.contains x) = [t] ∧ b.filter (fun x => !a.contains x) = [] := by
    intro a b h ta tb nd
    constructor
    · refine filter_one nd ta fun x hx => ?_
      simp only [Bool.not_eq_true', List.contains_eq_mem, decide_eq_false_iff_not]
      constructor
      · intro q
        apply Classical.byContradiction
        intro ne
        exact q ((h.same x ne).mp hx)
      · intro q; rw [q]; exact tb
    · rw [List.filter_eq_nil_iff]
      intro x hx
      simp only [Bool.not_eq_true', List.contains_eq_mem, decide_eq_false_iff_not]
      intro q
      by_cases e : x = t
      · subst e; exact tb hx
      · exact q ((h.same x e).mpr hx)
  by_cases ta : t ∈ a
  · have tb := h.flip.mp ta
    have ⟨x, y⟩ := lem h ta tb na
    exact .inl ⟨ta, tb, x, y⟩
  · have tb : t ∈ b := Classical.byContradiction fun q => ta (h.flip.mpr q)
    have ⟨x, y⟩ := lem h.symm tb ta nb
    exact .inr ⟨ta, tb, y, x⟩
end Dp
/-! t[::-1] of a tuple -/
namespace DpT
open PySem PySem.Spec PyProof.Rows HT
section
variable {prog : Program} {w : World} {A : Around} {E : Value → Shared → Prop} {s : Shared}
theorem adjust_rev (n : Nat) : Builtin.Slice.sliceAdjust none none (-1) (n : Int) = ((n : Int) - 1, -1) := by
  have h1 : ((-1 : Int) < 0) := by decide
  unfold Builtin.Slice.sliceAdjust
  simp only [h1, if_true]
theorem places_rev (n : Nat) : Builtin.Slice.slicePlaces ((n : Int) - 1) (-1) (-1) = n := by
  unfold Builtin.Slice.slicePlaces
  have h1 : ¬ ((-1 : Int) > 0) := by decide
  simp only [h1, if_false]
  by_cases c : n = 0
  · subst c; simp
  · have h2 : (n : Int) - 1 > -1 := by omega
    rw [if_pos h2]
    have h3 : ((n : Int) - 1 - -1 - 1) / - -1 + 1 = n := by
      rw [show (- -1 : Int) = 1 from rfl, Int.ediv_one]; omega
    rw [h3]; rfl
theorem sliceApplied_rev {sl : Addr} {vl vu vs : Value} {n : Nat} {Q : Int × Int × Nat → Shared → Prop} (hs : s.heap.IsSliceOf sl vl vu vs) (pl : IsPart vl none) (pu : IsPart vu none) (ps : IsPart vs (some (-1)))
    (h : Q ((n : Int) - 1, -1, n) s) : wpAny (model prog w) A (Builtin.Slice.sliceApplied (.ref sl) (pure (n : Int))) Q E s := by
  obtain ⟨os, hos, hcs, hds⟩ := id hs
  unfold Builtin.Slice.sliceApplied Builtin.Slice.sliceFields
  refine wpAny_bind (wpAny_bind (wpAny_field hos hds (x := vl) rfl (wpAny_bind (wpAny_field hos hds (x := vu) rfl (wpAny_bind (wpAny_field hos hds (x := vs) rfl (wpAny_pure ?_)))))))
  refine wpAny_bind (slicePart_ ps ?_)
  show wpAny _ _ (if ((-1 : Int) == 0) = true then _ else _) _ _ s
  rw [if_neg (by decide)]
  refine wpAny_bind (slicePart_ pl (wpAny_bind (slicePart_ pu (wpAny_bind (wpAny_pure ?_)))))
  show wpAny _ _ (match Builtin.Slice.sliceAdjust none none (-1) (n : Int) with | (lo, hi) => pure (lo, (-1 : Int), Builtin.Slice.slicePlaces lo hi (-1))) _ _ s
  rw [adjust_rev n]
  show wpAny _ _ (pure ((n : Int) - 1, (-1 : Int), Builtin.Slice.slicePlaces ((n : Int) - 1) (-1) (-1))) _ _ s
  rw [places_rev]
  exact wpAny_pure h
theorem pick_rev (xs : Array Value) : ((List.range xs.size).filterMap fun (m : Nat) => xs[(((xs.size : Int) - 1) + (m : Int) * -1).toNat]?).toArray = xs.toList.reverse.toArray := by
  congr 1
  apply List.ext_getElem?
  intro i
  have key : ∀ (k : Nat), k ≤ xs.size → (List.range k).filterMap (fun (m : Nat) => xs[(((xs.size : Int) - 1) + (m : Int) * -1).toNat]?) = xs.toList.reverse.take k := by
    intro k
    induction k with
    | zero => intro _; rfl
    | succ k ih =>
      intro hk
      rw [List.range_succ, List.filterMap_append, ih (by omega), List.take_succ]
      congr 1
      have e1 : (((xs.size : Int) - 1) + (k : Int) * -1).toNat = xs.size - 1 - k := by omega
      have e2 : xs.toList.reverse[k]? = xs[xs.size - 1 - k]? := by
        rw [List.getElem?_reverse (by rw [Array.length_toList]; omega), Array.length_toList, Array.getElem?_toList]
      show List.filterMap _ [k] = (xs.toList.reverse[k]?).toList
      rw [e2, List.filterMap_cons, e1]
      cases xs[xs.size - 1 - k]? <;> rfl
  rw [key xs.size (Nat.le_refl _), List.take_of_length_le (by rw [List.length_reverse, Array.length_toList]; exact Nat.le_refl _)]
theorem getItem_tuple_rev {t sl : Addr} {items : Array Value} {vl vu vs : Value} {Q : Value → Shared → Prop} (ht : IsTup s.heap t items) (hs : s.heap.IsSliceOf sl vl vu vs) (pl : IsPart vl none) (pu : IsPart vu none) (ps : IsPart vs (some (-1)))
    (h : Q (.ref s.heap.objs.size) { s with heap := s.heap.push { cls := .type "tuple", data := .seq items.toList.reverse.toArray } })
    (hsz : items.size ≤ sizeLine) : wpAny (model prog w) A (getItem (.ref t) (.ref sl)) Q E s := by
  have htake : sizeOk (.seq items.toList.reverse.toArray) := by
    show items.toList.reverse.toArray.size ≤ sizeLine
    rw [List.size_toArray, List.length_reverse, Array.length_toList]
    exact hsz
  obtain ⟨os, hos, hcs, hds⟩ := id hs
  have hTs : s.TypeIs (.ref sl) "slice" := ⟨os, hos, hcs⟩
  unfold getItem
  try with_reducible refine wpAny_holding ?_
  first | refine wpAny_bind (wpAny_pure ?_) | skip
  refine wpAny_bind (wpAny_sequenceKey ht.typeIs (by decide) ?_)
  refine wpAny_bind (wpAny_callSpecial?_slot (name := Str.ofString "__getitem__") ht.typeIs PyProof.Rows.slot_tuple_getitem
    (wpAny_call_entry PyProof.Rows.slot_tuple_getitem ht.typeIs entry_tuple_getitem ?_ (args_tuple_getitem _ _)))
  show wpAny _ _ (Builtin.Tuple.tupleItemsOf (.ref t) >>= _) _ _ s
  refine wpAny_bind (tupleItemsOf_ ht ?_)
  refine wpAny_bind (wpAny_typeOf hTs ?_)
  rw [if_pos (by decide)]
  refine wpAny_bind (sliceApplied_rev hs pl pu ps ?_)
  have hno : ¬ ((((items.size : Int) - 1) == 0 && (-1 : Int) == 1 && items.size == items.size) = true) := by
    intro q
    rw [Bool.and_eq_true, Bool.and_eq_true] at q
    exact absurd (eq_of_beq q.1.2) (by decide)
  show wpAny _ _ (if (((items.size : Int) - 1) == 0 && (-1 : Int) == 1 && items.size == items.size) = true then _ else _) _ _ s
  rw [if_neg hno, pick_rev]
  first
    | exact wpAny_bind (m := Builtin.Tuple.tupleExact _) (wpAny_newObj_type (wpAny_pure ⟨_, rfl, wpAny_pure h⟩) htake)
    | exact wpAny_bind (m := Builtin.Tuple.tupleExact _) (wpAny_newObj_type (wpAny_bind (wpAny_pure (wpAny_pure ⟨_, rfl, wpAny_pure h⟩))) htake)
    | exact wpAny_bind (wpAny_bind (m := Builtin.Tuple.tupleExact _) (wpAny_newObj_type (wpAny_pure (wpAny_pure ⟨_, rfl, wpAny_pure h⟩)) htake))
    | exact wpAny_bind (wpAny_bind (m := Builtin.Tuple.tupleExact _) (wpAny_newObj_type (wpAny_pure ⟨_, rfl, wpAny_pure h⟩) htake))
end
end DpT
namespace DpR
open PySem PySem.Spec PyProof.Rows L2
section
variable {X : Cx}
def tRevT (K : PySem.W.Frag) (te : TE) : TE := fun σ H Q => te σ H fun x H1 => ∃ a xs, x = .ref a ∧ SqT K H1 a xs ∧ ∀ p, H1 p = none → Q (.ref p) (upd H1 p (.tup xs.reverse))
theorem pe_revT {e : Expr} {te : TE} {k : Nat} {p1 p2 p3 pos : Pos} (he : PE X e te) : PE X (.Subscript e (.Slice none none (some (.UnaryOp .USub (.Constant (.int 1) k p1) p2)) p3) pos) (tRevT X.K te) := by
  refine ⟨fun pins s σ H Q I h => ?_⟩
  refine Subscript_ (thn (he.run pins s σ H _ I h) fun v s1 ⟨x, H1, I1, r1, q1⟩ => ?_)
  obtain ⟨a, xs, ex, hx, q⟩ := q1
  subst ex
  cases r1
  have hst : PO X (some (.UnaryOp .USub (.Constant (.int 1) k p1) p2)) (tPart (tUn (rU fun i => .int (-i)) (tC (.int 1)))) := po_some (pe_un un_neg pe_int)
  refine wpAny_Slice (thn (po_none.run pins s1 σ H1 (fun o H2 => o = none ∧ H2 = H1) I1 ⟨rfl, rfl⟩) fun vl s2 ⟨l, H2, I2, pl, el, e2⟩ => ?_)
  subst el e2
  refine thn (po_none.run pins s2 σ H2 (fun o H3 => o = none ∧ H3 = H2) I2 ⟨rfl, rfl⟩) fun vu s3 ⟨u, H3, I3, pu, eu, e3⟩ => ?_
  subst eu e3
  refine thn (hst.run pins s3 σ H3 (fun o H4 => o = some (-1) ∧ H4 = H3) I3 ⟨1, rfl, -1, rfl, rfl, rfl⟩) fun vs s4 ⟨o, H4, I4, ps, eo, e4⟩ => ?_
  subst eo e4
  have I5 : Inv X pins σ H4 { s4 with heap := s4.heap.push { cls := .type "slice", data := .fields #[vl, vu, vs] } } := I4.kept (t' := s4.toks) fun b ob q => Heap.get?_push_of_some _ q
  obtain ⟨its, r, ht, hz⟩ := I5.tuple hx
  have hlen := r.length
  show wpAny (model X.prog X.w) X.A (subscriptTail e (.Slice none none (some (.UnaryOp .USub (.Constant (.int 1) k p1) p2)) p3) (.ref a) (.ref s4.heap.objs.size)) (EP X pins σ Q) X.xe { s4 with heap := s4.heap.push { cls := .type "slice", data := .fields #[vl, vu, vs] } }
  refine tail_any (ops := [.ref a, .ref s4.heap.objs.size]) ht.typeIs (PyProof.Rows.slot_tuple_getitem.lookup) ?_ (by with_unfolding_all rfl)
  refine DpT.getItem_tuple_rev ht (Heap.IsSliceOf.new _ vl vu vs) pl pu ps ?_ (by rw [List.size_toArray]; omega)
  refine ⟨.ref _, _, I5.laid (t' := s4.toks) (o := .tup xs.reverse) (fun b ob q => Heap.get?_push_of_some _ q) (Nat.le_refl _) ?_, rfl, q _ (I5.hok.fresh (Nat.le_refl _))⟩
  exact ⟨by rw [List.length_reverse]; exact hz, _, r.reverse, IsTup.new _ _⟩
/-- a.f, the fragment named (inside a comprehension) -/
theorem pe_fldK {K : PySem.W.Frag} {e : Expr} {f : Str} {pos : Pos} {ta : TE} (hK : X.K = K) (he : PE X e ta) (hb : attributeBase e f X.env (eval e X.env) = eval e X.env) : PE X (.Attribute e f pos) (tFld K ta f) := by
  subst hK
  exact pe_fld he hb
end
end DpR
namespace Dp
open PySem PySem.Spec PyProof.Rows L2 DpR
/-! ### tuples of things, compared -/
theorem desc_lt : ∀ {ds : List Nat} {n i : Nat} {a b : Nat}, Desc n ds → ds[i]? = some a → ds[i + 1]? = some b → b < a
  | [], _, _, _, _, _, h, _ => by simp at h
  | g :: r, n, 0, a, b, h, h1, h2 => by
    have e : g = a := Option.some.inj h1
    subst e
    exact h.2.mem b (List.mem_of_getElem? (i := 0) h2)
  | g :: r, n, i + 1, a, b, h, h1, h2 => desc_lt (i := i) h.2 h1 h2
theorem asc_at {ds : List Nat} {n k : Nat} (h : Desc n ds) (hk : k < ds.length) : ∃ t, (asc ds)[k]? = some (nv t) ∧ t < n ∧ ds[ds.length - 1 - k]? = some t := by
  have h2 : ds.length - 1 - k < ds.length := by omega
  refine ⟨ds[ds.length - 1 - k], ?_, h.mem _ (List.getElem_mem h2), by simp [h2]⟩
  unfold asc
  rw [List.getElem?_map, List.getElem?_reverse hk, List.getElem?_eq_getElem h2]
  rfl
theorem asc_lt {ds : List Nat} {n k : Nat} (h : Desc n ds) (hk : k + 1 < ds.length) : ∃ a b, (asc ds)[k]? = some (nv a) ∧ (asc ds)[k + 1]? = some (nv b) ∧ a < b := by
  obtain ⟨a, a1, a2, a3⟩ := asc_at h (k := k) (by omega)
  obtain ⟨b, b1, b2, b3⟩ := asc_at h (k := k + 1) hk
  refine ⟨a, b, a1, b1, desc_lt (i := ds.length - 1 - (k + 1)) h b3 ?_⟩
  have e : ds.length - 1 - (k + 1) + 1 = ds.length - 1 - k := by omega
  rw [e]; exact a3
/-- a row of whole numbers, as data -/
def dtI (l : List Int) : PyData := .tuple (l.map PyData.int)
theorem dtI_lay : ∀ l : List Int, PyData.canLayAll0 (l.map PyData.int) = true ∧ PyData.depthAll (l.map PyData.int) = 0
  | [] => ⟨rfl, rfl⟩
  | x :: l => by
    have ⟨a, b⟩ := dtI_lay l
    constructor
    · show (PyData.canLay0 (.int x) && PyData.canLayAll0 (l.map PyData.int)) = true
      rw [a]; rfl
    · show max (PyData.depth (.int x)) (PyData.depthAll (l.map PyData.int)) = 0
      rw [b]; rfl
theorem dtI_shaped (l : List Int) : SeqAt.shaped (dtI l) = true := by
  have ⟨a, b⟩ := dtI_lay l
  show (PyData.canLayAll0 (l.map PyData.int) && decide (PyData.depth (.tuple (l.map PyData.int)) ≤ 64)) = true
  rw [a, Bool.true_and]
  refine decide_eq_true ?_
  show PyData.depthAll (l.map PyData.int) + 1 ≤ 64
  rw [b]; decide
theorem dtI_eqv (l : List Int) : PyData.eqv (dtI l) (dtI l) = true := SeqAt.eqv_refl _ (SeqAt.canLay_of_shaped (dtI_shaped l))
theorem dpAll_int {K : PySem.W.Frag} {H : Hp} : ∀ l : List Int, DpAll K H (l.map V.int) (l.map PyData.int)
  | [] => .nil
  | x :: l => .cons (.int x) (dpAll_int l)
def iasc (ds : List Nat) : List Int := ds.reverse.map Int.ofNat
theorem asc_iasc (ds : List Nat) : asc ds = (iasc ds).map V.int := by
  unfold asc iasc
  rw [List.map_map]
  rfl
theorem dp_tup {K : PySem.W.Frag} {H : Hp} {q : Addr} {ds : List Nat} (h : H q = some (.tup (asc ds))) : L2.Dp K H (.ref q) (dtI (iasc ds)) := by
  refine .tup (SqT.of h) ?_
  rw [asc_iasc]
  exact dpAll_int _
def ltI (l : List Int) : PyData := .list (l.map PyData.int)
theorem ltI_shaped (l : List Int) : SeqAt.shaped (ltI l) = true := by
  have ⟨a, b⟩ := dtI_lay l
  show (PyData.canLayAll0 (l.map PyData.int) && decide (PyData.depth (.list (l.map PyData.int)) ≤ 64)) = true
  rw [a, Bool.true_and]
  refine decide_eq_true ?_
  show PyData.depthAll (l.map PyData.int) + 1 ≤ 64
  rw [b]; decide
theorem ltI_eqv (l : List Int) : PyData.eqv (ltI l) (ltI l) = true := SeqAt.eqv_refl _ (SeqAt.canLay_of_shaped (ltI_shaped l))
theorem dp_lst {K : PySem.W.Frag} {H : Hp} {q : Addr} {ds : List Nat} (h : H q = some (.lst (asc ds))) : L2.Dp K H (.ref q) (ltI (iasc ds)) := by
  refine .lst (SqL.of h) ?_
  rw [asc_iasc]
  exact dpAll_int _

theorem inV_asc (t : Nat) (es : List Nat) : inV (nv t) (asc es) = es.contains t := by
  unfold inV asc
  rw [List.any_map, List.any_reverse]
  induction es with
  | nil => rfl
  | cons a es ih =>
    rw [List.any_cons, List.contains_cons, ih]
    congr 1
    show ((a : Int) == (t : Int)) = (t == a)
    by_cases e : a = t
    · subst e; simp
    · rw [beq_eq_false_iff_ne.mpr (by omega), beq_eq_false_iff_ne.mpr (Ne.symm e)]
theorem asc_flat (ds : List Nat) : (asc ds).all flatV = true := by
  rw [List.all_eq_true]
  intro x hx
  unfold asc at hx
  obtain ⟨t, _, rfl⟩ := List.mem_map.mp hx
  rfl
/-- the things of one pick that are not in another -/
theorem asc_filter (ds es : List Nat) : (asc ds).filter (fun x => !inV x (asc es)) = asc (ds.filter fun t => !es.contains t) := by
  unfold asc
  rw [List.filter_map, ← List.filter_reverse]
  congr 1
  apply List.filter_congr
  intro t _
  show (!inV (nv t) (asc es)) = !es.contains t
  rw [inV_asc]
theorem take_filter {xs : List V} {i : Nat} {x : V} (p : V → Bool) (h : xs[i]? = some x) : (xs.take (i + 1)).filter p = (xs.take i).filter p ++ (if p x = true then [x] else []) := by
  rw [List.take_succ, h, List.filter_append]
  congr 1
  show [x].filter p = _
  by_cases c : p x = true
  · rw [if_pos c, List.filter_cons_of_pos c]; rfl
  · rw [if_neg c, List.filter_cons_of_neg c]; rfl
theorem ex_uniq {a b : List Nat} {o i o' i' : Nat} (h : Ex a b o i) (h' : Ex a b o' i') : o = o' ∧ i = i' := by
  constructor
  · apply Classical.byContradiction
    intro ne
    by_cases e : o = i'
    · subst e; exact h'.ia h.oa
    · exact h.ob ((h'.same o ne e).mp h.oa)
  · apply Classical.byContradiction
    intro ne
    by_cases e : i = o'
    · subst e; exact h'.ob h.ib
    · exact h.ia ((h'.same i e ne).mpr h.ib)

theorem back_mod {r c : Int} (h0 : 0 ≤ r) (h1 : r < c) : ((r + 1) % c + -1) % c = r := by
  by_cases e : r + 1 = c
  · subst e
    have h2 : (r + 1) % (r + 1) = 0 := Int.emod_self
    rw [h2]
    have h3 : (0 + -1 : Int) = r + (r + 1) * (-1) := by omega
    rw [h3, Int.add_mul_emod_self_left]
    exact Int.emod_eq_of_lt h0 h1
  · have h2 : (r + 1) % c = r + 1 := Int.emod_eq_of_lt (by omega) (by omega)
    rw [h2]
    have h3 : r + 1 + -1 = r := by omega
    rw [h3]
    exact Int.emod_eq_of_lt h0 h1


theorem dp_ints {K : PySem.W.Frag} {H : Hp} {q : Addr} {l : List Int} (h : H q = some (.lst (l.map V.int))) : L2.Dp K H (.ref q) (ltI l) := .lst (SqL.of h) (dpAll_int l)
theorem dp_tupI {K : PySem.W.Frag} {H : Hp} {q : Addr} {l : List Int} (h : H q = some (.tup (l.map V.int))) : L2.Dp K H (.ref q) (dtI l) := .tup (SqT.of h) (dpAll_int l)
theorem asc_rev (ds : List Nat) : (asc ds).reverse = ds.map nv := by
  unfold asc
  rw [← List.map_reverse, List.reverse_reverse]
/-- among the first numbers just one is so -/
theorem range_one {n t : Nat} {p : Nat → Bool} (ht : t < n) (hp : ∀ x, x < n → (p x = true ↔ x = t)) : (List.range n).filter p = [t] :=
  filter_one List.nodup_range (List.mem_range.mpr ht) fun x hx => hp x (List.mem_range.mp hx)
theorem Tg.bne {a b : List Nat} {t : Nat} (h : Tg a b t) (x : Nat) : (a.contains x != b.contains x) = true ↔ x = t := by
  rw [bne_iff_ne]
  constructor
  · intro q
    apply Classical.byContradiction
    intro ne
    apply q
    rw [Bool.eq_iff_iff, List.contains_iff_mem, List.contains_iff_mem]
    exact h.same x ne
  · rintro rfl q
    rw [Bool.eq_iff_iff, List.contains_iff_mem, List.contains_iff_mem] at q
    by_cases c : x ∈ a
    · exact h.flip.mp c (q.mp c)
    · exact c (h.flip.mpr fun z => c (q.mpr z))
theorem range_filter_succ (p : Nat → Bool) (j : Nat) : (List.range (j + 1)).filter p = (List.range j).filter p ++ (if p j = true then [j] else []) := by
  rw [List.range_succ, List.filter_append]
  congr 1
  by_cases c : p j = true
  · rw [if_pos c, List.filter_cons_of_pos c]; rfl
  · rw [if_neg c, List.filter_cons_of_neg c]; rfl
/-! rows of tuples -/
def RowsAt (H : Hp) (q : Addr) (c : Nat → List V) (m : Nat) : Prop := ∃ rs : List Addr, H q = some (.lst (rs.map V.ref)) ∧ rs.length = m ∧ ∀ (i : Nat) (r : Addr), rs[i]? = some r → H r = some (.tup (c i))
theorem RowsAt.mono {H H' : Hp} {q : Addr} {c : Nat → List V} {m : Nat} (h : RowsAt H q c m) (s : Same H H') : RowsAt H' q c m :=
  let ⟨rs, e, l, kk⟩ := h; ⟨rs, s _ _ e, l, fun j r hr => s _ _ (kk j r hr)⟩
theorem RowsAt.nil {H : Hp} {q : Addr} {c : Nat → List V} (h : H q = some (.lst [])) : RowsAt H q c 0 := ⟨[], h, rfl, fun i r hr => by simp at hr⟩
/-- one row more, appended at the list itself -/
theorem RowsAt.add {H : Hp} {D z : Addr} {c : Nat → List V} {j : Nat} {acc : List V} (h : RowsAt H D c j) (hz : H z = some (.tup (c j))) (hD : H D = some (.lst acc)) : RowsAt (upd H D (.lst (acc ++ [.ref z]))) D c (j + 1) := by
  obtain ⟨ts, hts, lts, kts⟩ := h
  rw [hts] at hD
  have ea := HO.lst.inj (Option.some.inj hD)
  subst ea
  refine ⟨ts ++ [z], by rw [upd_same, List.map_append]; rfl, by rw [List.length_append, lts]; rfl, fun i r hr => ?_⟩
  have nD : ∀ (r : Addr) (xs : List V), H r = some (.tup xs) → r ≠ D := fun r xs h => ne_of h hts (by intro z; cases z)
  by_cases hi : i < ts.length
  · rw [List.getElem?_append_left hi] at hr
    have h1 := kts i r hr
    rw [upd_ne (nD _ _ h1)]
    exact h1
  · rw [List.getElem?_append_right (by omega)] at hr
    have ei : i = j := by
      by_cases zz : i - ts.length = 0
      · omega
      · rw [List.getElem?_eq_none (by simp; omega)] at hr
        cases hr
    subst ei
    rw [lts, Nat.sub_self] at hr
    have e : z = r := Option.some.inj hr
    subst e
    rw [upd_ne (nD _ _ hz)]
    exact hz
theorem RowsAt.len {H : Hp} {D : Addr} {c : Nat → List V} {j : Nat} {acc : List V} (h : RowsAt H D c j) (hD : H D = some (.lst acc)) : acc.length = j := by
  obtain ⟨ts, hts, lts, _⟩ := h
  rw [hts] at hD
  rw [← HO.lst.inj (Option.some.inj hD), List.length_map, lts]
theorem RowsAt.lst {H : Hp} {D : Addr} {c : Nat → List V} {j : Nat} (h : RowsAt H D c j) : ∃ acc, H D = some (.lst acc) ∧ acc.length = j := by
  obtain ⟨ts, hts, lts, _⟩ := h
  exact ⟨_, hts, by rw [List.length_map, lts]⟩
theorem RowsAt.at_ {H : Hp} {D : Addr} {c : Nat → List V} {j i : Nat} (h : RowsAt H D c j) (hi : i < j) : ∃ (acc : List V) (r : Addr), H D = some (.lst acc) ∧ acc.length = j ∧ acc[i]? = some (.ref r) ∧ H r = some (.tup (c i)) := by
  obtain ⟨ts, hts, lts, kts⟩ := h
  have hl : i < ts.length := by omega
  exact ⟨_, ts[i], hts, by rw [List.length_map, lts], by rw [List.getElem?_map, List.getElem?_eq_getElem hl]; rfl, kts i _ (List.getElem?_eq_getElem hl)⟩
/-- two lists of rows, one behind the other -/
theorem RowsAt.app {H : Hp} {a b q : Addr} {c d e : Nat → List V} {i j : Nat} {xs ys : List V} (h : RowsAt H a c i) (h' : RowsAt H b d j) (hx : H a = some (.lst xs)) (hy : H b = some (.lst ys)) (hq : H q = none)
    (e1 : ∀ k, k < i → e k = c k) (e2 : ∀ k, k < j → e (i + k) = d k) : RowsAt (upd H q (.lst (xs ++ ys))) q e (i + j) := by
  obtain ⟨ts, hts, lts, kts⟩ := h
  obtain ⟨us, hus, lus, kus⟩ := h'
  rw [hts] at hx
  have ea := HO.lst.inj (Option.some.inj hx)
  subst ea
  rw [hus] at hy
  have ea := HO.lst.inj (Option.some.inj hy)
  subst ea
  refine ⟨ts ++ us, by rw [upd_same, List.map_append], by rw [List.length_append, lts, lus], fun k r hr => ?_⟩
  by_cases hk : k < ts.length
  · rw [List.getElem?_append_left hk] at hr
    rw [e1 k (by omega)]
    have h1 := kts k r hr
    rw [upd_ne (ne_of_none h1 hq)]
    exact h1
  · rw [List.getElem?_append_right (by omega)] at hr
    have h1 := kus _ r hr
    have hl := (List.getElem?_eq_some_iff.mp hr).1
    have e3 : k = i + (k - ts.length) := by omega
    rw [e3, e2 _ (by omega), upd_ne (ne_of_none h1 hq)]
    exact h1
theorem gu_tail {n : Nat} {j : Int} (h0 : 0 ≤ j) (h1 : j < (2 ^ n : Nat)) : gu (n + 1) (((2 ^ n : Nat) : Int) + j) = n :: gu n (((2 ^ n : Nat) : Int) - 1 - j) := by
  have e := p2_succ n
  have q : gu (n + 1) (((2 ^ n : Nat) : Int) + j) = n :: gu n ((2 ^ (n + 1) : Nat) - 1 - (((2 ^ n : Nat) : Int) + j)) := by
    show (if _ then _ else _) = _
    rw [if_neg (by omega)]
  rw [q]
  congr 2
  omega
/-! either of two readings -/
theorem pe_either {X : Cx} {e : Expr} {t1 t2 : TE} (h1 : PE X e t1) (h2 : PE X e t2) : PE X e (fun σ H Q => t1 σ H Q ∨ t2 σ H Q) :=
  ⟨fun pins s σ H Q I h => h.elim (h1.run pins s σ H Q I) (h2.run pins s σ H Q I)⟩
theorem fn_or {P : Program} {w : World} {K : PySem.W.Frag} {mg : Str → Option Value} {base : Heap} {CX : CXT} {k : Nat} {f : Addr} {fd : FuncData} {ps : List Str} {sp sp' : Sp} (F : FnOk P w K mg base CX k f fd ps sp) (F' : FnOk P w K mg base CX k f fd ps sp') :
    FnOk P w K mg base CX k f fd ps (fun vs H Q E => sp vs H Q E ∨ sp' vs H Q E) :=
  ⟨fun vs H Q E q => q.elim (F.len vs H Q E) (F'.len vs H Q E), fun A outer s H args us vs Q E hr he hb hv hs => hs.elim (F.run A outer s H args us vs Q E hr he hb hv) (F'.run A outer s H args us vs Q E hr he hb hv)⟩
theorem dtI_same (l : List Int) {X : Bool → Prop} (h : X true) : X (PyData.eqv (dtI l) (dtI l)) := by rw [dtI_eqv]; exact h
theorem pe_weak {X : Cx} {e : Expr} {t t' : TE} (h : PE X e t) (i : ∀ σ H Q, t' σ H Q → t σ H Q) : PE X e t' :=
  ⟨fun pins s σ H Q I w => h.run pins s σ H Q I (i σ H Q w)⟩
theorem rgV_succ (m : Nat) : rgV 0 ((m + 1 : Nat) : Int) = rgV 0 (m : Int) ++ [nv m] := by
  unfold rgV
  have e1 : (((m + 1 : Nat) : Int) - 0).toNat = m + 1 := by omega
  have e2 : ((m : Int) - 0).toNat = m := by omega
  rw [e1, e2, List.range_succ, List.map_append]
  congr 1
  show [V.int (0 + ((m : Nat) : Int))] = [nv m]
  rw [Int.zero_add]; rfl
theorem asc_fst : ∀ m : Nat, asc (fst m) = rgV 0 (m : Int)
  | 0 => rfl
  | m + 1 => by
    rw [rgV_succ, ← asc_fst m]
    exact asc_cons m (fst m)
theorem cat_go {K : PySem.W.Frag} {H : Hp} {a b : Addr} {xs ys : List V} {Q : VK} (ha : H a = some (.tup xs)) (hb : H b = some (.tup ys)) (hl : xs.length + ys.length ≤ sizeLine)
    (h : ∀ z HL, Same H HL → HL z = some (.tup (xs ++ ys)) → Q (.ref z) HL) : rCatA K (.ref a) (.ref b) H Q :=
  ⟨a, b, xs, ys, rfl, rfl, SqT.of ha, SqT.of hb, hl, fun e => h b H (Same.refl _) (by rw [e]; exact hb), fun _ e => h a H (Same.refl _) (by rw [e, List.append_nil]; exact ha), fun _ _ p hp => h p _ (fun b u e => by rw [upd_ne (ne_of_none e hp)]; exact e) upd_same⟩
/-- an item at a drawn place -/
theorem at_drawn (xs : List V) {i : Int} (h0 : 0 ≤ i) (h1 : i < xs.length) : ∃ v, atI xs i = some v ∧ v ∈ xs := by
  obtain ⟨j, rfl⟩ : ∃ j : Nat, i = j := ⟨i.toNat, by omega⟩
  have hj : j < xs.length := by omega
  exact ⟨xs[j], atI_nat (by simp [hj]), List.getElem_mem hj⟩
end Dp
/-! sorted(t), t a tuple of ints -/
namespace DpT
open PySem PySem.Spec PyProof.Rows HT
section
variable {prog : Program} {w : World} {A : Around} {E : Value → Shared → Prop} {s : Shared}
theorem collect_tup {l : Addr} {vs : List Value} {Q : List Value → Shared → Prop} (hl : IsTup s.heap l vs.toArray)
    (h : Q vs { s with heap := (s.heap.push (seqObj "list" #[] 0)).update s.heap.objs.size (Obj.mapSeq (· ++ vs.toArray)) }) (hsz : vs.length ≤ sizeLine) :
    wpAny (model prog w) A (collect (.ref l)) Q E s := by
  obtain ⟨o, ho, hc, n, hd⟩ := id hl
  unfold collect
  refine wpAny_bind (wpAny_runValue (codeAny_builtin entry_proto_collect' ?_))
  show wpAny _ _ (do again (.builtin "list.__iadd__" ⟨[← newList [], .ref l], []⟩)) _ _ s
  refine wpAny_bind (wpAny_newList (wpAny_pure ⟨Code.quiet_builtin _ (by decide +kernel), codeAny_builtin entry_list_iadd' ?_⟩))
  show wpAny _ _ (Builtin.List.listExtendWith (.ref s.heap.objs.size) (.ref l) (.ref s.heap.objs.size)) _ _ { s with heap := s.heap.push (seqObj "list" #[] 0) }
  unfold Builtin.List.listExtendWith
  have ho' : (s.heap.push (seqObj "list" #[] 0)).get? l = some o := Heap.get?_push_of_some _ ho
  refine wpAny_bind (wpAny_typeOf (T := "tuple") ⟨o, ho', hc⟩ ?_)
  have ht : (Value.type "tuple" == Value.type "tuple") = true := by rfl
  rw [if_pos (by rw [ht]; simp)]
  refine wpAny_bind (listItems_at ho' hd ?_)
  refine wpAny_bind (listItems_at (xs := #[]) (n := 0) (Heap.get?_push_size _ rfl) rfl ?_)
  rw [if_neg (by simp)]
  refine wpAny_bind (listUpdate_at (xs := #[]) (n := 0) (Heap.get?_push_size _ rfl) rfl ?_ (Nat.zero_le _) (by show (#[] ++ vs.toArray).size ≤ sizeLine + 1; simp only [Array.size_append, List.size_toArray, List.length_nil]; omega))
  refine wpAny_pure ?_
  show wpAny (model prog w) A (do
      let o ← load s.heap.objs.size
      match o.data with
      | .seq xs _ => pure xs.toList
      | _ => unsupported "internal:collect") Q E { s with heap := (s.heap.push (seqObj "list" #[] 0)).update s.heap.objs.size (Obj.mapSeq (· ++ vs.toArray)) }
  refine wpAny_bind (wpAny_load (get?_update_seq (Heap.get?_push_size _ rfl) _) ?_)
  show wpAny _ _ (pure ((#[] : Array Value) ++ vs.toArray).toList) Q E _
  rw [show ((#[] : Array Value) ++ vs.toArray).toList = vs by simp]
  exact wpAny_pure h
end
end DpT
namespace SrtO
open PySem PySem.Spec PyProof.Rows
section
variable {prog : Program} {w : World} {A : Around} {E : Value → Shared → Prop} {s : Shared}
theorem sorted_ordTp {l : Addr} {vs : List Value} {ltv : Value → Value → Bool} {Q : Value → Shared → Prop} (O : Swo ltv) (hl : IsTup s.heap l vs.toArray) (hz : vs.length ≤ sizeLine)
    (hS : 2 ≤ vs.length → ∀ (h₁ : Heap) (a : Addr), h₁.get? a = some (seqObj "list" vs.toArray 0) → (∀ b o, s.heap.get? b = some o → b ≠ a ∧ h₁.get? b = some o) → SortableO prog w A.in1.in1 { s with heap := h₁ } a vs ltv)
    (h : ∀ out : List Value, Srtd ltv out → Stb ltv out vs → Q (.ref (s.heap.objs.size + 1)) { s with heap := sortedAll s.heap vs out.toArray }) :
    wpAny (model prog w) A (call (.builtin "sorted") [.ref l]) Q E s := by
  refine Calls.call_function_entry kind_sorted plain_sorted entry_sorted (args_sorted1 _) ?_
  unfold Builtin.«sorted»
  refine wpAny_bind (m := checkCount "sorted" 1 1 _) (wpAny_pure ?_)
  refine wpAny_bind (DpT.collect_tup hl ?_ hz)
  refine wpAny_bind (wpAny_newList ?_ hz)
  have hsz : ((s.heap.push (seqObj "list" #[] 0)).update s.heap.objs.size (Obj.mapSeq (· ++ vs.toArray))).objs.size = s.heap.objs.size + 1 := by
    rw [Heap.size_update, size_push']
  have hoL : (((s.heap.push (seqObj "list" #[] 0)).update s.heap.objs.size (Obj.mapSeq (· ++ vs.toArray))).push (seqObj "list" vs.toArray 0)).get? (s.heap.objs.size + 1) = some (seqObj "list" vs.toArray 0) := by
    rw [← hsz]; exact Heap.get?_push_size _ rfl
  have keep : ∀ b o, s.heap.get? b = some o → b ≠ s.heap.objs.size + 1 ∧ (((s.heap.push (seqObj "list" #[] 0)).update s.heap.objs.size (Obj.mapSeq (· ++ vs.toArray))).push (seqObj "list" vs.toArray 0)).get? b = some o := fun b o q => by
    have hlt : b < s.heap.objs.size := Heap.lt_size q
    refine ⟨Nat.ne_of_lt (Nat.lt_succ_of_lt hlt), Heap.get?_push_of_some _ ?_⟩
    rw [Heap.get?_update_ne _ _ _ _ (Nat.ne_of_lt hlt)]
    exact Heap.get?_push_of_some _ q
  show wpAny _ _ _ _ _ { s with heap := ((s.heap.push (seqObj "list" #[] 0)).update s.heap.objs.size (Obj.mapSeq (· ++ vs.toArray))).push (seqObj "list" vs.toArray 0) }
  rw [hsz]
  refine wpAny_bind (wpAny_holding (wpAny_call_entry slot_list_sort ⟨_, hoL, rfl⟩ entry_list_sort (list_sort_ord O hoL hz (fun h2 => hS h2 _ _ hoL keep) fun out hs hb => ⟨_, rfl, ?_⟩) (args_list_sort _)))
  exact wpAny_pure ⟨_, rfl, h out hs hb⟩
end
end SrtO
namespace DpR
open PySem PySem.Spec PyProof.Rows L2
def rSortedTp (K : PySem.W.Frag) : List V → Hp → VK → Prop := fun vs H Q => ∃ (a : Addr) (ns : List Int), vs = [V.ref a] ∧ SqT K H a (ns.map V.int) ∧
  ∀ (ns' : List Int) (p : Addr), ns'.Perm ns → ns'.Pairwise (· ≤ ·) → H p = none → Q (.ref p) (upd H p (.lst (ns'.map V.int)))
theorem cr_sortedTp {X : Cx} : CallR X (.builtin "sorted") (rSortedTp X.K) := by
  intro pins s σ H vs us Q I r h
  obtain ⟨a, ns, rfl, hs, q⟩ := h
  obtain ⟨its, rv, hl, hz⟩ := I.tuple hs
  rw [Vals.ref1 r]
  have hi := rv.ints
  refine SrtO.sorted_ordTp SrtO.swo_int hl (by rw [← rv.length]; exact hz) (fun h2 h₁ a' _ _ => SrtO.ints_sortable hi h2) fun out h1 h2 => ?_
  obtain ⟨k1, k2, k3⟩ := SrtO.ints_out hi h1 h2
  obtain ⟨ep, he'⟩ := PyProof.Rows.sortedAll_at s.heap its out.toArray
  have hlen : ((out.map SrtO.iv).map V.int).length ≤ sizeLine := by
    rw [List.length_map, k2.length_eq]
    rw [List.length_map] at hz
    exact hz
  exact ⟨.ref _, upd H (s.heap.objs.size + 1) (.lst ((out.map SrtO.iv).map V.int)), I.laid (t' := s.toks) (fun _ _ => PyProof.Rows.sortedAll_old) (Nat.le_succ _) ⟨hlen, out, ep, vals_of_ints k1, he'⟩, rfl, q _ _ k2 k3 (I.hok.fresh (Nat.le_succ _))⟩
end DpR
namespace Dp
open PySem PySem.Spec PyProof.Rows L2 DpR
/-! things put in order -/
theorem desc_ext : ∀ {a b : List Nat} {n m : Nat}, Desc n a → Desc m b → (∀ x, x ∈ a ↔ x ∈ b) → a = b
  | [], [], _, _, _, _, _ => rfl
  | [], g :: r, _, _, _, _, h => absurd ((h g).mpr List.mem_cons_self) (List.not_mem_nil)
  | g :: r, [], _, _, _, _, h => absurd ((h g).mp List.mem_cons_self) (List.not_mem_nil)
  | g :: r, g' :: r', n, m, ha, hb, h => by
    have e : g = g' := by
      rcases List.mem_cons.mp ((h g).mp List.mem_cons_self) with q | q
      · exact q
      · rcases List.mem_cons.mp ((h g').mpr List.mem_cons_self) with q' | q'
        · exact q'.symm
        · have h1 := hb.2.mem g q
          have h2 := ha.2.mem g' q'
          omega
    subst e
    congr 1
    refine desc_ext ha.2 hb.2 fun x => ?_
    have hx := h x
    rw [List.mem_cons, List.mem_cons] at hx
    have n1 : g ∉ r := fun q => absurd (ha.2.mem g q) (Nat.lt_irrefl _)
    have n2 : g ∉ r' := fun q => absurd (hb.2.mem g q) (Nat.lt_irrefl _)
    constructor
    · intro q
      rcases hx.mp (.inr q) with e | e
      · subst e; exact (n1 q).elim
      · exact e
    · intro q
      rcases hx.mpr (.inr q) with e | e
      · subst e; exact (n2 q).elim
      · exact e
theorem desc_filter : ∀ {l : List Nat} {n : Nat} (p : Nat → Bool), Desc n l → Desc n (l.filter p)
  | [], _, _, _ => trivial
  | g :: r, n, p, h => by
    have ih := desc_filter p h.2
    by_cases c : p g = true
    · rw [List.filter_cons_of_pos c]
      exact ⟨h.1, ih⟩
    · rw [List.filter_cons_of_neg c]
      exact ih.mono (Nat.le_of_lt h.1)
theorem desc_pw : ∀ {l : List Nat} {n : Nat}, Desc n l → l.Pairwise (fun a b => b < a)
  | [], _, _ => .nil
  | g :: r, n, h => .cons (fun b hb => h.2.mem b hb) (desc_pw h.2)
theorem iasc_pw {l : List Nat} {n : Nat} (h : Desc n l) : (iasc l).Pairwise (· ≤ ·) := by
  unfold iasc
  rw [List.pairwise_map, List.pairwise_reverse]
  exact (desc_pw h).imp fun {a b} q => by show (Int.ofNat b) ≤ Int.ofNat a; exact Int.ofNat_le.mpr (Nat.le_of_lt q)
/-- what is sorted of things: the pick that has just them -/
theorem sorted_is {n : Nat} {es l : List Nat} {ns : List Int} (he : Desc n es) (nd : l.Nodup) (hm : ∀ x, x ∈ l ↔ x ∈ es) (hp : ns.Perm (l.map Int.ofNat)) (hs : ns.Pairwise (· ≤ ·)) : ns.map V.int = asc es := by
  have p1 : l.Perm es := (List.perm_ext_iff_of_nodup nd he.nodup).mpr hm
  have p2 : ns.Perm (iasc es) := hp.trans ((p1.map _).trans (by unfold iasc; exact (es.reverse_perm.symm.map _)))
  have e : ns = iasc es := List.Perm.eq_of_pairwise (fun a b _ _ h1 h2 => Int.le_antisymm h1 h2) hs (iasc_pw he) p2
  rw [e, ← asc_iasc]
end Dp
/-! rows of counts: how many, their order -/
namespace Dp
def sm (f : Nat → Nat) : Nat → Nat
  | 0 => 0
  | n + 1 => sm f n + f n
theorem sm_congr {f g : Nat → Nat} : ∀ {n : Nat}, (∀ i, i < n → f i = g i) → sm f n = sm g n
  | 0, _ => rfl
  | n + 1, h => by
    show sm f n + f n = sm g n + g n
    rw [sm_congr (n := n) (fun i hi => h i (by omega)), h n (by omega)]
theorem sm_zero : ∀ n : Nat, sm (fun _ => 0) n = 0
  | 0 => rfl
  | n + 1 => by show sm _ n + 0 = 0; rw [sm_zero n]
theorem sm_add (f g : Nat → Nat) : ∀ n : Nat, sm (fun i => f i + g i) n = sm f n + sm g n
  | 0 => rfl
  | n + 1 => by
    show sm _ n + (f n + g n) = (sm f n + f n) + (sm g n + g n)
    rw [sm_add f g n]; omega
theorem sm_swap (F : Nat → Nat → Nat) (m : Nat) : ∀ n : Nat, sm (fun i => sm (fun j => F i j) m) n = sm (fun j => sm (fun i => F i j) n) m
  | 0 => (sm_zero m).symm
  | n + 1 => by
    show sm _ n + sm (fun j => F n j) m = _
    rw [sm_swap F m n, ← sm_add]
    rfl
theorem sm_mono {f : Nat → Nat} {a b : Nat} (h : a ≤ b) : sm f a ≤ sm f b := by
  induction b with
  | zero =>
    have : a = 0 := by omega
    subst this
    exact Nat.le_refl _
  | succ b ih =>
    by_cases e : a = b + 1
    · rw [e]; exact Nat.le_refl _
    · exact Nat.le_trans (ih (by omega)) (Nat.le_add_right _ _)
/-- one kind more, of at most c things -/
def ks (c : Nat) (g : Nat → Nat) : Nat → Nat := fun s => sm (fun i => if i ≤ s then g (s - i) else 0) (c + 1)
def kb : Nat → Nat := fun s => if s = 0 then 1 else 0
/-- how many rows there are -/
def kw : List Nat → Nat → Nat
  | [] => kb
  | c :: cs => ks c (kw cs)
theorem ks_comm (c d : Nat) (g : Nat → Nat) : ks c (ks d g) = ks d (ks c g) := by
  have key : ∀ (c d s : Nat), ks c (ks d g) s = sm (fun i => sm (fun j => if i + j ≤ s then g (s - (i + j)) else 0) (d + 1)) (c + 1) := by
    intro c d s
    refine sm_congr fun i hi => ?_
    by_cases h : i ≤ s
    · rw [if_pos h]
      refine sm_congr fun j hj => ?_
      by_cases h2 : i + j ≤ s
      · rw [if_pos h2, if_pos (by omega)]
        congr 1
        omega
      · rw [if_neg h2, if_neg (by omega)]
    · rw [if_neg h]
      refine ((sm_congr (g := fun _ => 0) fun j hj => ?_).trans (sm_zero _)).symm
      rw [if_neg (by omega)]
  funext s
  rw [key c d s, key d c s, sm_swap]
  refine sm_congr fun i hi => sm_congr fun j hj => ?_
  rw [Nat.add_comm]
theorem kw_perm {a b : List Nat} (h : a.Perm b) : kw a = kw b := by
  induction h with
  | nil => rfl
  | cons x _ ih => show ks x _ = ks x _; rw [ih]
  | swap x y l => exact ks_comm y x (kw l)
  | trans _ _ i1 i2 => exact i1.trans i2
theorem kw_fold : ∀ (cs ds : List Nat), cs.foldl (fun g c => ks c g) (kw ds) = kw (cs.reverse ++ ds)
  | [], ds => rfl
  | c :: cs, ds => by
    show cs.foldl _ (ks c (kw ds)) = _
    have e : ks c (kw ds) = kw (c :: ds) := rfl
    rw [e, kw_fold cs (c :: ds), List.reverse_cons, List.append_assoc]
    rfl
/-- counted kind by kind, from the first on -/
theorem kw_run (cs : List Nat) : cs.foldl (fun g c => ks c g) kb = kw cs := by
  have h := kw_fold cs []
  rw [List.append_nil] at h
  exact h.trans (kw_perm cs.reverse_perm)
/-- a row of the counts, of a size -/
def IsRw : List Nat → Nat → List Nat → Prop
  | [], s, [] => s = 0
  | c :: cs, s, r :: rs => r ≤ c ∧ r ≤ s ∧ IsRw cs (s - r) rs
  | _, _, _ => False
theorem IsRw.len : ∀ {cs : List Nat} {s : Nat} {rs : List Nat}, IsRw cs s rs → rs.length = cs.length
  | [], _, [], _ => rfl
  | c :: cs, s, r :: rs, h => by show rs.length + 1 = cs.length + 1; rw [h.2.2.len]
  | [], _, _ :: _, h => h.elim
  | _ :: _, _, [], h => h.elim
theorem IsRw.sum : ∀ {cs : List Nat} {s : Nat} {rs : List Nat}, IsRw cs s rs → rs.sum = s
  | [], _, [], h => (show _ = 0 from h).symm
  | c :: cs, s, r :: rs, h => by
    rw [List.sum_cons, h.2.2.sum]
    have := h.2.1
    omega
  | [], _, _ :: _, h => h.elim
  | _ :: _, _, [], h => h.elim
/-- a row is one where each count is within its kind's, and the size is right -/
theorem isRw_of : ∀ {cs rs : List Nat}, rs.length = cs.length → (∀ (i c r : Nat), cs[i]? = some c → rs[i]? = some r → r ≤ c) → IsRw cs rs.sum rs
  | [], [], _, _ => rfl
  | c :: cs, r :: rs, hl, h => by
    refine ⟨h 0 c r rfl rfl, by rw [List.sum_cons]; omega, ?_⟩
    have e : (r :: rs).sum - r = rs.sum := by rw [List.sum_cons]; omega
    rw [e]
    exact isRw_of (by simpa using hl) fun i c' r' h1 h2 => h (i + 1) c' r' h1 h2
  | [], _ :: _, hl, _ => by simp at hl
  | _ :: _, [], hl, _ => by simp at hl
theorem IsRw.le : ∀ {cs : List Nat} {s : Nat} {rs : List Nat}, IsRw cs s rs → ∀ (i c r : Nat), cs[i]? = some c → rs[i]? = some r → r ≤ c
  | [], _, [], _, _, _, _, h1, _ => by simp at h1
  | c :: cs, s, r :: rs, h, 0, c', r', h1, h2 => by
    cases h1
    cases h2
    exact h.1
  | c :: cs, s, r :: rs, h, i + 1, c', r', h1, h2 => h.2.2.le i c' r' h1 h2
  | [], _, _ :: _, h, _, _, _, _, _ => h.elim
  | _ :: _, _, [], h, _, _, _, _, _ => h.elim
/-- how many rows begin with just so many of the first kind -/
def kf (cs : List Nat) (s : Nat) : Nat → Nat := fun i => if i ≤ s then kw cs (s - i) else 0
theorem kw_cons (c : Nat) (cs : List Nat) (s : Nat) : kw (c :: cs) s = sm (kf cs s) (c + 1) := rfl
/-- a row's number -/
def krk : List Nat → Nat → List Nat → Nat
  | _ :: cs, s, r :: rs => sm (kf cs s) r + krk cs (s - r) rs
  | _, _, _ => 0
theorem krk_lt : ∀ {cs : List Nat} {s : Nat} {rs : List Nat}, IsRw cs s rs → krk cs s rs < kw cs s
  | [], s, [], h => by
    have e : s = 0 := h
    subst e
    show 0 < kb 0
    decide
  | c :: cs, s, r :: rs, h => by
    have ih := krk_lt h.2.2
    show sm (kf cs s) r + krk cs (s - r) rs < sm (kf cs s) (c + 1)
    have e : kf cs s r = kw cs (s - r) := if_pos h.2.1
    have m : sm (kf cs s) (r + 1) ≤ sm (kf cs s) (c + 1) := sm_mono (by have := h.1; omega)
    have x : sm (kf cs s) (r + 1) = sm (kf cs s) r + kf cs s r := rfl
    omega
  | [], _, _ :: _, h => h.elim
  | _ :: _, _, [], h => h.elim
/-- the head of a row by its number -/
theorem krk_head {c : Nat} {cs : List Nat} {s r : Nat} {rs : List Nat} (h : IsRw (c :: cs) s (r :: rs)) : sm (kf cs s) r ≤ krk (c :: cs) s (r :: rs) ∧ krk (c :: cs) s (r :: rs) < sm (kf cs s) (r + 1) := by
  have ih := krk_lt h.2.2
  have e : kf cs s r = kw cs (s - r) := if_pos h.2.1
  have x : sm (kf cs s) (r + 1) = sm (kf cs s) r + kf cs s r := rfl
  show sm (kf cs s) r ≤ sm (kf cs s) r + krk cs (s - r) rs ∧ sm (kf cs s) r + krk cs (s - r) rs < sm (kf cs s) (r + 1)
  omega
/-- rows stand as their numbers do -/
def lexN : List Nat → List Nat → Prop
  | a :: as, b :: bs => a < b ∨ (a = b ∧ lexN as bs)
  | _, _ => False
theorem krk_lex : ∀ {cs : List Nat} {s : Nat} {as bs : List Nat}, IsRw cs s as → IsRw cs s bs → lexN as bs → krk cs s as < krk cs s bs
  | [], _, [], [], _, _, h => h.elim
  | c :: cs, s, a :: as, b :: bs, ha, hb, h => by
    rcases h with h | ⟨e, h⟩
    · have ⟨_, x⟩ := krk_head ha
      have ⟨y, _⟩ := krk_head hb
      have m : sm (kf cs s) (a + 1) ≤ sm (kf cs s) b := sm_mono h
      omega
    · subst e
      have := krk_lex ha.2.2 hb.2.2 h
      show sm (kf cs s) a + krk cs (s - a) as < sm (kf cs s) a + krk cs (s - a) bs
      omega
  | [], _, _ :: _, _, h, _, _ => h.elim
  | [], _, [], _ :: _, _, h, _ => h.elim
  | _ :: _, _, [], _, h, _, _ => h.elim
  | _ :: _, _, _ :: _, [], _, h, _ => h.elim
theorem lex_tri : ∀ {as bs : List Nat}, as.length = bs.length → lexN as bs ∨ as = bs ∨ lexN bs as
  | [], [], _ => .inr (.inl rfl)
  | a :: as, b :: bs, h => by
    rcases Nat.lt_trichotomy a b with c | c | c
    · exact .inl (.inl c)
    · subst c
      rcases lex_tri (as := as) (bs := bs) (by simpa using h) with d | d | d
      · exact .inl (.inr ⟨rfl, d⟩)
      · exact .inr (.inl (by rw [d]))
      · exact .inr (.inr (.inr ⟨rfl, d⟩))
    · exact .inr (.inr (.inl c))
  | [], _ :: _, h => by simp at h
  | _ :: _, [], h => by simp at h
theorem krk_inj {cs : List Nat} {s : Nat} {as bs : List Nat} (ha : IsRw cs s as) (hb : IsRw cs s bs) (h : krk cs s as = krk cs s bs) : as = bs := by
  rcases lex_tri (ha.len.trans hb.len.symm) with d | d | d
  · have := krk_lex ha hb d
    omega
  · exact d
  · have := krk_lex hb ha d
    omega
theorem krk_lex_iff {cs : List Nat} {s : Nat} {as bs : List Nat} (ha : IsRw cs s as) (hb : IsRw cs s bs) : lexN as bs ↔ krk cs s as < krk cs s bs := by
  constructor
  · exact krk_lex ha hb
  · intro h
    rcases lex_tri (ha.len.trans hb.len.symm) with d | d | d
    · exact d
    · rw [d] at h; omega
    · have := krk_lex hb ha d
      omega
/-- the last place whose sum ahead is no more than k -/
def pkf (f : Nat → Nat) (k : Nat) : Nat → Nat
  | 0 => 0
  | n + 1 => if sm f (n + 1) ≤ k then n + 1 else pkf f k n
theorem pkf_spec {f : Nat → Nat} {k : Nat} : ∀ n : Nat, k < sm f (n + 1) → pkf f k n ≤ n ∧ sm f (pkf f k n) ≤ k ∧ k < sm f (pkf f k n + 1)
  | 0, h => ⟨Nat.le_refl _, Nat.zero_le _, h⟩
  | n + 1, h => by
    show pkf f k (n + 1) ≤ n + 1 ∧ _
    by_cases c : sm f (n + 1) ≤ k
    · have e : pkf f k (n + 1) = n + 1 := if_pos c
      rw [e]
      exact ⟨Nat.le_refl _, c, h⟩
    · have e : pkf f k (n + 1) = pkf f k n := if_neg c
      rw [e]
      have ⟨x, y, z⟩ := pkf_spec (f := f) (k := k) n (by omega)
      exact ⟨Nat.le_succ_of_le x, y, z⟩
theorem pkf_one {f : Nat → Nat} {k a b : Nat} (h1 : sm f a ≤ k) (h2 : k < sm f (a + 1)) (h3 : sm f b ≤ k) (h4 : k < sm f (b + 1)) : a = b := by
  rcases Nat.lt_trichotomy a b with h | h | h
  · have := sm_mono (f := f) (show a + 1 ≤ b from h)
    omega
  · exact h
  · have := sm_mono (f := f) (show b + 1 ≤ a from h)
    omega
/-- the row of a number -/
def kun : List Nat → Nat → Nat → List Nat
  | [], _, _ => []
  | c :: cs, s, k => pkf (kf cs s) k c :: kun cs (s - pkf (kf cs s) k c) (k - sm (kf cs s) (pkf (kf cs s) k c))
theorem kun_spec : ∀ (cs : List Nat) (s k : Nat), k < kw cs s → IsRw cs s (kun cs s k) ∧ krk cs s (kun cs s k) = k
  | [], s, k, h => by
    have h' : k < kb s := h
    unfold kb at h'
    by_cases e : s = 0
    · rw [if_pos e] at h'
      exact ⟨e, by show 0 = k; omega⟩
    · rw [if_neg e] at h'
      exact absurd h' (Nat.not_lt_zero _)
  | c :: cs, s, k, h => by
    obtain ⟨r, er⟩ : ∃ r, r = pkf (kf cs s) k c := ⟨_, rfl⟩
    have ⟨x, y, z⟩ := pkf_spec (f := kf cs s) (k := k) c h
    rw [← er] at x y z
    have zz : sm (kf cs s) (r + 1) = sm (kf cs s) r + kf cs s r := rfl
    have rs : r ≤ s := by
      apply Classical.byContradiction
      intro q
      have e : kf cs s r = 0 := if_neg q
      omega
    have e : kf cs s r = kw cs (s - r) := if_pos rs
    have ⟨i1, i2⟩ := kun_spec cs (s - r) (k - sm (kf cs s) r) (by omega)
    show IsRw (c :: cs) s (pkf (kf cs s) k c :: _) ∧ krk (c :: cs) s (pkf (kf cs s) k c :: _) = k
    rw [← er]
    refine ⟨⟨x, rs, i1⟩, ?_⟩
    show sm (kf cs s) r + krk cs (s - r) _ = k
    rw [i2]
    omega
theorem kun_krk {cs : List Nat} {s : Nat} {rs : List Nat} (h : IsRw cs s rs) : kun cs s (krk cs s rs) = rs := by
  have ⟨a, b⟩ := kun_spec cs s _ (krk_lt h)
  exact krk_inj a h b
/-- there are rows just of the sizes up to the sum of the counts -/
theorem kw_pos : ∀ {cs : List Nat} {s : Nat}, s ≤ cs.sum → 0 < kw cs s
  | [], s, h => by
    have e : s = 0 := by simpa using h
    subst e
    decide
  | c :: cs, s, h => by
    rw [List.sum_cons] at h
    rw [kw_cons]
    obtain ⟨r, hr1, hr2, hr3⟩ : ∃ r, r ≤ c ∧ r ≤ s ∧ s - r ≤ cs.sum := ⟨min c s, by omega, by omega, by omega⟩
    have p := kw_pos hr3
    have e : kf cs s r = kw cs (s - r) := if_pos hr2
    have m : sm (kf cs s) (r + 1) ≤ sm (kf cs s) (c + 1) := sm_mono (by omega)
    have x : sm (kf cs s) (r + 1) = sm (kf cs s) r + kf cs s r := rfl
    omega
theorem kw_above : ∀ {cs : List Nat} {s : Nat}, cs.sum < s → kw cs s = 0
  | [], s, h => by
    show kb s = 0
    unfold kb
    rw [if_neg (by simp at h; omega)]
  | c :: cs, s, h => by
    rw [List.sum_cons] at h
    rw [kw_cons, ← sm_zero (c + 1)]
    refine sm_congr fun i hi => ?_
    unfold kf
    by_cases q : i ≤ s
    · rw [if_pos q]; exact kw_above (by omega)
    · rw [if_neg q]
/-- the least row: as few as can be of the first kinds -/
def kle : List Nat → Nat → List Nat
  | [], _ => []
  | _ :: cs, s => (s - cs.sum) :: kle cs (s - (s - cs.sum))
theorem kle_spec : ∀ {cs : List Nat} {s : Nat}, s ≤ cs.sum → IsRw cs s (kle cs s) ∧ krk cs s (kle cs s) = 0
  | [], s, h => ⟨(by have e : s = 0 := by simpa using h
                     exact e), rfl⟩
  | c :: cs, s, h => by
    rw [List.sum_cons] at h
    have ⟨a, b⟩ := kle_spec (cs := cs) (s := s - (s - cs.sum)) (by omega)
    refine ⟨⟨by omega, by omega, a⟩, ?_⟩
    show sm (kf cs s) (s - cs.sum) + krk cs (s - (s - cs.sum)) (kle cs (s - (s - cs.sum))) = 0
    rw [b, Nat.add_zero, ← sm_zero (s - cs.sum)]
    refine sm_congr fun i hi => ?_
    unfold kf
    rw [if_pos (by omega)]
    exact kw_above (by omega)
theorem sm_flat {f : Nat → Nat} {a : Nat} : ∀ {b : Nat}, a ≤ b → (∀ i, a ≤ i → i < b → f i = 0) → sm f b = sm f a
  | 0, h, _ => by
    have : a = 0 := by omega
    rw [this]
  | b + 1, h, z => by
    by_cases e : a = b + 1
    · rw [e]
    · show sm f b + f b = sm f a
      rw [sm_flat (b := b) (by omega) (fun i h1 h2 => z i h1 (by omega)), z b (by omega) (by omega), Nat.add_zero]
theorem IsRw.sum_le : ∀ {cs : List Nat} {s : Nat} {rs : List Nat}, IsRw cs s rs → s ≤ cs.sum
  | [], s, [], h => by
    have e : s = 0 := h
    rw [e]
    exact Nat.zero_le _
  | c :: cs, s, r :: rs, h => by
    have := h.2.2.sum_le
    have h1 := h.1
    have h2 := h.2.1
    rw [List.sum_cons]
    omega
  | [], _, _ :: _, h => h.elim
  | _ :: _, _, [], h => h.elim
/-- the row behind a row -/
def knx : List Nat → List Nat → Option (List Nat)
  | c :: cs, r :: rs => match knx cs rs with
    | some t => some (r :: t)
    | none => if r < c ∧ 1 ≤ rs.sum then some ((r + 1) :: kle cs (rs.sum - 1)) else none
  | _, _ => none
theorem knx_spec : ∀ {cs : List Nat} {s : Nat} {rs : List Nat}, IsRw cs s rs →
    (knx cs rs = none → krk cs s rs + 1 = kw cs s) ∧ (∀ t, knx cs rs = some t → IsRw cs s t ∧ krk cs s t = krk cs s rs + 1)
  | [], s, [], h => by
    have e : s = 0 := h
    subst e
    exact ⟨fun _ => rfl, fun t ht => by cases ht⟩
  | c :: cs, s, r :: rs, h => by
    have ⟨i1, i2⟩ := knx_spec h.2.2
    have hs := h.2.2.sum
    have hle := h.2.2.sum_le
    have e0 : kf cs s r = kw cs (s - r) := if_pos h.2.1
    have x : sm (kf cs s) (r + 1) = sm (kf cs s) r + kf cs s r := rfl
    have ek : krk (c :: cs) s (r :: rs) = sm (kf cs s) r + krk cs (s - r) rs := rfl
    have hrc := h.1
    have hrs := h.2.1
    cases e : knx cs rs with
    | some t =>
      have ek2 : knx (c :: cs) (r :: rs) = some (r :: t) := by show (match knx cs rs with | some t => _ | none => _) = _; rw [e]
      rw [ek2]
      have ⟨a, b⟩ := i2 t e
      refine ⟨fun z => (nomatch z), fun t' ht => ?_⟩
      cases ht
      refine ⟨⟨h.1, h.2.1, a⟩, ?_⟩
      show sm (kf cs s) r + krk cs (s - r) t = _
      rw [b, ek]
      omega
    | none =>
      have ek2 : knx (c :: cs) (r :: rs) = if r < c ∧ 1 ≤ rs.sum then some ((r + 1) :: kle cs (rs.sum - 1)) else none := by show (match knx cs rs with | some t => _ | none => _) = _; rw [e]
      have n1 := i1 e
      rw [ek2]
      by_cases q : r < c ∧ 1 ≤ rs.sum
      · rw [if_pos q]
        refine ⟨fun z => (nomatch z), fun t' ht => ?_⟩
        cases ht
        have es : rs.sum - 1 = s - (r + 1) := by omega
        rw [es]
        have ⟨a, b⟩ := kle_spec (cs := cs) (s := s - (r + 1)) (by omega)
        refine ⟨⟨by omega, by omega, a⟩, ?_⟩
        show sm (kf cs s) (r + 1) + krk cs (s - (r + 1)) _ = _
        rw [b, ek]
        omega
      · rw [if_neg q]
        refine ⟨fun _ => ?_, fun t' ht => by cases ht⟩
        rw [ek, kw_cons]
        have fl : sm (kf cs s) (c + 1) = sm (kf cs s) (r + 1) := sm_flat (by omega) fun i h1 h2 => by
          by_cases rc : r < c
          · have : rs.sum = 0 := by omega
            exact if_neg (by omega)
          · omega
        omega
  | [], _, _ :: _, h => h.elim
  | _ :: _, _, [], h => h.elim
/-- as the law looks for it: the last place that may be raised -/
def upAt (cs rs : List Nat) (k : Nat) : Prop := ∃ c r, cs[k]? = some c ∧ rs[k]? = some r ∧ r < c ∧ 1 ≤ (rs.drop (k + 1)).sum
theorem knx_none : ∀ {cs rs : List Nat}, rs.length = cs.length → (∀ k, ¬ upAt cs rs k) → knx cs rs = none
  | [], [], _, _ => rfl
  | c :: cs, r :: rs, hl, h => by
    have ih := knx_none (cs := cs) (rs := rs) (by simpa using hl) fun k ⟨c', r', h1, h2, h3⟩ => h (k + 1) ⟨c', r', h1, h2, h3⟩
    show (match knx cs rs with | some t => _ | none => _) = _
    rw [ih]
    exact if_neg fun q => h 0 ⟨c, r, rfl, rfl, q.1, q.2⟩
  | [], _ :: _, hl, _ => by simp at hl
  | _ :: _, [], hl, _ => by simp at hl
theorem knx_some : ∀ {cs rs : List Nat} {k : Nat}, rs.length = cs.length → upAt cs rs k → (∀ j, k < j → ¬ upAt cs rs j) →
    ∃ r, rs[k]? = some r ∧ knx cs rs = some (rs.take k ++ (r + 1) :: kle (cs.drop (k + 1)) ((rs.drop (k + 1)).sum - 1))
  | c :: cs, r :: rs, 0, hl, ⟨c', r', h1, h2, h3, h4⟩, hn => by
    cases h1
    cases h2
    have ih := knx_none (cs := cs) (rs := rs) (by simpa using hl) fun j ⟨c', r', a1, a2, a3⟩ => hn (j + 1) (Nat.succ_pos _) ⟨c', r', a1, a2, a3⟩
    refine ⟨r, rfl, ?_⟩
    show (match knx cs rs with | some t => _ | none => _) = _
    rw [ih]
    exact if_pos ⟨h3, h4⟩
  | c :: cs, r :: rs, k + 1, hl, ⟨c', r', h1, h2, h3⟩, hn => by
    obtain ⟨r2, e1, e2⟩ := knx_some (cs := cs) (rs := rs) (k := k) (by simpa using hl) ⟨c', r', h1, h2, h3⟩ fun j hj ⟨c', r', a1, a2, a3⟩ => hn (j + 1) (by omega) ⟨c', r', a1, a2, a3⟩
    refine ⟨r2, e1, ?_⟩
    show (match knx cs rs with | some t => _ | none => _) = _
    rw [e2]
    rfl
  | [], _, _, _, ⟨_, _, h, _⟩, _ => by simp at h
  | _ :: _, [], _, _, ⟨_, _, _, h, _⟩, _ => by simp at h
end Dp
/-! sum(t), t a tuple of ints -/
namespace DpT
open PySem PySem.Spec PyProof.Rows HT L2
section
variable {prog : Program} {w : World} {A : Around} {E : Value → Shared → Prop} {s : Shared} {l : Addr} {xs : Array (Int × Tok)} {its : List Value} {ns : List Int} {Q : Value → Shared → Prop}
theorem sum_tupG (hh : A.handled = none) (hl : s.heap.IsTuple l (intItems xs))
    (h : ∀ h' tk t', (∀ b o, s.heap.get? b = some o → h'.get? b = some o) → Q (.int (preSum (numAt xs) xs.size) t') { s with heap := h', toks := tk }) :
    wpAny (model prog w) A (call (.builtin "sum") [.ref l]) Q E s := by
  have hlt : l < s.heap.objs.size := by obtain ⟨_, e, _⟩ := hl; exact Heap.lt_size e
  refine call_sum_walkG (wpAny_pyIter_tuple hl ?_)
  refine ⟨_, _, _, _, _, _, numAt xs, rfl, Walks.tuple (A := A.in1) hh _ l (Nat.ne_of_lt hlt) (intItems xs), ⟨⟨_, Heap.get?_push_size _ rfl, rfl, rfl⟩, hl.push _⟩, fun b hb => ?_, (fun _ _ => intItems_at), fun h' tk t' hk => ?_⟩
  · show b < (s.heap.push _).objs.size
    rw [Heap.size_push]
    rcases List.mem_cons.mp hb with e | e
    · subst e; exact Nat.lt_succ_self _
    · rw [List.mem_singleton] at e
      subst e
      exact Nat.lt_succ_of_lt hlt
  · have := h h' tk t' (fun b o e => hk b o (by
      intro q
      rw [List.mem_singleton] at q
      subst q
      exact absurd (Heap.lt_size e) (Nat.lt_irrefl _)) (Heap.get?_push_of_some _ e))
    simpa [intItems] using this
theorem sum_rawT (hh : A.handled = none) (hl : IsTup s.heap l its.toArray) (hi : IntsAre its ns)
    (h : ∀ h' tk t', (∀ b o, s.heap.get? b = some o → h'.get? b = some o) → Q (.int ns.sum t') { s with heap := h', toks := tk }) : wpAny (model prog w) A (call (.builtin "sum") [.ref l]) Q E s := by
  obtain ⟨xs, e⟩ := hi.allInts.items
  have hn : numsOf (intItems xs).toList = ns := by rw [← e]; exact hi.numsOf
  rw [nums_intItems] at hn
  rw [e] at hl
  obtain ⟨o, h1, h2, n, h3⟩ := hl
  refine sum_tupG hh ⟨o, h1, h2, n, h3⟩ fun h' tk t' hk => ?_
  have := h h' tk t' hk
  rw [preSum_eq, List.take_of_length_le (by simp), hn]; exact this
end
end DpT
namespace DpR
open PySem PySem.Spec PyProof.Rows L2
def rSumT (K : PySem.W.Frag) : List V → Hp → VK → Prop := fun vs H Q => ∃ (a : Addr) (ns : List Int), vs = [V.ref a] ∧ SqT K H a (ns.map V.int) ∧ Q (.int ns.sum) H
theorem cr_sumT {X : Cx} (hc : X.calm = true) : CallR X (.builtin "sum") (rSumT X.K) := by
  intro pins s σ H vs us Q I r h
  obtain ⟨a, ns, rfl, hs, q⟩ := h
  obtain ⟨its, rv, hl, _⟩ := I.tuple hs
  rw [Vals.ref1 r]
  exact DpT.sum_rawT (I.ok.hd hc) hl rv.ints fun h' tk t' hk => ⟨.int _, H, I.kept hk, ⟨_, rfl⟩, q⟩
end DpR
/-! C(..) in a try: the refusal is wished for at the caller's slots -/
namespace DpR
open PySem PySem.Spec PyProof.Rows L2
section
variable {X : Cx} {CX : CXT} {k : Nat} {f C : Addr} {fd : FuncData} {ps : List Str} {sp : Sp} {E : L2.St → XK} {x : Str} {p pos : Pos} {e : Expr} {es : List Expr} {t : TA}
def tMakeE (C : Addr) (sp : Sp) (E : L2.St → XK) (t : TA) : TE := fun σ H Q => t σ H fun vs H1 => ∀ x dx, H1 x = none → H1 dx = none → dx ≠ x →
  sp (.ref x :: vs) (upd (upd H1 dx (.own x)) x (.ins C dx [])) (fun v H2 => v = .non ∧ Q (.ref x) H2) (E σ)
theorem run_makeE {pins : List (Addr × Obj)} {σ : L2.St} {H : Hp} {s : Shared} {Q : VK} {us : List Value} {vs : List V} (M : Mk X.K C f) (F : FnOk X.prog X.w X.K X.mg X.base CX k f fd ps sp) (hr : Room (k + 1) X.A) (hb : Binds X.K fd ps [])
    (hx : PassesAt CX X σ (E σ)) (I : Inv X pins σ H s) (r : Vals vs us)
    (h : ∀ x dx, H x = none → H dx = none → dx ≠ x → sp (.ref x :: vs) (upd (upd H dx (.own x)) x (.ins C dx [])) (fun v H2 => v = .non ∧ Q (.ref x) H2) (E σ)) :
    wpAny (model X.prog X.w) X.A (call (.ref C) us) (EP X pins σ Q) X.xe s := by
  have hq := h (s.heap.objs.size + 1) s.heap.objs.size (I.hok.fresh (Nat.le_succ _)) (I.hok.fresh (Nat.le_refl _)) (Nat.ne_of_lt (Nat.lt_succ_self _))
  have I2 := Inv.made (C := C) I
  have r2 : Vals (V.ref (s.heap.objs.size + 1) :: vs) (Value.ref (s.heap.objs.size + 1) :: us) := .cons rfl r
  have hl : (Value.ref (s.heap.objs.size + 1) :: us ++ []).length = ps.length := by
    have e := r2.length
    rw [F.len _ _ _ _ hq] at e
    rw [List.append_nil]
    exact e.symm
  refine wpAny_call (make_map (f := f) I.kIn M.makes M.init (beq_iff_eq.mp M.fn) (codeAny_mono (F.run _ X.stack _ _ ⟨Value.ref (s.heap.objs.size + 1) :: us, []⟩ (Value.ref (s.heap.objs.size + 1) :: us) _ _ (E σ) (hr.make C us [])
    (I2.env0.make C us []) (by have b := hb _ (Value.ref (s.heap.objs.size + 1) :: us) I2.kIn hl; rw [List.append_nil] at b; exact b) r2 hq) fun r s' hq' => ?_))
  cases r with
  | error e => exact hx pins _ _ e s' I2 hq'
  | ok fl =>
    cases fl with
    | ret u =>
      obtain ⟨v, H', I3, rv, ev, q3⟩ := I2.after hq'
      subst ev
      exact ⟨rv, ⟨V.ref (s.heap.objs.size + 1), H', I3, rfl, q3⟩⟩
    | next => exact False.elim hq'
    | brk => exact False.elim hq'
    | cont => exact False.elim hq'
theorem pe_makeE (M : Mk X.K C f) (F : FnOk X.prog X.w X.K X.mg X.base CX k f fd ps sp) (hr : Room (k + 1) X.A) (hg : Gl X x) (hm : X.mg x = some (.ref C)) (hb : Binds X.K fd ps []) (hx : ∀ σ, PassesAt CX X σ (E σ))
    (ha : PA X (e :: es) t) (hdb : (x == ("__debug__" : Str)) = false := by decide) (he : starEach (e :: es) X.env = (false, eval e X.env) :: starEach es X.env := by rfl) (hpl : (backTo pos (starEach es X.env)).any (·.1) = false := by rfl) :
    PE X (.Call (.Name x p) (e :: es) [] pos) (tMakeE C sp E t) := by
  refine ⟨fun pins s σ H Q I h => ?_⟩
  refine wpAny_Call_Name_kw (ld_glob I hg hm ?_ hdb)
  refine PySem.W.callWith_K (h₀ := X.base) I.ok.mod.kin M.kp (thn (ha.run pos pins s σ H _ I h) fun us s1 ⟨vs, H1, I1, r, q⟩ => ⟨I1.kIn, ?_⟩) he hpl
  exact run_makeE M F hr hb (hx σ) I1 r q
end
end DpR
/-! the clean laying out of a set's table finds a slot for each -/
namespace DpR
open PySem PySem.Spec PyProof.Rows L2
def lstep (m i : Nat) : Nat := (i * 5 + 1) % (m + 1)
def lit (m : Nat) : Nat → Nat → Nat
  | 0, i => i
  | t + 1, i => lit m t (lstep m i)
def lorb (m : Nat) : Nat → Nat → List Nat
  | 0, _ => []
  | n + 1, i => i :: lorb m n (lstep m i)
theorem lit_add (m : Nat) : ∀ a b i, lit m (a + b) i = lit m b (lit m a i)
  | 0, b, i => by rw [Nat.zero_add]; rfl
  | a + 1, b, i => by
    have e : a + 1 + b = (a + b) + 1 := by omega
    rw [e]
    show lit m (a + b) (lstep m i) = lit m b (lit m a (lstep m i))
    exact lit_add m a b _
theorem lorb_lit (m : Nat) : ∀ n i j, j ∈ lorb m n i → ∃ t, t < n ∧ lit m t i = j
  | 0, i, j, h => by simp [lorb] at h
  | n + 1, i, j, h => by
    rcases List.mem_cons.mp h with e | e
    · exact ⟨0, by omega, e.symm⟩
    · obtain ⟨t, ht, q⟩ := lorb_lit m n _ j e
      exact ⟨t + 1, by omega, q⟩
def GoodMask (m : Nat) : Prop := (∀ j, j ≤ m → j ∈ lorb m (m + 1) 0) ∧ lit m (m + 1) 0 = 0
def goodMask (m : Nat) : Bool := (List.range (m + 1)).all (fun j => (lorb m (m + 1) 0).contains j) && lit m (m + 1) 0 == 0
theorem goodMask_of {m : Nat} (h : goodMask m = true) : GoodMask m := by
  unfold goodMask at h
  rw [Bool.and_eq_true, List.all_eq_true, beq_iff_eq] at h
  refine ⟨fun j hj => ?_, h.2⟩
  have q := h.1 j (List.mem_range.mpr (by omega))
  simpa using q
theorem good_masks : ∀ m ∈ [7, 15, 31, 63, 127, 255, 511], goodMask m = true := by decide +kernel
theorem reach {m : Nat} (g : GoodMask m) {i j : Nat} (hi : i ≤ m) (hj : j ≤ m) : ∃ t, t ≤ m ∧ lit m t i = j := by
  obtain ⟨a, ha, ea⟩ := lorb_lit m _ _ _ (g.1 i hi)
  obtain ⟨b, hb, eb⟩ := lorb_lit m _ _ _ (g.1 j hj)
  by_cases c : a ≤ b
  · refine ⟨b - a, by omega, ?_⟩
    rw [← ea, ← lit_add, ← eb]
    congr 1
    omega
  · refine ⟨m + 1 - a + b, by omega, ?_⟩
    rw [← ea, ← lit_add]
    have e : a + (m + 1 - a + b) = (m + 1) + b := by omega
    rw [e, lit_add, g.2, eb]
theorem runEnd_ge (m i : Nat) : i ≤ SetTable.runEnd m i := by unfold SetTable.runEnd; split <;> omega
theorem free_isNone {m : Nat} {owner : Array (Option Nat)} : ∀ (fuel i p j : Nat), SetTable.layClean.free m owner fuel i p = some j → (owner.getD j (some 0)).isNone = true
  | 0, i, p, j, h => by cases h
  | fuel + 1, i, p, j, h => by
    unfold SetTable.layClean.free at h
    cases hf : (List.range (SetTable.runEnd m i + 1 - i)).find? fun k => (owner.getD (i + k) (some 0)).isNone with
    | some k =>
      rw [hf] at h
      have e : i + k = j := Option.some.inj h
      have q := List.find?_some hf
      rw [← e]
      exact q
    | none =>
      rw [hf] at h
      exact free_isNone fuel _ _ j h
theorem free_reach {m : Nat} {owner : Array (Option Nat)} {j0 : Nat} (hj : (owner.getD j0 (some 0)).isNone = true) : ∀ (t fuel i : Nat), t < fuel → lit m t i = j0 → ∃ j, SetTable.layClean.free m owner fuel i 0 = some j
  | t, 0, i, h, _ => absurd h (Nat.not_lt_zero _)
  | t, fuel + 1, i, h, e => by
    unfold SetTable.layClean.free
    cases hf : (List.range (SetTable.runEnd m i + 1 - i)).find? fun k => (owner.getD (i + k) (some 0)).isNone with
    | some k => exact ⟨_, rfl⟩
    | none =>
      cases t with
      | zero =>
        have q := List.find?_eq_none.mp hf 0 (List.mem_range.mpr (by have := runEnd_ge m i; omega))
        have e' : i = j0 := e
        rw [Nat.add_zero, e', hj] at q
        exact absurd rfl q
      | succ t =>
        refine free_reach hj t fuel (SetTable.leap m i 0).1 (by omega) ?_
        have e2 : (SetTable.leap m i 0).1 = lstep m i := rfl
        rw [e2]
        exact e
theorem free_step {m : Nat} {owner : Array (Option Nat)} {fuel i p : Nat} (h : ∃ j, SetTable.layClean.free m owner fuel (SetTable.leap m i p).1 (SetTable.leap m i p).2 = some j) : ∃ j, SetTable.layClean.free m owner (fuel + 1) i p = some j := by
  unfold SetTable.layClean.free
  cases hf : (List.range (SetTable.runEnd m i + 1 - i)).find? fun k => (owner.getD (i + k) (some 0)).isNone with
  | some k => exact ⟨_, rfl⟩
  | none => exact h
theorem leap_le (m i p : Nat) : (SetTable.leap m i p).1 ≤ m := by
  show (i * 5 + 1 + p / 32) % (m + 1) ≤ m
  have := Nat.mod_lt (i * 5 + 1 + p / 32) (show 0 < m + 1 by omega)
  omega
theorem free_some {m : Nat} (g : GoodMask m) {owner : Array (Option Nat)} {j0 i p : Nat} (hj : (owner.getD j0 (some 0)).isNone = true) (h0 : j0 ≤ m) (hp : p < 1024) : ∃ j, SetTable.layClean.free m owner (SetTable.turns m) i p = some j := by
  have e : SetTable.turns m = (m + 13) + 1 + 1 := by unfold SetTable.turns; omega
  rw [e]
  refine free_step (free_step ?_)
  have e2 : (SetTable.leap m (SetTable.leap m i p).1 (SetTable.leap m i p).2).2 = 0 := by
    show p / 32 / 32 = 0
    omega
  rw [e2]
  obtain ⟨t, ht, q⟩ := reach g (leap_le m (SetTable.leap m i p).1 (SetTable.leap m i p).2) h0
  exact free_reach hj t _ _ (by omega) q
/-! ### all of them -/
structure Own (m k : Nat) (owner : Array (Option Nat)) : Prop where
  size : owner.size = m + 1
  perm : (owner.toList.filterMap id).Perm (List.range k)
theorem filterMap_set : ∀ (l : List (Option Nat)) (j x : Nat), l[j]? = some none → ((l.set j (some x)).filterMap id).Perm (x :: l.filterMap id)
  | [], j, x, h => by simp at h
  | a :: l, 0, x, h => by
    have e : a = none := by simpa using h
    subst e
    exact List.Perm.refl _
  | a :: l, j + 1, x, h => by
    have ih := filterMap_set l j x (by simpa using h)
    rw [List.set_cons_succ]
    cases a with
    | none => exact ih
    | some y =>
      show (y :: (l.set j (some x)).filterMap id).Perm (x :: y :: l.filterMap id)
      exact (List.Perm.cons y ih).trans (List.Perm.swap x y _)
theorem full_len : ∀ l : List (Option Nat), (∀ j : Nat, j < l.length → l[j]? ≠ some none) → (l.filterMap id).length = l.length
  | [], _ => rfl
  | none :: l, h => absurd rfl (h 0 (Nat.succ_pos _))
  | some x :: l, h => by
    show (l.filterMap id).length + 1 = l.length + 1
    rw [full_len l fun j hj => by
      have q := h (j + 1) (Nat.succ_lt_succ hj)
      simpa using q]
theorem own_free {m k : Nat} {owner : Array (Option Nat)} (h : Own m k owner) (hk : k ≤ m) : ∃ j0, j0 ≤ m ∧ (owner.getD j0 (some 0)).isNone = true := by
  apply Classical.byContradiction
  intro no
  have e : (owner.toList.filterMap id).length = owner.toList.length := full_len _ fun j hj q => no ⟨j, by
    have := h.size
    rw [Array.length_toList] at hj
    omega, by
    rw [Array.getD_eq_getD_getElem?, ← Array.getElem?_toList, q]
    rfl⟩
  rw [h.perm.length_eq, List.length_range, Array.length_toList, h.size] at e
  omega
theorem own_set {m k j : Nat} {owner : Array (Option Nat)} (h : Own m k owner) (hj : (owner.getD j (some 0)).isNone = true) : Own m (k + 1) (owner.setIfInBounds j (some k)) := by
  have q : owner.toList[j]? = some none := by
    rw [Array.getElem?_toList]
    rw [Array.getD_eq_getD_getElem?] at hj
    cases e : owner[j]? with
    | none => rw [e] at hj; cases hj
    | some o =>
      rw [e] at hj
      cases o with
      | none => rfl
      | some x => cases hj
  refine ⟨by rw [Array.size_setIfInBounds]; exact h.size, ?_⟩
  rw [Array.toList_setIfInBounds]
  refine (filterMap_set _ j k q).trans ?_
  rw [List.range_succ]
  exact (List.Perm.cons k h.perm).trans (List.perm_append_singleton k _).symm
theorem lay_go {m : Nat} (g : GoodMask m) : ∀ (hs : List Int) (owner : Array (Option Nat)) (k : Nat), Own m k owner → k + hs.length ≤ m + 1 → (∀ h ∈ hs, SetTable.bits h < 1024) →
    ∃ owner', hs.foldl (fun acc h => do
      let (owner, k) ← acc
      let j ← SetTable.layClean.free m owner (SetTable.turns m) (SetTable.bits h % (m + 1)) (SetTable.bits h)
      pure (owner.setIfInBounds j (some k), k + 1)) (some (owner, k)) = some (owner', k + hs.length) ∧ Own m (k + hs.length) owner'
  | [], owner, k, h, _, _ => ⟨owner, rfl, h⟩
  | x :: hs, owner, k, h, hl, hb => by
    have hl' : k + (hs.length + 1) ≤ m + 1 := hl
    obtain ⟨j0, h0, hj0⟩ := own_free h (by omega)
    obtain ⟨j, ej⟩ := free_some g (i := SetTable.bits x % (m + 1)) hj0 h0 (hb x List.mem_cons_self)
    obtain ⟨o', e1, e2⟩ := lay_go g hs _ (k + 1) (own_set h (free_isNone _ _ _ _ ej)) (by omega) fun y hy => hb y (List.mem_cons_of_mem _ hy)
    have ek : k + 1 + hs.length = k + (x :: hs).length := by rw [List.length_cons]; omega
    rw [ek] at e1 e2
    refine ⟨o', ?_, e2⟩
    rw [List.foldl_cons]
    have es : (do
      let (owner, k) ← some (owner, k)
      let j ← SetTable.layClean.free m owner (SetTable.turns m) (SetTable.bits x % (m + 1)) (SetTable.bits x)
      pure (owner.setIfInBounds j (some k), k + 1) : Option (Array (Option Nat) × Nat)) = some (owner.setIfInBounds j (some k), k + 1) := by
      show (do
        let j ← SetTable.layClean.free m owner (SetTable.turns m) (SetTable.bits x % (m + 1)) (SetTable.bits x)
        pure (owner.setIfInBounds j (some k), k + 1) : Option (Array (Option Nat) × Nat)) = _
      rw [ej]
      rfl
    rw [es]
    exact e1
theorem own_start (m : Nat) : Own m 0 (Array.replicate (m + 1) none) := by
  refine ⟨by simp, ?_⟩
  have e : ((Array.replicate (m + 1) (none : Option Nat)).toList.filterMap id) = [] := by simp
  rw [e]
  exact List.Perm.refl _
theorem layClean_some {m : Nat} (g : GoodMask m) {hs : Array Int} (hl : hs.size ≤ m + 1) (hb : ∀ h ∈ hs.toList, SetTable.bits h < 1024) : ∃ owner, SetTable.layClean m hs = some owner ∧ Own m hs.size owner := by
  obtain ⟨o, e, w⟩ := lay_go g hs.toList _ 0 (own_start m) (by rw [Array.length_toList]; omega) hb
  rw [Nat.zero_add, Array.length_toList] at e w
  refine ⟨o, ?_, w⟩
  unfold SetTable.layClean
  rw [← Array.foldl_toList, e]
  rfl
theorem live_snd (owner : Array (Option Nat)) : ∀ (l : List Nat), ((l.filterMap fun j => (owner.getD j none).map (j, ·)).map (·.2)) = l.filterMap fun j => owner.getD j none
  | [] => rfl
  | j :: l => by
    cases h : owner.getD j none with
    | none =>
      rw [List.filterMap_cons_none (by simp [h]), List.filterMap_cons_none (f := fun j => owner.getD j none) h]
      exact live_snd owner l
    | some x =>
      rw [List.filterMap_cons_some (b := (j, x)) (by simp [h]), List.filterMap_cons_some (f := fun j => owner.getD j none) h, List.map_cons, live_snd owner l]
theorem range_get (owner : Array (Option Nat)) : ((List.range owner.size).filterMap fun j => owner.getD j none) = owner.toList.filterMap id := by
  have e : owner.toList = (List.range owner.size).map fun j => owner.getD j none := by
    apply List.ext_getElem
    · simp
    · intro i h1 h2
      have h3 : i < owner.size := by simpa using h1
      simp [Array.getD, h3]
  rw [e, List.filterMap_map]
  rfl
theorem laid_some {m fin mv : Nat} {led pl : Bool} (g : GoodMask m) {hs : Array Int} (hl : hs.size ≤ m + 1) (hb : ∀ h ∈ hs.toList, SetTable.bits h < 1024) : ∃ t order, SetTable.laid m fin mv led pl hs = some (t, order) ∧ order.toList.Perm (List.range hs.size) ∧
    t.place.size = hs.size ∧ t.dummies = #[] ∧ t.mask = m ∧ t.led = led ∧ t.plain = pl ∧ Ris t.place.toList := by
  obtain ⟨owner, e, w⟩ := layClean_some g hl hb
  have hsnd : (((List.range (m + 1)).filterMap fun j => (owner.getD j none).map (j, ·)).map (·.2)).Perm (List.range hs.size) := by
    rw [live_snd, ← w.size, range_get]
    exact w.perm
  unfold SetTable.laid
  rw [e]
  refine ⟨_, _, rfl, ?_, ?_, rfl, rfl, rfl, rfl, ?_⟩
  · exact hsnd
  · have q := hsnd.length_eq
    rw [List.length_map, List.length_range] at q
    show ((((List.range (m + 1)).filterMap fun j => (owner.getD j none).map (j, ·)).map (·.1)).toArray).size = hs.size
    rw [List.size_toArray, List.length_map]
    exact q
  · refine (ris_live (fun j => owner.getD j none) (List.range (m + 1)) ?_).1
    unfold Ris
    first | exact List.pairwise_lt_range | exact List.pairwise_lt_range _
theorem size_good : ∀ n, n ≤ 500 → n < SetTable.sizeAbove n ∧ (SetTable.sizeAbove n - 1) ∈ [7, 15, 31, 63, 127, 255, 511] := by
  have h : ∀ n : Fin 501, n.val < SetTable.sizeAbove n.val ∧ (SetTable.sizeAbove n.val - 1) ∈ [7, 15, 31, 63, 127, 255, 511] := by decide +kernel
  exact fun n hn => h ⟨n, by omega⟩
end DpR
/-! sets of small ints: taken out, merged into an empty one, flipped -/
namespace DpR
open PySem PySem.Spec PyProof.Rows L2
section
variable {P : Program} {w : World} {A : Around} {E : Value → Shared → Prop} {s : Shared} {a : Addr} {S : Int → Bool} {n : Nat}
theorem eraseAt_list {α : Type} (xs : Array α) (i : Nat) (h : i < xs.size) : (SetTable.eraseAt xs i).toList = xs.toList.eraseIdx i := by
  unfold SetTable.eraseAt
  rw [List.eraseIdx_eq_take_drop_succ]
  simp [Array.toList_extract, List.extract_eq_take_drop]
  rw [List.take_of_length_le]
  simp
theorem eraseAt_size {α : Type} (xs : Array α) (i : Nat) (h : i < xs.size) : (SetTable.eraseAt xs i).size = xs.size - 1 := by
  rw [← Array.length_toList, eraseAt_list xs i h, List.length_eraseIdx, Array.length_toList, if_pos (by simpa using h)]
theorem insertAt_size {α : Type} (xs : Array α) (p : Nat) (x : α) : (SetTable.insertAt xs p x).size = xs.size + 1 := by
  have q := (SetTable.insertAt_perm xs p x).length_eq
  simpa using q
theorem drop_fits {t : SetTable} {n i : Nat} (hf : t.fits n = true) (hi : i < n) : (t.drop i).fits (n - 1) = true ∧ (t.drop i).led = t.led ∧ (t.drop i).place.toList = t.place.toList.eraseIdx i := by
  unfold SetTable.fits at hf
  rw [Bool.and_eq_true, beq_iff_eq, decide_eq_true_eq] at hf
  obtain ⟨h1, h2⟩ := hf
  have hi' : i < t.place.size := by omega
  unfold SetTable.drop
  rw [Array.getElem?_eq_getElem hi']
  refine ⟨?_, rfl, eraseAt_list _ _ hi'⟩
  unfold SetTable.fits SetTable.fill
  rw [Bool.and_eq_true, beq_iff_eq, decide_eq_true_eq]
  dsimp only
  rw [eraseAt_size _ _ hi', insertAt_size]
  unfold SetTable.fill at h2
  omega
theorem ris_sub {l l' : List Nat} (h : l'.Sublist l) (r : Ris l) : Ris l' := List.Pairwise.sublist h r
theorem setR_discard {k : Int} {tk : Tok} {Q : Bool → Shared → Prop} (R : SetR w s.heap a S n)
    (h0 : S k = false → Q false s) (h1 : S k = true → ∀ h', Heap.SameBut a s.heap h' → SetR w h' a (fun j => S j && decide (j ≠ k)) (n - 1) → Q true { s with heap := h' }) :
    wpAny (model P w) A (setDiscardHashed a (.int k tk) ((intKind P w).hash k)) Q E s := by
  obtain ⟨o, es, ep, t, ho, hex, hd, g, nd, hm, hb, hf, hn, hr, hl⟩ := R
  have hkey : (intKind P w).is k (.int k tk) = true := intKind_is P w k tk
  have hsc : (Value.int k tk).scannable = true := rfl
  have hel : ElemsOf (intKind P w) es.toList := good_elems g
  unfold setDiscardHashed setFind setFindIn
  refine wpAny_bind ?_
  refine wpAny_bind (wpAny_setState_of ho hd hf ?_)
  dsimp only
  rw [byScan_of hsc hb hel]
  simp only [↓reduceIte]
  refine wpAny_bind (wpAny_rule ?_)
  refine wpAny_bind (wpAny_setScan_of hkey ho hd hf hel ?_)
  cases hfi : List.findIdx? (fun e => (intKind P w).is k e.2) es.toList with
  | none =>
    dsimp only
    have hnk : k ∉ es.toList.map keyOf := fun z => by
      obtain ⟨e, he, q⟩ := (good_mem (P := P) (w := w) g k).1 z
      have c := List.findIdx?_eq_none_iff.mp hfi e he
      rw [q] at c
      cases c
    have hSk : S k = false := by
      cases q : S k with
      | false => rfl
      | true => exact absurd ((hm k).1 q) hnk
    exact wpAny_pure (wpAny_pure (h0 hSk))
  | some j =>
    dsimp only
    obtain ⟨hj, pj, _⟩ := List.findIdx?_eq_some_iff_getElem.mp hfi
    have hkj : keyOf es.toList[j] = k := (good_is (P := P) (w := w) (g _ (List.getElem_mem hj)) k).1 pj
    have hSk : S k = true := (hm k).2 ((good_mem (P := P) (w := w) g k).2 ⟨es.toList[j], List.getElem_mem hj, pj⟩)
    have hj' : 0 + j < es.size := by rw [Nat.zero_add, ← Array.length_toList]; exact hj
    refine wpAny_pure ?_
    refine wpAny_bind (wpAny_setState_of ho hd hf ?_)
    dsimp only
    have hsz : (SetTable.eraseAt es (0 + j)).size = es.size - 1 := eraseAt_size es _ hj'
    have hb1 : (SetTable.eraseAt es (0 + j)).size < scanBound := by rw [hsz]; omega
    refine wpAny_bind (wpAny_storeSet_of ho hd ?_ (fits_of_scanBound hb1))
    refine wpAny_bind (wpAny_point (wpAny_pure (h1 hSk _ (Heap.SameBut.update s.heap a _) ?_)))
    have ho1 := store_at (es' := SetTable.eraseAt es (0 + j)) (t' := t.drop (0 + j)) ho hd
    obtain ⟨f1, f2, f3⟩ := drop_fits hf hj'
    have el : (SetTable.eraseAt es (0 + j)).toList = es.toList.eraseIdx (0 + j) := eraseAt_list es _ hj'
    have pm : (es.toList[j] :: es.toList.eraseIdx (0 + j)).Perm es.toList := by
      rw [Nat.zero_add]
      exact erase_perm _ _ _ (List.getElem?_eq_getElem hj)
    have pk : (k :: (es.toList.eraseIdx (0 + j)).map keyOf).Perm (es.toList.map keyOf) := by
      have z := pm.map keyOf
      rw [List.map_cons, hkj] at z
      exact z
    have nd2 := pk.nodup_iff.mpr nd
    obtain ⟨hnot, nd3⟩ := List.nodup_cons.mp nd2
    refine ⟨_, _, _, _, ho1, hex, rfl, ?_, ?_, ?_, hb1, ?_, ?_, ?_, ?_⟩
    · rw [el]
      exact fun e he => g e (List.mem_of_mem_eraseIdx he)
    · rw [el]; exact nd3
    · intro i
      rw [el, Bool.and_eq_true, decide_eq_true_eq, hm i, ← pk.mem_iff, List.mem_cons]
      constructor
      · rintro ⟨e | e, ne⟩
        · exact absurd e ne
        · exact e
      · intro e
        exact ⟨.inr e, fun z => hnot (by rw [← z]; exact e)⟩
    · rw [hsz]; exact f1
    · rw [hsz, hn]
    · rw [f3]
      exact ris_sub (List.eraseIdx_sublist _ _) hr
    · rw [f2]; exact hl
end
end DpR
namespace DpR
open PySem PySem.Spec PyProof.Rows L2
section
variable {P : Program} {w : World} {A : Around} {E : Value → Shared → Prop} {s : Shared} {a : Addr} {S : Int → Bool} {n : Nat}
/-- members below 200 -/
def Sml (S : Int → Bool) : Prop := ∀ k, S k = true → 0 ≤ k ∧ k < 200
theorem bits_small {k : Int} (h0 : 0 ≤ k) (h1 : k < 200) : SetTable.bits (hashInt k) < 1024 := by
  have key : ∀ i : Fin 200, SetTable.bits (hashInt (i.val : Int)) < 1024 := by decide +kernel
  have q := key ⟨k.toNat, by omega⟩
  have e : ((k.toNat : Nat) : Int) = k := by omega
  rw [← e]
  exact q
theorem nodup_le : ∀ (l : List Int) (m : Nat), l.Nodup → (∀ k ∈ l, 0 ≤ k ∧ k < (m : Int)) → l.length ≤ m
  | l, 0, _, h => by
    cases l with
    | nil => exact Nat.le_refl _
    | cons a r => have := h a List.mem_cons_self; omega
  | l, m + 1, nd, h => by
    have z := nodup_le (l.erase (m : Int)) m (nd.erase _) fun k hk => by
      have ⟨x, y⟩ := (nd.mem_erase_iff).mp hk
      have := h k y
      omega
    have e := List.length_erase (a := (m : Int)) (l := l)
    split at e <;> omega
theorem setR_le (R : SetR w s.heap a S n) (h : Sml S) : n ≤ 200 := by
  obtain ⟨o, es, ep, t, ho, hex, hd, g, nd, hm, hb, hf, hn, hr, hl⟩ := R
  have q := nodup_le _ 200 nd fun k hk => h k ((hm k).2 hk)
  rw [List.length_map, Array.length_toList] at q
  omega
theorem pick_all {es : Array (Int × Value)} {order : Array Nat} (h : order.toList.Perm (List.range es.size)) : (order.filterMap (es[·]?)).toList.Perm es.toList := by
  rw [Array.toList_filterMap]
  refine (h.filterMap _).trans ?_
  have e : (List.range es.size).filterMap (es[·]?) = es.toList := by
    have q : ∀ l : List (Int × Value), (List.range l.length).filterMap (l[·]?) = l := by
      intro l
      induction l with
      | nil => rfl
      | cons x r ih =>
        rw [List.length_cons, List.range_succ_eq_map, List.filterMap_cons_some (f := fun i => (x :: r)[i]?) rfl, List.filterMap_map]
        congr 1
    have z := q es.toList
    rw [Array.length_toList] at z
    have f : (fun i : Nat => es[i]?) = fun i : Nat => es.toList[i]? := by
      funext i; rw [Array.getElem?_toList]
    show (List.range es.size).filterMap (fun i : Nat => es[i]?) = es.toList
    rw [f]; exact z
  rw [e]
theorem reord {es : Array (Int × Value)} {t : SetTable} {order : Array Nat} (h : order.toList.Perm (List.range es.size)) : ((order.filterMap (es[·]?)).size != es.size) = false := by
  have q := (pick_all h).length_eq
  rw [Array.length_toList, Array.length_toList] at q
  rw [q]
  simp
/-- the table of an empty set is made wide -/
theorem setRelay_empty {o : Obj} {ep : Nat} {t : SetTable} {wanted : Nat} {Q : Unit → Shared → Prop} (ho : s.heap.get? a = some o) (hd : o.data = .set #[] ep t) (hf : t.fits 0 = true) (hw : wanted ≤ 500)
    (hQ : ∀ t', t'.fits 0 = true → t'.fill = 0 → t'.mask = SetTable.sizeAbove wanted - 1 → t'.led = t.led → Q () { s with heap := s.heap.update a (Obj.putSet #[] t') }) : wpAny (model P w) A (setRelay a wanted) Q E s := by
  obtain ⟨z1, z2⟩ := size_good wanted hw
  have gm := goodMask_of (good_masks _ z2)
  obtain ⟨t', order, e, hp, p1, p2, p3, p4, p5, p6⟩ := laid_some (fin := t.finger) (mv := t.movedTo (SetTable.sizeAbove wanted - 1)) (led := t.led) (pl := t.plain) gm (hs := #[]) (Nat.zero_le _) (fun h hh => by simp at hh)
  have p1' : t'.place.size = 0 := p1
  unfold setRelay
  refine wpAny_bind (wpAny_setState_of ho hd hf ?_)
  dsimp only
  have hle : SetTable.sizeAbove wanted ≤ 512 := by
    have q : ∀ x ∈ [7, 15, 31, 63, 127, 255, 511], x ≤ 511 := by decide
    have := q _ z2
    omega
  refine wp_if_neg (by rw [sizeLine_eq]; omega) ?_
  try refine wpAny_bind (wpAny_pure ?_)
  have er : t.relaid ((#[] : Array (Int × Value)).map (·.1)) wanted = some (t', order) := by
    unfold SetTable.relaid
    rw [show (#[] : Array (Int × Value)).map (·.1) = #[] from by simp]
    exact e
  rw [er]
  have oe : order.filterMap ((#[] : Array (Int × Value))[·]?) = #[] := by
    have q := pick_all (es := #[]) (order := order) hp
    have l := q.length_eq
    simp only [Array.length_toList] at l
    exact Array.eq_empty_of_size_eq_zero l
  refine wpAny_bind (wpAny_of_eq (a := (#[], t')) ?_ ?_)
  · show (if ((order.filterMap ((#[] : Array (Int × Value))[·]?)).size != (#[] : Array (Int × Value)).size) = true then _ else pure (order.filterMap ((#[] : Array (Int × Value))[·]?), t')) = pure (#[], t')
    rw [oe]
    rfl
  · dsimp only
    refine wpAny_storeSet_of ho hd (hQ t' ?_ ?_ p3 p4) (by rw [sizeLine_eq]; exact Nat.zero_le _)
    · unfold SetTable.fits SetTable.fill
      rw [p1', p2]
      rfl
    · unfold SetTable.fill
      rw [p1', p2]
      rfl
theorem setRoom_empty {o : Obj} {ep : Nat} {t : SetTable} {more : Nat} {Q : Unit → Shared → Prop} (ho : s.heap.get? a = some o) (hd : o.data = .set #[] ep t) (hf : t.fits 0 = true) (h7 : t.mask = 7) (h0 : t.fill = 0) (hw : more ≤ 200)
    (hQ : ∀ h' o' ep' t', Heap.SameBut a s.heap h' → h'.get? a = some o' → o'.cls = o.cls → o'.dict = o.dict → o'.slots = o.slots → o'.data = .set #[] ep' t' → t'.fits 0 = true → t'.fill = 0 → GoodMask t'.mask → more ≤ t'.mask → t'.led = t.led → Q () { s with heap := h' }) :
    wpAny (model P w) A (setRoomFor a more) Q E s := by
  unfold setRoomFor
  refine wpAny_bind (wpAny_setState_of ho hd hf ?_)
  dsimp only
  unfold SetTable.roomFor
  rw [h0, h7, Nat.zero_add]
  by_cases c : more * 5 ≥ 7 * 3
  · rw [if_pos c]
    have hp : t.place.size = 0 := by
      unfold SetTable.fits at hf
      rw [Bool.and_eq_true, beq_iff_eq] at hf
      exact hf.1
    rw [hp, Nat.zero_add]
    dsimp only
    refine setRelay_empty ho hd hf (by omega) fun t' f1 f2 f3 f4 => ?_
    have ⟨z1, z2⟩ := size_good (more * 2) (by omega)
    refine hQ _ _ _ _ (Heap.SameBut.update s.heap a _) (store_at ho hd) rfl rfl rfl rfl f1 f2 ?_ ?_ f4
    · rw [f3]; exact goodMask_of (good_masks _ z2)
    · rw [f3]; omega
  · rw [if_neg c]
    dsimp only
    refine wpAny_pure (hQ s.heap o ep t (Heap.SameBut.refl _ _) ho rfl rfl rfl hd hf h0 ?_ ?_ rfl)
    · rw [h7]; exact goodMask_of (good_masks 7 (by simp))
    · rw [h7]; omega
/-- a set merged into an empty one -/
theorem setMerge_empty {r : Addr} {o : Obj} {ep : Nat} {t : SetTable} {each : Sem Unit} {Q : Unit → Shared → Prop} (hr : s.heap.get? r = some o) (hx : o.ExactSet) (hd : o.data = .set #[] ep t) (hf : t.fits 0 = true) (h7 : t.mask = 7) (h0 : t.fill = 0)
    (hl : w.params.followText "set-order" = true ∨ t.led = true) (hne : r ≠ a) (R : SetR w s.heap a S n) (sm : Sml S)
    (hQ : ∀ h', Heap.SameBut r s.heap h' → SetR w h' r S n → Q () { s with heap := h' }) : wpAny (model P w) A (setMerge r a each) Q E s := by
  have hn200 := setR_le R sm
  obtain ⟨oa, es, epa, ta, hoa, hexa, hda, g, nd, hm, hb, hfa, hn, hra, hla⟩ := R
  unfold setMerge
  refine wp_if_neg (by simpa using hne) ?_
  try refine wpAny_bind (wpAny_pure ?_)
  refine wpAny_bind (wpAny_setState_of hoa hda hfa ?_)
  dsimp only
  cases hem : es.isEmpty with
  | true =>
    refine wp_if_pos rfl ?_
    have e0 : es = #[] := by simpa using hem
    subst e0
    refine wpAny_pure (hQ s.heap (Heap.SameBut.refl _ _) ?_)
    have en : n = 0 := hn.symm
    subst en
    exact ⟨o, #[], ep, t, hr, hx, hd, g, nd, hm, hb, hf, rfl, by
      have : t.place.size = 0 := by
        unfold SetTable.fits at hf
        rw [Bool.and_eq_true, beq_iff_eq] at hf
        exact hf.1
      have e1 : t.place = #[] := Array.eq_empty_of_size_eq_zero this
      rw [e1]
      exact List.Pairwise.nil, hl⟩
  | false =>
    refine wp_if_neg Bool.false_ne_true ?_
    try refine wpAny_bind (wpAny_pure ?_)
    refine wpAny_bind (setRoom_empty hr hd hf h7 h0 (by omega) fun h' o' ep' t' sb ho' c1 c2 c3 hd' f1 f2 gm hmk hled => ?_)
    have hoa' : h'.get? a = some oa := (sb.2 a (Ne.symm hne)).trans hoa
    refine wpAny_bind (wpAny_setState_of ho' hd' f1 ?_)
    dsimp only
    have hx' : o'.ExactSet := by
      obtain ⟨x1, x2, x3⟩ := hx
      exact ⟨c1.trans x1, c2.trans x2, c3.trans x3⟩
    have hled' : ∀ b : Bool, w.params.followText "set-order" = true ∨ (t'.led && ta.led) = true := fun _ => by
      rcases hl with z | z
      · exact .inl z
      · rcases hla with y | y
        · exact .inl y
        · exact .inr (by rw [hled, z, y]; rfl)
    have fa : ta.place.size = es.size ∧ ta.fill ≤ ta.mask := by
      unfold SetTable.fits at hfa
      rw [Bool.and_eq_true, beq_iff_eq, decide_eq_true_eq] at hfa
      exact hfa
    have fin : ∀ (es' : Array (Int × Value)) (t2 : SetTable), es'.toList.Perm es.toList → t2.fits es'.size = true → Ris t2.place.toList → t2.led = (t'.led && ta.led) → wpAny (model P w) A (storeSet r es' t2) Q E { s with heap := h' } := fun es' t2 pm ff rr ll => by
      have hsz : es'.size = es.size := by rw [← Array.length_toList, pm.length_eq, Array.length_toList]
      have hb2 : es'.size < scanBound := by rw [hsz]; exact hb
      refine wpAny_storeSet_of ho' hd' (hQ _ (sb.trans (Heap.SameBut.update _ r _)) ?_) (fits_of_scanBound hb2)
      exact ⟨_, es', _, t2, store_at ho' hd', hx', rfl, fun e he => g e (pm.mem_iff.mp he), (pm.map keyOf).nodup_iff.mpr nd, fun k => (hm k).trans (pm.map keyOf).mem_iff.symm, hb2, ff, by rw [hsz, hn], rr, by rw [ll]; exact hled' true⟩
    have hroad : t'.road ta = .slotForSlot ∨ t'.road ta = .clean := by
      unfold SetTable.road
      rw [f2]
      simp only [bne_self_eq_false, Bool.false_eq_true, if_false]
      split
      · exact .inl rfl
      · exact .inr rfl
    rcases hroad with hroad | hroad
    · rw [hroad]
      dsimp only
      refine fin es _ (List.Perm.refl _) ?_ hra rfl
      unfold SetTable.fits SetTable.fill
      rw [Bool.and_eq_true, beq_iff_eq, decide_eq_true_eq]
      exact fa
    · rw [hroad]
      dsimp only
      obtain ⟨t2, order, e, hp, p1, p2, p3, p4, p5, p6⟩ := laid_some (fin := t'.finger) (mv := t'.moves) (led := t'.led && ta.led) (pl := t'.plain && ta.plain) gm (hs := es.map (·.1)) (by rw [Array.size_map]; omega) (fun h hh => by
        rw [Array.toList_map] at hh
        obtain ⟨x, hx2, ex⟩ := List.mem_map.mp hh
        obtain ⟨k, tk, e1, e2⟩ := g x hx2
        have hk : S k = true := (hm k).2 (List.mem_map.mpr ⟨x, hx2, by unfold keyOf; rw [e1]⟩)
        have ⟨q1, q2⟩ := sm k hk
        rw [← ex, e2]
        exact bits_small q1 q2)
      rw [Array.size_map] at hp p1
      rw [e]
      have pa := pick_all hp
      have hne2 := reord (t := t2) hp
      have hsz : (order.filterMap (es[·]?)).size = es.size := by simpa using hne2
      refine wpAny_bind (wpAny_of_eq (a := (order.filterMap (es[·]?), t2)) ?_ ?_)
      · show (if ((order.filterMap (es[·]?)).size != es.size) = true then _ else pure (order.filterMap (es[·]?), t2)) = pure (order.filterMap (es[·]?), t2)
        rw [hne2]
        rfl
      · dsimp only
        refine fin _ t2 pa ?_ p6 p4
        unfold SetTable.fits SetTable.fill
        rw [Bool.and_eq_true, beq_iff_eq, decide_eq_true_eq, p1, p2, hsz, p3]
        refine ⟨rfl, ?_⟩
        show es.size + 0 ≤ t'.mask
        omega
end
end DpR
namespace DpR
open PySem PySem.Spec PyProof.Rows L2
section
variable {P : Program} {w : World} {A : Around} {E : Value → Shared → Prop} {s : Shared} {a : Addr} {S T : Int → Bool} {n m : Nat}
/-- what the walk of a set gives -/
def WalkOf (S : Int → Bool) (es : Array (Int × Value)) : Prop := (∀ e ∈ es.toList, GoodE e) ∧ (es.toList.map keyOf).Nodup ∧ ∀ k, S k = true ↔ k ∈ es.toList.map keyOf
theorem WalkOf.perm {es es' : Array (Int × Value)} (h : WalkOf S es) (p : es'.toList.Perm es.toList) : WalkOf S es' :=
  ⟨fun e he => h.1 e (p.mem_iff.mp he), (p.map keyOf).nodup_iff.mpr h.2.1, fun k => (h.2.2 k).trans (p.map keyOf).mem_iff.symm⟩
theorem setWalk_of {Q : Array (Int × Value) → Shared → Prop} (R : SetR w s.heap a S n) (hQ : ∀ es d, WalkOf S es → Q es { s with drawn := d }) : wpAny (model P w) A (setWalk a) Q E s := by
  obtain ⟨o, es, ep, t, ho, hex, hd, g, nd, hm, hb, hf, hn, hr, hl⟩ := R
  have W : WalkOf S es := ⟨g, nd, hm⟩
  unfold setWalk
  refine wpAny_bind (wpAny_setState_of ho hd hf ?_)
  dsimp only
  refine wpAny_bind (wpAny_byText ?_)
  cases hbt : w.params.followText "set-order" with
  | true =>
    refine wp_if_pos rfl ?_
    exact wpAny_bind (wpAny_askSetting (wpAny_pure (hQ _ s.drawn (W.perm (pick_perm _ _)))))
  | false =>
    refine wp_if_neg Bool.false_ne_true ?_
    try refine wpAny_bind (wpAny_pure ?_)
    have hled : t.led = true := by
      rcases hl with z | z
      · rw [hbt] at z; cases z
      · exact z
    cases hdr : (!t.plain && decide (es.size > 1)) with
    | true =>
      refine wp_if_pos hdr ?_
      refine wpAny_bind (drawOrder_at _ _ _ _ (by rw [Array.length_toList]; exact Nat.le_refl _) fun ys d hp => wpAny_pure (hQ _ d (W.perm ?_)))
      exact hp
    | false =>
      refine wp_if_neg (by show ¬ ((!t.plain && decide (es.size > 1)) = true); rw [hdr]; exact Bool.false_ne_true) ?_
      try refine wpAny_bind (wpAny_pure ?_)
      refine wpAny_bind (wpAny_of_eq (a := ()) ?_ ?_)
      · show (if (!t.led && decide (es.size > 1)) = true then unsupported "set:maker-not-led" else pure ()) = pure ()
        rw [hled]
        rfl
      · exact wpAny_pure (hQ es s.drawn W)
theorem quiet_all (l : List Addr) {Q : Bool → Shared → Prop} (hl : ∀ b ∈ l, ∃ S n, SetR w s.heap b S n) (hQ : Q true s) : wpAny (model P w) A (setsQuiet l) Q E s := by
  unfold setsQuiet
  refine wpAny_bind (wpAny_forIn_list _ (fun rest r s' => r = (none, ()) ∧ s' = s ∧ ∀ b ∈ rest, b ∈ l) _ ?_ ?_ l _ ⟨rfl, rfl, fun _ h => h⟩)
  · rintro b rest r s' ⟨rfl, rfl, hr⟩
    obtain ⟨S, n, o, es, ep, t, ho, hex, hd, g, nd, hm, hb, hf, hn, hrr, hll⟩ := hl b (hr b List.mem_cons_self)
    refine wpAny_bind (wpAny_setEntries_of ho hd hf ?_)
    refine wpAny_bind (wpAny_mono (MeetsSeq2.wpAny_forIn_array _ (fun rest r s2 => r = (none, ()) ∧ s2 = s' ∧ ∀ e ∈ rest, e ∈ es.toList) (fun r s2 => r = (none, ()) ∧ s2 = s') ?_ ?_ es _ ⟨rfl, rfl, fun _ h => h⟩) (fun r s2 q => ?_) fun _ _ e => e)
    · rintro ⟨h, x⟩ rest2 r s2 ⟨rfl, rfl, hr2⟩
      obtain ⟨k, tk, e1, _⟩ := g _ (hr2 _ List.mem_cons_self)
      have e1' : x = Value.int k tk := e1
      subst e1'
      exact wpAny_pure ⟨rfl, rfl, fun e he => hr2 e (List.mem_cons_of_mem _ he)⟩
    · rintro r s2 ⟨rfl, rfl, _⟩
      exact ⟨rfl, rfl⟩
    · obtain ⟨rfl, rfl⟩ := q
      exact wpAny_pure ⟨rfl, rfl, fun b hb => hr b (List.mem_cons_of_mem _ hb)⟩
  · rintro r s' ⟨rfl, rfl, _⟩
    exact wpAny_pure hQ
/-- the walk of a set that another one is filled from -/
theorem setWalkUnseen_of {r : Addr} {Q : Array (Int × Value) → Shared → Prop} (R : SetR w s.heap a S n) (F : SetR w s.heap r T m) (hne : r ≠ a)
    (hQ : ∀ es d h', Heap.SameBut r s.heap h' → SetR w h' r T m → WalkOf S es → Q es { s with heap := h', drawn := d }) : wpAny (model P w) A (setWalkUnseen a [r] (some r)) Q E s := by
  have R' := R
  obtain ⟨o, es, ep, t, ho, hex, hd, g, nd, hm, hb, hf, hn, hr, hl⟩ := R
  have W : WalkOf S es := ⟨g, nd, hm⟩
  have wk : wpAny (model P w) A (setWalk a) Q E s := setWalk_of R' fun es' d W' => hQ es' d s.heap (Heap.SameBut.refl _ _) F W'
  unfold setWalkUnseen
  refine wpAny_bind (wpAny_setState_of ho hd hf ?_)
  dsimp only
  refine wpAny_bind (wpAny_byText ?_)
  cases c : (w.params.followText "set-order" || t.led && t.plain || decide (es.size ≤ 1)) with
  | true => exact wp_if_pos rfl wk
  | false =>
    refine wp_if_neg Bool.false_ne_true ?_
    refine wpAny_bind (quiet_all _ (fun b hb => ?_) ?_)
    · rcases List.mem_cons.mp hb with e | e
      · rw [e]; exact ⟨S, n, R'⟩
      · rw [List.mem_singleton.mp e]; exact ⟨T, m, F⟩
    · refine wp_if_neg (by simp) ?_
      refine wpAny_bind (wpAny_rule ?_)
      have F' := F
      obtain ⟨o2, es2, ep2, t2, ho2, hex2, hd2, g2, nd2, hm2, hb2, hf2, hn2, hr2, hl2⟩ := F
      refine wpAny_bind (wpAny_setState_of ho2 hd2 hf2 ?_)
      dsimp only
      split
      · refine wpAny_bind (wpAny_storeSet_of ho2 hd2 ?_ (fits_of_scanBound hb2))
        refine wpAny_pure (hQ es s.drawn _ (Heap.SameBut.update s.heap r _) ?_ W)
        refine ⟨_, es2, _, _, store_at ho2 hd2, hex2, rfl, g2, nd2, hm2, hb2, ?_, hn2, hr2, ?_⟩
        · exact hf2
        · rcases hl with z | z
          · exact .inl z
          · rcases hl2 with y | y
            · exact .inl y
            · exact .inr (by show (t2.led && t.led) = true; rw [z, y]; rfl)
      · exact wpAny_pure (hQ es s.drawn s.heap (Heap.SameBut.refl _ _) F' W)
/-- each in it is taken out, each other one put in -/
theorem flip_one {k : Int} {tk : Tok} {Q : Unit → Shared → Prop} (R : SetR w s.heap a S n) (room : n + 1 < scanBound)
    (hQ : ∀ h' n', Heap.SameBut a s.heap h' → n' ≤ n + 1 → SetR w h' a (fun j => S j != decide (j = k)) n' → Q () { s with heap := h' }) :
    wpAny (model P w) A (holding [Value.int k tk] do
      let d ← setDiscardHashed a (.int k tk) ((intKind P w).hash k)
      if (!d) = true then do
        let _ ← setAddHashed a (.int k tk) ((intKind P w).hash k)
        pure ()
      else pure ()) Q E s := by
  refine wpAny_holding (wpAny_bind (setR_discard R (fun h0 => ?_) fun h1 h' sb R1 => ?_))
  · refine wp_if_pos rfl ?_
    refine wpAny_bind (setR_add_hashed R room fun h' sb R1 => wpAny_pure ?_)
    rw [h0] at R1
    refine hQ h' _ sb (Nat.le_refl _) (R1.congr fun j => ?_)
    by_cases e : j = k
    · subst e
      rw [h0]
      simp
    · rw [decide_eq_false e]
      simp
  · refine wp_if_neg (by simp) (wpAny_pure (hQ h' _ sb (by omega) (R1.congr fun j => ?_)))
    by_cases e : j = k
    · subst e
      rw [h1]
      simp
    · rw [decide_eq_false e, decide_eq_true (show j ≠ k from e)]
      simp
theorem flip_fold : ∀ (l : List Int) (S : Int → Bool) (j : Int), l.Nodup → (l.foldl (fun S k => fun j => S j != decide (j = k)) S) j = (S j != decide (j ∈ l))
  | [], S, j, _ => by simp
  | k :: l, S, j, nd => by
    obtain ⟨h1, h2⟩ := List.nodup_cons.mp nd
    rw [List.foldl_cons, flip_fold l _ j h2]
    by_cases e : j = k
    · subst e
      simp [h1]
    · simp [e]
theorem anySet {v : Value} {Q : Bool → Shared → Prop} (hT : s.TypeIs v "set") (h : Q true s) : wpAny (model P w) A (Builtin.Frozenset.isAnySet v) Q E s := by
  unfold Builtin.Frozenset.isAnySet
  refine wpAny_bind (wpAny_isInstance hT sub_set_self ?_)
  exact wpAny_pure h
/-- S ^ T, into S's own -/
theorem symUpdate {id : String} {o : Addr} {Q : Unit → Shared → Prop} (R : SetR w s.heap a S n) (F : SetR w s.heap o T m) (hne : o ≠ a) (hn : n ≤ 200) (hm : m ≤ 200)
    (hQ : ∀ h' n' d, Heap.SameBut a s.heap h' → SetR w h' a (fun j => S j != T j) n' → Q () { s with heap := h', drawn := d }) : wpAny (model P w) A (Builtin.Frozenset.symmetricDifferenceUpdate id a (.ref o)) Q E s := by
  have hT : s.TypeIs (.ref o) "set" := (F.setOf (P := P)).typeIs
  have F' := F
  obtain ⟨oo, eso, epo, too, hoo, hexo, hdo, go, ndo, hmo, hbo, hfo, hno, hro, hlo⟩ := F
  unfold Builtin.Frozenset.symmetricDifferenceUpdate
  refine wp_if_neg (by simpa using hne) ?_
  dsimp only
  refine wpAny_bind (wpAny_typeOf hT ?_)
  refine wp_if_neg (by decide) ?_
  refine wpAny_bind (m := Builtin.Frozenset.isAnySet (.ref o)) (anySet hT ?_)
  refine wp_if_pos rfl ?_
  refine wpAny_bind (wpAny_pure ?_)
  refine wpAny_bind (m := Builtin.Frozenset.addrOf (.ref o)) (wpAny_pure ?_)
  refine wpAny_bind (wpAny_setEpoch_of hoo hdo hfo ?_)
  refine wpAny_holding ?_
  refine wpAny_bind (setWalkUnseen_of F' R (Ne.symm hne) fun es d h1 sb1 R1 W => ?_)
  refine wpAny_bind (wpAny_mono (MeetsSeq2.wpAny_forIn_array _ (fun rest _ s2 => ∃ (h2 : Heap) (done : List (Int × Value)) (n2 : Nat), es.toList = done ++ rest ∧ s2 = { s with heap := h2, drawn := d } ∧ Heap.SameBut a s.heap h2 ∧ n2 ≤ n + done.length ∧ SetR w h2 a ((done.map keyOf).foldl (fun S k => fun j => S j != decide (j = k)) S) n2)
    (fun _ s2 => ∃ (h2 : Heap) (n2 : Nat), s2 = { s with heap := h2, drawn := d } ∧ Heap.SameBut a s.heap h2 ∧ SetR w h2 a ((es.toList.map keyOf).foldl (fun S k => fun j => S j != decide (j = k)) S) n2) ?_ ?_ es _ ⟨h1, [], n, rfl, rfl, sb1, Nat.le_refl _, R1⟩) (fun r s2 q => ?_) fun _ _ e => e)
  · rintro ⟨h, x⟩ rest b s2 ⟨h2, done, n2, he, rfl, sb2, hn2, R2⟩
    have hlen : es.toList.length ≤ 200 := by
      have q := W.2.2
      have : es.toList.length = m := by
        have p : (es.toList.map keyOf).Perm (eso.toList.map keyOf) := (List.perm_ext_iff_of_nodup W.2.1 ndo).mpr fun k => (q k).symm.trans (hmo k)
        have l := p.length_eq
        rw [List.length_map, List.length_map] at l
        rw [l, Array.length_toList, hno]
      omega
    have hdl : done.length + (rest.length + 1) ≤ 200 := by
      have q := congrArg List.length he
      rw [List.length_append, List.length_cons] at q
      omega
    obtain ⟨k, tk, e1, e2⟩ := W.1 (h, x) (by rw [he]; exact List.mem_append_right _ List.mem_cons_self)
    have e1' : x = Value.int k tk := e1
    have e2' : h = hashInt k := e2
    subst e1' e2'
    refine wpAny_bind (flip_one (s := { s with heap := h2, drawn := d }) R2 (by unfold scanBound; omega) fun h3 n3 sb3 hn3 R3 => ?_)
    refine wpAny_bind (m := Builtin.Frozenset.unchanged id o epo) ?_
    unfold Builtin.Frozenset.unchanged
    have hoo3 : h3.get? o = some oo := ((sb2.trans sb3).2 o hne).trans hoo
    refine wpAny_bind (wpAny_setEpoch_of hoo3 hdo hfo ?_)
    refine wp_if_neg (by simp) ?_
    refine wpAny_pure (wpAny_pure ?_)
    refine ⟨h3, done ++ [(hashInt k, Value.int k tk)], n3, by rw [he, List.append_assoc]; rfl, rfl, sb2.trans sb3, by rw [List.length_append]; show n3 ≤ n + (done.length + 1); omega, ?_⟩
    rw [List.map_append, List.foldl_append]
    exact R3
  · rintro b s2 ⟨h2, done, n2, he, rfl, sb2, hn2, R2⟩
    rw [List.append_nil] at he
    rw [he]
    exact ⟨h2, n2, rfl, sb2, R2⟩
  · obtain ⟨h2, n2, rfl, sb2, R2⟩ := q
    refine wpAny_pure (hQ h2 n2 d sb2 (R2.congr fun j => ?_))
    rw [flip_fold _ _ _ W.2.1]
    congr 1
    have q := W.2.2 j
    cases c : T j with
    | true => exact (decide_eq_true (q.mp c)).symm
    | false => exact (decide_eq_false fun z => by rw [q.mpr z] at c; cases c).symm
theorem entry_set_xor : entryFor table "set.__xor__" = some Builtin.«frozenset.__xor__» := entryFor_alias (id' := "frozenset.__xor__") (by kernel_rfl) rfl (by decide +kernel) (by kernel_rfl)
theorem newFrom_set {id : String} {b : Addr} {Q : Value → Shared → Prop} (RB : SetR w s.heap b T m) (smT : Sml T)
    (hQ : ∀ h', (∀ c o, s.heap.get? c = some o → h'.get? c = some o) → SetR w h' s.heap.objs.size T m → Q (.ref s.heap.objs.size) { s with heap := h' }) : wpAny (model P w) A (Builtin.Frozenset.newFrom id (.type "set") (.ref b)) Q E s := by
  unfold Builtin.Frozenset.newFrom
  refine wpAny_bind (m := newSet (.type "set")) ?_
  unfold newSet setsByText
  refine wpAny_bind (wpAny_bind (wpAny_askSetting (wpAny_pure ?_)))
  dsimp only
  simp only [newObj]
  refine wpAny_bind (wpAny_alloc (wpAny_pure ?_))
  have hr : (s.heap.push { cls := .type "set", dict := none, data := .set #[] 0 (.fresh 0 0 (!w.params.followText "set-order")) }).get? s.heap.objs.size = some { cls := .type "set", dict := none, data := .set #[] 0 (.fresh 0 0 (!w.params.followText "set-order")) } := Heap.get?_push_size _ rfl
  have RB1 : SetR w (s.heap.push { cls := .type "set", dict := none, data := .set #[] 0 (.fresh 0 0 (!w.params.followText "set-order")) }) b T m := RB.at fun o e => Heap.get?_push_of_some _ e
  have hne : s.heap.objs.size ≠ b := Nat.ne_of_gt RB.lt
  refine wpAny_bind (m := Builtin.Frozenset.addrOf (.ref s.heap.objs.size)) (wpAny_pure ?_)
  refine wpAny_bind (wpAny_holding ?_)
  unfold Builtin.Frozenset.updateFrom
  refine wpAny_bind (m := Builtin.Frozenset.isAnySet (.ref b)) (anySet ((RB1.setOf (P := P)).typeIs) ?_)
  refine wp_if_pos rfl ?_
  refine wpAny_bind (m := Builtin.Frozenset.addrOf (.ref b)) (wpAny_pure ?_)
  unfold Builtin.Frozenset.merge
  have RB2 := RB1
  obtain ⟨oo, eso, epo, too, hoo, hexo, hdo, go, ndo, hmo, hbo, hfo, hno, hro, hlo⟩ := RB1
  refine wpAny_bind (wpAny_setEpoch_of hoo hdo hfo ?_)
  refine setMerge_empty hr ⟨rfl, rfl, rfl⟩ rfl (by rfl) rfl rfl ?_ hne RB2 smT fun h' sb R => ?_
  · cases h : w.params.followText "set-order"
    · exact .inr rfl
    · exact .inl rfl
  · refine wpAny_pure (hQ h' (fun c o e => ?_) R)
    exact (sb.2 c (Nat.ne_of_lt (Heap.lt_size e))).trans (Heap.get?_push_of_some _ e)
theorem xor_sets {b : Addr} {Q : Value → Shared → Prop} (RA : SetR w s.heap a S n) (RB : SetR w s.heap b T m) (smS : Sml S) (smT : Sml T)
    (hQ : ∀ h' n' d, (∀ c o, s.heap.get? c = some o → h'.get? c = some o) → SetR w h' s.heap.objs.size (fun j => T j != S j) n' → Q (.ref s.heap.objs.size) { s with heap := h', drawn := d }) :
    wpAny (model P w) A (call (.builtin "set.__xor__") [.ref a, .ref b]) (fun v s' => v ≠ .notImplemented ∧ Q v s') E s := by
  have TA : s.TypeIs (.ref a) "set" := (RA.setOf (P := P)).typeIs
  have TB : s.TypeIs (.ref b) "set" := (RB.setOf (P := P)).typeIs
  have ha200 := setR_le RA smS
  have hb200 := setR_le RB smT
  refine wpAny_call_entry PySem.F.slot_set_xor TA entry_set_xor ?_ (PySem.F.args_set_xor_2 _ _)
  show wpAny _ _ (do
    let x ← Builtin.Frozenset.slot1 "__xor__" ⟨[.ref a, .ref b], []⟩
    _) _ _ _
  refine wpAny_bind (m := Builtin.Frozenset.slot1 "__xor__" _) (wpAny_of_eq (a := (.ref a, .ref b)) rfl ?_)
  dsimp only
  simp only [Bool.false_eq_true, if_false]
  refine wpAny_bind (m := (Builtin.Frozenset.isAnySet (.ref a) <&&> Builtin.Frozenset.isAnySet (.ref b))) (wpAny_bind (anySet TA (anySet TB ?_)))
  refine wp_if_neg (by simp) ?_
  refine wpAny_bind (m := Builtin.Frozenset.addrOf (.ref a)) (wpAny_pure ?_)
  refine wpAny_bind (m := _) ?_
  show wpAny _ _ (do
    let c ← Builtin.Frozenset.baseOf a
    let result ← Builtin.Frozenset.newFrom (toString "frozenset." ++ toString "__xor__") c (.ref b)
    let x ← Builtin.Frozenset.addrOf result
    holding [result] (Builtin.Frozenset.symmetricDifferenceUpdate (toString "frozenset." ++ toString "__xor__") x (.ref a))
    pure result) _ _ _
  refine wpAny_bind (m := Builtin.Frozenset.baseOf a) ?_
  unfold Builtin.Frozenset.baseOf
  refine wpAny_bind (wpAny_isInstance TA sub_set_self (wpAny_pure ?_))
  refine wpAny_bind (newFrom_set RB smT fun h1 k1 R1 => ?_)
  refine wpAny_bind (m := Builtin.Frozenset.addrOf _) (wpAny_pure ?_)
  have hne : a ≠ s.heap.objs.size := Nat.ne_of_lt RA.lt
  refine wpAny_bind (wpAny_holding (symUpdate (s := { s with heap := h1 }) R1 (RA.at fun o e => k1 a o e) hne hb200 ha200 fun h2 n2 d sb R2 => wpAny_pure ?_))
  show wpAny _ _ (ret (Value.ref s.heap.objs.size)) _ _ _
  refine wpAny_pure ⟨_, rfl, by simp, hQ h2 n2 d (fun c o e => (sb.2 c (Nat.ne_of_lt (Heap.lt_size e))).trans (k1 c o e)) R2⟩
end
end DpR
namespace DpR
open PySem PySem.Spec PyProof.Rows L2
section
variable {P : Program} {w : World} {A : Around} {E : Value → Shared → Prop} {s : Shared}
/-- an empty set, as it is made -/
abbrev set0 (w : World) : Obj := { cls := .type "set", dict := none, data := .set #[] 0 (.fresh 0 0 (!w.params.followText "set-order")) }
/-- set(l) of a list of ints -/
theorem set_of_list {l : Addr} {its : Array Value} (ns : List Int) {Q : Value → Shared → Prop} (hA : A.handled = none) (hl : s.heap.IsList l its) (hv : IntsAre its.toList ns) (hb : ns.length + 1 < scanBound)
    (h : ∀ (h' : Heap) (tk c : Nat), SetR w h' s.heap.objs.size (fun j => decide (j ∈ ns)) c → c ≤ ns.length → (∀ b o, s.heap.get? b = some o → h'.get? b = some o) → Q (.ref s.heap.objs.size) { s with heap := h', toks := tk }) :
    wpAny (model P w) A (call (.type "set") [.ref l]) Q E s := by
  have size : its.size = ns.length := by rw [← Array.length_toList]; exact hv.length
  obtain ⟨c, tl, mro⟩ := PySem.F.called_set.mro
  have made := PySem.F.called_set.made; have sub := PySem.F.called_set.sub
  refine wpAny_call (codeAny_of_tree ?_); show wpAny _ _ (callAny (.type "set") _) _ _ _
  refine wpAny_pure ⟨Code.quiet_builtin _ (by decide +kernel), codeAny_builtin PySem.F.entry_type_call ?_⟩
  rw [Around.under_plain (weight_type_call_type "set" [.ref l] []) rfl]
  have t1 := PySem.F.called_set.notType; have t2 := PySem.F.called_set.canCreate; have t3 := PySem.F.typeCall_set_1 (.ref l)
  repeat (any_goals (first | assumption | wp_step))
  refine codeAny_mono (code_set_led1 (.ref l) (E := E) (Q₁ := fun x s1 => x = .ref s.heap.objs.size ∧ s1 = { s with heap := s.heap.push (set0 w) }) ⟨rfl, rfl⟩) fun r s1 hr => ?_
  cases r with
  | error e => exact hr
  | ok fl =>
    cases fl with
    | next => exact hr.elim
    | brk => exact hr.elim
    | cont => exact hr.elim
    | ret x =>
      obtain ⟨rfl, rfl⟩ := hr
      have at0 : (s.heap.push (set0 w)).get? s.heap.objs.size = some (set0 w) := Heap.get?_push_size _ rfl
      have ty0 : Shared.TypeIs { s with heap := s.heap.push (set0 w) } (.ref s.heap.objs.size) "set" := ⟨_, at0, rfl⟩
      have i1 := PySem.F.called_set.init.lookup; have i2 := PySem.F.called_set.init.bind (.ref s.heap.objs.size)
      repeat (any_goals (first | assumption | wp_step))
      refine codeAny_mono (codeAny_call_builtin (R := wants (fun r s2 => r = .none ∧ ∃ h' tk c, s2 = { s with heap := h', toks := tk } ∧ SetR w h' s.heap.objs.size (fun j => decide (j ∈ ns)) c ∧ c ≤ ns.length ∧ (∀ b o, s.heap.get? b = some o → h'.get? b = some o)) E)
        PySem.F.called_set.init.plain PySem.F.entry_set_init (check_set_init_1 ty0 ?_)) fun r2 s2 hr2 => ?_
      · obtain ⟨o, ho, hc, nl, hd⟩ := hl
        obtain ⟨oc, od, oda, osl⟩ := o
        simp only at hc hd
        subst hc; subst hd
        have ho1 : (s.heap.push (set0 w)).get? l = some { cls := .type "list", dict := od, data := .seq its nl, slots := osl } := Heap.get?_push_of_some _ ho
        have b1 := PySem.F.sub_list_set; have b2 := PySem.F.sub_list_frozenset
        have b3 : (Value.type "list" == Value.type "dict") = false := by decide
        have hl1 : (s.heap.push (set0 w)).IsList l its := ⟨_, ho1, rfl, nl, rfl⟩
        unfold Builtin.«set.__init__» noKeywords Builtin.Frozenset.updateFrom
        generalize hPI : pyIter = PI
        wp_walk
        subst hPI
        refine wpAny_pyIter_list hl1 (wpAny_bind (wpAny_runValue ?_))
        have ltl : l < s.heap.objs.size := Heap.lt_size ho
        have hn3 : A.in1.in1.in1.handled = none := by simp [hA]
        have sz1 : (s.heap.push (set0 w)).objs.size = s.heap.objs.size + 1 := Heap.size_push ..
        have ne1 : l ≠ (s.heap.push (set0 w)).objs.size := by rw [sz1]; exact Nat.ne_of_lt (Nat.lt_succ_of_lt ltl)
        have nin : s.heap.objs.size ∉ [(s.heap.push (set0 w)).objs.size, l] := by
          rw [sz1]
          intro z
          rcases List.mem_cons.mp z with z | z
          · exact Nat.ne_of_lt (Nat.lt_succ_self _) z
          · exact Nat.ne_of_gt ltl (List.mem_singleton.mp z)
        have val : ∀ (i : Nat) (v : Value), its[i]? = some v → ∃ k t, ns[i]? = some k ∧ v = .int k t := fun i v e => by
          have hi : i < ns.length := by rw [← size]; exact (Array.getElem?_eq_some_iff.mp e).1
          obtain ⟨t, q⟩ := PyProof.Rows.IntsAre.int_at hv i v (by rw [Array.getElem?_toList]; exact e)
          exact ⟨ns[i], t, List.getElem?_eq_getElem hi, by rw [q, List.getD_eq_getElem?_getD, List.getElem?_eq_getElem hi] <;> rfl⟩
        refine set_update_ints ((Walks.list hn3 _ l ne1 its).toS) s.heap.objs.size nin ns size hb val (its.size - 0) 0 _ (by omega) (Nat.zero_le _) ⟨⟨_, Heap.get?_push_size _ rfl, rfl, rfl⟩, (hl1.push _)⟩ ?start ?fin
        case start =>
          have at1 : ((s.heap.push (set0 w)).push { cls := .type "list_iterator", data := .fields #[.ref l, .int 0 0] }).get? s.heap.objs.size = some (set0 w) := Heap.get?_push_of_some _ at0
          exact ⟨0, Nat.le_refl 0, setR_new_at at1⟩
        case fin =>
          intro s' c' mv hc' R'
          obtain ⟨h', g2, d2, tk2, os2⟩ := s'
          obtain rfl : g2 = s.gens := mv.gens
          obtain rfl : d2 = s.drawn := mv.drawn
          obtain rfl : os2 = s.os := mv.os
          show wpAny _ _ _ _ _ _
          refine wpAny_pure ?_
          show wpAny _ _ (ret Value.none) _ _ _
          refine wpAny_pure ⟨rfl, h', tk2, c', rfl, R', by omega, fun b o e => ?_⟩
          have hb0 : b < s.heap.objs.size := Heap.lt_size e
          refine mv.heap b o (fun z => ?_) (Heap.get?_push_of_some _ (Heap.get?_push_of_some _ e))
          rw [sz1] at z
          rcases List.mem_cons.mp z with z | z
          · exact Nat.ne_of_lt hb0 z
          · exact Nat.ne_of_lt (Nat.lt_succ_of_lt hb0) (List.mem_singleton.mp z)
      · cases r2 with
        | error e => exact hr2
        | ok f2 =>
          cases f2 with
          | next => exact hr2.elim
          | brk => exact hr2.elim
          | cont => exact hr2.elim
          | ret r =>
            obtain ⟨rfl, h', tk, c, rfl, R', hc', k'⟩ := hr2
            repeat (any_goals (first | assumption | wp_step))
            exact h _ _ _ R' hc' k'
end
section
variable {X : Cx}
/-- set(row of ints) -/
def rSetRow (K : PySem.W.Frag) (w : World) : List V → Hp → VK → Prop := fun xs H Q => ∃ (a : Addr) (ns : List Int), xs = [.ref a] ∧ (SqL K H a (ns.map V.int) ∨ SqT K H a (ns.map V.int)) ∧ ns.length ≤ 1000 ∧
  ∀ p c, H p = none → Q (.ref p) (upd H p (SetO w p (fun j => decide (j ∈ ns)) c))
theorem cr_setRow (hc : X.calm = true) : CallR X (.type "set") (rSetRow X.K X.w) := by
  intro pins s σ H xs us Q I r h
  obtain ⟨a, ns, rfl, hq, hl, q⟩ := h
  rw [Vals.ref1 r]
  have fin : ∀ (h' : Heap) (tk c : Nat), SetR X.w h' s.heap.objs.size (fun j => decide (j ∈ ns)) c → c ≤ ns.length → (∀ b o, s.heap.get? b = some o → h'.get? b = some o) → EP X pins σ Q (.ref s.heap.objs.size) { s with heap := h', toks := tk } := fun h' tk c R _ k =>
    ⟨.ref _, _, I.laid (t' := tk) k (Nat.le_refl _) (setO_new R), rfl, q _ c (I.hok.fresh (Nat.le_refl _))⟩
  rcases hq with hq | hq
  · obtain ⟨its, rv, pl, hz⟩ := I.list hq
    exact set_of_list ns (I.ok.hd hc) pl.isList (by simpa using ints_of_vals rv) (by unfold scanBound; omega) fin
  · obtain ⟨its, rv, pl, hz⟩ := I.tuple hq
    exact call_set_tupI ns (I.ok.hd hc) (show s.heap.IsTuple a its.toArray from pl) (by simpa using ints_of_vals rv) (by unfold scanBound; omega) fin
theorem nodup_sub : ∀ (l m : List Int), l.Nodup → (∀ x ∈ l, x ∈ m) → l.length ≤ m.length
  | [], m, _, _ => Nat.zero_le _
  | a :: l, m, nd, h => by
    obtain ⟨h1, h2⟩ := List.nodup_cons.mp nd
    have z := nodup_sub l (m.erase a) h2 fun x hx => (List.mem_erase_of_ne (fun e => h1 (by rw [← e]; exact hx))).mpr (h x (List.mem_cons_of_mem _ hx))
    have e := List.length_erase_of_mem (h a List.mem_cons_self)
    have p : 0 < m.length := List.length_pos_of_mem (h a List.mem_cons_self)
    rw [List.length_cons]
    omega
/-- a ^ b of two sets of small ints -/
def rXorS (w : World) : V → V → Hp → VK → Prop := fun x y H Q => ∃ (a b : Addr) (S T : Int → Bool) (n m : Nat), x = .ref a ∧ y = .ref b ∧ H a = some (SetO w a S n) ∧ H b = some (SetO w b T m) ∧ Sml S ∧ Sml T ∧
  ∀ p n', H p = none → (∀ l : List Int, (∀ k, (T k != S k) = true → k ∈ l) → n' ≤ l.length) → Q (.ref p) (upd H p (SetO w p (fun j => T j != S j) n'))
theorem op_xorS : OpR X (binaryOp .BitXor) (rXorS X.w) := by
  intro pins s σ H x y v u Q I rx ry h
  obtain ⟨a, b, S, T, n, m, rfl, rfl, ha, hb, smS, smT, q⟩ := h
  cases rx
  cases ry
  have RA := setO_get I ha
  have RB := setO_get I hb
  refine wpAny_binaryOp_same (op := .BitXor) (T := "set") ((RA.setOf (P := X.prog)).typeIs) ((RB.setOf (P := X.prog)).typeIs) PySem.F.fills_set_xor PySem.F.slot_set_xor (xor_sets RA RB smS smT fun h' n' d k R => ?_)
  have hn : H s.heap.objs.size = none := I.hok.fresh (Nat.le_refl _)
  have J : Inv X pins σ (upd H s.heap.objs.size (SetO X.w s.heap.objs.size (fun j => T j != S j) n')) { s with heap := h', gens := s.gens, drawn := d, toks := s.toks } :=
    I.call (ch := []) (Un.laid k (Nat.le_refl _) hn) (I.hok.laid k (Nat.le_refl _) (setO_new R)) I.bare (fun _ z => nomatch z)
  refine ⟨.ref _, _, J, rfl, q _ n' hn fun l hl => ?_⟩
  obtain ⟨o, es, ep, t, ho, hex, hd, g, nd, hm, hb', hf, hn', hr, hl'⟩ := R
  have z := nodup_sub _ l nd fun x hx => hl x ((hm x).2 hx)
  rw [List.length_map, Array.length_toList] at z
  omega
end
end DpR
namespace Dp
open PySem PySem.Spec PyProof.Rows L2 DpR
def top (i : Nat) : Stmt := PySem.Challenge.pw_doorpicks_k07_no_picks.main.body.getD i (.Pass ⟨0, 0, 0, 0⟩)
abbrev s_is_whole : Stmt := top 3
abbrev s_is_rising : Stmt := top 4
abbrev s_Picks_init : Stmt := inClass (top 13) 0
abbrev s_Picks_many : Stmt := inClass (top 13) 1
abbrev s_Picks_number : Stmt := inClass (top 13) 2
abbrev s_Picks_at : Stmt := inClass (top 13) 3
abbrev s_Picks_step : Stmt := inClass (top 13) 4
abbrev s_Picks_change : Stmt := inClass (top 13) 5
abbrev s_Picks_compared : Stmt := inClass (top 13) 6
abbrev s_Sets_init : Stmt := inClass (top 15) 0
abbrev s_Sets_many : Stmt := inClass (top 15) 1
abbrev s_Sets_number : Stmt := inClass (top 15) 2
abbrev s_Sets_at : Stmt := inClass (top 15) 3
abbrev s_Sets_step : Stmt := inClass (top 15) 4
abbrev s_Sets_change : Stmt := inClass (top 15) 5
abbrev s_law_mixed : Stmt := top 17
abbrev s_law_cell_at : Stmt := top 18
abbrev s_law_wide : Stmt := top 19
abbrev s_law_kind : Stmt := top 20
abbrev s_law_spoilt : Stmt := top 21
abbrev s_law_told : Stmt := top 22
abbrev s_law : Stmt := top 23
/-! ### what the top has written of the program -/
structure ExT (K : PySem.W.Frag) (mg : Str → Option Value) (x : Str) (C : Addr) : Prop where
  g : mg x = some (.ref C)
  x : PySem.W.excIn K C [.type "ValueError", .type "Exception", .type "BaseException", .type "object"] "ValueError.__new__" = true
  kp : PySem.W.keepIn K (.ref C) = true
  b : PySem.W.subIn K (.ref C) (.type "BaseException") = some true
  t : PySem.W.typeIn K (.ref C) = some (.type "type")
structure GlbW (mg : Str → Option Value) : Prop where
  type : mg "type" = none
  int : mg "int" = none
  isinstance : mg "isinstance" = none
  tuple : mg "tuple" = none
  list : mg "list" = none
structure LIT (mg : Str → Option Value) : Prop where
  isinstance : mg "isinstance" = none
  tuple : mg "tuple" = none
structure GD (K : PySem.W.Frag) (mg : Str → Option Value) (x : Str) (st : Stmt) (ps : List Str) (f : Addr) (fd : FuncData) : Prop where
  F : Fun K x x st f fd
  b : Binds K fd ps []
  g : mg x = some (.ref f)
def spLaw (K : PySem.W.Frag) : Sp := fun vs H Q _ => ∃ (a : Addr) (ns : List Int), vs = [.ref a] ∧ SqL K H a (ns.map V.int) ∧ ns.length ≤ 63 ∧ ∀ H', Q (.bl true) H'
/-- a method stands, its arguments bind, it keeps its promise -/
def MtOk (P : Program) (w : World) (K : PySem.W.Frag) (mg : Str → Option Value) (base : Heap) (C : Addr) (x : Str) (ps : List Str) (l : Nat) (sp : Sp) : Prop :=
  ∃ f fd, Meth K C x f ∧ Binds K fd ("self" :: ps) [] ∧ FnOk P w K mg base (L2.CX P w) l f fd ("self" :: ps) sp
def HasM (P : Program) (w : World) (K : PySem.W.Frag) (mg : Str → Option Value) (base : Heap) (C : Addr) (x : Str) (ps : List Str) (l : Nat) (sp : Sp) : Prop := ∃ k, k ≤ l ∧ MtOk P w K mg base C x ps k sp
theorem same_new {H : Hp} {p : Addr} {o : HO} (h : H p = none) : Same H (upd H p o) := fun b u e => by rw [upd_ne (ne_of_none e h)]; exact e
/-! ### the promises -/
def spWhole : Sp := fun vs H Q _ => ∃ (x : V) (lo hi : Int), vs = [x, .int lo, .int hi] ∧ Dt H x ∧ Q (.bl (wholeV x lo hi)) H
/-- what is_rising tells -/
def risB (H : Hp) (x : V) (n : Int) (r : Bool) : Prop := (isRow H x → ∀ a b xs, x = .ref a → H a = some (rowO b xs) → r = risV n 0 xs) ∧ (¬ isRow H x → r = false)
def DtIn (H : Hp) (x : V) : Prop := Dt H x ∧ ∀ a b xs, x = .ref a → H a = some (rowO b xs) → ∀ y ∈ xs, Dt H y
def spRising : Sp := fun vs H Q _ => ∃ (x : V) (n : Int), vs = [x, .int n] ∧ DtIn H x ∧ ∀ (r : Bool) H', Same H H' → risB H x n r → Q (.bl r) H'
theorem whole_nat {x : V} {hi : Nat} (h : wholeV x 0 hi = true) : ∃ n : Nat, x = nv n ∧ n ≤ hi := by
  cases x with
  | int i =>
    have h' : (decide (0 ≤ i) && decide (i ≤ (hi : Int))) = true := h
    rw [Bool.and_eq_true, decide_eq_true_eq, decide_eq_true_eq] at h'
    refine ⟨i.toNat, ?_, by omega⟩
    show V.int i = V.int (i.toNat : Int)
    congr 1
    omega
  | _ => exact absurd (show false = true from h) Bool.false_ne_true
theorem whole_nv (n hi : Nat) : wholeV (nv n) 0 hi = decide (n ≤ hi) := by
  show (decide ((0 : Int) ≤ (n : Int)) && decide ((n : Int) ≤ (hi : Int))) = decide (n ≤ hi)
  rw [decide_eq_true (by omega : (0 : Int) ≤ (n : Int)), Bool.true_and]
  by_cases h : n ≤ hi
  · rw [decide_eq_true h, decide_eq_true (by omega)]
  · rw [decide_eq_false h, decide_eq_false (by omega)]
theorem nv_inj {a b : Nat} (h : nv a = nv b) : a = b := by
  have := V.int.inj h
  omega
theorem drop_more {ds : List Nat} {i : Nat} (h : i < ds.length) : ∃ t, ds.drop (ds.length - (i + 1)) = t :: ds.drop (ds.length - i) ∧ (asc ds)[i]? = some (nv t) := by
  have h2 : ds.length - (i + 1) < ds.length := by omega
  refine ⟨ds[ds.length - (i + 1)], ?_, ?_⟩
  · rw [List.drop_eq_getElem_cons h2]
    congr 2
    omega
  · unfold asc
    rw [List.getElem?_map, List.getElem?_reverse h]
    have e : ds.length - 1 - i = ds.length - (i + 1) := by omega
    rw [e, List.getElem?_eq_getElem h2]
    rfl
theorem un_zero (n : Nat) (p : Int) : un n 0 p = [] := by cases n <;> rfl
structure PkC (K : PySem.W.Frag) (C : Addr) : Prop where
  cl : Cls K C
  nT : NoAttr K C "things"
  nS : NoAttr K C "size"
/-! ### a Picks object -/
def pkF (n m : Nat) : List (Str × V) := putF "size" (nv m) (putF "things" (nv n) [])
theorem ts_ne : ¬ (("things" : Str) = "size") := by decide +kernel
theorem pkF_things (n m : Nat) : (pkF n m).lookup ("things" : Str) = some (nv n) := by
  unfold pkF
  rw [lookup_putF, if_neg ts_ne, lookup_putF, if_pos rfl]
theorem pkF_size (n m : Nat) : (pkF n m).lookup ("size" : Str) = some (nv m) := by
  unfold pkF
  rw [lookup_putF, if_pos rfl]
theorem pkF_no (n m : Nat) {x : Str} (h1 : ¬ x = "size") (h2 : ¬ x = "things") : (pkF n m).lookup x = none := by
  unfold pkF
  rw [lookup_putF, if_neg h1, lookup_putF, if_neg h2]
  all_goals rfl
structure PkAt (C : Addr) (H : Hp) (p : Addr) (n m : Nat) : Prop where
  ob : ∃ dx, H p = some (.ins C dx (pkF n m))
  n200 : n ≤ 200
  mn : m ≤ n
theorem PkAt.mono {C : Addr} {H H' : Hp} {p : Addr} {n m : Nat} (h : PkAt C H p n m) (s : Same H H') : PkAt C H' p n m :=
  ⟨let ⟨dx, e⟩ := h.ob; ⟨dx, s _ _ e⟩, h.n200, h.mn⟩
/-- one is the pick ds of m things out of n -/
def IsPk (H : Hp) (one : V) (n m : Nat) (ds : List Nat) : Prop := ∃ a b, one = .ref a ∧ H a = some (rowO b (asc ds)) ∧ Desc n ds ∧ ds.length = m
theorem IsPk.mono {H H' : Hp} {one : V} {n m : Nat} {ds : List Nat} (h : IsPk H one n m ds) (s : Same H H') : IsPk H' one n m ds :=
  let ⟨a, b, e, q, r⟩ := h; ⟨a, b, e, s _ _ q, r⟩
theorem IsPk.inj {H : Hp} {one : V} {n m : Nat} {ds ds' : List Nat} (h : IsPk H one n m ds) (h' : IsPk H one n m ds') : ds = ds' := by
  obtain ⟨a, b, rfl, q, _⟩ := h
  obtain ⟨a', b', e, q', _⟩ := h'
  cases e
  rw [q] at q'
  cases b <;> cases b' <;> first | exact asc_inj (HO.lst.inj (Option.some.inj q')) | exact asc_inj (HO.tup.inj (Option.some.inj q')) | cases q'
def spInit (C CB : Addr) : Sp := fun vs H Q E => ∃ (p dx : Addr) (x y : V), vs = [.ref p, x, y] ∧ H p = some (.ins C dx []) ∧ Dt H x ∧ Dt H y ∧
  (∀ n m : Nat, x = nv n → y = nv m → n ≤ 200 → m ≤ n → Q .non (upd H p (.ins C dx (pkF n m)))) ∧
  ((¬ ∃ n m : Nat, x = nv n ∧ y = nv m ∧ n ≤ 200 ∧ m ≤ n) → E (.ref CB) none H)
def spMany (C : Addr) : Sp := fun vs H Q _ => ∃ (p : Addr) (n m : Nat), vs = [.ref p] ∧ PkAt C H p n m ∧ Q (nv (ch n m)) H
def spNumber (C CP : Addr) : Sp := fun vs H Q E => ∃ (p : Addr) (n m : Nat) (one : V), vs = [.ref p, one] ∧ PkAt C H p n m ∧ DtIn H one ∧
  (∀ ds H', IsPk H one n m ds → Same H H' → Q (.int (rk ds)) H') ∧ (∀ H', (¬ ∃ ds, IsPk H one n m ds) → Same H H' → E (.ref CP) none H')
def spAt (C CN : Addr) : Sp := fun vs H Q E => ∃ (p : Addr) (n m : Nat) (x : V), vs = [.ref p, x] ∧ PkAt C H p n m ∧ Dt H x ∧
  (∀ i q H', x = .int i → 0 ≤ i → i < ch n m → Same H H' → H q = none → H' q = some (.tup (asc (un n m i))) → Q (.ref q) H') ∧
  ((¬ ∃ i, x = .int i ∧ 0 ≤ i ∧ i < ch n m) → E (.ref CN) none H)
def spStep (C CP : Addr) : Sp := fun vs H Q E => ∃ (p : Addr) (n m : Nat) (one : V) (by_ : Int), vs = [.ref p, one, .int by_] ∧ PkAt C H p n m ∧ DtIn H one ∧
  (∀ ds q H', IsPk H one n m ds → Same H H' → H q = none → H' q = some (.tup (asc (un n m ((rk ds + by_) % (ch n m : Int))))) → Q (.ref q) H') ∧ (∀ H', (¬ ∃ ds, IsPk H one n m ds) → Same H H' → E (.ref CP) none H')
/-- the pick behind ds, round the end -/
def nxt (n m : Nat) (ds : List Nat) : List Nat := un n m ((rk ds + 1) % (ch n m : Int))
theorem nxt_ex {n m : Nat} {ds : List Nat} (hd : Desc n ds) (hl : ds.length = m) (h0 : 0 < m) (h1 : m < n) : ∃ o i, Ex ds (nxt n m ds) o i := by
  have hpos : 1 ≤ ch n m := ch_pos (Nat.le_of_lt h1)
  have d0 := Int.emod_nonneg (rk ds + 1) (b := (ch n m : Int)) (by omega)
  have d1 := Int.emod_lt_of_pos (rk ds + 1) (b := (ch n m : Int)) (by omega)
  have ⟨a, b, c⟩ := un_spec m n _ d0 d1
  exact ex_step hd a hl b h0 h1 c
def spChange (C CP CC : Addr) : Sp := fun vs H Q E => ∃ (p : Addr) (n m : Nat) (one : V), vs = [.ref p, one] ∧ PkAt C H p n m ∧ DtIn H one ∧
  (∀ ds o i q H', IsPk H one n m ds → 0 < m → m < n → Ex ds (nxt n m ds) o i → Same H H' → H q = none → H' q = some (.tup [nv o, nv i]) → Q (.ref q) H') ∧
  (∀ H', (∃ ds, IsPk H one n m ds) → (m = 0 ∨ m = n) → Same H H' → E (.ref CC) none H') ∧ (∀ H', (¬ ∃ ds, IsPk H one n m ds) → Same H H' → E (.ref CP) none H')
theorem ch_one {n m : Nat} (h : m ≤ n) : (ch n m : Int) = 1 ↔ (m = 0 ∨ m = n) := by
  constructor
  · intro e
    by_cases h0 : m = 0
    · exact .inl h0
    · by_cases h1 : m = n
      · exact .inr h1
      · have := ch_two (n := n) (k := m) (by omega) (by omega)
        omega
  · rintro (e | e)
    · rw [e, ch_zero]; rfl
    · rw [e, ch_self]; rfl
def cmpI (a b : Int) : Int := if a < b then -1 else if b < a then 1 else 0
def spCompared (C CP : Addr) : Sp := fun vs H Q E => ∃ (p : Addr) (n m : Nat) (one other : V), vs = [.ref p, one, other] ∧ PkAt C H p n m ∧ DtIn H one ∧ DtIn H other ∧
  (∀ ds ds' H', IsPk H one n m ds → IsPk H other n m ds' → Same H H' → Q (.int (cmpI (rk ds) (rk ds'))) H') ∧ (∀ H', ¬ ((∃ ds, IsPk H one n m ds) ∧ ∃ ds, IsPk H other n m ds) → Same H H' → E (.ref CP) none H')
theorem DtIn.mono {H H' : Hp} {x : V} (h : DtIn H x) (s : Same H H') : DtIn H' x := by
  refine ⟨h.1.mono s, fun a b xs e ha y hy => ?_⟩
  subst e
  cases h.1 with
  | row b' xs' h' =>
    have h2 := s _ _ h'
    rw [ha] at h2
    have hh : H a = some (rowO b xs) := by rw [h', ← Option.some.inj h2]
    exact (h.2 a b xs rfl hh y hy).mono s
  | dic kvs h' =>
    have h2 := s _ _ h'
    rw [ha] at h2
    cases b <;> cases h2
theorem pk_back {H H' : Hp} {x : V} {n m : Nat} {ds : List Nat} (h : DtIn H x) (s : Same H H') (k : IsPk H' x n m ds) : IsPk H x n m ds := by
  obtain ⟨a, b, rfl, ha, hd, hl⟩ := k
  cases h.1 with
  | row b' xs' h' =>
    have h2 := s _ _ h'
    rw [ha] at h2
    exact ⟨a, b, rfl, by rw [h', ← Option.some.inj h2], hd, hl⟩
  | dic kvs h' =>
    have h2 := s _ _ h'
    rw [ha] at h2
    cases b <;> cases h2
theorem dtIn_pk {H : Hp} {one : V} {n m : Nat} {ds : List Nat} (h : IsPk H one n m ds) : DtIn H one := by
  obtain ⟨a, b, rfl, ha, _⟩ := h
  refine ⟨.row b _ ha, fun a' b' xs e ha' y hy => ?_⟩
  cases e
  rw [ha] at ha'
  have e : asc ds = xs := by
    cases b <;> cases b' <;> first | exact HO.lst.inj (Option.some.inj ha') | exact HO.tup.inj (Option.some.inj ha') | cases ha'
  rw [← e] at hy
  unfold asc at hy
  obtain ⟨t, _, rfl⟩ := List.mem_map.mp hy
  exact .int _
theorem pk_un {H : Hp} {q : Addr} {n m : Nat} {i : Int} (h : H q = some (.tup (asc (un n m i)))) (h0 : 0 ≤ i) (h1 : i < ch n m) : IsPk H (.ref q) n m (un n m i) :=
  let ⟨a, b, _⟩ := un_spec m n i h0 h1
  ⟨q, true, rfl, h, a, b⟩
theorem pk_made {C x dx : Addr} {H : Hp} {n m : Nat} (h1 : n ≤ 200) (h2 : m ≤ n) : PkAt C (upd (upd (upd H dx (.own x)) x (.ins C dx [])) x (.ins C dx (pkF n m))) x n m := ⟨⟨dx, upd_same⟩, h1, h2⟩
theorem same_made {C x dx : Addr} {H : Hp} {n m : Nat} (hx : H x = none) (hd : H dx = none) : Same H (upd (upd (upd H dx (.own x)) x (.ins C dx [])) x (.ins C dx (pkF n m))) := fun b o e => by
  have n1 : b ≠ x := ne_of_none e hx
  have n2 : b ≠ dx := ne_of_none e hd
  rw [upd_ne n1, upd_ne n1, upd_ne n2]
  exact e
/-- the class Picks: it makes its objects -/
structure PicksB (P : Program) (w : World) (K : PySem.W.Frag) (mg : Str → Option Value) (base : Heap) (C CB : Addr) (l : Nat) : Prop where
  T : PkC K C
  g : mg "Picks" = some (.ref C)
  made : ∃ f fd, Mk K C f ∧ Binds K fd ["self", "things", "size"] [] ∧ ∃ k, k ≤ l ∧ FnOk P w K mg base (L2.CX P w) k f fd ["self", "things", "size"] (spInit C CB)
/-! ### a Sets object, and what its methods promise -/
structure SkC (K : PySem.W.Frag) (C : Addr) : Prop where
  cl : Cls K C
  nT : NoAttr K C "things"
def skF (n : Nat) : List (Str × V) := putF "things" (nv n) []
theorem skF_things (n : Nat) : (skF n).lookup ("things" : Str) = some (nv n) := by
  unfold skF
  rw [lookup_putF, if_pos rfl]
theorem skF_no (n : Nat) {x : Str} (h2 : ¬ x = "things") : (skF n).lookup x = none := by
  unfold skF
  rw [lookup_putF, if_neg h2]
  all_goals rfl
structure SkAt (C : Addr) (H : Hp) (p : Addr) (n : Nat) : Prop where
  ob : ∃ dx, H p = some (.ins C dx (skF n))
  n200 : n ≤ 200
theorem SkAt.mono {C : Addr} {H H' : Hp} {p : Addr} {n : Nat} (h : SkAt C H p n) (s : Same H H') : SkAt C H' p n :=
  ⟨let ⟨dx, e⟩ := h.ob; ⟨dx, s _ _ e⟩, h.n200⟩
/-- one is the set ds of n things -/
def IsSet (H : Hp) (one : V) (n : Nat) (ds : List Nat) : Prop := ∃ a b, one = .ref a ∧ H a = some (rowO b (asc ds)) ∧ Desc n ds
theorem IsSet.mono {H H' : Hp} {one : V} {n : Nat} {ds : List Nat} (h : IsSet H one n ds) (s : Same H H') : IsSet H' one n ds :=
  let ⟨a, b, e, q, r⟩ := h; ⟨a, b, e, s _ _ q, r⟩
theorem IsSet.inj {H : Hp} {one : V} {n : Nat} {ds ds' : List Nat} (h : IsSet H one n ds) (h' : IsSet H one n ds') : ds = ds' := by
  obtain ⟨a, b, rfl, q, _⟩ := h
  obtain ⟨a', b', e, q', _⟩ := h'
  cases e
  rw [q] at q'
  cases b <;> cases b' <;> first | exact asc_inj (HO.lst.inj (Option.some.inj q')) | exact asc_inj (HO.tup.inj (Option.some.inj q')) | cases q'
/-- how many sets there are -/
def sN (n : Nat) : Int := ((2 ^ n : Nat) : Int)
theorem sN_pos (n : Nat) : 0 < sN n := by have := p2_pos n; unfold sN; omega
/-- the set so many steps on -/
def gst (n : Nat) (ds : List Nat) (b : Int) : List Nat := gu n ((gr ds + b) % sN n)
theorem gst_spec (n : Nat) (ds : List Nat) (b : Int) : Desc n (gst n ds b) ∧ gr (gst n ds b) = (gr ds + b) % sN n :=
  gu_spec n _ (Int.emod_nonneg _ (by have := sN_pos n; omega)) (Int.emod_lt_of_pos _ (sN_pos n))
def spSInit (C CB : Addr) : Sp := fun vs H Q E => ∃ (p dx : Addr) (x : V), vs = [.ref p, x] ∧ H p = some (.ins C dx []) ∧ Dt H x ∧
  (∀ n : Nat, x = nv n → n ≤ 200 → Q .non (upd H p (.ins C dx (skF n)))) ∧ ((¬ ∃ n : Nat, x = nv n ∧ n ≤ 200) → E (.ref CB) none H)
def spSMany (C : Addr) : Sp := fun vs H Q _ => ∃ (p : Addr) (n : Nat), vs = [.ref p] ∧ SkAt C H p n ∧ ∀ H', Same H H' → Q (.int (sN n)) H'
def spSNumber (C CP : Addr) : Sp := fun vs H Q E => ∃ (p : Addr) (n : Nat) (one : V), vs = [.ref p, one] ∧ SkAt C H p n ∧ DtIn H one ∧
  (∀ ds H', IsSet H one n ds → Same H H' → Q (.int (gr ds)) H') ∧ (∀ H', (¬ ∃ ds, IsSet H one n ds) → Same H H' → E (.ref CP) none H')
def spSAt (C CN : Addr) : Sp := fun vs H Q E => ∃ (p : Addr) (n : Nat) (x : V), vs = [.ref p, x] ∧ SkAt C H p n ∧ Dt H x ∧
  (∀ i q H', x = .int i → 0 ≤ i → i < sN n → Same H H' → H q = none → H' q = some (.tup (asc (gu n i))) → Q (.ref q) H') ∧
  (∀ H', (¬ ∃ i, x = .int i ∧ 0 ≤ i ∧ i < sN n) → Same H H' → E (.ref CN) none H')
def spSStep (C CP : Addr) : Sp := fun vs H Q E => ∃ (p : Addr) (n : Nat) (one : V) (by_ : Int), vs = [.ref p, one, .int by_] ∧ SkAt C H p n ∧ DtIn H one ∧
  (∀ ds q H', IsSet H one n ds → Same H H' → H q = none → H' q = some (.tup (asc (gst n ds by_))) → Q (.ref q) H') ∧ (∀ H', (¬ ∃ ds, IsSet H one n ds) → Same H H' → E (.ref CP) none H')
def spSChange (C CP CC : Addr) : Sp := fun vs H Q E => ∃ (p : Addr) (n : Nat) (one : V), vs = [.ref p, one] ∧ SkAt C H p n ∧ DtIn H one ∧
  (∀ ds t H', IsSet H one n ds → 0 < n → t < n → Tg ds (gst n ds 1) t → Same H H' → Q (nv t) H') ∧
  (∀ H', (∃ ds, IsSet H one n ds) → n = 0 → Same H H' → E (.ref CC) none H') ∧ (∀ H', (¬ ∃ ds, IsSet H one n ds) → Same H H' → E (.ref CP) none H')
theorem set_gu {H : Hp} {q : Addr} {n : Nat} {i : Int} (h : H q = some (.tup (asc (gu n i)))) (h0 : 0 ≤ i) (h1 : i < sN n) : IsSet H (.ref q) n (gu n i) :=
  let ⟨a, _⟩ := gu_spec n i h0 h1
  ⟨q, true, rfl, h, a⟩
theorem dtIn_set {H : Hp} {one : V} {n : Nat} {ds : List Nat} (h : IsSet H one n ds) : DtIn H one := by
  obtain ⟨a, b, rfl, ha, _⟩ := h
  refine ⟨.row b _ ha, fun a' b' xs e ha' y hy => ?_⟩
  cases e
  rw [ha] at ha'
  have e : asc ds = xs := by
    cases b <;> cases b' <;> first | exact HO.lst.inj (Option.some.inj ha') | exact HO.tup.inj (Option.some.inj ha') | cases ha'
  rw [← e] at hy
  unfold asc at hy
  obtain ⟨t, _, rfl⟩ := List.mem_map.mp hy
  exact .int _
theorem sk_made {C x dx : Addr} {H : Hp} {n : Nat} (h1 : n ≤ 200) : SkAt C (upd (upd (upd H dx (.own x)) x (.ins C dx [])) x (.ins C dx (skF n))) x n := ⟨⟨dx, upd_same⟩, h1⟩
theorem same_mk {C x dx : Addr} {H : Hp} {fs : List (Str × V)} (hx : H x = none) (hd : H dx = none) : Same H (upd (upd (upd H dx (.own x)) x (.ins C dx [])) x (.ins C dx fs)) := fun b o e => by
  have n1 : b ≠ x := ne_of_none e hx
  have n2 : b ≠ dx := ne_of_none e hd
  rw [upd_ne n1, upd_ne n1, upd_ne n2]
  exact e
/-- the class Sets: it makes its objects -/
structure SetsB (P : Program) (w : World) (K : PySem.W.Frag) (mg : Str → Option Value) (base : Heap) (C CB : Addr) (l : Nat) : Prop where
  T : SkC K C
  g : mg "Sets" = some (.ref C)
  made : ∃ f fd, Mk K C f ∧ Binds K fd ["self", "things"] [] ∧ ∃ k, k ≤ l ∧ FnOk P w K mg base (L2.CX P w) k f fd ["self", "things"] (spSInit C CB)
end Dp
namespace Dp
open PySem PySem.Spec PyProof.Rows L2 DpR
/-! ### what the law's own small defs tell -/
structure LG (mg : Str → Option Value) : Prop where
  len : mg "len" = none
  range : mg "range" = none
  min : mg "min" = none
  max : mg "max" = none
def Drawn (c : Int) : Prop := 0 ≤ c ∧ c < 2147483399
def spMixed : Sp := fun vs H Q _ => ∃ c k : Int, vs = [.int c, .int k] ∧ ∀ d, Drawn d → Q (.int d) H
def spCellAt (K : PySem.W.Frag) : Sp := fun vs H Q _ => ∃ (a : Addr) (ns : List Int) (k : Nat), vs = [.ref a, nv k] ∧ SqL K H a (ns.map V.int) ∧ ∀ d, Drawn d → Q (.int d) H
def spWide : Sp := fun vs H Q _ => ∃ c b : Int, vs = [.int c, .int b] ∧ 0 < b ∧ ∀ r, 0 ≤ r → r < b → Q (.int r) H
def spSize : Sp := fun vs H Q _ => ∃ c : Int, vs = [.int c] ∧ 0 ≤ c ∧ ∀ (n m : Nat) (p : Addr) H', n ≤ 200 → m ≤ n → Same H H' → H p = none → H' p = some (.tup [nv n, nv m]) → Q (.ref p) H'
structure GX (K : PySem.W.Frag) (mg : Str → Option Value) (f : Addr) (fd : FuncData) : Prop where
  F : Fun K "_law_mixed" "_law_mixed" s_law_mixed f fd
  b : Binds K fd ["_law_cell", "_law_k"] []
  g : mg "_law_mixed" = some (.ref f)
section
variable {P : Program} {w : World} {K : PySem.W.Frag} {mg : Str → Option Value} {base : Heap}
theorem scMixed : FnScope ["_law_cell", "_law_k", "_law_mix"] ["_law_cell", "_law_k"] (defScope s_law_mixed) := ⟨rfl, rfl, rfl, by decide +kernel, rfl, by decide +kernel, by decide +kernel⟩
theorem ok_mixed {f : Addr} {fd : FuncData} (F : Fun K "_law_mixed" "_law_mixed" s_law_mixed f fd) : FnOk P w K mg base CX0 1 f fd ["_law_cell", "_law_k"] spMixed := by
  refine F.ok scMixed (fun vs H Q E h => ?_) (fun cdv A outer s H vs Q E hr h => ?_)
  · obtain ⟨c, k, rfl, _⟩ := h
    rfl
  · obtain ⟨c, k, rfl, q⟩ := h
    refine ⟨_, pss_cons (ps_set (i := 2) scMixed.nd rfl (Or.inl rfl) (pe_op op_mod (pe_op op_mul (pe_op op_add (pe_op op_add (pv 0) (pe_op op_mul pe_int (pv 1))) pe_int) pe_int) pe_int))
      (pss_one (ps_ret (pe_op op_mod (pe_op op_add (pe_op op_mul (pv 2) (pv 2)) (pe_op op_mul pe_int (pv 2))) pe_int))), ?_⟩
    have h1 := Int.emod_nonneg ((c + 7919 * k + 11) * 48271) (b := 2147483647) (by decide)
    have h2 := Int.emod_lt_of_pos ((c + 7919 * k + 11) * 48271) (b := 2147483647) (by decide)
    refine ⟨_, rfl, _, rfl, _, _, rfl, rfl, .inl ⟨by decide, by decide⟩, _, _, rfl, rfl, _, _, rfl, rfl, _, _, rfl, rfl, .inr ⟨by decide, by decide⟩, _, _, rfl, rfl, (by show (0 : Int) < 2147483647; decide), ?_⟩
    refine ⟨_, rfl, _, rfl, _, _, rfl, rfl, .inl ⟨by omega, by omega⟩, _, rfl, _, _, rfl, rfl, .inl ⟨by decide, by decide⟩, _, _, rfl, rfl, _, _, rfl, rfl, (by show (0 : Int) < 2147483399; decide), ?_⟩
    exact q _ ⟨Int.emod_nonneg _ (by decide), Int.emod_lt_of_pos _ (by decide)⟩
theorem scCellAt : FnScope ["_law_script", "_law_k", "_law_cell"] ["_law_script", "_law_k"] (defScope s_law_cell_at) := ⟨rfl, rfl, rfl, by decide +kernel, rfl, by decide +kernel, by decide +kernel⟩
theorem ok_cellAt {f fX : Addr} {fd fdX : FuncData} (F : Fun K "_law_cell_at" "_law_cell_at" s_law_cell_at f fd) (L : LG mg) (X : GX K mg fX fdX) : FnOk P w K mg base CX0 2 f fd ["_law_script", "_law_k"] (spCellAt K) := by
  have GXk : FnOk P w K mg base CX0 1 fX fdX ["_law_cell", "_law_k"] spMixed := ok_mixed X.F
  refine F.ok scCellAt (fun vs H Q E h => ?_) (fun cdv A outer s H vs Q E hr h => ?_)
  · obtain ⟨a, ns, k, rfl, _⟩ := h
    rfl
  · obtain ⟨a, ns, k, rfl, hS, q⟩ := h
    refine ⟨_, pss_cons (ps_set (i := 2) scCellAt.nd rfl (Or.inl rfl) pe_int)
      (pss_cons (ps_if (pt_cmpR op_lt (pv 1) (pe_callB call_len_seq (by rfl) L.len PySem.boot_len (pa_cons (pv 0) pa_nil)) (nomark _)) (pss_one (ps_set (i := 2) scCellAt.nd rfl (Or.inl rfl) (pe_ix ix_list (pv 0) (pv 1) (fun _ _ => rfl)))) pss_nil)
      (pss_one (ps_ret (pe_call GXk hr rfl X.g X.F.kp X.b .nil pass0 (pa_cons (pv 2) (pa_cons (pe_op op_add pe_int (pv 1)) pa_nil)))))), ?_⟩
    refine ⟨_, rfl, _, rfl, a, _, rfl, .inl hS, _, _, rfl, rfl, _, rfl, ?_⟩
    by_cases c : k < (ns.map V.int).length
    · refine if_true_of (decide_eq_true (by omega)) ?_
      obtain ⟨z, hz⟩ : ∃ z, ns[k]? = some z := ⟨ns[k]'(by simpa using c), by simp⟩
      refine ⟨_, rfl, _, rfl, a, _, _, V.int z, rfl, rfl, hS, atI_nat (by rw [List.getElem?_map, hz]; rfl), ?_⟩
      exact ⟨_, rfl, _, rfl, _, _, rfl, rfl, _, _, rfl, q⟩
    · refine if_false_of (decide_eq_false (by omega)) ?_
      exact ⟨_, rfl, _, rfl, _, _, rfl, rfl, _, _, rfl, q⟩
end
section
variable {P : Program} {w : World} {K : PySem.W.Frag} {mg : Str → Option Value} {base : Heap}
theorem scWide : FnScope ["_law_cell", "_law_bound", "_law_found", "_law_k"] ["_law_cell", "_law_bound"] (defScope s_law_wide) := ⟨rfl, rfl, rfl, by decide +kernel, rfl, by decide +kernel, by decide +kernel⟩
theorem ok_wide {f fX : Addr} {fd fdX : FuncData} (F : Fun K "_law_wide" "_law_wide" s_law_wide f fd) (L : LG mg) (X : GX K mg fX fdX) : FnOk P w K mg base CX0 2 f fd ["_law_cell", "_law_bound"] spWide := by
  have GXk : FnOk P w K mg base CX0 1 fX fdX ["_law_cell", "_law_k"] spMixed := ok_mixed X.F
  refine F.ok scWide (fun vs H Q E h => ?_) (fun cdv A outer s H vs Q E hr h => ?_)
  · obtain ⟨c, b, rfl, _⟩ := h
    rfl
  · obtain ⟨c, b, rfl, hb, q⟩ := h
    refine ⟨_, pss_cons (ps_if (PW.pt (pw_or (pt_cmpR op_lt (pv 1) pe_int (nomark _)) (pw_or1 (pt_cmpR op_eq (pe_op op_mod (pv 0) pe_int) pe_int (nomark _))))) (pss_one (ps_ret pe_int)) pss_nil)
      (pss_cons (ps_if (pt_cmpR op_eq (pe_op op_mod (pv 0) pe_int) pe_int (nomark _)) (pss_one (ps_ret (pe_op op_sub (pv 1) pe_int))) pss_nil)
      (pss_cons (ps_set (i := 2) scWide.nd rfl (Or.inl rfl) pe_int)
      (pss_cons (ps_for PassesOwn.never rfl (pi_range1 rfl L.range (pa_cons pe_int pa_nil)) (pg_name (i := 3) scWide.nd rfl (Or.inl rfl))
        (pss_one (ps_set (i := 2) scWide.nd rfl (Or.inl rfl) (pe_op op_add (pe_op op_mul (pv 2) pe_int) (pe_call GXk hr rfl X.g X.F.kp X.b .nil pass0 (pa_cons (pv 0) (pa_cons (pe_op op_add pe_int (pv 3)) pa_nil)))))))
      (pss_one (ps_ret (pe_op op_mod (pv 2) (pv 1))))))), ?_⟩
    refine ⟨_, rfl, _, _, rfl, rfl, _, rfl, ?_⟩
    by_cases c1 : b < 2
    · exact if_true_of (decide_eq_true c1) (iteT (q 0 (Int.le_refl _) hb))
    · refine if_false_of (decide_eq_false c1) ?_
      refine ⟨_, rfl, _, _, rfl, rfl, (by show (0 : Int) < 9; decide), rfl, _, rfl, ?_⟩
      refine ite2 (fun _ => q 0 (Int.le_refl _) hb) (fun _ => ?_)
      refine ⟨_, rfl, _, _, rfl, rfl, (by show (0 : Int) < 9; decide), rfl, _, rfl, ?_⟩
      refine ite2 (fun _ => ?_) (fun _ => ?_)
      · exact ⟨_, rfl, _, _, rfl, rfl, q _ (by omega) (by omega)⟩
      · refine ⟨8, rfl, by decide, by decide, for_range (n := 8) (fun i σ H' => ∃ z v, σ = [some (.int c), some (.int b), some (.int z), v] ∧ H' = H) ⟨0, none, rfl, rfl⟩ ?_ ?_⟩
        · rintro i σ H1 hi ⟨z, v, rfl, rfl⟩
          refine ⟨_, rfl, _, _, rfl, rfl, .inr ⟨by decide, by decide⟩, _, rfl, _, rfl, _, _, rfl, rfl, _, _, rfl, fun d hd => ?_⟩
          exact ⟨_, _, rfl, rfl, _, _, rfl, rfl⟩
        · rintro σ H1 ⟨z, v, rfl, rfl⟩
          exact ⟨_, rfl, _, rfl, _, _, rfl, rfl, hb, q _ (Int.emod_nonneg _ (by omega)) (Int.emod_lt_of_pos _ hb)⟩
end
/-! ### the law's _law_kind: which refusal it was -/
structure KindX (K : PySem.W.Frag) (CB CP CN CC CT D : Addr) (j : Nat) : Prop where
  ex : ExcC K D
  b0 : PySem.W.kitOne K (.ref D) (.ref CB) = some (decide (j = 0))
  b1 : PySem.W.kitOne K (.ref D) (.ref CP) = some (decide (j = 1))
  b2 : PySem.W.kitOne K (.ref D) (.ref CN) = some (decide (j = 2))
  b3 : PySem.W.kitOne K (.ref D) (.ref CC) = some (decide (j = 3))
  b4 : PySem.W.kitOne K (.ref D) (.ref CT) = some (decide (j = 4))
  ve : PySem.W.kitOne K (.ref D) (.type "ValueError") = some true
def kname : Nat → Str
  | 0 => "bounds"
  | 1 => "pick"
  | 2 => "number"
  | 3 => "change"
  | _ => "text"
structure KG (mg : Str → Option Value) (CB CP CN CC CT : Addr) : Prop where
  isinstance : mg "isinstance" = none
  ve : mg "ValueError" = none
  gB : mg "NoBounds" = some (.ref CB)
  gP : mg "NoPick" = some (.ref CP)
  gN : mg "NoNumber" = some (.ref CN)
  gC : mg "NoChange" = some (.ref CC)
  gT : mg "NoText" = some (.ref CT)
def spKind (K : PySem.W.Frag) (CB CP CN CC CT : Addr) : Sp := fun vs H Q _ => ∃ (a D : Addr) (j : Nat), vs = [.ref a] ∧ H a = some (ExD (.ref D) none a) ∧ KindX K CB CP CN CC CT D j ∧ j < 5 ∧ ∀ H', Same H H' → Q (.str (kname j)) H'
def marks (j : Nat) : List V := [.bl (decide (j = 0)), .bl (decide (j = 1)), .bl (decide (j = 2)), .bl (decide (j = 3)), .bl (decide (j = 4))]
theorem marks_count {j : Nat} (h : j < 5) : ((marks j).countP fun z => eqV z (.bl true)) = 1 := by
  match j, h with
  | 0, _ => decide
  | 1, _ => decide
  | 2, _ => decide
  | 3, _ => decide
  | 4, _ => decide
theorem marks_flat (j : Nat) : (marks j).all flatV = true := rfl
theorem marks_at {j : Nat} (h : j < 5) : (marks j)[j]? = some (.bl true) ∧ ∀ (m : Nat) (z : V), m < j → (marks j)[m]? = some z → eqV z (.bl true) = false := by
  match j, h with
  | 0, _ => exact ⟨rfl, fun m z hm => absurd hm (Nat.not_lt_zero _)⟩
  | 1, _ => exact ⟨rfl, fun m z hm e => by match m, hm, e with | 0, _, e => cases e; rfl⟩
  | 2, _ => exact ⟨rfl, fun m z hm e => by match m, hm, e with | 0, _, e => cases e; rfl | 1, _, e => cases e; rfl⟩
  | 3, _ => exact ⟨rfl, fun m z hm e => by match m, hm, e with | 0, _, e => cases e; rfl | 1, _, e => cases e; rfl | 2, _, e => cases e; rfl⟩
  | 4, _ => exact ⟨rfl, fun m z hm e => by match m, hm, e with | 0, _, e => cases e; rfl | 1, _, e => cases e; rfl | 2, _, e => cases e; rfl | 3, _, e => cases e; rfl⟩
theorem kname_at {j : Nat} (h : j < 5) : ([.str "bounds", .str "pick", .str "number", .str "change", .str "text"] : List V)[j]? = some (.str (kname j)) := by
  match j, h with
  | 0, _ => rfl
  | 1, _ => rfl
  | 2, _ => rfl
  | 3, _ => rfl
  | 4, _ => rfl
section
variable {P : Program} {w : World} {K : PySem.W.Frag} {mg : Str → Option Value} {base : Heap}
theorem scKind : FnScope ["_law_e", "_law_marks"] ["_law_e"] (defScope s_law_kind) := ⟨rfl, rfl, rfl, by decide +kernel, rfl, by decide +kernel, by decide +kernel⟩
theorem ok_kind {f CB CP CN CC CT : Addr} {fd : FuncData} (F : Fun K "_law_kind" "_law_kind" s_law_kind f fd) (G : KG mg CB CP CN CC CT) : FnOk P w K mg base CX0 1 f fd ["_law_e"] (spKind K CB CP CN CC CT) := by
  refine F.ok scKind (fun vs H Q E h => ?_) (fun cdv A outer s H vs Q E hr h => ?_)
  · obtain ⟨a, D, j, rfl, _⟩ := h
    rfl
  · obtain ⟨a, D, j, rfl, ha, kx, hj, q⟩ := h
    refine ⟨_, pss_cons (ps_set (i := 1) scKind.nd rfl (Or.inl rfl) (pe_lst (pa_cons (pe_callB call_isX (by rfl) G.isinstance (by decide +kernel) (pa_cons (pv 0) (pa_cons (pe_glob (v := .ref CB) (by rfl) G.gB rfl) pa_nil)))
          (pa_cons (pe_callB call_isX (by rfl) G.isinstance (by decide +kernel) (pa_cons (pv 0) (pa_cons (pe_glob (v := .ref CP) (by rfl) G.gP rfl) pa_nil)))
          (pa_cons (pe_callB call_isX (by rfl) G.isinstance (by decide +kernel) (pa_cons (pv 0) (pa_cons (pe_glob (v := .ref CN) (by rfl) G.gN rfl) pa_nil)))
          (pa_cons (pe_callB call_isX (by rfl) G.isinstance (by decide +kernel) (pa_cons (pv 0) (pa_cons (pe_glob (v := .ref CC) (by rfl) G.gC rfl) pa_nil))) pa_nil))))))
      (pss_cons (ps_expr (pe_bm PySem.F.plainAttrs_list PySem.F.slot_list_append PySem.F.type_list_append mt_append (pv 1) (pa_cons (pe_callB call_isX (by rfl) G.isinstance (by decide +kernel) (pa_cons (pv 0) (pa_cons (pe_glob (v := .ref CT) (by rfl) G.gT rfl) pa_nil))) pa_nil)))
      (pss_cons (ps_if (PW.pt (pw_or (pt_cmpR op_ne (pe_bm PySem.F.plainAttrs_list PySem.F.slot_list_count PySem.F.type_list_count mt_countF (pv 1) (pa_cons pe_bl pa_nil)) pe_int (nomark _))
          (pw_or1 (pt_not (pt_val (pe_callB call_isX (by rfl) G.isinstance (by decide +kernel) (pa_cons (pv 0) (pa_cons (pe_bltn (v := .ty "ValueError") (by rfl) G.ve (by decide +kernel) rfl) pa_nil)))))))) (pss_one (ps_ret pe_str)) pss_nil)
      (pss_one (ps_ret (pe_ix ix_list (pe_lst (pa_cons pe_str (pa_cons pe_str (pa_cons pe_str (pa_cons pe_str (pa_cons pe_str pa_nil)))))) (pe_bm PySem.F.plainAttrs_list PySem.F.slot_list_index PySem.F.type_list_index mt_index (pv 1) (pa_cons pe_bl pa_nil)) (fun _ _ => rfl)))))), ?_⟩
    refine ⟨_, rfl, a, D, _, _, _, rfl, ha, kx.ex, .own CB, kx.b0, _, rfl, a, D, _, _, _, rfl, ha, kx.ex, .own CP, kx.b1, _, rfl, a, D, _, _, _, rfl, ha, kx.ex, .own CN, kx.b2, _, rfl, a, D, _, _, _, rfl, ha, kx.ex, .own CC, kx.b3, (by show 4 ≤ sizeLine; decide), fun l hl => ?_⟩
    have s1 : Same H (upd H l (.lst [.bl (decide (j = 0)), .bl (decide (j = 1)), .bl (decide (j = 2)), .bl (decide (j = 3))])) := same_new hl
    have nal : a ≠ l := ne_of_none ha hl
    refine ⟨_, rfl, .inl ⟨rfl, _, SqL.of upd_same⟩, _, rfl, a, D, _, _, _, rfl, s1 _ _ ha, kx.ex, .own CT, kx.b4, l, _, _, rfl, rfl, upd_same, (by show 4 < sizeLine; decide), ?_⟩
    have s2 : Same H (upd (upd H l (.lst [.bl (decide (j = 0)), .bl (decide (j = 1)), .bl (decide (j = 2)), .bl (decide (j = 3))])) l (.lst (marks j))) := fun b o e => by
      have nb : b ≠ l := ne_of_none e hl
      rw [upd_ne nb, upd_ne nb]; exact e
    obtain ⟨H2, e2⟩ : ∃ H2, H2 = upd (upd H l (.lst [.bl (decide (j = 0)), .bl (decide (j = 1)), .bl (decide (j = 2)), .bl (decide (j = 3))])) l (.lst (marks j)) := ⟨_, rfl⟩
    have hl2 : H2 l = some (.lst (marks j)) := by rw [e2]; exact upd_same
    rw [← e2] at s2
    have goalH : ∀ (X : Hp → Prop), X H2 → X (upd (upd H l (.lst [.bl (decide (j = 0)), .bl (decide (j = 1)), .bl (decide (j = 2)), .bl (decide (j = 3))])) l (.lst ([.bl (decide (j = 0)), .bl (decide (j = 1)), .bl (decide (j = 2)), .bl (decide (j = 3))] ++ [.bl (decide (j = 4))]))) := fun X h => by rw [e2] at h; exact h
    refine goalH (fun Hx => _) ?_
    refine ⟨_, rfl, .inl ⟨rfl, _, SqL.of hl2⟩, l, marks j, .bl true, rfl, rfl, SqL.of hl2, rfl, marks_flat j, ?_⟩
    rw [marks_count hj]
    refine ⟨rfl, _, rfl, ?_⟩
    refine iteNS rfl ?_
    refine ⟨_, rfl, a, D, _, _, _, rfl, s2 _ _ ha, kx.ex, .ty _, kx.ve, _, rfl, ?_⟩
    refine iteF ?_
    have ⟨at1, at2⟩ := marks_at hj
    refine ⟨(by show 5 ≤ sizeLine; decide), fun l5 hl5 => ?_⟩
    have s5 := s2.trans (same_new (o := .lst [.str "bounds", .str "pick", .str "number", .str "change", .str "text"]) hl5)
    refine ⟨_, rfl, .inl ⟨rfl, _, SqL.of ((upd_ne (ne_of_none hl2 hl5)).trans hl2)⟩, l, marks j, .bl true, j, .bl true, rfl, rfl, SqL.of ((upd_ne (ne_of_none hl2 hl5)).trans hl2), rfl, marks_flat j, at1, rfl, at2, ?_⟩
    exact ⟨l5, _, _, _, rfl, rfl, SqL.of upd_same, at_of (j := j) rfl (kname_at hj), q _ s5⟩
end
structure PeX (K : PySem.W.Frag) (mg : Str → Option Value) (PE : Addr) : Prop where
  g : mg "PickError" = some (.ref PE)
  b : PySem.W.subIn K (.ref PE) (.type "BaseException") = some true
  d : PySem.W.hasDictIn K PE = true
  t : PySem.W.typeIn K (.ref PE) = some (.type "type")
structure GK (K : PySem.W.Frag) (mg : Str → Option Value) (f : Addr) (fd : FuncData) : Prop where
  F : Fun K "_law_kind" "_law_kind" s_law_kind f fd
  b : Binds K fd ["_law_e"] []
  g : mg "_law_kind" = some (.ref f)
end Dp
namespace Dp
open PySem PySem.Spec PyProof.Rows L2 DpR
/-! ### what is none of them -/
structure LI7 (mg : Str → Option Value) : Prop where
  tuple : mg "tuple" = none
  sorted : mg "sorted" = none
theorem set_back {H H' : Hp} {x : V} {n : Nat} {ds : List Nat} (h : DtIn H x) (s : Same H H') (k : IsSet H' x n ds) : IsSet H x n ds := by
  obtain ⟨a, b, rfl, ha, r⟩ := k
  cases h.1 with
  | row b' xs h' =>
    have e := s _ _ h'
    rw [ha] at e
    have e2 := Option.some.inj e
    exact ⟨a, b', rfl, (by rw [h']; cases b <;> cases b' <;> first | (cases e2; rfl) | (cases e2)), r⟩
  | dic kvs h' =>
    have e := s _ _ h'
    rw [ha] at e
    cases b <;> cases e
/-- handed in, and no set of so many things -/
structure Bad (H : Hp) (n : Nat) (v : V) : Prop where
  dt : DtIn H v
  no : ¬ ∃ es, IsSet H v n es
theorem Bad.mono {H H' : Hp} {n : Nat} {v : V} (h : Bad H n v) (s : Same H H') : Bad H' n v :=
  ⟨h.dt.mono s, fun ⟨es, k⟩ => h.no ⟨es, set_back h.dt s k⟩⟩
theorem Bad.pk {H : Hp} {n m : Nat} {v : V} (h : Bad H n v) : ¬ ∃ ds, IsPk H v n m ds := fun ⟨ds, a, b, e, ha, hd, _⟩ => h.no ⟨ds, a, b, e, ha, hd⟩
theorem bad_row {H : Hp} {n : Nat} {a : Addr} {b : Bool} {xs : List V} (ha : H a = some (rowO b xs)) (hd : ∀ y ∈ xs, Dt H y) (hr : risV n 0 xs = false) : Bad H n (.ref a) := by
  have only : ∀ b' xs', H a = some (rowO b' xs') → xs' = xs := fun b' xs' h' => by
    rw [ha] at h'
    cases b <;> cases b' <;> first | exact (HO.lst.inj (Option.some.inj h')).symm | exact (HO.tup.inj (Option.some.inj h')).symm | cases h'
  refine ⟨⟨.row b xs ha, fun a' b' xs' e h' y hy => ?_⟩, fun ⟨es, a', b', e, h', d⟩ => ?_⟩
  · cases e
    rw [only _ _ h'] at hy
    exact hd y hy
  · cases e
    have e2 := only _ _ h'
    rw [← e2, desc_ris d] at hr
    cases hr
theorem bad_flat {H : Hp} {n : Nat} {v : V} (h : Dt H v) (hn : ∀ a, v ≠ .ref a) : Bad H n v :=
  ⟨⟨h, fun a b xs e => (hn a e).elim⟩, fun ⟨_, a, _, e, _⟩ => hn a e⟩
theorem ris_mem {n : Int} : ∀ {xs : List V} {lo : Int}, risV n lo xs = true → ∀ y ∈ xs, ∃ i, y = .int i ∧ lo ≤ i ∧ i ≤ n - 1
  | [], _, _, y, hy => by simp at hy
  | x :: r, lo, h, y, hy => by
    cases x with
    | int i =>
      have h' : (decide (lo ≤ i) && decide (i ≤ n - 1) && risV n (i + 1) r) = true := h
      rw [Bool.and_eq_true, Bool.and_eq_true, decide_eq_true_eq, decide_eq_true_eq] at h'
      obtain ⟨⟨h1, h2⟩, h3⟩ := h'
      rcases List.mem_cons.mp hy with e | e
      · exact ⟨i, e, h1, h2⟩
      · obtain ⟨j, e1, e2, e3⟩ := ris_mem h3 y e
        exact ⟨j, e1, by omega, e3⟩
    | _ => exact absurd (show false = true from h) Bool.false_ne_true
theorem ris_pair {n : Int} : ∀ (pre : List V) {lo : Int} {a b : V} {post : List V}, risV n lo (pre ++ a :: b :: post) = true → ∃ i j, a = .int i ∧ b = .int j ∧ i < j
  | [], lo, a, b, post, h => by
    cases a with
    | int i =>
      have h' : (decide (lo ≤ i) && decide (i ≤ n - 1) && risV n (i + 1) (b :: post)) = true := h
      rw [Bool.and_eq_true] at h'
      obtain ⟨j, e, h1, _⟩ := ris_mem h'.2 b List.mem_cons_self
      exact ⟨i, j, rfl, e, by omega⟩
    | _ => exact absurd (show false = true from h) Bool.false_ne_true
  | x :: pre, lo, a, b, post, h => by
    cases x with
    | int i =>
      have h' : (decide (lo ≤ i) && decide (i ≤ n - 1) && risV n (i + 1) (pre ++ a :: b :: post)) = true := h
      rw [Bool.and_eq_true] at h'
      exact ris_pair pre h'.2
    | _ => exact absurd (show false = true from h) Bool.false_ne_true
theorem ris_no {n : Int} {lo : Int} {xs : List V} (y : V) (hy : y ∈ xs) (h : ∀ i, y = .int i → ¬ (lo ≤ i ∧ i ≤ n - 1)) : risV n lo xs = false := by
  cases c : risV n lo xs with
  | false => rfl
  | true =>
    obtain ⟨i, e, h1, h2⟩ := ris_mem c y hy
    exact (h i e ⟨h1, h2⟩).elim
theorem ris_twice {n : Int} {lo : Int} {xs : List V} (pre : List V) (a b : V) (post : List V) (e : xs = pre ++ a :: b :: post) (h : ∀ i j, a = .int i → b = .int j → j ≤ i) : risV n lo xs = false := by
  cases c : risV n lo xs with
  | false => rfl
  | true =>
    rw [e] at c
    obtain ⟨i, j, e1, e2, h3⟩ := ris_pair pre c
    have := h i j e1 e2
    omega
theorem asc_dt {H : Hp} (ds : List Nat) : ∀ y ∈ asc ds, Dt H y := by
  intro y hy
  unfold asc at hy
  obtain ⟨t, _, rfl⟩ := List.mem_map.mp hy
  exact .int _
/-- a heap without one address -/
def sh (l : Addr) (H : Hp) : Hp := fun b => if b = l then none else H b
theorem sh_same (l : Addr) (H : Hp) : Same (sh l H) H := fun b o e => by
  unfold sh at e
  by_cases c : b = l
  · rw [if_pos c] at e; cases e
  · rw [if_neg c] at e; exact e
theorem sh_mono {l : Addr} {H H' : Hp} (s : Same H H') : Same (sh l H) (sh l H') := fun b o e => by
  unfold sh at e ⊢
  by_cases c : b = l
  · rw [if_pos c] at e; cases e
  · rw [if_neg c] at e ⊢; exact s _ _ e
theorem sh_upd (l : Addr) (H : Hp) (o : HO) : sh l (upd H l o) = sh l H := by
  funext b
  unfold sh
  by_cases c : b = l
  · rw [if_pos c, if_pos c]
  · rw [if_neg c, if_neg c, upd_ne c]
theorem sh_new {l : Addr} {H : Hp} (h : H l = none) (o : HO) : sh l (upd H l o) = H := by
  rw [sh_upd]
  funext b
  unfold sh
  by_cases c : b = l
  · rw [if_pos c, c, h]
  · rw [if_neg c]
theorem sh_at {l b : Addr} {H : Hp} (n : b ≠ l) : sh l H b = H b := by
  unfold sh
  rw [if_neg n]
theorem sl_go {K : PySem.W.Frag} {H : Hp} {a : Addr} {xs : List V} {lo hi : Option Int} {Q : VK} (ha : H a = some (.tup xs)) (h : ∀ z HL, Same H HL → HL z = some (.tup (cutV xs lo hi)) → Q (.ref z) HL) : rSlA K (.ref a) lo hi H Q := by
  refine ⟨a, xs, rfl, SqT.of ha, fun ⟨e1, e2⟩ => h a H (Same.refl _) ?_, fun _ p hp => h p _ (fun b u e => by rw [upd_ne (ne_of_none e hp)]; exact e) upd_same⟩
  unfold cutV
  rw [e1, e2, List.drop_zero, Nat.sub_zero, List.take_length]
  exact ha
section
variable {P : Program} {w : World} {K : PySem.W.Frag} {mg : Str → Option Value} {base : Heap}
/-! ### each method tried -/
theorem scTold : FnScope ["_law_way", "_law_told_here", "_law_one", "_law_other", "_law_found", "_law_error", "_law_e"] ["_law_way", "_law_told_here", "_law_one", "_law_other"] (defScope s_law_told) := ⟨rfl, rfl, rfl, by decide +kernel, rfl, by decide +kernel, by decide +kernel⟩
def spToldP (C : Addr) : Sp := fun vs H Q _ => ∃ (p : Addr) (n m : Nat) (one other : V) (way : Int), vs = [.int way, .ref p, one, other] ∧ PkAt C H p n m ∧ DtIn H one ∧ DtIn H other ∧ (¬ ∃ ds, IsPk H one n m ds) ∧ 0 ≤ way ∧ way < 5 ∧ ∀ H', Same H H' → Q (.str "pick") H'
def spToldS (D : Addr) : Sp := fun vs H Q _ => ∃ (p : Addr) (n : Nat) (one other : V) (way : Int), vs = [.int way, .ref p, one, other] ∧ SkAt D H p n ∧ DtIn H one ∧ (¬ ∃ ds, IsSet H one n ds) ∧ 0 ≤ way ∧ way < 3 ∧ ∀ H', Same H H' → Q (.str "pick") H'
abbrev tW (i : Int) : TT := tTest (tOp rEq (tVar 0) (tC (.int i)))
theorem ok_toldP {f fK C CB CP CN CC CT PE : Addr} {fd fdK : FuncData} (F : Fun K "_law_told" "_law_told" s_law_told f fd) (Kd : GK K mg fK fdK) (G : KG mg CB CP CN CC CT) (T : PkC K C) (pe : PeX K mg PE)
    (sP : PySem.W.subIn K (.ref CP) (.ref PE) = some true) (xP : KindX K CB CP CN CC CT CP 1)
    (Pn : HasM P w K mg base C "number" ["one"] 7 (spNumber C CP)) (Ps : HasM P w K mg base C "step" ["one", "by"] 7 (spStep C CP)) (Pc : HasM P w K mg base C "change" ["pick"] 7 (spChange C CP CC)) (Po : HasM P w K mg base C "compared" ["one", "other"] 7 (spCompared C CP)) :
    FnOk P w K mg base CX0 8 f fd ["_law_way", "_law_told_here", "_law_one", "_law_other"] (spToldP C) := by
  have GKk : FnOk P w K mg base CX0 1 fK fdK ["_law_e"] (spKind K CB CP CN CC CT) := ok_kind Kd.F G
  obtain ⟨l1, h1, f1, d1, e1, b1, k1⟩ := Pn
  obtain ⟨l2, h2, f2, d2, e2, b2, k2⟩ := Ps
  obtain ⟨l3, h3, f3, d3, e3, b3, k3⟩ := Pc
  obtain ⟨l4, h4, f4, d4, e4, b4, k4⟩ := Po
  refine F.ok scTold (fun vs H Q E h => ?_) (fun cdv A outer s H vs Q E hr h => ?_)
  · obtain ⟨p, n, m, one, other, way, rfl, _⟩ := h
    rfl
  · obtain ⟨p, n, m, one, other, way, rfl, hp, ho, ho2, hno, w0, w5, k⟩ := h
    obtain ⟨dx, hp'⟩ := hp.ob
    refine ⟨_, pss_cons (ps_set (i := 4) scTold.nd rfl (Or.inl rfl) pe_non)
      (pss_cons (ps_set (i := 5) scTold.nd rfl (Or.inl rfl) pe_non)
      (pss_cons (ps_tryT (i := 6) (tb := fun W => tIfS (tW 0) (tAsg (tMethE C "number" (spNumber C CP) (WE W) (tVar 1) (tCons (tVar 2) tNil)) (gName 4))
            (tIfS (tW 1) (tAsg (tMethE C "step" (spStep C CP) (WE W) (tVar 1) (tCons (tVar 2) (tCons (tC (.int 3)) tNil))) (gName 4))
            (tIfS (tW 2) (tAsg (tMethE C "change" (spChange C CP CC) (WE W) (tVar 1) (tCons (tVar 2) tNil)) (gName 4))
            (tIfS (tW 3) (tAsg (tMethE C "compared" (spCompared C CP) (WE W) (tVar 1) (tCons (tVar 2) (tCons (tVar 3) tNil))) (gName 4))
              (tAsg (tMethE C "compared" (spCompared C CP) (WE W) (tVar 1) (tCons (tVar 3) (tCons (tVar 2) tNil))) (gName 4))))))
          (ts := fun _ => tAsg (tVar 6) (gName 5)) (Wout := fun _ _ _ _ => False) rfl rfl rfl scTold.nd rfl rfl ⟨rfl, by decide, .inl pe.g⟩ takes0
          (fun W pn xe tk _ => pss_one (ps_if (by exact pt_cmpR op_eq (pv 0) pe_int (nomark _)) (pss_one (ps_set (i := 4) scTold.nd rfl (Or.inl rfl) (by exact pe_methE (pv 1) T.cl e1 k1 (hr.mono h1) b1 (fun σ => passAt tk σ) (pa_cons (pv 2) pa_nil))))
            (pss_one (ps_if (by exact pt_cmpR op_eq (pv 0) pe_int (nomark _)) (pss_one (ps_set (i := 4) scTold.nd rfl (Or.inl rfl) (by exact pe_methE (pv 1) T.cl e2 k2 (hr.mono h2) b2 (fun σ => passAt tk σ) (pa_cons (pv 2) (pa_cons pe_int pa_nil)))))
            (pss_one (ps_if (by exact pt_cmpR op_eq (pv 0) pe_int (nomark _)) (pss_one (ps_set (i := 4) scTold.nd rfl (Or.inl rfl) (by exact pe_methE (pv 1) T.cl e3 k3 (hr.mono h3) b3 (fun σ => passAt tk σ) (pa_cons (pv 2) pa_nil))))
            (pss_one (ps_if (by exact pt_cmpR op_eq (pv 0) pe_int (nomark _)) (pss_one (ps_set (i := 4) scTold.nd rfl (Or.inl rfl) (by exact pe_methE (pv 1) T.cl e4 k4 (hr.mono h4) b4 (fun σ => passAt tk σ) (pa_cons (pv 2) (pa_cons (pv 3) pa_nil)))))
              (pss_one (ps_set (i := 4) scTold.nd rfl (Or.inl rfl) (by exact pe_methE (pv 1) T.cl e4 k4 (hr.mono h4) b4 (fun σ => passAt tk σ) (pa_cons (pv 3) (pa_cons (pv 2) pa_nil)))))))))))))
          (fun a pn => pss_one (ps_set (i := 5) scTold.nd rfl (Or.inl rfl) (by exact pv 6))))
      (pss_cons (ps_if (pt_cmp (pc_notN (pv 5))) (pss_one (ps_ret (pe_call GKk (hr.mono (by decide)) rfl Kd.g Kd.F.kp Kd.b .nil pass0 (pa_cons (pv 5) pa_nil)))) pss_nil)
      (pss_one (ps_ret (pv 4)))))), ?_⟩
    have non : (pkF n m).lookup ("number" : Str) = none := pkF_no _ _ (by decide +kernel) (by decide +kernel)
    have nos : (pkF n m).lookup ("step" : Str) = none := pkF_no _ _ (by decide +kernel) (by decide +kernel)
    have noc : (pkF n m).lookup ("change" : Str) = none := pkF_no _ _ (by decide +kernel) (by decide +kernel)
    have noo : (pkF n m).lookup ("compared" : Str) = none := pkF_no _ _ (by decide +kernel) (by decide +kernel)
    refine ⟨_, rfl, rfl, _, rfl, ?_⟩
    by_cases c0 : way = 0
    · refine if_true_of (decide_eq_true (congrArg V.int c0)) ?_
      refine ⟨_, rfl, p, dx, _, rfl, hp', non, one, rfl, p, n, m, one, rfl, hp, ho, fun ds H1 k1 s1 => (hno ⟨_, k1⟩).elim, fun H1 no s1 => ?_⟩
      refine ⟨true, PySem.W.exm_ref pe.b pe.d pe.t sP, fun _ a na => ?_, fun z => (nomatch z)⟩
      refine ⟨_, rfl, ?_⟩
      refine ⟨_, rfl, _, rfl, ?_⟩
      refine if_true_of rfl ?_
      exact ⟨_, rfl, a, CP, 1, rfl, upd_same, xP, by decide, fun H2 s2 => k H2 (s1.trans ((same_new na).trans s2))⟩
    refine if_false_of (decide_eq_false (fun z => c0 (V.int.inj z))) ?_
    refine ⟨_, rfl, rfl, _, rfl, ?_⟩
    by_cases c1 : way = 1
    · refine if_true_of (decide_eq_true (congrArg V.int c1)) ?_
      refine ⟨_, rfl, p, dx, _, rfl, hp', nos, one, rfl, p, n, m, one, 3, rfl, hp, ho, fun ds q1 H1 k1 => (hno ⟨_, k1⟩).elim, fun H1 no s1 => ?_⟩
      refine ⟨true, PySem.W.exm_ref pe.b pe.d pe.t sP, fun _ a na => ?_, fun z => (nomatch z)⟩
      refine ⟨_, rfl, ?_⟩
      refine ⟨_, rfl, _, rfl, ?_⟩
      refine if_true_of rfl ?_
      exact ⟨_, rfl, a, CP, 1, rfl, upd_same, xP, by decide, fun H2 s2 => k H2 (s1.trans ((same_new na).trans s2))⟩
    refine if_false_of (decide_eq_false (fun z => c1 (V.int.inj z))) ?_
    refine ⟨_, rfl, rfl, _, rfl, ?_⟩
    by_cases c2 : way = 2
    · refine if_true_of (decide_eq_true (congrArg V.int c2)) ?_
      refine ⟨_, rfl, p, dx, _, rfl, hp', noc, one, rfl, p, n, m, one, rfl, hp, ho, fun ds o io q1 H1 k1 => (hno ⟨_, k1⟩).elim, fun H1 k1 => (hno k1).elim, fun H1 no s1 => ?_⟩
      refine ⟨true, PySem.W.exm_ref pe.b pe.d pe.t sP, fun _ a na => ?_, fun z => (nomatch z)⟩
      refine ⟨_, rfl, ?_⟩
      refine ⟨_, rfl, _, rfl, ?_⟩
      refine if_true_of rfl ?_
      exact ⟨_, rfl, a, CP, 1, rfl, upd_same, xP, by decide, fun H2 s2 => k H2 (s1.trans ((same_new na).trans s2))⟩
    refine if_false_of (decide_eq_false (fun z => c2 (V.int.inj z))) ?_
    refine ⟨_, rfl, rfl, _, rfl, ?_⟩
    by_cases c3 : way = 3
    · refine if_true_of (decide_eq_true (congrArg V.int c3)) ?_
      refine ⟨_, rfl, p, dx, _, rfl, hp', noo, one, rfl, other, rfl, p, n, m, one, other, rfl, hp, ho, ho2, fun ds ds' H1 k1 => (hno ⟨_, k1⟩).elim, fun H1 no s1 => ?_⟩
      refine ⟨true, PySem.W.exm_ref pe.b pe.d pe.t sP, fun _ a na => ?_, fun z => (nomatch z)⟩
      refine ⟨_, rfl, ?_⟩
      refine ⟨_, rfl, _, rfl, ?_⟩
      refine if_true_of rfl ?_
      exact ⟨_, rfl, a, CP, 1, rfl, upd_same, xP, by decide, fun H2 s2 => k H2 (s1.trans ((same_new na).trans s2))⟩
    refine if_false_of (decide_eq_false (fun z => c3 (V.int.inj z))) ?_
    refine ⟨_, rfl, p, dx, _, rfl, hp', noo, other, rfl, one, rfl, p, n, m, other, one, rfl, hp, ho2, ho, fun ds ds' H1 _ k1 => (hno ⟨_, k1⟩).elim, fun H1 no s1 => ?_⟩
    refine ⟨true, PySem.W.exm_ref pe.b pe.d pe.t sP, fun _ a na => ?_, fun z => (nomatch z)⟩
    refine ⟨_, rfl, ?_⟩
    refine ⟨_, rfl, _, rfl, ?_⟩
    refine if_true_of rfl ?_
    exact ⟨_, rfl, a, CP, 1, rfl, upd_same, xP, by decide, fun H2 s2 => k H2 (s1.trans ((same_new na).trans s2))⟩
theorem ok_toldS {f fK C CB CP CN CC CT PE : Addr} {fd fdK : FuncData} (F : Fun K "_law_told" "_law_told" s_law_told f fd) (Kd : GK K mg fK fdK) (G : KG mg CB CP CN CC CT) (T : SkC K C) (pe : PeX K mg PE)
    (sP : PySem.W.subIn K (.ref CP) (.ref PE) = some true) (xP : KindX K CB CP CN CC CT CP 1)
    (Pn : HasM P w K mg base C "number" ["one"] 7 (spSNumber C CP)) (Ps : HasM P w K mg base C "step" ["one", "by"] 7 (spSStep C CP)) (Pc : HasM P w K mg base C "change" ["some"] 7 (spSChange C CP CC)) :
    FnOk P w K mg base CX0 8 f fd ["_law_way", "_law_told_here", "_law_one", "_law_other"] (spToldS C) := by
  have GKk : FnOk P w K mg base CX0 1 fK fdK ["_law_e"] (spKind K CB CP CN CC CT) := ok_kind Kd.F G
  obtain ⟨l1, h1, f1, d1, e1, b1, k1⟩ := Pn
  obtain ⟨l2, h2, f2, d2, e2, b2, k2⟩ := Ps
  obtain ⟨l3, h3, f3, d3, e3, b3, k3⟩ := Pc
  refine F.ok scTold (fun vs H Q E h => ?_) (fun cdv A outer s H vs Q E hr h => ?_)
  · obtain ⟨p, n, one, other, way, rfl, _⟩ := h
    rfl
  · obtain ⟨p, n, one, other, way, rfl, hp, ho, hno, w0, w5, k⟩ := h
    obtain ⟨dx, hp'⟩ := hp.ob
    refine ⟨_, pss_cons (ps_set (i := 4) scTold.nd rfl (Or.inl rfl) pe_non)
      (pss_cons (ps_set (i := 5) scTold.nd rfl (Or.inl rfl) pe_non)
      (pss_cons (ps_tryT (i := 6) (tb := fun W => tIfS (tW 0) (tAsg (tMethE C "number" (spSNumber C CP) (WE W) (tVar 1) (tCons (tVar 2) tNil)) (gName 4))
            (tIfS (tW 1) (tAsg (tMethE C "step" (spSStep C CP) (WE W) (tVar 1) (tCons (tVar 2) (tCons (tC (.int 3)) tNil))) (gName 4))
            (tIfS (tW 2) (tAsg (tMethE C "change" (spSChange C CP CC) (WE W) (tVar 1) (tCons (tVar 2) tNil)) (gName 4))
            tNever)))
          (ts := fun _ => tAsg (tVar 6) (gName 5)) (Wout := fun _ _ _ _ => False) rfl rfl rfl scTold.nd rfl rfl ⟨rfl, by decide, .inl pe.g⟩ takes0
          (fun W pn xe tk _ => pss_one (ps_if (by exact pt_cmpR op_eq (pv 0) pe_int (nomark _)) (pss_one (ps_set (i := 4) scTold.nd rfl (Or.inl rfl) (by exact pe_methE (pv 1) T.cl e1 k1 (hr.mono h1) b1 (fun σ => passAt tk σ) (pa_cons (pv 2) pa_nil))))
            (pss_one (ps_if (by exact pt_cmpR op_eq (pv 0) pe_int (nomark _)) (pss_one (ps_set (i := 4) scTold.nd rfl (Or.inl rfl) (by exact pe_methE (pv 1) T.cl e2 k2 (hr.mono h2) b2 (fun σ => passAt tk σ) (pa_cons (pv 2) (pa_cons pe_int pa_nil)))))
            (pss_one (ps_if (by exact pt_cmpR op_eq (pv 0) pe_int (nomark _)) (pss_one (ps_set (i := 4) scTold.nd rfl (Or.inl rfl) (by exact pe_methE (pv 1) T.cl e3 k3 (hr.mono h3) b3 (fun σ => passAt tk σ) (pa_cons (pv 2) pa_nil))))
            pss_never))))))
          (fun a pn => pss_one (ps_set (i := 5) scTold.nd rfl (Or.inl rfl) (by exact pv 6))))
      (pss_cons (ps_if (pt_cmp (pc_notN (pv 5))) (pss_one (ps_ret (pe_call GKk (hr.mono (by decide)) rfl Kd.g Kd.F.kp Kd.b .nil pass0 (pa_cons (pv 5) pa_nil)))) pss_nil)
      (pss_one (ps_ret (pv 4)))))), ?_⟩
    have non : (skF n).lookup ("number" : Str) = none := skF_no _ (by decide +kernel)
    have nos : (skF n).lookup ("step" : Str) = none := skF_no _ (by decide +kernel)
    have noc : (skF n).lookup ("change" : Str) = none := skF_no _ (by decide +kernel)
    refine ⟨_, rfl, rfl, _, rfl, ?_⟩
    by_cases c0 : way = 0
    · refine if_true_of (decide_eq_true (congrArg V.int c0)) ?_
      refine ⟨_, rfl, p, dx, _, rfl, hp', non, one, rfl, p, n, one, rfl, hp, ho, fun ds H1 k1 s1 => (hno ⟨_, k1⟩).elim, fun H1 no s1 => ?_⟩
      refine ⟨true, PySem.W.exm_ref pe.b pe.d pe.t sP, fun _ a na => ?_, fun z => (nomatch z)⟩
      refine ⟨_, rfl, ?_⟩
      refine ⟨_, rfl, _, rfl, ?_⟩
      refine if_true_of rfl ?_
      exact ⟨_, rfl, a, CP, 1, rfl, upd_same, xP, by decide, fun H2 s2 => k H2 (s1.trans ((same_new na).trans s2))⟩
    refine if_false_of (decide_eq_false (fun z => c0 (V.int.inj z))) ?_
    refine ⟨_, rfl, rfl, _, rfl, ?_⟩
    by_cases c1 : way = 1
    · refine if_true_of (decide_eq_true (congrArg V.int c1)) ?_
      refine ⟨_, rfl, p, dx, _, rfl, hp', nos, one, rfl, p, n, one, 3, rfl, hp, ho, fun ds q1 H1 k1 => (hno ⟨_, k1⟩).elim, fun H1 no s1 => ?_⟩
      refine ⟨true, PySem.W.exm_ref pe.b pe.d pe.t sP, fun _ a na => ?_, fun z => (nomatch z)⟩
      refine ⟨_, rfl, ?_⟩
      refine ⟨_, rfl, _, rfl, ?_⟩
      refine if_true_of rfl ?_
      exact ⟨_, rfl, a, CP, 1, rfl, upd_same, xP, by decide, fun H2 s2 => k H2 (s1.trans ((same_new na).trans s2))⟩
    refine if_false_of (decide_eq_false (fun z => c1 (V.int.inj z))) ?_
    refine ⟨_, rfl, rfl, _, rfl, ?_⟩
    by_cases c2 : way = 2
    · refine if_true_of (decide_eq_true (congrArg V.int c2)) ?_
      refine ⟨_, rfl, p, dx, _, rfl, hp', noc, one, rfl, p, n, one, rfl, hp, ho, fun ds t H1 k1 => (hno ⟨_, k1⟩).elim, fun H1 k1 => (hno k1).elim, fun H1 no s1 => ?_⟩
      refine ⟨true, PySem.W.exm_ref pe.b pe.d pe.t sP, fun _ a na => ?_, fun z => (nomatch z)⟩
      refine ⟨_, rfl, ?_⟩
      refine ⟨_, rfl, _, rfl, ?_⟩
      refine if_true_of rfl ?_
      exact ⟨_, rfl, a, CP, 1, rfl, upd_same, xP, by decide, fun H2 s2 => k H2 (s1.trans ((same_new na).trans s2))⟩
    refine if_false_of (decide_eq_false (fun z => c2 (V.int.inj z))) ?_
    omega
end
end Dp
namespace Dp
open PySem PySem.Spec PyProof.Rows L2 DpR
/-! ### spoilt picks -/
theorem sqT_mono {K : PySem.W.Frag} {H H' : Hp} {a : Addr} {xs : List V} (e : Same H H') (h : SqT K H a xs) : SqT K H' a xs := by
  rcases h with (h | ⟨o, h⟩) | h
  · exact .inl (.inl (e _ _ h))
  · exact .inl (.inr ⟨o, e _ _ h⟩)
  · exact .inr h
mutual
theorem dp_mono {K : PySem.W.Frag} {H H' : Hp} (s : Same H H') : ∀ {v : V} {d : PyData}, L2.Dp K H v d → L2.Dp K H' v d
  | _, _, .non => .non
  | _, _, .bl b => .bl b
  | _, _, .int i => .int i
  | _, _, .str x => .str x
  | _, _, .lst h a => .lst (s.seq h) (dpAll_mono s a)
  | _, _, .tup h a => .tup (sqT_mono s h) (dpAll_mono s a)
theorem dpAll_mono {K : PySem.W.Frag} {H H' : Hp} (s : Same H H') : ∀ {vs : List V} {ds : List PyData}, DpAll K H vs ds → DpAll K H' vs ds
  | _, _, .nil => .nil
  | _, _, .cons h t => .cons (dp_mono s h) (dpAll_mono s t)
end
theorem eqv_nil {ds : List Nat} (h : ¬ ds = []) : PyData.eqv (dtI (iasc ds)) (dtI (iasc [])) = false := by
  cases e : iasc ds with
  | nil =>
    exfalso
    apply h
    have : (iasc ds).length = 0 := by rw [e]; rfl
    unfold iasc at this
    rw [List.length_map, List.length_reverse] at this
    exact List.length_eq_zero_iff.mp this
  | cons a l => rfl
theorem cut_to {xs : List V} {k : Nat} (h : k ≤ xs.length) : cutV xs none (some (k : Int)) = xs.take k := by
  unfold cutV
  rw [HT.sIx_none, HT.sIx_nat, List.drop_zero, Nat.sub_zero, Nat.min_eq_left h]
theorem cut_from {xs : List V} {k : Nat} (h : k ≤ xs.length) : cutV xs (some (k : Int)) none = xs.drop k := by
  unfold cutV
  rw [HT.sIx_none, HT.sIx_nat, Nat.min_eq_left h]
  exact List.take_of_length_le (by rw [List.length_drop]; exact Nat.le_refl _)
theorem cut_last (xs : List V) : cutV xs (some (-1)) none = xs.drop (xs.length - 1) := by
  have e : HT.sIx xs.length 0 (some (-1)) = xs.length - 1 := by
    show (if (-1 : Int) < 0 then (-1 + (xs.length : Int)).toNat else min (-1 : Int).toNat xs.length) = _
    rw [if_pos (by decide)]
    omega
  unfold cutV
  rw [HT.sIx_none, e]
  exact List.take_of_length_le (by rw [List.length_drop]; exact Nat.le_refl _)
/-- what may stand in the law's list: handed in and no set, or the empty tuple of the empty pick -/
structure Odd (K : PySem.W.Frag) (H : Hp) (n : Nat) (ds : List Nat) (v : V) : Prop where
  bad : Bad H n v ∨ ds = []
  data : ds = [] → ∃ d, L2.Dp K H v d ∧ SeqAt.shaped d = true ∧ (Bad H n v ∨ d = dtI [])
theorem Odd.mono {K : PySem.W.Frag} {H H' : Hp} {n : Nat} {ds : List Nat} {v : V} (h : Odd K H n ds v) (s : Same H H') : Odd K H' n ds v :=
  ⟨h.bad.imp (fun b => b.mono s) id, fun e => let ⟨d, h1, h2, h3⟩ := h.data e; ⟨d, dp_mono s h1, h2, h3.imp (fun b => b.mono s) id⟩⟩
theorem Odd.of {K : PySem.W.Frag} {H : Hp} {n : Nat} {ds : List Nat} {v : V} {d : PyData} (b : Bad H n v) (h : L2.Dp K H v d) (hs : SeqAt.shaped d = true) : Odd K H n ds v := ⟨.inl b, fun _ => ⟨d, h, hs, .inl b⟩⟩
/-- a tuple of whole numbers that is no set -/
theorem odd_ints {K : PySem.W.Frag} {H : Hp} {n : Nat} {ds : List Nat} {z : Addr} {l : List Int} (hz : H z = some (.tup (l.map V.int))) (hr : risV n 0 (l.map V.int) = false) : Odd K H n ds (.ref z) :=
  .of (bad_row (b := true) hz (fun y hy => by obtain ⟨i, _, rfl⟩ := List.mem_map.mp hy; exact .int i) hr) (dp_tupI hz) (dtI_shaped l)
def spSpoilt (K : PySem.W.Frag) : Sp := fun vs H Q _ => ∃ (q : Addr) (n : Nat) (ds : List Nat) (mx : Int), vs = [.ref q, nv n, .int mx] ∧ H q = some (.tup (asc ds)) ∧ Desc n ds ∧ n ≤ 40 ∧ 0 ≤ mx ∧
  ∀ v H', Same H H' → Bad H' n v → Q v H'
structure LS7 (mg : Str → Option Value) : Prop where
  len : mg "len" = none
  max : mg "max" = none
section
variable {P : Program} {w : World} {K : PySem.W.Frag} {mg : Str → Option Value} {base : Heap}
theorem scSpoilt : FnScope ["_law_pick", "_law_things", "_law_mix", "_law_at", "_law_odd", "_law_some", "_law_wrong"] ["_law_pick", "_law_things", "_law_mix"] (defScope s_law_spoilt) := ⟨rfl, rfl, rfl, by decide +kernel, rfl, by decide +kernel, by decide +kernel⟩
theorem ok_spoilt {f : Addr} {fd : FuncData} (F : Fun K "_law_spoilt" "_law_spoilt" s_law_spoilt f fd) (L : LG mg) : FnOk P w K mg base CX0 1 f fd ["_law_pick", "_law_things", "_law_mix"] (spSpoilt K) := by
  refine F.ok scSpoilt (fun vs H Q E h => ?_) (fun cdv A outer s H vs Q E hr h => ?_)
  · obtain ⟨q, n, ds, mx, rfl, _⟩ := h
    rfl
  · obtain ⟨q, n, ds, mx, rfl, hq, hd, hn, hm0, k⟩ := h
    have ll := hd.len
    have lasc : (asc ds).length = ds.length := asc_len ds
    refine ⟨_, pss_cons (ps_set (i := 3) scSpoilt.nd rfl (Or.inl rfl) (pe_op op_mod (pe_op op_fdiv (pv 2) pe_int) (pe_callB (call_max2 rfl) (by rfl) L.max (by decide +kernel) (pa_cons pe_int (pa_cons (pe_callB call_len_seq (by rfl) L.len PySem.boot_len (pa_cons (pv 0) pa_nil)) pa_nil)))))
      (pss_cons (ps_set (i := 4) scSpoilt.nd rfl (Or.inl rfl) (pe_ix ix_list (pe_lst (pa_cons pe_non (pa_cons pe_int (pa_cons pe_str (pa_cons pe_str (pa_cons (pe_lst (pa_cons pe_non pa_nil)) (pa_cons pe_bl (pa_cons (pe_tup (pa_cons pe_non pa_nil)) (pa_cons (pe_tup (pa_cons pe_str pa_nil)) (pa_cons (pe_tup (pa_cons pe_bl pa_nil)) (pa_cons (pe_tup (pa_cons (pe_tup (pa_cons pe_int pa_nil)) pa_nil)) pa_nil)))))))))))
          (pe_op op_mod (pe_op op_fdiv (pv 2) pe_int) pe_int) (fun _ _ => rfl)))
      (pss_cons (ps_set (i := 5) scSpoilt.nd rfl (Or.inl rfl) (pe_lst (pa_cons (pv 4) (pa_cons (pe_op op_catA (pv 0) (pe_tup (pa_cons (pv 1) pa_nil))) (pa_cons (pe_op op_catA (pe_tup (pa_cons (pe_un un_neg pe_int) pa_nil)) (pv 0)) (pa_cons (pe_op op_catA (pv 0) (pe_slice sl_tupA (pv 0) (po_some (pe_un un_neg pe_int)) po_none))
          (pa_cons (pe_op op_catA (pv 0) (pe_tup (pa_cons (pe_op op_add (pv 1) (pe_op op_mod (pe_op op_fdiv (pv 2) pe_int) (pe_op op_pow pe_int pe_int))) pa_nil))) pa_nil)))))))
      (pss_cons (ps_if (pt_cmpR (op_neD hr.units) (pv 0) (pe_tup pa_nil) (nomark _))
        (pss_cons (ps_expr (pe_bm PySem.F.plainAttrs_list PySem.F.slot_list_append PySem.F.type_list_append mt_append (pv 5) (pa_cons (pe_op op_catA (pe_op op_catA (pe_slice sl_tupA (pv 0) po_none (po_some (pv 3))) (pe_tup (pa_cons (pe_ix ix_tup (pv 0) (pv 3) (fun _ _ => rfl)) (pa_cons (pe_ix ix_tup (pv 0) (pv 3) (fun _ _ => rfl)) pa_nil)))) (pe_slice sl_tupA (pv 0) (po_some (pe_op op_add (pv 3) pe_int)) po_none)) pa_nil)))
        (pss_one (ps_expr (pe_bm PySem.F.plainAttrs_list PySem.F.slot_list_append PySem.F.type_list_append mt_append (pv 5) (pa_cons (pe_op op_catA (pe_slice sl_tupA (pv 0) po_none (po_some (pv 3))) (pe_tup (pa_cons (pe_ix ix_list (pe_lst (pa_cons pe_str (pa_cons pe_non (pa_cons pe_str (pa_cons pe_bl pa_nil))))) (pe_op op_mod (pe_op op_fdiv (pv 2) pe_int) pe_int) (fun _ _ => rfl)) pa_nil))) pa_nil))))) pss_nil)
      (pss_cons (ps_if (pt_cmpR op_gt (pe_callB call_len_seq (by rfl) L.len PySem.boot_len (pa_cons (pv 0) pa_nil)) pe_int (nomark _)) (pss_one (ps_expr (pe_bm PySem.F.plainAttrs_list PySem.F.slot_list_append PySem.F.type_list_append mt_append (pv 5) (pa_cons (pe_revT (pv 0)) pa_nil)))) pss_nil)
      (pss_cons (ps_set (i := 6) scSpoilt.nd rfl (Or.inl rfl) (pe_ix ix_list (pv 5) (pe_op op_mod (pv 2) (pe_callB call_len_seq (by rfl) L.len PySem.boot_len (pa_cons (pv 5) pa_nil))) (fun _ _ => rfl)))
      (pss_cons (ps_if (PW.pt (pw_and (pt_cmpR (op_eqD hr.units) (pv 0) (pe_tup pa_nil) (nomark _)) (pw_and1 (pt_cmpR (op_eqD hr.units) (pv 6) (pe_tup pa_nil) (nomark _))))) (pss_one (ps_ret (pv 4))) pss_nil)
      (pss_one (ps_ret (pv 6))))))))), ?_⟩
    have hml : (if ((asc ds).length : Int) > 1 then ((asc ds).length : Int) else 1) > 0 := by split <;> omega
    obtain ⟨ax, eax, hax0, hax⟩ : ∃ ax : Nat, mx / 9 % (if ((asc ds).length : Int) > 1 then ((asc ds).length : Int) else 1) = (ax : Int) ∧ (ds.length ≤ 1 → ax = 0) ∧ (1 < ds.length → ax < ds.length) := by
      have h1 := Int.emod_nonneg (mx / 9) (b := if ((asc ds).length : Int) > 1 then ((asc ds).length : Int) else 1) (by omega)
      have h2 := Int.emod_lt_of_pos (mx / 9) hml
      obtain ⟨z, ez⟩ : ∃ z, z = mx / 9 % (if ((asc ds).length : Int) > 1 then ((asc ds).length : Int) else 1) := ⟨_, rfl⟩
      rw [← ez] at h1 h2 ⊢
      refine ⟨z.toNat, by omega, fun h => ?_, fun h => ?_⟩
      · rw [if_neg (by omega)] at h2; omega
      · rw [if_pos (by omega)] at h2; omega
    refine ⟨_, rfl, _, _, rfl, rfl, ⟨by decide, by decide⟩, _, rfl, q, _, rfl, .inr (SqT.of hq), _, _, rfl, _, _, rfl, rfl, hml, ?_⟩
    -- odd
    refine ⟨(by show 1 ≤ sizeLine; decide), fun a1 h1 => ⟨(by show 1 ≤ sizeLine; decide), fun t1 ht1 => ⟨(by show 1 ≤ sizeLine; decide), fun t2 ht2 => ⟨(by show 1 ≤ sizeLine; decide), fun t3 ht3 => ⟨(by show 1 ≤ sizeLine; decide), fun t4 ht4 => ⟨(by show 1 ≤ sizeLine; decide), fun t5 ht5 => ⟨(by show 10 ≤ sizeLine; decide), fun lo hlo => ?_⟩⟩⟩⟩⟩⟩⟩
    have g0 := same_new (o := .lst [.non]) h1
    have g1 := same_new (o := .tup [.non]) ht1
    have g2 := same_new (o := .tup [.str "0"]) ht2
    have g3 := same_new (o := .tup [.bl true]) ht3
    have g4 := same_new (o := .tup [.int 0]) ht4
    have g5 := same_new (o := .tup [.ref t4]) ht5
    obtain ⟨ol, eol⟩ : ∃ ol : List V, ol = [.non, .int 5, .str "0", .str "", .ref a1, .bl true, .ref t1, .ref t2, .ref t3, .ref t5] := ⟨_, rfl⟩
    obtain ⟨Hb, eHb⟩ : ∃ Hb, Hb = upd (upd (upd (upd (upd (upd H a1 (.lst [.non])) t1 (.tup [.non])) t2 (.tup [.str "0"])) t3 (.tup [.bl true])) t4 (.tup [.int 0])) t5 (.tup [.ref t4]) := ⟨_, rfl⟩
    have xa : Hb a1 = some (.lst [.non]) := by rw [eHb]; exact g5 _ _ (g4 _ _ (g3 _ _ (g2 _ _ (g1 _ _ upd_same))))
    have x1 : Hb t1 = some (.tup [.non]) := by rw [eHb]; exact g5 _ _ (g4 _ _ (g3 _ _ (g2 _ _ upd_same)))
    have x2 : Hb t2 = some (.tup [.str "0"]) := by rw [eHb]; exact g5 _ _ (g4 _ _ (g3 _ _ upd_same))
    have x3 : Hb t3 = some (.tup [.bl true]) := by rw [eHb]; exact g5 _ _ (g4 _ _ upd_same)
    have x4 : Hb t4 = some (.tup [.int 0]) := by rw [eHb]; exact g5 _ _ upd_same
    have x5 : Hb t5 = some (.tup [.ref t4]) := by rw [eHb]; exact upd_same
    have sb : Same H Hb := by rw [eHb]; exact ((((g0.trans g1).trans g2).trans g3).trans g4).trans g5
    have odds : ∀ v ∈ ol, Bad Hb n v ∧ ∃ d, L2.Dp K Hb v d ∧ SeqAt.shaped d = true := by
      intro v hv
      rw [eol] at hv
      simp only [List.mem_cons, List.not_mem_nil, or_false] at hv
      have one : ∀ {y : V}, (∀ i, y ≠ .int i) → risV n 0 [y] = false := fun h => ris_no _ List.mem_cons_self (fun i e => (h i e).elim)
      rcases hv with e | e | e | e | e | e | e | e | e | e <;> subst e
      · exact ⟨bad_flat .non (fun _ z => (nomatch z)), _, .non, rfl⟩
      · exact ⟨bad_flat (.int _) (fun _ z => (nomatch z)), _, .int _, rfl⟩
      · exact ⟨bad_flat (.str _) (fun _ z => (nomatch z)), _, .str _, by decide +kernel⟩
      · exact ⟨bad_flat (.str _) (fun _ z => (nomatch z)), _, .str _, by decide +kernel⟩
      · exact ⟨bad_row (b := false) xa (fun y hy => by rw [List.mem_singleton] at hy; subst hy; exact .non) (one fun _ z => (nomatch z)), _, .lst (SqL.of xa) (.cons .non .nil), rfl⟩
      · exact ⟨bad_flat (.bl _) (fun _ z => (nomatch z)), _, .bl _, rfl⟩
      · exact ⟨bad_row (b := true) x1 (fun y hy => by rw [List.mem_singleton] at hy; subst hy; exact .non) (one fun _ z => (nomatch z)), _, .tup (SqT.of x1) (.cons .non .nil), rfl⟩
      · exact ⟨bad_row (b := true) x2 (fun y hy => by rw [List.mem_singleton] at hy; subst hy; exact .str _) (one fun _ z => (nomatch z)), _, .tup (SqT.of x2) (.cons (.str _) .nil), by decide +kernel⟩
      · exact ⟨bad_row (b := true) x3 (fun y hy => by rw [List.mem_singleton] at hy; subst hy; exact .bl _) (one fun _ z => (nomatch z)), _, .tup (SqT.of x3) (.cons (.bl _) .nil), rfl⟩
      · exact ⟨bad_row (b := true) x5 (fun y hy => by rw [List.mem_singleton] at hy; subst hy; exact .row true _ x4) (one fun _ z => (nomatch z)), _, .tup (SqT.of x5) (.cons (.tup (SqT.of x4) (.cons (.int _) .nil)) .nil), rfl⟩
    obtain ⟨vo, hvo, mvo⟩ := at_drawn ol (i := mx / 400 % 10) (Int.emod_nonneg _ (by decide)) (by rw [eol]; exact Int.emod_lt_of_pos _ (by decide))
    obtain ⟨bvo, dvo, hdvo, shvo⟩ := odds vo mvo
    rw [← eHb] at hlo
    have g6 : Same Hb (upd Hb lo (.lst ol)) := same_new hlo
    obtain ⟨Hc, eHc⟩ : ∃ Hc, Hc = upd Hb lo (.lst ol) := ⟨_, rfl⟩
    have hloc : Hc lo = some (.lst ol) := by rw [eHc]; exact upd_same
    rw [← eHc] at g6
    have sc := sb.trans g6
    have onH : ∀ (X : Hp → Prop), X Hc → X (upd (upd (upd (upd (upd (upd (upd H a1 (.lst [.non])) t1 (.tup [.non])) t2 (.tup [.str "0"])) t3 (.tup [.bl true])) t4 (.tup [.int 0])) t5 (.tup [.ref t4])) lo (.lst [.non, .int 5, .str "0", .str "", .ref a1, .bl true, .ref t1, .ref t2, .ref t3, .ref t5])) := fun X h => by rw [eHc, eHb, eol] at h; exact h
    refine onH (fun Hx => _) ?_
    refine ⟨_, rfl, _, _, rfl, rfl, ⟨by decide, by decide⟩, _, _, rfl, rfl, (by show (0 : Int) < 10; decide), lo, _, _, _, rfl, rfl, SqL.of hloc, hvo, ?_⟩
    have hqc := sc _ _ hq
    have szd : ∀ {k : Nat}, k ≤ 41 → (asc ds).length + k ≤ sizeLine := fun h => Nat.le_of_lt (small1000 (by omega))
    -- the list
    refine ⟨_, rfl, _, rfl, _, rfl, (by show 1 ≤ sizeLine; decide), fun ta hta => cat_go ((same_new hta) _ _ hqc) upd_same (szd (k := 1) (by decide)) (fun z2 H2 s2 hz2 => ?_)⟩
    have t2' := (same_new hta).trans s2
    have hq2 := t2' _ _ hqc
    refine ⟨_, rfl, (by show 1 ≤ sizeLine; decide), fun tb htb => ⟨_, rfl, cat_go upd_same ((same_new htb) _ _ hq2) (by show 1 + (asc ds).length ≤ sizeLine; rw [Nat.add_comm]; exact szd (by decide)) (fun z3 H3 s3 hz3 => ?_)⟩⟩
    have t3' := (same_new htb).trans s3
    have hq3 := t3' _ _ hq2
    refine ⟨_, rfl, _, rfl, 1, rfl, -1, rfl, ?_⟩
    unfold tNoPart
    refine (show rSlA K (.ref q) (some (-1)) none H3 _ from sl_go hq3 (fun zc H4a sl4 hzc => cat_go (sl4 _ _ hq3) hzc (by have := cutV_length (asc ds) (some (-1)) none; exact Nat.le_of_lt (small1000 (by omega))) (fun z4 H4 s4 hz4 => ?_)))
    have t4' := sl4.trans s4
    have hq4 := t4' _ _ hq3
    refine ⟨_, rfl, _, rfl, _, rfl, _, _, rfl, rfl, ⟨by decide, by decide⟩, _, _, rfl, rfl, ⟨by decide, by decide, by decide⟩, _, _, rfl, rfl, (by show (0 : Int) < 10 ^ (9 : Int).toNat; decide), _, _, rfl, rfl, (by show 1 ≤ sizeLine; decide), fun te hte => cat_go ((same_new hte) _ _ hq4) upd_same (szd (k := 1) (by decide)) (fun z5 H5 s5 hz5 => ⟨(by show 5 ≤ sizeLine; decide), fun l hl => ?_⟩)⟩
    have t5' := (same_new hte).trans s5
    have hq5 := t5' _ _ hq4
    have t45 := t4'.trans t5'
    have t35 := t3'.trans t45
    have t25 := t2'.trans t35
    have sH5 := sc.trans t25
    have z2at := t35 _ _ hz2
    have z3at := t45 _ _ hz3
    have z4at := t5' _ _ hz4
    have nn := Int.emod_nonneg (mx / 400) (b := 10 ^ (9 : Int).toNat) (by decide)
    have eI : ∀ z : Int, asc ds ++ [V.int z] = (iasc ds ++ [z]).map V.int := fun z => by rw [List.map_append, ← asc_iasc]; rfl
    have o1 : Odd K H5 n ds vo := Odd.of (bvo.mono (g6.trans t25)) (dp_mono (g6.trans t25) hdvo) shvo
    have o2 : Odd K H5 n ds (.ref z2) := by
      have e := eI (n : Int)
      refine odd_ints (l := iasc ds ++ [(n : Int)]) (by rw [← e]; exact z2at) ?_
      rw [← e]
      exact ris_no (V.int (n : Int)) (List.mem_append.mpr (.inr List.mem_cons_self)) (fun i h => by cases h; omega)
    have o3 : Odd K H5 n ds (.ref z3) := by
      have e : [V.int (-1)] ++ asc ds = ((-1) :: iasc ds).map V.int := by rw [List.map_cons, ← asc_iasc]; rfl
      refine odd_ints (l := (-1) :: iasc ds) (by rw [← e]; exact z3at) ?_
      exact ris_no (V.int (-1)) List.mem_cons_self (fun i h => by cases h; omega)
    have o4 : Odd K H5 n ds (.ref z4) := by
      rw [cut_last] at z4at
      cases hds : ds with
      | nil =>
        subst hds
        exact ⟨.inr rfl, fun _ => ⟨dtI [], dp_tup (ds := []) z4at, dtI_shaped _, .inr rfl⟩⟩
      | cons g r =>
        have e1 : asc ds ++ (asc ds).drop ((asc ds).length - 1) = asc r ++ nv g :: nv g :: [] := by
          have e2 : asc ds = asc r ++ [nv g] := by rw [hds]; exact asc_cons g r
          rw [e2, List.length_append]
          have e3 : (asc r).length + [nv g].length - 1 = (asc r).length := rfl
          rw [e3, List.drop_left]
          simp
        have e4 : asc r ++ nv g :: nv g :: [] = (iasc r ++ [(g : Int), (g : Int)]).map V.int := by rw [List.map_append, ← asc_iasc]; rfl
        rw [e1, e4] at z4at
        rw [← hds]
        refine odd_ints z4at ?_
        rw [← e4]
        exact ris_twice (asc r) _ _ [] rfl (fun i j h1 h2 => by cases h1; cases h2; exact Int.le_refl _)
    have o5 : Odd K H5 n ds (.ref z5) := by
      have e := eI ((n : Int) + mx / 400 % 10 ^ (9 : Int).toNat)
      refine odd_ints (l := iasc ds ++ [(n : Int) + mx / 400 % 10 ^ (9 : Int).toNat]) (by rw [← e]; exact hz5) ?_
      rw [← e]
      exact ris_no (V.int ((n : Int) + mx / 400 % 10 ^ (9 : Int).toNat)) (List.mem_append.mpr (.inr List.mem_cons_self)) (fun i h => by cases h; omega)
    obtain ⟨sl0, esl⟩ : ∃ sl0 : List V, sl0 = [vo, .ref z2, .ref z3, .ref z4, .ref z5] := ⟨_, rfl⟩
    have all5 : ∀ v ∈ sl0, Odd K H5 n ds v := by
      intro v hv
      rw [esl] at hv
      simp only [List.mem_cons, List.not_mem_nil, or_false] at hv
      rcases hv with e | e | e | e | e <;> subst e
      · exact o1
      · exact o2
      · exact o3
      · exact o4
      · exact o5
    have l5 : sl0.length = 5 := by rw [esl]; rfl
    obtain ⟨H6, eH6⟩ : ∃ H6, H6 = upd H5 l (.lst sl0) := ⟨_, rfl⟩
    have onH6 : ∀ (X : Hp → Prop), X H6 → X (upd H5 l (.lst [vo, .ref z2, .ref z3, .ref z4, .ref z5])) := fun X h => by rw [eH6, esl] at h; exact h
    refine onH6 (fun Hx => _) ?_
    have hl6 : H6 l = some (.lst sl0) := by rw [eH6]; exact upd_same
    have sh6 : sh l H6 = H5 := by rw [eH6]; exact sh_new hl _
    have s56 : Same H5 H6 := by rw [eH6]; exact same_new hl
    have sH6 := sH5.trans s56
    have bo6 : Bad (sh l H6) n vo := by rw [sh6]; exact bvo.mono (g6.trans t25)
    have odd6 : ∀ v ∈ sl0, Odd K (sh l H6) n ds v := by rw [sh6]; exact all5
    have dq6 := sH6 _ _ hq
    have hlH : H l = none := sH5.free hl
    have upl : ∀ {G : Hp} {o : HO}, Same H G → Same H (upd G l o) := fun sG b o e => by rw [upd_ne (ne_of_none e hlH)]; exact sG _ _ e
    refine ⟨_, rfl, Nat.zero_le _, fun tz htz => ⟨dtI (iasc ds), dtI (iasc []), dp_tup ((same_new htz) _ _ dq6), dp_tup (ds := []) upd_same, dtI_shaped _, dtI_shaped _, _, rfl, ?_⟩⟩
    have s67 := same_new (o := .tup []) htz
    obtain ⟨H7, eH7⟩ : ∃ H7, H7 = upd H6 tz (.tup []) := ⟨_, rfl⟩
    rw [← eH7] at s67 ⊢
    have sH7 := sH6.trans s67
    have hl7 := s67 _ _ hl6
    have hq7 := sH7 _ _ hq
    have odd7 : ∀ v ∈ sl0, Odd K (sh l H7) n ds v := fun v hv => (odd6 v hv).mono (sh_mono s67)
    have bo7 := bo6.mono (sh_mono s67)
    by_cases e0 : ds = []
    · have ee : PyData.eqv (dtI (iasc ds)) (dtI (iasc [])) = true := by rw [e0]; exact dtI_eqv []
      rw [ee]
      refine iteF ?_
      have l0 : ds.length = 0 := by rw [e0]; rfl
      refine ⟨_, rfl, q, _, rfl, .inr (SqT.of hq7), _, _, rfl, rfl, _, rfl, ?_⟩
      refine if_false_of (decide_eq_false (by omega)) ?_
      obtain ⟨xs8, ex8⟩ : ∃ xs8, xs8 = sl0 := ⟨_, rfl⟩
      obtain ⟨H8, eH8⟩ : ∃ H8, H8 = H7 := ⟨_, rfl⟩
      have hl8 : H8 l = some (.lst xs8) := by rw [eH8, ex8]; exact hl7
      have hx8 : 0 < xs8.length := by rw [ex8, l5]; decide
      have odd8 : ∀ v ∈ xs8, Odd K (sh l H8) n ds v := by rw [ex8, eH8]; exact odd7
      have bo8 : Bad (sh l H8) n vo := by rw [eH8]; exact bo7
      have sH8 : Same H H8 := by rw [eH8]; exact sH7
      rw [← eH8]
      obtain ⟨v, hv, mv⟩ := at_drawn xs8 (i := mx % (xs8.length : Int)) (Int.emod_nonneg _ (by omega)) (Int.emod_lt_of_pos _ (by omega))
      refine ⟨_, rfl, _, rfl, _, rfl, l, _, rfl, .inl (SqL.of hl8), _, _, rfl, rfl, (by omega), l, _, _, _, rfl, rfl, SqL.of hl8, hv, ?_⟩
      have ov := odd8 v mv
      refine ⟨_, rfl, Nat.zero_le _, fun t8 ht8 => ⟨dtI (iasc ds), dtI (iasc []), dp_tup ((same_new ht8) _ _ (sH8 _ _ hq)), dp_tup (ds := []) upd_same, dtI_shaped _, dtI_shaped _, _, rfl, ?_⟩⟩
      have s8 := (sh_same l H8).trans (same_new (o := .tup []) ht8)
      have sH8b := sH8.trans (same_new (o := .tup []) ht8)
      by_cases e9 : ds = []
      · have ee : PyData.eqv (dtI (iasc ds)) (dtI (iasc [])) = true := by rw [e9]; exact dtI_eqv []
        rw [ee]
        refine if_true_of rfl ?_
        obtain ⟨d, hd1, hd2, hd3⟩ := ov.data e9
        refine ⟨_, rfl, Nat.zero_le _, fun t9 ht9 => ⟨d, dtI (iasc []), dp_mono (s8.trans (same_new ht9)) hd1, dp_tup (ds := []) upd_same, hd2, dtI_shaped _, _, rfl, ?_⟩⟩
        have s9 := s8.trans (same_new (o := .tup []) ht9)
        have sH9 := sH8b.trans (same_new (o := .tup []) ht9)
        have ob := bo8.mono s9
        rcases hd3 with b | ed
        · cases hc : PyData.eqv d (dtI (iasc [])) with
          | true => exact ⟨_, rfl, k _ _ sH9 ob⟩
          | false => exact ⟨_, rfl, k _ _ sH9 (b.mono s9)⟩
        · rw [ed, show PyData.eqv (dtI []) (dtI (iasc [])) = true from dtI_eqv []]
          exact ⟨_, rfl, k _ _ sH9 ob⟩
      · rw [eqv_nil e9]
        refine if_false_of rfl ?_
        refine iteF ?_
        exact ⟨_, rfl, k _ _ sH8b ((ov.bad.resolve_right e9).mono s8)⟩
    rw [eqv_nil e0]
    refine if_true_of rfl ?_
    have l1 : 0 < ds.length := by cases ds with | nil => exact (e0 rfl).elim | cons a b => exact Nat.succ_pos _
    have axl : ax < ds.length := by omega
    obtain ⟨t, ht1, htn, _⟩ := asc_at hd (k := ax) axl
    have mkOdd : ∀ {G : Hp} {z : Addr} {xs : List V}, G z = some (.tup xs) → (∀ y ∈ xs, Dt G y) → risV n 0 xs = false → Odd K G n ds (.ref z) := fun hz hy hr => ⟨.inl (bad_row (b := true) hz hy hr), fun e => (e0 e).elim⟩
    -- twice
    refine ⟨_, rfl, .inl ⟨rfl, _, SqL.of hl7⟩, _, rfl, _, rfl, _, rfl, ?_⟩
    refine (show rSlA K (.ref q) none (some _) H7 _ from sl_go hq7 (fun za HA sA hza => ?_))
    rw [eax, cut_to (by omega)] at hza
    have hqA := sA _ _ hq7
    have ati : atI (asc ds) (mx / 9 % (if ((asc ds).length : Int) > 1 then ((asc ds).length : Int) else 1)) = some (nv t) := at_of (j := ax) eax ht1
    refine ⟨_, rfl, _, rfl, q, _, _, nv t, rfl, rfl, SqT.of hqA, ati, _, rfl, _, rfl, q, _, _, nv t, rfl, rfl, SqT.of hqA, ati, (by show 2 ≤ sizeLine; decide), fun tw htw => ?_⟩
    have ltk : ((asc ds).take ax).length ≤ 40 := by rw [List.length_take]; omega
    have ldr : ((asc ds).drop (ax + 1)).length ≤ 40 := by rw [List.length_drop]; omega
    refine cat_go ((same_new htw) _ _ hza) upd_same (by show _ + 2 ≤ sizeLine; exact Nat.le_of_lt (small1000 (by omega))) (fun zb HB sB hzb => ?_)
    have sAB := (same_new htw).trans sB
    have hqB := sAB _ _ hqA
    refine ⟨_, rfl, _, rfl, _, _, rfl, rfl, _, rfl, ?_⟩
    try unfold tNoPart
    refine (show rSlA K (.ref q) (some _) none HB _ from sl_go hqB (fun zd HD sD hzd => ?_))
    have eax1 : mx / 9 % (if ((asc ds).length : Int) > 1 then ((asc ds).length : Int) else 1) + 1 = ((ax + 1 : Nat) : Int) := by rw [eax]; rfl
    have hzd' : HD zd = some (.tup ((asc ds).drop (ax + 1))) := by
      rw [← cut_from (xs := asc ds) (k := ax + 1) (by omega), ← eax1]
      exact hzd
    refine cat_go (sD _ _ hzb) hzd' (by rw [List.length_append]; show _ + 2 + _ ≤ sizeLine; exact Nat.le_of_lt (small1000 (by omega))) (fun ze HE sE hze => ?_)
    have s7E := (sA.trans sAB).trans (sD.trans sE)
    have hlE := s7E _ _ hl7
    refine ⟨l, _, _, rfl, rfl, hlE, (by rw [l5]; decide), ?_⟩
    have nze : ze ≠ l := ne_of hze hlE (by intro z; cases z)
    have oddE : ∀ v ∈ sl0 ++ [V.ref ze], Odd K (sh l HE) n ds v := by
      intro v hv
      rcases List.mem_append.mp hv with h | h
      · exact (odd7 v h).mono (sh_mono s7E)
      · rw [List.mem_singleton] at h
        subst h
        refine mkOdd (by rw [sh_at nze]; exact hze) (fun y hy => ?_) ?_
        · rcases List.mem_append.mp hy with h | h
          · rcases List.mem_append.mp h with h | h
            · exact asc_dt ds y (List.mem_of_mem_take h)
            · simp only [List.mem_cons, List.not_mem_nil, or_false, or_self] at h
              subst h
              exact .int _
          · exact asc_dt ds y (List.mem_of_mem_drop h)
        · exact ris_twice ((asc ds).take ax) (nv t) (nv t) ((asc ds).drop (ax + 1)) (by simp) (fun i j h1 h2 => by cases h1; cases h2; exact Int.le_refl _)
    obtain ⟨x6, ex6⟩ : ∃ x6, x6 = sl0 ++ [V.ref ze] := ⟨_, rfl⟩
    have l6 : x6.length = 6 := by rw [ex6, List.length_append, l5]; rfl
    rw [← ex6] at oddE ⊢
    have sHE := upl (o := .lst x6) (sH7.trans s7E)
    have oddF : ∀ v ∈ x6, Odd K (sh l (upd HE l (.lst x6))) n ds v := by rw [sh_upd]; exact oddE
    have boF : Bad (sh l (upd HE l (.lst x6))) n vo := by rw [sh_upd]; exact bo7.mono (sh_mono s7E)
    have hlF : upd HE l (.lst x6) l = some (.lst x6) := upd_same
    obtain ⟨HF, eHF⟩ : ∃ HF, HF = upd HE l (.lst x6) := ⟨_, rfl⟩
    rw [← eHF] at sHE oddF boF hlF ⊢
    have hqF := sHE _ _ hq
    -- of another kind
    refine ⟨_, rfl, .inl ⟨rfl, _, SqL.of hlF⟩, _, rfl, _, rfl, _, rfl, ?_⟩
    refine (show rSlA K (.ref q) none (some _) HF _ from sl_go hqF (fun zg HG sG hzg => ?_))
    rw [eax, cut_to (by omega)] at hzg
    refine ⟨(by show 4 ≤ sizeLine; decide), fun lw hlw => ?_⟩
    have sw := same_new (o := .lst [.str "", .non, .str "1", .bl true]) hlw
    obtain ⟨wv, hwv, mwv⟩ := at_drawn [.str "", .non, .str "1", .bl true] (i := mx / 400 % 4) (Int.emod_nonneg _ (by decide)) (Int.emod_lt_of_pos _ (by decide))
    refine ⟨_, rfl, _, _, rfl, rfl, ⟨by decide, by decide⟩, _, _, rfl, rfl, (by show (0 : Int) < 4; decide), lw, _, _, _, rfl, rfl, SqL.of upd_same, hwv, (by show 1 ≤ sizeLine; decide), fun tv htv => ?_⟩
    have s1v := same_new (o := .tup [wv]) htv
    refine cat_go (s1v _ _ (sw _ _ hzg)) upd_same (by show _ + 1 ≤ sizeLine; exact Nat.le_of_lt (small1000 (by omega))) (fun zh HJ sJ hzh => ?_)
    have sFJ := ((sG.trans sw).trans s1v).trans sJ
    have hlJ := sFJ _ _ hlF
    refine ⟨l, _, _, rfl, rfl, hlJ, (by rw [l6]; decide), ?_⟩
    have nzh : zh ≠ l := ne_of hzh hlJ (by intro z; cases z)
    have wno : ∀ i, wv ≠ .int i := by
      intro i e
      simp only [List.mem_cons, List.not_mem_nil, or_false] at mwv
      rcases mwv with h | h | h | h <;> rw [h] at e <;> cases e
    have wdt : ∀ G : Hp, Dt G wv := by
      intro G
      simp only [List.mem_cons, List.not_mem_nil, or_false] at mwv
      rcases mwv with h | h | h | h <;> rw [h]
      · exact .str _
      · exact .non
      · exact .str _
      · exact .bl _
    have oddJ : ∀ v ∈ x6 ++ [V.ref zh], Odd K (sh l HJ) n ds v := by
      intro v hv
      rcases List.mem_append.mp hv with h | h
      · exact (oddF v h).mono (sh_mono sFJ)
      · rw [List.mem_singleton] at h
        subst h
        refine mkOdd (by rw [sh_at nzh]; exact hzh) (fun y hy => ?_) ?_
        · rcases List.mem_append.mp hy with h | h
          · exact asc_dt ds y (List.mem_of_mem_take h)
          · rw [List.mem_singleton] at h
            subst h
            exact wdt _
        · exact ris_no wv (List.mem_append.mpr (.inr List.mem_cons_self)) (fun i e => (wno i e).elim)
    obtain ⟨x7, ex7⟩ : ∃ x7, x7 = x6 ++ [V.ref zh] := ⟨_, rfl⟩
    have l7 : x7.length = 7 := by rw [ex7, List.length_append, l6]; rfl
    rw [← ex7] at oddJ ⊢
    have sHM := upl (o := .lst x7) (sHE.trans sFJ)
    have oddM : ∀ v ∈ x7, Odd K (sh l (upd HJ l (.lst x7))) n ds v := by rw [sh_upd]; exact oddJ
    have boM : Bad (sh l (upd HJ l (.lst x7))) n vo := by rw [sh_upd]; exact boF.mono (sh_mono sFJ)
    have hlM : upd HJ l (.lst x7) l = some (.lst x7) := upd_same
    obtain ⟨HM, eHM⟩ : ∃ HM, HM = upd HJ l (.lst x7) := ⟨_, rfl⟩
    rw [← eHM] at sHM oddM boM hlM ⊢
    have hqM := sHM _ _ hq
    -- turned about
    refine ⟨_, rfl, q, _, rfl, .inr (SqT.of hqM), _, _, rfl, rfl, _, rfl, ?_⟩
    by_cases c1 : 1 < ds.length
    · refine if_true_of (decide_eq_true (by omega)) ?_
      refine ⟨_, rfl, .inl ⟨rfl, _, SqL.of hlM⟩, _, rfl, q, _, rfl, SqT.of hqM, fun tr htr => ?_⟩
      have sr := same_new (o := .tup (asc ds).reverse) htr
      have hlr := sr _ _ hlM
      refine ⟨l, _, _, rfl, rfl, hlr, (by rw [l7]; decide), ?_⟩
      have nzr : tr ≠ l := ne_of upd_same hlr (by intro z; cases z)
      obtain ⟨xs8, ex8⟩ : ∃ xs8, xs8 = x7 ++ [V.ref tr] := ⟨_, rfl⟩
      have hx8 : 0 < xs8.length := by rw [ex8, List.length_append, l7]; omega
      have oddR : ∀ v ∈ xs8, Odd K (sh l (upd HM tr (.tup (asc ds).reverse))) n ds v := by
        intro v hv
        rw [ex8] at hv
        rcases List.mem_append.mp hv with h | h
        · exact (oddM v h).mono (sh_mono sr)
        · rw [List.mem_singleton] at h
          subst h
          refine mkOdd (by rw [sh_at nzr]; exact upd_same) (fun y hy => asc_dt ds y (List.mem_reverse.mp hy)) ?_
          rw [asc_rev]
          match ds, hd, c1 with
          | a :: b :: r, hd, _ => exact ris_twice [] (nv a) (nv b) (r.map nv) rfl (fun i j h1 h2 => by cases h1; cases h2; have := hd.2.1; omega)
      rw [← ex8]
      have sH8 := upl (o := .lst xs8) (sHM.trans sr)
      have odd8 : ∀ v ∈ xs8, Odd K (sh l (upd (upd HM tr (.tup (asc ds).reverse)) l (.lst xs8))) n ds v := by rw [sh_upd]; exact oddR
      have bo8 : Bad (sh l (upd (upd HM tr (.tup (asc ds).reverse)) l (.lst xs8))) n vo := by rw [sh_upd]; exact boM.mono (sh_mono sr)
      have hl8 : upd (upd HM tr (.tup (asc ds).reverse)) l (.lst xs8) l = some (.lst xs8) := upd_same
      obtain ⟨H8, eH8⟩ : ∃ H8, H8 = upd (upd HM tr (.tup (asc ds).reverse)) l (.lst xs8) := ⟨_, rfl⟩
      rw [← eH8] at sH8 odd8 bo8 hl8 ⊢
      obtain ⟨v, hv, mv⟩ := at_drawn xs8 (i := mx % (xs8.length : Int)) (Int.emod_nonneg _ (by omega)) (Int.emod_lt_of_pos _ (by omega))
      refine ⟨_, rfl, _, rfl, _, rfl, l, _, rfl, .inl (SqL.of hl8), _, _, rfl, rfl, (by omega), l, _, _, _, rfl, rfl, SqL.of hl8, hv, ?_⟩
      have ov := odd8 v mv
      refine ⟨_, rfl, Nat.zero_le _, fun t8 ht8 => ⟨dtI (iasc ds), dtI (iasc []), dp_tup ((same_new ht8) _ _ (sH8 _ _ hq)), dp_tup (ds := []) upd_same, dtI_shaped _, dtI_shaped _, _, rfl, ?_⟩⟩
      have s8 := (sh_same l H8).trans (same_new (o := .tup []) ht8)
      have sH8b := sH8.trans (same_new (o := .tup []) ht8)
      by_cases e9 : ds = []
      · have ee : PyData.eqv (dtI (iasc ds)) (dtI (iasc [])) = true := by rw [e9]; exact dtI_eqv []
        rw [ee]
        refine if_true_of rfl ?_
        obtain ⟨d, hd1, hd2, hd3⟩ := ov.data e9
        refine ⟨_, rfl, Nat.zero_le _, fun t9 ht9 => ⟨d, dtI (iasc []), dp_mono (s8.trans (same_new ht9)) hd1, dp_tup (ds := []) upd_same, hd2, dtI_shaped _, _, rfl, ?_⟩⟩
        have s9 := s8.trans (same_new (o := .tup []) ht9)
        have sH9 := sH8b.trans (same_new (o := .tup []) ht9)
        have ob := bo8.mono s9
        rcases hd3 with b | ed
        · cases hc : PyData.eqv d (dtI (iasc [])) with
          | true => exact ⟨_, rfl, k _ _ sH9 ob⟩
          | false => exact ⟨_, rfl, k _ _ sH9 (b.mono s9)⟩
        · rw [ed, show PyData.eqv (dtI []) (dtI (iasc [])) = true from dtI_eqv []]
          exact ⟨_, rfl, k _ _ sH9 ob⟩
      · rw [eqv_nil e9]
        refine if_false_of rfl ?_
        refine iteF ?_
        exact ⟨_, rfl, k _ _ sH8b ((ov.bad.resolve_right e9).mono s8)⟩
    · refine if_false_of (decide_eq_false (by omega)) ?_
      obtain ⟨xs8, ex8⟩ : ∃ xs8, xs8 = x7 := ⟨_, rfl⟩
      obtain ⟨H8, eH8⟩ : ∃ H8, H8 = HM := ⟨_, rfl⟩
      have hl8 : H8 l = some (.lst xs8) := by rw [eH8, ex8]; exact hlM
      have hx8 : 0 < xs8.length := by rw [ex8, l7]; decide
      have odd8 : ∀ v ∈ xs8, Odd K (sh l H8) n ds v := by rw [ex8, eH8]; exact oddM
      have bo8 : Bad (sh l H8) n vo := by rw [eH8]; exact boM
      have sH8 : Same H H8 := by rw [eH8]; exact sHM
      rw [← eH8]
      obtain ⟨v, hv, mv⟩ := at_drawn xs8 (i := mx % (xs8.length : Int)) (Int.emod_nonneg _ (by omega)) (Int.emod_lt_of_pos _ (by omega))
      refine ⟨_, rfl, _, rfl, _, rfl, l, _, rfl, .inl (SqL.of hl8), _, _, rfl, rfl, (by omega), l, _, _, _, rfl, rfl, SqL.of hl8, hv, ?_⟩
      have ov := odd8 v mv
      refine ⟨_, rfl, Nat.zero_le _, fun t8 ht8 => ⟨dtI (iasc ds), dtI (iasc []), dp_tup ((same_new ht8) _ _ (sH8 _ _ hq)), dp_tup (ds := []) upd_same, dtI_shaped _, dtI_shaped _, _, rfl, ?_⟩⟩
      have s8 := (sh_same l H8).trans (same_new (o := .tup []) ht8)
      have sH8b := sH8.trans (same_new (o := .tup []) ht8)
      by_cases e9 : ds = []
      · have ee : PyData.eqv (dtI (iasc ds)) (dtI (iasc [])) = true := by rw [e9]; exact dtI_eqv []
        rw [ee]
        refine if_true_of rfl ?_
        obtain ⟨d, hd1, hd2, hd3⟩ := ov.data e9
        refine ⟨_, rfl, Nat.zero_le _, fun t9 ht9 => ⟨d, dtI (iasc []), dp_mono (s8.trans (same_new ht9)) hd1, dp_tup (ds := []) upd_same, hd2, dtI_shaped _, _, rfl, ?_⟩⟩
        have s9 := s8.trans (same_new (o := .tup []) ht9)
        have sH9 := sH8b.trans (same_new (o := .tup []) ht9)
        have ob := bo8.mono s9
        rcases hd3 with b | ed
        · cases hc : PyData.eqv d (dtI (iasc [])) with
          | true => exact ⟨_, rfl, k _ _ sH9 ob⟩
          | false => exact ⟨_, rfl, k _ _ sH9 (b.mono s9)⟩
        · rw [ed, show PyData.eqv (dtI []) (dtI (iasc [])) = true from dtI_eqv []]
          exact ⟨_, rfl, k _ _ sH9 ob⟩
      · rw [eqv_nil e9]
        refine if_false_of rfl ?_
        refine iteF ?_
        exact ⟨_, rfl, k _ _ sH8b ((ov.bad.resolve_right e9).mono s8)⟩
end
end Dp
namespace Dp
open PySem PySem.Spec PyProof.Rows L2 DpR
/-! ### the law -/
section
variable {P : Program} {w : World} {K : PySem.W.Frag} {mg : Str → Option Value} {base : Heap}
theorem scLaw : FnScope ["_law_script", "_law_k", "_law_cell", "_law_things", "_law_size", "_law_told_here", "_law_number", "_law_pick", "_law_turn", "_law_wrong", "_law_free", "_law_thing", "_law_more"] ["_law_script"] (defScope s_law) := ⟨rfl, rfl, rfl, by decide +kernel, rfl, by decide +kernel, by decide +kernel⟩
structure Law7 (K : PySem.W.Frag) (mg : Str → Option Value) (CB CP CN CC CT PE : Addr) (fX fK fV fT fS fO : Addr) (dX dK dV dT dS dO : FuncData) : Prop where
  L : LG mg
  I : LI7 mg
  KG : KG mg CB CP CN CC CT
  pe : PeX K mg PE
  kP : KindX K CB CP CN CC CT CP 1
  sP : PySem.W.subIn K (.ref CP) (.ref PE) = some true
  X : GX K mg fX dX
  Ka : GD K mg "_law_cell_at" s_law_cell_at ["_law_script", "_law_k"] fK dK
  Vi : GD K mg "_law_wide" s_law_wide ["_law_cell", "_law_bound"] fV dV
  Kd : GK K mg fT dT
  Sp : GD K mg "_law_spoilt" s_law_spoilt ["_law_pick", "_law_things", "_law_mix"] fS dS
  To : GD K mg "_law_told" s_law_told ["_law_way", "_law_told_here", "_law_one", "_law_other"] fO dO
theorem dtIn_non {H : Hp} : DtIn H .non := ⟨.non, fun _ _ _ e => (nomatch e)⟩
theorem dtIn_ints {H : Hp} {a : Addr} {b : Bool} {ds : List Nat} (ha : H a = some (rowO b (asc ds))) : DtIn H (.ref a) := by
  refine ⟨.row b _ ha, fun a' b' xs e ha' y hy => ?_⟩
  cases e
  rw [ha] at ha'
  have e : asc ds = xs := by
    cases b <;> cases b' <;> first | exact HO.lst.inj (Option.some.inj ha') | exact HO.tup.inj (Option.some.inj ha') | cases ha'
  rw [← e] at hy
  exact asc_dt ds y hy
/-- another number of things is no pick -/
theorem no_len {H : Hp} {a : Addr} {b : Bool} {n m : Nat} {xs : List V} (ha : H a = some (rowO b xs)) (hl : xs.length ≠ m) : ¬ ∃ ds, IsPk H (.ref a) n m ds := by
  rintro ⟨ds, a', b', e, ha', _, l⟩
  cases e
  rw [ha] at ha'
  have e : xs = asc ds := by
    cases b <;> cases b' <;> first | exact HO.lst.inj (Option.some.inj ha') | exact HO.tup.inj (Option.some.inj ha') | cases ha'
  rw [e, asc_len] at hl
  exact hl l
theorem dtIn_row {H : Hp} {a : Addr} {b : Bool} {xs : List V} (ha : H a = some (rowO b xs)) (hx : ∀ y ∈ xs, Dt H y) : DtIn H (.ref a) := by
  refine ⟨.row b _ ha, fun a' b' xs' e ha' y hy => ?_⟩
  cases e
  rw [ha] at ha'
  have e : xs = xs' := by
    cases b <;> cases b' <;> first | exact HO.lst.inj (Option.some.inj ha') | exact HO.tup.inj (Option.some.inj ha') | cases ha'
  rw [← e] at hy
  exact hx y hy
theorem ok_law {C D CB CP CN CC CT PE fX fK fV fT fS fO : Addr} {dX dK dV dT dS dO : FuncData} {f : Addr} {fd : FuncData} (F : Fun K "law" "law" s_law f fd)
    (Z : Law7 K mg CB CP CN CC CT PE fX fK fV fT fS fO dX dK dV dT dS dO) (Pk : PicksB P w K mg base C CB 7) (Sk : SetsB P w K mg base D CB 7)
    (Pm : HasM P w K mg base C "many" [] 7 (spMany C)) (Pa : HasM P w K mg base C "at" ["number"] 7 (spAt C CN)) (Pn : HasM P w K mg base C "number" ["one"] 7 (spNumber C CP)) (Ps : HasM P w K mg base C "step" ["one", "by"] 7 (spStep C CP)) (Pc : HasM P w K mg base C "change" ["pick"] 7 (spChange C CP CC)) (Po : HasM P w K mg base C "compared" ["one", "other"] 7 (spCompared C CP))
    (Sn : HasM P w K mg base D "number" ["one"] 7 (spSNumber D CP)) (Ss : HasM P w K mg base D "step" ["one", "by"] 7 (spSStep D CP)) (Sc : HasM P w K mg base D "change" ["some"] 7 (spSChange D CP CC)) : FnOk P w K mg base CX0 10 f fd ["_law_script"] (spLaw K) := by
  have kX : FnOk P w K mg base CX0 1 fX dX ["_law_cell", "_law_k"] spMixed := ok_mixed Z.X.F
  have kK : FnOk P w K mg base CX0 2 fK dK ["_law_script", "_law_k"] (spCellAt K) := ok_cellAt Z.Ka.F Z.L Z.X
  have kV : FnOk P w K mg base CX0 2 fV dV ["_law_cell", "_law_bound"] spWide := ok_wide Z.Vi.F Z.L Z.X
  have kS : FnOk P w K mg base CX0 1 fS dS ["_law_pick", "_law_things", "_law_mix"] (spSpoilt K) := ok_spoilt Z.Sp.F Z.L
  have kTp : FnOk P w K mg base CX0 8 fO dO ["_law_way", "_law_told_here", "_law_one", "_law_other"] (spToldP C) := ok_toldP Z.To.F Z.Kd Z.KG Pk.T Z.pe Z.sP Z.kP Pn Ps Pc Po
  have kTs : FnOk P w K mg base CX0 8 fO dO ["_law_way", "_law_told_here", "_law_one", "_law_other"] (spToldS D) := ok_toldS Z.To.F Z.Kd Z.KG Sk.T Z.pe Z.sP Z.kP Sn Ss Sc
  obtain ⟨fI, dI, mI, bI, lI, hI, kI⟩ := Pk.made
  obtain ⟨fJ, dJ, mJ, bJ, lJ, hJ, kJ⟩ := Sk.made
  obtain ⟨lM, hM, fM, fdM, eM, bM, kM⟩ := Pm
  obtain ⟨lA, hA, fA, fdA, eA, bA, kA⟩ := Pa
  obtain ⟨lN, hN, fN, fdN, eN, bN, kN⟩ := Pn
  obtain ⟨lO, hO, fC, fdC, eC, bC, kC⟩ := Po
  refine F.ok scLaw (fun vs H Q E h => ?_) (fun cdv A outer s H vs Q E hr h => ?_)
  · obtain ⟨a, ns, rfl, _⟩ := h
    rfl
  · obtain ⟨a, ns, rfl, hS, hlen, k⟩ := h
    have r1 : Room 1 _ := hr.mono (by decide)
    have r2 : Room 2 _ := hr.mono (by decide)
    have r8 : Room 8 _ := hr.mono (by decide)
    have rM : Room lM _ := hr.mono (by omega)
    have rA : Room lA _ := hr.mono (by omega)
    have rN : Room lN _ := hr.mono (by omega)
    have rO : Room lO _ := hr.mono (by omega)
    have rI : Room (lI + 1) _ := hr.mono (by omega)
    have rJ : Room (lJ + 1) _ := hr.mono (by omega)
    refine ⟨_, pss_cons (ps_for PassesOwn.never rfl (pi_range1 rfl Z.L.range (pa_cons (pe_callB (call_max2 rfl) (by rfl) Z.L.max (by decide +kernel) (pa_cons pe_int (pa_cons (pe_callB (call_min2 rfl) (by rfl) Z.L.min (by decide +kernel) (pa_cons pe_int (pa_cons (pe_callB call_len_seq (by rfl) Z.L.len PySem.boot_len (pa_cons (pv 0) pa_nil)) pa_nil))) pa_nil))) pa_nil)) (pg_name (i := 1) scLaw.nd rfl (Or.inl rfl))
        (pss_cons (ps_set (i := 2) scLaw.nd rfl (Or.inl rfl) (pe_call kK r2 rfl Z.Ka.g Z.Ka.F.kp Z.Ka.b .nil pass0 (pa_cons (pv 0) (pa_cons (pv 1) pa_nil))))
        (pss_cons (ps_set (i := 3) scLaw.nd rfl (Or.inl rfl) (pe_op op_mod (pe_op op_fdiv (pv 2) pe_int) pe_int))
        (pss_cons (ps_set (i := 4) scLaw.nd rfl (Or.inl rfl) (pe_op op_mod (pe_call kX r1 rfl Z.X.g Z.X.F.kp Z.X.b .nil pass0 (pa_cons (pv 2) (pa_cons pe_int pa_nil))) (pe_op op_add (pv 3) pe_int)))
        (pss_cons (ps_set (i := 5) scLaw.nd rfl (Or.inl rfl) (pe_make mI kI rI rfl Pk.g bI .nil passL (pa_cons (pv 3) (pa_cons (pv 4) pa_nil))))
        (pss_cons (ps_set (i := 6) scLaw.nd rfl (Or.inl rfl) (pe_call kV r2 rfl Z.Vi.g Z.Vi.F.kp Z.Vi.b .nil pass0 (pa_cons (pe_call kX r1 rfl Z.X.g Z.X.F.kp Z.X.b .nil pass0 (pa_cons (pv 2) (pa_cons pe_int pa_nil))) (pa_cons (pe_meth0 (pv 5) Pk.T.cl eM kM rM bM .nil passL) pa_nil))))
        (pss_cons (ps_set (i := 7) scLaw.nd rfl (Or.inr rfl) (pe_meth (pv 5) Pk.T.cl eA kA rA bA .nil passL (pa_cons (pv 6) pa_nil)))
        (pss_cons (ps_for PassesOwn.never rfl (pi_range1 rfl Z.L.range (pa_cons pe_int pa_nil)) (pg_name (i := 8) scLaw.nd rfl (Or.inl rfl))
          (pss_cons (ps_set (i := 9) scLaw.nd rfl (Or.inl rfl) (pe_call kS r1 rfl Z.Sp.g Z.Sp.F.kp Z.Sp.b .nil pass0 (pa_cons (pv 7) (pa_cons (pv 3) (pa_cons (pe_op op_fdiv (pe_call kX r1 rfl Z.X.g Z.X.F.kp Z.X.b .nil pass0 (pa_cons (pv 2) (pa_cons (pe_op op_add pe_int (pv 8)) pa_nil))) pe_int) pa_nil)))))
          (pss_cons (ps_if (pt_cmpR op_ne (pe_call kTp r8 rfl Z.To.g Z.To.F.kp Z.To.b .nil pass0 (pa_cons (pv 8) (pa_cons (pv 5) (pa_cons (pv 9) (pa_cons (pv 7) pa_nil))))) pe_str (nomark _)) (pss_one (ps_ret pe_bl)) pss_nil)
          (pss_one (ps_if (PW.pt (pw_and (pt_cmpR op_lt (pv 8) pe_int (nomark _)) (pw_and1 (pt_cmpR op_ne (pe_call kTs r8 rfl Z.To.g Z.To.F.kp Z.To.b .nil pass0 (pa_cons (pv 8) (pa_cons (pe_make mJ kJ rJ rfl Sk.g bJ .nil passL (pa_cons (pv 3) pa_nil)) (pa_cons (pv 9) (pa_cons pe_non pa_nil))))) pe_str (nomark _))))) (pss_one (ps_ret pe_bl)) pss_nil)))))
        (pss_cons (ps_if (PW.pt (pw_and (pt_cmpR op_gt (pv 4) pe_int (nomark _)) (pw_and1 (pt_cmpR op_ne (pe_call kTp r8 rfl Z.To.g Z.To.F.kp Z.To.b .nil pass0 (pa_cons (pe_op op_mod (pv 2) pe_int) (pa_cons (pv 5) (pa_cons (pe_slice sl_tupA (pv 7) (po_some pe_int) po_none) (pa_cons (pv 7) pa_nil))))) pe_str (nomark _))))) (pss_one (ps_ret pe_bl)) pss_nil)
        (pss_cons (ps_setLc (i := 10) (own := [("_law_thing", 11)]) (g := gName 11) rfl scLaw.nd rfl rfl (sw_true rfl rfl rfl (by decide +kernel)) (pi_range1 rfl Z.L.range (pa_cons (pv 3) pa_nil)) (blkOk_by (N := ["_law_script", "_law_k", "_law_cell", "_law_things", "_law_size", "_law_told_here", "_law_number", "_law_pick", "_law_turn", "_law_wrong", "_law_free", "_law_thing", "_law_more"]) (sc := defScope s_law) (by decide +kernel)) (fun _ _ _ _ _ => pg_name (i := 11) scLaw.nd rfl (Or.inl rfl))
            (fun _ _ _ _ _ => pts_one (pt_cmpR (r := rIn K true) op_notIn_seq (pv 11) (pv 7) (by rfl))) (fun _ _ _ _ _ => pv 11))
        (pss_cons (ps_if (pt_cmpR (op_neD hr.units) (pv 10) (pe_lst pa_nil) (nomark _))
          (pss_cons (ps_set (i := 12) scLaw.nd rfl (Or.inl rfl) (pe_callTy call_tuple_of (by rfl) Z.I.tuple (by decide +kernel) (pa_cons (pe_callB cr_sortedTp (by rfl) Z.I.sorted (by decide +kernel) (pa_cons (pe_op op_catA (pv 7) (pe_tup (pa_cons (pe_ix ix_list (pv 10) (pe_op op_mod (pe_op op_fdiv (pv 2) pe_int) (pe_callB call_len_seq (by rfl) Z.L.len PySem.boot_len (pa_cons (pv 10) pa_nil))) (fun _ _ => rfl)) pa_nil))) pa_nil)) pa_nil)))
          (pss_one (ps_if (pt_cmpR op_ne (pe_call kTp r8 rfl Z.To.g Z.To.F.kp Z.To.b .nil pass0 (pa_cons (pe_op op_mod (pe_op op_fdiv (pv 2) pe_int) pe_int) (pa_cons (pv 5) (pa_cons (pv 12) (pa_cons (pv 7) pa_nil))))) pe_str (nomark _)) (pss_one (ps_ret pe_bl)) pss_nil))) pss_nil)
        (pss_one (ps_if (PW.pt (pw_or (pt_cmpR op_ne (pe_meth (pv 5) Pk.T.cl eN kN rN bN .nil passL (pa_cons (pv 7) pa_nil)) (pv 6) (nomark _)) (pw_or1 (pt_cmpR op_ne (pe_meth (pv 5) Pk.T.cl eC kC rO bC .nil passL (pa_cons (pv 7) (pa_cons (pv 7) pa_nil))) pe_int (nomark _))))) (pss_one (ps_ret pe_bl)) pss_nil)))))))))))))
      (pss_one (ps_ret pe_bl)), ?_⟩
    have kdone := 0
    refine ⟨_, rfl, a, _, rfl, .inl hS, _, _, rfl, _, _, rfl, _, rfl, by rw [List.length_map]; (split <;> (try split) <;> omega), by rw [List.length_map]; (split <;> (try split) <;> omega), ?_⟩
    refine for_range (fun i σ H' => ∃ v1 v2 v3 v4 v5 v6 v7 v8 v9 v10 v11 v12, σ = [some (.ref a), v1, v2, v3, v4, v5, v6, v7, v8, v9, v10, v11, v12] ∧ Same H H') ⟨none, none, none, none, none, none, none, none, none, none, none, none, rfl, Same.refl _⟩ ?_ ?_
    · rintro i σ H' hi ⟨v1, v2, v3, v4, v5, v6, v7, v8, v9, v10, v11, v12, rfl, sA⟩
      refine ⟨_, rfl, _, rfl, a, ns, i, (by show [V.ref a, V.int (0 + (i : Int))] = [V.ref a, V.int (i : Int)]; rw [Int.zero_add]), sA.seq hS, fun c hc => ?_⟩
      have c0 := hc.1
      obtain ⟨n, en, hn⟩ : ∃ n : Nat, c / 3 % 41 = (n : Int) ∧ n ≤ 40 := by
        have h1 := Int.emod_nonneg (c / 3) (b := 41) (by decide)
        have h2 := Int.emod_lt_of_pos (c / 3) (b := 41) (by decide)
        exact ⟨(c / 3 % 41).toNat, by omega, by omega⟩
      have en' : V.int (c / 3 % 41) = nv n := congrArg V.int en
      refine ⟨_, rfl, _, _, rfl, rfl, ⟨by decide, by decide⟩, _, _, rfl, rfl, (by show (0 : Int) < 41; decide), ?_⟩
      refine ⟨_, rfl, _, _, rfl, fun d hd => ⟨_, rfl, _, _, rfl, rfl, _, _, rfl, rfl, (by show (0 : Int) < c / 3 % 41 + 1; omega), ?_⟩⟩
      obtain ⟨m, em, hm⟩ : ∃ m : Nat, d % (c / 3 % 41 + 1) = (m : Int) ∧ m ≤ n := by
        have h1 := Int.emod_nonneg d (b := c / 3 % 41 + 1) (by omega)
        have h2 := Int.emod_lt_of_pos d (b := c / 3 % 41 + 1) (by omega)
        exact ⟨(d % (c / 3 % 41 + 1)).toNat, by omega, by omega⟩
      have em' : V.int (d % (c / 3 % 41 + 1)) = nv m := congrArg V.int em
      refine ⟨_, rfl, _, rfl, fun x dx nx ndx nex => ⟨x, dx, V.int (c / 3 % 41), V.int (d % (c / 3 % 41 + 1)), rfl, upd_same, .int _, .int _, fun n' m' e1 e2 _ _ => ⟨rfl, ?_⟩, fun no => (no ⟨n, m, en', em', by omega, by omega⟩).elim⟩⟩
      rw [en'] at e1
      rw [em'] at e2
      cases nv_inj e1
      cases nv_inj e2
      have s2 : Same H' _ := same_made (C := C) (n := n) (m := m) nx ndx
      have pk : PkAt C _ x n m := pk_made (dx := dx) (H := H') (by omega) hm
      obtain ⟨H2, eH2⟩ : ∃ H2, H2 = upd (upd (upd H' dx (.own x)) x (.ins C dx [])) x (.ins C dx (pkF n m)) := ⟨_, rfl⟩
      rw [← eH2] at s2 pk ⊢
      have hx2 : H2 x = some (.ins C dx (pkF n m)) := by rw [eH2]; exact upd_same
      have nom : (pkF n m).lookup ("many" : Str) = none := pkF_no _ _ (by decide +kernel) (by decide +kernel)
      have noa : (pkF n m).lookup ("at" : Str) = none := pkF_no _ _ (by decide +kernel) (by decide +kernel)
      have non : (pkF n m).lookup ("number" : Str) = none := pkF_no _ _ (by decide +kernel) (by decide +kernel)
      have noo : (pkF n m).lookup ("compared" : Str) = none := pkF_no _ _ (by decide +kernel) (by decide +kernel)
      have hpos : (0 : Int) < (ch n m : Int) := by have := ch_pos hm; omega
      refine ⟨_, rfl, _, _, rfl, fun d8 hd8 => ⟨_, rfl, x, dx, _, rfl, hx2, nom, x, n, m, rfl, pk, d8, _, rfl, hpos, fun r r0 r1 => ?_⟩⟩
      refine ⟨_, rfl, x, dx, _, rfl, hx2, noa, _, rfl, x, n, m, .int r, rfl, pk, .int _, fun i' q H3 e _ _ s3 hqn hq => ?_, fun no => (no ⟨r, rfl, r0, r1⟩).elim⟩
      cases e
      obtain ⟨ds, eds⟩ : ∃ ds, ds = un n m r := ⟨_, rfl⟩
      have ⟨u1, u2, u3⟩ := un_spec m n r r0 r1
      have pq := pk_un hq r0 r1
      rw [← eds] at u1 u2 u3 hq pq
      have hx3 := s3 _ _ hx2
      have pk3 := pk.mono s3
      have sQ := (sA.trans s2).trans s3
      have ld := u1.len
      -- five times
      refine ⟨5, rfl, by decide, by decide, for_range (n := 5) (fun j σ G => ∃ v8 v9 v10 v11 v12, σ = [some (.ref a), some (.int (0 + (i : Int))), some (.int c), some (.int (c / 3 % 41)), some (.int (d % (c / 3 % 41 + 1))), some (.ref x), some (.int r), some (.ref q), v8, v9, v10, v11, v12] ∧ Same H3 G) ⟨v8, v9, v10, v11, v12, rfl, Same.refl _⟩ ?_ ?_⟩
      · rintro j σ G hj ⟨v8, v9, v10, v11, v12, rfl, g⟩
        refine ⟨_, rfl, _, rfl, _, rfl, _, rfl, _, _, rfl, rfl, _, _, rfl, fun d9 hd9 => ⟨_, _, rfl, rfl, ⟨by decide, by decide⟩, q, n, ds, _, (by show [V.ref q, V.int (c / 3 % 41), _] = _; rw [en']), g _ _ hq, u1, hn, Int.ediv_nonneg hd9.1 (by decide), fun wv HW sW bw => ?_⟩⟩
        have gW := g.trans sW
        refine ⟨_, rfl, _, rfl, _, rfl, _, rfl, x, n, m, wv, .ref q, _, rfl, pk3.mono gW, bw.dt, dtIn_pk (pq.mono gW), bw.pk, by omega, by omega, fun HV sV => ⟨rfl, _, rfl, ?_⟩⟩
        refine iteNS rfl ?_
        have gV := gW.trans sV
        refine ⟨_, rfl, _, _, rfl, rfl, _, rfl, ?_⟩
        by_cases c3 : (0 : Int) + (j : Int) < 3
        · refine if_true_of (decide_eq_true c3) ?_
          refine ⟨_, rfl, _, rfl, fun y dy ny ndy ney => ⟨y, dy, V.int (c / 3 % 41), rfl, upd_same, .int _, fun n' e1 _ => ⟨rfl, ?_⟩, fun no => (no ⟨n, en', by omega⟩).elim⟩⟩
          rw [en'] at e1
          cases nv_inj e1
          have s4 : Same HV _ := same_mk (C := D) (fs := skF n) ny ndy
          have sk : SkAt D _ y n := sk_made (dx := dy) (H := HV) (by omega)
          have bw4 := (bw.mono sV).mono s4
          refine ⟨_, rfl, y, n, wv, .non, _, rfl, sk, bw4.dt, bw4.no, by omega, c3, fun HT5 s5 => ⟨rfl, _, rfl, ?_⟩⟩
          exact iteNS rfl ⟨_, _, _, _, _, rfl, (gV.trans s4).trans s5⟩
        · refine if_false_of (decide_eq_false c3) ?_
          exact iteF ⟨_, _, _, _, _, rfl, gV⟩
      · rintro σ H4 ⟨v8, v9, v10, v11, v12, rfl, g4⟩
        refine ⟨_, rfl, _, _, rfl, rfl, _, rfl, ?_⟩
        by_cases cm : 0 < m
        · refine if_true_of (decide_eq_true (by show 0 < d % (c / 3 % 41 + 1); omega)) ?_
          refine ⟨_, rfl, _, _, rfl, rfl, (by show (0 : Int) < 3; decide), _, rfl, _, rfl, _, rfl, ?_⟩
          try unfold tNoPart
          refine (show rSlA K (.ref q) (some _) none H4 _ from sl_go (g4 _ _ hq) (fun zs H5 s5 hzs => ?_))
          have hzs' : H5 zs = some (.tup ((asc ds).drop 1)) := by
            rw [← cut_from (xs := asc ds) (k := 1) (by rw [asc_len]; omega)]
            exact hzs
          have g5 := g4.trans s5
          refine ⟨_, rfl, x, n, m, .ref zs, .ref q, _, rfl, pk3.mono g5, dtIn_row (b := true) hzs' (fun y hy => asc_dt ds y (List.mem_of_mem_drop hy)), dtIn_pk (pq.mono g5), no_len (b := true) hzs' (by rw [List.length_drop, asc_len]; omega), Int.emod_nonneg _ (by decide), by have := Int.emod_lt_of_pos c (b := 3) (by decide); omega, fun HM s6 => ⟨rfl, _, rfl, ?_⟩⟩
          refine iteNS rfl ?_
          have sM := g5.trans s6
          refine ⟨_, rfl, _, rfl, by omega, by omega, fun D hD => lc_it walk_range (fun j G => G D = some (.lst (((List.range j).filter (fun t => !ds.contains t)).map nv)) ∧ Same HM G) ⟨upd_same, same_new hD⟩ (fun j G _ _ => trivial) ?_ ?_⟩
          · rintro j y G G' hj ⟨hD2, g⟩ ⟨rfl, ey⟩
            have ey' : y = nv j := ey.trans (congrArg V.int (by omega))
            subst ey'
            refine ⟨rfl, _, rfl, _, rfl, q, asc ds, rfl, .inr (SqT.of (g _ _ (sM _ _ hq))), rfl, asc_flat ds, _, rfl, ?_⟩
            have step := range_filter_succ (fun t => !ds.contains t) j
            have ec : (!inV (nv j) (asc ds)) = !ds.contains j := by rw [inV_asc]
            by_cases cc : (!ds.contains j) = true
            · refine if_true_of (c := !inV (nv j) (asc ds)) (ec.trans cc) ?_
              refine ⟨_, rfl, _, hD2, ?_, ?_, fun b o e => ?_⟩
              · refine small1000 ?_
                rw [List.length_map]
                have h1 := List.length_filter_le (fun t => !ds.contains t) (List.range j)
                rw [List.length_range] at h1
                omega
              · rw [upd_same, step, if_pos cc, List.map_append]; rfl
              · rw [upd_ne (ne_of_none e hD)]
                exact g _ _ e
            · refine if_false_of (c := !inV (nv j) (asc ds)) (ec.trans (by simpa using cc)) ⟨?_, g⟩
              rw [step, if_neg cc, List.append_nil]
              exact hD2
          rintro G9 ⟨hD9, g9⟩
          obtain ⟨fr, efr⟩ : ∃ fr, fr = (List.range (c / 3 % 41).toNat).filter (fun t => !ds.contains t) := ⟨_, rfl⟩
          rw [← efr] at hD9
          have hfr : ∀ t ∈ fr, t ∉ ds := by
            intro t ht
            rw [efr] at ht
            have := (List.mem_filter.mp ht).2
            simpa using this
          have efi : fr.map nv = (fr.map Int.ofNat).map V.int := by rw [List.map_map]; rfl
          have lfr : fr.length ≤ 40 := by
            rw [efr]
            have h1 := List.length_filter_le (fun t => !ds.contains t) (List.range (c / 3 % 41).toNat)
            rw [List.length_range] at h1
            omega
          refine ⟨_, rfl, Nat.zero_le _, fun l0 hl0 => ⟨ltI (fr.map Int.ofNat), ltI [], dp_ints (by rw [← efi]; exact (same_new hl0) _ _ hD9), dp_ints upd_same, ltI_shaped _, ltI_shaped _, _, rfl, ?_⟩⟩
          have sP := (sM.trans g9).trans (same_new (o := .lst []) hl0)
          have hDp := (same_new (o := .lst []) hl0) _ _ hD9
          obtain ⟨HP, eHP⟩ : ∃ HP, HP = upd G9 l0 (.lst []) := ⟨_, rfl⟩
          rw [← eHP] at sP hDp ⊢
          by_cases ef : fr = []
          · have ee : PyData.eqv (ltI (fr.map Int.ofNat)) (ltI []) = true := by rw [ef]; exact ltI_eqv []
            rw [ee]
            refine iteF ?_
            have sN : Same H3 HP := sP
            refine ⟨_, rfl, x, dx, _, rfl, sN _ _ hx3, non, _, rfl, x, n, m, _, rfl, pk3.mono sN, dtIn_pk (pq.mono sN), fun ds' Hy ky sy => ?_, fun Hy no _ => (no ⟨_, pq.mono sN⟩).elim⟩
            cases IsPk.inj ky (pq.mono sN)
            refine ⟨_, rfl, rfl, _, rfl, ?_⟩
            refine iteNS (congrArg V.int u3) ?_
            have sY := sN.trans sy
            refine ⟨_, rfl, x, dx, _, rfl, sY _ _ hx3, noo, _, rfl, _, rfl, x, n, m, _, _, rfl, pk3.mono sY, dtIn_pk (pq.mono sY), dtIn_pk (pq.mono sY), fun da db Hz k1 k2 sz => ?_, fun Hz no _ => (no ⟨⟨_, pq.mono sY⟩, ⟨_, pq.mono sY⟩⟩).elim⟩
            cases IsPk.inj k1 (pq.mono sY)
            cases IsPk.inj k2 (pq.mono sY)
            refine ⟨rfl, _, rfl, ?_⟩
            refine iteNS (congrArg V.int (by unfold cmpI; rw [if_neg (Int.lt_irrefl _), if_neg (Int.lt_irrefl _)])) ?_
            exact ⟨_, _, _, _, _, _, _, _, _, _, _, _, rfl, sQ.trans (sY.trans sz)⟩
          have ee : PyData.eqv (ltI (fr.map Int.ofNat)) (ltI []) = false := by
            cases fr with
            | nil => exact (ef rfl).elim
            | cons a b => rfl
          rw [ee]
          refine if_true_of rfl ?_
          have lpos : 0 < (fr.map nv).length := by rw [List.length_map]; cases fr with | nil => exact (ef rfl).elim | cons a b => exact Nat.succ_pos _
          obtain ⟨tv, htv, mtv⟩ := at_drawn (fr.map nv) (i := c / 90 % ((fr.map nv).length : Int)) (Int.emod_nonneg _ (by omega)) (Int.emod_lt_of_pos _ (by omega))
          obtain ⟨t, htf, rfl⟩ := List.mem_map.mp mtv
          have hqP := sP _ _ hq
          refine ⟨_, rfl, _, rfl, _, rfl, _, _, rfl, rfl, ⟨by decide, by decide⟩, _, rfl, D, _, rfl, .inl (SqL.of hDp), _, _, rfl, rfl, (by omega), D, _, _, nv t, rfl, rfl, SqL.of hDp, htv, (by show 1 ≤ sizeLine; decide), fun tt htt => ?_⟩
          refine cat_go ((same_new htt) _ _ hqP) upd_same (by rw [asc_len]; exact Nat.le_of_lt (small1000 (by show _ + 1 ≤ 1000; omega))) (fun zc HC sC hzc => ?_)
          have eints : asc ds ++ [nv t] = ((ds.reverse ++ [t]).map Int.ofNat).map V.int := by
            unfold asc
            rw [List.map_append, List.map_append, List.map_map]
            rfl
          rw [eints] at hzc
          refine ⟨zc, (ds.reverse ++ [t]).map Int.ofNat, rfl, SqT.of hzc, fun ns' l3 hp3 hs3 hl3 => ⟨l3, _, rfl, .inl ⟨SqL.of upd_same, fun l4 hl4 => ?_⟩⟩⟩
          have sR := (((sP.trans (same_new (o := .tup [nv t]) htt)).trans sC).trans (same_new (o := .lst (ns'.map V.int)) hl3)).trans (same_new (o := .tup (ns'.map V.int)) hl4)
          obtain ⟨HR, eHR⟩ : ∃ HR, HR = upd (upd HC l3 (.lst (ns'.map V.int))) l4 (.tup (ns'.map V.int)) := ⟨_, rfl⟩
          have hl4R : HR l4 = some (.tup (ns'.map V.int)) := by rw [eHR]; exact upd_same
          rw [← eHR] at sR ⊢
          have lns : (ns'.map V.int).length = m + 1 := by rw [List.length_map, hp3.length_eq, List.length_map, List.length_append, List.length_reverse, u2]; rfl
          refine ⟨_, rfl, _, _, rfl, rfl, ⟨by decide, by decide⟩, _, _, rfl, rfl, (by show (0 : Int) < 5; decide), _, rfl, _, rfl, _, rfl, x, n, m, .ref l4, .ref q, _, rfl, pk3.mono sR, dtIn_row (b := true) hl4R (fun y hy => by obtain ⟨i, _, rfl⟩ := List.mem_map.mp hy; exact .int i), dtIn_pk (pq.mono sR), no_len (b := true) hl4R (by omega), Int.emod_nonneg _ (by decide), Int.emod_lt_of_pos _ (by decide), fun HS sS => ⟨rfl, _, rfl, ?_⟩⟩
          refine iteNS rfl ?_
          have sN := sR.trans sS
          refine ⟨_, rfl, x, dx, _, rfl, sN _ _ hx3, non, _, rfl, x, n, m, _, rfl, pk3.mono sN, dtIn_pk (pq.mono sN), fun ds' Hy ky sy => ?_, fun Hy no _ => (no ⟨_, pq.mono sN⟩).elim⟩
          cases IsPk.inj ky (pq.mono sN)
          refine ⟨_, rfl, rfl, _, rfl, ?_⟩
          refine iteNS (congrArg V.int u3) ?_
          have sY := sN.trans sy
          refine ⟨_, rfl, x, dx, _, rfl, sY _ _ hx3, noo, _, rfl, _, rfl, x, n, m, _, _, rfl, pk3.mono sY, dtIn_pk (pq.mono sY), dtIn_pk (pq.mono sY), fun da db Hz k1 k2 sz => ?_, fun Hz no _ => (no ⟨⟨_, pq.mono sY⟩, ⟨_, pq.mono sY⟩⟩).elim⟩
          cases IsPk.inj k1 (pq.mono sY)
          cases IsPk.inj k2 (pq.mono sY)
          refine ⟨rfl, _, rfl, ?_⟩
          refine iteNS (congrArg V.int (by unfold cmpI; rw [if_neg (Int.lt_irrefl _), if_neg (Int.lt_irrefl _)])) ?_
          exact ⟨_, _, _, _, _, _, _, _, _, _, _, _, rfl, sQ.trans (sY.trans sz)⟩
        refine if_false_of (decide_eq_false (by show ¬ 0 < d % (c / 3 % 41 + 1); omega)) ?_
        refine iteF ?_
        obtain ⟨HM, eHM⟩ : ∃ HM, HM = H4 := ⟨_, rfl⟩
        have sM : Same H3 HM := by rw [eHM]; exact g4
        rw [← eHM]
        refine ⟨_, rfl, _, rfl, by omega, by omega, fun D hD => lc_it walk_range (fun j G => G D = some (.lst (((List.range j).filter (fun t => !ds.contains t)).map nv)) ∧ Same HM G) ⟨upd_same, same_new hD⟩ (fun j G _ _ => trivial) ?_ ?_⟩
        · rintro j y G G' hj ⟨hD2, g⟩ ⟨rfl, ey⟩
          have ey' : y = nv j := ey.trans (congrArg V.int (by omega))
          subst ey'
          refine ⟨rfl, _, rfl, _, rfl, q, asc ds, rfl, .inr (SqT.of (g _ _ (sM _ _ hq))), rfl, asc_flat ds, _, rfl, ?_⟩
          have step := range_filter_succ (fun t => !ds.contains t) j
          have ec : (!inV (nv j) (asc ds)) = !ds.contains j := by rw [inV_asc]
          by_cases cc : (!ds.contains j) = true
          · refine if_true_of (c := !inV (nv j) (asc ds)) (ec.trans cc) ?_
            refine ⟨_, rfl, _, hD2, ?_, ?_, fun b o e => ?_⟩
            · refine small1000 ?_
              rw [List.length_map]
              have h1 := List.length_filter_le (fun t => !ds.contains t) (List.range j)
              rw [List.length_range] at h1
              omega
            · rw [upd_same, step, if_pos cc, List.map_append]; rfl
            · rw [upd_ne (ne_of_none e hD)]
              exact g _ _ e
          · refine if_false_of (c := !inV (nv j) (asc ds)) (ec.trans (by simpa using cc)) ⟨?_, g⟩
            rw [step, if_neg cc, List.append_nil]
            exact hD2
        rintro G9 ⟨hD9, g9⟩
        obtain ⟨fr, efr⟩ : ∃ fr, fr = (List.range (c / 3 % 41).toNat).filter (fun t => !ds.contains t) := ⟨_, rfl⟩
        rw [← efr] at hD9
        have hfr : ∀ t ∈ fr, t ∉ ds := by
          intro t ht
          rw [efr] at ht
          have := (List.mem_filter.mp ht).2
          simpa using this
        have efi : fr.map nv = (fr.map Int.ofNat).map V.int := by rw [List.map_map]; rfl
        have lfr : fr.length ≤ 40 := by
          rw [efr]
          have h1 := List.length_filter_le (fun t => !ds.contains t) (List.range (c / 3 % 41).toNat)
          rw [List.length_range] at h1
          omega
        refine ⟨_, rfl, Nat.zero_le _, fun l0 hl0 => ⟨ltI (fr.map Int.ofNat), ltI [], dp_ints (by rw [← efi]; exact (same_new hl0) _ _ hD9), dp_ints upd_same, ltI_shaped _, ltI_shaped _, _, rfl, ?_⟩⟩
        have sP := (sM.trans g9).trans (same_new (o := .lst []) hl0)
        have hDp := (same_new (o := .lst []) hl0) _ _ hD9
        obtain ⟨HP, eHP⟩ : ∃ HP, HP = upd G9 l0 (.lst []) := ⟨_, rfl⟩
        rw [← eHP] at sP hDp ⊢
        by_cases ef : fr = []
        · have ee : PyData.eqv (ltI (fr.map Int.ofNat)) (ltI []) = true := by rw [ef]; exact ltI_eqv []
          rw [ee]
          refine iteF ?_
          have sN : Same H3 HP := sP
          refine ⟨_, rfl, x, dx, _, rfl, sN _ _ hx3, non, _, rfl, x, n, m, _, rfl, pk3.mono sN, dtIn_pk (pq.mono sN), fun ds' Hy ky sy => ?_, fun Hy no _ => (no ⟨_, pq.mono sN⟩).elim⟩
          cases IsPk.inj ky (pq.mono sN)
          refine ⟨_, rfl, rfl, _, rfl, ?_⟩
          refine iteNS (congrArg V.int u3) ?_
          have sY := sN.trans sy
          refine ⟨_, rfl, x, dx, _, rfl, sY _ _ hx3, noo, _, rfl, _, rfl, x, n, m, _, _, rfl, pk3.mono sY, dtIn_pk (pq.mono sY), dtIn_pk (pq.mono sY), fun da db Hz k1 k2 sz => ?_, fun Hz no _ => (no ⟨⟨_, pq.mono sY⟩, ⟨_, pq.mono sY⟩⟩).elim⟩
          cases IsPk.inj k1 (pq.mono sY)
          cases IsPk.inj k2 (pq.mono sY)
          refine ⟨rfl, _, rfl, ?_⟩
          refine iteNS (congrArg V.int (by unfold cmpI; rw [if_neg (Int.lt_irrefl _), if_neg (Int.lt_irrefl _)])) ?_
          exact ⟨_, _, _, _, _, _, _, _, _, _, _, _, rfl, sQ.trans (sY.trans sz)⟩
        have ee : PyData.eqv (ltI (fr.map Int.ofNat)) (ltI []) = false := by
          cases fr with
          | nil => exact (ef rfl).elim
          | cons a b => rfl
        rw [ee]
        refine if_true_of rfl ?_
        have lpos : 0 < (fr.map nv).length := by rw [List.length_map]; cases fr with | nil => exact (ef rfl).elim | cons a b => exact Nat.succ_pos _
        obtain ⟨tv, htv, mtv⟩ := at_drawn (fr.map nv) (i := c / 90 % ((fr.map nv).length : Int)) (Int.emod_nonneg _ (by omega)) (Int.emod_lt_of_pos _ (by omega))
        obtain ⟨t, htf, rfl⟩ := List.mem_map.mp mtv
        have hqP := sP _ _ hq
        refine ⟨_, rfl, _, rfl, _, rfl, _, _, rfl, rfl, ⟨by decide, by decide⟩, _, rfl, D, _, rfl, .inl (SqL.of hDp), _, _, rfl, rfl, (by omega), D, _, _, nv t, rfl, rfl, SqL.of hDp, htv, (by show 1 ≤ sizeLine; decide), fun tt htt => ?_⟩
        refine cat_go ((same_new htt) _ _ hqP) upd_same (by rw [asc_len]; exact Nat.le_of_lt (small1000 (by show _ + 1 ≤ 1000; omega))) (fun zc HC sC hzc => ?_)
        have eints : asc ds ++ [nv t] = ((ds.reverse ++ [t]).map Int.ofNat).map V.int := by
          unfold asc
          rw [List.map_append, List.map_append, List.map_map]
          rfl
        rw [eints] at hzc
        refine ⟨zc, (ds.reverse ++ [t]).map Int.ofNat, rfl, SqT.of hzc, fun ns' l3 hp3 hs3 hl3 => ⟨l3, _, rfl, .inl ⟨SqL.of upd_same, fun l4 hl4 => ?_⟩⟩⟩
        have sR := (((sP.trans (same_new (o := .tup [nv t]) htt)).trans sC).trans (same_new (o := .lst (ns'.map V.int)) hl3)).trans (same_new (o := .tup (ns'.map V.int)) hl4)
        obtain ⟨HR, eHR⟩ : ∃ HR, HR = upd (upd HC l3 (.lst (ns'.map V.int))) l4 (.tup (ns'.map V.int)) := ⟨_, rfl⟩
        have hl4R : HR l4 = some (.tup (ns'.map V.int)) := by rw [eHR]; exact upd_same
        rw [← eHR] at sR ⊢
        have lns : (ns'.map V.int).length = m + 1 := by rw [List.length_map, hp3.length_eq, List.length_map, List.length_append, List.length_reverse, u2]; rfl
        refine ⟨_, rfl, _, _, rfl, rfl, ⟨by decide, by decide⟩, _, _, rfl, rfl, (by show (0 : Int) < 5; decide), _, rfl, _, rfl, _, rfl, x, n, m, .ref l4, .ref q, _, rfl, pk3.mono sR, dtIn_row (b := true) hl4R (fun y hy => by obtain ⟨i, _, rfl⟩ := List.mem_map.mp hy; exact .int i), dtIn_pk (pq.mono sR), no_len (b := true) hl4R (by omega), Int.emod_nonneg _ (by decide), Int.emod_lt_of_pos _ (by decide), fun HS sS => ⟨rfl, _, rfl, ?_⟩⟩
        refine iteNS rfl ?_
        have sN := sR.trans sS
        refine ⟨_, rfl, x, dx, _, rfl, sN _ _ hx3, non, _, rfl, x, n, m, _, rfl, pk3.mono sN, dtIn_pk (pq.mono sN), fun ds' Hy ky sy => ?_, fun Hy no _ => (no ⟨_, pq.mono sN⟩).elim⟩
        cases IsPk.inj ky (pq.mono sN)
        refine ⟨_, rfl, rfl, _, rfl, ?_⟩
        refine iteNS (congrArg V.int u3) ?_
        have sY := sN.trans sy
        refine ⟨_, rfl, x, dx, _, rfl, sY _ _ hx3, noo, _, rfl, _, rfl, x, n, m, _, _, rfl, pk3.mono sY, dtIn_pk (pq.mono sY), dtIn_pk (pq.mono sY), fun da db Hz k1 k2 sz => ?_, fun Hz no _ => (no ⟨⟨_, pq.mono sY⟩, ⟨_, pq.mono sY⟩⟩).elim⟩
        cases IsPk.inj k1 (pq.mono sY)
        cases IsPk.inj k2 (pq.mono sY)
        refine ⟨rfl, _, rfl, ?_⟩
        refine iteNS (congrArg V.int (by unfold cmpI; rw [if_neg (Int.lt_irrefl _), if_neg (Int.lt_irrefl _)])) ?_
        exact ⟨_, _, _, _, _, _, _, _, _, _, _, _, rfl, sQ.trans (sY.trans sz)⟩
    · rintro σ H' ⟨v1, v2, v3, v4, v5, v6, v7, v8, v9, v10, v11, v12, rfl, sA⟩
      exact k H'
end
end Dp
namespace Dp
open PySem PySem.Spec PyProof.Rows L2 DpR
section
variable {P : Program} {w : World} {K : PySem.W.Frag} {mg : Str → Option Value} {base : Heap}
/-! ### is_whole -/
theorem scWhole : FnScope ["asked", "low", "high"] ["asked", "low", "high"] (defScope s_is_whole) := ⟨rfl, rfl, rfl, by decide +kernel, rfl, by decide +kernel, by decide +kernel⟩
theorem ok_whole {f : Addr} {fd : FuncData} (F : Fun K "is_whole" "is_whole" s_is_whole f fd) (G : GlbW mg) : FnOk P w K mg base CX0 1 f fd ["asked", "low", "high"] spWhole := by
  refine F.ok scWhole (fun vs H Q E h => ?_) (fun cdv A outer s H vs Q E hr h => ?_)
  · obtain ⟨x, lo, hi, rfl, _⟩ := h
    rfl
  · obtain ⟨x, lo, hi, rfl, hx, q⟩ := h
    refine ⟨_, pss_one (ps_ret (pe_and (pe_cmpR op_eqTy (pe_callTy call_type1 (by rfl) G.type (by decide +kernel) (pa_cons (pv 0) pa_nil)) (pe_bltn (v := .ty "int") (by rfl) G.int (by decide +kernel) rfl) (nomark _))
      (pe_one (pe_chain op_le op_le (pv 1) (pv 0) (pv 2))))), ?_⟩
    obtain ⟨T, ty, hk, hT⟩ := hx.tyB (K := K)
    refine ⟨x, rfl, x, T, rfl, ty, T, "int", rfl, rfl, hk, by decide +kernel, decide (T = "int"), rfl, ?_⟩
    by_cases c : T = "int"
    · obtain ⟨i, rfl⟩ := hT.mp c
      refine if_true_of (decide_eq_true c) ?_
      refine ⟨_, rfl, _, rfl, lo, i, rfl, rfl, decide (lo ≤ i), rfl, ?_⟩
      by_cases c1 : lo ≤ i
      · refine if_true_of (decide_eq_true c1) ?_
        refine ⟨_, rfl, i, hi, rfl, rfl, ?_⟩
        have e : wholeV (.int i) lo hi = decide (i ≤ hi) := by
          show (decide (lo ≤ i) && decide (i ≤ hi)) = decide (i ≤ hi)
          rw [decide_eq_true c1, Bool.true_and]
        show Q (.bl (decide (i ≤ hi))) H
        rw [← e]
        exact q
      · refine if_false_of (decide_eq_false c1) ?_
        have e : wholeV (.int i) lo hi = false := by
          show (decide (lo ≤ i) && decide (i ≤ hi)) = false
          rw [decide_eq_false c1, Bool.false_and]
        rw [← e]
        exact q
    · refine if_false_of (decide_eq_false c) ?_
      have e : wholeV x lo hi = false := by
        cases x with
        | int i => exact absurd (hT.mpr ⟨i, rfl⟩) c
        | _ => rfl
      rw [← e]
      exact q
structure GW (K : PySem.W.Frag) (mg : Str → Option Value) (f : Addr) (fd : FuncData) : Prop where
  F : Fun K "is_whole" "is_whole" s_is_whole f fd
  b : Binds K fd ["asked", "low", "high"] []
  g : mg "is_whole" = some (.ref f)
end
section
variable {P : Program} {w : World} {K : PySem.W.Frag} {mg : Str → Option Value} {base : Heap}
/-! ### is_rising -/
theorem scRising : FnScope ["row", "things", "least", "thing"] ["row", "things"] (defScope s_is_rising) := ⟨rfl, rfl, rfl, by decide +kernel, rfl, by decide +kernel, by decide +kernel⟩
structure GR (K : PySem.W.Frag) (mg : Str → Option Value) (f : Addr) (fd : FuncData) : Prop where
  F : Fun K "is_rising" "is_rising" s_is_rising f fd
  b : Binds K fd ["row", "things"] []
  g : mg "is_rising" = some (.ref f)
theorem risV_drop {n : Int} : ∀ {xs : List V} {lo : Int} {i : Nat} {x : V}, xs[i]? = some x → risV n lo (xs.take i) = true → (∀ j, (xs.take i).getLast? = some (.int j) → True) → True := fun _ _ _ => trivial
/-- the least that the next thing may be, behind i of them -/
def leastAt (xs : List V) (i : Nat) : Int := match (xs.take i).getLast? with
  | some (.int j) => j + 1
  | _ => 0
theorem risV_step {n : Int} : ∀ (pre : List V) (lo : Int) (post : List V), risV n lo pre = true → risV n lo (pre ++ post) = risV n (match pre.getLast? with | some (.int j) => j + 1 | _ => lo) post
  | [], lo, post, _ => rfl
  | x :: r, lo, post, h => by
    cases x with
    | int i =>
      have h' : (decide (lo ≤ i) && decide (i ≤ n - 1) && risV n (i + 1) r) = true := h
      rw [Bool.and_eq_true] at h'
      obtain ⟨q1, q2⟩ := h'
      show (decide (lo ≤ i) && decide (i ≤ n - 1) && risV n (i + 1) (r ++ post)) = _
      rw [q1, Bool.true_and, risV_step r (i + 1) post q2]
      cases r with
      | nil => rfl
      | cons y r => rw [List.getLast?_cons_cons]; cases hy : (y :: r).getLast? with
        | none => simp at hy
        | some z =>
          cases z with
          | int j => rfl
          | _ =>
            exfalso
            have key : ∀ (l : List V) (lo : Int) (z : V), risV n lo l = true → l.getLast? = some z → ∃ j, z = .int j := by
              intro l
              induction l with
              | nil => intro lo z _ hz; simp at hz
              | cons a l ih =>
                intro lo z h1 h2
                cases a with
                | int j =>
                  have h1' : (decide (lo ≤ j) && decide (j ≤ n - 1) && risV n (j + 1) l) = true := h1
                  rw [Bool.and_eq_true] at h1'
                  cases l with
                  | nil => exact ⟨j, (Option.some.inj h2).symm⟩
                  | cons b l => exact ih (j + 1) z h1'.2 (by rw [List.getLast?_cons_cons] at h2; exact h2)
                | _ => exact absurd (show false = true from h1) Bool.false_ne_true
            obtain ⟨j, e⟩ := key _ _ _ q2 hy
            cases e
    | _ => exact absurd (show false = true from h) Bool.false_ne_true
theorem ok_rising {f fW : Addr} {fd fdW : FuncData} (F : Fun K "is_rising" "is_rising" s_is_rising f fd) (G : GlbW mg) (W : GW K mg fW fdW) : FnOk P w K mg base CX0 2 f fd ["row", "things"] spRising := by
  have GWk : FnOk P w K mg base CX0 1 fW fdW ["asked", "low", "high"] spWhole := ok_whole W.F G
  refine F.ok scRising (fun vs H Q E h => ?_) (fun cdv A outer s H vs Q E hr h => ?_)
  · obtain ⟨x, n, rfl, _⟩ := h
    rfl
  · obtain ⟨x, n, rfl, hx, q⟩ := h
    refine ⟨_, pss_cons (ps_if (pt_not (pt_val (pe_callB call_isiT (by rfl) G.isinstance (by decide +kernel) (pa_cons (pv 0) (pa_cons (pe_tup (pa_cons (pe_bltn (v := .ty "tuple") (by rfl) G.tuple (by decide +kernel) rfl) (pa_cons (pe_bltn (v := .ty "list") (by rfl) G.list (by decide +kernel) rfl) pa_nil))) pa_nil))))) (pss_one (ps_ret pe_bl)) pss_nil)
      (pss_cons (ps_set (i := 2) scRising.nd rfl (Or.inl rfl) pe_int)
      (pss_cons (ps_for PassesOwn.never rfl (pi_sq (pv 0)) (pg_name (i := 3) scRising.nd rfl (Or.inl rfl))
        (pss_cons (ps_if (pt_not (pt_val (pe_call GWk hr rfl W.g W.F.kp W.b .nil pass0 (pa_cons (pv 3) (pa_cons (pv 2) (pa_cons (pe_op op_sub (pv 1) pe_int) pa_nil)))))) (pss_one (ps_ret pe_bl)) pss_nil)
        (pss_one (ps_set (i := 2) scRising.nd rfl (Or.inl rfl) (pe_op op_add (pv 3) pe_int)))))
      (pss_one (ps_ret pe_bl)))), ?_⟩
    refine ⟨x, rfl, (by show 2 ≤ sizeLine; decide), fun tp htp => ?_⟩
    have s1 : Same H (upd H tp (.tup [.ty "tuple", .ty "list"])) := same_new htp
    obtain ⟨T, r, tx, hk, hrow⟩ := (hx.1.mono s1).tyX (K := K)
    have hrow' : isRow (upd H tp (.tup [.ty "tuple", .ty "list"])) x ↔ isRow H x := by
      constructor
      · rintro ⟨a, b, xs, rfl, h⟩
        cases hx.1 with
        | row b xs h' => exact ⟨a, b, xs, rfl, h'⟩
        | dic kvs h' =>
          have := s1 _ _ h'
          rw [h] at this
          cases b <;> cases this
      · rintro ⟨a, b, xs, e, h⟩
        exact ⟨a, b, xs, e, s1 _ _ h⟩
    rw [hrow'] at hrow
    refine ⟨x, tp, _, .type T, _, r, rfl, upd_same, .cons (.ty _) (.cons (.ty _) .nil), tx, hk, r, rfl, ?_⟩
    cases hr' : r with
    | false =>
      rw [hr'] at hrow
      have nr : ¬ isRow H x := fun z => absurd (hrow.mpr z) (by simp)
      exact iteT (q false _ s1 ⟨fun z => absurd z nr, fun _ => rfl⟩)
    | true =>
      rw [hr'] at hrow
      obtain ⟨a, b, xs, rfl, ha⟩ := hrow.mp rfl
      refine iteF ?_
      have ih : ∀ y ∈ xs, Dt H y := hx.2 a b xs rfl ha
      have only : ∀ b' xs', H a = some (rowO b' xs') → xs' = xs := fun b' xs' h' => by
        rw [ha] at h'
        cases b <;> cases b' <;> first | exact (HO.lst.inj (Option.some.inj h')).symm | exact (HO.tup.inj (Option.some.inj h')).symm | cases h'
      refine ⟨_, rfl, a, b, xs, rfl, row_sq (s1 _ _ ha), for_it (walk_itb (b := b) (a := a) (xs := xs)) (fun i σ H' => ∃ v, σ = [some (.ref a), some (.int n), some (.int (leastAt xs i)), v] ∧ Same H H' ∧ risV n 0 (xs.take i) = true) ⟨none, rfl, s1, rfl⟩
        (fun i σ H' _ ⟨_, _, s2, _⟩ => row_sq (s2 _ _ ha)) ?_ ?_⟩
      · rintro i y σ H1 H1' hi ⟨v, rfl, s2, hp⟩ ⟨rfl, hy⟩
        have dy : Dt H1' y := (ih y (List.mem_of_getElem? hy)).mono s2
        have et : xs.take (i + 1) = xs.take i ++ [y] := by
          rw [List.take_succ, hy]; rfl
        have est : risV n 0 (xs.take (i + 1)) = risV n (leastAt xs i) [y] := by
          rw [et, risV_step _ _ _ hp]
          rfl
        refine ⟨_, rfl, _, rfl, _, rfl, _, _, rfl, rfl, y, _, _, rfl, dy, _, rfl, ?_⟩
        cases hw : wholeV y (leastAt xs i) (n - 1) with
        | false =>
          refine iteT ?_
          refine q false _ s2 ⟨fun _ a' b' xs' e h' => ?_, fun _ => rfl⟩
          cases e
          rw [only b' xs' h']
          have e2 : xs = xs.take i ++ (y :: xs.drop (i + 1)) := by
            have hi' : i < xs.length := hi
            have : xs[i] = y := by
              have := (List.getElem?_eq_some_iff.mp hy).2
              exact this
            rw [← this, ← List.drop_eq_getElem_cons hi', List.take_append_drop]
          rw [e2, risV_step _ _ _ hp]
          cases y with
          | int j =>
            have hw' : (decide (leastAt xs i ≤ j) && decide (j ≤ n - 1)) = false := hw
            show false = (decide (leastAt xs i ≤ j) && decide (j ≤ n - 1) && _)
            rw [hw', Bool.false_and]
          | _ => rfl
        | true =>
          refine iteF ?_
          cases y with
          | int j =>
            refine ⟨_, rfl, _, _, rfl, rfl, some (.int j), ?_, s2, ?_⟩
            · have : leastAt xs (i + 1) = j + 1 := by
                unfold leastAt
                rw [et, List.getLast?_concat]
              rw [this]
              rfl
            · rw [est]
              have hw' : (decide (leastAt xs i ≤ j) && decide (j ≤ n - 1)) = true := hw
              show (decide (leastAt xs i ≤ j) && decide (j ≤ n - 1) && true) = true
              rw [hw', Bool.true_and]
          | _ => exact absurd (show false = true from hw) Bool.false_ne_true
      · rintro σ H1 ⟨v, rfl, s2, hp⟩
        rw [List.take_length] at hp
        refine q true _ s2 ⟨fun _ a' b' xs' e h' => ?_, fun z => absurd ⟨a, b, xs, rfl, ha⟩ z⟩
        cases e
        rw [only b' xs' h', hp]
end
structure Glb (mg : Str → Option Value) : Prop extends GlbW mg where
  len : mg "len" = none
  enumerate : mg "enumerate" = none
  range : mg "range" = none
  reversed : mg "reversed" = none
  comb : mg "comb" = some (.builtin "math.comb")
  most : ∃ t, mg "MOST_THINGS" = some (.int 200 t)
section
variable {P : Program} {w : World} {K : PySem.W.Frag} {mg : Str → Option Value} {base : Heap}
/-! ### Picks: made, many -/
theorem scInit : FnScope ["self", "things", "size"] ["self", "things", "size"] (defScope s_Picks_init) := ⟨rfl, rfl, rfl, by decide +kernel, rfl, by decide +kernel, by decide +kernel⟩
theorem ok_init {f fW C CB : Addr} {fd fdW : FuncData} (F : Fun K "__init__" "Picks.__init__" s_Picks_init f fd) (G : Glb mg) (W : GW K mg fW fdW) (T : PkC K C) (xB : ExT K mg "NoBounds" CB) :
    FnOk P w K mg base (L2.CX P w) 2 f fd ["self", "things", "size"] (spInit C CB) := by
  have GWk : FnOk P w K mg base CX0 1 fW fdW ["asked", "low", "high"] spWhole := ok_whole W.F G.toGlbW
  obtain ⟨tm, hmost⟩ := G.most
  refine F.okX scInit (fun vs H Q E h => ?_) (fun cdv A outer s H vs Q E hr h => ?_)
  · obtain ⟨p, dx, x, y, rfl, _⟩ := h
    rfl
  · obtain ⟨p, dx, x, y, rfl, hp, hx, hy, kok, kno⟩ := h
    refine ⟨_, pss_cons (ps_if (pt_not (pt_val (pe_call GWk hr rfl W.g W.F.kp W.b .nil pass0 (pa_cons (pv 1) (pa_cons pe_int (pa_cons (pe_glob (v := .int 200) (by rfl) hmost ⟨_, rfl⟩) pa_nil)))))) (pss_one (ps_raise rfl (takes_of rfl rfl rfl rfl) (pmk_own PySem.F.excBase_ValueError xB.x xB.g xB.kp (raises_own xB.b xB.t) (by rfl)))) pss_nil)
      (pss_cons (ps_if (pt_not (pt_val (pe_call GWk hr rfl W.g W.F.kp W.b .nil pass0 (pa_cons (pv 2) (pa_cons pe_int (pa_cons (pv 1) pa_nil)))))) (pss_one (ps_raise rfl (takes_of rfl rfl rfl rfl) (pmk_own PySem.F.excBase_ValueError xB.x xB.g xB.kp (raises_own xB.b xB.t) (by rfl)))) pss_nil)
      (PSs.nox (pss_cons (ps_fld (pv 0) (pv 1) rfl) (pss_one (ps_fld (pv 0) (pv 2) rfl))))), ?_⟩
    refine ⟨_, rfl, x, 0, 200, rfl, hx, _, rfl, ?_⟩
    cases c : wholeV x 0 200 with
    | false =>
      refine iteT (kno ?_)
      rintro ⟨n, m, rfl, rfl, h1, h2⟩
      have e := whole_nv n 200
      rw [show ((200 : Nat) : Int) = 200 from rfl, c, decide_eq_true h1] at e
      cases e
    | true =>
      refine iteF ?_
      obtain ⟨n, rfl, hn⟩ := whole_nat (hi := 200) c
      refine ⟨_, rfl, _, rfl, y, 0, n, rfl, hy, _, rfl, ?_⟩
      cases c2 : wholeV y 0 n with
      | false =>
        refine iteT (kno ?_)
        rintro ⟨n', m, e, rfl, h1, h2⟩
        have en := nv_inj e
        subst en
        have e := whole_nv m n
        rw [c2, decide_eq_true h2] at e
        cases e
      | true =>
        refine iteF ?_
        obtain ⟨m, rfl, hm⟩ := whole_nat c2
        refine ⟨_, rfl, _, rfl, p, C, dx, [], rfl, hp, T.cl, T.nT, (by show 0 < 1000; decide), _, rfl, _, rfl, p, C, dx, _, rfl, upd_same, T.cl, T.nS, (by show 1 < 1000; decide), ?_⟩
        have k := kok n m rfl rfl hn hm
        rw [upd_upd]
        exact k
theorem scMany : FnScope ["self"] ["self"] (defScope s_Picks_many) := ⟨rfl, rfl, rfl, by decide +kernel, rfl, by decide +kernel, by decide +kernel⟩
theorem ok_many {f C : Addr} {fd : FuncData} (F : Fun K "many" "Picks.many" s_Picks_many f fd) (G : Glb mg) (T : PkC K C) : FnOk P w K mg base CX0 1 f fd ["self"] (spMany C) := by
  refine F.ok scMany (fun vs H Q E h => ?_) (fun cdv A outer s H vs Q E hr h => ?_)
  · obtain ⟨p, n, m, rfl, _⟩ := h
    rfl
  · obtain ⟨p, n, m, rfl, hp, q⟩ := h
    obtain ⟨dx, hp'⟩ := hp.ob
    refine ⟨_, pss_one (ps_ret (pe_callBfun cr_comb (by rfl) G.comb (pa_cons (pe_fld (pv 0) rfl) (pa_cons (pe_fld (pv 0) rfl) pa_nil)))), ?_⟩
    exact ⟨_, rfl, p, C, dx, _, _, rfl, hp', T.cl, T.nT, pkF_things _ _, _, rfl, p, C, dx, _, _, rfl, hp', T.cl, T.nS, pkF_size _ _, n, m, rfl, Nat.le_trans hp.n200 (by decide), q⟩
/-! ### number -/
theorem scNumber : FnScope ["self", "one", "place", "size", "thing"] ["self", "one"] (defScope s_Picks_number) := ⟨rfl, rfl, rfl, by decide +kernel, rfl, by decide +kernel, by decide +kernel⟩
theorem ok_number {f fR fW C CP : Addr} {fd fdR fdW : FuncData} (F : Fun K "number" "Picks.number" s_Picks_number f fd) (G : Glb mg) (W : GW K mg fW fdW) (R : GR K mg fR fdR) (T : PkC K C) (xP : ExT K mg "NoPick" CP) :
    FnOk P w K mg base (L2.CX P w) 3 f fd ["self", "one"] (spNumber C CP) := by
  have GRk : FnOk P w K mg base CX0 2 fR fdR ["row", "things"] spRising := ok_rising R.F G.toGlbW W
  refine F.okX scNumber (fun vs H Q E h => ?_) (fun cdv A outer s H vs Q E hr h => ?_)
  · obtain ⟨p, n, m, one, rfl, _⟩ := h
    rfl
  · obtain ⟨p, n, m, one, rfl, hp, ho, kok, kno⟩ := h
    obtain ⟨dx, hp'⟩ := hp.ob
    refine ⟨_, pss_cons (ps_if (PW.pt (pw_or (pt_not (pt_val (pe_call GRk hr rfl R.g R.F.kp R.b .nil pass0 (pa_cons (pv 1) (pa_cons (pe_fld (pv 0) rfl) pa_nil))))) (pw_or1 (pt_cmpR op_ne (pe_callB call_len_seq (by rfl) G.len PySem.boot_len (pa_cons (pv 1) pa_nil)) (pe_fld (pv 0) rfl) (nomark _)))))
        (pss_one (ps_raise rfl (takes_of rfl rfl rfl rfl) (pmk_own PySem.F.excBase_ValueError xP.x xP.g xP.kp (raises_own xP.b xP.t) (by rfl)))) pss_nil)
      (PSs.nox (pss_cons (ps_set (i := 2) scNumber.nd rfl (Or.inl rfl) pe_int)
      (pss_cons (ps_for PassesOwn.never rfl (pi_enumS (by decide) (by decide) (by rfl) G.enumerate (pv 1)) (pg_tup rfl (pgs_cons (pg_name (i := 3) scNumber.nd rfl (Or.inl rfl)) (pgs_cons (pg_name (i := 4) scNumber.nd rfl (Or.inl rfl)) pgs_nil)))
        (pss_one (ps_set (i := 2) scNumber.nd rfl (Or.inl rfl) (pe_op op_sub (pe_op op_sub (pe_callBfun cr_comb (by rfl) G.comb (pa_cons (pe_op op_add (pv 4) pe_int) (pa_cons (pv 3) pa_nil))) pe_int) (pv 2)))))
      (pss_one (ps_ret (pv 2)))))), ?_⟩
    refine ⟨one, rfl, _, rfl, p, C, dx, _, _, rfl, hp', T.cl, T.nT, pkF_things _ _, one, n, rfl, ho, fun r H1 s1 hr1 => ⟨r, rfl, ?_⟩⟩
    have no : (∃ ds, IsPk H one n m ds) → r = true := by
      rintro ⟨ds, a, b, rfl, ha, hd, hl⟩
      rw [hr1.1 ⟨a, b, _, rfl, ha⟩ a b _ rfl ha]
      exact desc_ris hd
    cases hr' : r with
    | false => exact iteT (iteT (kno _ (fun z => by rw [no z] at hr'; cases hr') s1))
    | true =>
      refine iteF ?_
      obtain ⟨a, b, xs, rfl, ha⟩ : isRow H one := by
        apply Classical.byContradiction
        intro z
        rw [hr1.2 z] at hr'
        cases hr'
      have hris : risV n 0 xs = true := by rw [← hr1.1 ⟨a, b, _, rfl, ha⟩ a b xs rfl ha]; exact hr'
      obtain ⟨ds, e1, hd, hl⟩ := ris_desc xs [] 0 trivial (Nat.zero_le _) hris
      have e1' : xs = asc ds := e1
      subst e1'
      have hl' : ds.length = (asc ds).length := by rw [asc_len]
      have ha1 := s1 _ _ ha
      have sq : SqL K H1 a (asc ds) ∨ SqT K H1 a (asc ds) := by
        cases b with
        | false => exact .inl (SqL.of ha1)
        | true => exact .inr (SqT.of ha1)
      refine ⟨_, rfl, a, _, rfl, sq, _, rfl, p, C, dx, _, _, rfl, s1 _ _ hp', T.cl, T.nS, pkF_size _ _, rfl, _, rfl, ?_⟩
      have edec : decide (V.int ((asc ds).length : Int) = nv m) = decide (ds.length = m) := by
        rw [asc_len]
        by_cases c : ds.length = m
        · rw [decide_eq_true c, decide_eq_true (by rw [c]; rfl)]
        · rw [decide_eq_false c]; exact decide_eq_false fun z => c (nv_inj z)
      rw [edec]
      by_cases c : ds.length = m
      · rw [decide_eq_true c]
        refine iteF ?_
        have kk := kok ds
        -- place = 0; for ..
        refine ⟨_, rfl, a, b, asc ds, rfl, row_sq ha1, for_it (walk_ies (b := b) (k := 1) (a := a) (xs := asc ds)) (fun i σ H' => ∃ v3 v4, σ = [some (.ref p), some (.ref a), some (.int (rk (ds.drop (ds.length - i)))), v3, v4] ∧ Same H H')
          ⟨none, none, by rw [Nat.sub_zero, List.drop_length]; rfl, s1⟩ (fun i σ H' _ ⟨_, _, _, s2⟩ => row_sq (s2 _ _ ha)) ?_ ?_⟩
        · rintro i y σ H2 H2' hi ⟨v3, v4, rfl, s2⟩ ⟨tp, x1, x2, rfl, htp, rfl, e1, e2⟩
          cases e1
          have hi' : i < ds.length := by rw [← asc_len ds]; exact hi
          obtain ⟨t, hdr, hat⟩ := drop_more hi'
          have e3 : (asc ds)[i]? = some x2 := e2
          rw [hat] at e3
          have e4 := Option.some.inj e3
          subst e4
          have s3 : Same H (upd H2 tp (.tup [.int (1 + (i : Nat)), nv t])) := s2.trans (same_new htp)
          have ht : t < n := hd.mem t (by
            have : t ∈ ds.drop (ds.length - (i + 1)) := by rw [hdr]; exact List.mem_cons_self
            exact List.mem_of_mem_drop this)
          have hn := hp.n200
          have ldr : (ds.drop (ds.length - i)).length = i := by rw [List.length_drop]; omega
          refine ⟨tp, _, rfl, SqT.of upd_same, rfl, _, _, rfl, _, _, rfl, rfl, ?_⟩
          refine ⟨_, rfl, _, _, rfl, rfl, _, rfl, t + 1, i + 1, two_int (by show (t : Int) + 1 = _; omega) (by omega), by omega, _, _, rfl, rfl, _, rfl, _, _, rfl, rfl, ?_⟩
          refine ⟨some (.int (1 + (i : Nat))), some (nv t), ?_, s3⟩
          rw [hdr]
          show _ = [some (V.ref p), some (V.ref a), some (V.int ((ch (t + 1) ((ds.drop (ds.length - i)).length + 1) : Int) - 1 - rk (ds.drop (ds.length - i)))), some (V.int (1 + (i : Nat))), some (nv t)]
          rw [ldr]
          rfl
        · rintro σ H2 ⟨v3, v4, rfl, s2⟩
          rw [asc_len, Nat.sub_self, List.drop_zero]
          exact ⟨_, rfl, kk _ ⟨a, b, rfl, ha, hd, c⟩ s2⟩
      · rw [decide_eq_false c]
        refine iteT (kno _ ?_ s1)
        rintro ⟨ds', a', b', e, h1, h2, h3⟩
        cases e
        have : asc ds' = asc ds := by
          rw [ha] at h1
          cases b <;> cases b' <;> first | exact (HO.lst.inj (Option.some.inj h1)).symm | exact (HO.tup.inj (Option.some.inj h1)).symm | cases h1
        rw [asc_inj this] at h3
        exact c h3
/-! ### at -/
theorem scAt : FnScope ["self", "number", "picked", "place", "greatest", "size"] ["self", "number"] (defScope s_Picks_at) := ⟨rfl, rfl, rfl, by decide +kernel, rfl, by decide +kernel, by decide +kernel⟩
structure GM (K : PySem.W.Frag) (C : Addr) (f : Addr) (fd : FuncData) : Prop where
  F : Fun K "many" "Picks.many" s_Picks_many f fd
  b : Binds K fd ["self"] []
  m : Meth K C "many" f
def whileC : L2.St → Hp → Nat := fun σ' _ => match σ'[4]? with | some (some (V.int c)) => c.toNat | _ => 0
theorem dn_if (k : Nat) (p : Int) (g : Nat) (h : p < ch (g + 1) k) : dn k p (g + 1) = dn k p g := by
  show (if (ch (g + 1) k : Int) > p then dn k p g else g + 1) = dn k p g
  rw [if_pos h]
theorem dn_stop (k : Nat) (p : Int) (g : Nat) (h : ¬ p < ch g k) : dn k p g = g := by
  cases g with
  | zero => rfl
  | succ g =>
    show (if (ch (g + 1) k : Int) > p then dn k p g else g + 1) = g + 1
    rw [if_neg h]
theorem ok_at {f fW fM C CN : Addr} {fd fdW fdM : FuncData} (F : Fun K "at" "Picks.at" s_Picks_at f fd) (G : Glb mg) (W : GW K mg fW fdW) (M : GM K C fM fdM) (T : PkC K C) (xN : ExT K mg "NoNumber" CN) :
    FnOk P w K mg base (L2.CX P w) 2 f fd ["self", "number"] (spAt C CN) := by
  have GWk : FnOk P w K mg base CX0 1 fW fdW ["asked", "low", "high"] spWhole := ok_whole W.F G.toGlbW
  have GMk : FnOk P w K mg base CX0 1 fM fdM ["self"] (spMany C) := ok_many M.F G T
  refine F.okX scAt (fun vs H Q E h => ?_) (fun cdv A outer s H vs Q E hr h => ?_)
  · obtain ⟨p, n, m, x, rfl, _⟩ := h
    rfl
  · obtain ⟨p, n, m, x, rfl, hp, hx, kok, kno⟩ := h
    obtain ⟨dx, hp'⟩ := hp.ob
    have hn := hp.n200
    have hm := hp.mn
    refine ⟨_, pss_cons (ps_if (pt_not (pt_val (pe_call GWk hr rfl W.g W.F.kp W.b .nil pass0 (pa_cons (pv 1) (pa_cons pe_int (pa_cons (pe_op op_sub (pe_meth0 (pv 0) T.cl M.m GMk hr M.b .nil pass0) pe_int) pa_nil))))))
        (pss_one (ps_raise rfl (takes_of rfl rfl rfl rfl) (pmk_own PySem.F.excBase_ValueError xN.x xN.g xN.kp (raises_own xN.b xN.t) (by rfl)))) pss_nil)
      (PSs.nox (pss_cons (ps_set (i := 2) scAt.nd rfl (Or.inl rfl) (pe_lst pa_nil))
      (pss_cons (ps_set (i := 3) scAt.nd rfl (Or.inl rfl) (pv 1))
      (pss_cons (ps_set (i := 4) scAt.nd rfl (Or.inl rfl) (pe_fld (pv 0) rfl))
      (pss_cons (ps_for PassesOwn.never rfl (pi_range3 rfl G.range (pa_cons (pe_fld (pv 0) rfl) (pa_cons pe_int (pa_cons (pe_un un_neg pe_int) pa_nil)))) (pg_name (i := 5) scAt.nd rfl (Or.inl rfl))
        (pss_cons (ps_while PassesOwn.never (pt_cmpR op_gt (pe_callBfun cr_comb (by rfl) G.comb (pa_cons (pv 4) (pa_cons (pv 5) pa_nil))) (pv 3) (nomark _))
          (pss_one (ps_aug (i := 4) scAt.nd rfl (.inl rfl) pe_int ip_sub)))
        (pss_cons (ps_expr (pe_bm PySem.F.plainAttrs_list PySem.F.slot_list_append PySem.F.type_list_append mt_append (pv 2) (pa_cons (pv 4) pa_nil)))
        (pss_one (ps_set (i := 3) scAt.nd rfl (Or.inl rfl) (pe_op op_sub (pe_op op_sub (pe_callBfun cr_comb (by rfl) G.comb (pa_cons (pe_op op_add (pv 4) pe_int) (pa_cons (pv 5) pa_nil))) pe_int) (pv 3)))))))
      (pss_one (ps_ret (RT.pe_tupRev rfl (by rfl) G.tuple (by rfl) G.reversed (pv 2))))))))), ?_⟩
    refine ⟨_, rfl, _, rfl, p, dx, _, rfl, hp', pkF_no _ _ (by decide +kernel) (by decide +kernel), p, n, m, rfl, hp, _, _, rfl, rfl, x, 0, _, rfl, hx, _, rfl, ?_⟩
    cases c : wholeV x 0 ((ch n m : Int) - 1) with
    | false =>
      refine iteT (kno ?_)
      rintro ⟨i, rfl, h0, h1⟩
      have c' : (decide (0 ≤ i) && decide (i ≤ (ch n m : Int) - 1)) = false := c
      rw [decide_eq_true h0, decide_eq_true (by omega)] at c'
      cases c'
    | true =>
      refine iteF ?_
      obtain ⟨i, rfl, h0, h1⟩ : ∃ i, x = .int i ∧ 0 ≤ i ∧ i < ch n m := by
        cases x with
        | int i =>
          have c' : (decide (0 ≤ i) && decide (i ≤ (ch n m : Int) - 1)) = true := c
          rw [Bool.and_eq_true, decide_eq_true_eq, decide_eq_true_eq] at c'
          exact ⟨i, rfl, c'.1, by omega⟩
        | _ => exact absurd (show false = true from c) Bool.false_ne_true
      have kk := kok i
      refine ⟨Nat.zero_le _, fun l hl => ?_⟩
      have s1 : Same H (upd H l (.lst [])) := same_new hl
      refine ⟨_, rfl, _, rfl, p, C, dx, _, _, rfl, s1 _ _ hp', T.cl, T.nT, pkF_things _ _, ?_⟩
      refine ⟨_, rfl, p, C, dx, _, _, rfl, s1 _ _ hp', T.cl, T.nS, pkF_size _ _, _, rfl, m, 0, -1, m, rfl, RgC.neg (by omega) (by omega) (by decide) (by decide), ?_⟩
      refine for_rangeC (lo := m) (c := -1) (n := m) (fun j σ H' => ∃ (gs : List Nat) (g : Nat) (q : Int) (v5 : Option V), σ = [some (.ref p), some (.int i), some (.ref l), some (.int q), some (nv g), v5] ∧ gs.length = j ∧ j ≤ m ∧ g ≤ n ∧ 0 ≤ q ∧ q < ch g (m - j) ∧ un n m i = gs ++ un g (m - j) q ∧
        H' l = some (.lst (gs.map nv)) ∧ Same H H') ?_ ?_ ?_
      · exact ⟨[], n, i, none, rfl, rfl, Nat.zero_le _, Nat.le_refl _, h0, h1, rfl, upd_same, s1⟩
      · rintro j σ H1 hj ⟨gs, g, q, v5, rfl, hgs, _, hg, q0, q1, hun, hl1, s2⟩
        obtain ⟨k, hk⟩ : ∃ k, m - j = k + 1 := ⟨m - j - 1, by omega⟩
        rw [hk] at q1 hun
        have ek : (m : Int) + (j : Int) * -1 = ((k + 1 : Nat) : Int) := by omega
        rw [ek]
        -- while
        refine while_by (fun σ' H' => H' = H1 ∧ ∃ c : Nat, σ' = [some (.ref p), some (.int i), some (.ref l), some (.int q), some (nv c), some (.int ((k + 1 : Nat) : Int))] ∧ c ≤ g ∧ dn (k + 1) q c = dn (k + 1) q g) whileC ⟨rfl, g, rfl, Nat.le_refl _, rfl⟩ ?_ ?_
        · rintro σ' H' ⟨rfl, c, rfl, hc, hd⟩
          refine ⟨_, rfl, _, rfl, c, k + 1, rfl, by omega, _, rfl, _, _, rfl, rfl, _, rfl, ?_⟩
          by_cases cc : q < (ch c (k + 1) : Int)
          · refine if_true_of (decide_eq_true cc) ?_
            obtain ⟨c', rfl⟩ : ∃ c', c = c' + 1 := by
              cases c with
              | zero =>
                rw [ch_above (Nat.succ_pos k)] at cc
                omega
              | succ c' => exact ⟨c', rfl⟩
            have e1 : ((c' + 1 : Nat) : Int) - 1 = (c' : Int) := by omega
            refine ⟨_, rfl, _, _, rfl, rfl, ⟨rfl, c', ?_, by omega, ?_⟩, ?_⟩
            · show [_, _, _, _, some (V.int (((c' + 1 : Nat) : Int) - 1)), _] = _
              rw [e1]
              rfl
            · rw [← hd]
              exact (dn_if _ _ _ cc).symm
            · show (((c' + 1 : Nat) : Int) - 1).toNat < (((c' + 1 : Nat) : Int)).toNat
              omega
          · refine if_false_of (decide_eq_false cc) ?_
            rw [dn_stop _ _ _ cc] at hd
            subst hd
            have ⟨d1, d2, d3⟩ := dn_spec (k := k + 1) (Nat.succ_pos k) q0 g q1
            have e2 := ch_succ (dn (k + 1) q g) k
            refine ⟨_, rfl, .inl ⟨rfl, _, SqL.of hl1⟩, _, rfl, l, _, _, rfl, rfl, hl1, (by rw [List.length_map]; exact small1000 (by omega)), ?_⟩
            refine ⟨_, rfl, _, _, rfl, rfl, _, rfl, dn (k + 1) q g + 1, k + 1, two_int (by omega) rfl, by omega, _, _, rfl, rfl, _, rfl, _, _, rfl, rfl, ?_⟩
            refine ⟨gs ++ [dn (k + 1) q g], dn (k + 1) q g, _, _, rfl, ?_, by omega, by omega, ?_, ?_, ?_, ?_, fun b o e => ?_⟩
            · rw [List.length_append, hgs]; rfl
            · show 0 ≤ (ch (dn (k + 1) q g + 1) (k + 1) : Int) - 1 - q
              omega
            · have : m - (j + 1) = k := by omega
              rw [this]
              show (ch (dn (k + 1) q g + 1) (k + 1) : Int) - 1 - q < (ch (dn (k + 1) q g) k : Int)
              omega
            · have : m - (j + 1) = k := by omega
              rw [this, hun, List.append_assoc]
              rfl
            · rw [upd_same, List.map_append]
              rfl
            · rw [upd_ne (ne_of_none e hl)]
              exact s2 _ _ e
        · rintro σ' H' Q1 Q2 mono ⟨v1, e1, v2, e2, a, b, e3, e4, v3, e5, i1, j1, e6, e7, k1, e8, h⟩
          exact ⟨v1, e1, v2, e2, a, b, e3, e4, v3, e5, i1, j1, e6, e7, k1, e8, mono _ _ h⟩
      · rintro σ H1 ⟨gs, g, q, v5, rfl, hgs, _, hg, q0, q1, hun, hl1, s2⟩
        rw [Nat.sub_self, un_zero, List.append_nil] at hun
        refine ⟨_, rfl, l, _, rfl, SqL.of hl1, fun r hr1 => kk r _ rfl h0 h1 (s2.trans (same_new hr1)) (s2.free hr1) ?_⟩
        rw [upd_same, hun]
        unfold asc
        rw [List.map_reverse]
end
/-! ### number, as it stands -/
structure GN (K : PySem.W.Frag) (C : Addr) (f : Addr) (fd : FuncData) : Prop where
  F : Fun K "number" "Picks.number" s_Picks_number f fd
  b : Binds K fd ["self", "one"] []
  m : Meth K C "number" f
/-! ### compared -/
section
variable {P : Program} {w : World} {K : PySem.W.Frag} {mg : Str → Option Value} {base : Heap}
theorem scCompared : FnScope ["self", "one", "other", "first", "second"] ["self", "one", "other"] (defScope s_Picks_compared) := ⟨rfl, rfl, rfl, by decide +kernel, rfl, by decide +kernel, by decide +kernel⟩
theorem ok_compared {f fN fR fW C CP : Addr} {fd fdN fdR fdW : FuncData} (F : Fun K "compared" "Picks.compared" s_Picks_compared f fd) (G : Glb mg) (W : GW K mg fW fdW) (R : GR K mg fR fdR) (N : GN K C fN fdN) (T : PkC K C) (xP : ExT K mg "NoPick" CP) :
    FnOk P w K mg base (L2.CX P w) 4 f fd ["self", "one", "other"] (spCompared C CP) := by
  have GNk : FnOk P w K mg base (L2.CX P w) 3 fN fdN ["self", "one"] (spNumber C CP) := ok_number N.F G W R T xP
  refine F.okX scCompared (fun vs H Q E h => ?_) (fun cdv A outer s H vs Q E hr h => ?_)
  · obtain ⟨p, n, m, one, other, rfl, _⟩ := h
    rfl
  · obtain ⟨p, n, m, one, other, rfl, hp, h1, h2, kok, kno⟩ := h
    obtain ⟨dx, hp'⟩ := hp.ob
    refine ⟨_, pss_cons (ps_set (i := 3) scCompared.nd rfl (Or.inl rfl) (pe_meth (pv 0) T.cl N.m GNk hr N.b .nil (passes_call (takes_of (E := E) rfl rfl rfl rfl) (fun _ _ _ _ h => h)) (pa_cons (pv 1) pa_nil)))
      (pss_cons (ps_set (i := 4) scCompared.nd rfl (Or.inl rfl) (pe_meth (pv 0) T.cl N.m GNk hr N.b .nil (passes_call (takes_of (E := E) rfl rfl rfl rfl) (fun _ _ _ _ h => h)) (pa_cons (pv 2) pa_nil)))
      (PSs.nox (pss_cons (ps_if (pt_cmpR op_lt (pv 3) (pv 4) (nomark _)) (pss_one (ps_ret (pe_un un_neg pe_int))) pss_nil)
      (pss_cons (ps_if (pt_cmpR op_gt (pv 3) (pv 4) (nomark _)) (pss_one (ps_ret pe_int)) pss_nil)
      (pss_one (ps_ret pe_int)))))), ?_⟩
    refine ⟨_, rfl, p, dx, _, rfl, hp', pkF_no _ _ (by decide +kernel) (by decide +kernel), one, rfl, p, n, m, one, rfl, hp, h1, fun ds H1 k1 s1 => ?_, fun H1 no s1 => kno _ (fun z => no z.1) s1⟩
    refine ⟨_, rfl, p, dx, _, rfl, s1 _ _ hp', pkF_no _ _ (by decide +kernel) (by decide +kernel), other, rfl, p, n, m, other, rfl, hp.mono s1, h2.mono s1, fun ds' H2 k2 s2 => ?_, fun H2 no s2 => kno _ (fun z => no (let ⟨d, hd⟩ := z.2; ⟨d, hd.mono s1⟩)) (s1.trans s2)⟩
    have fin := kok ds ds' H2 k1 (pk_back h2 s1 k2) (s1.trans s2)
    refine ⟨_, rfl, _, rfl, _, _, rfl, rfl, _, rfl, ?_⟩
    by_cases c1 : rk ds < rk ds'
    · refine if_true_of (decide_eq_true c1) ⟨_, rfl, ?_⟩
      have e : cmpI (rk ds) (rk ds') = -1 := if_pos c1
      rw [e] at fin
      exact fin
    · refine if_false_of (decide_eq_false c1) ?_
      refine ⟨_, rfl, _, rfl, _, _, rfl, rfl, _, rfl, ?_⟩
      by_cases c2 : rk ds' < rk ds
      · refine if_true_of (decide_eq_true c2) ?_
        have e : cmpI (rk ds) (rk ds') = 1 := by unfold cmpI; rw [if_neg c1, if_pos c2]
        rw [e] at fin
        exact fin
      · refine if_false_of (decide_eq_false c2) ?_
        have e : cmpI (rk ds) (rk ds') = 0 := by unfold cmpI; rw [if_neg c1, if_neg c2]
        rw [e] at fin
        exact fin
end
/-! ### step -/
structure GA (K : PySem.W.Frag) (C : Addr) (f : Addr) (fd : FuncData) : Prop where
  F : Fun K "at" "Picks.at" s_Picks_at f fd
  b : Binds K fd ["self", "number"] []
  m : Meth K C "at" f
structure GS (K : PySem.W.Frag) (C : Addr) (f : Addr) (fd : FuncData) : Prop where
  F : Fun K "step" "Picks.step" s_Picks_step f fd
  b : Binds K fd ["self", "one", "by"] []
  m : Meth K C "step" f
section
variable {P : Program} {w : World} {K : PySem.W.Frag} {mg : Str → Option Value} {base : Heap}
theorem scStep : FnScope ["self", "one", "by"] ["self", "one", "by"] (defScope s_Picks_step) := ⟨rfl, rfl, rfl, by decide +kernel, rfl, by decide +kernel, by decide +kernel⟩
theorem ok_step {f fA fN fM fR fW C CP CN : Addr} {fd fdA fdN fdM fdR fdW : FuncData} (F : Fun K "step" "Picks.step" s_Picks_step f fd) (G : Glb mg) (W : GW K mg fW fdW) (R : GR K mg fR fdR) (N : GN K C fN fdN) (A' : GA K C fA fdA) (M : GM K C fM fdM) (T : PkC K C)
    (xP : ExT K mg "NoPick" CP) (xN : ExT K mg "NoNumber" CN) : FnOk P w K mg base (L2.CX P w) 4 f fd ["self", "one", "by"] (spStep C CP) := by
  have GNk : FnOk P w K mg base (L2.CX P w) 3 fN fdN ["self", "one"] (spNumber C CP) := ok_number N.F G W R T xP
  have GAk : FnOk P w K mg base (L2.CX P w) 2 fA fdA ["self", "number"] (spAt C CN) := ok_at A'.F G W M T xN
  have GMk : FnOk P w K mg base CX0 1 fM fdM ["self"] (spMany C) := ok_many M.F G T
  refine F.okX scStep (fun vs H Q E h => ?_) (fun cdv A outer s H vs Q E hr h => ?_)
  · obtain ⟨p, n, m, one, b, rfl, _⟩ := h
    rfl
  · obtain ⟨p, n, m, one, b, rfl, hp, ho, kok, kno⟩ := h
    obtain ⟨dx, hp'⟩ := hp.ob
    have hpos : 1 ≤ ch n m := ch_pos hp.mn
    refine ⟨_, pss_one (ps_ret (pe_meth (pv 0) T.cl A'.m GAk (hr.mono (by decide)) A'.b .nil (passes_call (takes_of (E := E) rfl rfl rfl rfl) (fun _ _ _ _ h => h))
      (pa_cons (pe_op op_mod (pe_op op_add (pe_meth (pv 0) T.cl N.m GNk hr N.b .nil (passes_call (takes_of (E := E) rfl rfl rfl rfl) (fun _ _ _ _ h => h)) (pa_cons (pv 1) pa_nil)) (pv 2)) (pe_meth0 (pv 0) T.cl M.m GMk (hr.mono (by decide)) M.b .nil pass0)) pa_nil))), ?_⟩
    refine ⟨_, rfl, p, dx, _, rfl, hp', pkF_no _ _ (by decide +kernel) (by decide +kernel), _, rfl, p, dx, _, rfl, hp', pkF_no _ _ (by decide +kernel) (by decide +kernel), one, rfl, p, n, m, one, rfl, hp, ho, fun ds H1 k1 s1 => ?_, fun H1 no s1 => kno _ no s1⟩
    have hp1 := hp.mono s1
    have d0 := Int.emod_nonneg (rk ds + b) (b := (ch n m : Int)) (by omega)
    have d1 := Int.emod_lt_of_pos (rk ds + b) (b := (ch n m : Int)) (by omega)
    refine ⟨_, rfl, _, _, rfl, rfl, _, rfl, p, dx, _, rfl, s1 _ _ hp', pkF_no _ _ (by decide +kernel) (by decide +kernel), p, n, m, rfl, hp1, _, _, rfl, rfl, (by show (0 : Int) < (ch n m : Int); omega), ?_⟩
    refine ⟨p, n, m, .int ((rk ds + b) % (ch n m : Int)), rfl, hp1, .int _, fun i q H2 e _ _ s2 hq hq2 => ?_, fun no => (no ⟨_, rfl, d0, d1⟩).elim⟩
    cases e
    exact kok ds q H2 k1 (s1.trans s2) (s1.free hq) hq2
end
/-! ### change -/
structure GC (K : PySem.W.Frag) (C : Addr) (f : Addr) (fd : FuncData) : Prop where
  F : Fun K "change" "Picks.change" s_Picks_change f fd
  b : Binds K fd ["self", "pick"] []
  m : Meth K C "change" f
section
variable {P : Program} {w : World} {K : PySem.W.Frag} {mg : Str → Option Value} {base : Heap}
theorem scChange : FnScope ["self", "pick", "following", "gone", "come", "thing"] ["self", "pick"] (defScope s_Picks_change) := ⟨rfl, rfl, rfl, by decide +kernel, rfl, by decide +kernel, by decide +kernel⟩
theorem ok_change {f fS fA fN fM fR fW C CP CN CC : Addr} {fd fdS fdA fdN fdM fdR fdW : FuncData} (F : Fun K "change" "Picks.change" s_Picks_change f fd) (G : Glb mg) (W : GW K mg fW fdW) (R : GR K mg fR fdR) (N : GN K C fN fdN) (A' : GA K C fA fdA) (M : GM K C fM fdM) (S' : GS K C fS fdS) (T : PkC K C)
    (xP : ExT K mg "NoPick" CP) (xN : ExT K mg "NoNumber" CN) (xC : ExT K mg "NoChange" CC) : FnOk P w K mg base (L2.CX P w) 5 f fd ["self", "pick"] (spChange C CP CC) := by
  have GSk : FnOk P w K mg base (L2.CX P w) 4 fS fdS ["self", "one", "by"] (spStep C CP) := ok_step S'.F G W R N A' M T xP xN
  have GMk : FnOk P w K mg base CX0 1 fM fdM ["self"] (spMany C) := ok_many M.F G T
  refine F.okX scChange (fun vs H Q E h => ?_) (fun cdv A outer s H vs Q E hr h => ?_)
  · obtain ⟨p, n, m, one, rfl, _⟩ := h
    rfl
  · obtain ⟨p, n, m, one, rfl, hp, ho, kok, kone, kno⟩ := h
    obtain ⟨dx, hp'⟩ := hp.ob
    have hm := hp.mn
    have hn := hp.n200
    refine ⟨_, pss_cons (ps_set (i := 2) scChange.nd rfl (Or.inr rfl) (pe_meth (pv 0) T.cl S'.m GSk hr S'.b .nil (passes_call (takes_of (E := E) rfl rfl rfl rfl) (fun _ _ _ _ h => h)) (pa_cons (pv 1) (pa_cons pe_int pa_nil))))
      (pss_cons (ps_if (pt_cmpR op_eq (pe_meth0 (pv 0) T.cl M.m GMk (hr.mono (by decide)) M.b .nil pass0) pe_int (nomark _)) (pss_one (ps_raise rfl (takes_of rfl rfl rfl rfl) (pmk_own PySem.F.excBase_ValueError xC.x xC.g xC.kp (raises_own xC.b xC.t) (by rfl)))) pss_nil)
      (PSs.nox (pss_cons (ps_setLc (i := 3) (own := [("thing", 5)]) (g := gName 5) rfl scChange.nd rfl rfl (sw_true rfl rfl rfl (by decide +kernel)) (pi_sq (pv 1)) (blkOk_by (N := ["self", "pick", "following", "gone", "come", "thing"]) (sc := defScope s_Picks_change) (by decide +kernel)) (fun _ _ _ _ _ => pg_name (i := 5) scChange.nd rfl (Or.inl rfl))
          (fun _ _ _ _ _ => pts_one (pt_cmpR (r := rIn K true) op_notIn_seq (pv 5) (pv 2) (by rfl))) (fun _ _ _ _ _ => pv 5))
      (pss_cons (ps_setLc (i := 4) (own := [("thing", 5)]) (g := gName 5) rfl scChange.nd rfl rfl (sw_true rfl rfl rfl (by decide +kernel)) (pi_tup (pv 2)) (blkOk_by (N := ["self", "pick", "following", "gone", "come", "thing"]) (sc := defScope s_Picks_change) (by decide +kernel)) (fun _ _ _ _ _ => pg_name (i := 5) scChange.nd rfl (Or.inl rfl))
          (fun _ _ _ _ _ => pts_one (pt_cmpR (r := rIn K true) op_notIn_seq (pv 5) (pv 1) (by rfl))) (fun _ _ _ _ _ => pv 5))
      (pss_one (ps_ret (pe_tup (pa_cons (pe_ix ix_list (pv 3) pe_int (fun _ _ => rfl)) (pa_cons (pe_ix ix_list (pv 4) pe_int (fun _ _ => rfl)) pa_nil))))))))), ?_⟩
    refine ⟨_, rfl, p, dx, _, rfl, hp', pkF_no _ _ (by decide +kernel) (by decide +kernel), one, rfl, p, n, m, one, 1, rfl, hp, ho, fun ds fq H1 k1 s1 hfn hfq => ?_, fun H1 no s1 => kno _ no s1⟩
    have hp1 := hp.mono s1
    refine ⟨_, rfl, p, dx, _, rfl, s1 _ _ hp', pkF_no _ _ (by decide +kernel) (by decide +kernel), p, n, m, rfl, hp1, rfl, _, rfl, ?_⟩
    by_cases c : m = 0 ∨ m = n
    · refine if_true_of (decide_eq_true (congrArg V.int ((ch_one hm).mpr c))) ?_
      exact kone _ ⟨ds, k1⟩ c s1
    · refine if_false_of (decide_eq_false (fun z => c ((ch_one hm).mp (V.int.inj z)))) ?_
      obtain ⟨a, b, rfl, ha, hd, hl⟩ := id k1
      have h0 : 0 < m := by omega
      have hlt : m < n := by omega
      obtain ⟨o, i, hex⟩ := nxt_ex hd hl h0 hlt
      have hfq : H1 fq = some (.tup (asc (nxt n m ds))) := hfq
      obtain ⟨es, ees⟩ : ∃ es, es = nxt n m ds := ⟨_, rfl⟩
      rw [← ees] at hfq hex
      have des : ∃ k, Desc k es := by
        rw [ees]
        have hpos : 1 ≤ ch n m := ch_pos hm
        exact ⟨n, (un_spec m n _ (Int.emod_nonneg _ (by omega)) (Int.emod_lt_of_pos _ (by omega))).1⟩
      have ha1 := s1 _ _ ha
      have lds : (asc ds).length ≤ 200 := by rw [asc_len]; omega
      have les : (asc es).length ≤ 200 := by
        rw [asc_len, ees]
        have hpos : 1 ≤ ch n m := ch_pos hm
        unfold nxt
        rw [(un_spec m n _ (Int.emod_nonneg _ (by omega)) (Int.emod_lt_of_pos _ (by omega))).2.1]
        omega
      have gone1 : (asc ds).filter (fun x => !inV x (asc es)) = [nv o] := by rw [asc_filter, hex.outs hd.nodup]; rfl
      have come1 : (asc es).filter (fun x => !inV x (asc ds)) = [nv i] := by
        obtain ⟨k, hk⟩ := des
        rw [asc_filter, hex.symm.outs hk.nodup]; rfl
      have sz : ∀ (xs : List V) (j : Nat) (p : V → Bool), xs.length ≤ 200 → ((xs.take j).filter p).length < sizeLine := fun xs j p h => by
        refine small1000 ?_
        have h1 := List.length_filter_le p (xs.take j)
        rw [List.length_take] at h1
        omega
      -- gone
      refine ⟨_, rfl, a, b, asc ds, rfl, row_sq ha1, fun D hD => lc_it (walk_itb (b := b) (a := a) (xs := asc ds)) (fun j H2 => H2 D = some (.lst (((asc ds).take j).filter fun x => !inV x (asc es))) ∧ Same H1 H2) ⟨upd_same, same_new hD⟩ (fun j H2 _ ⟨_, s2⟩ => row_sq (s2 _ _ ha1)) ?_ ?_⟩
      · rintro j x H2 H2' hj ⟨hD2, s2⟩ ⟨rfl, hx⟩
        refine ⟨rfl, _, rfl, _, rfl, fq, asc es, rfl, .inr (SqT.of (s2 _ _ hfq)), List.all_eq_true.mp (asc_flat ds) x (List.mem_of_getElem? hx), asc_flat es, _, rfl, ?_⟩
        have step := take_filter (fun x => !inV x (asc es)) hx
        cases hc : (!inV x (asc es)) with
        | true =>
          refine ⟨_, rfl, _, hD2, sz _ _ _ lds, ?_, fun b o e => ?_⟩
          · rw [upd_same, step, if_pos hc]
          · rw [upd_ne (ne_of_none e hD)]
            exact s2 _ _ e
        | false =>
          refine ⟨?_, s2⟩
          rw [step, if_neg (by rw [hc]; exact Bool.false_ne_true), List.append_nil]
          exact hD2
      · rintro H2 ⟨hD2, s2⟩
        rw [List.take_length, gone1] at hD2
        -- come
        refine ⟨_, rfl, fq, rfl, ⟨_, SqT.of (s2 _ _ hfq)⟩, fun D2 hD2n => lc_it (walk_tup (a := fq) (xs := asc es)) (fun j H3 => H3 D2 = some (.lst (((asc es).take j).filter fun x => !inV x (asc ds))) ∧ Same H2 H3) ⟨upd_same, same_new hD2n⟩ (fun j H3 _ ⟨_, s3⟩ => SqT.of (s3 _ _ (s2 _ _ hfq))) ?_ ?_⟩
        · rintro j x H3 H3' hj ⟨hD3, s3⟩ ⟨rfl, hx⟩
          have hrow : SqL K H3' a (asc ds) ∨ SqT K H3' a (asc ds) := by
            have h3 := s3 _ _ (s2 _ _ ha1)
            cases b with
            | false => exact .inl (SqL.of h3)
            | true => exact .inr (SqT.of h3)
          refine ⟨rfl, _, rfl, _, rfl, a, asc ds, rfl, hrow, List.all_eq_true.mp (asc_flat es) x (List.mem_of_getElem? hx), asc_flat ds, _, rfl, ?_⟩
          have step := take_filter (fun x => !inV x (asc ds)) hx
          cases hc : (!inV x (asc ds)) with
          | true =>
            refine ⟨_, rfl, _, hD3, sz _ _ _ les, ?_, fun b o e => ?_⟩
            · rw [upd_same, step, if_pos hc]
            · rw [upd_ne (ne_of_none e hD2n)]
              exact s3 _ _ e
          | false =>
            refine ⟨?_, s3⟩
            rw [step, if_neg (by rw [hc]; exact Bool.false_ne_true), List.append_nil]
            exact hD3
        · rintro H3 ⟨hD3, s3⟩
          rw [List.take_length, come1] at hD3
          refine ⟨_, rfl, D, _, _, _, rfl, rfl, SqL.of (s3 _ _ hD2), atI_nat (j := 0) rfl, _, rfl, D2, _, _, _, rfl, rfl, SqL.of hD3, atI_nat (j := 0) rfl, (by show 2 ≤ sizeLine; decide), fun q hq => ?_⟩
          have sAll := s1.trans (s2.trans s3)
          rw [ees] at hex
          exact kok ds o i q _ k1 h0 hlt hex (sAll.trans (same_new hq)) (sAll.free hq) upd_same
end
structure GlbS (mg : Str → Option Value) : Prop extends GlbW mg where
  range : mg "range" = none
  reversed : mg "reversed" = none
  most : ∃ t, mg "MOST_THINGS" = some (.int 200 t)
theorem two_shl (n : Nat) : (1 : Int) * 2 ^ (n : Int).toNat = sN n := by
  unfold sN
  rw [Int.toNat_natCast, Int.one_mul]
  norm_cast
theorem two_shl2 (n : Nat) : (2 : Int) * 2 ^ (n : Int).toNat = ((2 ^ (n + 1) : Nat) : Int) := by
  rw [Int.toNat_natCast, Nat.pow_succ]
  push_cast
  omega
section
variable {P : Program} {w : World} {K : PySem.W.Frag} {mg : Str → Option Value} {base : Heap}
/-! ### Sets: made, many -/
theorem scSInit : FnScope ["self", "things"] ["self", "things"] (defScope s_Sets_init) := ⟨rfl, rfl, rfl, by decide +kernel, rfl, by decide +kernel, by decide +kernel⟩
theorem ok_sinit {f fW C CB : Addr} {fd fdW : FuncData} (F : Fun K "__init__" "Sets.__init__" s_Sets_init f fd) (G : GlbS mg) (W : GW K mg fW fdW) (T : SkC K C) (xB : ExT K mg "NoBounds" CB) :
    FnOk P w K mg base (L2.CX P w) 2 f fd ["self", "things"] (spSInit C CB) := by
  have GWk : FnOk P w K mg base CX0 1 fW fdW ["asked", "low", "high"] spWhole := ok_whole W.F G.toGlbW
  obtain ⟨tm, hmost⟩ := G.most
  refine F.okX scSInit (fun vs H Q E h => ?_) (fun cdv A outer s H vs Q E hr h => ?_)
  · obtain ⟨p, dx, x, rfl, _⟩ := h
    rfl
  · obtain ⟨p, dx, x, rfl, hp, hx, kok, kno⟩ := h
    refine ⟨_, pss_cons (ps_if (pt_not (pt_val (pe_call GWk hr rfl W.g W.F.kp W.b .nil pass0 (pa_cons (pv 1) (pa_cons pe_int (pa_cons (pe_glob (v := .int 200) (by rfl) hmost ⟨_, rfl⟩) pa_nil)))))) (pss_one (ps_raise rfl (takes_of rfl rfl rfl rfl) (pmk_own PySem.F.excBase_ValueError xB.x xB.g xB.kp (raises_own xB.b xB.t) (by rfl)))) pss_nil)
      (PSs.nox (pss_one (ps_fld (pv 0) (pv 1) rfl))), ?_⟩
    refine ⟨_, rfl, x, 0, 200, rfl, hx, _, rfl, ?_⟩
    cases c : wholeV x 0 200 with
    | false =>
      refine iteT (kno ?_)
      rintro ⟨n, rfl, h1⟩
      have e := whole_nv n 200
      rw [show ((200 : Nat) : Int) = 200 from rfl, c, decide_eq_true h1] at e
      cases e
    | true =>
      refine iteF ?_
      obtain ⟨n, rfl, hn⟩ := whole_nat (hi := 200) c
      exact ⟨_, rfl, _, rfl, p, C, dx, [], rfl, hp, T.cl, T.nT, (by show 0 < 1000; decide), kok n rfl hn⟩
theorem scSMany : FnScope ["self"] ["self"] (defScope s_Sets_many) := ⟨rfl, rfl, rfl, by decide +kernel, rfl, by decide +kernel, by decide +kernel⟩
theorem ok_smany {f C : Addr} {fd : FuncData} (F : Fun K "many" "Sets.many" s_Sets_many f fd) (T : SkC K C) : FnOk P w K mg base CX0 1 f fd ["self"] (spSMany C) := by
  refine F.ok scSMany (fun vs H Q E h => ?_) (fun cdv A outer s H vs Q E hr h => ?_)
  · obtain ⟨p, n, rfl, _⟩ := h
    rfl
  · obtain ⟨p, n, rfl, hp, q⟩ := h
    obtain ⟨dx, hp'⟩ := hp.ob
    have hn := hp.n200
    refine ⟨_, pss_one (ps_ret (pe_op op_shl pe_int (pe_fld (pv 0) rfl))), ?_⟩
    refine ⟨_, rfl, p, C, dx, _, _, rfl, hp', T.cl, T.nT, skF_things _, 1, n, rfl, rfl, ⟨by omega, by omega, by decide⟩, ?_⟩
    show Q (V.int ((1 : Int) * 2 ^ (n : Int).toNat)) H
    rw [two_shl]
    exact q _ (Same.refl _)
/-! ### number -/
theorem scSNumber : FnScope ["self", "one", "place", "thing"] ["self", "one"] (defScope s_Sets_number) := ⟨rfl, rfl, rfl, by decide +kernel, rfl, by decide +kernel, by decide +kernel⟩
theorem ok_snumber {f fR fW C CP : Addr} {fd fdR fdW : FuncData} (F : Fun K "number" "Sets.number" s_Sets_number f fd) (G : GlbS mg) (W : GW K mg fW fdW) (R : GR K mg fR fdR) (T : SkC K C) (xP : ExT K mg "NoPick" CP) :
    FnOk P w K mg base (L2.CX P w) 3 f fd ["self", "one"] (spSNumber C CP) := by
  have GRk : FnOk P w K mg base CX0 2 fR fdR ["row", "things"] spRising := ok_rising R.F G.toGlbW W
  refine F.okX scSNumber (fun vs H Q E h => ?_) (fun cdv A outer s H vs Q E hr h => ?_)
  · obtain ⟨p, n, one, rfl, _⟩ := h
    rfl
  · obtain ⟨p, n, one, rfl, hp, ho, kok, kno⟩ := h
    obtain ⟨dx, hp'⟩ := hp.ob
    have hn := hp.n200
    refine ⟨_, pss_cons (ps_if (pt_not (pt_val (pe_call GRk hr rfl R.g R.F.kp R.b .nil pass0 (pa_cons (pv 1) (pa_cons (pe_fld (pv 0) rfl) pa_nil)))))
        (pss_one (ps_raise rfl (takes_of rfl rfl rfl rfl) (pmk_own PySem.F.excBase_ValueError xP.x xP.g xP.kp (raises_own xP.b xP.t) (by rfl)))) pss_nil)
      (PSs.nox (pss_cons (ps_set (i := 2) scSNumber.nd rfl (Or.inl rfl) pe_int)
      (pss_cons (ps_for PassesOwn.never rfl (pi_sq (pv 1)) (pg_name (i := 3) scSNumber.nd rfl (Or.inl rfl))
        (pss_one (ps_set (i := 2) scSNumber.nd rfl (Or.inl rfl) (pe_op op_sub (pe_op op_sub (pe_op op_shl pe_int (pv 3)) pe_int) (pv 2)))))
      (pss_one (ps_ret (pv 2)))))), ?_⟩
    refine ⟨_, rfl, _, rfl, p, C, dx, _, _, rfl, hp', T.cl, T.nT, skF_things _, one, n, rfl, ho, fun r H1 s1 hr1 => ⟨_, rfl, ?_⟩⟩
    have no : (∃ ds, IsSet H one n ds) → r = true := by
      rintro ⟨ds, a, b, rfl, ha, hd⟩
      rw [hr1.1 ⟨a, b, _, rfl, ha⟩ a b _ rfl ha]
      exact desc_ris hd
    cases hr' : r with
    | false => exact iteT (kno _ (fun z => by rw [no z] at hr'; cases hr') s1)
    | true =>
      refine iteF ?_
      obtain ⟨a, b, xs, rfl, ha⟩ : isRow H one := by
        apply Classical.byContradiction
        intro z
        rw [hr1.2 z] at hr'
        cases hr'
      have hris : risV n 0 xs = true := by rw [← hr1.1 ⟨a, b, _, rfl, ha⟩ a b xs rfl ha]; exact hr'
      obtain ⟨ds, e1, hd, hl⟩ := ris_desc xs [] 0 trivial (Nat.zero_le _) hris
      have e1' : xs = asc ds := e1
      subst e1'
      have ha1 := s1 _ _ ha
      refine ⟨_, rfl, a, b, asc ds, rfl, row_sq ha1, for_it (walk_itb (b := b) (a := a) (xs := asc ds)) (fun i σ H' => ∃ v3, σ = [some (.ref p), some (.ref a), some (.int (gr (ds.drop (ds.length - i)))), v3] ∧ Same H H')
          ⟨none, by rw [Nat.sub_zero, List.drop_length]; rfl, s1⟩ (fun i σ H' _ ⟨_, _, s2⟩ => row_sq (s2 _ _ ha)) ?_ ?_⟩
      · rintro i y σ H2 H2' hi ⟨v3, rfl, s2⟩ ⟨rfl, hy⟩
        have hi' : i < ds.length := by rw [← asc_len ds]; exact hi
        obtain ⟨t, hdr, hat⟩ := drop_more hi'
        rw [hat] at hy
        have e4 := Option.some.inj hy
        subst e4
        have ht : t < n := hd.mem t (by
          have : t ∈ ds.drop (ds.length - (i + 1)) := by rw [hdr]; exact List.mem_cons_self
          exact List.mem_of_mem_drop this)
        refine ⟨_, rfl, 2, t, rfl, rfl, ⟨by omega, by omega, by decide⟩, _, _, rfl, rfl, _, rfl, _, _, rfl, rfl, some (nv t), ?_, s2⟩
        show [_, _, some (V.int ((2 : Int) * 2 ^ (t : Int).toNat - 1 - gr (ds.drop (ds.length - i)))), _] = _
        rw [hdr, two_shl2]
        rfl
      · rintro σ H2 ⟨v3, rfl, s2⟩
        rw [asc_len, Nat.sub_self, List.drop_zero]
        exact ⟨_, rfl, kok ds _ ⟨a, b, rfl, ha, hd⟩ s2⟩
/-! ### at -/
structure GSM (K : PySem.W.Frag) (C : Addr) (f : Addr) (fd : FuncData) : Prop where
  F : Fun K "many" "Sets.many" s_Sets_many f fd
  b : Binds K fd ["self"] []
  m : Meth K C "many" f
theorem scSAt : FnScope ["self", "number", "told", "place", "thing"] ["self", "number"] (defScope s_Sets_at) := ⟨rfl, rfl, rfl, by decide +kernel, rfl, by decide +kernel, by decide +kernel⟩
theorem ok_sat {f fW fM C CN : Addr} {fd fdW fdM : FuncData} (F : Fun K "at" "Sets.at" s_Sets_at f fd) (G : GlbS mg) (W : GW K mg fW fdW) (M : GSM K C fM fdM) (T : SkC K C) (xN : ExT K mg "NoNumber" CN) :
    FnOk P w K mg base (L2.CX P w) 2 f fd ["self", "number"] (spSAt C CN) := by
  have GWk : FnOk P w K mg base CX0 1 fW fdW ["asked", "low", "high"] spWhole := ok_whole W.F G.toGlbW
  have GMk : FnOk P w K mg base CX0 1 fM fdM ["self"] (spSMany C) := ok_smany M.F T
  refine F.okX scSAt (fun vs H Q E h => ?_) (fun cdv A outer s H vs Q E hr h => ?_)
  · obtain ⟨p, n, x, rfl, _⟩ := h
    rfl
  · obtain ⟨p, n, x, rfl, hp, hx, kok, kno⟩ := h
    obtain ⟨dx, hp'⟩ := hp.ob
    have hn := hp.n200
    refine ⟨_, pss_cons (ps_if (pt_not (pt_val (pe_call GWk hr rfl W.g W.F.kp W.b .nil pass0 (pa_cons (pv 1) (pa_cons pe_int (pa_cons (pe_op op_sub (pe_meth0 (pv 0) T.cl M.m GMk hr M.b .nil pass0) pe_int) pa_nil))))))
        (pss_one (ps_raise rfl (takes_of rfl rfl rfl rfl) (pmk_own PySem.F.excBase_ValueError xN.x xN.g xN.kp (raises_own xN.b xN.t) (by rfl)))) pss_nil)
      (PSs.nox (pss_cons (ps_set (i := 2) scSAt.nd rfl (Or.inl rfl) (pe_lst pa_nil))
      (pss_cons (ps_set (i := 3) scSAt.nd rfl (Or.inl rfl) (pv 1))
      (pss_cons (ps_for PassesOwn.never rfl (pi_range3 rfl G.range (pa_cons (pe_op op_sub (pe_fld (pv 0) rfl) pe_int) (pa_cons (pe_un un_neg pe_int) (pa_cons (pe_un un_neg pe_int) pa_nil)))) (pg_name (i := 4) scSAt.nd rfl (Or.inl rfl))
        (pss_one (ps_if (pt_cmpR op_ge (pv 3) (pe_op op_shl pe_int (pv 4)) (nomark _))
          (pss_cons (ps_expr (pe_bm PySem.F.plainAttrs_list PySem.F.slot_list_append PySem.F.type_list_append mt_append (pv 2) (pa_cons (pv 4) pa_nil)))
          (pss_one (ps_set (i := 3) scSAt.nd rfl (Or.inl rfl) (pe_op op_sub (pe_op op_sub (pe_op op_shl pe_int (pv 4)) pe_int) (pv 3))))) pss_nil)))
      (pss_one (ps_ret (RT.pe_tupRev rfl (by rfl) G.tuple (by rfl) G.reversed (pv 2)))))))), ?_⟩
    refine ⟨_, rfl, _, rfl, p, dx, _, rfl, hp', skF_no _ (by decide +kernel), p, n, rfl, hp, fun H1 s1 => ?_⟩
    refine ⟨_, _, rfl, rfl, x, 0, _, rfl, hx.mono s1, _, rfl, ?_⟩
    cases c : wholeV x 0 (sN n - 1) with
    | false =>
      refine iteT (kno _ ?_ s1)
      rintro ⟨i, rfl, h0, h1⟩
      have c' : (decide (0 ≤ i) && decide (i ≤ sN n - 1)) = false := c
      rw [decide_eq_true h0, decide_eq_true (by omega)] at c'
      cases c'
    | true =>
      refine iteF ?_
      obtain ⟨i, rfl, h0, h1⟩ : ∃ i, x = .int i ∧ 0 ≤ i ∧ i < sN n := by
        cases x with
        | int i =>
          have c' : (decide (0 ≤ i) && decide (i ≤ sN n - 1)) = true := c
          rw [Bool.and_eq_true, decide_eq_true_eq, decide_eq_true_eq] at c'
          exact ⟨i, rfl, c'.1, by omega⟩
        | _ => exact absurd (show false = true from c) Bool.false_ne_true
      have kk := kok i
      refine ⟨Nat.zero_le _, fun l hl => ?_⟩
      have s2 : Same H (upd H1 l (.lst [])) := s1.trans (same_new hl)
      have hlH : H l = none := s1.free hl
      have rg : RgC ((n : Int) - 1) (-1) (-1) n := by
        have z := RgC.neg (i := (n : Int) - 1) (j := -1) (by omega) (by omega) (by omega) (by omega)
        have e : ((n : Int) - 1 - -1).toNat = n := by omega
        rw [e] at z
        exact z
      refine ⟨_, rfl, _, rfl, p, C, dx, _, _, rfl, s2 _ _ hp', T.cl, T.nT, skF_things _, _, _, rfl, rfl, _, rfl, _, rfl, (n : Int) - 1, -1, -1, n, rfl, rg, ?_⟩
      refine for_rangeC (lo := (n : Int) - 1) (c := -1) (n := n) (fun j σ H' => ∃ (gs : List Nat) (q : Int) (v4 : Option V), σ = [some (.ref p), some (.int i), some (.ref l), some (.int q), v4] ∧ j ≤ n ∧ gs.length ≤ j ∧ 0 ≤ q ∧ q < sN (n - j) ∧ gu n i = gs ++ gu (n - j) q ∧
        H' l = some (.lst (gs.map nv)) ∧ Same H H') ?_ ?_ ?_
      · exact ⟨[], i, none, rfl, Nat.zero_le _, Nat.le_refl _, h0, h1, rfl, upd_same, s2⟩
      · rintro j σ H2 hj ⟨gs, q, v4, rfl, _, hgs, q0, q1, hun, hl1, s3⟩
        obtain ⟨k, hk⟩ : ∃ k, n - j = k + 1 := ⟨n - j - 1, by omega⟩
        have hk2 : n - (j + 1) = k := by omega
        rw [hk] at q1 hun
        have ek : (n : Int) - 1 + (j : Int) * -1 = (k : Int) := by omega
        rw [ek]
        have e2 := p2_succ k
        have q1' : q < ((2 ^ (k + 1) : Nat) : Int) := q1
        refine ⟨_, rfl, _, rfl, 1, k, rfl, rfl, ⟨by omega, by omega, by decide⟩, _, _, rfl, rfl, _, rfl, ?_⟩
        by_cases cc : sN k ≤ q
        · have cc' : ((2 ^ k : Nat) : Int) ≤ q := cc
          refine if_true_of (decide_eq_true (show (1 : Int) * 2 ^ (k : Int).toNat ≤ q by rw [two_shl]; exact cc)) ?_
          refine ⟨_, rfl, .inl ⟨rfl, _, SqL.of hl1⟩, _, rfl, l, _, _, rfl, rfl, hl1, (by rw [List.length_map]; exact small1000 (by omega)), ?_⟩
          refine ⟨_, rfl, 2, k, rfl, rfl, ⟨by omega, by omega, by decide⟩, _, _, rfl, rfl, _, rfl, _, _, rfl, rfl, gs ++ [k], ((2 ^ (k + 1) : Nat) : Int) - 1 - q, some (nv k), ?_, by omega, ?_, ?_, ?_, ?_, ?_, fun b o e => ?_⟩
          · show [_, _, _, some (V.int ((2 : Int) * 2 ^ (k : Int).toNat - 1 - q)), _] = _
            rw [two_shl2]
            rfl
          · rw [List.length_append]
            show gs.length + 1 ≤ j + 1
            omega
          · omega
          · rw [hk2]
            show _ < ((2 ^ k : Nat) : Int)
            omega
          · rw [hk2, hun, List.append_assoc]
            congr 1
            show (if q < ((2 ^ k : Nat) : Int) then gu k q else k :: gu k (((2 ^ (k + 1) : Nat) : Int) - 1 - q)) = _
            rw [if_neg (by omega)]
            rfl
          · rw [upd_same, List.map_append]
            rfl
          · rw [upd_ne (ne_of_none e hlH)]
            exact s3 _ _ e
        · have cc' : q < ((2 ^ k : Nat) : Int) := by unfold sN at cc; omega
          refine if_false_of (decide_eq_false (show ¬ (1 : Int) * 2 ^ (k : Int).toNat ≤ q by rw [two_shl]; exact cc)) ?_
          refine ⟨gs, q, _, rfl, by omega, by omega, q0, ?_, ?_, hl1, s3⟩
          · rw [hk2]
            exact cc'
          · rw [hk2, hun]
            congr 1
            show (if q < ((2 ^ k : Nat) : Int) then gu k q else k :: gu k (((2 ^ (k + 1) : Nat) : Int) - 1 - q)) = _
            rw [if_pos cc']
      · rintro σ H2 ⟨gs, q, v4, rfl, _, _, q0, q1, hun, hl1, s3⟩
        rw [Nat.sub_self] at hun
        have hun' : gu n i = gs := by rw [hun]; exact List.append_nil _
        refine ⟨_, rfl, l, _, rfl, SqL.of hl1, fun r hr1 => kk r _ rfl h0 h1 (s3.trans (same_new hr1)) (s3.free hr1) ?_⟩
        rw [upd_same, hun']
        unfold asc
        rw [List.map_reverse]
/-! ### step -/
structure GSN (K : PySem.W.Frag) (C : Addr) (f : Addr) (fd : FuncData) : Prop where
  F : Fun K "number" "Sets.number" s_Sets_number f fd
  b : Binds K fd ["self", "one"] []
  m : Meth K C "number" f
structure GSA (K : PySem.W.Frag) (C : Addr) (f : Addr) (fd : FuncData) : Prop where
  F : Fun K "at" "Sets.at" s_Sets_at f fd
  b : Binds K fd ["self", "number"] []
  m : Meth K C "at" f
structure GSS (K : PySem.W.Frag) (C : Addr) (f : Addr) (fd : FuncData) : Prop where
  F : Fun K "step" "Sets.step" s_Sets_step f fd
  b : Binds K fd ["self", "one", "by"] []
  m : Meth K C "step" f
end
section
variable {P : Program} {w : World} {K : PySem.W.Frag} {mg : Str → Option Value} {base : Heap}
theorem scSStep : FnScope ["self", "one", "by"] ["self", "one", "by"] (defScope s_Sets_step) := ⟨rfl, rfl, rfl, by decide +kernel, rfl, by decide +kernel, by decide +kernel⟩
theorem ok_sstep {f fA fN fM fR fW C CP CN : Addr} {fd fdA fdN fdM fdR fdW : FuncData} (F : Fun K "step" "Sets.step" s_Sets_step f fd) (G : GlbS mg) (W : GW K mg fW fdW) (R : GR K mg fR fdR) (N : GSN K C fN fdN) (A' : GSA K C fA fdA) (M : GSM K C fM fdM) (T : SkC K C)
    (xP : ExT K mg "NoPick" CP) (xN : ExT K mg "NoNumber" CN) : FnOk P w K mg base (L2.CX P w) 4 f fd ["self", "one", "by"] (spSStep C CP) := by
  have GNk : FnOk P w K mg base (L2.CX P w) 3 fN fdN ["self", "one"] (spSNumber C CP) := ok_snumber N.F G W R T xP
  have GAk : FnOk P w K mg base (L2.CX P w) 2 fA fdA ["self", "number"] (spSAt C CN) := ok_sat A'.F G W M T xN
  have GMk : FnOk P w K mg base CX0 1 fM fdM ["self"] (spSMany C) := ok_smany M.F T
  refine F.okX scSStep (fun vs H Q E h => ?_) (fun cdv A outer s H vs Q E hr h => ?_)
  · obtain ⟨p, n, one, b, rfl, _⟩ := h
    rfl
  · obtain ⟨p, n, one, b, rfl, hp, ho, kok, kno⟩ := h
    obtain ⟨dx, hp'⟩ := hp.ob
    have hpos : 0 < sN n := sN_pos n
    refine ⟨_, pss_one (ps_ret (pe_meth (pv 0) T.cl A'.m GAk (hr.mono (by decide)) A'.b .nil (passes_call (takes_of (E := E) rfl rfl rfl rfl) (fun _ _ _ _ h => h))
      (pa_cons (pe_op op_mod (pe_op op_add (pe_meth (pv 0) T.cl N.m GNk hr N.b .nil (passes_call (takes_of (E := E) rfl rfl rfl rfl) (fun _ _ _ _ h => h)) (pa_cons (pv 1) pa_nil)) (pv 2)) (pe_meth0 (pv 0) T.cl M.m GMk (hr.mono (by decide)) M.b .nil pass0)) pa_nil))), ?_⟩
    refine ⟨_, rfl, p, dx, _, rfl, hp', skF_no _ (by decide +kernel), _, rfl, p, dx, _, rfl, hp', skF_no _ (by decide +kernel), one, rfl, p, n, one, rfl, hp, ho, fun ds H1 k1 s1 => ?_, fun H1 no s1 => kno _ no s1⟩
    have d0 := Int.emod_nonneg (gr ds + b) (b := sN n) (by omega)
    have d1 := Int.emod_lt_of_pos (gr ds + b) hpos
    refine ⟨_, rfl, _, _, rfl, rfl, _, rfl, p, dx, _, rfl, s1 _ _ hp', skF_no _ (by decide +kernel), p, n, rfl, hp.mono s1, fun H2 s2 => ?_⟩
    have s12 := s1.trans s2
    refine ⟨_, _, rfl, rfl, hpos, ?_⟩
    refine ⟨p, n, .int ((gr ds + b) % sN n), rfl, hp.mono s12, .int _, fun i q H3 e _ _ s3 hq hq2 => ?_, fun _ no => (no ⟨_, rfl, d0, d1⟩).elim⟩
    cases e
    exact kok ds q H3 k1 (s12.trans s3) (s12.free hq) hq2
end
structure GlbC (mg : Str → Option Value) : Prop extends GlbS mg where
  sorted : mg "sorted" = none
  set : mg "set" = none
structure GSC (K : PySem.W.Frag) (C : Addr) (f : Addr) (fd : FuncData) : Prop where
  F : Fun K "change" "Sets.change" s_Sets_change f fd
  b : Binds K fd ["self", "some"] []
  m : Meth K C "change" f
theorem mem_iasc {ds : List Nat} {k : Int} : k ∈ iasc ds ↔ ∃ t : Nat, t ∈ ds ∧ (t : Int) = k := by
  unfold iasc
  rw [List.mem_map]
  constructor
  · rintro ⟨t, ht, e⟩
    exact ⟨t, List.mem_reverse.mp ht, e⟩
  · rintro ⟨t, ht, e⟩
    exact ⟨t, List.mem_reverse.mpr ht, e⟩
theorem iasc_len (ds : List Nat) : (iasc ds).length = ds.length := by unfold iasc; rw [List.length_map, List.length_reverse]
theorem desc_len : ∀ {ds : List Nat} {n : Nat}, Desc n ds → ds.length ≤ n
  | [], n, _ => Nat.zero_le _
  | g :: r, n, h => by
    have := desc_len h.2
    have := h.1
    rw [List.length_cons]
    omega
theorem sml_iasc {ds : List Nat} {n : Nat} (h : Desc n ds) (hn : n ≤ 200) : Sml (fun j => decide (j ∈ iasc ds)) := fun k hk => by
  obtain ⟨t, ht, rfl⟩ := mem_iasc.mp (of_decide_eq_true hk)
  have := h.mem t ht
  omega
theorem xor_one {ds es : List Nat} {t : Nat} (h : Tg ds es t) (k : Int) : (decide (k ∈ iasc es) != decide (k ∈ iasc ds)) = true ↔ k = (t : Int) := by
  have key : ∀ u : Nat, ((u : Int) ∈ iasc ds ↔ u ∈ ds) ∧ ((u : Int) ∈ iasc es ↔ u ∈ es) := fun u => by
    constructor
    · rw [mem_iasc]
      exact ⟨fun ⟨x, hx, e⟩ => by have : x = u := by omega
                                  rw [← this]; exact hx, fun hx => ⟨u, hx, rfl⟩⟩
    · rw [mem_iasc]
      exact ⟨fun ⟨x, hx, e⟩ => by have : x = u := by omega
                                  rw [← this]; exact hx, fun hx => ⟨u, hx, rfl⟩⟩
  by_cases neg : 0 ≤ k
  · obtain ⟨u, rfl⟩ : ∃ u : Nat, k = (u : Int) := ⟨k.toNat, by omega⟩
    have ⟨k1, k2⟩ := key u
    by_cases e : u = t
    · subst e
      refine ⟨fun _ => rfl, fun _ => ?_⟩
      by_cases q : u ∈ ds
      · have q2 := h.flip.mp q
        rw [decide_eq_true (k1.mpr q), decide_eq_false (fun z => q2 (k2.mp z))]
        rfl
      · have q2 : u ∈ es := Classical.byContradiction fun z => q (h.flip.mpr z)
        rw [decide_eq_false (fun z => q (k1.mp z)), decide_eq_true (k2.mpr q2)]
        rfl
    · refine ⟨fun z => ?_, fun z => absurd z (by omega)⟩
      have sm := h.same u e
      by_cases q : u ∈ ds
      · rw [decide_eq_true (k1.mpr q), decide_eq_true (k2.mpr (sm.mp q))] at z
        cases z
      · rw [decide_eq_false (fun z => q (k1.mp z)), decide_eq_false (fun z => q (sm.mpr (k2.mp z)))] at z
        cases z
  · have n1 : k ∉ iasc ds := fun z => by
      obtain ⟨x, _, e⟩ := mem_iasc.mp z
      omega
    have n2 : k ∉ iasc es := fun z => by
      obtain ⟨x, _, e⟩ := mem_iasc.mp z
      omega
    rw [decide_eq_false n1, decide_eq_false n2]
    exact ⟨fun z => (Bool.noConfusion z), fun z => absurd z (by omega)⟩
theorem only_one {ns : List Int} {t : Int} (hs : ns.Pairwise (· < ·)) (hm : ∀ k, k ∈ ns ↔ k = t) : ns = [t] := by
  cases ns with
  | nil => exact absurd ((hm t).mpr rfl) (by simp)
  | cons a r =>
    have ea : a = t := (hm a).mp List.mem_cons_self
    subst ea
    cases r with
    | nil => rfl
    | cons b r =>
      have eb : b = a := (hm b).mp (List.mem_cons_of_mem _ List.mem_cons_self)
      have lt : a < b := (List.pairwise_cons.mp hs).1 b List.mem_cons_self
      omega
section
variable {P : Program} {w : World} {K : PySem.W.Frag} {mg : Str → Option Value} {base : Heap}
theorem scSChange : FnScope ["self", "some", "following"] ["self", "some"] (defScope s_Sets_change) := ⟨rfl, rfl, rfl, by decide +kernel, rfl, by decide +kernel, by decide +kernel⟩
theorem ok_schange {f fS fA fN fM fR fW C CP CN CC : Addr} {fd fdS fdA fdN fdM fdR fdW : FuncData} (F : Fun K "change" "Sets.change" s_Sets_change f fd) (G : GlbC mg) (W : GW K mg fW fdW) (R : GR K mg fR fdR) (N : GSN K C fN fdN) (A' : GSA K C fA fdA) (M : GSM K C fM fdM) (S' : GSS K C fS fdS) (T : SkC K C)
    (xP : ExT K mg "NoPick" CP) (xN : ExT K mg "NoNumber" CN) (xC : ExT K mg "NoChange" CC) : FnOk P w K mg base (L2.CX P w) 5 f fd ["self", "some"] (spSChange C CP CC) := by
  have GSk : FnOk P w K mg base (L2.CX P w) 4 fS fdS ["self", "one", "by"] (spSStep C CP) := ok_sstep S'.F G.toGlbS W R N A' M T xP xN
  refine F.okX scSChange (fun vs H Q E h => ?_) (fun cdv A outer s H vs Q E hr h => ?_)
  · obtain ⟨p, n, one, rfl, _⟩ := h
    rfl
  · obtain ⟨p, n, one, rfl, hp, ho, kok, kone, kno⟩ := h
    obtain ⟨dx, hp'⟩ := hp.ob
    have hn := hp.n200
    refine ⟨_, pss_cons (ps_set (i := 2) scSChange.nd rfl (Or.inl rfl) (pe_meth (pv 0) T.cl S'.m GSk hr S'.b .nil (passes_call (takes_of (E := E) rfl rfl rfl rfl) (fun _ _ _ _ h => h)) (pa_cons (pv 1) (pa_cons pe_int pa_nil))))
      (pss_cons (ps_if (pt_cmpR op_eq (pe_fld (pv 0) rfl) pe_int (nomark _)) (pss_one (ps_raise rfl (takes_of rfl rfl rfl rfl) (pmk_own PySem.F.excBase_ValueError xC.x xC.g xC.kp (raises_own xC.b xC.t) (by rfl)))) pss_nil)
      (PSs.nox (pss_one (ps_ret (pe_ix ix_list (pe_callB (cr_sortedSet rfl) (by rfl) G.sorted (by decide +kernel) (pa_cons (pe_op op_xorS
          (pe_callTy (cr_setRow rfl) (by rfl) G.set (by decide +kernel) (pa_cons (pv 1) pa_nil)) (pe_callTy (cr_setRow rfl) (by rfl) G.set (by decide +kernel) (pa_cons (pv 2) pa_nil))) pa_nil)) pe_int (fun _ _ => rfl)))))), ?_⟩
    refine ⟨_, rfl, p, dx, _, rfl, hp', skF_no _ (by decide +kernel), one, rfl, p, n, one, 1, rfl, hp, ho, fun ds fq H1 k1 s1 hfn hfq => ?_, fun H1 no s1 => kno _ no s1⟩
    have hp1 := hp.mono s1
    refine ⟨_, rfl, p, C, dx, _, _, rfl, s1 _ _ hp', T.cl, T.nT, skF_things _, rfl, _, rfl, ?_⟩
    by_cases c : n = 0
    · refine if_true_of (decide_eq_true (congrArg V.int (show (n : Int) = 0 by omega))) ?_
      exact kone _ ⟨ds, k1⟩ c s1
    · refine if_false_of (decide_eq_false (fun z => c (by have := V.int.inj z; omega))) ?_
      obtain ⟨a, b, rfl, ha, hd⟩ := id k1
      obtain ⟨es, ees⟩ : ∃ es, es = gst n ds 1 := ⟨_, rfl⟩
      have ⟨de, ge⟩ := gst_spec n ds 1
      rw [← ees] at hfq de ge
      obtain ⟨t, ht, htg⟩ := tg_step hd de (by omega) ge
      have ha1 := s1 _ _ ha
      have sq : SqL K H1 a ((iasc ds).map V.int) ∨ SqT K H1 a ((iasc ds).map V.int) := by
        rw [← asc_iasc]
        cases b with
        | false => exact .inl (SqL.of ha1)
        | true => exact .inr (SqT.of ha1)
      have ld := desc_len hd
      have le := desc_len de
      refine ⟨_, rfl, a, iasc ds, rfl, sq, by rw [iasc_len]; omega, fun pa ca npa => ?_⟩
      have s2 : Same H1 (upd H1 pa (SetO w pa (fun j => decide (j ∈ iasc ds)) ca)) := same_new npa
      refine ⟨_, rfl, fq, iasc es, rfl, .inr (by rw [← asc_iasc]; exact SqT.of (s2 _ _ hfq)), by rw [iasc_len]; omega, fun pb cb npb => ?_⟩
      have s3 := same_new (o := SetO w pb (fun j => decide (j ∈ iasc es)) cb) npb
      refine ⟨pa, pb, _, _, ca, cb, rfl, rfl, s3 _ _ upd_same, upd_same, sml_iasc hd hn, sml_iasc de hn, fun pc n' npc hb => ?_⟩
      have s4 := same_new (o := SetO w pc (fun j => decide (j ∈ iasc es) != decide (j ∈ iasc ds)) n') npc
      have hn1 : n' ≤ 1 := hb [(t : Int)] fun k hk => by rw [(xor_one htg k).mp hk]; exact List.mem_cons_self
      refine ⟨pc, _, n', rfl, upd_same, by omega, fun ns pd hs hm hl npd => ?_⟩
      have ens : ns = [(t : Int)] := only_one hs fun k => (hm k).trans (xor_one htg k)
      subst ens
      have s5 := same_new (o := .lst ([(t : Int)].map V.int)) npd
      refine ⟨pd, _, 0, .int t, rfl, rfl, SqL.of upd_same, rfl, ?_⟩
      refine kok ds t _ k1 (by omega) ht ?_ (s1.trans (s2.trans (s3.trans (s4.trans s5))))
      rw [← ees]
      exact htg
end
theorem fn_cx {P : Program} {w : World} {K : PySem.W.Frag} {mg : Str → Option Value} {base : Heap} {k : Nat} {f : Addr} {fd : FuncData} {ps : List Str} {sp : Sp} (F : FnOk P w K mg base CX0 k f fd ps sp) : FnOk P w K mg base (L2.CX P w) k f fd ps sp :=
  ⟨F.len, fun A outer s H args us vs Q E hr e0 hb r hsp => codeAny_mono (F.run A outer s H args us vs Q E hr e0 hb r hsp) fun r s' h => by
    cases r with
    | error e => exact h.elim
    | ok fl => cases fl <;> exact h⟩
theorem hasM {P : Program} {w : World} {K : PySem.W.Frag} {mg : Str → Option Value} {base : Heap} {C f : Addr} {fd : FuncData} {x : Str} {ps : List Str} {k l : Nat} {sp : Sp} (m : Meth K C x f) (b : Binds K fd ("self" :: ps) []) (F : FnOk P w K mg base (L2.CX P w) k f fd ("self" :: ps) sp) (h : k ≤ l) : HasM P w K mg base C x ps l sp :=
  ⟨k, h, f, fd, m, b, F⟩
theorem hasM0 {P : Program} {w : World} {K : PySem.W.Frag} {mg : Str → Option Value} {base : Heap} {C f : Addr} {fd : FuncData} {x : Str} {ps : List Str} {k l : Nat} {sp : Sp} (m : Meth K C x f) (b : Binds K fd ("self" :: ps) []) (F : FnOk P w K mg base CX0 k f fd ("self" :: ps) sp) (h : k ≤ l) : HasM P w K mg base C x ps l sp :=
  hasM m b (fn_cx F) h
end Dp
namespace Dp
open PySem PySem.Spec PyProof.Rows L2 DpR
/-! ### what the top has written -/
theorem all_mk {l : PySem.W.OpenLaw} {w : World} {K : PySem.W.Frag} {h : Heap} {mg : Str → Option Value} {fa C f1 f2 f3 f4 f5 f6 f7 D f8 f9 f10 f11 f12 f13 CB CP CN CC f14 f15 f16 f17 f18 f19 f20 f21 f22 PE CT : Addr} (X : K.In h) (G : h.Ns mainGlobals mg) (hfa : mg "law" = some (.ref fa))
    {od1 an1 od2 an2 od3 an3 od4 an4 od5 an5 od6 an6 od7 an7 od8 an8 od9 an9 od10 an10 od11 an11 od12 an12 od13 an13 od14 an14 od15 an15 od16 an16 od17 an17 od18 an18 od19 an19 od20 an20 od21 an21 od22 an22 : Option Addr} {sl1 sl2 sl3 sl4 sl5 sl6 sl7 sl8 sl9 sl10 sl11 sl12 sl13 sl14 sl15 sl16 sl17 sl18 sl19 sl20 sl21 sl22 : Array (Option Value)} {oc1 kV1 dc1 pm1 cd1 ct1 oc2 kV2 dc2 pm2 cd2 ct2 oc3 kV3 dc3 pm3 cd3 ct3 oc4 kV4 dc4 pm4 cd4 ct4 oc5 kV5 dc5 pm5 cd5 ct5 oc6 kV6 dc6 pm6 cd6 ct6 oc7 kV7 dc7 pm7 cd7 ct7 oc8 kV8 dc8 pm8 cd8 ct8 oc9 kV9 dc9 pm9 cd9 ct9 oc10 kV10 dc10 pm10 cd10 ct10 oc11 kV11 dc11 pm11 cd11 ct11 oc12 kV12 dc12 pm12 cd12 ct12 oc13 kV13 dc13 pm13 cd13 ct13 oc14 kV14 dc14 pm14 cd14 ct14 oc15 kV15 dc15 pm15 cd15 ct15 oc16 kV16 dc16 pm16 cd16 ct16 oc17 kV17 dc17 pm17 cd17 ct17 oc18 kV18 dc18 pm18 cd18 ct18 oc19 kV19 dc19 pm19 cd19 ct19 oc20 kV20 dc20 pm20 cd20 ct20 oc21 kV21 dc21 pm21 cd21 ct21 oc22 kV22 dc22 pm22 cd22 ct22 : Value} {tm : Tok}
    (aC : PySem.W.nsIn K mainGlobals "Picks" = some (some (.ref C)))
    (pgC : PySem.W.plainGet K C Str.empty = true)
    (hdC : PySem.W.hasDictIn K C = true)
    (poC : PySem.W.plainOver K C = true)
    (saC : PySem.W.findIn K (.ref C) "__setattr__" = some (some (.builtin "object.__setattr__")))
    (mkC : PySem.W.makesIn K C = true)
    (kpC : PySem.W.keepIn K (.ref C) = true)
    (nfC0 : PySem.W.findIn K (.ref C) "things" = some none)
    (nfC1 : PySem.W.findIn K (.ref C) "size" = some none)
    (a1 : PySem.W.findIn K (.ref C) "__init__" = some (some (.ref f1)))
    (i1 : PySem.W.isFn K (.ref f1) = true)
    (l1 : K.lookup f1 = some ⟨oc1, od1, .func (PySem.W.fnOf "__init__" "Picks.__init__" (defArgs s_Picks_init) (defBody s_Picks_init) (defScope s_Picks_init) .none kV1 dc1 pm1 an1 cd1 ct1), sl1⟩)
    (c1 : PySem.W.codeIn K cd1 "Picks.__init__" = true)
    (k1 : PySem.W.keepIn K (.ref f1) = true)
    (a2 : PySem.W.findIn K (.ref C) "many" = some (some (.ref f2)))
    (i2 : PySem.W.isFn K (.ref f2) = true)
    (l2 : K.lookup f2 = some ⟨oc2, od2, .func (PySem.W.fnOf "many" "Picks.many" (defArgs s_Picks_many) (defBody s_Picks_many) (defScope s_Picks_many) .none kV2 dc2 pm2 an2 cd2 ct2), sl2⟩)
    (c2 : PySem.W.codeIn K cd2 "Picks.many" = true)
    (k2 : PySem.W.keepIn K (.ref f2) = true)
    (a3 : PySem.W.findIn K (.ref C) "number" = some (some (.ref f3)))
    (i3 : PySem.W.isFn K (.ref f3) = true)
    (l3 : K.lookup f3 = some ⟨oc3, od3, .func (PySem.W.fnOf "number" "Picks.number" (defArgs s_Picks_number) (defBody s_Picks_number) (defScope s_Picks_number) .none kV3 dc3 pm3 an3 cd3 ct3), sl3⟩)
    (c3 : PySem.W.codeIn K cd3 "Picks.number" = true)
    (k3 : PySem.W.keepIn K (.ref f3) = true)
    (a4 : PySem.W.findIn K (.ref C) "at" = some (some (.ref f4)))
    (i4 : PySem.W.isFn K (.ref f4) = true)
    (l4 : K.lookup f4 = some ⟨oc4, od4, .func (PySem.W.fnOf "at" "Picks.at" (defArgs s_Picks_at) (defBody s_Picks_at) (defScope s_Picks_at) .none kV4 dc4 pm4 an4 cd4 ct4), sl4⟩)
    (c4 : PySem.W.codeIn K cd4 "Picks.at" = true)
    (k4 : PySem.W.keepIn K (.ref f4) = true)
    (a5 : PySem.W.findIn K (.ref C) "step" = some (some (.ref f5)))
    (i5 : PySem.W.isFn K (.ref f5) = true)
    (l5 : K.lookup f5 = some ⟨oc5, od5, .func (PySem.W.fnOf "step" "Picks.step" (defArgs s_Picks_step) (defBody s_Picks_step) (defScope s_Picks_step) .none kV5 dc5 pm5 an5 cd5 ct5), sl5⟩)
    (c5 : PySem.W.codeIn K cd5 "Picks.step" = true)
    (k5 : PySem.W.keepIn K (.ref f5) = true)
    (a6 : PySem.W.findIn K (.ref C) "change" = some (some (.ref f6)))
    (i6 : PySem.W.isFn K (.ref f6) = true)
    (l6 : K.lookup f6 = some ⟨oc6, od6, .func (PySem.W.fnOf "change" "Picks.change" (defArgs s_Picks_change) (defBody s_Picks_change) (defScope s_Picks_change) .none kV6 dc6 pm6 an6 cd6 ct6), sl6⟩)
    (c6 : PySem.W.codeIn K cd6 "Picks.change" = true)
    (k6 : PySem.W.keepIn K (.ref f6) = true)
    (a7 : PySem.W.findIn K (.ref C) "compared" = some (some (.ref f7)))
    (i7 : PySem.W.isFn K (.ref f7) = true)
    (l7 : K.lookup f7 = some ⟨oc7, od7, .func (PySem.W.fnOf "compared" "Picks.compared" (defArgs s_Picks_compared) (defBody s_Picks_compared) (defScope s_Picks_compared) .none kV7 dc7 pm7 an7 cd7 ct7), sl7⟩)
    (c7 : PySem.W.codeIn K cd7 "Picks.compared" = true)
    (k7 : PySem.W.keepIn K (.ref f7) = true)
    (aD : PySem.W.nsIn K mainGlobals "Sets" = some (some (.ref D)))
    (pgD : PySem.W.plainGet K D Str.empty = true)
    (hdD : PySem.W.hasDictIn K D = true)
    (poD : PySem.W.plainOver K D = true)
    (saD : PySem.W.findIn K (.ref D) "__setattr__" = some (some (.builtin "object.__setattr__")))
    (mkD : PySem.W.makesIn K D = true)
    (kpD : PySem.W.keepIn K (.ref D) = true)
    (nfD0 : PySem.W.findIn K (.ref D) "things" = some none)
    (a8 : PySem.W.findIn K (.ref D) "__init__" = some (some (.ref f8)))
    (i8 : PySem.W.isFn K (.ref f8) = true)
    (l8 : K.lookup f8 = some ⟨oc8, od8, .func (PySem.W.fnOf "__init__" "Sets.__init__" (defArgs s_Sets_init) (defBody s_Sets_init) (defScope s_Sets_init) .none kV8 dc8 pm8 an8 cd8 ct8), sl8⟩)
    (c8 : PySem.W.codeIn K cd8 "Sets.__init__" = true)
    (k8 : PySem.W.keepIn K (.ref f8) = true)
    (a9 : PySem.W.findIn K (.ref D) "many" = some (some (.ref f9)))
    (i9 : PySem.W.isFn K (.ref f9) = true)
    (l9 : K.lookup f9 = some ⟨oc9, od9, .func (PySem.W.fnOf "many" "Sets.many" (defArgs s_Sets_many) (defBody s_Sets_many) (defScope s_Sets_many) .none kV9 dc9 pm9 an9 cd9 ct9), sl9⟩)
    (c9 : PySem.W.codeIn K cd9 "Sets.many" = true)
    (k9 : PySem.W.keepIn K (.ref f9) = true)
    (a10 : PySem.W.findIn K (.ref D) "number" = some (some (.ref f10)))
    (i10 : PySem.W.isFn K (.ref f10) = true)
    (l10 : K.lookup f10 = some ⟨oc10, od10, .func (PySem.W.fnOf "number" "Sets.number" (defArgs s_Sets_number) (defBody s_Sets_number) (defScope s_Sets_number) .none kV10 dc10 pm10 an10 cd10 ct10), sl10⟩)
    (c10 : PySem.W.codeIn K cd10 "Sets.number" = true)
    (k10 : PySem.W.keepIn K (.ref f10) = true)
    (a11 : PySem.W.findIn K (.ref D) "at" = some (some (.ref f11)))
    (i11 : PySem.W.isFn K (.ref f11) = true)
    (l11 : K.lookup f11 = some ⟨oc11, od11, .func (PySem.W.fnOf "at" "Sets.at" (defArgs s_Sets_at) (defBody s_Sets_at) (defScope s_Sets_at) .none kV11 dc11 pm11 an11 cd11 ct11), sl11⟩)
    (c11 : PySem.W.codeIn K cd11 "Sets.at" = true)
    (k11 : PySem.W.keepIn K (.ref f11) = true)
    (a12 : PySem.W.findIn K (.ref D) "step" = some (some (.ref f12)))
    (i12 : PySem.W.isFn K (.ref f12) = true)
    (l12 : K.lookup f12 = some ⟨oc12, od12, .func (PySem.W.fnOf "step" "Sets.step" (defArgs s_Sets_step) (defBody s_Sets_step) (defScope s_Sets_step) .none kV12 dc12 pm12 an12 cd12 ct12), sl12⟩)
    (c12 : PySem.W.codeIn K cd12 "Sets.step" = true)
    (k12 : PySem.W.keepIn K (.ref f12) = true)
    (a13 : PySem.W.findIn K (.ref D) "change" = some (some (.ref f13)))
    (i13 : PySem.W.isFn K (.ref f13) = true)
    (l13 : K.lookup f13 = some ⟨oc13, od13, .func (PySem.W.fnOf "change" "Sets.change" (defArgs s_Sets_change) (defBody s_Sets_change) (defScope s_Sets_change) .none kV13 dc13 pm13 an13 cd13 ct13), sl13⟩)
    (c13 : PySem.W.codeIn K cd13 "Sets.change" = true)
    (k13 : PySem.W.keepIn K (.ref f13) = true)
    (aCB : PySem.W.nsIn K mainGlobals "NoBounds" = some (some (.ref CB)))
    (xCB : PySem.W.excIn K CB [.type "ValueError", .type "Exception", .type "BaseException", .type "object"] "ValueError.__new__" = true)
    (kpCB : PySem.W.keepIn K (.ref CB) = true)
    (bCB : PySem.W.subIn K (.ref CB) (.type "BaseException") = some true)
    (tCB : PySem.W.typeIn K (.ref CB) = some (.type "type"))
    (aCP : PySem.W.nsIn K mainGlobals "NoPick" = some (some (.ref CP)))
    (xCP : PySem.W.excIn K CP [.type "ValueError", .type "Exception", .type "BaseException", .type "object"] "ValueError.__new__" = true)
    (kpCP : PySem.W.keepIn K (.ref CP) = true)
    (bCP : PySem.W.subIn K (.ref CP) (.type "BaseException") = some true)
    (tCP : PySem.W.typeIn K (.ref CP) = some (.type "type"))
    (aCN : PySem.W.nsIn K mainGlobals "NoNumber" = some (some (.ref CN)))
    (xCN : PySem.W.excIn K CN [.type "ValueError", .type "Exception", .type "BaseException", .type "object"] "ValueError.__new__" = true)
    (kpCN : PySem.W.keepIn K (.ref CN) = true)
    (bCN : PySem.W.subIn K (.ref CN) (.type "BaseException") = some true)
    (tCN : PySem.W.typeIn K (.ref CN) = some (.type "type"))
    (aCC : PySem.W.nsIn K mainGlobals "NoChange" = some (some (.ref CC)))
    (xCC : PySem.W.excIn K CC [.type "ValueError", .type "Exception", .type "BaseException", .type "object"] "ValueError.__new__" = true)
    (kpCC : PySem.W.keepIn K (.ref CC) = true)
    (bCC : PySem.W.subIn K (.ref CC) (.type "BaseException") = some true)
    (tCC : PySem.W.typeIn K (.ref CC) = some (.type "type"))
    (a14 : PySem.W.nsIn K mainGlobals "is_whole" = some (some (.ref f14)))
    (l14 : K.lookup f14 = some ⟨oc14, od14, .func (PySem.W.fnOf "is_whole" "is_whole" (defArgs s_is_whole) (defBody s_is_whole) (defScope s_is_whole) .none kV14 dc14 pm14 an14 cd14 ct14), sl14⟩)
    (c14 : PySem.W.codeIn K cd14 "is_whole" = true)
    (k14 : PySem.W.keepIn K (.ref f14) = true)
    (a15 : PySem.W.nsIn K mainGlobals "is_rising" = some (some (.ref f15)))
    (l15 : K.lookup f15 = some ⟨oc15, od15, .func (PySem.W.fnOf "is_rising" "is_rising" (defArgs s_is_rising) (defBody s_is_rising) (defScope s_is_rising) .none kV15 dc15 pm15 an15 cd15 ct15), sl15⟩)
    (c15 : PySem.W.codeIn K cd15 "is_rising" = true)
    (k15 : PySem.W.keepIn K (.ref f15) = true)
    (a16 : PySem.W.nsIn K mainGlobals "_law_mixed" = some (some (.ref f16)))
    (l16 : K.lookup f16 = some ⟨oc16, od16, .func (PySem.W.fnOf "_law_mixed" "_law_mixed" (defArgs s_law_mixed) (defBody s_law_mixed) (defScope s_law_mixed) .none kV16 dc16 pm16 an16 cd16 ct16), sl16⟩)
    (c16 : PySem.W.codeIn K cd16 "_law_mixed" = true)
    (k16 : PySem.W.keepIn K (.ref f16) = true)
    (a17 : PySem.W.nsIn K mainGlobals "_law_cell_at" = some (some (.ref f17)))
    (l17 : K.lookup f17 = some ⟨oc17, od17, .func (PySem.W.fnOf "_law_cell_at" "_law_cell_at" (defArgs s_law_cell_at) (defBody s_law_cell_at) (defScope s_law_cell_at) .none kV17 dc17 pm17 an17 cd17 ct17), sl17⟩)
    (c17 : PySem.W.codeIn K cd17 "_law_cell_at" = true)
    (k17 : PySem.W.keepIn K (.ref f17) = true)
    (a18 : PySem.W.nsIn K mainGlobals "_law_wide" = some (some (.ref f18)))
    (l18 : K.lookup f18 = some ⟨oc18, od18, .func (PySem.W.fnOf "_law_wide" "_law_wide" (defArgs s_law_wide) (defBody s_law_wide) (defScope s_law_wide) .none kV18 dc18 pm18 an18 cd18 ct18), sl18⟩)
    (c18 : PySem.W.codeIn K cd18 "_law_wide" = true)
    (k18 : PySem.W.keepIn K (.ref f18) = true)
    (a19 : PySem.W.nsIn K mainGlobals "_law_kind" = some (some (.ref f19)))
    (l19 : K.lookup f19 = some ⟨oc19, od19, .func (PySem.W.fnOf "_law_kind" "_law_kind" (defArgs s_law_kind) (defBody s_law_kind) (defScope s_law_kind) .none kV19 dc19 pm19 an19 cd19 ct19), sl19⟩)
    (c19 : PySem.W.codeIn K cd19 "_law_kind" = true)
    (k19 : PySem.W.keepIn K (.ref f19) = true)
    (a20 : PySem.W.nsIn K mainGlobals "_law_spoilt" = some (some (.ref f20)))
    (l20 : K.lookup f20 = some ⟨oc20, od20, .func (PySem.W.fnOf "_law_spoilt" "_law_spoilt" (defArgs s_law_spoilt) (defBody s_law_spoilt) (defScope s_law_spoilt) .none kV20 dc20 pm20 an20 cd20 ct20), sl20⟩)
    (c20 : PySem.W.codeIn K cd20 "_law_spoilt" = true)
    (k20 : PySem.W.keepIn K (.ref f20) = true)
    (a21 : PySem.W.nsIn K mainGlobals "_law_told" = some (some (.ref f21)))
    (l21 : K.lookup f21 = some ⟨oc21, od21, .func (PySem.W.fnOf "_law_told" "_law_told" (defArgs s_law_told) (defBody s_law_told) (defScope s_law_told) .none kV21 dc21 pm21 an21 cd21 ct21), sl21⟩)
    (c21 : PySem.W.codeIn K cd21 "_law_told" = true)
    (k21 : PySem.W.keepIn K (.ref f21) = true)
    (a22 : PySem.W.nsIn K mainGlobals "law" = some (some (.ref f22)))
    (l22 : K.lookup f22 = some ⟨oc22, od22, .func (PySem.W.fnOf "law" "law" (defArgs s_law) (defBody s_law) (defScope s_law) .none kV22 dc22 pm22 an22 cd22 ct22), sl22⟩)
    (c22 : PySem.W.codeIn K cd22 "law" = true)
    (k22 : PySem.W.keepIn K (.ref f22) = true)
    (z_type : PySem.W.nsIn K mainGlobals "type" = some none)
    (z_int : PySem.W.nsIn K mainGlobals "int" = some none)
    (z_isinstance : PySem.W.nsIn K mainGlobals "isinstance" = some none)
    (z_tuple : PySem.W.nsIn K mainGlobals "tuple" = some none)
    (z_list : PySem.W.nsIn K mainGlobals "list" = some none)
    (z_len : PySem.W.nsIn K mainGlobals "len" = some none)
    (z_enumerate : PySem.W.nsIn K mainGlobals "enumerate" = some none)
    (z_range : PySem.W.nsIn K mainGlobals "range" = some none)
    (z_reversed : PySem.W.nsIn K mainGlobals "reversed" = some none)
    (z_min : PySem.W.nsIn K mainGlobals "min" = some none)
    (z_max : PySem.W.nsIn K mainGlobals "max" = some none)
    (z_sorted : PySem.W.nsIn K mainGlobals "sorted" = some none)
    (z_set : PySem.W.nsIn K mainGlobals "set" = some none)
    (z_ValueError : PySem.W.nsIn K mainGlobals "ValueError" = some none)
    (v_comb : PySem.W.nsIn K mainGlobals "comb" = some (some (.builtin "math.comb")))
    (v_MOST_THINGS : PySem.W.nsIn K mainGlobals "MOST_THINGS" = some (some (.int 200 tm)))
    (aPE : PySem.W.nsIn K mainGlobals "PickError" = some (some (.ref PE)))
    (bPE : PySem.W.subIn K (.ref PE) (.type "BaseException") = some true)
    (dPE : PySem.W.hasDictIn K PE = true)
    (tPE : PySem.W.typeIn K (.ref PE) = some (.type "type"))
    (aCT : PySem.W.nsIn K mainGlobals "NoText" = some (some (.ref CT)))
    (sg : PySem.W.specialIn K (.builtin "object.__class__") "__get__" = some (some (.builtin "getset_descriptor.__get__")))
    (st : PySem.W.takesIn K (.builtin "object.__class__") = some true)
    (egCP : PySem.W.findIn K (.ref CP) "__getattribute__" = some (some (.builtin "BaseException.__getattribute__")))
    (ekCP : PySem.W.findIn K (.ref CP) "__getattr__" = some none)
    (edCP : PySem.W.hasDictIn K CP = true)
    (eaCP : PySem.W.findIn K (.ref CP) "__class__" = some (some (.builtin "object.__class__")))
    (emCP : PySem.W.mroIn K CP (.type "object") = some true)
    (ktCPCB : PySem.W.kitOne K (.ref CP) (.ref CB) = some false)
    (ktCPCP : PySem.W.kitOne K (.ref CP) (.ref CP) = some true)
    (ktCPCN : PySem.W.kitOne K (.ref CP) (.ref CN) = some false)
    (ktCPCC : PySem.W.kitOne K (.ref CP) (.ref CC) = some false)
    (ktCPCT : PySem.W.kitOne K (.ref CP) (.ref CT) = some false)
    (kvCP : PySem.W.kitOne K (.ref CP) (.type "ValueError") = some true)
    (sCP : PySem.W.subIn K (.ref CP) (.ref PE) = some true)
    : ∃ fd : FuncData, (∀ (s : Shared) (v : Value), BindsTo s fd ⟨[v], []⟩ [("_law_script", v)]) ∧ ∀ base : Heap, K.In base → base.Ns mainGlobals mg → FnOk l.prog w K mg base CX0 10 fa fd ["_law_script"] (spLaw K) := by
  have e := hfa.symm.trans (PySem.W.mg_of X G a22)
  cases e
  have F1 := fun_mk (st := s_Picks_init) l1 c1 k1
  have b1 := F1.binds (ps := ["self", "things", "size"]) fun _ _ _ _ _ _ us hl => match us, hl with | [_, _, _], _ => rfl
  have F2 := fun_mk (st := s_Picks_many) l2 c2 k2
  have b2 := F2.binds (ps := ["self"]) fun _ _ _ _ _ _ us hl => match us, hl with | [_], _ => rfl
  have F3 := fun_mk (st := s_Picks_number) l3 c3 k3
  have b3 := F3.binds (ps := ["self", "one"]) fun _ _ _ _ _ _ us hl => match us, hl with | [_, _], _ => rfl
  have F4 := fun_mk (st := s_Picks_at) l4 c4 k4
  have b4 := F4.binds (ps := ["self", "number"]) fun _ _ _ _ _ _ us hl => match us, hl with | [_, _], _ => rfl
  have F5 := fun_mk (st := s_Picks_step) l5 c5 k5
  have b5 := F5.binds (ps := ["self", "one", "by"]) fun _ _ _ _ _ _ us hl => match us, hl with | [_, _, _], _ => rfl
  have F6 := fun_mk (st := s_Picks_change) l6 c6 k6
  have b6 := F6.binds (ps := ["self", "pick"]) fun _ _ _ _ _ _ us hl => match us, hl with | [_, _], _ => rfl
  have F7 := fun_mk (st := s_Picks_compared) l7 c7 k7
  have b7 := F7.binds (ps := ["self", "one", "other"]) fun _ _ _ _ _ _ us hl => match us, hl with | [_, _, _], _ => rfl
  have F8 := fun_mk (st := s_Sets_init) l8 c8 k8
  have b8 := F8.binds (ps := ["self", "things"]) fun _ _ _ _ _ _ us hl => match us, hl with | [_, _], _ => rfl
  have F9 := fun_mk (st := s_Sets_many) l9 c9 k9
  have b9 := F9.binds (ps := ["self"]) fun _ _ _ _ _ _ us hl => match us, hl with | [_], _ => rfl
  have F10 := fun_mk (st := s_Sets_number) l10 c10 k10
  have b10 := F10.binds (ps := ["self", "one"]) fun _ _ _ _ _ _ us hl => match us, hl with | [_, _], _ => rfl
  have F11 := fun_mk (st := s_Sets_at) l11 c11 k11
  have b11 := F11.binds (ps := ["self", "number"]) fun _ _ _ _ _ _ us hl => match us, hl with | [_, _], _ => rfl
  have F12 := fun_mk (st := s_Sets_step) l12 c12 k12
  have b12 := F12.binds (ps := ["self", "one", "by"]) fun _ _ _ _ _ _ us hl => match us, hl with | [_, _, _], _ => rfl
  have F13 := fun_mk (st := s_Sets_change) l13 c13 k13
  have b13 := F13.binds (ps := ["self", "some"]) fun _ _ _ _ _ _ us hl => match us, hl with | [_, _], _ => rfl
  have F14 := fun_mk (st := s_is_whole) l14 c14 k14
  have b14 := F14.binds (ps := ["asked", "low", "high"]) fun _ _ _ _ _ _ us hl => match us, hl with | [_, _, _], _ => rfl
  have F15 := fun_mk (st := s_is_rising) l15 c15 k15
  have b15 := F15.binds (ps := ["row", "things"]) fun _ _ _ _ _ _ us hl => match us, hl with | [_, _], _ => rfl
  have F16 := fun_mk (st := s_law_mixed) l16 c16 k16
  have b16 := F16.binds (ps := ["_law_cell", "_law_k"]) fun _ _ _ _ _ _ us hl => match us, hl with | [_, _], _ => rfl
  have F17 := fun_mk (st := s_law_cell_at) l17 c17 k17
  have b17 := F17.binds (ps := ["_law_script", "_law_k"]) fun _ _ _ _ _ _ us hl => match us, hl with | [_, _], _ => rfl
  have F18 := fun_mk (st := s_law_wide) l18 c18 k18
  have b18 := F18.binds (ps := ["_law_cell", "_law_bound"]) fun _ _ _ _ _ _ us hl => match us, hl with | [_, _], _ => rfl
  have F19 := fun_mk (st := s_law_kind) l19 c19 k19
  have b19 := F19.binds (ps := ["_law_e"]) fun _ _ _ _ _ _ us hl => match us, hl with | [_], _ => rfl
  have F20 := fun_mk (st := s_law_spoilt) l20 c20 k20
  have b20 := F20.binds (ps := ["_law_pick", "_law_things", "_law_mix"]) fun _ _ _ _ _ _ us hl => match us, hl with | [_, _, _], _ => rfl
  have F21 := fun_mk (st := s_law_told) l21 c21 k21
  have b21 := F21.binds (ps := ["_law_way", "_law_told_here", "_law_one", "_law_other"]) fun _ _ _ _ _ _ us hl => match us, hl with | [_, _, _, _], _ => rfl
  have F22 := fun_mk (st := s_law) l22 c22 k22
  have ECB : ExT K mg "NoBounds" CB := ⟨PySem.W.mg_of X G aCB, xCB, kpCB, bCB, tCB⟩
  have ECP : ExT K mg "NoPick" CP := ⟨PySem.W.mg_of X G aCP, xCP, kpCP, bCP, tCP⟩
  have ECN : ExT K mg "NoNumber" CN := ⟨PySem.W.mg_of X G aCN, xCN, kpCN, bCN, tCN⟩
  have ECC : ExT K mg "NoChange" CC := ⟨PySem.W.mg_of X G aCC, xCC, kpCC, bCC, tCC⟩
  have n_type := PySem.W.mg_none_of X G z_type
  have n_int := PySem.W.mg_none_of X G z_int
  have n_isinstance := PySem.W.mg_none_of X G z_isinstance
  have n_tuple := PySem.W.mg_none_of X G z_tuple
  have n_list := PySem.W.mg_none_of X G z_list
  have n_len := PySem.W.mg_none_of X G z_len
  have n_enumerate := PySem.W.mg_none_of X G z_enumerate
  have n_range := PySem.W.mg_none_of X G z_range
  have n_reversed := PySem.W.mg_none_of X G z_reversed
  have n_min := PySem.W.mg_none_of X G z_min
  have n_max := PySem.W.mg_none_of X G z_max
  have n_sorted := PySem.W.mg_none_of X G z_sorted
  have n_set := PySem.W.mg_none_of X G z_set
  have n_ValueError := PySem.W.mg_none_of X G z_ValueError
  have w_comb := PySem.W.mg_of X G v_comb
  have w_MOST_THINGS := PySem.W.mg_of X G v_MOST_THINGS
  have hG : Glb mg := ⟨⟨n_type, n_int, n_isinstance, n_tuple, n_list⟩, n_len, n_enumerate, n_range, n_reversed, w_comb, ⟨tm, w_MOST_THINGS⟩⟩
  have hGS : GlbS mg := ⟨⟨n_type, n_int, n_isinstance, n_tuple, n_list⟩, n_range, n_reversed, ⟨tm, w_MOST_THINGS⟩⟩
  have hGC : GlbC mg := ⟨hGS, n_sorted, n_set⟩
  have hT : PkC K C := ⟨⟨pgC, hdC, poC, saC⟩, nfC0, nfC1⟩
  have hTS : SkC K D := ⟨⟨pgD, hdD, poD, saD⟩, nfD0⟩
  have hKG : KG mg CB CP CN CC CT := ⟨n_isinstance, n_ValueError, ECB.g, ECP.g, ECN.g, ECC.g, (PySem.W.mg_of X G aCT)⟩
  have hkCP : KindX K CB CP CN CC CT CP 1 := ⟨⟨egCP, ekCP, bCP, edCP, eaCP, sg, st, emCP⟩, ktCPCB, ktCPCP, ktCPCN, ktCPCC, ktCPCT, kvCP⟩
  exact ⟨PySem.W.fnOf "law" "law" (defArgs s_law) (defBody s_law) (defScope s_law) .none kV22 dc22 pm22 an22 cd22 ct22, fun s v => .of_eq rfl, fun base _ _ => ok_law F22 ⟨⟨n_len, n_range, n_min, n_max⟩, ⟨n_tuple, n_sorted⟩, hKG, ⟨PySem.W.mg_of X G aPE, bPE, dPE, tPE⟩, hkCP, sCP, ⟨F16, b16, (PySem.W.mg_of X G a16)⟩, ⟨F17, b17, (PySem.W.mg_of X G a17)⟩, ⟨F18, b18, (PySem.W.mg_of X G a18)⟩, ⟨F19, b19, (PySem.W.mg_of X G a19)⟩, ⟨F20, b20, (PySem.W.mg_of X G a20)⟩, ⟨F21, b21, (PySem.W.mg_of X G a21)⟩⟩ ⟨hT, PySem.W.mg_of X G aC, _, _, ⟨mkC, a1, i1, kpC⟩, b1, 2, by decide, ok_init F1 hG ⟨F14, b14, (PySem.W.mg_of X G a14)⟩ hT ECB⟩ ⟨hTS, PySem.W.mg_of X G aD, _, _, ⟨mkD, a8, i8, kpD⟩, b8, 2, by decide, ok_sinit F8 hGS ⟨F14, b14, (PySem.W.mg_of X G a14)⟩ hTS ECB⟩ (hasM0 ⟨a2, i2, k2⟩ b2 (ok_many F2 hG hT) (by decide)) (hasM ⟨a4, i4, k4⟩ b4 (ok_at F4 hG ⟨F14, b14, (PySem.W.mg_of X G a14)⟩ ⟨F2, b2, ⟨a2, i2, k2⟩⟩ hT ECN) (by decide)) (hasM ⟨a3, i3, k3⟩ b3 (ok_number F3 hG ⟨F14, b14, (PySem.W.mg_of X G a14)⟩ ⟨F15, b15, (PySem.W.mg_of X G a15)⟩ hT ECP) (by decide)) (hasM ⟨a5, i5, k5⟩ b5 (ok_step F5 hG ⟨F14, b14, (PySem.W.mg_of X G a14)⟩ ⟨F15, b15, (PySem.W.mg_of X G a15)⟩ ⟨F3, b3, ⟨a3, i3, k3⟩⟩ ⟨F4, b4, ⟨a4, i4, k4⟩⟩ ⟨F2, b2, ⟨a2, i2, k2⟩⟩ hT ECP ECN) (by decide)) (hasM ⟨a6, i6, k6⟩ b6 (ok_change F6 hG ⟨F14, b14, (PySem.W.mg_of X G a14)⟩ ⟨F15, b15, (PySem.W.mg_of X G a15)⟩ ⟨F3, b3, ⟨a3, i3, k3⟩⟩ ⟨F4, b4, ⟨a4, i4, k4⟩⟩ ⟨F2, b2, ⟨a2, i2, k2⟩⟩ ⟨F5, b5, ⟨a5, i5, k5⟩⟩ hT ECP ECN ECC) (by decide)) (hasM ⟨a7, i7, k7⟩ b7 (ok_compared F7 hG ⟨F14, b14, (PySem.W.mg_of X G a14)⟩ ⟨F15, b15, (PySem.W.mg_of X G a15)⟩ ⟨F3, b3, ⟨a3, i3, k3⟩⟩ hT ECP) (by decide)) (hasM ⟨a10, i10, k10⟩ b10 (ok_snumber F10 hGS ⟨F14, b14, (PySem.W.mg_of X G a14)⟩ ⟨F15, b15, (PySem.W.mg_of X G a15)⟩ hTS ECP) (by decide)) (hasM ⟨a12, i12, k12⟩ b12 (ok_sstep F12 hGS ⟨F14, b14, (PySem.W.mg_of X G a14)⟩ ⟨F15, b15, (PySem.W.mg_of X G a15)⟩ ⟨F10, b10, ⟨a10, i10, k10⟩⟩ ⟨F11, b11, ⟨a11, i11, k11⟩⟩ ⟨F9, b9, ⟨a9, i9, k9⟩⟩ hTS ECP ECN) (by decide)) (hasM ⟨a13, i13, k13⟩ b13 (ok_schange F13 hGC ⟨F14, b14, (PySem.W.mg_of X G a14)⟩ ⟨F15, b15, (PySem.W.mg_of X G a15)⟩ ⟨F10, b10, ⟨a10, i10, k10⟩⟩ ⟨F11, b11, ⟨a11, i11, k11⟩⟩ ⟨F9, b9, ⟨a9, i9, k9⟩⟩ ⟨F12, b12, ⟨a12, i12, k12⟩⟩ hTS ECP ECN ECC) (by decide))⟩
theorem walk {l : PySem.W.OpenLaw} {q : Program} {loose : List Str} {XP : (Str → Option Value) → Heap → Prop} {YP : World → Heap → Prop} {d : DefRec} {K : Params → PySem.W.Frag} (hn : l.most = some 63) (hdf : d.params.defaults = [])
    (hY : ∀ (w : World) (h : Heap), YP w h → (K w.params).In h)
    (F : ∀ (w : World) (mg : Str → Option Value) (fa : Addr) (h : Heap), (K w.params).In h → h.Ns mainGlobals mg → mg d.name = some (.ref fa) →
      ∃ fd : FuncData, (∀ (s : Shared) (u : Value), BindsTo s fd ⟨[u], []⟩ [("_law_script", u)]) ∧ ∀ base : Heap, (K w.params).In base → base.Ns mainGlobals mg → FnOk l.prog w (K w.params) mg base CX0 10 fa fd ["_law_script"] (spLaw (K w.params))) :
    PySem.W.WalkO q loose XP YP l.row.toRowW d [] (fun f vs => PySem.call f vs) :=
  L2.walk_of (n := 63) (k := 10) (x := "_law_script") (CX := fun _ => CX0) (sp := fun w => spLaw (K w.params)) hn (by decide) hdf ⟨rfl, by decide, by decide⟩ hY F (fun _ _ a ns hl _ hS => ⟨a, ns, rfl, hS, hl, fun _ => rfl⟩) fun _ _ _ _ _ z => z
end Dp
open PySem PySem.W PyProof.Rows
set_option maxRecDepth 100000 in
set_option maxHeartbeats 0 in
theorem PySem.Challenge.cw_doorpicks_k07_no_picks_holds : PySem.Challenge.rw_doorpicks_k07_no_picks.Holds := by
  w_on; o_law; k_head; (case hw => w_witness2)
  k_fill
  refine Dp.walk (l := PySem.Challenge.rw_doorpicks_k07_no_picks) rfl rfl (fun w h Y => PySem.W.kIn_of Y) ?F
  case F =>
    intro w mg fa h KX G hmg
    refine' Dp.all_mk KX G hmg ?aC ?pgC ?hdC ?poC ?saC ?mkC ?kpC ?nfC0 ?nfC1 ?a1 ?i1 ?l1 ?c1 ?k1 ?a2 ?i2 ?l2 ?c2 ?k2 ?a3 ?i3 ?l3 ?c3 ?k3 ?a4 ?i4 ?l4 ?c4 ?k4 ?a5 ?i5 ?l5 ?c5 ?k5 ?a6 ?i6 ?l6 ?c6 ?k6 ?a7 ?i7 ?l7 ?c7 ?k7 ?aD ?pgD ?hdD ?poD ?saD ?mkD ?kpD ?nfD0 ?a8 ?i8 ?l8 ?c8 ?k8 ?a9 ?i9 ?l9 ?c9 ?k9 ?a10 ?i10 ?l10 ?c10 ?k10 ?a11 ?i11 ?l11 ?c11 ?k11 ?a12 ?i12 ?l12 ?c12 ?k12 ?a13 ?i13 ?l13 ?c13 ?k13 ?aCB ?xCB ?kpCB ?bCB ?tCB ?aCP ?xCP ?kpCP ?bCP ?tCP ?aCN ?xCN ?kpCN ?bCN ?tCN ?aCC ?xCC ?kpCC ?bCC ?tCC ?a14 ?l14 ?c14 ?k14 ?a15 ?l15 ?c15 ?k15 ?a16 ?l16 ?c16 ?k16 ?a17 ?l17 ?c17 ?k17 ?a18 ?l18 ?c18 ?k18 ?a19 ?l19 ?c19 ?k19 ?a20 ?l20 ?c20 ?k20 ?a21 ?l21 ?c21 ?k21 ?a22 ?l22 ?c22 ?k22 ?z_type ?z_int ?z_isinstance ?z_tuple ?z_list ?z_len ?z_enumerate ?z_range ?z_reversed ?z_min ?z_max ?z_sorted ?z_set ?z_ValueError ?v_comb ?v_MOST_THINGS ?aPE ?bPE ?dPE ?tPE ?aCT ?sg ?st ?egCP ?ekCP ?edCP ?eaCP ?emCP ?ktCPCB ?ktCPCP ?ktCPCN ?ktCPCC ?ktCPCT ?kvCP ?sCP
    (case aC => first | rfl | k_is)
    (case pgC => first | rfl | k_is)
    (case hdC => first | rfl | k_is)
    (case poC => first | rfl | k_is)
    (case saC => first | rfl | k_is)
    (case mkC => first | rfl | k_is)
    (case kpC => first | rfl | k_is)
    (case nfC0 => first | rfl | k_is)
    (case nfC1 => first | rfl | k_is)
    (case a1 => first | rfl | k_is)
    (case i1 => first | rfl | k_is)
    (case l1 => first | rfl | k_is)
    (case c1 => first | rfl | k_is)
    (case k1 => first | rfl | k_is)
    (case a2 => first | rfl | k_is)
    (case i2 => first | rfl | k_is)
    (case l2 => first | rfl | k_is)
    (case c2 => first | rfl | k_is)
    (case k2 => first | rfl | k_is)
    (case a3 => first | rfl | k_is)
    (case i3 => first | rfl | k_is)
    (case l3 => first | rfl | k_is)
    (case c3 => first | rfl | k_is)
    (case k3 => first | rfl | k_is)
    (case a4 => first | rfl | k_is)
    (case i4 => first | rfl | k_is)
    (case l4 => first | rfl | k_is)
    (case c4 => first | rfl | k_is)
    (case k4 => first | rfl | k_is)
    (case a5 => first | rfl | k_is)
    (case i5 => first | rfl | k_is)
    (case l5 => first | rfl | k_is)
    (case c5 => first | rfl | k_is)
    (case k5 => first | rfl | k_is)
    (case a6 => first | rfl | k_is)
    (case i6 => first | rfl | k_is)
    (case l6 => first | rfl | k_is)
    (case c6 => first | rfl | k_is)
    (case k6 => first | rfl | k_is)
    (case a7 => first | rfl | k_is)
    (case i7 => first | rfl | k_is)
    (case l7 => first | rfl | k_is)
    (case c7 => first | rfl | k_is)
    (case k7 => first | rfl | k_is)
    (case aD => first | rfl | k_is)
    (case pgD => first | rfl | k_is)
    (case hdD => first | rfl | k_is)
    (case poD => first | rfl | k_is)
    (case saD => first | rfl | k_is)
    (case mkD => first | rfl | k_is)
    (case kpD => first | rfl | k_is)
    (case nfD0 => first | rfl | k_is)
    (case a8 => first | rfl | k_is)
    (case i8 => first | rfl | k_is)
    (case l8 => first | rfl | k_is)
    (case c8 => first | rfl | k_is)
    (case k8 => first | rfl | k_is)
    (case a9 => first | rfl | k_is)
    (case i9 => first | rfl | k_is)
    (case l9 => first | rfl | k_is)
    (case c9 => first | rfl | k_is)
    (case k9 => first | rfl | k_is)
    (case a10 => first | rfl | k_is)
    (case i10 => first | rfl | k_is)
    (case l10 => first | rfl | k_is)
    (case c10 => first | rfl | k_is)
    (case k10 => first | rfl | k_is)
    (case a11 => first | rfl | k_is)
    (case i11 => first | rfl | k_is)
    (case l11 => first | rfl | k_is)
    (case c11 => first | rfl | k_is)
    (case k11 => first | rfl | k_is)
    (case a12 => first | rfl | k_is)
    (case i12 => first | rfl | k_is)
    (case l12 => first | rfl | k_is)
    (case c12 => first | rfl | k_is)
    (case k12 => first | rfl | k_is)
    (case a13 => first | rfl | k_is)
    (case i13 => first | rfl | k_is)
    (case l13 => first | rfl | k_is)
    (case c13 => first | rfl | k_is)
    (case k13 => first | rfl | k_is)
    (case aCB => first | rfl | k_is)
    (case xCB => k_exc)
    (case kpCB => first | rfl | k_is)
    (case bCB => first | rfl | k_is)
    (case tCB => first | rfl | k_is)
    (case aCP => first | rfl | k_is)
    (case xCP => k_exc)
    (case kpCP => first | rfl | k_is)
    (case bCP => first | rfl | k_is)
    (case tCP => first | rfl | k_is)
    (case aCN => first | rfl | k_is)
    (case xCN => k_exc)
    (case kpCN => first | rfl | k_is)
    (case bCN => first | rfl | k_is)
    (case tCN => first | rfl | k_is)
    (case aCC => first | rfl | k_is)
    (case xCC => k_exc)
    (case kpCC => first | rfl | k_is)
    (case bCC => first | rfl | k_is)
    (case tCC => first | rfl | k_is)
    (case a14 => first | rfl | k_is)
    (case l14 => first | rfl | k_is)
    (case c14 => first | rfl | k_is)
    (case k14 => first | rfl | k_is)
    (case a15 => first | rfl | k_is)
    (case l15 => first | rfl | k_is)
    (case c15 => first | rfl | k_is)
    (case k15 => first | rfl | k_is)
    (case a16 => first | rfl | k_is)
    (case l16 => first | rfl | k_is)
    (case c16 => first | rfl | k_is)
    (case k16 => first | rfl | k_is)
    (case a17 => first | rfl | k_is)
    (case l17 => first | rfl | k_is)
    (case c17 => first | rfl | k_is)
    (case k17 => first | rfl | k_is)
    (case a18 => first | rfl | k_is)
    (case l18 => first | rfl | k_is)
    (case c18 => first | rfl | k_is)
    (case k18 => first | rfl | k_is)
    (case a19 => first | rfl | k_is)
    (case l19 => first | rfl | k_is)
    (case c19 => first | rfl | k_is)
    (case k19 => first | rfl | k_is)
    (case a20 => first | rfl | k_is)
    (case l20 => first | rfl | k_is)
    (case c20 => first | rfl | k_is)
    (case k20 => first | rfl | k_is)
    (case a21 => first | rfl | k_is)
    (case l21 => first | rfl | k_is)
    (case c21 => first | rfl | k_is)
    (case k21 => first | rfl | k_is)
    (case a22 => first | rfl | k_is)
    (case l22 => first | rfl | k_is)
    (case c22 => first | rfl | k_is)
    (case k22 => first | rfl | k_is)
    (case z_type => first | rfl | k_is)
    (case z_int => first | rfl | k_is)
    (case z_isinstance => first | rfl | k_is)
    (case z_tuple => first | rfl | k_is)
    (case z_list => first | rfl | k_is)
    (case z_len => first | rfl | k_is)
    (case z_enumerate => first | rfl | k_is)
    (case z_range => first | rfl | k_is)
    (case z_reversed => first | rfl | k_is)
    (case z_min => first | rfl | k_is)
    (case z_max => first | rfl | k_is)
    (case z_sorted => first | rfl | k_is)
    (case z_set => first | rfl | k_is)
    (case z_ValueError => first | rfl | k_is)
    (case v_comb => first | rfl | k_is)
    (case v_MOST_THINGS => first | rfl | k_is)
    (case aPE => first | rfl | k_is)
    (case bPE => first | rfl | k_is)
    (case dPE => first | rfl | k_is)
    (case tPE => first | rfl | k_is)
    (case aCT => first | rfl | k_is)
    (case sg => first | rfl | k_is)
    (case st => first | rfl | k_is)
    (case egCP => first | rfl | k_is)
    (case ekCP => first | rfl | k_is)
    (case edCP => first | rfl | k_is)
    (case eaCP => first | rfl | k_is)
    (case emCP => first | rfl | k_is)
    (case ktCPCB => first | rfl | k_is)
    (case ktCPCP => first | rfl | k_is)
    (case ktCPCN => first | rfl | k_is)
    (case ktCPCC => first | rfl | k_is)
    (case ktCPCT => first | rfl | k_is)
    (case kvCP => first | rfl | k_is)
    (case sCP => first | rfl | k_is)
#print axioms PySem.Challenge.cw_doorpicks_k07_no_picks_holds
