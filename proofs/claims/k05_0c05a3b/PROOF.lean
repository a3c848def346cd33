import PyProof.Rows.All
import Wide.All
import OpenK.AllK
import Wide.FinOn
import HandS.ForExc
import HandS.Comp
import HandS.Dict
import HandS.Iter
import HandS.Walk
import HandS.IsInst
import HandS.Rev
import HandS.Gcd
import HandS.More
import KE.KMathGC
import KE.GoesEnumKw
import HandS.ExcIs
import HandS.ExcValue
import PySem.Challenge.RW_doorpicks_k05_whole_one_out_one_in
set_option Elab.async false
set_option linter.all false
set_option maxRecDepth 100000
set_option maxHeartbeats 4000000
namespace Dp
/-! ways to pick -/
def ch : Nat → Nat → Nat
  | _, 0 => 1
  | 0, _ + 1 => 0
  | n + 1, k + 1 => ch n k + ch n (k + 1)
theorem ch_zero (n : Nat) : ch n 0 = 1 := by cases n <;> rfl
theorem ch_succ (n k : Nat) : ch (n + 1) (k + 1) = ch n k + ch n (k + 1) := rfl
theorem ch_above : ∀ {n k : Nat}, n < k → ch n k = 0
  | n, 0, h => absurd h (Nat.not_lt_zero _)
  | 0, k + 1, _ => rfl
  | n + 1, k + 1, h => by
    rw [ch_succ, ch_above (n := n) (k := k) (by omega), ch_above (n := n) (k := k + 1) (by omega)]
theorem ch_self : ∀ n : Nat, ch n n = 1
  | 0 => rfl
  | n + 1 => by rw [ch_succ, ch_self n, ch_above (Nat.lt_succ_self n)]
theorem ch_pos : ∀ {n k : Nat}, k ≤ n → 1 ≤ ch n k
  | n, 0, _ => by rw [ch_zero]; exact Nat.le_refl 1
  | 0, k + 1, h => absurd h (by omega)
  | n + 1, k + 1, h => by
    rw [ch_succ]
    have := ch_pos (n := n) (k := k) (by omega)
    omega
theorem ch_step (n k : Nat) : ch n k ≤ ch (n + 1) k := by
  cases k with
  | zero => rw [ch_zero, ch_zero]; exact Nat.le_refl _
  | succ k => rw [ch_succ]; exact Nat.le_add_left _ _
theorem ch_mono {n m k : Nat} (h : n ≤ m) : ch n k ≤ ch m k := by
  induction m with
  | zero =>
    have e : n = 0 := by omega
    subst e
    exact Nat.le_refl _
  | succ m ih =>
    by_cases e : n = m + 1
    · subst e; exact Nat.le_refl _
    · exact Nat.le_trans (ih (by omega)) (ch_step m k)
theorem ch_two {n k : Nat} (h0 : 0 < k) (h1 : k < n) : 2 ≤ ch n k := by
  obtain ⟨n, rfl⟩ : ∃ m, n = m + 1 := ⟨n - 1, by omega⟩
  obtain ⟨k, rfl⟩ : ∃ m, k = m + 1 := ⟨k - 1, by omega⟩
  rw [ch_succ]
  have a := ch_pos (n := n) (k := k) (by omega)
  have b := ch_pos (n := n) (k := k + 1) (by omega)
  omega
/-! falling products: the ways by a quotient -/
def fp (n : Int) : Nat → Int
  | 0 => 1
  | k + 1 => fp n k * (n - (k : Int))
theorem fp_shift (n : Int) : ∀ k : Nat, fp (n + 1) (k + 1) = (n + 1) * fp n k
  | 0 => by show (1 : Int) * (n + 1 - ((0 : Nat) : Int)) = (n + 1) * 1; simp
  | k + 1 => by
    show fp (n + 1) (k + 1) * (n + 1 - ((k + 1 : Nat) : Int)) = (n + 1) * (fp n k * (n - (k : Int)))
    rw [fp_shift n k]
    have e : n + 1 - ((k + 1 : Nat) : Int) = n - (k : Int) := by omega
    rw [e, Int.mul_assoc]
theorem fp_pascal (n : Int) (k : Nat) : fp (n + 1) (k + 1) = fp n (k + 1) + ((k : Int) + 1) * fp n k := by
  rw [fp_shift]
  show (n + 1) * fp n k = fp n k * (n - (k : Int)) + ((k : Int) + 1) * fp n k
  rw [Int.mul_comm (fp n k), ← Int.add_mul]
  congr 1
  omega
theorem fp_zero_succ (k : Nat) : fp 0 (k + 1) = 0 := by
  have e : fp (0 : Int) (k + 1) = fp ((-1 : Int) + 1) (k + 1) := rfl
  rw [e, fp_shift]
  show (-1 + 1 : Int) * _ = 0
  rw [show (-1 + 1 : Int) = 0 from rfl, Int.zero_mul]
theorem fp_self_pos : ∀ k : Nat, 0 < fp (k : Int) k
  | 0 => by show (0 : Int) < 1; decide
  | k + 1 => by
    have e : ((k + 1 : Nat) : Int) = (k : Int) + 1 := by omega
    rw [e, fp_shift]
    exact Int.mul_pos (by omega) (fp_self_pos k)
theorem ch_fp : ∀ n k : Nat, (ch n k : Int) * fp (k : Int) k = fp (n : Int) k
  | n, 0 => by rw [ch_zero]; rfl
  | 0, k + 1 => by
    show ((0 : Nat) : Int) * _ = fp 0 (k + 1)
    rw [fp_zero_succ]; simp
  | n + 1, k + 1 => by
    rw [ch_succ, Int.natCast_add, Int.add_mul, ch_fp n (k + 1)]
    have e1 : ((k + 1 : Nat) : Int) = (k : Int) + 1 := by omega
    have e2 : ((n + 1 : Nat) : Int) = (n : Int) + 1 := by omega
    rw [e2, fp_pascal]
    have e3 : fp ((k + 1 : Nat) : Int) (k + 1) = ((k : Int) + 1) * fp (k : Int) k := by rw [e1, fp_shift]
    rw [e3, ← Int.mul_assoc, Int.mul_comm (ch n k : Int), Int.mul_assoc, ch_fp n k, Int.add_comm]
theorem ch_div (n k : Nat) : fp (n : Int) k / fp (k : Int) k = (ch n k : Int) := by
  rw [← ch_fp n k]
  exact Int.mul_ediv_cancel _ (by have := fp_self_pos k; omega)
theorem ch_sym : ∀ {n k : Nat}, k ≤ n → ch n k = ch n (n - k)
  | 0, k, h => by
    have e : k = 0 := by omega
    subst e; rfl
  | n + 1, 0, h => by rw [ch_zero, Nat.sub_zero, ch_self]
  | n + 1, k + 1, h => by
    by_cases e : k = n
    · subst e
      rw [ch_self, Nat.sub_self, ch_zero]
    · rw [ch_succ, ch_sym (n := n) (k := k) (by omega), ch_sym (n := n) (k := k + 1) (by omega)]
      obtain ⟨d, hd⟩ : ∃ d, n - k = d + 1 := ⟨n - k - 1, by omega⟩
      have e1 : n + 1 - (k + 1) = d + 1 := by omega
      have e2 : n - (k + 1) = d := by omega
      rw [e1, hd, e2, ch_succ, Nat.add_comm]
/-! picks: things falling (the greatest first) -/
def Desc : Nat → List Nat → Prop
  | _, [] => True
  | n, g :: r => g < n ∧ Desc g r
def rk : List Nat → Int
  | [] => 0
  | g :: r => (ch (g + 1) (r.length + 1) : Int) - 1 - rk r
theorem Desc.mono {n m : Nat} {l : List Nat} (h : Desc n l) (le : n ≤ m) : Desc m l := by
  cases l with
  | nil => trivial
  | cons g r => exact ⟨Nat.lt_of_lt_of_le h.1 le, h.2⟩
theorem Desc.len : ∀ {n : Nat} {l : List Nat}, Desc n l → l.length ≤ n
  | _, [], _ => Nat.zero_le _
  | n, g :: r, h => by
    have := Desc.len h.2
    have := h.1
    show r.length + 1 ≤ n
    omega
theorem Desc.mem : ∀ {n : Nat} {l : List Nat}, Desc n l → ∀ x ∈ l, x < n
  | _, [], _, x, h => by simp at h
  | n, g :: r, h, x, hx => by
    rcases List.mem_cons.mp hx with e | e
    · rw [e]; exact h.1
    · exact Nat.lt_trans (Desc.mem h.2 x e) h.1
theorem rk_bounds : ∀ {n : Nat} {l : List Nat}, Desc n l → 0 ≤ rk l ∧ rk l < ch n l.length
  | n, [], _ => by
    show (0 : Int) ≤ 0 ∧ (0 : Int) < ch n 0
    rw [ch_zero]; exact ⟨Int.le_refl _, by decide⟩
  | n, g :: r, h => by
    have ⟨a, b⟩ := rk_bounds h.2
    have c : ch (g + 1) (r.length + 1) ≤ ch n (r.length + 1) := ch_mono h.1
    have e := ch_succ g r.length
    show 0 ≤ (ch (g + 1) (r.length + 1) : Int) - 1 - rk r ∧ (ch (g + 1) (r.length + 1) : Int) - 1 - rk r < ch n (r.length + 1)
    omega
theorem rk_head {g : Nat} {r : List Nat} (h : Desc g r) : (ch g (r.length + 1) : Int) ≤ rk (g :: r) ∧ rk (g :: r) < ch (g + 1) (r.length + 1) := by
  have ⟨a, b⟩ := rk_bounds h
  have e := ch_succ g r.length
  show (ch g (r.length + 1) : Int) ≤ (ch (g + 1) (r.length + 1) : Int) - 1 - rk r ∧ (ch (g + 1) (r.length + 1) : Int) - 1 - rk r < ch (g + 1) (r.length + 1)
  omega
theorem head_one {g g' k : Nat} {p : Int} (h1 : (ch g k : Int) ≤ p) (h2 : p < ch (g + 1) k) (h3 : (ch g' k : Int) ≤ p) (h4 : p < ch (g' + 1) k) : g = g' := by
  rcases Nat.lt_trichotomy g g' with h | h | h
  · have := ch_mono (k := k) (show g + 1 ≤ g' from h)
    omega
  · exact h
  · have := ch_mono (k := k) (show g' + 1 ≤ g from h)
    omega
theorem rk_inj : ∀ {a b : List Nat} {n m : Nat}, Desc n a → Desc m b → a.length = b.length → rk a = rk b → a = b
  | [], [], _, _, _, _, _, _ => rfl
  | [], _ :: _, _, _, _, _, h, _ => by simp at h
  | _ :: _, [], _, _, _, _, h, _ => by simp at h
  | g :: r, g' :: r', n, m, ha, hb, hl, hr => by
    have hl' : r.length = r'.length := by simpa using hl
    have ⟨a1, a2⟩ := rk_head ha.2
    have ⟨b1, b2⟩ := rk_head hb.2
    rw [← hl'] at b1 b2
    rw [← hr] at b1 b2
    have e := head_one a1 a2 b1 b2
    subst e
    have e2 : rk r = rk r' := by
      have q : (ch (g + 1) (r.length + 1) : Int) - 1 - rk r = (ch (g + 1) (r'.length + 1) : Int) - 1 - rk r' := hr
      rw [hl'] at q
      omega
    rw [rk_inj ha.2 hb.2 hl' e2]
/-- the search: the greatest g below n with no more than p ahead -/
def dn (k : Nat) (p : Int) : Nat → Nat
  | 0 => 0
  | g + 1 => if (ch (g + 1) k : Int) > p then dn k p g else g + 1
theorem dn_spec {k : Nat} {p : Int} (hk : 0 < k) (hp : 0 ≤ p) : ∀ n : Nat, p < ch n k → dn k p n < n ∧ (ch (dn k p n) k : Int) ≤ p ∧ p < ch (dn k p n + 1) k
  | 0, h => by
    rw [ch_above hk] at h
    exact absurd h (by omega)
  | n + 1, h => by
    show dn k p (n + 1) < n + 1 ∧ _
    have e : dn k p (n + 1) = dn k p n := by
      show (if (ch (n + 1) k : Int) > p then dn k p n else n + 1) = dn k p n
      rw [if_pos h]
    rw [e]
    by_cases c : p < ch n k
    · have ⟨a, b, d⟩ := dn_spec hk hp n c
      exact ⟨Nat.lt_succ_of_lt a, b, d⟩
    · have e2 : dn k p n = n := by
        cases n with
        | zero => rfl
        | succ m =>
          show (if (ch (m + 1) k : Int) > p then dn k p m else m + 1) = m + 1
          rw [if_neg (by omega)]
      rw [e2]
      exact ⟨Nat.lt_succ_self n, by omega, h⟩
def un : Nat → Nat → Int → List Nat
  | _, 0, _ => []
  | n, k + 1, p => dn (k + 1) p n :: un (dn (k + 1) p n) k ((ch (dn (k + 1) p n + 1) (k + 1) : Int) - 1 - p)
theorem un_spec : ∀ (k n : Nat) (p : Int), 0 ≤ p → p < ch n k → Desc n (un n k p) ∧ (un n k p).length = k ∧ rk (un n k p) = p
  | 0, n, p, h0, h1 => by
    rw [ch_zero] at h1
    refine ⟨trivial, rfl, ?_⟩
    show (0 : Int) = p
    omega
  | k + 1, n, p, h0, h1 => by
    have ⟨a, b, c⟩ := dn_spec (k := k + 1) (Nat.succ_pos k) h0 n h1
    have e := ch_succ (dn (k + 1) p n) k
    have ⟨d1, d2, d3⟩ := un_spec k (dn (k + 1) p n) ((ch (dn (k + 1) p n + 1) (k + 1) : Int) - 1 - p) (by omega) (by omega)
    refine ⟨⟨a, d1⟩, ?_, ?_⟩
    · show (un _ k _).length + 1 = k + 1
      rw [d2]
    · show (ch (dn (k + 1) p n + 1) ((un _ k _).length + 1) : Int) - 1 - rk (un _ k _) = p
      rw [d2, d3]
      omega
theorem un_rk {n : Nat} {l : List Nat} (h : Desc n l) : un n l.length (rk l) = l := by
  have ⟨a, b⟩ := rk_bounds h
  have ⟨d1, d2, d3⟩ := un_spec l.length n (rk l) a b
  exact rk_inj d1 h d2 d3
theorem un_more {n m k : Nat} {p : Int} (hn : n ≤ m) (h0 : 0 ≤ p) (h1 : p < ch n k) : un m k p = un n k p := by
  have ⟨a1, a2, a3⟩ := un_spec k n p h0 h1
  have le : ch n k ≤ ch m k := ch_mono hn
  have ⟨b1, b2, b3⟩ := un_spec k m p h0 (by omega)
  exact rk_inj b1 a1 (by rw [a2, b2]) (by rw [a3, b3])
/-! the first pick -/
def fst : Nat → List Nat
  | 0 => []
  | m + 1 => m :: fst m
theorem fst_len : ∀ m : Nat, (fst m).length = m
  | 0 => rfl
  | m + 1 => by show (fst m).length + 1 = m + 1; rw [fst_len m]
theorem fst_desc : ∀ m : Nat, Desc m (fst m)
  | 0 => trivial
  | m + 1 => ⟨Nat.lt_succ_self m, fst_desc m⟩
theorem fst_mem : ∀ {m x : Nat}, x ∈ fst m ↔ x < m
  | 0, x => by simp [fst]
  | m + 1, x => by
    show x ∈ m :: fst m ↔ _
    rw [List.mem_cons, fst_mem (m := m)]
    omega
theorem fst_rk : ∀ m : Nat, rk (fst m) = 0
  | 0 => rfl
  | m + 1 => by
    show (ch (m + 1) ((fst m).length + 1) : Int) - 1 - rk (fst m) = 0
    rw [fst_len, ch_self, fst_rk m]; rfl
theorem fst_of {n : Nat} {l : List Nat} (h : Desc n l) (e : rk l = 0) : l = fst l.length :=
  rk_inj h (fst_desc _) (fst_len _).symm (by rw [e, fst_rk])
/-- the last pick: the greatest thing, and the first ones of the rest -/
theorem last_of {n m : Nat} {l : List Nat} (h : Desc n l) (hl : l.length = m + 1) (e : rk l = (ch n (m + 1) : Int) - 1) : l = (n - 1) :: fst m := by
  have hn : m + 1 ≤ n := by rw [← hl]; exact h.len
  obtain ⟨k, rfl⟩ : ∃ k, n = k + 1 := ⟨n - 1, by omega⟩
  refine rk_inj h (m := k + 1) ⟨Nat.lt_succ_self _, (fst_desc m).mono (by omega)⟩ (by rw [hl]; show m + 1 = (fst m).length + 1; rw [fst_len]) ?_
  rw [e]
  show _ = (ch (k + 1 - 1 + 1) ((fst m).length + 1) : Int) - 1 - rk (fst m)
  rw [fst_len, fst_rk]
  simp
/-! one goes out, one comes in -/
structure Ex (a b : List Nat) (o i : Nat) : Prop where
  oa : o ∈ a
  ob : o ∉ b
  ib : i ∈ b
  ia : i ∉ a
  same : ∀ x, x ≠ o → x ≠ i → (x ∈ a ↔ x ∈ b)
theorem Ex.symm {a b : List Nat} {o i : Nat} (h : Ex a b o i) : Ex b a i o := ⟨h.ib, h.ia, h.oa, h.ob, fun x h1 h2 => (h.same x h2 h1).symm⟩
theorem Ex.cons {a b : List Nat} {o i g : Nat} (h : Ex a b o i) (ho : o ≠ g) (hi : i ≠ g) : Ex (g :: a) (g :: b) o i :=
  ⟨List.mem_cons_of_mem _ h.oa, fun q => (List.mem_cons.mp q).elim ho h.ob, List.mem_cons_of_mem _ h.ib, fun q => (List.mem_cons.mp q).elim hi h.ia, fun x h1 h2 => by rw [List.mem_cons, List.mem_cons, h.same x h1 h2]⟩
theorem ex_next : ∀ {a b : List Nat} {n m : Nat}, Desc n a → Desc m b → a.length = b.length → rk b = rk a + 1 → ∃ o i, Ex a b o i
  | [], [], _, _, _, _, _, h => by
    have h' : (0 : Int) = 0 + 1 := h
    exact absurd h' (by decide)
  | [], _ :: _, _, _, _, _, h, _ => by simp at h
  | _ :: _, [], _, _, _, _, h, _ => by simp at h
  | ga :: ra, gb :: rb, n, m, ha, hb, hl, hr => by
    have hl' : ra.length = rb.length := by simpa using hl
    have ⟨a1, a2⟩ := rk_head ha.2
    have ⟨b1, b2⟩ := rk_head hb.2
    have ea : rk (ga :: ra) = (ch (ga + 1) (ra.length + 1) : Int) - 1 - rk ra := rfl
    have eb : rk (gb :: rb) = (ch (gb + 1) (rb.length + 1) : Int) - 1 - rk rb := rfl
    rcases Nat.lt_trichotomy ga gb with h | h | h
    · have c1 := ch_mono (k := ra.length + 1) (show ga + 1 ≤ gb from h)
      have la := ha.2.len
      have eg : gb = ga + 1 := by
        apply Classical.byContradiction
        intro ne
        have c2 := ch_mono (k := ra.length + 1) (show ga + 1 + 1 ≤ gb by omega)
        have c3 := ch_succ (ga + 1) ra.length
        have c4 := ch_pos (n := ga + 1) (k := ra.length) (by omega)
        rw [← hl'] at b1
        omega
      subst eg
      rw [← hl'] at b1 eb
      have ra0 : rk ra = 0 := by omega
      have e1 := ch_succ (ga + 1) ra.length
      have rbl : rk rb = (ch (ga + 1) ra.length : Int) - 1 := by omega
      have ra_is := fst_of ha.2 ra0
      cases hm : ra.length with
      | zero =>
        have e1 : ra = [] := List.length_eq_zero_iff.mp hm
        have e2 : rb = [] := List.length_eq_zero_iff.mp (by omega)
        subst e1 e2
        exact ⟨ga, ga + 1, by simp, by simp, by simp, by simp, fun x h1 h2 => by simp [h1, h2]⟩
      | succ j =>
        have rb_is := last_of hb.2 (m := j) (by omega) (by rw [rbl, hm])
        rw [hm] at ra_is
        have e3 : ga + 1 - 1 = ga := rfl
        rw [e3] at rb_is
        have jl : j < ga := by omega
        refine ⟨j, ga + 1, ?_, ?_, ?_, ?_, ?_⟩
        · rw [ra_is]; show j ∈ ga :: j :: fst j; simp
        · rw [rb_is]
          simp only [List.mem_cons, fst_mem]
          omega
        · simp
        · rw [ra_is]
          simp only [List.mem_cons, fst_mem]
          omega
        · intro x h1 h2
          rw [ra_is, rb_is]
          simp only [List.mem_cons, fst_mem]
          omega
    · subst h
      rw [← hl'] at eb
      have q : rk ra = rk rb + 1 := by omega
      obtain ⟨o, i, e⟩ := ex_next hb.2 ha.2 hl'.symm q
      have o1 := hb.2.mem o e.oa
      have i1 := ha.2.mem i e.ib
      exact ⟨i, o, e.symm.cons (by omega) (by omega)⟩
    · have c1 := ch_mono (k := ra.length + 1) (show gb + 1 ≤ ga from h)
      rw [← hl'] at b2
      omega
termination_by a b _ _ => a.length + b.length
decreasing_by
  all_goals simp only [List.length_cons]
  all_goals omega
theorem ex_round {n m : Nat} {a b : List Nat} (ha : Desc n a) (hb : Desc n b) (la : a.length = m) (lb : b.length = m) (h0 : 0 < m) (h1 : m < n) (ea : rk a = (ch n m : Int) - 1) (eb : rk b = 0) : ∃ o i, Ex a b o i := by
  obtain ⟨k, rfl⟩ : ∃ k, m = k + 1 := ⟨m - 1, by omega⟩
  have a_is := last_of ha la ea
  have b_is := fst_of hb eb
  rw [lb] at b_is
  refine ⟨n - 1, k, ?_, ?_, ?_, ?_, ?_⟩
  · rw [a_is]; simp
  · rw [b_is, fst_mem]; omega
  · rw [b_is, fst_mem]; omega
  · rw [a_is]; simp only [List.mem_cons, fst_mem]; omega
  · intro x h2 h3
    rw [a_is, b_is]
    simp only [List.mem_cons, fst_mem]
    omega
/-- from each pick to the next, round the end -/
theorem ex_step {n m : Nat} {a b : List Nat} (ha : Desc n a) (hb : Desc n b) (la : a.length = m) (lb : b.length = m) (h0 : 0 < m) (h1 : m < n) (e : rk b = (rk a + 1) % (ch n m : Int)) : ∃ o i, Ex a b o i := by
  have ⟨x, y⟩ := rk_bounds ha
  rw [la] at y
  by_cases c : rk a + 1 = ch n m
  · refine ex_round ha hb la lb h0 h1 (by omega) ?_
    rw [e, c, Int.emod_self]
  · refine ex_next ha hb (by rw [la, lb]) ?_
    rw [e]
    exact Int.emod_eq_of_lt (by omega) (by omega)
/-- nodup, as lists -/
theorem Desc.nodup : ∀ {n : Nat} {l : List Nat}, Desc n l → l.Nodup
  | _, [], _ => List.nodup_nil
  | n, g :: r, h => List.nodup_cons.mpr ⟨fun q => absurd (h.2.mem g q) (Nat.lt_irrefl _), h.2.nodup⟩
theorem filter_one {l : List Nat} {p : Nat → Bool} {o : Nat} (nd : l.Nodup) (hm : o ∈ l) (hp : ∀ x ∈ l, (p x = true ↔ x = o)) : l.filter p = [o] := by
  induction l with
  | nil => simp at hm
  | cons a r ih =>
    have ⟨n1, n2⟩ := List.nodup_cons.mp nd
    by_cases e : a = o
    · subst e
      have pa : p a = true := (hp a (by simp)).mpr rfl
      rw [List.filter_cons_of_pos pa]
      have : r.filter p = [] := by
        rw [List.filter_eq_nil_iff]
        intro x hx px
        have := (hp x (List.mem_cons_of_mem _ hx)).mp px
        subst this
        exact n1 hx
      rw [this]
    · have pa : ¬ p a = true := fun q => e ((hp a (by simp)).mp q)
      rw [List.filter_cons_of_neg pa]
      refine ih n2 ?_ (fun x hx => hp x (List.mem_cons_of_mem _ hx))
      rcases List.mem_cons.mp hm with q | q
      · exact absurd q.symm e
      · exact q
theorem Ex.outs {a b : List Nat} {o i : Nat} (h : Ex a b o i) (nd : a.Nodup) : a.filter (fun x => !b.contains x) = [o] := by
  refine filter_one nd h.oa fun x hx => ?_
  simp only [Bool.not_eq_true', List.contains_eq_mem, decide_eq_false_iff_not]
  constructor
  · intro q
    apply Classical.byContradiction
    intro ne
    by_cases e : x = i
    · subst e; exact h.ia hx
    · exact q ((h.same x ne e).mp hx)
  · intro q; rw [q]; exact h.ob
end Dp
namespace DpR
open PySem PySem.Spec PyProof.Rows L2
/-! ### comb -/
theorem fp_eq (n : Int) (k : Nat) : Builtin.Math.fallingProduct n k = Dp.fp n k := by
  induction k with
  | zero => rfl
  | succ k ih =>
    rw [PySem.W.mc_fp_succ, ih]
    rfl
theorem comb_eq (n k : Nat) : PySem.W.mcComb (n : Int) (k : Int) = (Dp.ch n k : Int) := by
  by_cases h : k ≤ n
  · by_cases h2 : k ≤ n - k
    · rw [PySem.W.mcComb_at (m := (k : Int)) (by omega) (by omega) (by omega), fp_eq, fp_eq, Int.toNat_natCast, Dp.ch_div]
    · have e : min (k : Int) ((n : Int) - (k : Int)) = ((n - k : Nat) : Int) := by omega
      rw [PySem.W.mcComb_at (by omega) (by omega) e, fp_eq, fp_eq, Int.toNat_natCast, Dp.ch_div, ← Dp.ch_sym h]
  · rw [PySem.W.mcComb_above (by omega), Dp.ch_above (by omega)]
    rfl
def rComb : List V → Hp → VK → Prop := fun vs H Q => ∃ a b : Nat, vs = [.int a, .int b] ∧ a ≤ 18000 ∧ Q (.int (Dp.ch a b : Nat)) H
section
variable {X : Cx}
theorem cr_comb : CallR X (.builtin "math.comb") rComb := by
  intro pins s σ H vs us Q I r h
  obtain ⟨a, b, rfl, ha, q⟩ := h
  obtain ⟨t, u, rfl⟩ := Vals.int2 r
  exact PySem.W.mc_comb_v (by omega) (by omega) (by omega) (.inr (by omega)) (comb_eq a b) ⟨.int _, H, I.tok _, ⟨_, rfl⟩, q⟩
/-! ### type(x) == int -/
theorem op_eqTy : OpR X (compareOp .Eq) (fun x y H Q => ∃ m n, x = .ty m ∧ y = .ty n ∧ PySem.W.kitMeta m = true ∧ PySem.W.kitMeta n = true ∧ Q (.bl (decide (m = n))) H) := by
  intro pins s σ H x y v u Q I rx ry h
  obtain ⟨m, n, rfl, rfl, h1, h2, q⟩ := h
  cases (show v = Value.type m from rx)
  cases (show u = Value.type n from ry)
  by_cases e : m = n
  · subst e
    refine TypeEq.eq_type_same (fun s' => ?_) (fin_bl I q (by simp))
    exact PySem.W.kitMeta_of h1
  · refine TypeEq.eq_type_other (fun s' => ?_) (fun s' => ?_) ?_ (fin_bl I q (by simp [e]))
    · exact PySem.W.kitMeta_of h1
    · exact PySem.W.kitMeta_of h2
    · rw [ty_beq, decide_eq_false e]

/-! ### a row: a list or a tuple, at its address -/
def SqB (b : Bool) (K : PySem.W.Frag) (H : Hp) (a : Addr) (xs : List V) : Prop := match b with
  | false => SqL K H a xs
  | true => SqT K H a xs
def InB (b : Bool) (h : Heap) (it a : Addr) (i : Nat) : Prop := match b with
  | false => h.IsListIter it a i
  | true => h.IsTupleIter it a i
def IsB (b : Bool) (h : Heap) (a : Addr) (its : Array Value) : Prop := match b with
  | false => h.IsList a its
  | true => h.IsTuple a its
def Itb (b : Bool) (K : PySem.W.Frag) (a : Addr) : It := match b with
  | false => Itl K a
  | true => Itt K a
/-- for x in row -/
def iSq (K : PySem.W.Frag) (tl : TE) : TI := fun σ H R => tl σ H fun x H1 => ∃ a b xs, x = .ref a ∧ SqB b K H1 a xs ∧ R (Itb b K a) H1
theorem pi_sq {tg l : Expr} {tl : TE} (hl : PE X l tl) : PI X tg l (iSq X.K tl) := by
  refine ⟨fun pins s σ H R I h => ?_⟩
  refine thn (hl.run pins s σ H _ I h) fun v s1 ⟨x, H1, I1, r1, q1⟩ => ?_
  obtain ⟨a, b, xs, e, hq, q⟩ := q1
  subst e
  cases r1
  cases b with
  | false =>
    obtain ⟨its, rv, p, hz⟩ := I1.list hq
    refine wpAny_pyIter_list p.isList ?_
    refine ⟨s1.heap.objs.size, [s1.heap.objs.size], _, _, H1, rfl, I1.kept (t' := s1.toks) fun b o e => Heap.get?_push_of_some _ e, turn_list a _, ⟨_, Heap.get?_push_size _ rfl, rfl, rfl⟩, fun b hb => ?_, q⟩
    have e : b = s1.heap.objs.size := by simpa using hb
    subst e
    exact I1.fpOk (Nat.le_refl _) (I1.hok.fresh (Nat.le_refl _))
  | true =>
    obtain ⟨its, rv, p, hz⟩ := I1.tuple hq
    refine wpAny_pyIter_tuple (show s1.heap.IsTuple a its.toArray from p) ?_
    refine ⟨s1.heap.objs.size, [s1.heap.objs.size], _, _, H1, rfl, I1.kept (t' := s1.toks) fun b o e => Heap.get?_push_of_some _ e, turn_tuple a _, ⟨_, Heap.get?_push_size _ rfl, rfl, rfl⟩, fun b hb => ?_, q⟩
    have e : b = s1.heap.objs.size := by simpa using hb
    subst e
    exact I1.fpOk (Nat.le_refl _) (I1.hok.fresh (Nat.le_refl _))
theorem walk_itb {K : PySem.W.Frag} {a : Addr} {xs : List V} : ∀ {b : Bool}, L2.Walk (Itb b K a) xs.length (fun H => SqB b K H a xs) (YAt xs)
  | false => walk_list
  | true => walk_tup

/-! ### enumerate(row, start=k) -/
/-- each item of the row at a in a new pair, counted from k -/
def Ies (b : Bool) (K : PySem.W.Frag) (k : Int) (a : Addr) : It :=
  ⟨fun i H => ∃ (xs : List V) (x : V), SqB b K H a xs ∧ xs[i]? = some x, fun i H v H' => ∃ T x, v = .ref T ∧ H T = none ∧ H' = upd H T (.tup [.int (k + (i : Nat)), x]) ∧ ∀ xs, SqB b K H a xs → xs[i]? = some x, fun i H => ∃ xs : List V, SqB b K H a xs ∧ xs.length ≤ i⟩
end
theorem sqB_is {X : Cx} {pins : List (Addr × Obj)} {σ : L2.St} {H : Hp} {s : Shared} {a : Addr} {xs : List V} {b : Bool} (I : Inv X pins σ H s) (h : SqB b X.K H a xs) : ∃ its : List Value, Vals xs its ∧ IsB b s.heap a its.toArray ∧ xs.length ≤ sizeLine := by
  cases b with
  | false =>
    obtain ⟨its, rv, p, hz⟩ := I.list h
    exact ⟨its, rv, p.isList, hz⟩
  | true =>
    obtain ⟨its, rv, p, hz⟩ := I.tuple h
    exact ⟨its, rv, (show s.heap.IsTuple a its.toArray from p), hz⟩
theorem sqB_inj {X : Cx} {pins : List (Addr × Obj)} {σ : L2.St} {H : Hp} {s : Shared} {a : Addr} {xs ys : List V} {b : Bool} (I : Inv X pins σ H s) (h : SqB b X.K H a xs) (h' : SqB b X.K H a ys) : xs = ys := by
  cases b with
  | false => exact I.list_inj h h'
  | true => exact I.tuple_inj h h'
theorem inB_obj {b : Bool} {h : Heap} {it a : Addr} {i : Nat} (x : InB b h it a i) : ∃ (o : Obj) (vs : Array Value) (n : String), h.get? it = some o ∧ o.data = .fields vs ∧ o.cls = .type n ∧ (n = "list_iterator" ∨ n = "tuple_iterator") := by
  cases b with
  | false => obtain ⟨o, e, c, d⟩ := x; exact ⟨o, _, _, e, d, c, .inl rfl⟩
  | true => obtain ⟨o, e, c, d⟩ := x; exact ⟨o, _, _, e, d, c, .inr rfl⟩
theorem inB_at {b : Bool} {h h' : Heap} {it a : Addr} {i : Nat} (x : InB b h it a i) (k : ∀ o, h.get? it = some o → h'.get? it = some o) : InB b h' it a i := by
  cases b with
  | false => exact Heap.IsListIter.at x k
  | true => exact Heap.IsTupleIter.at x k
theorem isB_ne {b : Bool} {h : Heap} {a it : Addr} {its : Array Value} {o : Obj} {vs : Array Value} (x : IsB b h a its) (e : h.get? it = some o) (d : o.data = .fields vs) : a ≠ it := by
  intro z
  subst z
  cases b with
  | false =>
    obtain ⟨o', e', c', n, d'⟩ := x
    rw [e] at e'; cases e'; rw [d] at d'; cases d'
  | true =>
    obtain ⟨o', e', c', n, d'⟩ := x
    rw [e] at e'; cases e'; rw [d] at d'; cases d'
theorem drawsB {b : Bool} {prog : Program} {w : World} {A : Around} (hh : A.handled = none) (it a : Addr) (hne : a ≠ it) (items : Array Value) :
    Draws prog w A it [it, a] items.size (fun i v => items[i]? = some v) (fun i h => InB b h it a i ∧ IsB b h a items) := by
  cases b with
  | false => exact Draws.list hh it a hne items
  | true => exact Draws.tuple hh it a hne items
theorem turn_ies {b : Bool} {P : Program} {w : World} {K : PySem.W.Frag} {elts : List Expr} {kk : Nat} {tpos : Pos} (k : Int) (a e it : Addr) :
    Turn P w K (.Tuple elts kk tpos) (Ies b K k a) [e, it] e (fun i h => (∃ old, IsEnum h e it (k + ((i : Nat) : Int)) old) ∧ InB b h it a i ∧ e ≠ it) where
  mem := by simp
  obj := fun i h st c hc => by
    obtain ⟨⟨old, he⟩, hi, _⟩ := st
    obtain ⟨o, vs, n, ho, hd, _⟩ := inB_obj hi
    have e' : c = e ∨ c = it := by simpa using hc
    rcases e' with z | z
    · rw [z]; exact ⟨_, he, fun v q => nomatch q⟩
    · rw [z]; exact ⟨o, ho, fun v q => by rw [hd] at q; cases q⟩
  keep := fun i h h' st k => let ⟨⟨old, he⟩, hi, hne⟩ := st; ⟨⟨old, k e (by simp) _ he⟩, inB_at hi fun o q => k it (by simp) o q, hne⟩
  item := by
    intro X hP hw hK hc i pins s σ H E I hf st hg
    subst hP hw hK
    obtain ⟨⟨old, he⟩, hit, hne⟩ := st
    obtain ⟨xs, x, hq, hx⟩ := hg
    obtain ⟨its, rv, p, hz⟩ := sqB_is I hq
    obtain ⟨u, hu, ru⟩ := rv.get hx
    obtain ⟨oi, vsi, ni, hoi, hdi, _⟩ := inB_obj hit
    have hel : e < s.heap.objs.size := Heap.lt_size he
    have hil : it < s.heap.objs.size := Heap.lt_size hoi
    have hai : a ≠ it := isB_ne p hoi hdi
    have hae : a ≠ e := isB_ne p he rfl
    have hh : X.A.in1.handled = none := I.ok.hd hc
    have hlt : i < its.toArray.size := by
      have := (List.getElem?_eq_some_iff.mp hu).1
      simpa using this
    refine wpAny_pyNext_enum_itemC (drawsB (b := b) hh it a hai its.toArray) he ⟨hit, p⟩ hlt hne (by simp [hne, Ne.symm hae]) fun x' h' tk hx' ho hst' hT hsz hk => ?_
    have hx'' : x' = u := by
      have h1 : its.toArray[i]? = some x' := hx'
      have h2 : its.toArray[i]? = some u := by simpa using hu
      rw [h1] at h2
      exact Option.some.inj h2
    subst hx''
    refine ⟨_, rfl, wpAny_letOwnedTupleGo_enum (s := { s with heap := h', toks := tk + 1 }) ho fun h'' he' sb => ?_⟩
    have hT2 : h''.get? s.heap.objs.size = some { cls := .type "tuple", data := .seq #[.int (k + (i : Nat)) tk, x'] } := (sb.2 _ (Nat.ne_of_gt hel)).trans hT
    have new : ObjOk X.prog X.w (upd H s.heap.objs.size (.tup [.int (k + (i : Nat)), x])) h'' s.heap.objs.size (.tup [.int (k + (i : Nat)), x]) :=
      ⟨by show 2 ≤ sizeLine; decide, [.int (k + (i : Nat)) tk, x'], .cons ⟨_, rfl⟩ (.cons ru .nil), ⟨_, hT2, rfl, _, rfl⟩⟩
    have I1 : Inv X pins σ (upd H s.heap.objs.size (.tup [.int (k + (i : Nat)), x])) { s with heap := h'', toks := tk + 1 } :=
      I.turnedNew (ch := [e, it]) (fun b ob hb q => (sb.2 b (fun z => hb (by simp [z]))).trans (hk b ob (fun z => hb (by simp [z])) (fun z => hb (by simp [z])) q)) hf (Nat.le_refl _) new
    refine ⟨.ref s.heap.objs.size, _, I1, rfl, ⟨_, x, rfl, I.hok.fresh (Nat.le_refl _), rfl, fun ys hy => by rw [sqB_inj I hy hq]; exact hx⟩, ⟨⟨x', ?_⟩, inB_at hst'.1 fun o q => (sb.2 it (Ne.symm hne)).trans q, hne⟩, fun b hb => ?_⟩
    · have e1 : k + ((i + 1 : Nat) : Int) = k + (i : Int) + 1 := by omega
      rw [e1]; exact he'
    · have hb' : b < s.heap.objs.size := by
        have e' : b = e ∨ b = it := by simpa using hb
        rcases e' with z | z
        · rw [z]; exact hel
        · rw [z]; exact hil
      rw [upd_ne (Nat.ne_of_lt hb')]
      exact (hf b hb).1
  done := by
    intro X hP hw hK hc i pins s σ H E I hf st hg
    subst hP hw hK
    obtain ⟨⟨old, he⟩, hit, hne⟩ := st
    obtain ⟨xs, hq, hx⟩ := hg
    obtain ⟨its, rv, p, hz⟩ := sqB_is I hq
    obtain ⟨f0, f1, f2, f3, f4, f5⟩ := hf it (by simp)
    obtain ⟨oi, vsi, ni, hoi, hdi, _⟩ := inB_obj hit
    have hai : a ≠ it := isB_ne p hoi hdi
    have hh : X.A.in1.handled = none := I.ok.hd hc
    have hl := rv.length
    -- the iterator stands at i, at or behind the end
    have D : Draws X.prog X.w X.A.in1 it [it, a] i (fun _ _ => True) (fun j h => j = i ∧ InB b h it a i ∧ IsB b h a its.toArray) :=
      { live := fun j h st => let ⟨o, _, _, ho, _⟩ := inB_obj st.2.1; ⟨o, ho⟩
        frame := fun j h h' st hk => ⟨st.1, inB_at st.2.1 fun o e => hk it (by simp) o e, by
          have q := st.2.2
          cases b with
          | false => exact Heap.IsList.at q fun o e => hk a (by simp) o e
          | true => exact Heap.IsTuple.at q fun o e => hk a (by simp) o e⟩
        item := fun j s Q E hj st _ => absurd st.1 (Nat.ne_of_lt hj)
        done := fun s Q E st hE => by
          have q := st.2
          cases b with
          | false => exact wpAny_nextOf_list_end hh q.1 q.2 (by simp; omega) hE
          | true => exact wpAny_nextOf_tuple_end hh q.1 q.2 (by simp; omega) hE }
    exact wpAny_pyNext_enum_endD D he ⟨rfl, hit, p⟩ fun h' eb => ⟨rfl, I.turned (t' := s.toks) (fun b o hb q => eb b o hb q) f0 f1 f3 f4 f5⟩
  self := fun A i s Q E st h => let ⟨⟨_, he⟩, _⟩ := st; wpAny_pyIter_enum he h
/-- enumerate(e, start=k): of a list or a tuple -/
def iEnumS (K : PySem.W.Frag) (k : Int) (ta : TE) : TI := fun σ H R => ta σ H fun v H1 => ∃ a b xs, v = .ref a ∧ SqB b K H1 a xs ∧ R (Ies b K k a) H1
def enumQ (K : PySem.W.Frag) (k : Int) (R : It → Hp → Prop) : List V → Hp → Prop := fun vs H1 => match vs with
  | [v] => ∃ a b xs, v = .ref a ∧ SqB b K H1 a xs ∧ R (Ies b K k a) H1
  | _ => False
theorem beginsB (b : Bool) (a : Addr) (items : Array Value) : ∃ o, Begins (.ref a) o (fun h => IsB b h a items) ∧ ∀ h it, h.get? it = some o → InB b h it a 0 := by
  cases b with
  | false => exact ⟨_, begins_list a items, fun h it e => ⟨_, e, rfl, rfl⟩⟩
  | true => exact ⟨_, begins_tuple a items, fun h it e => ⟨_, e, rfl, rfl⟩⟩
theorem callWith_typeKw {M : Model} {A : Around} {E : Value → Shared → Prop} {s : Shared} {pos : Pos} {T : String} {first : List Value} {args : List (Bool × Sem Value)} {kws : List (Option Str × Sem Value)} {Q : Value → Shared → Prop} (hplain : (args.any (·.1) || kws.any (·.1.isNone)) = false)
    (h : wpAny M A (evalArgs (.type T) true args kws) (fun a s₁ => wpAny M A (call (.type T) (first ++ a.pos) a.kw) Q E s₁) E s) :
    wpAny M A (callWith pos (.type T) first args kws) Q E s := by
  unfold callWith
  refine wpAny_bind (wpAny_holding (wpAny_mono h (fun a s₁ h₁ => wpAny_bind (wpAny_standAt ?_)) fun _ _ x => x))
  simp only [hplain]
  refine wpAny_bind (wpAny_pure ?_)
  exact wpAny_bind (wpAny_mono h₁ (fun r s₂ hr => wpAny_bind (wpAny_holding (wpAny_point (wpAny_pure hr)))) fun _ _ x => x)
theorem pi_enumS {X : Cx} {e : Expr} {ta : TE} {k : Int} {j : Nat} {p pos tpos p2 kpos : Pos} {elts : List Expr} {kk : Nat} (hk0 : -(2 ^ 63) ≤ k) (hk1 : k < 2 ^ 63) (hg : Gl X "enumerate") (hm : X.mg "enumerate" = none) (he : PE X e ta)
    (hs : starEach [e] X.env = (false, eval e X.env) :: starEach [] X.env := by rfl) (hall : (backToKw pos (keywordEach [⟨some "start", .Constant (.int k) j p2, kpos⟩] X.env)).all (·.1.isSome) = true := by rfl)
    (hks : (backToKw pos (keywordEach [⟨some "start", .Constant (.int k) j p2, kpos⟩] X.env)).filterMap (·.1) = [Str.ofString "start"] := by rfl)
    (hpl : ((backTo pos (starEach [e] X.env)).any (·.1) || (backToKw pos (keywordEach [⟨some "start", .Constant (.int k) j p2, kpos⟩] X.env)).any (·.1.isNone)) = false := by rfl) :
    PI X (.Tuple elts kk tpos) (.Call (.Name "enumerate" p) [e] [⟨some "start", .Constant (.int k) j p2, kpos⟩] pos) (iEnumS X.K k ta) := by
  refine ⟨fun pins s σ H R I h => ?_⟩
  refine wpAny_Call_Name_kw (ld_blt I hg hm boot_enumerate ?_)
  have hpa : PA X [e] (tCons ta tNil) := pa_cons he pa_nil hs
  have hpk : PK X [⟨some "start", .Constant (.int k) j p2, kpos⟩] (tCons (tC (.int k)) tNil) := pk_cons pe_int pk_nil
  refine callWith_typeKw hpl ?_
  refine PyProof.Rows.evalArgs_kw2 hall (thn (hpa.run pos pins s σ H (enumQ X.K k R) I h) fun us s1 hu => ?_) hs
  obtain ⟨vs, H1, I1, r, hQ⟩ := hu
  obtain ⟨a, b, xs, rfl, hq, q⟩ : ∃ a b xs, vs = [V.ref a] ∧ SqB b X.K H1 a xs ∧ R (Ies b X.K k a) H1 := by
    match vs, hQ with
    | [v], ⟨a, b, xs, e, hq, q⟩ => exact ⟨a, b, xs, by rw [e], hq, q⟩
  refine thn (hpk.run pos pins s1 σ H1 (fun zs H2 => zs = [.int k] ∧ H2 = H1) I1 ⟨rfl, rfl⟩) fun ws s2 hw => ?_
  obtain ⟨zs, H2, I2, rz, rfl, rfl⟩ := hw
  rw [hks]
  obtain ⟨u, rfl, ru⟩ := vals1 r
  obtain ⟨u2, rfl, ru2⟩ := vals1 rz
  obtain ⟨t2, rfl⟩ := ru2
  cases ru
  obtain ⟨its, rv, p', hz⟩ := sqB_is I2 hq
  obtain ⟨o, B, hin⟩ := beginsB b a its.toArray
  refine enum_begins_start B p' hk0 hk1 fun h' he hit hsz hk => wpAny_pyIter_enum he ?_
  have I3 : Inv X pins σ H2 { s2 with heap := h' } := I2.kept (t' := s2.toks) hk
  refine ⟨s2.heap.objs.size + 1, [s2.heap.objs.size + 1, s2.heap.objs.size], _, _, H2, rfl, I3, turn_ies (b := b) k a (s2.heap.objs.size + 1) s2.heap.objs.size, ⟨⟨.none, ?_⟩, hin _ _ hit, Nat.succ_ne_self _⟩, fun c hc => ?_, q⟩
  · have e1 : k + ((0 : Nat) : Int) = k := by omega
    rw [e1]; exact he
  · have e' : c = s2.heap.objs.size + 1 ∨ c = s2.heap.objs.size := by simpa using hc
    have hle : s2.heap.objs.size ≤ c := by
      rcases e' with z | z
      · rw [z]; exact Nat.le_add_right _ _
      · rw [z]; exact Nat.le_refl _
    exact I2.fpOk hle (I2.hok.fresh hle)
theorem walk_ies {b : Bool} {K : PySem.W.Frag} {k : Int} {a : Addr} {xs : List V} : L2.Walk (Ies b K k a) xs.length (fun H => SqB b K H a xs) (YPair (fun i => some (.int (k + (i : Nat)))) (fun i => xs[i]?)) := by
  refine ⟨fun i _ hi q => ⟨xs, xs[i], q, by simp [hi]⟩, fun _ q => ⟨xs, q, Nat.le_refl _⟩, fun i H v H' _ q y => ?_⟩
  obtain ⟨T, x, h1, h2, h3, h4⟩ := y
  exact ⟨T, .int (k + (i : Nat)), x, h1, h2, h3, rfl, h4 xs q⟩
theorem if_true_of {c : Bool} {A B : Prop} (h : c = true) (a : A) : if c = true then A else B := by rw [if_pos h]; exact a
theorem if_false_of {c : Bool} {A B : Prop} (h : c = false) (b : B) : if c = true then A else B := by rw [h]; exact iteF b
theorem two_int {a b : Int} {x y : Nat} (h1 : a = x) (h2 : b = y) : [V.int a, V.int b] = [V.int x, V.int y] := by rw [h1, h2]
end DpR
namespace Dp
open PySem PySem.Spec PyProof.Rows L2 DpR
/-! ### data that is handed in -/
def nv (t : Nat) : V := .int (t : Int)
def rowO : Bool → List V → HO
  | false, xs => .lst xs
  | true, xs => .tup xs
/-- a pick's things, rising -/
def asc (ds : List Nat) : List V := ds.reverse.map nv
theorem asc_len (ds : List Nat) : (asc ds).length = ds.length := by unfold asc; rw [List.length_map, List.length_reverse]
theorem row_sq {K : PySem.W.Frag} {H : Hp} {a : Addr} {xs : List V} : ∀ {b : Bool}, H a = some (rowO b xs) → SqB b K H a xs
  | false, h => SqL.of h
  | true, h => SqT.of h
inductive Dt (H : Hp) : V → Prop where
  | non : Dt H .non
  | bl (b : Bool) : Dt H (.bl b)
  | int (i : Int) : Dt H (.int i)
  | str (x : Str) : Dt H (.str x)
  | row {a : Addr} (b : Bool) (xs : List V) (h : H a = some (rowO b xs)) : Dt H (.ref a)
  | dic {a : Addr} (kvs : List (Key × V)) (h : H a = some (.dK kvs)) : Dt H (.ref a)
theorem Dt.mono {H H' : Hp} {x : V} (h : Dt H x) (s : Same H H') : Dt H' x := by
  cases h with
  | non => exact .non
  | bl b => exact .bl b
  | int i => exact .int i
  | str x => exact .str x
  | row b xs h => exact .row b xs (s _ _ h)
  | dic kvs h => exact .dic kvs (s _ _ h)
theorem Dt.tyB {K : PySem.W.Frag} {H : Hp} {x : V} (h : Dt H x) : ∃ T, TyB K H x T ∧ PySem.W.kitMeta T = true ∧ (T = "int" ↔ ∃ i, x = .int i) := by
  cases h with
  | non => exact ⟨_, .non, by decide +kernel, ⟨fun z => absurd z (by decide), fun ⟨_, z⟩ => (nomatch z)⟩⟩
  | bl b => exact ⟨_, .bl b, by decide +kernel, ⟨fun z => absurd z (by decide), fun ⟨_, z⟩ => (nomatch z)⟩⟩
  | int i => exact ⟨_, .int i, by decide +kernel, ⟨fun _ => ⟨i, rfl⟩, fun _ => rfl⟩⟩
  | str x => exact ⟨_, .str x, by decide +kernel, ⟨fun z => absurd z (by decide), fun ⟨_, z⟩ => (nomatch z)⟩⟩
  | row b xs h =>
    cases b with
    | false => exact ⟨_, .lst (SqL.of h), by decide +kernel, ⟨fun z => absurd z (by decide), fun ⟨_, z⟩ => (nomatch z)⟩⟩
    | true => exact ⟨_, .tup (SqT.of h), by decide +kernel, ⟨fun z => absurd z (by decide), fun ⟨_, z⟩ => (nomatch z)⟩⟩
  | dic kvs h => exact ⟨_, .dK h, by decide +kernel, ⟨fun z => absurd z (by decide), fun ⟨_, z⟩ => (nomatch z)⟩⟩
/-- is it a row? -/
def isRow (H : Hp) (x : V) : Prop := ∃ a b xs, x = .ref a ∧ H a = some (rowO b xs)
theorem Dt.tyX {K : PySem.W.Frag} {H : Hp} {x : V} (h : Dt H x) : ∃ (T : String) (r : Bool), TyX K H x (.type T) ∧ PySem.W.kitAny K (.type T) [.type "tuple", .type "list"] = some r ∧ (r = true ↔ isRow H x) := by
  have no : ∀ {T : String}, kitB T "tuple" = some false → kitB T "list" = some false → PySem.W.kitAny K (.type T) [.type "tuple", .type "list"] = some false := fun h1 h2 =>
    kitAny_cons (kit_ty h1) (fun _ => kitAny_cons (kit_ty h2) (fun _ => kitAny_nil) (fun z => (nomatch z))) (fun z => (nomatch z))
  cases h with
  | non => exact ⟨_, false, .base .non, no (by decide +kernel) (by decide +kernel), ⟨fun z => (nomatch z), fun ⟨_, _, _, z, _⟩ => (nomatch z)⟩⟩
  | bl b => exact ⟨_, false, .base (.bl b), no (by decide +kernel) (by decide +kernel), ⟨fun z => (nomatch z), fun ⟨_, _, _, z, _⟩ => (nomatch z)⟩⟩
  | int i => exact ⟨_, false, .base (.int i), no (by decide +kernel) (by decide +kernel), ⟨fun z => (nomatch z), fun ⟨_, _, _, z, _⟩ => (nomatch z)⟩⟩
  | str x => exact ⟨_, false, .base (.str x), no (by decide +kernel) (by decide +kernel), ⟨fun z => (nomatch z), fun ⟨_, _, _, z, _⟩ => (nomatch z)⟩⟩
  | @row a b xs h =>
    cases b with
    | false =>
      refine ⟨_, true, .base (.lst h), kitAny_cons (b := false) (kit_ty (by decide +kernel)) (fun _ => kitAny_cons (b := true) (kit_ty (by decide +kernel)) (fun z => (nomatch z)) (fun _ => rfl)) (fun z => (nomatch z)), ⟨fun _ => ⟨a, false, xs, rfl, h⟩, fun _ => rfl⟩⟩
    | true =>
      refine ⟨_, true, .base (.tup h), kitAny_cons (b := true) (kit_ty (by decide +kernel)) (fun z => (nomatch z)) (fun _ => rfl), ⟨fun _ => ⟨a, true, xs, rfl, h⟩, fun _ => rfl⟩⟩
  | @dic a kvs h =>
    refine ⟨_, false, .base (.dK h), no (by decide +kernel) (by decide +kernel), ⟨fun z => (nomatch z), fun ⟨a', b, xs, e, h'⟩ => ?_⟩⟩
    cases e
    rw [h] at h'
    cases b <;> cases h'
/-! ### a whole number within bounds; a rising row -/
def wholeV (x : V) (lo hi : Int) : Bool := match x with
  | .int i => decide (lo ≤ i) && decide (i ≤ hi)
  | _ => false
def risV (n : Int) : Int → List V → Bool
  | _, [] => true
  | lo, x :: r => match x with
    | .int i => decide (lo ≤ i) && decide (i ≤ n - 1) && risV n (i + 1) r
    | _ => false
/-- where a rising row is one, it is a pick's things -/
theorem ris_desc {n : Nat} : ∀ (xs : List V) (pre : List Nat) (lo : Nat), Desc lo pre → lo ≤ n → risV n lo xs = true → ∃ ds, asc pre ++ xs = asc ds ∧ Desc n ds ∧ ds.length = pre.length + xs.length
  | [], pre, lo, hp, hl, _ => ⟨pre, by rw [List.append_nil], hp.mono hl, rfl⟩
  | x :: r, pre, lo, hp, hl, h => by
    cases x with
    | int i =>
      have h' : (decide ((lo : Int) ≤ i) && decide (i ≤ (n : Int) - 1) && risV n (i + 1) r) = true := h
      rw [Bool.and_eq_true, Bool.and_eq_true, decide_eq_true_eq, decide_eq_true_eq] at h'
      obtain ⟨⟨h1, h2⟩, h3⟩ := h'
      obtain ⟨t, rfl⟩ : ∃ t : Nat, i = (t : Int) := ⟨i.toNat, by omega⟩
      have e1 : ((t : Nat) : Int) + 1 = ((t + 1 : Nat) : Int) := by omega
      rw [e1] at h3
      obtain ⟨ds, a1, a2, a3⟩ := ris_desc r (t :: pre) (t + 1) ⟨Nat.lt_succ_self t, hp.mono (by omega)⟩ (by omega) h3
      refine ⟨ds, ?_, a2, ?_⟩
      · rw [← a1]
        unfold asc
        rw [List.reverse_cons, List.map_append, List.append_assoc]
        rfl
      · rw [a3, List.length_cons, List.length_cons]; omega
    | _ => exact absurd (show false = true from h) Bool.false_ne_true
theorem asc_cons (t : Nat) (ds : List Nat) : asc (t :: ds) = asc ds ++ [nv t] := by
  unfold asc
  rw [List.reverse_cons, List.map_append]
  rfl
theorem ris_app (n : Int) : ∀ (xs : List V) (lo i : Int), risV n lo xs = true → (∀ j, xs.getLast? = some (.int j) → j < i) → lo ≤ i → i ≤ n - 1 → risV n lo (xs ++ [.int i]) = true
  | [], lo, i, _, _, h1, h2 => by
    show (decide (lo ≤ i) && decide (i ≤ n - 1) && true) = true
    simp [h1, h2]
  | x :: r, lo, i, h, hl, h1, h2 => by
    cases x with
    | int j =>
      have h' : (decide (lo ≤ j) && decide (j ≤ n - 1) && risV n (j + 1) r) = true := h
      rw [Bool.and_eq_true] at h'
      obtain ⟨q1, q2⟩ := h'
      show (decide (lo ≤ j) && decide (j ≤ n - 1) && risV n (j + 1) (r ++ [.int i])) = true
      rw [q1, Bool.true_and]
      cases r with
      | nil =>
        have := hl j rfl
        show (decide (j + 1 ≤ i) && decide (i ≤ n - 1) && true) = true
        simp [h2]
        omega
      | cons y r =>
        refine ris_app n (y :: r) (j + 1) i q2 (fun k hk => hl k (by rw [List.getLast?_cons_cons]; exact hk)) ?_ h2
        have : ∀ (l : List V) (lo : Int), l ≠ [] → risV n lo l = true → ∃ j, l.getLast? = some (.int j) ∧ lo ≤ j := by
          intro l
          induction l with
          | nil => intro lo h; exact absurd rfl h
          | cons z l ih =>
            intro lo _ hz
            cases z with
            | int a =>
              have hz' : (decide (lo ≤ a) && decide (a ≤ n - 1) && risV n (a + 1) l) = true := hz
              rw [Bool.and_eq_true, Bool.and_eq_true, decide_eq_true_eq] at hz'
              cases l with
              | nil => exact ⟨a, rfl, hz'.1.1⟩
              | cons z' l =>
                obtain ⟨b, hb, hle⟩ := ih (a + 1) (by simp) hz'.2
                exact ⟨b, by rw [List.getLast?_cons_cons]; exact hb, by omega⟩
            | _ => exact absurd (show false = true from hz) Bool.false_ne_true
        obtain ⟨b, hb, hle⟩ := this (y :: r) (j + 1) (by simp) q2
        have := hl b (by rw [List.getLast?_cons_cons]; exact hb)
        omega
    | _ => exact absurd (show false = true from h) Bool.false_ne_true
theorem asc_last : ∀ {ds : List Nat} {n : Nat} {j : Int}, Desc n ds → (asc ds).getLast? = some (.int j) → j < n
  | [], _, _, _, h => by simp [asc] at h
  | t :: ds, n, j, hd, h => by
    rw [asc_cons, List.getLast?_concat] at h
    have e : (t : Int) = j := V.int.inj (Option.some.inj h)
    have := hd.1
    omega
theorem desc_ris : ∀ {ds : List Nat} {n : Nat}, Desc n ds → risV n 0 (asc ds) = true
  | [], _, _ => rfl
  | t :: ds, n, h => by
    rw [asc_cons]
    have h1 := h.1
    have ih : risV n 0 (asc ds) = true := desc_ris (h.2.mono (by omega))
    exact ris_app n (asc ds) 0 t ih (fun j hj => asc_last h.2 hj) (by omega) (by omega)
theorem asc_inj {a b : List Nat} (h : asc a = asc b) : a = b := by
  unfold asc at h
  have h2 := (List.map_inj_right (f := nv) (fun x y e => by
    have := V.int.inj e
    omega)).mp h
  exact List.reverse_inj.mp h2
end Dp
namespace DpR
open PySem PySem.Spec PyProof.Rows L2
/-! ### an exception that was caught, kept in a name -/
def ExD (cls : Value) (d : Option Addr) (a : Addr) : HO := .ext fun h => ∃ (oe : Obj) (vs : Array Value), h.get? a = some oe ∧ Zc cls d oe ∧ oe.data = .fields vs
theorem exD_ok {P : Program} {w : World} {H : Hp} {h : Heap} {a : Addr} {cls : Value} {d : Option Addr} {oe : Obj} {vs : Array Value} (e : h.get? a = some oe) (z : Zc cls d oe) (f : oe.data = .fields vs) : ObjOk P w H h a (ExD cls d a) :=
  ⟨⟨oe, vs, e, z, f⟩, ⟨oe, e⟩, fun _ _ ⟨o, v, q, r⟩ k => ⟨o, v, k o q, r⟩⟩
/-- an object that came while we looked away is tracked from now on -/
theorem inv_track {X : Cx} {pins : List (Addr × Obj)} {σ : L2.St} {H : Hp} {sI s : Shared} {a : Addr} {cls : Value} {d : Option Addr} {oe : Obj} {vs : Array Value} (hx : X.ex = []) (J : Inv X pins σ H sI) (I : Inv X pins σ H s)
    (hI : sI.heap.get? a = none) (na : H a = none) (nL : a ≠ X.env.locals) (e : s.heap.get? a = some oe) (z : Zc cls d oe) (f : oe.data = .fields vs) : Inv X pins σ (upd H a (ExD cls d a)) s := by
  have n0 : X.s_0.heap.get? a = none := by
    cases q : X.s_0.heap.get? a with
    | none => rfl
    | some o =>
      obtain ⟨o', q'⟩ := J.base.there a o q (by rw [hx]; simp)
      rw [hI] at q'; cases q'
  have keepN : ∀ b, b ≠ a → H b = none → upd H a (ExD cls d a) b = none := fun b hb q => by rw [upd_ne hb]; exact q
  refine ⟨I.ok, I.os, I.bare, ⟨I.base.keep, I.base.slot, fun b o q n h => ?_, I.base.there, fun b xs q => ?_, fun b o u q => ?_, fun b ps q => ?_⟩, I.loc, I.cell, ?_, fun x c q => ?_, fun p hp => ?_, ?_, I.len⟩
  · exact keepN b (fun y => by rw [y, n0] at q; cases q) (I.base.free b o q n h)
  · have h := I.base.tups b xs q
    rw [upd_ne (ne_of_none h na)]; exact h
  · have h := I.base.frzs b o u q
    rw [upd_ne (ne_of_none h na)]; exact h
  · obtain ⟨m, h⟩ := I.base.tbls b ps q
    exact ⟨m, by rw [upd_ne (ne_of_none h na)]; exact h⟩
  · exact keepN _ (Ne.symm nL) I.free
  · refine keepN c (fun y => ?_) (I.freeC x c q)
    obtain ⟨v, o, ho, hd⟩ := I.cell x c q
    rw [y, e] at ho
    cases ho
    rw [f] at hd; cases hd
  · obtain ⟨h1, h2, h3, h4, h5⟩ := I.pin p hp
    refine ⟨h1, keepN p.1 (fun y => ?_) h2, h3, h4, h5⟩
    have h6 := (J.pin p hp).1
    rw [y, hI] at h6; cases h6
  · exact I.hok.laidN (fun _ _ q => q) na (exD_ok e z f)
theorem inv_suiteT {X : Cx} {pins : List (Addr × Obj)} {σ : L2.St} {H : Hp} {s : Shared} {a : Addr} (I : Inv X pins σ H s) : Inv (X.suite a (X.pn ++ pins)) [] σ H s :=
  ⟨I.ok.suite _ _, I.os, I.bare, I.base, I.loc, I.cell, I.free, I.freeC, fun p hp => I.pin p (by rw [List.append_nil] at hp; exact hp), I.hok, I.len⟩
theorem inv_unsuiteT {X : Cx} {pins pn' : List (Addr × Obj)} {σ : L2.St} {H : Hp} {s : Shared} {a : Addr} (I : Inv (X.suite a (X.pn ++ pins)) pn' σ H s) (ok : X.Ok) : Inv X pins σ H s :=
  ⟨ok, I.os, I.bare, I.base, I.loc, I.cell, I.free, I.freeC, fun p hp => I.pin p (List.mem_append_left _ hp), I.hok, I.len⟩
/-- what the clause 'except x as n' wishes where the exception is tracked within and behind the suite; slot i is n's -/
def wAsT (K : PySem.W.Frag) (c : Value) (i : Nat) (ts : Addr → TS) (Wout : WX) (D : Ends) : WX := fun cls d σ H =>
  ∃ b, PySem.W.exmOne K cls c = some b ∧ (b = true → ∀ a, H a = none → ts a { nx := fun σ' H' => D.nx (σ'.set i none) H', rt := D.rt, bk := fun σ' H' => D.bk (σ'.set i none) H', ct := fun σ' H' => D.ct (σ'.set i none) H' } (σ.set i (some (.ref a))) (upd H a (ExD cls d a))) ∧
    (b = false → Wout cls d σ H)
section
variable {X : Cx} {x n : Str} {c : Value} {i : Nat} {body suite : List Stmt} {b₀ : Stmt} {np pos pos' : Pos} {tb : WX → TS} {ts : Addr → TS} {Wout : WX}
theorem ps_tryT (hs : X.stack = X.env :: X.outer) (hf : X.env.frame = some X.env.locals) (hex : X.ex = []) (hN : X.N.Nodup) (hi : X.N[i]? = some n) (hln : X.env.kindOf n = some .local) (hc : Names X x c) (tk : Takes X Wout)
    (hb : ∀ (W : WX) (pn : List (Addr × Obj)) (xe : Value → Shared → Prop), Takes (X.tr pn xe) W → PassesOwn (model X.prog X.w) X.A X.env xe → PSs (X.tr pn xe) body (tb W))
    (hsu : ∀ (a : Addr) (pn : List (Addr × Obj)), PSs (X.suite a pn) (b₀ :: suite) (ts a)) :
    PS X (.Try body [.ExceptHandler (some (.Name x np)) (some n) (b₀ :: suite) pos'] [] [] pos) (fun D σ H => tb (wAsT X.K c i ts Wout D) D σ H) := by
  refine ⟨fun pins s σ H D I h => ?_⟩
  have ok := I.ok
  have hfr : X.A.frames = some (X.env :: X.outer) := by rw [ok.frames, hs]
  have hloc : Loc X.env.scope n := .inl hln
  refine wpAny_Try_except ?_
  refine wpAny_mono ((hb (wAsT X.K c i ts Wout D) (X.pn ++ pins) (fun e s₁ => wpAny (model X.prog X.w) X.A (noteFrame e X.env) (fun _ s₂ => wpAny (model X.prog X.w) X.A (setFlight e none) (fun _ s₃ =>
    wpAny (model X.prog X.w) X.A (handleBy e X.env [.ExceptHandler (some (.Name x np)) (some n) (b₀ :: suite) pos']) (SP X pins D) X.xe s₃) X.xe s₂) X.xe s₁) (fun u s' xx => ?_) PassesOwn.looking).run [] s σ H D (I.toTry _) h) (fun f s1 hsp => ?_) (fun e s1 he => he)
  · obtain ⟨a, B, sI, pins', σ', H', cls, d, rfl, J', nb, up, sky, na, os, ag, b, hb1, hyes, hno⟩ := xx
    have J : Inv X pins σ' H' sI := J'.ofTry ok
    have sky' : Sky B (X.env :: X.outer) a (Zc cls d) X.env.locals s'.heap := by rw [← hs]; exact sky
    show wpAny (model X.prog X.w) X.A (noteFrame (.ref a) X.env) _ _ _
    refine Sky.land Zc.steady hfr hf sky' fun h3 fl3 up3 => ?_
    have J3 : Inv X pins σ' H' { s' with heap := h3 } := J.landed nb fl3.1 (up.trans up3) os ag
    obtain ⟨oe3, vs3, he3, hz3, hd3⟩ := fl3.there
    have nfr : a ∉ frs (X.env :: X.outer) := fun hm => by
      obtain ⟨_, o', e', hnf⟩ := fl3.2.2.1.mem hm
      rw [he3] at e'; cases e'
      exact hnf _ hd3
    have nL : a ≠ X.env.locals := fun z => nfr (List.mem_filterMap.mpr ⟨X.env, List.mem_cons_self, by rw [hf, z]⟩)
    have hI : sI.heap.get? a = none := by
      cases q : sI.heap.get? a with
      | none => rfl
      | some o =>
        have h1 := nb a o q (by rw [hs]; exact nfr)
        rw [fl3.2.1] at h1; cases h1
    have T3 := inv_track hex J J3 hI na nL he3 hz3 hd3
    have S3 : Inv (X.suite a (X.pn ++ pins)) [] σ' (upd H' a (ExD cls d a)) { s' with heap := h3 } := inv_suiteT T3
    refine wpAny_handleBy_cons (codeAny_handlers_test ?_) (by intro q; cases q)
    have LT : PySem.W.Looks (model X.prog X.w) h3 (typeOf (.ref a)) cls := fun A Q E s k q => wpAny_typeOf_ref (k _ _ he3) (by rw [hz3.1]; exact q)
    have LM := PySem.W.exm_one (M := model X.prog X.w) (J3.kIn) LT hb1
    have test : ∀ {Q : Value → Shared → Prop} {E : Value → Shared → Prop}, Q c { s' with heap := h3 } → wpAny (model X.prog X.w) (X.A.mark (some (.ref a))) (eval (.Name x np) X.env) Q E { s' with heap := h3 } := fun {Q E} q => by
      obtain ⟨hg, hdbg, hm | ⟨hm, hv, hnn⟩⟩ := hc
      · exact ld_glob (X := X.suite a (X.pn ++ pins)) S3 hg hm q hdbg
      · exact ld_blt (X := X.suite a (X.pn ++ pins)) S3 hg hm hv q hnn hdbg
    refine test (LM.here ?_)
    cases b with
    | true =>
      refine codeAny_handlers_suite_as ?_
      refine HandSPX.lands_againZ fl3 fun h4 fl4 up4 => ?_
      have J4 : Inv X pins σ' H' { s' with heap := h4 } := J.landed nb fl4.1 ((up.trans up3).trans up4) os ag
      obtain ⟨oe4, vs4, he4, hz4, hd4⟩ := fl4.there
      have S4 : Inv (X.suite a (X.pn ++ pins)) [] σ' (upd H' a (ExD cls d a)) { s' with heap := h4 } := inv_suiteT (inv_track hex J J4 hI na nL he4 hz4 hd4)
      refine store_ok (X := X.suite a (X.pn ++ pins)) (v := .ref a) S4 hN hi hloc rfl (fun s5 S5 => ?_) (.inr hln)
      refine wpAny_mono ((hsu a (X.pn ++ pins)).run [] s5 _ _ _ S5 (hyes rfl a na)) (fun f s6 hsp => ?_) (fun _ _ z => False.elim z)
      have end_ : ∀ {σ6 : L2.St} {H6 : Hp} {Q : Shared → Prop}, Inv (X.suite a (X.pn ++ pins)) [] σ6 H6 s6 → (∀ s7, Inv X pins (σ6.set i none) H6 s7 → Q s7) →
          wpAny (model X.prog X.w) X.A (do bindName X.env n .none; unbindBehindTheSuite X.env n pos') (fun _ s7 => Q s7) X.xe s6 := fun {σ6 H6 Q} S6 hq => gone_ok (inv_unsuiteT S6 ok) hN hi hln hq
      cases f with
      | next =>
        obtain ⟨σ6, H6, S6, q6⟩ := hsp
        exact end_ S6 fun s7 J7 => ⟨_, _, J7, q6⟩
      | brk =>
        obtain ⟨σ6, H6, S6, q6⟩ := hsp
        exact end_ S6 fun s7 J7 => ⟨_, _, J7, q6⟩
      | cont =>
        obtain ⟨σ6, H6, S6, q6⟩ := hsp
        exact end_ S6 fun s7 J7 => ⟨_, _, J7, q6⟩
      | ret u =>
        obtain ⟨v6, σ6, H6, S6, r6, q6⟩ := hsp
        exact end_ S6 fun s7 J7 => ⟨_, _, _, J7, r6, q6⟩
    | false =>
      show wpAny _ X.A (handleBy (.ref a) X.env []) _ _ _
      refine wpAny_handleBy_nil ?_
      obtain ⟨k1, k2, k3, oe, vs, T, oT, ts', he, hz, hd, h1, hr⟩ := id fl3
      unfold PySem.passOn
      refine wpAny_bind (wpAny_field he hd h1 ?_)
      rw [if_neg (show ¬ ((Value.ref T == Value.none) = true) from by simp)]
      have fin : wpAny (model X.prog X.w) X.A (setFlight (.ref a) X.env.frame) (fun _ s4 => wpAny (model X.prog X.w) X.A (throw (.ref a) : Sem Flow) (SP X pins D) X.xe s4) X.xe { s' with heap := h3 } := by
        rw [hf]
        refine HandSPX.setFlight_upZ fl3 fun h4 hh4 up4 => wpAny_throw (tk _ _ ?_)
        exact ⟨a, B, sI, pins, σ', H', cls, d, rfl, J, nb, (up.trans up3).trans up4, .inr (.inr (by rw [hs]; exact hh4)), na, os, ag, hno rfl⟩
      first
        | exact wpAny_bind (wpAny_pure (wpAny_bind fin))
        | exact wpAny_bind fin
  · cases f with
    | next =>
      obtain ⟨σ', H', J', q⟩ := hsp
      exact wpAny_execs_nil ⟨σ', H', J'.ofTry ok, q⟩
    | brk =>
      obtain ⟨σ', H', J', q⟩ := hsp
      exact ⟨σ', H', J'.ofTry ok, q⟩
    | cont =>
      obtain ⟨σ', H', J', q⟩ := hsp
      exact ⟨σ', H', J'.ofTry ok, q⟩
    | ret u =>
      obtain ⟨v, σ', H', J', r, q⟩ := hsp
      exact ⟨v, σ', H', J'.ofTry ok, r, q⟩
end
/-! ### a method's call whose exceptions are wished for at the caller's slots -/
def tMethE (C : Addr) (m : Str) (sp : Sp) (E : L2.St → XK) (ta : TE) (t : TA) : TE := fun σ H Q => ta σ H fun x H1 => ∃ a dx fs, x = .ref a ∧ H1 a = some (.ins C dx fs) ∧ fs.lookup m = none ∧
  t σ H1 fun vs H2 => sp (x :: vs) H2 Q (E σ)
theorem pe_methE {X : Cx} {CX : CXT} {k : Nat} {f C : Addr} {fd : FuncData} {ps : List Str} {sp : Sp} {E : L2.St → XK} {m : Str} {pos apos : Pos} {e o : Expr} {es : List Expr} {ta : TE} {t : TA} {pl : Sem Bool} (he : PE X o ta) (c : Cls X.K C) (hm : Meth X.K C m f)
    (F : FnOk X.prog X.w X.K X.mg X.base CX k f fd ps sp) (hr : Room k X.A) (hb : Binds X.K fd ps []) (hx : ∀ σ, PassesAt CX X σ (E σ)) (ha : PA X (e :: es) t)
    (hst : starEach (e :: es) X.env = (false, eval e X.env) :: starEach es X.env := by rfl) (hpl : (backTo pos (starEach es X.env)).any (·.1) = false := by rfl)
    (ht : eval (.Call (.Attribute o m apos) (e :: es) [] pos) X.env = (do
      let ov ← eval o X.env
      standAt apos.atName
      let (f, first) ← holding [ov] (getMethod ov m pl)
      callWith pos f first (backTo pos (starEach (e :: es) X.env)) (backToKw pos (keywordEach [] X.env))) := by rfl) :
    PE X (.Call (.Attribute o m apos) (e :: es) [] pos) (tMethE C m sp E ta t) := by
  refine ⟨fun pins s σ H Q I h => ?_⟩
  refine PySem.W.methodCall_KW (pl := pl) (thn (he.run pins s σ H _ I h) fun u s1 ⟨x, H1, I1, rx, a, dx, fs, ex, ea, l, q⟩ => ?_) ht
  subst ex
  obtain rfl : u = Value.ref a := rx
  refine getmeth_ok I1 ea c hm l ?_
  refine PySem.W.callWith_K (first := [.ref a]) (h₀ := X.base) I.ok.mod.kin hm.kp (thn (ha.run pos pins s1 σ H1 _ I1 q) fun us s2 ⟨vs, H2, I2, r, q2⟩ => ⟨I2.kIn, ?_⟩) hst hpl
  exact run_fnS (us := .ref a :: us) (vs := .ref a :: vs) F hr hb (hx σ) I2 (.cons rfl r) q2
/-! ### isinstance of a kept exception -/
def rIsX (K : PySem.W.Frag) : List V → Hp → VK → Prop := fun xs H Q => ∃ (a D : Addr) (c : V) (cv : Value) (b : Bool), xs = [.ref a, c] ∧ H a = some (ExD (.ref D) none a) ∧ ExcC K D ∧ ClsV c cv ∧ PySem.W.kitOne K (.ref D) cv = some b ∧ Q (.bl b) H
theorem call_isX {X : Cx} : CallR X (.builtin "isinstance") (rIsX X.K) := by
  intro pins s σ H xs us Q I r h
  obtain ⟨a, D, c, cv, b, rfl, ha, C, hcv, e, q⟩ := h
  obtain ⟨u1, u2, rfl, r1, r2⟩ := vals2 r
  cases r1
  have ec := hcv.eq r2
  subst ec
  obtain ⟨⟨oe, vs, ho, hz, hv⟩, _, _⟩ := I.hok a _ ha
  have J : PySem.W.InstAt s.heap a oe D none := by
    obtain ⟨oc, od, oda, osl⟩ := oe
    obtain ⟨h1, h2⟩ := hz
    dsimp only at h1 h2 hv
    subst h1 h2 hv
    exact ⟨ho, rfl, rfl, trivial⟩
  exact PySem.W.kia_one (PySem.W.handS_kitx_exc C.hg C.hk C.hs C.hd C.ha C.hn C.ht C.hm) I.kIn J e (fun z => (nomatch z)) fun tk => ⟨.bl b, H, I.kept (t' := tk) fun _ _ z => z, rfl, q⟩
/-! ### list.count of flat things -/
def rCountF (K : PySem.W.Frag) : V → List V → Hp → VK → Prop := fun x xs H Q => ∃ (a : Addr) (ys : List V) (y : V), x = V.ref a ∧ xs = [y] ∧ SqL K H a ys ∧ flatV y = true ∧ ys.all flatV = true ∧ Q (.int ((ys.countP fun z => eqV z y : Nat) : Int)) H
theorem countP_eqU {x : V} : ∀ {xs : List V} {us : List Value}, Vals xs us → xs.all flatV = true → us.countP (eqU x) = xs.countP fun y => eqV y x
  | _, _, .nil, _ => rfl
  | y :: xs, u :: us, .cons r t, h => by
    have h' : flatV y = true ∧ xs.all flatV = true := by simpa using h
    rw [List.countP_cons, List.countP_cons, countP_eqU t h'.2, eqU_of r h'.1]
theorem mt_countF {X : Cx} : MtR X "list.count" (rCountF X.K) := by
  intro pins s σ H x xs v us Q I rx rxs h
  obtain ⟨a, ys, y, rfl, rfl, hs, fy, fys, q⟩ := h
  cases rx
  obtain ⟨u, rfl, ru⟩ := vals1 rxs
  obtain ⟨its, rv, ⟨⟨cls, dd, data, sl⟩, n, ho, hc, hdn, hd⟩, hlen⟩ := I.list hs
  simp only at hc hd
  subst hc hd
  refine call_meets PySem.F.slot_list_count ⟨_, ho, rfl⟩ PySem.F.entry_list_count (PySem.F.args_list_count_2 _ _)
    (SeqAt.list_countAt a its.toArray n dd sl u (eqU y)) ⟨ho, fun u' hu' => mem_eqAt ru fy rv fys u' (by simpa using hu'), ?_⟩
  have ec : its.toArray.toList.countP (eqU y) = ys.countP fun z => eqV z y := countP_eqU rv fys
  refine ⟨.int ((ys.countP fun z => eqV z y : Nat) : Int), H, I.tok _, ⟨s.toks, ?_⟩, q⟩
  show Value.int ((its.toArray.toList.countP (eqU y) : Nat) : Int) s.toks = Value.int ((ys.countP fun z => eqV z y : Nat) : Int) s.toks
  rw [ec]
end DpR
namespace Dp
open PySem PySem.Spec PyProof.Rows L2 DpR
def top (i : Nat) : Stmt := PySem.Challenge.pw_doorpicks_k05_whole_one_out_one_in.main.body.getD i (.Pass ⟨0, 0, 0, 0⟩)
abbrev s_is_whole : Stmt := top 3
abbrev s_is_rising : Stmt := top 4
abbrev s_Picks_init : Stmt := inClass (top 13) 0
abbrev s_Picks_many : Stmt := inClass (top 13) 1
abbrev s_Picks_number : Stmt := inClass (top 13) 2
abbrev s_Picks_at : Stmt := inClass (top 13) 3
abbrev s_Picks_step : Stmt := inClass (top 13) 4
abbrev s_Picks_change : Stmt := inClass (top 13) 5
abbrev s_Picks_compared : Stmt := inClass (top 13) 6
abbrev s_law_mixed : Stmt := top 15
abbrev s_law_cell_at : Stmt := top 16
abbrev s_law_wide : Stmt := top 17
abbrev s_law_size : Stmt := top 18
abbrev s_law_kind : Stmt := top 19
abbrev s_law_change : Stmt := top 20
abbrev s_law : Stmt := top 21
/-! ### what the top has written of the program -/
structure ExT (K : PySem.W.Frag) (mg : Str → Option Value) (x : Str) (C : Addr) : Prop where
  g : mg x = some (.ref C)
  x : PySem.W.excIn K C [.type "ValueError", .type "Exception", .type "BaseException", .type "object"] "ValueError.__new__" = true
  kp : PySem.W.keepIn K (.ref C) = true
  b : PySem.W.subIn K (.ref C) (.type "BaseException") = some true
  t : PySem.W.typeIn K (.ref C) = some (.type "type")
structure Glb (mg : Str → Option Value) : Prop where
  type : mg "type" = none
  int : mg "int" = none
  isinstance : mg "isinstance" = none
  tuple : mg "tuple" = none
  list : mg "list" = none
  len : mg "len" = none
  enumerate : mg "enumerate" = none
  range : mg "range" = none
  reversed : mg "reversed" = none
  comb : mg "comb" = some (.builtin "math.comb")
  most : ∃ t, mg "MOST_THINGS" = some (.int 200 t)
structure PkC (K : PySem.W.Frag) (C : Addr) : Prop where
  cl : Cls K C
  nT : NoAttr K C "things"
  nS : NoAttr K C "size"
/-! ### a Picks object -/
def pkF (n m : Nat) : List (Str × V) := putF "size" (nv m) (putF "things" (nv n) [])
theorem ts_ne : ¬ (("things" : Str) = "size") := by decide +kernel
theorem pkF_things (n m : Nat) : (pkF n m).lookup ("things" : Str) = some (nv n) := by
  unfold pkF
  rw [lookup_putF, if_neg ts_ne, lookup_putF, if_pos rfl]
theorem pkF_size (n m : Nat) : (pkF n m).lookup ("size" : Str) = some (nv m) := by
  unfold pkF
  rw [lookup_putF, if_pos rfl]
theorem pkF_no (n m : Nat) {x : Str} (h1 : ¬ x = "size") (h2 : ¬ x = "things") : (pkF n m).lookup x = none := by
  unfold pkF
  rw [lookup_putF, if_neg h1, lookup_putF, if_neg h2]
  all_goals rfl
structure PkAt (C : Addr) (H : Hp) (p : Addr) (n m : Nat) : Prop where
  ob : ∃ dx, H p = some (.ins C dx (pkF n m))
  n200 : n ≤ 200
  mn : m ≤ n
theorem PkAt.mono {C : Addr} {H H' : Hp} {p : Addr} {n m : Nat} (h : PkAt C H p n m) (s : Same H H') : PkAt C H' p n m :=
  ⟨let ⟨dx, e⟩ := h.ob; ⟨dx, s _ _ e⟩, h.n200, h.mn⟩
/-- one is the pick ds of m things out of n -/
def IsPk (H : Hp) (one : V) (n m : Nat) (ds : List Nat) : Prop := ∃ a b, one = .ref a ∧ H a = some (rowO b (asc ds)) ∧ Desc n ds ∧ ds.length = m
theorem IsPk.mono {H H' : Hp} {one : V} {n m : Nat} {ds : List Nat} (h : IsPk H one n m ds) (s : Same H H') : IsPk H' one n m ds :=
  let ⟨a, b, e, q, r⟩ := h; ⟨a, b, e, s _ _ q, r⟩
theorem IsPk.inj {H : Hp} {one : V} {n m : Nat} {ds ds' : List Nat} (h : IsPk H one n m ds) (h' : IsPk H one n m ds') : ds = ds' := by
  obtain ⟨a, b, rfl, q, _⟩ := h
  obtain ⟨a', b', e, q', _⟩ := h'
  cases e
  rw [q] at q'
  cases b <;> cases b' <;> first | exact asc_inj (HO.lst.inj (Option.some.inj q')) | exact asc_inj (HO.tup.inj (Option.some.inj q')) | cases q'
theorem same_new {H : Hp} {p : Addr} {o : HO} (h : H p = none) : Same H (upd H p o) := fun b u e => by rw [upd_ne (ne_of_none e h)]; exact e
/-! ### the promises -/
def spWhole : Sp := fun vs H Q _ => ∃ (x : V) (lo hi : Int), vs = [x, .int lo, .int hi] ∧ Dt H x ∧ Q (.bl (wholeV x lo hi)) H
/-- what is_rising tells -/
def risB (H : Hp) (x : V) (n : Int) (r : Bool) : Prop := (isRow H x → ∀ a b xs, x = .ref a → H a = some (rowO b xs) → r = risV n 0 xs) ∧ (¬ isRow H x → r = false)
def DtIn (H : Hp) (x : V) : Prop := Dt H x ∧ ∀ a b xs, x = .ref a → H a = some (rowO b xs) → ∀ y ∈ xs, Dt H y
def spRising : Sp := fun vs H Q _ => ∃ (x : V) (n : Int), vs = [x, .int n] ∧ DtIn H x ∧ ∀ (r : Bool) H', Same H H' → risB H x n r → Q (.bl r) H'
def spInit (C CB : Addr) : Sp := fun vs H Q E => ∃ (p dx : Addr) (x y : V), vs = [.ref p, x, y] ∧ H p = some (.ins C dx []) ∧ Dt H x ∧ Dt H y ∧
  (∀ n m : Nat, x = nv n → y = nv m → n ≤ 200 → m ≤ n → Q .non (upd H p (.ins C dx (pkF n m)))) ∧
  ((¬ ∃ n m : Nat, x = nv n ∧ y = nv m ∧ n ≤ 200 ∧ m ≤ n) → E (.ref CB) none H)
def spMany (C : Addr) : Sp := fun vs H Q _ => ∃ (p : Addr) (n m : Nat), vs = [.ref p] ∧ PkAt C H p n m ∧ Q (nv (ch n m)) H
def spNumber (C CP : Addr) : Sp := fun vs H Q E => ∃ (p : Addr) (n m : Nat) (one : V), vs = [.ref p, one] ∧ PkAt C H p n m ∧ DtIn H one ∧
  (∀ ds H', IsPk H one n m ds → Same H H' → Q (.int (rk ds)) H') ∧ (∀ H', (¬ ∃ ds, IsPk H one n m ds) → Same H H' → E (.ref CP) none H')
def spAt (C CN : Addr) : Sp := fun vs H Q E => ∃ (p : Addr) (n m : Nat) (x : V), vs = [.ref p, x] ∧ PkAt C H p n m ∧ Dt H x ∧
  (∀ i q H', x = .int i → 0 ≤ i → i < ch n m → Same H H' → H q = none → H' q = some (.tup (asc (un n m i))) → Q (.ref q) H') ∧
  ((¬ ∃ i, x = .int i ∧ 0 ≤ i ∧ i < ch n m) → E (.ref CN) none H)
section
variable {P : Program} {w : World} {K : PySem.W.Frag} {mg : Str → Option Value} {base : Heap}
/-! ### is_whole -/
theorem scWhole : FnScope ["asked", "low", "high"] ["asked", "low", "high"] (defScope s_is_whole) := ⟨rfl, rfl, rfl, by decide +kernel, rfl, by decide +kernel, by decide +kernel⟩
theorem ok_whole {f : Addr} {fd : FuncData} (F : Fun K "is_whole" "is_whole" s_is_whole f fd) (G : Glb mg) : FnOk P w K mg base CX0 1 f fd ["asked", "low", "high"] spWhole := by
  refine F.ok scWhole (fun vs H Q E h => ?_) (fun cdv A outer s H vs Q E hr h => ?_)
  · obtain ⟨x, lo, hi, rfl, _⟩ := h
    rfl
  · obtain ⟨x, lo, hi, rfl, hx, q⟩ := h
    refine ⟨_, pss_one (ps_ret (pe_and (pe_cmpR op_eqTy (pe_callTy call_type1 (by rfl) G.type (by decide +kernel) (pa_cons (pv 0) pa_nil)) (pe_bltn (v := .ty "int") (by rfl) G.int (by decide +kernel) rfl) (nomark _))
      (pe_one (pe_chain op_le op_le (pv 1) (pv 0) (pv 2))))), ?_⟩
    obtain ⟨T, ty, hk, hT⟩ := hx.tyB (K := K)
    refine ⟨x, rfl, x, T, rfl, ty, T, "int", rfl, rfl, hk, by decide +kernel, decide (T = "int"), rfl, ?_⟩
    by_cases c : T = "int"
    · obtain ⟨i, rfl⟩ := hT.mp c
      refine if_true_of (decide_eq_true c) ?_
      refine ⟨_, rfl, _, rfl, lo, i, rfl, rfl, decide (lo ≤ i), rfl, ?_⟩
      by_cases c1 : lo ≤ i
      · refine if_true_of (decide_eq_true c1) ?_
        refine ⟨_, rfl, i, hi, rfl, rfl, ?_⟩
        have e : wholeV (.int i) lo hi = decide (i ≤ hi) := by
          show (decide (lo ≤ i) && decide (i ≤ hi)) = decide (i ≤ hi)
          rw [decide_eq_true c1, Bool.true_and]
        show Q (.bl (decide (i ≤ hi))) H
        rw [← e]
        exact q
      · refine if_false_of (decide_eq_false c1) ?_
        have e : wholeV (.int i) lo hi = false := by
          show (decide (lo ≤ i) && decide (i ≤ hi)) = false
          rw [decide_eq_false c1, Bool.false_and]
        rw [← e]
        exact q
    · refine if_false_of (decide_eq_false c) ?_
      have e : wholeV x lo hi = false := by
        cases x with
        | int i => exact absurd (hT.mpr ⟨i, rfl⟩) c
        | _ => rfl
      rw [← e]
      exact q
/-! ### is_rising -/
theorem scRising : FnScope ["row", "things", "least", "thing"] ["row", "things"] (defScope s_is_rising) := ⟨rfl, rfl, rfl, by decide +kernel, rfl, by decide +kernel, by decide +kernel⟩
structure GW (K : PySem.W.Frag) (mg : Str → Option Value) (f : Addr) (fd : FuncData) : Prop where
  F : Fun K "is_whole" "is_whole" s_is_whole f fd
  b : Binds K fd ["asked", "low", "high"] []
  g : mg "is_whole" = some (.ref f)
structure GR (K : PySem.W.Frag) (mg : Str → Option Value) (f : Addr) (fd : FuncData) : Prop where
  F : Fun K "is_rising" "is_rising" s_is_rising f fd
  b : Binds K fd ["row", "things"] []
  g : mg "is_rising" = some (.ref f)
theorem risV_drop {n : Int} : ∀ {xs : List V} {lo : Int} {i : Nat} {x : V}, xs[i]? = some x → risV n lo (xs.take i) = true → (∀ j, (xs.take i).getLast? = some (.int j) → True) → True := fun _ _ _ => trivial
/-- the least that the next thing may be, behind i of them -/
def leastAt (xs : List V) (i : Nat) : Int := match (xs.take i).getLast? with
  | some (.int j) => j + 1
  | _ => 0
theorem risV_step {n : Int} : ∀ (pre : List V) (lo : Int) (post : List V), risV n lo pre = true → risV n lo (pre ++ post) = risV n (match pre.getLast? with | some (.int j) => j + 1 | _ => lo) post
  | [], lo, post, _ => rfl
  | x :: r, lo, post, h => by
    cases x with
    | int i =>
      have h' : (decide (lo ≤ i) && decide (i ≤ n - 1) && risV n (i + 1) r) = true := h
      rw [Bool.and_eq_true] at h'
      obtain ⟨q1, q2⟩ := h'
      show (decide (lo ≤ i) && decide (i ≤ n - 1) && risV n (i + 1) (r ++ post)) = _
      rw [q1, Bool.true_and, risV_step r (i + 1) post q2]
      cases r with
      | nil => rfl
      | cons y r => rw [List.getLast?_cons_cons]; cases hy : (y :: r).getLast? with
        | none => simp at hy
        | some z =>
          cases z with
          | int j => rfl
          | _ =>
            exfalso
            have key : ∀ (l : List V) (lo : Int) (z : V), risV n lo l = true → l.getLast? = some z → ∃ j, z = .int j := by
              intro l
              induction l with
              | nil => intro lo z _ hz; simp at hz
              | cons a l ih =>
                intro lo z h1 h2
                cases a with
                | int j =>
                  have h1' : (decide (lo ≤ j) && decide (j ≤ n - 1) && risV n (j + 1) l) = true := h1
                  rw [Bool.and_eq_true] at h1'
                  cases l with
                  | nil => exact ⟨j, (Option.some.inj h2).symm⟩
                  | cons b l => exact ih (j + 1) z h1'.2 (by rw [List.getLast?_cons_cons] at h2; exact h2)
                | _ => exact absurd (show false = true from h1) Bool.false_ne_true
            obtain ⟨j, e⟩ := key _ _ _ q2 hy
            cases e
    | _ => exact absurd (show false = true from h) Bool.false_ne_true
theorem ok_rising {f fW : Addr} {fd fdW : FuncData} (F : Fun K "is_rising" "is_rising" s_is_rising f fd) (G : Glb mg) (W : GW K mg fW fdW) : FnOk P w K mg base CX0 2 f fd ["row", "things"] spRising := by
  have GWk : FnOk P w K mg base CX0 1 fW fdW ["asked", "low", "high"] spWhole := ok_whole W.F G
  refine F.ok scRising (fun vs H Q E h => ?_) (fun cdv A outer s H vs Q E hr h => ?_)
  · obtain ⟨x, n, rfl, _⟩ := h
    rfl
  · obtain ⟨x, n, rfl, hx, q⟩ := h
    refine ⟨_, pss_cons (ps_if (pt_not (pt_val (pe_callB call_isiT (by rfl) G.isinstance (by decide +kernel) (pa_cons (pv 0) (pa_cons (pe_tup (pa_cons (pe_bltn (v := .ty "tuple") (by rfl) G.tuple (by decide +kernel) rfl) (pa_cons (pe_bltn (v := .ty "list") (by rfl) G.list (by decide +kernel) rfl) pa_nil))) pa_nil))))) (pss_one (ps_ret pe_bl)) pss_nil)
      (pss_cons (ps_set (i := 2) scRising.nd rfl (Or.inl rfl) pe_int)
      (pss_cons (ps_for PassesOwn.never rfl (pi_sq (pv 0)) (pg_name (i := 3) scRising.nd rfl (Or.inl rfl))
        (pss_cons (ps_if (pt_not (pt_val (pe_call GWk hr rfl W.g W.F.kp W.b .nil pass0 (pa_cons (pv 3) (pa_cons (pv 2) (pa_cons (pe_op op_sub (pv 1) pe_int) pa_nil)))))) (pss_one (ps_ret pe_bl)) pss_nil)
        (pss_one (ps_set (i := 2) scRising.nd rfl (Or.inl rfl) (pe_op op_add (pv 3) pe_int)))))
      (pss_one (ps_ret pe_bl)))), ?_⟩
    refine ⟨x, rfl, (by show 2 ≤ sizeLine; decide), fun tp htp => ?_⟩
    have s1 : Same H (upd H tp (.tup [.ty "tuple", .ty "list"])) := same_new htp
    obtain ⟨T, r, tx, hk, hrow⟩ := (hx.1.mono s1).tyX (K := K)
    have hrow' : isRow (upd H tp (.tup [.ty "tuple", .ty "list"])) x ↔ isRow H x := by
      constructor
      · rintro ⟨a, b, xs, rfl, h⟩
        cases hx.1 with
        | row b xs h' => exact ⟨a, b, xs, rfl, h'⟩
        | dic kvs h' =>
          have := s1 _ _ h'
          rw [h] at this
          cases b <;> cases this
      · rintro ⟨a, b, xs, e, h⟩
        exact ⟨a, b, xs, e, s1 _ _ h⟩
    rw [hrow'] at hrow
    refine ⟨x, tp, _, .type T, _, r, rfl, upd_same, .cons (.ty _) (.cons (.ty _) .nil), tx, hk, r, rfl, ?_⟩
    cases hr' : r with
    | false =>
      rw [hr'] at hrow
      have nr : ¬ isRow H x := fun z => absurd (hrow.mpr z) (by simp)
      exact iteT (q false _ s1 ⟨fun z => absurd z nr, fun _ => rfl⟩)
    | true =>
      rw [hr'] at hrow
      obtain ⟨a, b, xs, rfl, ha⟩ := hrow.mp rfl
      refine iteF ?_
      have ih : ∀ y ∈ xs, Dt H y := hx.2 a b xs rfl ha
      have only : ∀ b' xs', H a = some (rowO b' xs') → xs' = xs := fun b' xs' h' => by
        rw [ha] at h'
        cases b <;> cases b' <;> first | exact (HO.lst.inj (Option.some.inj h')).symm | exact (HO.tup.inj (Option.some.inj h')).symm | cases h'
      refine ⟨_, rfl, a, b, xs, rfl, row_sq (s1 _ _ ha), for_it (walk_itb (b := b) (a := a) (xs := xs)) (fun i σ H' => ∃ v, σ = [some (.ref a), some (.int n), some (.int (leastAt xs i)), v] ∧ Same H H' ∧ risV n 0 (xs.take i) = true) ⟨none, rfl, s1, rfl⟩
        (fun i σ H' _ ⟨_, _, s2, _⟩ => row_sq (s2 _ _ ha)) ?_ ?_⟩
      · rintro i y σ H1 H1' hi ⟨v, rfl, s2, hp⟩ ⟨rfl, hy⟩
        have dy : Dt H1' y := (ih y (List.mem_of_getElem? hy)).mono s2
        have et : xs.take (i + 1) = xs.take i ++ [y] := by
          rw [List.take_succ, hy]; rfl
        have est : risV n 0 (xs.take (i + 1)) = risV n (leastAt xs i) [y] := by
          rw [et, risV_step _ _ _ hp]
          rfl
        refine ⟨_, rfl, _, rfl, _, rfl, _, _, rfl, rfl, y, _, _, rfl, dy, _, rfl, ?_⟩
        cases hw : wholeV y (leastAt xs i) (n - 1) with
        | false =>
          refine iteT ?_
          refine q false _ s2 ⟨fun _ a' b' xs' e h' => ?_, fun _ => rfl⟩
          cases e
          rw [only b' xs' h']
          have e2 : xs = xs.take i ++ (y :: xs.drop (i + 1)) := by
            have hi' : i < xs.length := hi
            have : xs[i] = y := by
              have := (List.getElem?_eq_some_iff.mp hy).2
              exact this
            rw [← this, ← List.drop_eq_getElem_cons hi', List.take_append_drop]
          rw [e2, risV_step _ _ _ hp]
          cases y with
          | int j =>
            have hw' : (decide (leastAt xs i ≤ j) && decide (j ≤ n - 1)) = false := hw
            show false = (decide (leastAt xs i ≤ j) && decide (j ≤ n - 1) && _)
            rw [hw', Bool.false_and]
          | _ => rfl
        | true =>
          refine iteF ?_
          cases y with
          | int j =>
            refine ⟨_, rfl, _, _, rfl, rfl, some (.int j), ?_, s2, ?_⟩
            · have : leastAt xs (i + 1) = j + 1 := by
                unfold leastAt
                rw [et, List.getLast?_concat]
              rw [this]
              rfl
            · rw [est]
              have hw' : (decide (leastAt xs i ≤ j) && decide (j ≤ n - 1)) = true := hw
              show (decide (leastAt xs i ≤ j) && decide (j ≤ n - 1) && true) = true
              rw [hw', Bool.true_and]
          | _ => exact absurd (show false = true from hw) Bool.false_ne_true
      · rintro σ H1 ⟨v, rfl, s2, hp⟩
        rw [List.take_length] at hp
        refine q true _ s2 ⟨fun _ a' b' xs' e h' => ?_, fun z => absurd ⟨a, b, xs, rfl, ha⟩ z⟩
        cases e
        rw [only b' xs' h', hp]
/-! ### Picks: made, many -/
theorem scInit : FnScope ["self", "things", "size"] ["self", "things", "size"] (defScope s_Picks_init) := ⟨rfl, rfl, rfl, by decide +kernel, rfl, by decide +kernel, by decide +kernel⟩
theorem whole_nat {x : V} {hi : Nat} (h : wholeV x 0 hi = true) : ∃ n : Nat, x = nv n ∧ n ≤ hi := by
  cases x with
  | int i =>
    have h' : (decide (0 ≤ i) && decide (i ≤ (hi : Int))) = true := h
    rw [Bool.and_eq_true, decide_eq_true_eq, decide_eq_true_eq] at h'
    refine ⟨i.toNat, ?_, by omega⟩
    show V.int i = V.int (i.toNat : Int)
    congr 1
    omega
  | _ => exact absurd (show false = true from h) Bool.false_ne_true
theorem whole_nv (n hi : Nat) : wholeV (nv n) 0 hi = decide (n ≤ hi) := by
  show (decide ((0 : Int) ≤ (n : Int)) && decide ((n : Int) ≤ (hi : Int))) = decide (n ≤ hi)
  rw [decide_eq_true (by omega : (0 : Int) ≤ (n : Int)), Bool.true_and]
  by_cases h : n ≤ hi
  · rw [decide_eq_true h, decide_eq_true (by omega)]
  · rw [decide_eq_false h, decide_eq_false (by omega)]
theorem nv_inj {a b : Nat} (h : nv a = nv b) : a = b := by
  have := V.int.inj h
  omega
theorem ok_init {f fW C CB : Addr} {fd fdW : FuncData} (F : Fun K "__init__" "Picks.__init__" s_Picks_init f fd) (G : Glb mg) (W : GW K mg fW fdW) (T : PkC K C) (xB : ExT K mg "NoBounds" CB) :
    FnOk P w K mg base (L2.CX P w) 2 f fd ["self", "things", "size"] (spInit C CB) := by
  have GWk : FnOk P w K mg base CX0 1 fW fdW ["asked", "low", "high"] spWhole := ok_whole W.F G
  obtain ⟨tm, hmost⟩ := G.most
  refine F.okX scInit (fun vs H Q E h => ?_) (fun cdv A outer s H vs Q E hr h => ?_)
  · obtain ⟨p, dx, x, y, rfl, _⟩ := h
    rfl
  · obtain ⟨p, dx, x, y, rfl, hp, hx, hy, kok, kno⟩ := h
    refine ⟨_, pss_cons (ps_if (pt_not (pt_val (pe_call GWk hr rfl W.g W.F.kp W.b .nil pass0 (pa_cons (pv 1) (pa_cons pe_int (pa_cons (pe_glob (v := .int 200) (by rfl) hmost ⟨_, rfl⟩) pa_nil)))))) (pss_one (ps_raise rfl (takes_of rfl rfl rfl rfl) (pmk_own PySem.F.excBase_ValueError xB.x xB.g xB.kp (raises_own xB.b xB.t) (by rfl)))) pss_nil)
      (pss_cons (ps_if (pt_not (pt_val (pe_call GWk hr rfl W.g W.F.kp W.b .nil pass0 (pa_cons (pv 2) (pa_cons pe_int (pa_cons (pv 1) pa_nil)))))) (pss_one (ps_raise rfl (takes_of rfl rfl rfl rfl) (pmk_own PySem.F.excBase_ValueError xB.x xB.g xB.kp (raises_own xB.b xB.t) (by rfl)))) pss_nil)
      (PSs.nox (pss_cons (ps_fld (pv 0) (pv 1) rfl) (pss_one (ps_fld (pv 0) (pv 2) rfl))))), ?_⟩
    refine ⟨_, rfl, x, 0, 200, rfl, hx, _, rfl, ?_⟩
    cases c : wholeV x 0 200 with
    | false =>
      refine iteT (kno ?_)
      rintro ⟨n, m, rfl, rfl, h1, h2⟩
      have e := whole_nv n 200
      rw [show ((200 : Nat) : Int) = 200 from rfl, c, decide_eq_true h1] at e
      cases e
    | true =>
      refine iteF ?_
      obtain ⟨n, rfl, hn⟩ := whole_nat (hi := 200) c
      refine ⟨_, rfl, _, rfl, y, 0, n, rfl, hy, _, rfl, ?_⟩
      cases c2 : wholeV y 0 n with
      | false =>
        refine iteT (kno ?_)
        rintro ⟨n', m, e, rfl, h1, h2⟩
        have en := nv_inj e
        subst en
        have e := whole_nv m n
        rw [c2, decide_eq_true h2] at e
        cases e
      | true =>
        refine iteF ?_
        obtain ⟨m, rfl, hm⟩ := whole_nat c2
        refine ⟨_, rfl, _, rfl, p, C, dx, [], rfl, hp, T.cl, T.nT, (by show 0 < 1000; decide), _, rfl, _, rfl, p, C, dx, _, rfl, upd_same, T.cl, T.nS, (by show 1 < 1000; decide), ?_⟩
        have k := kok n m rfl rfl hn hm
        rw [upd_upd]
        exact k
theorem scMany : FnScope ["self"] ["self"] (defScope s_Picks_many) := ⟨rfl, rfl, rfl, by decide +kernel, rfl, by decide +kernel, by decide +kernel⟩
theorem ok_many {f C : Addr} {fd : FuncData} (F : Fun K "many" "Picks.many" s_Picks_many f fd) (G : Glb mg) (T : PkC K C) : FnOk P w K mg base CX0 1 f fd ["self"] (spMany C) := by
  refine F.ok scMany (fun vs H Q E h => ?_) (fun cdv A outer s H vs Q E hr h => ?_)
  · obtain ⟨p, n, m, rfl, _⟩ := h
    rfl
  · obtain ⟨p, n, m, rfl, hp, q⟩ := h
    obtain ⟨dx, hp'⟩ := hp.ob
    refine ⟨_, pss_one (ps_ret (pe_callBfun cr_comb (by rfl) G.comb (pa_cons (pe_fld (pv 0) rfl) (pa_cons (pe_fld (pv 0) rfl) pa_nil)))), ?_⟩
    exact ⟨_, rfl, p, C, dx, _, _, rfl, hp', T.cl, T.nT, pkF_things _ _, _, rfl, p, C, dx, _, _, rfl, hp', T.cl, T.nS, pkF_size _ _, n, m, rfl, Nat.le_trans hp.n200 (by decide), q⟩
/-! ### number -/
theorem scNumber : FnScope ["self", "one", "place", "size", "thing"] ["self", "one"] (defScope s_Picks_number) := ⟨rfl, rfl, rfl, by decide +kernel, rfl, by decide +kernel, by decide +kernel⟩
theorem drop_more {ds : List Nat} {i : Nat} (h : i < ds.length) : ∃ t, ds.drop (ds.length - (i + 1)) = t :: ds.drop (ds.length - i) ∧ (asc ds)[i]? = some (nv t) := by
  have h2 : ds.length - (i + 1) < ds.length := by omega
  refine ⟨ds[ds.length - (i + 1)], ?_, ?_⟩
  · rw [List.drop_eq_getElem_cons h2]
    congr 2
    omega
  · unfold asc
    rw [List.getElem?_map, List.getElem?_reverse h]
    have e : ds.length - 1 - i = ds.length - (i + 1) := by omega
    rw [e, List.getElem?_eq_getElem h2]
    rfl
theorem ok_number {f fR fW C CP : Addr} {fd fdR fdW : FuncData} (F : Fun K "number" "Picks.number" s_Picks_number f fd) (G : Glb mg) (W : GW K mg fW fdW) (R : GR K mg fR fdR) (T : PkC K C) (xP : ExT K mg "NoPick" CP) :
    FnOk P w K mg base (L2.CX P w) 3 f fd ["self", "one"] (spNumber C CP) := by
  have GRk : FnOk P w K mg base CX0 2 fR fdR ["row", "things"] spRising := ok_rising R.F G W
  refine F.okX scNumber (fun vs H Q E h => ?_) (fun cdv A outer s H vs Q E hr h => ?_)
  · obtain ⟨p, n, m, one, rfl, _⟩ := h
    rfl
  · obtain ⟨p, n, m, one, rfl, hp, ho, kok, kno⟩ := h
    obtain ⟨dx, hp'⟩ := hp.ob
    refine ⟨_, pss_cons (ps_if (PW.pt (pw_or (pt_not (pt_val (pe_call GRk hr rfl R.g R.F.kp R.b .nil pass0 (pa_cons (pv 1) (pa_cons (pe_fld (pv 0) rfl) pa_nil))))) (pw_or1 (pt_cmpR op_ne (pe_callB call_len_seq (by rfl) G.len PySem.boot_len (pa_cons (pv 1) pa_nil)) (pe_fld (pv 0) rfl) (nomark _)))))
        (pss_one (ps_raise rfl (takes_of rfl rfl rfl rfl) (pmk_own PySem.F.excBase_ValueError xP.x xP.g xP.kp (raises_own xP.b xP.t) (by rfl)))) pss_nil)
      (PSs.nox (pss_cons (ps_set (i := 2) scNumber.nd rfl (Or.inl rfl) pe_int)
      (pss_cons (ps_for PassesOwn.never rfl (pi_enumS (by decide) (by decide) (by rfl) G.enumerate (pv 1)) (pg_tup rfl (pgs_cons (pg_name (i := 3) scNumber.nd rfl (Or.inl rfl)) (pgs_cons (pg_name (i := 4) scNumber.nd rfl (Or.inl rfl)) pgs_nil)))
        (pss_one (ps_set (i := 2) scNumber.nd rfl (Or.inl rfl) (pe_op op_sub (pe_op op_sub (pe_callBfun cr_comb (by rfl) G.comb (pa_cons (pe_op op_add (pv 4) pe_int) (pa_cons (pv 3) pa_nil))) pe_int) (pv 2)))))
      (pss_one (ps_ret (pv 2)))))), ?_⟩
    refine ⟨one, rfl, _, rfl, p, C, dx, _, _, rfl, hp', T.cl, T.nT, pkF_things _ _, one, n, rfl, ho, fun r H1 s1 hr1 => ⟨r, rfl, ?_⟩⟩
    have no : (∃ ds, IsPk H one n m ds) → r = true := by
      rintro ⟨ds, a, b, rfl, ha, hd, hl⟩
      rw [hr1.1 ⟨a, b, _, rfl, ha⟩ a b _ rfl ha]
      exact desc_ris hd
    cases hr' : r with
    | false => exact iteT (iteT (kno _ (fun z => by rw [no z] at hr'; cases hr') s1))
    | true =>
      refine iteF ?_
      obtain ⟨a, b, xs, rfl, ha⟩ : isRow H one := by
        apply Classical.byContradiction
        intro z
        rw [hr1.2 z] at hr'
        cases hr'
      have hris : risV n 0 xs = true := by rw [← hr1.1 ⟨a, b, _, rfl, ha⟩ a b xs rfl ha]; exact hr'
      obtain ⟨ds, e1, hd, hl⟩ := ris_desc xs [] 0 trivial (Nat.zero_le _) hris
      have e1' : xs = asc ds := e1
      subst e1'
      have hl' : ds.length = (asc ds).length := by rw [asc_len]
      have ha1 := s1 _ _ ha
      have sq : SqL K H1 a (asc ds) ∨ SqT K H1 a (asc ds) := by
        cases b with
        | false => exact .inl (SqL.of ha1)
        | true => exact .inr (SqT.of ha1)
      refine ⟨_, rfl, a, _, rfl, sq, _, rfl, p, C, dx, _, _, rfl, s1 _ _ hp', T.cl, T.nS, pkF_size _ _, rfl, _, rfl, ?_⟩
      have edec : decide (V.int ((asc ds).length : Int) = nv m) = decide (ds.length = m) := by
        rw [asc_len]
        by_cases c : ds.length = m
        · rw [decide_eq_true c, decide_eq_true (by rw [c]; rfl)]
        · rw [decide_eq_false c]; exact decide_eq_false fun z => c (nv_inj z)
      rw [edec]
      by_cases c : ds.length = m
      · rw [decide_eq_true c]
        refine iteF ?_
        have kk := kok ds
        -- place = 0; for ..
        refine ⟨_, rfl, a, b, asc ds, rfl, row_sq ha1, for_it (walk_ies (b := b) (k := 1) (a := a) (xs := asc ds)) (fun i σ H' => ∃ v3 v4, σ = [some (.ref p), some (.ref a), some (.int (rk (ds.drop (ds.length - i)))), v3, v4] ∧ Same H H')
          ⟨none, none, by rw [Nat.sub_zero, List.drop_length]; rfl, s1⟩ (fun i σ H' _ ⟨_, _, _, s2⟩ => row_sq (s2 _ _ ha)) ?_ ?_⟩
        · rintro i y σ H2 H2' hi ⟨v3, v4, rfl, s2⟩ ⟨tp, x1, x2, rfl, htp, rfl, e1, e2⟩
          cases e1
          have hi' : i < ds.length := by rw [← asc_len ds]; exact hi
          obtain ⟨t, hdr, hat⟩ := drop_more hi'
          have e3 : (asc ds)[i]? = some x2 := e2
          rw [hat] at e3
          have e4 := Option.some.inj e3
          subst e4
          have s3 : Same H (upd H2 tp (.tup [.int (1 + (i : Nat)), nv t])) := s2.trans (same_new htp)
          have ht : t < n := hd.mem t (by
            have : t ∈ ds.drop (ds.length - (i + 1)) := by rw [hdr]; exact List.mem_cons_self
            exact List.mem_of_mem_drop this)
          have hn := hp.n200
          have ldr : (ds.drop (ds.length - i)).length = i := by rw [List.length_drop]; omega
          refine ⟨tp, _, rfl, SqT.of upd_same, rfl, _, _, rfl, _, _, rfl, rfl, ?_⟩
          refine ⟨_, rfl, _, _, rfl, rfl, _, rfl, t + 1, i + 1, two_int (by show (t : Int) + 1 = _; omega) (by omega), by omega, _, _, rfl, rfl, _, rfl, _, _, rfl, rfl, ?_⟩
          refine ⟨some (.int (1 + (i : Nat))), some (nv t), ?_, s3⟩
          rw [hdr]
          show _ = [some (V.ref p), some (V.ref a), some (V.int ((ch (t + 1) ((ds.drop (ds.length - i)).length + 1) : Int) - 1 - rk (ds.drop (ds.length - i)))), some (V.int (1 + (i : Nat))), some (nv t)]
          rw [ldr]
          rfl
        · rintro σ H2 ⟨v3, v4, rfl, s2⟩
          rw [asc_len, Nat.sub_self, List.drop_zero]
          exact ⟨_, rfl, kk _ ⟨a, b, rfl, ha, hd, c⟩ s2⟩
      · rw [decide_eq_false c]
        refine iteT (kno _ ?_ s1)
        rintro ⟨ds', a', b', e, h1, h2, h3⟩
        cases e
        have : asc ds' = asc ds := by
          rw [ha] at h1
          cases b <;> cases b' <;> first | exact (HO.lst.inj (Option.some.inj h1)).symm | exact (HO.tup.inj (Option.some.inj h1)).symm | cases h1
        rw [asc_inj this] at h3
        exact c h3
/-! ### at -/
theorem scAt : FnScope ["self", "number", "picked", "place", "greatest", "size"] ["self", "number"] (defScope s_Picks_at) := ⟨rfl, rfl, rfl, by decide +kernel, rfl, by decide +kernel, by decide +kernel⟩
structure GM (K : PySem.W.Frag) (C : Addr) (f : Addr) (fd : FuncData) : Prop where
  F : Fun K "many" "Picks.many" s_Picks_many f fd
  b : Binds K fd ["self"] []
  m : Meth K C "many" f
def whileC : L2.St → Hp → Nat := fun σ' _ => match σ'[4]? with | some (some (V.int c)) => c.toNat | _ => 0
theorem un_zero (n : Nat) (p : Int) : un n 0 p = [] := by cases n <;> rfl
theorem dn_if (k : Nat) (p : Int) (g : Nat) (h : p < ch (g + 1) k) : dn k p (g + 1) = dn k p g := by
  show (if (ch (g + 1) k : Int) > p then dn k p g else g + 1) = dn k p g
  rw [if_pos h]
theorem dn_stop (k : Nat) (p : Int) (g : Nat) (h : ¬ p < ch g k) : dn k p g = g := by
  cases g with
  | zero => rfl
  | succ g =>
    show (if (ch (g + 1) k : Int) > p then dn k p g else g + 1) = g + 1
    rw [if_neg h]
theorem ok_at {f fW fM C CN : Addr} {fd fdW fdM : FuncData} (F : Fun K "at" "Picks.at" s_Picks_at f fd) (G : Glb mg) (W : GW K mg fW fdW) (M : GM K C fM fdM) (T : PkC K C) (xN : ExT K mg "NoNumber" CN) :
    FnOk P w K mg base (L2.CX P w) 2 f fd ["self", "number"] (spAt C CN) := by
  have GWk : FnOk P w K mg base CX0 1 fW fdW ["asked", "low", "high"] spWhole := ok_whole W.F G
  have GMk : FnOk P w K mg base CX0 1 fM fdM ["self"] (spMany C) := ok_many M.F G T
  refine F.okX scAt (fun vs H Q E h => ?_) (fun cdv A outer s H vs Q E hr h => ?_)
  · obtain ⟨p, n, m, x, rfl, _⟩ := h
    rfl
  · obtain ⟨p, n, m, x, rfl, hp, hx, kok, kno⟩ := h
    obtain ⟨dx, hp'⟩ := hp.ob
    have hn := hp.n200
    have hm := hp.mn
    refine ⟨_, pss_cons (ps_if (pt_not (pt_val (pe_call GWk hr rfl W.g W.F.kp W.b .nil pass0 (pa_cons (pv 1) (pa_cons pe_int (pa_cons (pe_op op_sub (pe_meth0 (pv 0) T.cl M.m GMk hr M.b .nil pass0) pe_int) pa_nil))))))
        (pss_one (ps_raise rfl (takes_of rfl rfl rfl rfl) (pmk_own PySem.F.excBase_ValueError xN.x xN.g xN.kp (raises_own xN.b xN.t) (by rfl)))) pss_nil)
      (PSs.nox (pss_cons (ps_set (i := 2) scAt.nd rfl (Or.inl rfl) (pe_lst pa_nil))
      (pss_cons (ps_set (i := 3) scAt.nd rfl (Or.inl rfl) (pv 1))
      (pss_cons (ps_set (i := 4) scAt.nd rfl (Or.inl rfl) (pe_fld (pv 0) rfl))
      (pss_cons (ps_for PassesOwn.never rfl (pi_range3 rfl G.range (pa_cons (pe_fld (pv 0) rfl) (pa_cons pe_int (pa_cons (pe_un un_neg pe_int) pa_nil)))) (pg_name (i := 5) scAt.nd rfl (Or.inl rfl))
        (pss_cons (ps_while PassesOwn.never (pt_cmpR op_gt (pe_callBfun cr_comb (by rfl) G.comb (pa_cons (pv 4) (pa_cons (pv 5) pa_nil))) (pv 3) (nomark _))
          (pss_one (ps_aug (i := 4) scAt.nd rfl (.inl rfl) pe_int ip_sub)))
        (pss_cons (ps_expr (pe_bm PySem.F.plainAttrs_list PySem.F.slot_list_append PySem.F.type_list_append mt_append (pv 2) (pa_cons (pv 4) pa_nil)))
        (pss_one (ps_set (i := 3) scAt.nd rfl (Or.inl rfl) (pe_op op_sub (pe_op op_sub (pe_callBfun cr_comb (by rfl) G.comb (pa_cons (pe_op op_add (pv 4) pe_int) (pa_cons (pv 5) pa_nil))) pe_int) (pv 3)))))))
      (pss_one (ps_ret (RT.pe_tupRev rfl (by rfl) G.tuple (by rfl) G.reversed (pv 2))))))))), ?_⟩
    refine ⟨_, rfl, _, rfl, p, dx, _, rfl, hp', pkF_no _ _ (by decide +kernel) (by decide +kernel), p, n, m, rfl, hp, _, _, rfl, rfl, x, 0, _, rfl, hx, _, rfl, ?_⟩
    cases c : wholeV x 0 ((ch n m : Int) - 1) with
    | false =>
      refine iteT (kno ?_)
      rintro ⟨i, rfl, h0, h1⟩
      have c' : (decide (0 ≤ i) && decide (i ≤ (ch n m : Int) - 1)) = false := c
      rw [decide_eq_true h0, decide_eq_true (by omega)] at c'
      cases c'
    | true =>
      refine iteF ?_
      obtain ⟨i, rfl, h0, h1⟩ : ∃ i, x = .int i ∧ 0 ≤ i ∧ i < ch n m := by
        cases x with
        | int i =>
          have c' : (decide (0 ≤ i) && decide (i ≤ (ch n m : Int) - 1)) = true := c
          rw [Bool.and_eq_true, decide_eq_true_eq, decide_eq_true_eq] at c'
          exact ⟨i, rfl, c'.1, by omega⟩
        | _ => exact absurd (show false = true from c) Bool.false_ne_true
      have kk := kok i
      refine ⟨Nat.zero_le _, fun l hl => ?_⟩
      have s1 : Same H (upd H l (.lst [])) := same_new hl
      refine ⟨_, rfl, _, rfl, p, C, dx, _, _, rfl, s1 _ _ hp', T.cl, T.nT, pkF_things _ _, ?_⟩
      refine ⟨_, rfl, p, C, dx, _, _, rfl, s1 _ _ hp', T.cl, T.nS, pkF_size _ _, _, rfl, m, 0, -1, m, rfl, RgC.neg (by omega) (by omega) (by decide) (by decide), ?_⟩
      refine for_rangeC (lo := m) (c := -1) (n := m) (fun j σ H' => ∃ (gs : List Nat) (g : Nat) (q : Int) (v5 : Option V), σ = [some (.ref p), some (.int i), some (.ref l), some (.int q), some (nv g), v5] ∧ gs.length = j ∧ j ≤ m ∧ g ≤ n ∧ 0 ≤ q ∧ q < ch g (m - j) ∧ un n m i = gs ++ un g (m - j) q ∧
        H' l = some (.lst (gs.map nv)) ∧ Same H H') ?_ ?_ ?_
      · exact ⟨[], n, i, none, rfl, rfl, Nat.zero_le _, Nat.le_refl _, h0, h1, rfl, upd_same, s1⟩
      · rintro j σ H1 hj ⟨gs, g, q, v5, rfl, hgs, _, hg, q0, q1, hun, hl1, s2⟩
        obtain ⟨k, hk⟩ : ∃ k, m - j = k + 1 := ⟨m - j - 1, by omega⟩
        rw [hk] at q1 hun
        have ek : (m : Int) + (j : Int) * -1 = ((k + 1 : Nat) : Int) := by omega
        rw [ek]
        -- while
        refine while_by (fun σ' H' => H' = H1 ∧ ∃ c : Nat, σ' = [some (.ref p), some (.int i), some (.ref l), some (.int q), some (nv c), some (.int ((k + 1 : Nat) : Int))] ∧ c ≤ g ∧ dn (k + 1) q c = dn (k + 1) q g) whileC ⟨rfl, g, rfl, Nat.le_refl _, rfl⟩ ?_ ?_
        · rintro σ' H' ⟨rfl, c, rfl, hc, hd⟩
          refine ⟨_, rfl, _, rfl, c, k + 1, rfl, by omega, _, rfl, _, _, rfl, rfl, _, rfl, ?_⟩
          by_cases cc : q < (ch c (k + 1) : Int)
          · refine if_true_of (decide_eq_true cc) ?_
            obtain ⟨c', rfl⟩ : ∃ c', c = c' + 1 := by
              cases c with
              | zero =>
                rw [ch_above (Nat.succ_pos k)] at cc
                omega
              | succ c' => exact ⟨c', rfl⟩
            have e1 : ((c' + 1 : Nat) : Int) - 1 = (c' : Int) := by omega
            refine ⟨_, rfl, _, _, rfl, rfl, ⟨rfl, c', ?_, by omega, ?_⟩, ?_⟩
            · show [_, _, _, _, some (V.int (((c' + 1 : Nat) : Int) - 1)), _] = _
              rw [e1]
              rfl
            · rw [← hd]
              exact (dn_if _ _ _ cc).symm
            · show (((c' + 1 : Nat) : Int) - 1).toNat < (((c' + 1 : Nat) : Int)).toNat
              omega
          · refine if_false_of (decide_eq_false cc) ?_
            rw [dn_stop _ _ _ cc] at hd
            subst hd
            have ⟨d1, d2, d3⟩ := dn_spec (k := k + 1) (Nat.succ_pos k) q0 g q1
            have e2 := ch_succ (dn (k + 1) q g) k
            refine ⟨_, rfl, .inl ⟨rfl, _, SqL.of hl1⟩, _, rfl, l, _, _, rfl, rfl, hl1, (by rw [List.length_map]; exact small1000 (by omega)), ?_⟩
            refine ⟨_, rfl, _, _, rfl, rfl, _, rfl, dn (k + 1) q g + 1, k + 1, two_int (by omega) rfl, by omega, _, _, rfl, rfl, _, rfl, _, _, rfl, rfl, ?_⟩
            refine ⟨gs ++ [dn (k + 1) q g], dn (k + 1) q g, _, _, rfl, ?_, by omega, by omega, ?_, ?_, ?_, ?_, fun b o e => ?_⟩
            · rw [List.length_append, hgs]; rfl
            · show 0 ≤ (ch (dn (k + 1) q g + 1) (k + 1) : Int) - 1 - q
              omega
            · have : m - (j + 1) = k := by omega
              rw [this]
              show (ch (dn (k + 1) q g + 1) (k + 1) : Int) - 1 - q < (ch (dn (k + 1) q g) k : Int)
              omega
            · have : m - (j + 1) = k := by omega
              rw [this, hun, List.append_assoc]
              rfl
            · rw [upd_same, List.map_append]
              rfl
            · rw [upd_ne (ne_of_none e hl)]
              exact s2 _ _ e
        · rintro σ' H' Q1 Q2 mono ⟨v1, e1, v2, e2, a, b, e3, e4, v3, e5, i1, j1, e6, e7, k1, e8, h⟩
          exact ⟨v1, e1, v2, e2, a, b, e3, e4, v3, e5, i1, j1, e6, e7, k1, e8, mono _ _ h⟩
      · rintro σ H1 ⟨gs, g, q, v5, rfl, hgs, _, hg, q0, q1, hun, hl1, s2⟩
        rw [Nat.sub_self, un_zero, List.append_nil] at hun
        refine ⟨_, rfl, l, _, rfl, SqL.of hl1, fun r hr1 => kk r _ rfl h0 h1 (s2.trans (same_new hr1)) (s2.free hr1) ?_⟩
        rw [upd_same, hun]
        unfold asc
        rw [List.map_reverse]
end
end Dp
namespace Dp
open PySem PySem.Spec PyProof.Rows L2 DpR
/-! ### what the law's own small defs tell -/
structure LG (mg : Str → Option Value) : Prop where
  len : mg "len" = none
  range : mg "range" = none
  min : mg "min" = none
  max : mg "max" = none
def Drawn (c : Int) : Prop := 0 ≤ c ∧ c < 2147483399
def spMixed : Sp := fun vs H Q _ => ∃ c k : Int, vs = [.int c, .int k] ∧ ∀ d, Drawn d → Q (.int d) H
def spCellAt (K : PySem.W.Frag) : Sp := fun vs H Q _ => ∃ (a : Addr) (ns : List Int) (k : Nat), vs = [.ref a, nv k] ∧ SqL K H a (ns.map V.int) ∧ ∀ d, Drawn d → Q (.int d) H
def spWide : Sp := fun vs H Q _ => ∃ c b : Int, vs = [.int c, .int b] ∧ 0 < b ∧ ∀ r, 0 ≤ r → r < b → Q (.int r) H
def spSize : Sp := fun vs H Q _ => ∃ c : Int, vs = [.int c] ∧ 0 ≤ c ∧ ∀ (n m : Nat) (p : Addr) H', n ≤ 200 → m ≤ n → Same H H' → H p = none → H' p = some (.tup [nv n, nv m]) → Q (.ref p) H'
structure GX (K : PySem.W.Frag) (mg : Str → Option Value) (f : Addr) (fd : FuncData) : Prop where
  F : Fun K "_law_mixed" "_law_mixed" s_law_mixed f fd
  b : Binds K fd ["_law_cell", "_law_k"] []
  g : mg "_law_mixed" = some (.ref f)
section
variable {P : Program} {w : World} {K : PySem.W.Frag} {mg : Str → Option Value} {base : Heap}
theorem scMixed : FnScope ["_law_cell", "_law_k", "_law_mix"] ["_law_cell", "_law_k"] (defScope s_law_mixed) := ⟨rfl, rfl, rfl, by decide +kernel, rfl, by decide +kernel, by decide +kernel⟩
theorem ok_mixed {f : Addr} {fd : FuncData} (F : Fun K "_law_mixed" "_law_mixed" s_law_mixed f fd) : FnOk P w K mg base CX0 1 f fd ["_law_cell", "_law_k"] spMixed := by
  refine F.ok scMixed (fun vs H Q E h => ?_) (fun cdv A outer s H vs Q E hr h => ?_)
  · obtain ⟨c, k, rfl, _⟩ := h
    rfl
  · obtain ⟨c, k, rfl, q⟩ := h
    refine ⟨_, pss_cons (ps_set (i := 2) scMixed.nd rfl (Or.inl rfl) (pe_op op_mod (pe_op op_mul (pe_op op_add (pe_op op_add (pv 0) (pe_op op_mul pe_int (pv 1))) pe_int) pe_int) pe_int))
      (pss_one (ps_ret (pe_op op_mod (pe_op op_add (pe_op op_mul (pv 2) (pv 2)) (pe_op op_mul pe_int (pv 2))) pe_int))), ?_⟩
    have h1 := Int.emod_nonneg ((c + 7919 * k + 11) * 48271) (b := 2147483647) (by decide)
    have h2 := Int.emod_lt_of_pos ((c + 7919 * k + 11) * 48271) (b := 2147483647) (by decide)
    refine ⟨_, rfl, _, rfl, _, _, rfl, rfl, .inl ⟨by decide, by decide⟩, _, _, rfl, rfl, _, _, rfl, rfl, _, _, rfl, rfl, .inr ⟨by decide, by decide⟩, _, _, rfl, rfl, (by show (0 : Int) < 2147483647; decide), ?_⟩
    refine ⟨_, rfl, _, rfl, _, _, rfl, rfl, .inl ⟨by omega, by omega⟩, _, rfl, _, _, rfl, rfl, .inl ⟨by decide, by decide⟩, _, _, rfl, rfl, _, _, rfl, rfl, (by show (0 : Int) < 2147483399; decide), ?_⟩
    exact q _ ⟨Int.emod_nonneg _ (by decide), Int.emod_lt_of_pos _ (by decide)⟩
theorem scCellAt : FnScope ["_law_script", "_law_k", "_law_cell"] ["_law_script", "_law_k"] (defScope s_law_cell_at) := ⟨rfl, rfl, rfl, by decide +kernel, rfl, by decide +kernel, by decide +kernel⟩
theorem ok_cellAt {f fX : Addr} {fd fdX : FuncData} (F : Fun K "_law_cell_at" "_law_cell_at" s_law_cell_at f fd) (L : LG mg) (X : GX K mg fX fdX) : FnOk P w K mg base CX0 2 f fd ["_law_script", "_law_k"] (spCellAt K) := by
  have GXk : FnOk P w K mg base CX0 1 fX fdX ["_law_cell", "_law_k"] spMixed := ok_mixed X.F
  refine F.ok scCellAt (fun vs H Q E h => ?_) (fun cdv A outer s H vs Q E hr h => ?_)
  · obtain ⟨a, ns, k, rfl, _⟩ := h
    rfl
  · obtain ⟨a, ns, k, rfl, hS, q⟩ := h
    refine ⟨_, pss_cons (ps_set (i := 2) scCellAt.nd rfl (Or.inl rfl) pe_int)
      (pss_cons (ps_if (pt_cmpR op_lt (pv 1) (pe_callB call_len_seq (by rfl) L.len PySem.boot_len (pa_cons (pv 0) pa_nil)) (nomark _)) (pss_one (ps_set (i := 2) scCellAt.nd rfl (Or.inl rfl) (pe_ix ix_list (pv 0) (pv 1) (fun _ _ => rfl)))) pss_nil)
      (pss_one (ps_ret (pe_call GXk hr rfl X.g X.F.kp X.b .nil pass0 (pa_cons (pv 2) (pa_cons (pe_op op_add pe_int (pv 1)) pa_nil)))))), ?_⟩
    refine ⟨_, rfl, _, rfl, a, _, rfl, .inl hS, _, _, rfl, rfl, _, rfl, ?_⟩
    by_cases c : k < (ns.map V.int).length
    · refine if_true_of (decide_eq_true (by omega)) ?_
      obtain ⟨z, hz⟩ : ∃ z, ns[k]? = some z := ⟨ns[k]'(by simpa using c), by simp⟩
      refine ⟨_, rfl, _, rfl, a, _, _, V.int z, rfl, rfl, hS, atI_nat (by rw [List.getElem?_map, hz]; rfl), ?_⟩
      exact ⟨_, rfl, _, rfl, _, _, rfl, rfl, _, _, rfl, q⟩
    · refine if_false_of (decide_eq_false (by omega)) ?_
      exact ⟨_, rfl, _, rfl, _, _, rfl, rfl, _, _, rfl, q⟩
end
section
variable {P : Program} {w : World} {K : PySem.W.Frag} {mg : Str → Option Value} {base : Heap}
theorem scWide : FnScope ["_law_cell", "_law_bound", "_law_found", "_law_k"] ["_law_cell", "_law_bound"] (defScope s_law_wide) := ⟨rfl, rfl, rfl, by decide +kernel, rfl, by decide +kernel, by decide +kernel⟩
theorem ok_wide {f fX : Addr} {fd fdX : FuncData} (F : Fun K "_law_wide" "_law_wide" s_law_wide f fd) (L : LG mg) (X : GX K mg fX fdX) : FnOk P w K mg base CX0 2 f fd ["_law_cell", "_law_bound"] spWide := by
  have GXk : FnOk P w K mg base CX0 1 fX fdX ["_law_cell", "_law_k"] spMixed := ok_mixed X.F
  refine F.ok scWide (fun vs H Q E h => ?_) (fun cdv A outer s H vs Q E hr h => ?_)
  · obtain ⟨c, b, rfl, _⟩ := h
    rfl
  · obtain ⟨c, b, rfl, hb, q⟩ := h
    refine ⟨_, pss_cons (ps_if (PW.pt (pw_or (pt_cmpR op_lt (pv 1) pe_int (nomark _)) (pw_or1 (pt_cmpR op_eq (pe_op op_mod (pv 0) pe_int) pe_int (nomark _))))) (pss_one (ps_ret pe_int)) pss_nil)
      (pss_cons (ps_if (pt_cmpR op_eq (pe_op op_mod (pv 0) pe_int) pe_int (nomark _)) (pss_one (ps_ret (pe_op op_sub (pv 1) pe_int))) pss_nil)
      (pss_cons (ps_set (i := 2) scWide.nd rfl (Or.inl rfl) pe_int)
      (pss_cons (ps_for PassesOwn.never rfl (pi_range1 rfl L.range (pa_cons pe_int pa_nil)) (pg_name (i := 3) scWide.nd rfl (Or.inl rfl))
        (pss_one (ps_set (i := 2) scWide.nd rfl (Or.inl rfl) (pe_op op_add (pe_op op_mul (pv 2) pe_int) (pe_call GXk hr rfl X.g X.F.kp X.b .nil pass0 (pa_cons (pv 0) (pa_cons (pe_op op_add pe_int (pv 3)) pa_nil)))))))
      (pss_one (ps_ret (pe_op op_mod (pv 2) (pv 1))))))), ?_⟩
    refine ⟨_, rfl, _, _, rfl, rfl, _, rfl, ?_⟩
    by_cases c1 : b < 2
    · exact if_true_of (decide_eq_true c1) (iteT (q 0 (Int.le_refl _) hb))
    · refine if_false_of (decide_eq_false c1) ?_
      refine ⟨_, rfl, _, _, rfl, rfl, (by show (0 : Int) < 9; decide), rfl, _, rfl, ?_⟩
      refine ite2 (fun _ => q 0 (Int.le_refl _) hb) (fun _ => ?_)
      refine ⟨_, rfl, _, _, rfl, rfl, (by show (0 : Int) < 9; decide), rfl, _, rfl, ?_⟩
      refine ite2 (fun _ => ?_) (fun _ => ?_)
      · exact ⟨_, rfl, _, _, rfl, rfl, q _ (by omega) (by omega)⟩
      · refine ⟨8, rfl, by decide, by decide, for_range (n := 8) (fun i σ H' => ∃ z v, σ = [some (.int c), some (.int b), some (.int z), v] ∧ H' = H) ⟨0, none, rfl, rfl⟩ ?_ ?_⟩
        · rintro i σ H1 hi ⟨z, v, rfl, rfl⟩
          refine ⟨_, rfl, _, _, rfl, rfl, .inr ⟨by decide, by decide⟩, _, rfl, _, rfl, _, _, rfl, rfl, _, _, rfl, fun d hd => ?_⟩
          exact ⟨_, _, rfl, rfl, _, _, rfl, rfl⟩
        · rintro σ H1 ⟨z, v, rfl, rfl⟩
          exact ⟨_, rfl, _, rfl, _, _, rfl, rfl, hb, q _ (Int.emod_nonneg _ (by omega)) (Int.emod_lt_of_pos _ hb)⟩
/-- an item at a drawn place -/
theorem at_drawn (xs : List V) {i : Int} (h0 : 0 ≤ i) (h1 : i < xs.length) : ∃ v, atI xs i = some v ∧ v ∈ xs := by
  obtain ⟨j, rfl⟩ : ∃ j : Nat, i = j := ⟨i.toNat, by omega⟩
  have hj : j < xs.length := by omega
  exact ⟨xs[j], atI_nat (by simp [hj]), List.getElem_mem hj⟩
theorem scSize : FnScope ["_law_cell", "_law_things", "_law_sizes"] ["_law_cell"] (defScope s_law_size) := ⟨rfl, rfl, rfl, by decide +kernel, rfl, by decide +kernel, by decide +kernel⟩
theorem ok_size {f fX : Addr} {fd fdX : FuncData} (F : Fun K "_law_size" "_law_size" s_law_size f fd) (L : LG mg) (X : GX K mg fX fdX) : FnOk P w K mg base CX0 2 f fd ["_law_cell"] spSize := by
  have GXk : FnOk P w K mg base CX0 1 fX fdX ["_law_cell", "_law_k"] spMixed := ok_mixed X.F
  refine F.ok scSize (fun vs H Q E h => ?_) (fun cdv A outer s H vs Q E hr h => ?_)
  · obtain ⟨c, rfl, _⟩ := h
    rfl
  · obtain ⟨c, rfl, hc, q⟩ := h
    refine ⟨_, pss_cons (ps_set (i := 1) scSize.nd rfl (Or.inl rfl) (pe_ix ix_list (pe_lst (pa_cons (pe_op op_mod (pe_op op_fdiv (pv 0) pe_int) pe_int) (pa_cons (pe_op op_mod (pe_op op_fdiv (pv 0) pe_int) pe_int) (pa_cons (pe_op op_mod (pe_op op_fdiv (pv 0) pe_int) pe_int) (pa_cons pe_int (pa_cons pe_int pa_nil)))))) (pe_op op_mod (pv 0) pe_int) (fun _ _ => rfl)))
      (pss_cons (ps_set (i := 2) scSize.nd rfl (Or.inl rfl) (pe_lst (pa_cons (pe_op op_mod (pe_call GXk hr rfl X.g X.F.kp X.b .nil pass0 (pa_cons (pv 0) (pa_cons pe_int pa_nil))) (pe_op op_add (pv 1) pe_int))
        (pa_cons (pe_callB (call_min2 rfl) (by rfl) L.min (by decide +kernel) (pa_cons (pv 1) (pa_cons (pe_op op_mod (pe_call GXk hr rfl X.g X.F.kp X.b .nil pass0 (pa_cons (pv 0) (pa_cons pe_int pa_nil))) pe_int) pa_nil))) pa_nil))))
      (pss_cons (ps_set (i := 2) scSize.nd rfl (Or.inl rfl) (pe_op op_cat (pv 2) (pe_lst (pa_cons (pe_op op_fdiv (pv 1) pe_int) (pa_cons (pe_op op_sub (pv 1) (pe_op op_fdiv (pv 1) pe_int)) pa_nil)))))
      (pss_one (ps_ret (pe_tup (pa_cons (pv 1) (pa_cons (pe_ix ix_list (pv 2) (pe_op op_mod (pe_op op_fdiv (pe_call GXk hr rfl X.g X.F.kp X.b .nil pass0 (pa_cons (pv 0) (pa_cons pe_int pa_nil))) pe_int) pe_int) (fun _ _ => rfl)) pa_nil))))))), ?_⟩
    -- things
    refine ⟨_, rfl, _, _, rfl, rfl, ⟨by decide, by decide⟩, _, _, rfl, rfl, (by show (0 : Int) < 9; decide), _, rfl, _, _, rfl, rfl, ⟨by decide, by decide⟩, _, _, rfl, rfl, (by show (0 : Int) < 40; decide), _, rfl, _, _, rfl, rfl, ⟨by decide, by decide⟩, _, _, rfl, rfl, (by show (0 : Int) < 201; decide), (by show 5 ≤ sizeLine; decide), fun l1 hl1 => ?_⟩
    have s1 : Same H (upd H l1 (.lst [.int (c / 5 % 9), .int (c / 5 % 40), .int (c / 5 % 201), .int 200, .int 199])) := same_new hl1
    obtain ⟨v1, hv1, mv1⟩ := at_drawn [.int (c / 5 % 9), .int (c / 5 % 40), .int (c / 5 % 201), .int 200, .int 199] (i := c % 5) (Int.emod_nonneg _ (by decide)) (Int.emod_lt_of_pos _ (by decide))
    obtain ⟨n, rfl, hn⟩ : ∃ n : Nat, v1 = nv n ∧ n ≤ 200 := by
      have a1 := Int.emod_nonneg (c / 5) (b := 9) (by decide)
      have a2 := Int.emod_lt_of_pos (c / 5) (b := 9) (by decide)
      have b1 := Int.emod_nonneg (c / 5) (b := 40) (by decide)
      have b2 := Int.emod_lt_of_pos (c / 5) (b := 40) (by decide)
      have c1 := Int.emod_nonneg (c / 5) (b := 201) (by decide)
      have c2 := Int.emod_lt_of_pos (c / 5) (b := 201) (by decide)
      have mk : ∀ z : Int, 0 ≤ z → z ≤ 200 → ∃ n : Nat, V.int z = nv n ∧ n ≤ 200 := fun z h0 h1 => ⟨z.toNat, by show V.int z = V.int (z.toNat : Int); congr 1; omega, by omega⟩
      simp only [List.mem_cons, List.not_mem_nil, or_false] at mv1
      rcases mv1 with e | e | e | e | e
      · rw [e]; exact mk _ a1 (by omega)
      · rw [e]; exact mk _ b1 (by omega)
      · rw [e]; exact mk _ c1 (by omega)
      · rw [e]; exact mk _ (by omega) (by omega)
      · rw [e]; exact mk _ (by omega) (by omega)
    refine ⟨_, rfl, _, _, rfl, rfl, (by show (0 : Int) < 5; decide), l1, _, _, _, rfl, rfl, SqL.of upd_same, hv1, ?_⟩
    -- sizes
    refine ⟨_, rfl, _, _, rfl, fun d1 hd1 => ⟨_, rfl, _, _, rfl, rfl, _, _, rfl, rfl, (by show (0 : Int) < (n : Int) + 1; omega), ?_⟩⟩
    refine ⟨_, rfl, _, rfl, _, _, rfl, fun d2 hd2 => ⟨_, _, rfl, rfl, (by show (0 : Int) < 5; decide), _, _, rfl, (by show 2 ≤ sizeLine; decide), fun l2 hl2 => ?_⟩⟩
    have s2 := s1.trans (same_new (o := .lst [.int (d1 % ((n : Int) + 1)), .int (if d2 % 5 < (n : Int) then d2 % 5 else (n : Int))]) hl2)
    refine ⟨_, rfl, _, rfl, _, _, rfl, rfl, ⟨by decide, by decide⟩, _, rfl, _, rfl, _, _, rfl, rfl, ⟨by decide, by decide⟩, _, _, rfl, rfl, (by show 2 ≤ sizeLine; decide), fun l3 hl3 => ?_⟩
    have s3 := s2.trans (same_new (o := .lst [.int ((n : Int) / 2), .int ((n : Int) - (n : Int) / 40)]) hl3)
    refine ⟨l2, l3, _, _, rfl, rfl, Eq.trans (upd_ne (ne_of_none upd_same hl3)) upd_same, upd_same, (by show 4 ≤ sizeLine; decide), fun l4 hl4 => ?_⟩
    have s4 := s3.trans (same_new (o := .lst ([.int (d1 % ((n : Int) + 1)), .int (if d2 % 5 < (n : Int) then d2 % 5 else (n : Int))] ++ [.int ((n : Int) / 2), .int ((n : Int) - (n : Int) / 40)])) hl4)
    refine ⟨_, rfl, _, rfl, _, rfl, _, _, rfl, fun d3 hd3 => ⟨_, _, rfl, rfl, ⟨by decide, by decide⟩, _, _, rfl, rfl, (by show (0 : Int) < 4; decide), ?_⟩⟩
    obtain ⟨v2, hv2, mv2⟩ := at_drawn ([.int (d1 % ((n : Int) + 1)), .int (if d2 % 5 < (n : Int) then d2 % 5 else (n : Int))] ++ [.int ((n : Int) / 2), .int ((n : Int) - (n : Int) / 40)]) (i := d3 / 3 % 4) (Int.emod_nonneg _ (by decide)) (Int.emod_lt_of_pos _ (by decide))
    obtain ⟨m, rfl, hm⟩ : ∃ m : Nat, v2 = nv m ∧ m ≤ n := by
      have a1 := Int.emod_nonneg d1 (b := (n : Int) + 1) (by omega)
      have a2 := Int.emod_lt_of_pos d1 (b := (n : Int) + 1) (by omega)
      have b1 := Int.emod_nonneg d2 (b := 5) (by decide)
      have mk : ∀ z : Int, 0 ≤ z → z ≤ n → ∃ m : Nat, V.int z = nv m ∧ m ≤ n := fun z h0 h1 => ⟨z.toNat, by show V.int z = V.int (z.toNat : Int); congr 1; omega, by omega⟩
      simp only [List.cons_append, List.nil_append, List.mem_cons, List.not_mem_nil, or_false] at mv2
      rcases mv2 with e | e | e | e
      · rw [e]; exact mk _ a1 (by omega)
      · rw [e]
        refine mk _ ?_ ?_
        · split <;> omega
        · split <;> omega
      · rw [e]; exact mk _ (by omega) (by omega)
      · rw [e]; exact mk _ (by omega) (by omega)
    refine ⟨l4, _, _, _, rfl, rfl, SqL.of upd_same, hv2, (by show 2 ≤ sizeLine; decide), fun p hp => ?_⟩
    exact q n m p _ hn hm (s4.trans (same_new hp)) (s4.free hp) upd_same
end
/-! ### compared -/
def cmpI (a b : Int) : Int := if a < b then -1 else if b < a then 1 else 0
def spCompared (C CP : Addr) : Sp := fun vs H Q E => ∃ (p : Addr) (n m : Nat) (one other : V), vs = [.ref p, one, other] ∧ PkAt C H p n m ∧ DtIn H one ∧ DtIn H other ∧
  (∀ ds ds' H', IsPk H one n m ds → IsPk H other n m ds' → Same H H' → Q (.int (cmpI (rk ds) (rk ds'))) H') ∧ (∀ H', ¬ ((∃ ds, IsPk H one n m ds) ∧ ∃ ds, IsPk H other n m ds) → Same H H' → E (.ref CP) none H')
theorem DtIn.mono {H H' : Hp} {x : V} (h : DtIn H x) (s : Same H H') : DtIn H' x := by
  refine ⟨h.1.mono s, fun a b xs e ha y hy => ?_⟩
  subst e
  cases h.1 with
  | row b' xs' h' =>
    have h2 := s _ _ h'
    rw [ha] at h2
    have hh : H a = some (rowO b xs) := by rw [h', ← Option.some.inj h2]
    exact (h.2 a b xs rfl hh y hy).mono s
  | dic kvs h' =>
    have h2 := s _ _ h'
    rw [ha] at h2
    cases b <;> cases h2
theorem pk_back {H H' : Hp} {x : V} {n m : Nat} {ds : List Nat} (h : DtIn H x) (s : Same H H') (k : IsPk H' x n m ds) : IsPk H x n m ds := by
  obtain ⟨a, b, rfl, ha, hd, hl⟩ := k
  cases h.1 with
  | row b' xs' h' =>
    have h2 := s _ _ h'
    rw [ha] at h2
    exact ⟨a, b, rfl, by rw [h', ← Option.some.inj h2], hd, hl⟩
  | dic kvs h' =>
    have h2 := s _ _ h'
    rw [ha] at h2
    cases b <;> cases h2
structure GN (K : PySem.W.Frag) (C : Addr) (f : Addr) (fd : FuncData) : Prop where
  F : Fun K "number" "Picks.number" s_Picks_number f fd
  b : Binds K fd ["self", "one"] []
  m : Meth K C "number" f
section
variable {P : Program} {w : World} {K : PySem.W.Frag} {mg : Str → Option Value} {base : Heap}
theorem scCompared : FnScope ["self", "one", "other", "first", "second"] ["self", "one", "other"] (defScope s_Picks_compared) := ⟨rfl, rfl, rfl, by decide +kernel, rfl, by decide +kernel, by decide +kernel⟩
theorem ok_compared {f fN fR fW C CP : Addr} {fd fdN fdR fdW : FuncData} (F : Fun K "compared" "Picks.compared" s_Picks_compared f fd) (G : Glb mg) (W : GW K mg fW fdW) (R : GR K mg fR fdR) (N : GN K C fN fdN) (T : PkC K C) (xP : ExT K mg "NoPick" CP) :
    FnOk P w K mg base (L2.CX P w) 4 f fd ["self", "one", "other"] (spCompared C CP) := by
  have GNk : FnOk P w K mg base (L2.CX P w) 3 fN fdN ["self", "one"] (spNumber C CP) := ok_number N.F G W R T xP
  refine F.okX scCompared (fun vs H Q E h => ?_) (fun cdv A outer s H vs Q E hr h => ?_)
  · obtain ⟨p, n, m, one, other, rfl, _⟩ := h
    rfl
  · obtain ⟨p, n, m, one, other, rfl, hp, h1, h2, kok, kno⟩ := h
    obtain ⟨dx, hp'⟩ := hp.ob
    refine ⟨_, pss_cons (ps_set (i := 3) scCompared.nd rfl (Or.inl rfl) (pe_meth (pv 0) T.cl N.m GNk hr N.b .nil (passes_call (takes_of (E := E) rfl rfl rfl rfl) (fun _ _ _ _ h => h)) (pa_cons (pv 1) pa_nil)))
      (pss_cons (ps_set (i := 4) scCompared.nd rfl (Or.inl rfl) (pe_meth (pv 0) T.cl N.m GNk hr N.b .nil (passes_call (takes_of (E := E) rfl rfl rfl rfl) (fun _ _ _ _ h => h)) (pa_cons (pv 2) pa_nil)))
      (PSs.nox (pss_cons (ps_if (pt_cmpR op_lt (pv 3) (pv 4) (nomark _)) (pss_one (ps_ret (pe_un un_neg pe_int))) pss_nil)
      (pss_cons (ps_if (pt_cmpR op_gt (pv 3) (pv 4) (nomark _)) (pss_one (ps_ret pe_int)) pss_nil)
      (pss_one (ps_ret pe_int)))))), ?_⟩
    refine ⟨_, rfl, p, dx, _, rfl, hp', pkF_no _ _ (by decide +kernel) (by decide +kernel), one, rfl, p, n, m, one, rfl, hp, h1, fun ds H1 k1 s1 => ?_, fun H1 no s1 => kno _ (fun z => no z.1) s1⟩
    refine ⟨_, rfl, p, dx, _, rfl, s1 _ _ hp', pkF_no _ _ (by decide +kernel) (by decide +kernel), other, rfl, p, n, m, other, rfl, hp.mono s1, h2.mono s1, fun ds' H2 k2 s2 => ?_, fun H2 no s2 => kno _ (fun z => no (let ⟨d, hd⟩ := z.2; ⟨d, hd.mono s1⟩)) (s1.trans s2)⟩
    have fin := kok ds ds' H2 k1 (pk_back h2 s1 k2) (s1.trans s2)
    refine ⟨_, rfl, _, rfl, _, _, rfl, rfl, _, rfl, ?_⟩
    by_cases c1 : rk ds < rk ds'
    · refine if_true_of (decide_eq_true c1) ⟨_, rfl, ?_⟩
      have e : cmpI (rk ds) (rk ds') = -1 := if_pos c1
      rw [e] at fin
      exact fin
    · refine if_false_of (decide_eq_false c1) ?_
      refine ⟨_, rfl, _, rfl, _, _, rfl, rfl, _, rfl, ?_⟩
      by_cases c2 : rk ds' < rk ds
      · refine if_true_of (decide_eq_true c2) ?_
        have e : cmpI (rk ds) (rk ds') = 1 := by unfold cmpI; rw [if_neg c1, if_pos c2]
        rw [e] at fin
        exact fin
      · refine if_false_of (decide_eq_false c2) ?_
        have e : cmpI (rk ds) (rk ds') = 0 := by unfold cmpI; rw [if_neg c1, if_neg c2]
        rw [e] at fin
        exact fin
end
/-! ### tuples of things, compared -/
theorem desc_lt : ∀ {ds : List Nat} {n i : Nat} {a b : Nat}, Desc n ds → ds[i]? = some a → ds[i + 1]? = some b → b < a
  | [], _, _, _, _, _, h, _ => by simp at h
  | g :: r, n, 0, a, b, h, h1, h2 => by
    have e : g = a := Option.some.inj h1
    subst e
    exact h.2.mem b (List.mem_of_getElem? (i := 0) h2)
  | g :: r, n, i + 1, a, b, h, h1, h2 => desc_lt (i := i) h.2 h1 h2
theorem asc_at {ds : List Nat} {n k : Nat} (h : Desc n ds) (hk : k < ds.length) : ∃ t, (asc ds)[k]? = some (nv t) ∧ t < n ∧ ds[ds.length - 1 - k]? = some t := by
  have h2 : ds.length - 1 - k < ds.length := by omega
  refine ⟨ds[ds.length - 1 - k], ?_, h.mem _ (List.getElem_mem h2), by simp [h2]⟩
  unfold asc
  rw [List.getElem?_map, List.getElem?_reverse hk, List.getElem?_eq_getElem h2]
  rfl
theorem asc_lt {ds : List Nat} {n k : Nat} (h : Desc n ds) (hk : k + 1 < ds.length) : ∃ a b, (asc ds)[k]? = some (nv a) ∧ (asc ds)[k + 1]? = some (nv b) ∧ a < b := by
  obtain ⟨a, a1, a2, a3⟩ := asc_at h (k := k) (by omega)
  obtain ⟨b, b1, b2, b3⟩ := asc_at h (k := k + 1) hk
  refine ⟨a, b, a1, b1, desc_lt (i := ds.length - 1 - (k + 1)) h b3 ?_⟩
  have e : ds.length - 1 - (k + 1) + 1 = ds.length - 1 - k := by omega
  rw [e]; exact a3
/-- a row of whole numbers, as data -/
def dtI (l : List Int) : PyData := .tuple (l.map PyData.int)
theorem dtI_lay : ∀ l : List Int, PyData.canLayAll0 (l.map PyData.int) = true ∧ PyData.depthAll (l.map PyData.int) = 0
  | [] => ⟨rfl, rfl⟩
  | x :: l => by
    have ⟨a, b⟩ := dtI_lay l
    constructor
    · show (PyData.canLay0 (.int x) && PyData.canLayAll0 (l.map PyData.int)) = true
      rw [a]; rfl
    · show max (PyData.depth (.int x)) (PyData.depthAll (l.map PyData.int)) = 0
      rw [b]; rfl
theorem dtI_shaped (l : List Int) : SeqAt.shaped (dtI l) = true := by
  have ⟨a, b⟩ := dtI_lay l
  show (PyData.canLayAll0 (l.map PyData.int) && decide (PyData.depth (.tuple (l.map PyData.int)) ≤ 64)) = true
  rw [a, Bool.true_and]
  refine decide_eq_true ?_
  show PyData.depthAll (l.map PyData.int) + 1 ≤ 64
  rw [b]; decide
theorem dtI_eqv (l : List Int) : PyData.eqv (dtI l) (dtI l) = true := SeqAt.eqv_refl _ (SeqAt.canLay_of_shaped (dtI_shaped l))
theorem dpAll_int {K : PySem.W.Frag} {H : Hp} : ∀ l : List Int, DpAll K H (l.map V.int) (l.map PyData.int)
  | [] => .nil
  | x :: l => .cons (.int x) (dpAll_int l)
def iasc (ds : List Nat) : List Int := ds.reverse.map Int.ofNat
theorem asc_iasc (ds : List Nat) : asc ds = (iasc ds).map V.int := by
  unfold asc iasc
  rw [List.map_map]
  rfl
theorem dp_tup {K : PySem.W.Frag} {H : Hp} {q : Addr} {ds : List Nat} (h : H q = some (.tup (asc ds))) : L2.Dp K H (.ref q) (dtI (iasc ds)) := by
  refine .tup (SqT.of h) ?_
  rw [asc_iasc]
  exact dpAll_int _
def ltI (l : List Int) : PyData := .list (l.map PyData.int)
theorem ltI_shaped (l : List Int) : SeqAt.shaped (ltI l) = true := by
  have ⟨a, b⟩ := dtI_lay l
  show (PyData.canLayAll0 (l.map PyData.int) && decide (PyData.depth (.list (l.map PyData.int)) ≤ 64)) = true
  rw [a, Bool.true_and]
  refine decide_eq_true ?_
  show PyData.depthAll (l.map PyData.int) + 1 ≤ 64
  rw [b]; decide
theorem ltI_eqv (l : List Int) : PyData.eqv (ltI l) (ltI l) = true := SeqAt.eqv_refl _ (SeqAt.canLay_of_shaped (ltI_shaped l))
theorem dp_lst {K : PySem.W.Frag} {H : Hp} {q : Addr} {ds : List Nat} (h : H q = some (.lst (asc ds))) : L2.Dp K H (.ref q) (ltI (iasc ds)) := by
  refine .lst (SqL.of h) ?_
  rw [asc_iasc]
  exact dpAll_int _
theorem dtIn_pk {H : Hp} {one : V} {n m : Nat} {ds : List Nat} (h : IsPk H one n m ds) : DtIn H one := by
  obtain ⟨a, b, rfl, ha, _⟩ := h
  refine ⟨.row b _ ha, fun a' b' xs e ha' y hy => ?_⟩
  cases e
  rw [ha] at ha'
  have e : asc ds = xs := by
    cases b <;> cases b' <;> first | exact HO.lst.inj (Option.some.inj ha') | exact HO.tup.inj (Option.some.inj ha') | cases ha'
  rw [← e] at hy
  unfold asc at hy
  obtain ⟨t, _, rfl⟩ := List.mem_map.mp hy
  exact .int _
theorem pk_un {H : Hp} {q : Addr} {n m : Nat} {i : Int} (h : H q = some (.tup (asc (un n m i)))) (h0 : 0 ≤ i) (h1 : i < ch n m) : IsPk H (.ref q) n m (un n m i) :=
  let ⟨a, b, _⟩ := un_spec m n i h0 h1
  ⟨q, true, rfl, h, a, b⟩
theorem pk_made {C x dx : Addr} {H : Hp} {n m : Nat} (h1 : n ≤ 200) (h2 : m ≤ n) : PkAt C (upd (upd (upd H dx (.own x)) x (.ins C dx [])) x (.ins C dx (pkF n m))) x n m := ⟨⟨dx, upd_same⟩, h1, h2⟩
theorem same_made {C x dx : Addr} {H : Hp} {n m : Nat} (hx : H x = none) (hd : H dx = none) : Same H (upd (upd (upd H dx (.own x)) x (.ins C dx [])) x (.ins C dx (pkF n m))) := fun b o e => by
  have n1 : b ≠ x := ne_of_none e hx
  have n2 : b ≠ dx := ne_of_none e hd
  rw [upd_ne n1, upd_ne n1, upd_ne n2]
  exact e
/-! ### step -/
def spStep (C CP : Addr) : Sp := fun vs H Q E => ∃ (p : Addr) (n m : Nat) (one : V) (by_ : Int), vs = [.ref p, one, .int by_] ∧ PkAt C H p n m ∧ DtIn H one ∧
  (∀ ds q H', IsPk H one n m ds → Same H H' → H q = none → H' q = some (.tup (asc (un n m ((rk ds + by_) % (ch n m : Int))))) → Q (.ref q) H') ∧ (∀ H', (¬ ∃ ds, IsPk H one n m ds) → Same H H' → E (.ref CP) none H')
structure GA (K : PySem.W.Frag) (C : Addr) (f : Addr) (fd : FuncData) : Prop where
  F : Fun K "at" "Picks.at" s_Picks_at f fd
  b : Binds K fd ["self", "number"] []
  m : Meth K C "at" f
structure GS (K : PySem.W.Frag) (C : Addr) (f : Addr) (fd : FuncData) : Prop where
  F : Fun K "step" "Picks.step" s_Picks_step f fd
  b : Binds K fd ["self", "one", "by"] []
  m : Meth K C "step" f
section
variable {P : Program} {w : World} {K : PySem.W.Frag} {mg : Str → Option Value} {base : Heap}
theorem scStep : FnScope ["self", "one", "by"] ["self", "one", "by"] (defScope s_Picks_step) := ⟨rfl, rfl, rfl, by decide +kernel, rfl, by decide +kernel, by decide +kernel⟩
theorem ok_step {f fA fN fM fR fW C CP CN : Addr} {fd fdA fdN fdM fdR fdW : FuncData} (F : Fun K "step" "Picks.step" s_Picks_step f fd) (G : Glb mg) (W : GW K mg fW fdW) (R : GR K mg fR fdR) (N : GN K C fN fdN) (A' : GA K C fA fdA) (M : GM K C fM fdM) (T : PkC K C)
    (xP : ExT K mg "NoPick" CP) (xN : ExT K mg "NoNumber" CN) : FnOk P w K mg base (L2.CX P w) 4 f fd ["self", "one", "by"] (spStep C CP) := by
  have GNk : FnOk P w K mg base (L2.CX P w) 3 fN fdN ["self", "one"] (spNumber C CP) := ok_number N.F G W R T xP
  have GAk : FnOk P w K mg base (L2.CX P w) 2 fA fdA ["self", "number"] (spAt C CN) := ok_at A'.F G W M T xN
  have GMk : FnOk P w K mg base CX0 1 fM fdM ["self"] (spMany C) := ok_many M.F G T
  refine F.okX scStep (fun vs H Q E h => ?_) (fun cdv A outer s H vs Q E hr h => ?_)
  · obtain ⟨p, n, m, one, b, rfl, _⟩ := h
    rfl
  · obtain ⟨p, n, m, one, b, rfl, hp, ho, kok, kno⟩ := h
    obtain ⟨dx, hp'⟩ := hp.ob
    have hpos : 1 ≤ ch n m := ch_pos hp.mn
    refine ⟨_, pss_one (ps_ret (pe_meth (pv 0) T.cl A'.m GAk (hr.mono (by decide)) A'.b .nil (passes_call (takes_of (E := E) rfl rfl rfl rfl) (fun _ _ _ _ h => h))
      (pa_cons (pe_op op_mod (pe_op op_add (pe_meth (pv 0) T.cl N.m GNk hr N.b .nil (passes_call (takes_of (E := E) rfl rfl rfl rfl) (fun _ _ _ _ h => h)) (pa_cons (pv 1) pa_nil)) (pv 2)) (pe_meth0 (pv 0) T.cl M.m GMk (hr.mono (by decide)) M.b .nil pass0)) pa_nil))), ?_⟩
    refine ⟨_, rfl, p, dx, _, rfl, hp', pkF_no _ _ (by decide +kernel) (by decide +kernel), _, rfl, p, dx, _, rfl, hp', pkF_no _ _ (by decide +kernel) (by decide +kernel), one, rfl, p, n, m, one, rfl, hp, ho, fun ds H1 k1 s1 => ?_, fun H1 no s1 => kno _ no s1⟩
    have hp1 := hp.mono s1
    have d0 := Int.emod_nonneg (rk ds + b) (b := (ch n m : Int)) (by omega)
    have d1 := Int.emod_lt_of_pos (rk ds + b) (b := (ch n m : Int)) (by omega)
    refine ⟨_, rfl, _, _, rfl, rfl, _, rfl, p, dx, _, rfl, s1 _ _ hp', pkF_no _ _ (by decide +kernel) (by decide +kernel), p, n, m, rfl, hp1, _, _, rfl, rfl, (by show (0 : Int) < (ch n m : Int); omega), ?_⟩
    refine ⟨p, n, m, .int ((rk ds + b) % (ch n m : Int)), rfl, hp1, .int _, fun i q H2 e _ _ s2 hq hq2 => ?_, fun no => (no ⟨_, rfl, d0, d1⟩).elim⟩
    cases e
    exact kok ds q H2 k1 (s1.trans s2) (s1.free hq) hq2
end
/-! ### change -/
theorem inV_asc (t : Nat) (es : List Nat) : inV (nv t) (asc es) = es.contains t := by
  unfold inV asc
  rw [List.any_map, List.any_reverse]
  induction es with
  | nil => rfl
  | cons a es ih =>
    rw [List.any_cons, List.contains_cons, ih]
    congr 1
    show ((a : Int) == (t : Int)) = (t == a)
    by_cases e : a = t
    · subst e; simp
    · rw [beq_eq_false_iff_ne.mpr (by omega), beq_eq_false_iff_ne.mpr (Ne.symm e)]
theorem asc_flat (ds : List Nat) : (asc ds).all flatV = true := by
  rw [List.all_eq_true]
  intro x hx
  unfold asc at hx
  obtain ⟨t, _, rfl⟩ := List.mem_map.mp hx
  rfl
/-- the things of one pick that are not in another -/
theorem asc_filter (ds es : List Nat) : (asc ds).filter (fun x => !inV x (asc es)) = asc (ds.filter fun t => !es.contains t) := by
  unfold asc
  rw [List.filter_map, ← List.filter_reverse]
  congr 1
  apply List.filter_congr
  intro t _
  show (!inV (nv t) (asc es)) = !es.contains t
  rw [inV_asc]
theorem take_filter {xs : List V} {i : Nat} {x : V} (p : V → Bool) (h : xs[i]? = some x) : (xs.take (i + 1)).filter p = (xs.take i).filter p ++ (if p x = true then [x] else []) := by
  rw [List.take_succ, h, List.filter_append]
  congr 1
  show [x].filter p = _
  by_cases c : p x = true
  · rw [if_pos c, List.filter_cons_of_pos c]; rfl
  · rw [if_neg c, List.filter_cons_of_neg c]; rfl
theorem ex_uniq {a b : List Nat} {o i o' i' : Nat} (h : Ex a b o i) (h' : Ex a b o' i') : o = o' ∧ i = i' := by
  constructor
  · apply Classical.byContradiction
    intro ne
    by_cases e : o = i'
    · subst e; exact h'.ia h.oa
    · exact h.ob ((h'.same o ne e).mp h.oa)
  · apply Classical.byContradiction
    intro ne
    by_cases e : i = o'
    · subst e; exact h'.ob h.ib
    · exact h.ia ((h'.same i e ne).mpr h.ib)
/-- the pick behind ds, round the end -/
def nxt (n m : Nat) (ds : List Nat) : List Nat := un n m ((rk ds + 1) % (ch n m : Int))
theorem nxt_ex {n m : Nat} {ds : List Nat} (hd : Desc n ds) (hl : ds.length = m) (h0 : 0 < m) (h1 : m < n) : ∃ o i, Ex ds (nxt n m ds) o i := by
  have hpos : 1 ≤ ch n m := ch_pos (Nat.le_of_lt h1)
  have d0 := Int.emod_nonneg (rk ds + 1) (b := (ch n m : Int)) (by omega)
  have d1 := Int.emod_lt_of_pos (rk ds + 1) (b := (ch n m : Int)) (by omega)
  have ⟨a, b, c⟩ := un_spec m n _ d0 d1
  exact ex_step hd a hl b h0 h1 c
def spChange (C CP CC : Addr) : Sp := fun vs H Q E => ∃ (p : Addr) (n m : Nat) (one : V), vs = [.ref p, one] ∧ PkAt C H p n m ∧ DtIn H one ∧
  (∀ ds o i q H', IsPk H one n m ds → 0 < m → m < n → Ex ds (nxt n m ds) o i → Same H H' → H q = none → H' q = some (.tup [nv o, nv i]) → Q (.ref q) H') ∧
  (∀ H', (∃ ds, IsPk H one n m ds) → (m = 0 ∨ m = n) → Same H H' → E (.ref CC) none H') ∧ (∀ H', (¬ ∃ ds, IsPk H one n m ds) → Same H H' → E (.ref CP) none H')
theorem ch_one {n m : Nat} (h : m ≤ n) : (ch n m : Int) = 1 ↔ (m = 0 ∨ m = n) := by
  constructor
  · intro e
    by_cases h0 : m = 0
    · exact .inl h0
    · by_cases h1 : m = n
      · exact .inr h1
      · have := ch_two (n := n) (k := m) (by omega) (by omega)
        omega
  · rintro (e | e)
    · rw [e, ch_zero]; rfl
    · rw [e, ch_self]; rfl
structure GC (K : PySem.W.Frag) (C : Addr) (f : Addr) (fd : FuncData) : Prop where
  F : Fun K "change" "Picks.change" s_Picks_change f fd
  b : Binds K fd ["self", "pick"] []
  m : Meth K C "change" f
section
variable {P : Program} {w : World} {K : PySem.W.Frag} {mg : Str → Option Value} {base : Heap}
theorem scChange : FnScope ["self", "pick", "following", "gone", "come", "thing"] ["self", "pick"] (defScope s_Picks_change) := ⟨rfl, rfl, rfl, by decide +kernel, rfl, by decide +kernel, by decide +kernel⟩
theorem ok_change {f fS fA fN fM fR fW C CP CN CC : Addr} {fd fdS fdA fdN fdM fdR fdW : FuncData} (F : Fun K "change" "Picks.change" s_Picks_change f fd) (G : Glb mg) (W : GW K mg fW fdW) (R : GR K mg fR fdR) (N : GN K C fN fdN) (A' : GA K C fA fdA) (M : GM K C fM fdM) (S' : GS K C fS fdS) (T : PkC K C)
    (xP : ExT K mg "NoPick" CP) (xN : ExT K mg "NoNumber" CN) (xC : ExT K mg "NoChange" CC) : FnOk P w K mg base (L2.CX P w) 5 f fd ["self", "pick"] (spChange C CP CC) := by
  have GSk : FnOk P w K mg base (L2.CX P w) 4 fS fdS ["self", "one", "by"] (spStep C CP) := ok_step S'.F G W R N A' M T xP xN
  have GMk : FnOk P w K mg base CX0 1 fM fdM ["self"] (spMany C) := ok_many M.F G T
  refine F.okX scChange (fun vs H Q E h => ?_) (fun cdv A outer s H vs Q E hr h => ?_)
  · obtain ⟨p, n, m, one, rfl, _⟩ := h
    rfl
  · obtain ⟨p, n, m, one, rfl, hp, ho, kok, kone, kno⟩ := h
    obtain ⟨dx, hp'⟩ := hp.ob
    have hm := hp.mn
    have hn := hp.n200
    refine ⟨_, pss_cons (ps_set (i := 2) scChange.nd rfl (Or.inr rfl) (pe_meth (pv 0) T.cl S'.m GSk hr S'.b .nil (passes_call (takes_of (E := E) rfl rfl rfl rfl) (fun _ _ _ _ h => h)) (pa_cons (pv 1) (pa_cons pe_int pa_nil))))
      (pss_cons (ps_if (pt_cmpR op_eq (pe_meth0 (pv 0) T.cl M.m GMk (hr.mono (by decide)) M.b .nil pass0) pe_int (nomark _)) (pss_one (ps_raise rfl (takes_of rfl rfl rfl rfl) (pmk_own PySem.F.excBase_ValueError xC.x xC.g xC.kp (raises_own xC.b xC.t) (by rfl)))) pss_nil)
      (PSs.nox (pss_cons (ps_setLc (i := 3) (own := [("thing", 5)]) (g := gName 5) rfl scChange.nd rfl rfl (sw_true rfl rfl rfl (by decide +kernel)) (pi_sq (pv 1)) (blkOk_by (N := ["self", "pick", "following", "gone", "come", "thing"]) (sc := defScope s_Picks_change) (by decide +kernel)) (fun _ _ _ _ _ => pg_name (i := 5) scChange.nd rfl (Or.inl rfl))
          (fun _ _ _ _ _ => pts_one (pt_cmpR (r := rIn K true) op_notIn_seq (pv 5) (pv 2) (by rfl))) (fun _ _ _ _ _ => pv 5))
      (pss_cons (ps_setLc (i := 4) (own := [("thing", 5)]) (g := gName 5) rfl scChange.nd rfl rfl (sw_true rfl rfl rfl (by decide +kernel)) (pi_tup (pv 2)) (blkOk_by (N := ["self", "pick", "following", "gone", "come", "thing"]) (sc := defScope s_Picks_change) (by decide +kernel)) (fun _ _ _ _ _ => pg_name (i := 5) scChange.nd rfl (Or.inl rfl))
          (fun _ _ _ _ _ => pts_one (pt_cmpR (r := rIn K true) op_notIn_seq (pv 5) (pv 1) (by rfl))) (fun _ _ _ _ _ => pv 5))
      (pss_one (ps_ret (pe_tup (pa_cons (pe_ix ix_list (pv 3) pe_int (fun _ _ => rfl)) (pa_cons (pe_ix ix_list (pv 4) pe_int (fun _ _ => rfl)) pa_nil))))))))), ?_⟩
    refine ⟨_, rfl, p, dx, _, rfl, hp', pkF_no _ _ (by decide +kernel) (by decide +kernel), one, rfl, p, n, m, one, 1, rfl, hp, ho, fun ds fq H1 k1 s1 hfn hfq => ?_, fun H1 no s1 => kno _ no s1⟩
    have hp1 := hp.mono s1
    refine ⟨_, rfl, p, dx, _, rfl, s1 _ _ hp', pkF_no _ _ (by decide +kernel) (by decide +kernel), p, n, m, rfl, hp1, rfl, _, rfl, ?_⟩
    by_cases c : m = 0 ∨ m = n
    · refine if_true_of (decide_eq_true (congrArg V.int ((ch_one hm).mpr c))) ?_
      exact kone _ ⟨ds, k1⟩ c s1
    · refine if_false_of (decide_eq_false (fun z => c ((ch_one hm).mp (V.int.inj z)))) ?_
      obtain ⟨a, b, rfl, ha, hd, hl⟩ := id k1
      have h0 : 0 < m := by omega
      have hlt : m < n := by omega
      obtain ⟨o, i, hex⟩ := nxt_ex hd hl h0 hlt
      have hfq : H1 fq = some (.tup (asc (nxt n m ds))) := hfq
      obtain ⟨es, ees⟩ : ∃ es, es = nxt n m ds := ⟨_, rfl⟩
      rw [← ees] at hfq hex
      have des : ∃ k, Desc k es := by
        rw [ees]
        have hpos : 1 ≤ ch n m := ch_pos hm
        exact ⟨n, (un_spec m n _ (Int.emod_nonneg _ (by omega)) (Int.emod_lt_of_pos _ (by omega))).1⟩
      have ha1 := s1 _ _ ha
      have lds : (asc ds).length ≤ 200 := by rw [asc_len]; omega
      have les : (asc es).length ≤ 200 := by
        rw [asc_len, ees]
        have hpos : 1 ≤ ch n m := ch_pos hm
        unfold nxt
        rw [(un_spec m n _ (Int.emod_nonneg _ (by omega)) (Int.emod_lt_of_pos _ (by omega))).2.1]
        omega
      have gone1 : (asc ds).filter (fun x => !inV x (asc es)) = [nv o] := by rw [asc_filter, hex.outs hd.nodup]; rfl
      have come1 : (asc es).filter (fun x => !inV x (asc ds)) = [nv i] := by
        obtain ⟨k, hk⟩ := des
        rw [asc_filter, hex.symm.outs hk.nodup]; rfl
      have sz : ∀ (xs : List V) (j : Nat) (p : V → Bool), xs.length ≤ 200 → ((xs.take j).filter p).length < sizeLine := fun xs j p h => by
        refine small1000 ?_
        have h1 := List.length_filter_le p (xs.take j)
        rw [List.length_take] at h1
        omega
      -- gone
      refine ⟨_, rfl, a, b, asc ds, rfl, row_sq ha1, fun D hD => lc_it (walk_itb (b := b) (a := a) (xs := asc ds)) (fun j H2 => H2 D = some (.lst (((asc ds).take j).filter fun x => !inV x (asc es))) ∧ Same H1 H2) ⟨upd_same, same_new hD⟩ (fun j H2 _ ⟨_, s2⟩ => row_sq (s2 _ _ ha1)) ?_ ?_⟩
      · rintro j x H2 H2' hj ⟨hD2, s2⟩ ⟨rfl, hx⟩
        refine ⟨rfl, _, rfl, _, rfl, fq, asc es, rfl, .inr (SqT.of (s2 _ _ hfq)), List.all_eq_true.mp (asc_flat ds) x (List.mem_of_getElem? hx), asc_flat es, _, rfl, ?_⟩
        have step := take_filter (fun x => !inV x (asc es)) hx
        cases hc : (!inV x (asc es)) with
        | true =>
          refine ⟨_, rfl, _, hD2, sz _ _ _ lds, ?_, fun b o e => ?_⟩
          · rw [upd_same, step, if_pos hc]
          · rw [upd_ne (ne_of_none e hD)]
            exact s2 _ _ e
        | false =>
          refine ⟨?_, s2⟩
          rw [step, if_neg (by rw [hc]; exact Bool.false_ne_true), List.append_nil]
          exact hD2
      · rintro H2 ⟨hD2, s2⟩
        rw [List.take_length, gone1] at hD2
        -- come
        refine ⟨_, rfl, fq, rfl, ⟨_, SqT.of (s2 _ _ hfq)⟩, fun D2 hD2n => lc_it (walk_tup (a := fq) (xs := asc es)) (fun j H3 => H3 D2 = some (.lst (((asc es).take j).filter fun x => !inV x (asc ds))) ∧ Same H2 H3) ⟨upd_same, same_new hD2n⟩ (fun j H3 _ ⟨_, s3⟩ => SqT.of (s3 _ _ (s2 _ _ hfq))) ?_ ?_⟩
        · rintro j x H3 H3' hj ⟨hD3, s3⟩ ⟨rfl, hx⟩
          have hrow : SqL K H3' a (asc ds) ∨ SqT K H3' a (asc ds) := by
            have h3 := s3 _ _ (s2 _ _ ha1)
            cases b with
            | false => exact .inl (SqL.of h3)
            | true => exact .inr (SqT.of h3)
          refine ⟨rfl, _, rfl, _, rfl, a, asc ds, rfl, hrow, List.all_eq_true.mp (asc_flat es) x (List.mem_of_getElem? hx), asc_flat ds, _, rfl, ?_⟩
          have step := take_filter (fun x => !inV x (asc ds)) hx
          cases hc : (!inV x (asc ds)) with
          | true =>
            refine ⟨_, rfl, _, hD3, sz _ _ _ les, ?_, fun b o e => ?_⟩
            · rw [upd_same, step, if_pos hc]
            · rw [upd_ne (ne_of_none e hD2n)]
              exact s3 _ _ e
          | false =>
            refine ⟨?_, s3⟩
            rw [step, if_neg (by rw [hc]; exact Bool.false_ne_true), List.append_nil]
            exact hD3
        · rintro H3 ⟨hD3, s3⟩
          rw [List.take_length, come1] at hD3
          refine ⟨_, rfl, D, _, _, _, rfl, rfl, SqL.of (s3 _ _ hD2), atI_nat (j := 0) rfl, _, rfl, D2, _, _, _, rfl, rfl, SqL.of hD3, atI_nat (j := 0) rfl, (by show 2 ≤ sizeLine; decide), fun q hq => ?_⟩
          have sAll := s1.trans (s2.trans s3)
          rw [ees] at hex
          exact kok ds o i q _ k1 h0 hlt hex (sAll.trans (same_new hq)) (sAll.free hq) upd_same
end
/-! ### the law's _law_kind: which refusal it was -/
structure KindX (K : PySem.W.Frag) (CB CP CN CC CT D : Addr) (j : Nat) : Prop where
  ex : ExcC K D
  b0 : PySem.W.kitOne K (.ref D) (.ref CB) = some (decide (j = 0))
  b1 : PySem.W.kitOne K (.ref D) (.ref CP) = some (decide (j = 1))
  b2 : PySem.W.kitOne K (.ref D) (.ref CN) = some (decide (j = 2))
  b3 : PySem.W.kitOne K (.ref D) (.ref CC) = some (decide (j = 3))
  b4 : PySem.W.kitOne K (.ref D) (.ref CT) = some (decide (j = 4))
  ve : PySem.W.kitOne K (.ref D) (.type "ValueError") = some true
def kname : Nat → Str
  | 0 => "bounds"
  | 1 => "pick"
  | 2 => "number"
  | 3 => "change"
  | _ => "text"
structure KG (mg : Str → Option Value) (CB CP CN CC CT : Addr) : Prop where
  isinstance : mg "isinstance" = none
  ve : mg "ValueError" = none
  gB : mg "NoBounds" = some (.ref CB)
  gP : mg "NoPick" = some (.ref CP)
  gN : mg "NoNumber" = some (.ref CN)
  gC : mg "NoChange" = some (.ref CC)
  gT : mg "NoText" = some (.ref CT)
def spKind (K : PySem.W.Frag) (CB CP CN CC CT : Addr) : Sp := fun vs H Q _ => ∃ (a D : Addr) (j : Nat), vs = [.ref a] ∧ H a = some (ExD (.ref D) none a) ∧ KindX K CB CP CN CC CT D j ∧ j < 5 ∧ ∀ H', Same H H' → Q (.str (kname j)) H'
def marks (j : Nat) : List V := [.bl (decide (j = 0)), .bl (decide (j = 1)), .bl (decide (j = 2)), .bl (decide (j = 3)), .bl (decide (j = 4))]
theorem marks_count {j : Nat} (h : j < 5) : ((marks j).countP fun z => eqV z (.bl true)) = 1 := by
  match j, h with
  | 0, _ => decide
  | 1, _ => decide
  | 2, _ => decide
  | 3, _ => decide
  | 4, _ => decide
theorem marks_flat (j : Nat) : (marks j).all flatV = true := rfl
theorem marks_at {j : Nat} (h : j < 5) : (marks j)[j]? = some (.bl true) ∧ ∀ (m : Nat) (z : V), m < j → (marks j)[m]? = some z → eqV z (.bl true) = false := by
  match j, h with
  | 0, _ => exact ⟨rfl, fun m z hm => absurd hm (Nat.not_lt_zero _)⟩
  | 1, _ => exact ⟨rfl, fun m z hm e => by match m, hm, e with | 0, _, e => cases e; rfl⟩
  | 2, _ => exact ⟨rfl, fun m z hm e => by match m, hm, e with | 0, _, e => cases e; rfl | 1, _, e => cases e; rfl⟩
  | 3, _ => exact ⟨rfl, fun m z hm e => by match m, hm, e with | 0, _, e => cases e; rfl | 1, _, e => cases e; rfl | 2, _, e => cases e; rfl⟩
  | 4, _ => exact ⟨rfl, fun m z hm e => by match m, hm, e with | 0, _, e => cases e; rfl | 1, _, e => cases e; rfl | 2, _, e => cases e; rfl | 3, _, e => cases e; rfl⟩
theorem kname_at {j : Nat} (h : j < 5) : ([.str "bounds", .str "pick", .str "number", .str "change", .str "text"] : List V)[j]? = some (.str (kname j)) := by
  match j, h with
  | 0, _ => rfl
  | 1, _ => rfl
  | 2, _ => rfl
  | 3, _ => rfl
  | 4, _ => rfl
section
variable {P : Program} {w : World} {K : PySem.W.Frag} {mg : Str → Option Value} {base : Heap}
theorem scKind : FnScope ["_law_e", "_law_marks"] ["_law_e"] (defScope s_law_kind) := ⟨rfl, rfl, rfl, by decide +kernel, rfl, by decide +kernel, by decide +kernel⟩
theorem ok_kind {f CB CP CN CC CT : Addr} {fd : FuncData} (F : Fun K "_law_kind" "_law_kind" s_law_kind f fd) (G : KG mg CB CP CN CC CT) : FnOk P w K mg base CX0 1 f fd ["_law_e"] (spKind K CB CP CN CC CT) := by
  refine F.ok scKind (fun vs H Q E h => ?_) (fun cdv A outer s H vs Q E hr h => ?_)
  · obtain ⟨a, D, j, rfl, _⟩ := h
    rfl
  · obtain ⟨a, D, j, rfl, ha, kx, hj, q⟩ := h
    refine ⟨_, pss_cons (ps_set (i := 1) scKind.nd rfl (Or.inl rfl) (pe_lst (pa_cons (pe_callB call_isX (by rfl) G.isinstance (by decide +kernel) (pa_cons (pv 0) (pa_cons (pe_glob (v := .ref CB) (by rfl) G.gB rfl) pa_nil)))
          (pa_cons (pe_callB call_isX (by rfl) G.isinstance (by decide +kernel) (pa_cons (pv 0) (pa_cons (pe_glob (v := .ref CP) (by rfl) G.gP rfl) pa_nil)))
          (pa_cons (pe_callB call_isX (by rfl) G.isinstance (by decide +kernel) (pa_cons (pv 0) (pa_cons (pe_glob (v := .ref CN) (by rfl) G.gN rfl) pa_nil)))
          (pa_cons (pe_callB call_isX (by rfl) G.isinstance (by decide +kernel) (pa_cons (pv 0) (pa_cons (pe_glob (v := .ref CC) (by rfl) G.gC rfl) pa_nil))) pa_nil))))))
      (pss_cons (ps_expr (pe_bm PySem.F.plainAttrs_list PySem.F.slot_list_append PySem.F.type_list_append mt_append (pv 1) (pa_cons (pe_callB call_isX (by rfl) G.isinstance (by decide +kernel) (pa_cons (pv 0) (pa_cons (pe_glob (v := .ref CT) (by rfl) G.gT rfl) pa_nil))) pa_nil)))
      (pss_cons (ps_if (PW.pt (pw_or (pt_cmpR op_ne (pe_bm PySem.F.plainAttrs_list PySem.F.slot_list_count PySem.F.type_list_count mt_countF (pv 1) (pa_cons pe_bl pa_nil)) pe_int (nomark _))
          (pw_or1 (pt_not (pt_val (pe_callB call_isX (by rfl) G.isinstance (by decide +kernel) (pa_cons (pv 0) (pa_cons (pe_bltn (v := .ty "ValueError") (by rfl) G.ve (by decide +kernel) rfl) pa_nil)))))))) (pss_one (ps_ret pe_str)) pss_nil)
      (pss_one (ps_ret (pe_ix ix_list (pe_lst (pa_cons pe_str (pa_cons pe_str (pa_cons pe_str (pa_cons pe_str (pa_cons pe_str pa_nil)))))) (pe_bm PySem.F.plainAttrs_list PySem.F.slot_list_index PySem.F.type_list_index mt_index (pv 1) (pa_cons pe_bl pa_nil)) (fun _ _ => rfl)))))), ?_⟩
    refine ⟨_, rfl, a, D, _, _, _, rfl, ha, kx.ex, .own CB, kx.b0, _, rfl, a, D, _, _, _, rfl, ha, kx.ex, .own CP, kx.b1, _, rfl, a, D, _, _, _, rfl, ha, kx.ex, .own CN, kx.b2, _, rfl, a, D, _, _, _, rfl, ha, kx.ex, .own CC, kx.b3, (by show 4 ≤ sizeLine; decide), fun l hl => ?_⟩
    have s1 : Same H (upd H l (.lst [.bl (decide (j = 0)), .bl (decide (j = 1)), .bl (decide (j = 2)), .bl (decide (j = 3))])) := same_new hl
    have nal : a ≠ l := ne_of_none ha hl
    refine ⟨_, rfl, .inl ⟨rfl, _, SqL.of upd_same⟩, _, rfl, a, D, _, _, _, rfl, s1 _ _ ha, kx.ex, .own CT, kx.b4, l, _, _, rfl, rfl, upd_same, (by show 4 < sizeLine; decide), ?_⟩
    have s2 : Same H (upd (upd H l (.lst [.bl (decide (j = 0)), .bl (decide (j = 1)), .bl (decide (j = 2)), .bl (decide (j = 3))])) l (.lst (marks j))) := fun b o e => by
      have nb : b ≠ l := ne_of_none e hl
      rw [upd_ne nb, upd_ne nb]; exact e
    obtain ⟨H2, e2⟩ : ∃ H2, H2 = upd (upd H l (.lst [.bl (decide (j = 0)), .bl (decide (j = 1)), .bl (decide (j = 2)), .bl (decide (j = 3))])) l (.lst (marks j)) := ⟨_, rfl⟩
    have hl2 : H2 l = some (.lst (marks j)) := by rw [e2]; exact upd_same
    rw [← e2] at s2
    have goalH : ∀ (X : Hp → Prop), X H2 → X (upd (upd H l (.lst [.bl (decide (j = 0)), .bl (decide (j = 1)), .bl (decide (j = 2)), .bl (decide (j = 3))])) l (.lst ([.bl (decide (j = 0)), .bl (decide (j = 1)), .bl (decide (j = 2)), .bl (decide (j = 3))] ++ [.bl (decide (j = 4))]))) := fun X h => by rw [e2] at h; exact h
    refine goalH (fun Hx => _) ?_
    refine ⟨_, rfl, .inl ⟨rfl, _, SqL.of hl2⟩, l, marks j, .bl true, rfl, rfl, SqL.of hl2, rfl, marks_flat j, ?_⟩
    rw [marks_count hj]
    refine ⟨rfl, _, rfl, ?_⟩
    refine iteNS rfl ?_
    refine ⟨_, rfl, a, D, _, _, _, rfl, s2 _ _ ha, kx.ex, .ty _, kx.ve, _, rfl, ?_⟩
    refine iteF ?_
    have ⟨at1, at2⟩ := marks_at hj
    refine ⟨(by show 5 ≤ sizeLine; decide), fun l5 hl5 => ?_⟩
    have s5 := s2.trans (same_new (o := .lst [.str "bounds", .str "pick", .str "number", .str "change", .str "text"]) hl5)
    refine ⟨_, rfl, .inl ⟨rfl, _, SqL.of ((upd_ne (ne_of_none hl2 hl5)).trans hl2)⟩, l, marks j, .bl true, j, .bl true, rfl, rfl, SqL.of ((upd_ne (ne_of_none hl2 hl5)).trans hl2), rfl, marks_flat j, at1, rfl, at2, ?_⟩
    exact ⟨l5, _, _, _, rfl, rfl, SqL.of upd_same, at_of (j := j) rfl (kname_at hj), q _ s5⟩
end
/-! ### the law's _law_change -/
structure PeX (K : PySem.W.Frag) (mg : Str → Option Value) (PE : Addr) : Prop where
  g : mg "PickError" = some (.ref PE)
  b : PySem.W.subIn K (.ref PE) (.type "BaseException") = some true
  d : PySem.W.hasDictIn K PE = true
  t : PySem.W.typeIn K (.ref PE) = some (.type "type")
structure GK (K : PySem.W.Frag) (mg : Str → Option Value) (f : Addr) (fd : FuncData) : Prop where
  F : Fun K "_law_kind" "_law_kind" s_law_kind f fd
  b : Binds K fd ["_law_e"] []
  g : mg "_law_kind" = some (.ref f)
def spLChange (C : Addr) : Sp := fun vs H Q _ => ∃ (p : Addr) (n m : Nat) (one : V) (ds : List Nat), vs = [.ref p, one] ∧ PkAt C H p n m ∧ DtIn H one ∧ IsPk H one n m ds ∧
  (∀ o i q H', 0 < m → m < n → Ex ds (nxt n m ds) o i → Same H H' → H' q = some (.tup [nv o, nv i]) → Q (.ref q) H') ∧ (∀ H', (m = 0 ∨ m = n) → Same H H' → Q (.str "change") H')
section
variable {P : Program} {w : World} {K : PySem.W.Frag} {mg : Str → Option Value} {base : Heap}
theorem scLChange : FnScope ["_law_told", "_law_pick", "_law_found", "_law_error", "_law_e"] ["_law_told", "_law_pick"] (defScope s_law_change) := ⟨rfl, rfl, rfl, by decide +kernel, rfl, by decide +kernel, by decide +kernel⟩
theorem ok_lchange {f fC fK C CB CP CN CC CT PE : Addr} {fd fdC fdK : FuncData} (F : Fun K "_law_change" "_law_change" s_law_change f fd) (Kd : GK K mg fK fdK) (G : KG mg CB CP CN CC CT) (T : PkC K C) (M : GC K C fC fdC) (pe : PeX K mg PE)
    (sC : PySem.W.subIn K (.ref CC) (.ref PE) = some true) (xC : KindX K CB CP CN CC CT CC 3) (GCk : FnOk P w K mg base (L2.CX P w) 5 fC fdC ["self", "pick"] (spChange C CP CC)) : FnOk P w K mg base CX0 6 f fd ["_law_told", "_law_pick"] (spLChange C) := by
  have GKk : FnOk P w K mg base CX0 1 fK fdK ["_law_e"] (spKind K CB CP CN CC CT) := ok_kind Kd.F G
  refine F.ok scLChange (fun vs H Q E h => ?_) (fun cdv A outer s H vs Q E hr h => ?_)
  · obtain ⟨p, n, m, one, ds, rfl, _⟩ := h
    rfl
  · obtain ⟨p, n, m, one, ds, rfl, hp, ho, hk, kok, kone⟩ := h
    obtain ⟨dx, hp'⟩ := hp.ob
    refine ⟨_, pss_cons (ps_set (i := 2) scLChange.nd rfl (Or.inl rfl) pe_non)
      (pss_cons (ps_set (i := 3) scLChange.nd rfl (Or.inl rfl) pe_non)
      (pss_cons (ps_tryT (i := 4) (tb := fun W => tAsg (tMethE C "change" (spChange C CP CC) (WE W) (tVar 0) (tCons (tVar 1) tNil)) (gName 2)) (ts := fun _ => tAsg (tVar 4) (gName 3)) (Wout := fun _ _ _ _ => False) rfl rfl rfl scLChange.nd rfl rfl ⟨rfl, by decide, .inl pe.g⟩ takes0
          (fun W pn xe tk _ => pss_one (ps_set (i := 2) scLChange.nd rfl (Or.inl rfl) (by exact pe_methE (pv 0) T.cl M.m GCk hr M.b (fun σ => passAt tk σ) (pa_cons (pv 1) pa_nil))))
          (fun a pn => pss_one (ps_set (i := 3) scLChange.nd rfl (Or.inl rfl) (by exact pv 4))))
      (pss_cons (ps_if (pt_cmp (pc_notN (pv 3))) (pss_one (ps_ret (pe_call GKk (hr.mono (by decide)) rfl Kd.g Kd.F.kp Kd.b .nil pass0 (pa_cons (pv 3) pa_nil)))) pss_nil)
      (pss_one (ps_ret (pv 2)))))), ?_⟩
    refine ⟨_, rfl, p, dx, _, rfl, hp', pkF_no _ _ (by decide +kernel) (by decide +kernel), one, rfl, p, n, m, one, rfl, hp, ho, fun ds' o i q H1 k1 h0 h1 ex s1 hq hq1 => ?_, fun H1 _ c s1 => ?_, fun H1 no _ => (no ⟨_, hk⟩).elim⟩
    · cases IsPk.inj k1 hk
      refine ⟨_, rfl, _, rfl, ?_⟩
      refine iteNS rfl ?_
      exact ⟨_, rfl, kok o i q H1 h0 h1 ex s1 hq1⟩
    · refine ⟨true, PySem.W.exm_ref pe.b pe.d pe.t sC, fun _ a na => ?_, fun z => (nomatch z)⟩
      refine ⟨_, rfl, ?_⟩
      refine ⟨_, rfl, _, rfl, ?_⟩
      refine if_true_of rfl ?_
      exact ⟨_, rfl, a, CC, 3, rfl, upd_same, xC, by decide, fun H2 s2 => kone H2 c (s1.trans ((same_new na).trans s2))⟩
end
end Dp
namespace Dp
open PySem PySem.Spec PyProof.Rows L2 DpR
/-! ### the law -/
structure LI (mg : Str → Option Value) : Prop where
  isinstance : mg "isinstance" = none
  tuple : mg "tuple" = none
  list : mg "list" = none
def spLaw (K : PySem.W.Frag) : Sp := fun vs H Q _ => ∃ (a : Addr) (ns : List Int), vs = [.ref a] ∧ SqL K H a (ns.map V.int) ∧ ns.length ≤ 63 ∧ ∀ H', Q (.bl true) H'
structure GD (K : PySem.W.Frag) (mg : Str → Option Value) (x : Str) (st : Stmt) (ps : List Str) (f : Addr) (fd : FuncData) : Prop where
  F : Fun K x x st f fd
  b : Binds K fd ps []
  g : mg x = some (.ref f)
structure GMe (K : PySem.W.Frag) (C : Addr) (x qual : Str) (st : Stmt) (ps : List Str) (f : Addr) (fd : FuncData) : Prop where
  F : Fun K x qual st f fd
  b : Binds K fd ps []
  m : Meth K C x f
theorem back_mod {r c : Int} (h0 : 0 ≤ r) (h1 : r < c) : ((r + 1) % c + -1) % c = r := by
  by_cases e : r + 1 = c
  · subst e
    have h2 : (r + 1) % (r + 1) = 0 := Int.emod_self
    rw [h2]
    have h3 : (0 + -1 : Int) = r + (r + 1) * (-1) := by omega
    rw [h3, Int.add_mul_emod_self_left]
    exact Int.emod_eq_of_lt h0 h1
  · have h2 : (r + 1) % c = r + 1 := Int.emod_eq_of_lt (by omega) (by omega)
    rw [h2]
    have h3 : r + 1 + -1 = r := by omega
    rw [h3]
    exact Int.emod_eq_of_lt h0 h1
theorem in0n (m n : Nat) : inV (nv m) [.int 0, nv n] = decide (m = 0 ∨ m = n) := by
  show (((0 : Int) == (m : Int)) || (((n : Int) == (m : Int)) || false)) = _
  rw [Bool.or_false]
  by_cases h0 : m = 0
  · subst h0; simp
  · by_cases h1 : m = n
    · subst h1; simp
    · rw [beq_eq_false_iff_ne.mpr (by omega), beq_eq_false_iff_ne.mpr (by omega)]
      exact (decide_eq_false (by omega)).symm
section
variable {P : Program} {w : World} {K : PySem.W.Frag} {mg : Str → Option Value} {base : Heap}
theorem scLaw : FnScope ["_law_script", "_law_k", "_law_cell", "_law_things", "_law_size_here", "_law_told", "_law_number", "_law_pick", "_law_later", "_law_out", "_law_fresh", "_law_handed", "_law_found", "_law_thing"] ["_law_script"] (defScope s_law) := ⟨rfl, rfl, rfl, by decide +kernel, rfl, by decide +kernel, by decide +kernel⟩
structure All (K : PySem.W.Frag) (mg : Str → Option Value) (C CB CP CN CC CT PE : Addr) (fW fR fI fM fN fA fS fC fD fX fK fV fZ fT fL : Addr) (dW dR dI dM dN dA dS dC dD dX dK dV dZ dT dL : FuncData) : Prop where
  G : Glb mg
  L : LG mg
  I : LI mg
  T : PkC K C
  gC : mg "Picks" = some (.ref C)
  made : Mk K C fI
  xB : ExT K mg "NoBounds" CB
  xP : ExT K mg "NoPick" CP
  xN : ExT K mg "NoNumber" CN
  xC : ExT K mg "NoChange" CC
  KG : KG mg CB CP CN CC CT
  pe : PeX K mg PE
  sC : PySem.W.subIn K (.ref CC) (.ref PE) = some true
  kC : KindX K CB CP CN CC CT CC 3
  W : GW K mg fW dW
  R : GR K mg fR dR
  FI : Fun K "__init__" "Picks.__init__" s_Picks_init fI dI
  bI : Binds K dI ["self", "things", "size"] []
  M : GM K C fM dM
  N : GN K C fN dN
  A : GA K C fA dA
  S : GS K C fS dS
  Cg : GC K C fC dC
  D : GMe K C "compared" "Picks.compared" s_Picks_compared ["self", "one", "other"] fD dD
  X : GX K mg fX dX
  Ka : GD K mg "_law_cell_at" s_law_cell_at ["_law_script", "_law_k"] fK dK
  Vi : GD K mg "_law_wide" s_law_wide ["_law_cell", "_law_bound"] fV dV
  Si : GD K mg "_law_size" s_law_size ["_law_cell"] fZ dZ
  Kd : GK K mg fT dT
  Lc : GD K mg "_law_change" s_law_change ["_law_told", "_law_pick"] fL dL
theorem ok_law {C CB CP CN CC CT PE fW fR fI fM fN fA fS fC fD fX fK fV fZ fT fL : Addr} {dW dR dI dM dN dA dS dC dD dX dK dV dZ dT dL : FuncData} {f : Addr} {fd : FuncData} (F : Fun K "law" "law" s_law f fd)
    (Z : All K mg C CB CP CN CC CT PE fW fR fI fM fN fA fS fC fD fX fK fV fZ fT fL dW dR dI dM dN dA dS dC dD dX dK dV dZ dT dL) : FnOk P w K mg base CX0 7 f fd ["_law_script"] (spLaw K) := by
  have kI : FnOk P w K mg base (L2.CX P w) 2 fI dI ["self", "things", "size"] (spInit C CB) := ok_init Z.FI Z.G Z.W Z.T Z.xB
  have kM : FnOk P w K mg base CX0 1 fM dM ["self"] (spMany C) := ok_many Z.M.F Z.G Z.T
  have kN : FnOk P w K mg base (L2.CX P w) 3 fN dN ["self", "one"] (spNumber C CP) := ok_number Z.N.F Z.G Z.W Z.R Z.T Z.xP
  have kA : FnOk P w K mg base (L2.CX P w) 2 fA dA ["self", "number"] (spAt C CN) := ok_at Z.A.F Z.G Z.W Z.M Z.T Z.xN
  have kS : FnOk P w K mg base (L2.CX P w) 4 fS dS ["self", "one", "by"] (spStep C CP) := ok_step Z.S.F Z.G Z.W Z.R Z.N Z.A Z.M Z.T Z.xP Z.xN
  have kC : FnOk P w K mg base (L2.CX P w) 5 fC dC ["self", "pick"] (spChange C CP CC) := ok_change Z.Cg.F Z.G Z.W Z.R Z.N Z.A Z.M Z.S Z.T Z.xP Z.xN Z.xC
  have kD : FnOk P w K mg base (L2.CX P w) 4 fD dD ["self", "one", "other"] (spCompared C CP) := ok_compared Z.D.F Z.G Z.W Z.R Z.N Z.T Z.xP
  have kX : FnOk P w K mg base CX0 1 fX dX ["_law_cell", "_law_k"] spMixed := ok_mixed Z.X.F
  have kK : FnOk P w K mg base CX0 2 fK dK ["_law_script", "_law_k"] (spCellAt K) := ok_cellAt Z.Ka.F Z.L Z.X
  have kV : FnOk P w K mg base CX0 2 fV dV ["_law_cell", "_law_bound"] spWide := ok_wide Z.Vi.F Z.L Z.X
  have kZ : FnOk P w K mg base CX0 2 fZ dZ ["_law_cell"] spSize := ok_size Z.Si.F Z.L Z.X
  have kL : FnOk P w K mg base CX0 6 fL dL ["_law_told", "_law_pick"] (spLChange C) := ok_lchange Z.Lc.F Z.Kd Z.KG Z.T Z.Cg Z.pe Z.sC Z.kC kC
  refine F.ok scLaw (fun vs H Q E h => ?_) (fun cdv A outer s H vs Q E hr h => ?_)
  · obtain ⟨a, ns, rfl, _⟩ := h
    rfl
  · obtain ⟨a, ns, rfl, hS, hlen, k⟩ := h
    have r1 : Room 1 _ := hr.mono (by decide)
    have r2 : Room 2 _ := hr.mono (by decide)
    have r3 : Room 3 _ := hr.mono (by decide)
    have r4 : Room 4 _ := hr.mono (by decide)
    refine ⟨_, pss_cons (ps_for PassesOwn.never rfl (pi_range1 rfl Z.L.range (pa_cons (pe_callB (call_max2 rfl) (by rfl) Z.L.max (by decide +kernel) (pa_cons pe_int (pa_cons (pe_callB (call_min2 rfl) (by rfl) Z.L.min (by decide +kernel) (pa_cons pe_int (pa_cons (pe_callB call_len_seq (by rfl) Z.L.len PySem.boot_len (pa_cons (pv 0) pa_nil)) pa_nil))) pa_nil))) pa_nil)) (pg_name (i := 1) scLaw.nd rfl (Or.inl rfl))
        (pss_cons (ps_set (i := 2) scLaw.nd rfl (Or.inl rfl) (pe_call kK r2 rfl Z.Ka.g Z.Ka.F.kp Z.Ka.b .nil pass0 (pa_cons (pv 0) (pa_cons (pv 1) pa_nil))))
        (pss_cons (ps_asg (pe_call kZ r2 rfl Z.Si.g Z.Si.F.kp Z.Si.b .nil pass0 (pa_cons (pv 2) pa_nil)) (pg_tup rfl (pgs_cons (pg_name (i := 3) scLaw.nd rfl (Or.inl rfl)) (pgs_cons (pg_name (i := 4) scLaw.nd rfl (Or.inl rfl)) pgs_nil))))
        (pss_cons (ps_set (i := 5) scLaw.nd rfl (Or.inl rfl) (pe_make Z.made kI r3 rfl Z.gC Z.bI .nil passL (pa_cons (pv 3) (pa_cons (pv 4) pa_nil))))
        (pss_cons (ps_set (i := 6) scLaw.nd rfl (Or.inl rfl) (pe_call kV r2 rfl Z.Vi.g Z.Vi.F.kp Z.Vi.b .nil pass0 (pa_cons (pe_call kX r1 rfl Z.X.g Z.X.F.kp Z.X.b .nil pass0 (pa_cons (pv 2) (pa_cons pe_int pa_nil))) (pa_cons (pe_meth0 (pv 5) Z.T.cl Z.M.m kM r1 Z.M.b .nil pass0) pa_nil))))
        (pss_cons (ps_set (i := 7) scLaw.nd rfl (Or.inr rfl) (pe_meth (pv 5) Z.T.cl Z.A.m kA r2 Z.A.b .nil passL (pa_cons (pv 6) pa_nil)))
        (pss_cons (ps_set (i := 8) scLaw.nd rfl (Or.inr rfl) (pe_meth (pv 5) Z.T.cl Z.S.m kS r4 Z.S.b .nil passL (pa_cons (pv 7) (pa_cons pe_int pa_nil))))
        (pss_cons (ps_if (PW.pt (pw_or (pt_cmpR op_ne (pe_meth (pv 5) Z.T.cl Z.N.m kN r3 Z.N.b .nil passL (pa_cons (pv 8) pa_nil)) (pe_op op_mod (pe_op op_add (pv 6) pe_int) (pe_meth0 (pv 5) Z.T.cl Z.M.m kM r1 Z.M.b .nil pass0)) (nomark _))
            (pw_or1 (pt_cmpR (op_neD hr.units) (pe_meth (pv 5) Z.T.cl Z.S.m kS r4 Z.S.b .nil passL (pa_cons (pv 8) (pa_cons (pe_un un_neg pe_int) pa_nil))) (pv 7) (nomark _))))) (pss_one (ps_ret pe_bl)) pss_nil)
        (pss_cons (ps_setLc (i := 9) (own := [("_law_thing", 13)]) (g := gName 13) rfl scLaw.nd rfl rfl (sw_true rfl rfl rfl (by decide +kernel)) (pi_tup (pv 7)) (blkOk_by (N := ["_law_script", "_law_k", "_law_cell", "_law_things", "_law_size_here", "_law_told", "_law_number", "_law_pick", "_law_later", "_law_out", "_law_fresh", "_law_handed", "_law_found", "_law_thing"]) (sc := defScope s_law) (by decide +kernel)) (fun _ _ _ _ _ => pg_name (i := 13) scLaw.nd rfl (Or.inl rfl))
          (fun _ _ _ _ _ => pts_one (pt_cmpR (r := rIn K true) op_notIn_seq (pv 13) (pv 8) (by rfl))) (fun _ _ _ _ _ => pv 13))
        (pss_cons (ps_setLc (i := 10) (own := [("_law_thing", 13)]) (g := gName 13) rfl scLaw.nd rfl rfl (sw_true rfl rfl rfl (by decide +kernel)) (pi_tup (pv 8)) (blkOk_by (N := ["_law_script", "_law_k", "_law_cell", "_law_things", "_law_size_here", "_law_told", "_law_number", "_law_pick", "_law_later", "_law_out", "_law_fresh", "_law_handed", "_law_found", "_law_thing"]) (sc := defScope s_law) (by decide +kernel)) (fun _ _ _ _ _ => pg_name (i := 13) scLaw.nd rfl (Or.inl rfl))
          (fun _ _ _ _ _ => pts_one (pt_cmpR (r := rIn K true) op_notIn_seq (pv 13) (pv 7) (by rfl))) (fun _ _ _ _ _ => pv 13))
        (pss_cons (ps_set (i := 11) scLaw.nd rfl (Or.inl rfl) (pe_ix ix_list (pe_lst (pa_cons (pv 7) (pa_cons (pe_callTy call_list_of (by rfl) Z.I.list (by decide +kernel) (pa_cons (pv 7) pa_nil)) pa_nil))) (pe_op op_mod (pv 1) pe_int) (fun _ _ => rfl)))
        (pss_cons (ps_set (i := 12) scLaw.nd rfl (Or.inl rfl) (pe_call kL hr rfl Z.Lc.g Z.Lc.F.kp Z.Lc.b .nil pass0 (pa_cons (pv 5) (pa_cons (pv 11) pa_nil))))
        (pss_cons (ps_if (PW.pt (pw_or (pt_cmpR (op_neD hr.units) (pe_callTy call_list_of (by rfl) Z.I.list (by decide +kernel) (pa_cons (pv 11) pa_nil)) (pe_callTy call_list_of (by rfl) Z.I.list (by decide +kernel) (pa_cons (pv 7) pa_nil)) (nomark _))
            (pw_or1 (pt_cmpR op_ne (pe_meth (pv 5) Z.T.cl Z.D.m kD r4 Z.D.b .nil passL (pa_cons (pv 11) (pa_cons (pv 8) pa_nil))) (pe_meth (pv 5) Z.T.cl Z.D.m kD r4 Z.D.b .nil passL (pa_cons (pv 7) (pa_cons (pe_callTy call_list_of (by rfl) Z.I.list (by decide +kernel) (pa_cons (pv 8) pa_nil)) pa_nil))) (nomark _))))) (pss_one (ps_ret pe_bl)) pss_nil)
        (pss_one (ps_if (pt_cmpR op_in_seq (pv 4) (pe_tup (pa_cons pe_int (pa_cons (pv 3) pa_nil))) (by rfl))
          (pss_one (ps_if (PW.pt (pw_or (pt_cmpR op_ne (pv 12) pe_str (nomark _)) (pw_or1 (pt_cmpR (op_neD hr.units) (pv 8) (pv 7) (nomark _))))) (pss_one (ps_ret pe_bl)) pss_nil))
          (pss_one (ps_if (PW.pt (pw_or (pt_cmpR op_ne (pe_callB call_len_seq (by rfl) Z.L.len PySem.boot_len (pa_cons (pv 9) pa_nil)) pe_int (nomark _)) (pw_or (pt_cmpR op_ne (pe_callB call_len_seq (by rfl) Z.L.len PySem.boot_len (pa_cons (pv 10) pa_nil)) pe_int (nomark _))
            (pw_or (pt_cmpR (op_neD hr.units) (pv 12) (pe_tup (pa_cons (pe_ix ix_list (pv 9) pe_int (fun _ _ => rfl)) (pa_cons (pe_ix ix_list (pv 10) pe_int (fun _ _ => rfl)) pa_nil))) (nomark _))
            (pw_or1 (pt_not (pt_val (pe_callB call_isi (by rfl) Z.I.isinstance (by decide +kernel) (pa_cons (pv 12) (pa_cons (pe_bltn (v := .ty "tuple") (by rfl) Z.I.tuple (by decide +kernel) rfl) pa_nil))))))))))
            (pss_one (ps_ret pe_bl)) pss_nil)))))))))))))))))
      (pss_one (ps_ret pe_bl)), ?_⟩
    refine ⟨_, rfl, a, _, rfl, .inl hS, _, _, rfl, _, _, rfl, _, rfl, by rw [List.length_map]; (split <;> (try split) <;> omega), by rw [List.length_map]; (split <;> (try split) <;> omega), ?_⟩
    refine for_range (fun i σ H' => ∃ v1 v2 v3 v4 v5 v6 v7 v8 v9 v10 v11 v12 v13, σ = [some (.ref a), v1, v2, v3, v4, v5, v6, v7, v8, v9, v10, v11, v12, v13] ∧ Same H H') ⟨none, none, none, none, none, none, none, none, none, none, none, none, none, rfl, Same.refl _⟩ ?_ ?_
    · rintro i σ H' hi ⟨v1, v2, v3, v4, v5, v6, v7, v8, v9, v10, v11, v12, v13, rfl, sA⟩
      refine ⟨_, rfl, _, rfl, a, ns, i, (by show [V.ref a, V.int (0 + (i : Int))] = [V.ref a, V.int (i : Int)]; rw [Int.zero_add]), sA.seq hS, fun c hc => ?_⟩
      refine ⟨_, rfl, c, rfl, hc.1, fun n m p H1 hn hm s1 hp1 hp => ?_⟩
      refine ⟨p, _, rfl, SqT.of hp, rfl, _, _, rfl, _, _, rfl, rfl, ?_⟩
      have sB := sA.trans s1
      refine ⟨_, rfl, _, rfl, fun x dx nx ndx nex => ⟨x, dx, nv n, nv m, rfl, upd_same, .int _, .int _, fun n' m' e1 e2 _ _ => ⟨rfl, ?_⟩, fun no => (no ⟨n, m, rfl, rfl, hn, hm⟩).elim⟩⟩
      cases nv_inj e1
      cases nv_inj e2
      have s2 : Same H1 _ := same_made (C := C) (n := n) (m := m) nx ndx
      have pk : PkAt C _ x n m := pk_made (dx := dx) (H := H1) hn hm
      obtain ⟨H2, eH2⟩ : ∃ H2, H2 = upd (upd (upd H1 dx (.own x)) x (.ins C dx [])) x (.ins C dx (pkF n m)) := ⟨_, rfl⟩
      rw [← eH2] at s2 pk ⊢
      have hx2 : H2 x = some (.ins C dx (pkF n m)) := by rw [eH2]; exact upd_same
      have sC := sB.trans s2
      have nom : (pkF n m).lookup ("many" : Str) = none := pkF_no _ _ (by decide +kernel) (by decide +kernel)
      have noa : (pkF n m).lookup ("at" : Str) = none := pkF_no _ _ (by decide +kernel) (by decide +kernel)
      have non : (pkF n m).lookup ("number" : Str) = none := pkF_no _ _ (by decide +kernel) (by decide +kernel)
      have noc : (pkF n m).lookup ("compared" : Str) = none := pkF_no _ _ (by decide +kernel) (by decide +kernel)
      have nos : (pkF n m).lookup ("step" : Str) = none := pkF_no _ _ (by decide +kernel) (by decide +kernel)
      have hpos : (0 : Int) < (ch n m : Int) := by have := ch_pos hm; omega
      refine ⟨_, rfl, _, _, rfl, fun d hd => ⟨_, rfl, x, dx, _, rfl, hx2, nom, x, n, m, rfl, pk, d, _, rfl, hpos, fun r r0 r1 => ?_⟩⟩
      refine ⟨_, rfl, x, dx, _, rfl, hx2, noa, _, rfl, x, n, m, .int r, rfl, pk, .int _, fun i' q H3 e _ _ s3 hq hq3 => ?_, fun no => (no ⟨r, rfl, r0, r1⟩).elim⟩
      cases e
      obtain ⟨ds, eds⟩ : ∃ ds, ds = un n m r := ⟨_, rfl⟩
      have ⟨u1, u2, u3⟩ := un_spec m n r r0 r1
      have pq := pk_un hq3 r0 r1
      rw [← eds] at u1 u2 u3 hq3 pq
      have sD := sC.trans s3
      have hx3 := s3 _ _ hx2
      have pk3 := pk.mono s3
      -- later
      refine ⟨_, rfl, x, dx, _, rfl, hx3, nos, _, rfl, x, n, m, _, 1, rfl, pk3, dtIn_pk pq, fun da r4 H4 k4 s4 hr4n hr4 => ?_, fun H4 no _ => (no ⟨_, pq⟩).elim⟩
      cases IsPk.inj k4 pq
      have hr4' : H4 r4 = some (.tup (asc (nxt n m ds))) := hr4
      obtain ⟨es, ees⟩ : ∃ es, es = nxt n m ds := ⟨_, rfl⟩
      rw [← ees] at hr4'
      have ⟨e1, e2, e3⟩ : Desc n es ∧ es.length = m ∧ rk es = (rk ds + 1) % (ch n m : Int) := by
        rw [ees]
        exact un_spec m n _ (Int.emod_nonneg _ (by omega)) (Int.emod_lt_of_pos _ hpos)
      rw [u3] at e3
      have pr4 : IsPk H4 (.ref r4) n m es := ⟨r4, true, rfl, hr4', e1, e2⟩
      have hx4 := s4 _ _ hx3
      have pk4 := pk3.mono s4
      have hq4 := s4 _ _ hq3
      -- its number; the step back
      refine ⟨_, rfl, x, dx, _, rfl, hx4, non, _, rfl, x, n, m, _, rfl, pk4, dtIn_pk pr4, fun da H5 k5 s5 => ?_, fun H5 no _ => (no ⟨_, pr4⟩).elim⟩
      cases IsPk.inj k5 pr4
      have hx5 := s5 _ _ hx4
      have pk5 := pk4.mono s5
      refine ⟨_, rfl, _, _, rfl, rfl, _, rfl, x, dx, _, rfl, hx5, nom, x, n, m, rfl, pk5, _, _, rfl, rfl, hpos, rfl, _, rfl, ?_⟩
      refine iteNS (congrArg V.int e3) ?_
      refine ⟨_, rfl, x, dx, _, rfl, hx5, nos, _, rfl, _, rfl, x, n, m, _, -1, rfl, pk5, dtIn_pk (pr4.mono s5), fun da r6 H6 k6 s6' hr6n hr6b => ?_, fun H6 no _ => (no ⟨_, pr4.mono s5⟩).elim⟩
      cases IsPk.inj k6 (pr4.mono s5)
      have eback : un n m ((rk es + -1) % (ch n m : Int)) = ds := by rw [e3, back_mod r0 r1, eds]
      rw [eback] at hr6b
      have s56 := s5.trans s6'
      have hq6' := s56 _ _ hq4
      refine ⟨_, rfl, dtI (iasc ds), dtI (iasc ds), dp_tup hr6b, dp_tup hq6', dtI_shaped _, dtI_shaped _, _, rfl, ?_⟩
      rw [dtI_eqv]
      refine iteF ?_
      have sE := (sD.trans s4).trans s56
      have hr6' := s56 _ _ hr4'
      have lds : (asc ds).length ≤ 200 := by rw [asc_len]; omega
      have les : (asc es).length ≤ 200 := by rw [asc_len]; omega
      have sz : ∀ (xs : List V) (j : Nat) (p : V → Bool), xs.length ≤ 200 → ((xs.take j).filter p).length < sizeLine := fun xs j p h => by
        refine small1000 ?_
        have h1 := List.length_filter_le p (xs.take j)
        rw [List.length_take] at h1
        omega
      -- out
      refine ⟨_, rfl, q, rfl, ⟨_, SqT.of hq6'⟩, fun D hD => lc_it (walk_tup (a := q) (xs := asc ds)) (fun j G => G D = some (.lst (((asc ds).take j).filter fun x => !inV x (asc es))) ∧ Same H6 G) ⟨upd_same, same_new hD⟩ (fun j G _ ⟨_, g⟩ => SqT.of (g _ _ hq6')) ?_ ?_⟩
      · rintro j y G G' hj ⟨hD2, g⟩ ⟨rfl, hy⟩
        refine ⟨rfl, _, rfl, _, rfl, r4, asc es, rfl, .inr (SqT.of (g _ _ hr6')), List.all_eq_true.mp (asc_flat ds) y (List.mem_of_getElem? hy), asc_flat es, _, rfl, ?_⟩
        have step := take_filter (fun x => !inV x (asc es)) hy
        cases hc : (!inV y (asc es)) with
        | true =>
          refine ⟨_, rfl, _, hD2, sz _ _ _ lds, ?_, fun b o e => ?_⟩
          · rw [upd_same, step, if_pos hc]
          · rw [upd_ne (ne_of_none e hD)]
            exact g _ _ e
        | false =>
          refine ⟨?_, g⟩
          rw [step, if_neg (by rw [hc]; exact Bool.false_ne_true), List.append_nil]
          exact hD2
      rintro G1 ⟨hD2, g1⟩
      rw [List.take_length, asc_filter] at hD2
      have hq7' := g1 _ _ hq6'
      have hr7' := g1 _ _ hr6'
      -- fresh
      refine ⟨_, rfl, r4, rfl, ⟨_, SqT.of hr7'⟩, fun D3 hD3 => lc_it (walk_tup (a := r4) (xs := asc es)) (fun j G => G D3 = some (.lst (((asc es).take j).filter fun x => !inV x (asc ds))) ∧ Same G1 G) ⟨upd_same, same_new hD3⟩ (fun j G _ ⟨_, g⟩ => SqT.of (g _ _ hr7')) ?_ ?_⟩
      · rintro j y G G' hj ⟨hD4, g⟩ ⟨rfl, hy⟩
        refine ⟨rfl, _, rfl, _, rfl, q, asc ds, rfl, .inr (SqT.of (g _ _ hq7')), List.all_eq_true.mp (asc_flat es) y (List.mem_of_getElem? hy), asc_flat ds, _, rfl, ?_⟩
        have step := take_filter (fun x => !inV x (asc ds)) hy
        cases hc : (!inV y (asc ds)) with
        | true =>
          refine ⟨_, rfl, _, hD4, sz _ _ _ les, ?_, fun b o e => ?_⟩
          · rw [upd_same, step, if_pos hc]
          · rw [upd_ne (ne_of_none e hD3)]
            exact g _ _ e
        | false =>
          refine ⟨?_, g⟩
          rw [step, if_neg (by rw [hc]; exact Bool.false_ne_true), List.append_nil]
          exact hD4
      rintro G2 ⟨hD4, g2⟩
      rw [List.take_length, asc_filter] at hD4
      have hq8 := g2 _ _ hq7'
      have hr8 := g2 _ _ hr7'
      have hD9 := g2 _ _ hD2
      have g12 := g1.trans g2
      -- handed
      refine ⟨_, rfl, _, rfl, q, _, rfl, .inr (SqT.of hq8), fun l hl => ⟨(by show 2 ≤ sizeLine; decide), fun L hL => ?_⟩⟩
      have g3 : Same G2 (upd (upd G2 l (.lst (asc ds))) L (.lst [.ref q, .ref l])) := (same_new hl).trans (same_new hL)
      obtain ⟨v, hv, mv⟩ := at_drawn [.ref q, .ref l] (i := (0 + (i : Int)) % 2) (Int.emod_nonneg _ (by decide)) (Int.emod_lt_of_pos _ (by decide))
      obtain ⟨H6, eH6⟩ : ∃ H6, H6 = upd (upd G2 l (.lst (asc ds))) L (.lst [.ref q, .ref l]) := ⟨_, rfl⟩
      have hL6 : H6 L = some (.lst [.ref q, .ref l]) := by rw [eH6]; exact upd_same
      have hl6 : H6 l = some (.lst (asc ds)) := by rw [eH6, upd_ne (ne_of_none upd_same hL)]; exact upd_same
      rw [← eH6] at g3
      obtain ⟨hd_, hb, rfl, hhd⟩ : ∃ hd_ hb, v = V.ref hd_ ∧ H6 hd_ = some (rowO hb (asc ds)) := by
        simp only [List.mem_cons, List.not_mem_nil, or_false] at mv
        rcases mv with e | e
        · exact ⟨q, true, e, g3 _ _ hq8⟩
        · exact ⟨l, false, e, hl6⟩
      refine ⟨_, rfl, _, _, rfl, rfl, (by show (0 : Int) < 2; decide), L, _, _, _, rfl, rfl, SqL.of (upd_same), hv, ?_⟩
      have onH : ∀ (X : Hp → Prop), X H6 → X (upd (upd G2 l (.lst (asc ds))) L (.lst [.ref q, .ref l])) := fun X h => by rw [eH6] at h; exact h
      refine onH (fun Hx => _) ?_
      have gAll := g12.trans g3
      have hx6 := gAll _ _ (s56 _ _ hx4)
      have pk6 := pk4.mono (s56.trans gAll)
      have hq6 := g3 _ _ hq8
      have hr6 := g3 _ _ hr8
      have hD6 := g3 _ _ hD9
      have hF6 := g3 _ _ hD4
      have sF := sE.trans gAll
      have pqh6 : IsPk H6 (.ref hd_) n m ds := ⟨hd_, hb, rfl, hhd, u1, u2⟩
      -- found
      refine ⟨_, rfl, _, rfl, x, n, m, _, ds, rfl, pk6, dtIn_pk pqh6, pqh6, fun o io fq H7 h0 h1 ex s6 hfq => ?_, fun H7 c s6 => ?_⟩
      · -- one goes out, one comes in
        have hx7 := s6 _ _ hx6
        -- list(handed) != list(pick)
        have hh7 := s6 _ _ hhd
        have hq7 := s6 _ _ hq6
        have hr7 := s6 _ _ hr6
        have lsq : SqL K H7 hd_ (asc ds) ∨ SqT K H7 hd_ (asc ds) := by
          cases hb with
          | false => exact .inl (SqL.of hh7)
          | true => exact .inr (SqT.of hh7)
        refine ⟨_, rfl, hd_, _, rfl, lsq, fun l1 hl1 => ⟨_, rfl, q, _, rfl, .inr (SqT.of ((same_new hl1) _ _ hq7)), fun l2 hl2 => ?_⟩⟩
        have t1 : Same H7 (upd (upd H7 l1 (.lst (asc ds))) l2 (.lst (asc ds))) := (same_new hl1).trans (same_new hl2)
        refine ⟨ltI (iasc ds), ltI (iasc ds), dp_lst ((upd_ne (ne_of_none upd_same hl2)).trans upd_same), dp_lst upd_same, ltI_shaped _, ltI_shaped _, _, rfl, ?_⟩
        rw [ltI_eqv]
        refine iteF ?_
        -- compared, twice
        have pkH := (pk6.mono s6).mono t1
        have pqh : IsPk _ (.ref hd_) n m ds := ⟨hd_, hb, rfl, t1 _ _ hh7, u1, u2⟩
        have pqr : IsPk _ (.ref r4) n m es := ⟨r4, true, rfl, t1 _ _ hr7, e1, e2⟩
        refine ⟨_, rfl, x, dx, _, rfl, t1 _ _ hx7, noc, _, rfl, _, rfl, x, n, m, _, _, rfl, pkH, dtIn_pk pqh, dtIn_pk pqr, fun da db H8 k1 k2 s8 => ?_, fun H8 no _ => (no ⟨⟨_, pqh⟩, ⟨_, pqr⟩⟩).elim⟩
        cases IsPk.inj k1 pqh
        cases IsPk.inj k2 pqr
        have t2 := t1.trans s8
        have pq8 : IsPk H8 (.ref q) n m ds := ⟨q, true, rfl, t2 _ _ hq7, u1, u2⟩
        refine ⟨_, rfl, x, dx, _, rfl, t2 _ _ hx7, noc, _, rfl, _, rfl, r4, _, rfl, .inr (SqT.of (t2 _ _ hr7)), fun l3 hl3 => ?_⟩
        have t3 := t2.trans (same_new (o := .lst (asc es)) hl3)
        have pq9 : IsPk (upd H8 l3 (.lst (asc es))) (.ref q) n m ds := pq8.mono (same_new hl3)
        have pl9 : IsPk (upd H8 l3 (.lst (asc es))) (.ref l3) n m es := ⟨l3, false, rfl, upd_same, e1, e2⟩
        refine ⟨x, n, m, _, _, rfl, (pk6.mono s6).mono t3, dtIn_pk pq9, dtIn_pk pl9, fun da db H9 k1 k2 s9 => ?_, fun H9 no _ => (no ⟨⟨_, pq9⟩, ⟨_, pl9⟩⟩).elim⟩
        cases IsPk.inj k1 pq9
        cases IsPk.inj k2 pl9
        refine ⟨rfl, _, rfl, ?_⟩
        refine iteNS rfl ?_
        have t4 := t3.trans s9
        have sZ := (sF.trans s6).trans t4
        -- size in (0, things)
        refine ⟨_, rfl, _, rfl, (by show 2 ≤ sizeLine; decide), fun tp htp => ⟨tp, _, rfl, .inr (SqT.of upd_same), rfl, rfl, _, rfl, ?_⟩⟩
        have t5 := t4.trans (same_new (o := .tup [.int 0, nv n]) htp)
        have sY := sZ.trans (same_new (o := .tup [.int 0, nv n]) htp)
        rw [in0n]
        refine if_false_of (decide_eq_false (by omega)) ?_
        have oe := ex.outs u1.nodup
        have ie := ex.symm.outs (show (nxt n m ds).Nodup by rw [← ees]; exact e1.nodup)
        rw [← ees] at oe ie
        have hO := t5 _ _ (s6 _ _ hD6)
        have hN := t5 _ _ (s6 _ _ hF6)
        rw [oe] at hO
        rw [ie] at hN
        refine ⟨_, rfl, D, _, rfl, .inl (SqL.of hO), rfl, _, rfl, ?_⟩
        refine iteNS rfl ?_
        refine ⟨_, rfl, D3, _, rfl, .inl (SqL.of hN), rfl, _, rfl, ?_⟩
        refine iteNS rfl ?_
        refine ⟨_, rfl, _, rfl, D, _, _, _, rfl, rfl, SqL.of hO, atI_nat (j := 0) rfl, _, rfl, D3, _, _, _, rfl, rfl, SqL.of hN, atI_nat (j := 0) rfl, (by show 2 ≤ sizeLine; decide), fun tq htq => ?_⟩
        have hfq9 := t5 _ _ hfq
        refine ⟨dtI [(o : Int), (io : Int)], dtI [(o : Int), (io : Int)], .tup (SqT.of ((same_new htq) _ _ hfq9)) (dpAll_int [(o : Int), (io : Int)]), .tup (SqT.of upd_same) (dpAll_int [(o : Int), (io : Int)]), dtI_shaped _, dtI_shaped _, _, rfl, ?_⟩
        rw [dtI_eqv]
        refine iteF ?_
        refine ⟨_, rfl, _, _, .type "tuple", .type "tuple", true, rfl, .ty _, .base (.tup ((same_new htq) _ _ hfq9)), kit_ty (by decide +kernel), _, rfl, ?_⟩
        refine iteF ?_
        exact ⟨_, _, _, _, _, _, _, _, _, _, _, _, _, rfl, sY.trans (same_new htq)⟩
      · -- there is but one
        have hx7 := s6 _ _ hx6
        -- list(handed) != list(pick)
        have hh7 := s6 _ _ hhd
        have hq7 := s6 _ _ hq6
        have hr7 := s6 _ _ hr6
        have lsq : SqL K H7 hd_ (asc ds) ∨ SqT K H7 hd_ (asc ds) := by
          cases hb with
          | false => exact .inl (SqL.of hh7)
          | true => exact .inr (SqT.of hh7)
        refine ⟨_, rfl, hd_, _, rfl, lsq, fun l1 hl1 => ⟨_, rfl, q, _, rfl, .inr (SqT.of ((same_new hl1) _ _ hq7)), fun l2 hl2 => ?_⟩⟩
        have t1 : Same H7 (upd (upd H7 l1 (.lst (asc ds))) l2 (.lst (asc ds))) := (same_new hl1).trans (same_new hl2)
        refine ⟨ltI (iasc ds), ltI (iasc ds), dp_lst ((upd_ne (ne_of_none upd_same hl2)).trans upd_same), dp_lst upd_same, ltI_shaped _, ltI_shaped _, _, rfl, ?_⟩
        rw [ltI_eqv]
        refine iteF ?_
        -- compared, twice
        have pkH := (pk6.mono s6).mono t1
        have pqh : IsPk _ (.ref hd_) n m ds := ⟨hd_, hb, rfl, t1 _ _ hh7, u1, u2⟩
        have pqr : IsPk _ (.ref r4) n m es := ⟨r4, true, rfl, t1 _ _ hr7, e1, e2⟩
        refine ⟨_, rfl, x, dx, _, rfl, t1 _ _ hx7, noc, _, rfl, _, rfl, x, n, m, _, _, rfl, pkH, dtIn_pk pqh, dtIn_pk pqr, fun da db H8 k1 k2 s8 => ?_, fun H8 no _ => (no ⟨⟨_, pqh⟩, ⟨_, pqr⟩⟩).elim⟩
        cases IsPk.inj k1 pqh
        cases IsPk.inj k2 pqr
        have t2 := t1.trans s8
        have pq8 : IsPk H8 (.ref q) n m ds := ⟨q, true, rfl, t2 _ _ hq7, u1, u2⟩
        refine ⟨_, rfl, x, dx, _, rfl, t2 _ _ hx7, noc, _, rfl, _, rfl, r4, _, rfl, .inr (SqT.of (t2 _ _ hr7)), fun l3 hl3 => ?_⟩
        have t3 := t2.trans (same_new (o := .lst (asc es)) hl3)
        have pq9 : IsPk (upd H8 l3 (.lst (asc es))) (.ref q) n m ds := pq8.mono (same_new hl3)
        have pl9 : IsPk (upd H8 l3 (.lst (asc es))) (.ref l3) n m es := ⟨l3, false, rfl, upd_same, e1, e2⟩
        refine ⟨x, n, m, _, _, rfl, (pk6.mono s6).mono t3, dtIn_pk pq9, dtIn_pk pl9, fun da db H9 k1 k2 s9 => ?_, fun H9 no _ => (no ⟨⟨_, pq9⟩, ⟨_, pl9⟩⟩).elim⟩
        cases IsPk.inj k1 pq9
        cases IsPk.inj k2 pl9
        refine ⟨rfl, _, rfl, ?_⟩
        refine iteNS rfl ?_
        have t4 := t3.trans s9
        have sZ := (sF.trans s6).trans t4
        -- size in (0, things)
        refine ⟨_, rfl, _, rfl, (by show 2 ≤ sizeLine; decide), fun tp htp => ⟨tp, _, rfl, .inr (SqT.of upd_same), rfl, rfl, _, rfl, ?_⟩⟩
        have t5 := t4.trans (same_new (o := .tup [.int 0, nv n]) htp)
        have sY := sZ.trans (same_new (o := .tup [.int 0, nv n]) htp)
        rw [in0n]
        refine if_true_of (decide_eq_true c) ?_
        refine ⟨_, rfl, rfl, _, rfl, ?_⟩
        refine iteNS rfl ?_
        have ch1 := (ch_one hm).mpr c
        have r00 : r = 0 := by omega
        have ed : es = ds := by
          rw [ees]
          unfold nxt
          rw [u3, ch1, Int.emod_one, eds, r00]
        refine ⟨_, rfl, _, rfl, dtI (iasc ds), dtI (iasc ds), dp_tup (by rw [← ed]; exact t5 _ _ hr7), dp_tup (t5 _ _ hq7), dtI_shaped _, dtI_shaped _, _, rfl, ?_⟩
        rw [dtI_eqv]
        refine iteF ?_
        exact ⟨_, _, _, _, _, _, _, _, _, _, _, _, _, rfl, sY⟩
    · rintro σ H' ⟨v1, v2, v3, v4, v5, v6, v7, v8, v9, v10, v11, v12, v13, rfl, sA⟩
      exact k H'
end
end Dp
namespace Dp
open PySem PySem.Spec PyProof.Rows L2 DpR
/-! ### what the top has written -/
theorem all_mk {l : PySem.W.OpenLaw} {w : World} {K : PySem.W.Frag} {h : Heap} {mg : Str → Option Value} {fa C f1 f2 f3 f4 f5 f6 f7 CB CP CN CC f8 f9 f10 f11 f12 f13 f14 f15 f16 PE CT : Addr} (X : K.In h) (G : h.Ns mainGlobals mg) (hfa : mg "law" = some (.ref fa))
    {od1 an1 od2 an2 od3 an3 od4 an4 od5 an5 od6 an6 od7 an7 od8 an8 od9 an9 od10 an10 od11 an11 od12 an12 od13 an13 od14 an14 od15 an15 od16 an16 : Option Addr} {sl1 sl2 sl3 sl4 sl5 sl6 sl7 sl8 sl9 sl10 sl11 sl12 sl13 sl14 sl15 sl16 : Array (Option Value)} {oc1 kV1 dc1 pm1 cd1 ct1 oc2 kV2 dc2 pm2 cd2 ct2 oc3 kV3 dc3 pm3 cd3 ct3 oc4 kV4 dc4 pm4 cd4 ct4 oc5 kV5 dc5 pm5 cd5 ct5 oc6 kV6 dc6 pm6 cd6 ct6 oc7 kV7 dc7 pm7 cd7 ct7 oc8 kV8 dc8 pm8 cd8 ct8 oc9 kV9 dc9 pm9 cd9 ct9 oc10 kV10 dc10 pm10 cd10 ct10 oc11 kV11 dc11 pm11 cd11 ct11 oc12 kV12 dc12 pm12 cd12 ct12 oc13 kV13 dc13 pm13 cd13 ct13 oc14 kV14 dc14 pm14 cd14 ct14 oc15 kV15 dc15 pm15 cd15 ct15 oc16 kV16 dc16 pm16 cd16 ct16 : Value} {tm : Tok}
    (aC : PySem.W.nsIn K mainGlobals "Picks" = some (some (.ref C)))
    (pgC : PySem.W.plainGet K C Str.empty = true)
    (hdC : PySem.W.hasDictIn K C = true)
    (poC : PySem.W.plainOver K C = true)
    (saC : PySem.W.findIn K (.ref C) "__setattr__" = some (some (.builtin "object.__setattr__")))
    (mkC : PySem.W.makesIn K C = true)
    (kpC : PySem.W.keepIn K (.ref C) = true)
    (nfC0 : PySem.W.findIn K (.ref C) "things" = some none)
    (nfC1 : PySem.W.findIn K (.ref C) "size" = some none)
    (a1 : PySem.W.findIn K (.ref C) "__init__" = some (some (.ref f1)))
    (i1 : PySem.W.isFn K (.ref f1) = true)
    (l1 : K.lookup f1 = some ⟨oc1, od1, .func (PySem.W.fnOf "__init__" "Picks.__init__" (defArgs s_Picks_init) (defBody s_Picks_init) (defScope s_Picks_init) .none kV1 dc1 pm1 an1 cd1 ct1), sl1⟩)
    (c1 : PySem.W.codeIn K cd1 "Picks.__init__" = true)
    (k1 : PySem.W.keepIn K (.ref f1) = true)
    (a2 : PySem.W.findIn K (.ref C) "many" = some (some (.ref f2)))
    (i2 : PySem.W.isFn K (.ref f2) = true)
    (l2 : K.lookup f2 = some ⟨oc2, od2, .func (PySem.W.fnOf "many" "Picks.many" (defArgs s_Picks_many) (defBody s_Picks_many) (defScope s_Picks_many) .none kV2 dc2 pm2 an2 cd2 ct2), sl2⟩)
    (c2 : PySem.W.codeIn K cd2 "Picks.many" = true)
    (k2 : PySem.W.keepIn K (.ref f2) = true)
    (a3 : PySem.W.findIn K (.ref C) "number" = some (some (.ref f3)))
    (i3 : PySem.W.isFn K (.ref f3) = true)
    (l3 : K.lookup f3 = some ⟨oc3, od3, .func (PySem.W.fnOf "number" "Picks.number" (defArgs s_Picks_number) (defBody s_Picks_number) (defScope s_Picks_number) .none kV3 dc3 pm3 an3 cd3 ct3), sl3⟩)
    (c3 : PySem.W.codeIn K cd3 "Picks.number" = true)
    (k3 : PySem.W.keepIn K (.ref f3) = true)
    (a4 : PySem.W.findIn K (.ref C) "at" = some (some (.ref f4)))
    (i4 : PySem.W.isFn K (.ref f4) = true)
    (l4 : K.lookup f4 = some ⟨oc4, od4, .func (PySem.W.fnOf "at" "Picks.at" (defArgs s_Picks_at) (defBody s_Picks_at) (defScope s_Picks_at) .none kV4 dc4 pm4 an4 cd4 ct4), sl4⟩)
    (c4 : PySem.W.codeIn K cd4 "Picks.at" = true)
    (k4 : PySem.W.keepIn K (.ref f4) = true)
    (a5 : PySem.W.findIn K (.ref C) "step" = some (some (.ref f5)))
    (i5 : PySem.W.isFn K (.ref f5) = true)
    (l5 : K.lookup f5 = some ⟨oc5, od5, .func (PySem.W.fnOf "step" "Picks.step" (defArgs s_Picks_step) (defBody s_Picks_step) (defScope s_Picks_step) .none kV5 dc5 pm5 an5 cd5 ct5), sl5⟩)
    (c5 : PySem.W.codeIn K cd5 "Picks.step" = true)
    (k5 : PySem.W.keepIn K (.ref f5) = true)
    (a6 : PySem.W.findIn K (.ref C) "change" = some (some (.ref f6)))
    (i6 : PySem.W.isFn K (.ref f6) = true)
    (l6 : K.lookup f6 = some ⟨oc6, od6, .func (PySem.W.fnOf "change" "Picks.change" (defArgs s_Picks_change) (defBody s_Picks_change) (defScope s_Picks_change) .none kV6 dc6 pm6 an6 cd6 ct6), sl6⟩)
    (c6 : PySem.W.codeIn K cd6 "Picks.change" = true)
    (k6 : PySem.W.keepIn K (.ref f6) = true)
    (a7 : PySem.W.findIn K (.ref C) "compared" = some (some (.ref f7)))
    (i7 : PySem.W.isFn K (.ref f7) = true)
    (l7 : K.lookup f7 = some ⟨oc7, od7, .func (PySem.W.fnOf "compared" "Picks.compared" (defArgs s_Picks_compared) (defBody s_Picks_compared) (defScope s_Picks_compared) .none kV7 dc7 pm7 an7 cd7 ct7), sl7⟩)
    (c7 : PySem.W.codeIn K cd7 "Picks.compared" = true)
    (k7 : PySem.W.keepIn K (.ref f7) = true)
    (aCB : PySem.W.nsIn K mainGlobals "NoBounds" = some (some (.ref CB)))
    (xCB : PySem.W.excIn K CB [.type "ValueError", .type "Exception", .type "BaseException", .type "object"] "ValueError.__new__" = true)
    (kpCB : PySem.W.keepIn K (.ref CB) = true)
    (bCB : PySem.W.subIn K (.ref CB) (.type "BaseException") = some true)
    (tCB : PySem.W.typeIn K (.ref CB) = some (.type "type"))
    (aCP : PySem.W.nsIn K mainGlobals "NoPick" = some (some (.ref CP)))
    (xCP : PySem.W.excIn K CP [.type "ValueError", .type "Exception", .type "BaseException", .type "object"] "ValueError.__new__" = true)
    (kpCP : PySem.W.keepIn K (.ref CP) = true)
    (bCP : PySem.W.subIn K (.ref CP) (.type "BaseException") = some true)
    (tCP : PySem.W.typeIn K (.ref CP) = some (.type "type"))
    (aCN : PySem.W.nsIn K mainGlobals "NoNumber" = some (some (.ref CN)))
    (xCN : PySem.W.excIn K CN [.type "ValueError", .type "Exception", .type "BaseException", .type "object"] "ValueError.__new__" = true)
    (kpCN : PySem.W.keepIn K (.ref CN) = true)
    (bCN : PySem.W.subIn K (.ref CN) (.type "BaseException") = some true)
    (tCN : PySem.W.typeIn K (.ref CN) = some (.type "type"))
    (aCC : PySem.W.nsIn K mainGlobals "NoChange" = some (some (.ref CC)))
    (xCC : PySem.W.excIn K CC [.type "ValueError", .type "Exception", .type "BaseException", .type "object"] "ValueError.__new__" = true)
    (kpCC : PySem.W.keepIn K (.ref CC) = true)
    (bCC : PySem.W.subIn K (.ref CC) (.type "BaseException") = some true)
    (tCC : PySem.W.typeIn K (.ref CC) = some (.type "type"))
    (a8 : PySem.W.nsIn K mainGlobals "is_whole" = some (some (.ref f8)))
    (l8 : K.lookup f8 = some ⟨oc8, od8, .func (PySem.W.fnOf "is_whole" "is_whole" (defArgs s_is_whole) (defBody s_is_whole) (defScope s_is_whole) .none kV8 dc8 pm8 an8 cd8 ct8), sl8⟩)
    (c8 : PySem.W.codeIn K cd8 "is_whole" = true)
    (k8 : PySem.W.keepIn K (.ref f8) = true)
    (a9 : PySem.W.nsIn K mainGlobals "is_rising" = some (some (.ref f9)))
    (l9 : K.lookup f9 = some ⟨oc9, od9, .func (PySem.W.fnOf "is_rising" "is_rising" (defArgs s_is_rising) (defBody s_is_rising) (defScope s_is_rising) .none kV9 dc9 pm9 an9 cd9 ct9), sl9⟩)
    (c9 : PySem.W.codeIn K cd9 "is_rising" = true)
    (k9 : PySem.W.keepIn K (.ref f9) = true)
    (a10 : PySem.W.nsIn K mainGlobals "_law_mixed" = some (some (.ref f10)))
    (l10 : K.lookup f10 = some ⟨oc10, od10, .func (PySem.W.fnOf "_law_mixed" "_law_mixed" (defArgs s_law_mixed) (defBody s_law_mixed) (defScope s_law_mixed) .none kV10 dc10 pm10 an10 cd10 ct10), sl10⟩)
    (c10 : PySem.W.codeIn K cd10 "_law_mixed" = true)
    (k10 : PySem.W.keepIn K (.ref f10) = true)
    (a11 : PySem.W.nsIn K mainGlobals "_law_cell_at" = some (some (.ref f11)))
    (l11 : K.lookup f11 = some ⟨oc11, od11, .func (PySem.W.fnOf "_law_cell_at" "_law_cell_at" (defArgs s_law_cell_at) (defBody s_law_cell_at) (defScope s_law_cell_at) .none kV11 dc11 pm11 an11 cd11 ct11), sl11⟩)
    (c11 : PySem.W.codeIn K cd11 "_law_cell_at" = true)
    (k11 : PySem.W.keepIn K (.ref f11) = true)
    (a12 : PySem.W.nsIn K mainGlobals "_law_wide" = some (some (.ref f12)))
    (l12 : K.lookup f12 = some ⟨oc12, od12, .func (PySem.W.fnOf "_law_wide" "_law_wide" (defArgs s_law_wide) (defBody s_law_wide) (defScope s_law_wide) .none kV12 dc12 pm12 an12 cd12 ct12), sl12⟩)
    (c12 : PySem.W.codeIn K cd12 "_law_wide" = true)
    (k12 : PySem.W.keepIn K (.ref f12) = true)
    (a13 : PySem.W.nsIn K mainGlobals "_law_size" = some (some (.ref f13)))
    (l13 : K.lookup f13 = some ⟨oc13, od13, .func (PySem.W.fnOf "_law_size" "_law_size" (defArgs s_law_size) (defBody s_law_size) (defScope s_law_size) .none kV13 dc13 pm13 an13 cd13 ct13), sl13⟩)
    (c13 : PySem.W.codeIn K cd13 "_law_size" = true)
    (k13 : PySem.W.keepIn K (.ref f13) = true)
    (a14 : PySem.W.nsIn K mainGlobals "_law_kind" = some (some (.ref f14)))
    (l14 : K.lookup f14 = some ⟨oc14, od14, .func (PySem.W.fnOf "_law_kind" "_law_kind" (defArgs s_law_kind) (defBody s_law_kind) (defScope s_law_kind) .none kV14 dc14 pm14 an14 cd14 ct14), sl14⟩)
    (c14 : PySem.W.codeIn K cd14 "_law_kind" = true)
    (k14 : PySem.W.keepIn K (.ref f14) = true)
    (a15 : PySem.W.nsIn K mainGlobals "_law_change" = some (some (.ref f15)))
    (l15 : K.lookup f15 = some ⟨oc15, od15, .func (PySem.W.fnOf "_law_change" "_law_change" (defArgs s_law_change) (defBody s_law_change) (defScope s_law_change) .none kV15 dc15 pm15 an15 cd15 ct15), sl15⟩)
    (c15 : PySem.W.codeIn K cd15 "_law_change" = true)
    (k15 : PySem.W.keepIn K (.ref f15) = true)
    (a16 : PySem.W.nsIn K mainGlobals "law" = some (some (.ref f16)))
    (l16 : K.lookup f16 = some ⟨oc16, od16, .func (PySem.W.fnOf "law" "law" (defArgs s_law) (defBody s_law) (defScope s_law) .none kV16 dc16 pm16 an16 cd16 ct16), sl16⟩)
    (c16 : PySem.W.codeIn K cd16 "law" = true)
    (k16 : PySem.W.keepIn K (.ref f16) = true)
    (z_type : PySem.W.nsIn K mainGlobals "type" = some none)
    (z_int : PySem.W.nsIn K mainGlobals "int" = some none)
    (z_isinstance : PySem.W.nsIn K mainGlobals "isinstance" = some none)
    (z_tuple : PySem.W.nsIn K mainGlobals "tuple" = some none)
    (z_list : PySem.W.nsIn K mainGlobals "list" = some none)
    (z_len : PySem.W.nsIn K mainGlobals "len" = some none)
    (z_enumerate : PySem.W.nsIn K mainGlobals "enumerate" = some none)
    (z_range : PySem.W.nsIn K mainGlobals "range" = some none)
    (z_reversed : PySem.W.nsIn K mainGlobals "reversed" = some none)
    (z_min : PySem.W.nsIn K mainGlobals "min" = some none)
    (z_max : PySem.W.nsIn K mainGlobals "max" = some none)
    (z_ValueError : PySem.W.nsIn K mainGlobals "ValueError" = some none)
    (v_comb : PySem.W.nsIn K mainGlobals "comb" = some (some (.builtin "math.comb")))
    (v_MOST_THINGS : PySem.W.nsIn K mainGlobals "MOST_THINGS" = some (some (.int 200 tm)))
    (aPE : PySem.W.nsIn K mainGlobals "PickError" = some (some (.ref PE)))
    (bPE : PySem.W.subIn K (.ref PE) (.type "BaseException") = some true)
    (dPE : PySem.W.hasDictIn K PE = true)
    (tPE : PySem.W.typeIn K (.ref PE) = some (.type "type"))
    (aCT : PySem.W.nsIn K mainGlobals "NoText" = some (some (.ref CT)))
    (sCC : PySem.W.subIn K (.ref CC) (.ref PE) = some true)
    (sg : PySem.W.specialIn K (.builtin "object.__class__") "__get__" = some (some (.builtin "getset_descriptor.__get__")))
    (st : PySem.W.takesIn K (.builtin "object.__class__") = some true)
    (egCC : PySem.W.findIn K (.ref CC) "__getattribute__" = some (some (.builtin "BaseException.__getattribute__")))
    (ekCC : PySem.W.findIn K (.ref CC) "__getattr__" = some none)
    (edCC : PySem.W.hasDictIn K CC = true)
    (eaCC : PySem.W.findIn K (.ref CC) "__class__" = some (some (.builtin "object.__class__")))
    (emCC : PySem.W.mroIn K CC (.type "object") = some true)
    (ktCCCB : PySem.W.kitOne K (.ref CC) (.ref CB) = some false)
    (ktCCCP : PySem.W.kitOne K (.ref CC) (.ref CP) = some false)
    (ktCCCN : PySem.W.kitOne K (.ref CC) (.ref CN) = some false)
    (ktCCCC : PySem.W.kitOne K (.ref CC) (.ref CC) = some true)
    (ktCCCT : PySem.W.kitOne K (.ref CC) (.ref CT) = some false)
    (kvCC : PySem.W.kitOne K (.ref CC) (.type "ValueError") = some true)
    : ∃ fd : FuncData, (∀ (s : Shared) (v : Value), BindsTo s fd ⟨[v], []⟩ [("_law_script", v)]) ∧ ∀ base : Heap, K.In base → base.Ns mainGlobals mg → FnOk l.prog w K mg base CX0 7 fa fd ["_law_script"] (spLaw K) := by
  have e := hfa.symm.trans (PySem.W.mg_of X G a16)
  cases e
  have F1 := fun_mk (st := s_Picks_init) l1 c1 k1
  have b1 := F1.binds (ps := ["self", "things", "size"]) fun _ _ _ _ _ _ us hl => match us, hl with | [_, _, _], _ => rfl
  have F2 := fun_mk (st := s_Picks_many) l2 c2 k2
  have b2 := F2.binds (ps := ["self"]) fun _ _ _ _ _ _ us hl => match us, hl with | [_], _ => rfl
  have F3 := fun_mk (st := s_Picks_number) l3 c3 k3
  have b3 := F3.binds (ps := ["self", "one"]) fun _ _ _ _ _ _ us hl => match us, hl with | [_, _], _ => rfl
  have F4 := fun_mk (st := s_Picks_at) l4 c4 k4
  have b4 := F4.binds (ps := ["self", "number"]) fun _ _ _ _ _ _ us hl => match us, hl with | [_, _], _ => rfl
  have F5 := fun_mk (st := s_Picks_step) l5 c5 k5
  have b5 := F5.binds (ps := ["self", "one", "by"]) fun _ _ _ _ _ _ us hl => match us, hl with | [_, _, _], _ => rfl
  have F6 := fun_mk (st := s_Picks_change) l6 c6 k6
  have b6 := F6.binds (ps := ["self", "pick"]) fun _ _ _ _ _ _ us hl => match us, hl with | [_, _], _ => rfl
  have F7 := fun_mk (st := s_Picks_compared) l7 c7 k7
  have b7 := F7.binds (ps := ["self", "one", "other"]) fun _ _ _ _ _ _ us hl => match us, hl with | [_, _, _], _ => rfl
  have F8 := fun_mk (st := s_is_whole) l8 c8 k8
  have b8 := F8.binds (ps := ["asked", "low", "high"]) fun _ _ _ _ _ _ us hl => match us, hl with | [_, _, _], _ => rfl
  have F9 := fun_mk (st := s_is_rising) l9 c9 k9
  have b9 := F9.binds (ps := ["row", "things"]) fun _ _ _ _ _ _ us hl => match us, hl with | [_, _], _ => rfl
  have F10 := fun_mk (st := s_law_mixed) l10 c10 k10
  have b10 := F10.binds (ps := ["_law_cell", "_law_k"]) fun _ _ _ _ _ _ us hl => match us, hl with | [_, _], _ => rfl
  have F11 := fun_mk (st := s_law_cell_at) l11 c11 k11
  have b11 := F11.binds (ps := ["_law_script", "_law_k"]) fun _ _ _ _ _ _ us hl => match us, hl with | [_, _], _ => rfl
  have F12 := fun_mk (st := s_law_wide) l12 c12 k12
  have b12 := F12.binds (ps := ["_law_cell", "_law_bound"]) fun _ _ _ _ _ _ us hl => match us, hl with | [_, _], _ => rfl
  have F13 := fun_mk (st := s_law_size) l13 c13 k13
  have b13 := F13.binds (ps := ["_law_cell"]) fun _ _ _ _ _ _ us hl => match us, hl with | [_], _ => rfl
  have F14 := fun_mk (st := s_law_kind) l14 c14 k14
  have b14 := F14.binds (ps := ["_law_e"]) fun _ _ _ _ _ _ us hl => match us, hl with | [_], _ => rfl
  have F15 := fun_mk (st := s_law_change) l15 c15 k15
  have b15 := F15.binds (ps := ["_law_told", "_law_pick"]) fun _ _ _ _ _ _ us hl => match us, hl with | [_, _], _ => rfl
  have F16 := fun_mk (st := s_law) l16 c16 k16
  have ECB : ExT K mg "NoBounds" CB := ⟨PySem.W.mg_of X G aCB, xCB, kpCB, bCB, tCB⟩
  have ECP : ExT K mg "NoPick" CP := ⟨PySem.W.mg_of X G aCP, xCP, kpCP, bCP, tCP⟩
  have ECN : ExT K mg "NoNumber" CN := ⟨PySem.W.mg_of X G aCN, xCN, kpCN, bCN, tCN⟩
  have ECC : ExT K mg "NoChange" CC := ⟨PySem.W.mg_of X G aCC, xCC, kpCC, bCC, tCC⟩
  have n_type := PySem.W.mg_none_of X G z_type
  have n_int := PySem.W.mg_none_of X G z_int
  have n_isinstance := PySem.W.mg_none_of X G z_isinstance
  have n_tuple := PySem.W.mg_none_of X G z_tuple
  have n_list := PySem.W.mg_none_of X G z_list
  have n_len := PySem.W.mg_none_of X G z_len
  have n_enumerate := PySem.W.mg_none_of X G z_enumerate
  have n_range := PySem.W.mg_none_of X G z_range
  have n_reversed := PySem.W.mg_none_of X G z_reversed
  have n_min := PySem.W.mg_none_of X G z_min
  have n_max := PySem.W.mg_none_of X G z_max
  have n_ValueError := PySem.W.mg_none_of X G z_ValueError
  have w_comb := PySem.W.mg_of X G v_comb
  have w_MOST_THINGS := PySem.W.mg_of X G v_MOST_THINGS
  have hG : Glb mg := ⟨n_type, n_int, n_isinstance, n_tuple, n_list, n_len, n_enumerate, n_range, n_reversed, w_comb, ⟨tm, w_MOST_THINGS⟩⟩
  have hT : PkC K C := ⟨⟨pgC, hdC, poC, saC⟩, nfC0, nfC1⟩
  have hKG : KG mg CB CP CN CC CT := ⟨n_isinstance, n_ValueError, ECB.g, ECP.g, ECN.g, ECC.g, PySem.W.mg_of X G aCT⟩
  have hkC : KindX K CB CP CN CC CT CC 3 := ⟨⟨egCC, ekCC, bCC, edCC, eaCC, sg, st, emCC⟩, ktCCCB, ktCCCP, ktCCCN, ktCCCC, ktCCCT, kvCC⟩
  exact ⟨PySem.W.fnOf "law" "law" (defArgs s_law) (defBody s_law) (defScope s_law) .none kV16 dc16 pm16 an16 cd16 ct16, fun s v => .of_eq rfl, fun base _ _ => ok_law F16 ⟨hG, ⟨n_len, n_range, n_min, n_max⟩, ⟨n_isinstance, n_tuple, n_list⟩, hT, PySem.W.mg_of X G aC, ⟨mkC, a1, i1, kpC⟩, ECB, ECP, ECN, ECC, hKG, ⟨PySem.W.mg_of X G aPE, bPE, dPE, tPE⟩, sCC, hkC, ⟨F8, b8, (PySem.W.mg_of X G a8)⟩, ⟨F9, b9, (PySem.W.mg_of X G a9)⟩, F1, b1, ⟨F2, b2, ⟨a2, i2, k2⟩⟩, ⟨F3, b3, ⟨a3, i3, k3⟩⟩, ⟨F4, b4, ⟨a4, i4, k4⟩⟩, ⟨F5, b5, ⟨a5, i5, k5⟩⟩, ⟨F6, b6, ⟨a6, i6, k6⟩⟩, ⟨F7, b7, ⟨a7, i7, k7⟩⟩, ⟨F10, b10, (PySem.W.mg_of X G a10)⟩, ⟨F11, b11, (PySem.W.mg_of X G a11)⟩, ⟨F12, b12, (PySem.W.mg_of X G a12)⟩, ⟨F13, b13, (PySem.W.mg_of X G a13)⟩, ⟨F14, b14, (PySem.W.mg_of X G a14)⟩, ⟨F15, b15, (PySem.W.mg_of X G a15)⟩⟩⟩
theorem walk {l : PySem.W.OpenLaw} {q : Program} {loose : List Str} {XP : (Str → Option Value) → Heap → Prop} {YP : World → Heap → Prop} {d : DefRec} {K : Params → PySem.W.Frag} (hn : l.most = some 63) (hdf : d.params.defaults = [])
    (hY : ∀ (w : World) (h : Heap), YP w h → (K w.params).In h)
    (F : ∀ (w : World) (mg : Str → Option Value) (fa : Addr) (h : Heap), (K w.params).In h → h.Ns mainGlobals mg → mg d.name = some (.ref fa) →
      ∃ fd : FuncData, (∀ (s : Shared) (u : Value), BindsTo s fd ⟨[u], []⟩ [("_law_script", u)]) ∧ ∀ base : Heap, (K w.params).In base → base.Ns mainGlobals mg → FnOk l.prog w (K w.params) mg base CX0 7 fa fd ["_law_script"] (spLaw (K w.params))) :
    PySem.W.WalkO q loose XP YP l.row.toRowW d [] (fun f vs => PySem.call f vs) :=
  L2.walk_of (n := 63) (k := 7) (x := "_law_script") (CX := fun _ => CX0) (sp := fun w => spLaw (K w.params)) hn (by decide) hdf ⟨rfl, by decide, by decide⟩ hY F (fun _ _ a ns hl _ hS => ⟨a, ns, rfl, hS, hl, fun _ => rfl⟩) fun _ _ _ _ _ z => z
end Dp
open PySem PySem.W PyProof.Rows
set_option maxRecDepth 100000 in
set_option maxHeartbeats 0 in
theorem PySem.Challenge.cw_doorpicks_k05_whole_one_out_one_in_holds : PySem.Challenge.rw_doorpicks_k05_whole_one_out_one_in.Holds := by
  w_on; o_law; k_head; (case hw => w_witness2)
  k_fill
  refine Dp.walk (l := PySem.Challenge.rw_doorpicks_k05_whole_one_out_one_in) rfl rfl (fun w h Y => PySem.W.kIn_of Y) ?F
  case F =>
    intro w mg fa h KX G hmg
    refine' Dp.all_mk KX G hmg ?aC ?pgC ?hdC ?poC ?saC ?mkC ?kpC ?nfC0 ?nfC1 ?a1 ?i1 ?l1 ?c1 ?k1 ?a2 ?i2 ?l2 ?c2 ?k2 ?a3 ?i3 ?l3 ?c3 ?k3 ?a4 ?i4 ?l4 ?c4 ?k4 ?a5 ?i5 ?l5 ?c5 ?k5 ?a6 ?i6 ?l6 ?c6 ?k6 ?a7 ?i7 ?l7 ?c7 ?k7 ?aCB ?xCB ?kpCB ?bCB ?tCB ?aCP ?xCP ?kpCP ?bCP ?tCP ?aCN ?xCN ?kpCN ?bCN ?tCN ?aCC ?xCC ?kpCC ?bCC ?tCC ?a8 ?l8 ?c8 ?k8 ?a9 ?l9 ?c9 ?k9 ?a10 ?l10 ?c10 ?k10 ?a11 ?l11 ?c11 ?k11 ?a12 ?l12 ?c12 ?k12 ?a13 ?l13 ?c13 ?k13 ?a14 ?l14 ?c14 ?k14 ?a15 ?l15 ?c15 ?k15 ?a16 ?l16 ?c16 ?k16 ?z_type ?z_int ?z_isinstance ?z_tuple ?z_list ?z_len ?z_enumerate ?z_range ?z_reversed ?z_min ?z_max ?z_ValueError ?v_comb ?v_MOST_THINGS ?aPE ?bPE ?dPE ?tPE ?aCT ?sCC ?sg ?st ?egCC ?ekCC ?edCC ?eaCC ?emCC ?ktCCCB ?ktCCCP ?ktCCCN ?ktCCCC ?ktCCCT ?kvCC
    (case aC => first | rfl | k_is)
    (case pgC => first | rfl | k_is)
    (case hdC => first | rfl | k_is)
    (case poC => first | rfl | k_is)
    (case saC => first | rfl | k_is)
    (case mkC => first | rfl | k_is)
    (case kpC => first | rfl | k_is)
    (case nfC0 => first | rfl | k_is)
    (case nfC1 => first | rfl | k_is)
    (case a1 => first | rfl | k_is)
    (case i1 => first | rfl | k_is)
    (case l1 => first | rfl | k_is)
    (case c1 => first | rfl | k_is)
    (case k1 => first | rfl | k_is)
    (case a2 => first | rfl | k_is)
    (case i2 => first | rfl | k_is)
    (case l2 => first | rfl | k_is)
    (case c2 => first | rfl | k_is)
    (case k2 => first | rfl | k_is)
    (case a3 => first | rfl | k_is)
    (case i3 => first | rfl | k_is)
    (case l3 => first | rfl | k_is)
    (case c3 => first | rfl | k_is)
    (case k3 => first | rfl | k_is)
    (case a4 => first | rfl | k_is)
    (case i4 => first | rfl | k_is)
    (case l4 => first | rfl | k_is)
    (case c4 => first | rfl | k_is)
    (case k4 => first | rfl | k_is)
    (case a5 => first | rfl | k_is)
    (case i5 => first | rfl | k_is)
    (case l5 => first | rfl | k_is)
    (case c5 => first | rfl | k_is)
    (case k5 => first | rfl | k_is)
    (case a6 => first | rfl | k_is)
    (case i6 => first | rfl | k_is)
    (case l6 => first | rfl | k_is)
    (case c6 => first | rfl | k_is)
    (case k6 => first | rfl | k_is)
    (case a7 => first | rfl | k_is)
    (case i7 => first | rfl | k_is)
    (case l7 => first | rfl | k_is)
    (case c7 => first | rfl | k_is)
    (case k7 => first | rfl | k_is)
    (case aCB => first | rfl | k_is)
    (case xCB => k_exc)
    (case kpCB => first | rfl | k_is)
    (case bCB => first | rfl | k_is)
    (case tCB => first | rfl | k_is)
    (case aCP => first | rfl | k_is)
    (case xCP => k_exc)
    (case kpCP => first | rfl | k_is)
    (case bCP => first | rfl | k_is)
    (case tCP => first | rfl | k_is)
    (case aCN => first | rfl | k_is)
    (case xCN => k_exc)
    (case kpCN => first | rfl | k_is)
    (case bCN => first | rfl | k_is)
    (case tCN => first | rfl | k_is)
    (case aCC => first | rfl | k_is)
    (case xCC => k_exc)
    (case kpCC => first | rfl | k_is)
    (case bCC => first | rfl | k_is)
    (case tCC => first | rfl | k_is)
    (case a8 => first | rfl | k_is)
    (case l8 => first | rfl | k_is)
    (case c8 => first | rfl | k_is)
    (case k8 => first | rfl | k_is)
    (case a9 => first | rfl | k_is)
    (case l9 => first | rfl | k_is)
    (case c9 => first | rfl | k_is)
    (case k9 => first | rfl | k_is)
    (case a10 => first | rfl | k_is)
    (case l10 => first | rfl | k_is)
    (case c10 => first | rfl | k_is)
    (case k10 => first | rfl | k_is)
    (case a11 => first | rfl | k_is)
    (case l11 => first | rfl | k_is)
    (case c11 => first | rfl | k_is)
    (case k11 => first | rfl | k_is)
    (case a12 => first | rfl | k_is)
    (case l12 => first | rfl | k_is)
    (case c12 => first | rfl | k_is)
    (case k12 => first | rfl | k_is)
    (case a13 => first | rfl | k_is)
    (case l13 => first | rfl | k_is)
    (case c13 => first | rfl | k_is)
    (case k13 => first | rfl | k_is)
    (case a14 => first | rfl | k_is)
    (case l14 => first | rfl | k_is)
    (case c14 => first | rfl | k_is)
    (case k14 => first | rfl | k_is)
    (case a15 => first | rfl | k_is)
    (case l15 => first | rfl | k_is)
    (case c15 => first | rfl | k_is)
    (case k15 => first | rfl | k_is)
    (case a16 => first | rfl | k_is)
    (case l16 => first | rfl | k_is)
    (case c16 => first | rfl | k_is)
    (case k16 => first | rfl | k_is)
    (case z_type => first | rfl | k_is)
    (case z_int => first | rfl | k_is)
    (case z_isinstance => first | rfl | k_is)
    (case z_tuple => first | rfl | k_is)
    (case z_list => first | rfl | k_is)
    (case z_len => first | rfl | k_is)
    (case z_enumerate => first | rfl | k_is)
    (case z_range => first | rfl | k_is)
    (case z_reversed => first | rfl | k_is)
    (case z_min => first | rfl | k_is)
    (case z_max => first | rfl | k_is)
    (case z_ValueError => first | rfl | k_is)
    (case v_comb => first | rfl | k_is)
    (case v_MOST_THINGS => first | rfl | k_is)
    (case aPE => first | rfl | k_is)
    (case bPE => first | rfl | k_is)
    (case dPE => first | rfl | k_is)
    (case tPE => first | rfl | k_is)
    (case aCT => first | rfl | k_is)
    (case sCC => first | rfl | k_is)
    (case sg => first | rfl | k_is)
    (case st => first | rfl | k_is)
    (case egCC => first | rfl | k_is)
    (case ekCC => first | rfl | k_is)
    (case edCC => first | rfl | k_is)
    (case eaCC => first | rfl | k_is)
    (case emCC => first | rfl | k_is)
    (case ktCCCB => first | rfl | k_is)
    (case ktCCCP => first | rfl | k_is)
    (case ktCCCN => first | rfl | k_is)
    (case ktCCCC => first | rfl | k_is)
    (case ktCCCT => first | rfl | k_is)
    (case kvCC => first | rfl | k_is)
#print axioms PySem.Challenge.cw_doorpicks_k05_whole_one_out_one_in_holds
