import PyProof.Rows.All
import Wide.All
import OpenK.AllK
import Wide.FinOn
import HandS.ForExc
import HandS.Comp
import HandS.Dict
import HandS.Iter
import HandS.Walk
import HandS.IsInst
import HandS.Rev
import HandS.Gcd
import HandS.More
import KE.KMathGC
import KE.GoesEnumKw
import HandS.ExcIs
import HandS.ExcValue
import HandS.TupAny
import HandS.Style
import HandS.Conv
import HandS.SortInts
import HandS.CallLocal
import HandS.TupLen
import HandS.AnyAll
import PyProof.GenCompD
import HandS.EndTab
import KE.GoesMore
import HandS.Zip
import PySem.Challenge.RW_doorpicks_k10_all_rows_of_few
set_option Elab.async false
set_option linter.all false
set_option maxRecDepth 100000
set_option maxHeartbeats 4000000
namespace Dp
/-! ways to pick -/
def ch : Nat → Nat → Nat
  | _, 0 => 1
  | 0, _ + 1 => 0
  | n + 1, k + 1 => ch n k + ch n (k + 1)
theorem ch_zero (n : Nat) : ch n 0 = 1 := by cases n <;> rfl
theorem ch_succ (n k : Nat) : ch (n + 1) (k + 1) = ch n k + ch n (k + 1) := rfl
theorem ch_above : ∀ {n k : Nat}, n < k → ch n k = 0
  | n, 0, h => absurd h (Nat.not_lt_zero _)
  | 0, k + 1, _ => rfl
  | n + 1, k + 1, h => by
    rw [ch_succ, ch_above (n := n) (k := k) (by omega), ch_above (n := n) (k := k + 1) (by omega)]
theorem ch_self : ∀ n : Nat, ch n n = 1
  | 0 => rfl
  | n + 1 => by rw [ch_succ, ch_self n, ch_above (Nat.lt_succ_self n)]
theorem ch_pos : ∀ {n k : Nat}, k ≤ n → 1 ≤ ch n k
  | n, 0, _ => by rw [ch_zero]; exact Nat.le_refl 1
  | 0, k + 1, h => absurd h (by omega)
  | n + 1, k + 1, h => by
    rw [ch_succ]
    have := ch_pos (n := n) (k := k) (by omega)
    omega
theorem ch_step (n k : Nat) : ch n k ≤ ch (n + 1) k := by
  cases k with
  | zero => rw [ch_zero, ch_zero]; exact Nat.le_refl _
  | succ k => rw [ch_succ]; exact Nat.le_add_left _ _
theorem ch_mono {n m k : Nat} (h : n ≤ m) : ch n k ≤ ch m k := by
  induction m with
  | zero =>
    have e : n = 0 := by omega
    subst e
    exact Nat.le_refl _
  | succ m ih =>
    by_cases e : n = m + 1
    · subst e; exact Nat.le_refl _
    · exact Nat.le_trans (ih (by omega)) (ch_step m k)
theorem ch_two {n k : Nat} (h0 : 0 < k) (h1 : k < n) : 2 ≤ ch n k := by
  obtain ⟨n, rfl⟩ : ∃ m, n = m + 1 := ⟨n - 1, by omega⟩
  obtain ⟨k, rfl⟩ : ∃ m, k = m + 1 := ⟨k - 1, by omega⟩
  rw [ch_succ]
  have a := ch_pos (n := n) (k := k) (by omega)
  have b := ch_pos (n := n) (k := k + 1) (by omega)
  omega
/-! falling products: the ways by a quotient -/
def fp (n : Int) : Nat → Int
  | 0 => 1
  | k + 1 => fp n k * (n - (k : Int))
theorem fp_shift (n : Int) : ∀ k : Nat, fp (n + 1) (k + 1) = (n + 1) * fp n k
  | 0 => by show (1 : Int) * (n + 1 - ((0 : Nat) : Int)) = (n + 1) * 1; simp
  | k + 1 => by
    show fp (n + 1) (k + 1) * (n + 1 - ((k + 1 : Nat) : Int)) = (n + 1) * (fp n k * (n - (k : Int)))
    rw [fp_shift n k]
    have e : n + 1 - ((k + 1 : Nat) : Int) = n - (k : Int) := by omega
    rw [e, Int.mul_assoc]
theorem fp_pascal (n : Int) (k : Nat) : fp (n + 1) (k + 1) = fp n (k + 1) + ((k : Int) + 1) * fp n k := by
  rw [fp_shift]
  show (n + 1) * fp n k = fp n k * (n - (k : Int)) + ((k : Int) + 1) * fp n k
  rw [Int.mul_comm (fp n k), ← Int.add_mul]
  congr 1
  omega
theorem fp_zero_succ (k : Nat) : fp 0 (k + 1) = 0 := by
  have e : fp (0 : Int) (k + 1) = fp ((-1 : Int) + 1) (k + 1) := rfl
  rw [e, fp_shift]
  show (-1 + 1 : Int) * _ = 0
  rw [show (-1 + 1 : Int) = 0 from rfl, Int.zero_mul]
theorem fp_self_pos : ∀ k : Nat, 0 < fp (k : Int) k
  | 0 => by show (0 : Int) < 1; decide
  | k + 1 => by
    have e : ((k + 1 : Nat) : Int) = (k : Int) + 1 := by omega
    rw [e, fp_shift]
    exact Int.mul_pos (by omega) (fp_self_pos k)
theorem ch_fp : ∀ n k : Nat, (ch n k : Int) * fp (k : Int) k = fp (n : Int) k
  | n, 0 => by rw [ch_zero]; rfl
  | 0, k + 1 => by
    show ((0 : Nat) : Int) * _ = fp 0 (k + 1)
    rw [fp_zero_succ]; simp
  | n + 1, k + 1 => by
    rw [ch_succ, Int.natCast_add, Int.add_mul, ch_fp n (k + 1)]
    have e1 : ((k + 1 : Nat) : Int) = (k : Int) + 1 := by omega
    have e2 : ((n + 1 : Nat) : Int) = (n : Int) + 1 := by omega
    rw [e2, fp_pascal]
    have e3 : fp ((k + 1 : Nat) : Int) (k + 1) = ((k : Int) + 1) * fp (k : Int) k := by rw [e1, fp_shift]
    rw [e3, ← Int.mul_assoc, Int.mul_comm (ch n k : Int), Int.mul_assoc, ch_fp n k, Int.add_comm]
theorem ch_div (n k : Nat) : fp (n : Int) k / fp (k : Int) k = (ch n k : Int) := by
  rw [← ch_fp n k]
  exact Int.mul_ediv_cancel _ (by have := fp_self_pos k; omega)
theorem ch_sym : ∀ {n k : Nat}, k ≤ n → ch n k = ch n (n - k)
  | 0, k, h => by
    have e : k = 0 := by omega
    subst e; rfl
  | n + 1, 0, h => by rw [ch_zero, Nat.sub_zero, ch_self]
  | n + 1, k + 1, h => by
    by_cases e : k = n
    · subst e
      rw [ch_self, Nat.sub_self, ch_zero]
    · rw [ch_succ, ch_sym (n := n) (k := k) (by omega), ch_sym (n := n) (k := k + 1) (by omega)]
      obtain ⟨d, hd⟩ : ∃ d, n - k = d + 1 := ⟨n - k - 1, by omega⟩
      have e1 : n + 1 - (k + 1) = d + 1 := by omega
      have e2 : n - (k + 1) = d := by omega
      rw [e1, hd, e2, ch_succ, Nat.add_comm]
/-! picks: things falling (the greatest first) -/
def Desc : Nat → List Nat → Prop
  | _, [] => True
  | n, g :: r => g < n ∧ Desc g r
def rk : List Nat → Int
  | [] => 0
  | g :: r => (ch (g + 1) (r.length + 1) : Int) - 1 - rk r
theorem Desc.mono {n m : Nat} {l : List Nat} (h : Desc n l) (le : n ≤ m) : Desc m l := by
  cases l with
  | nil => trivial
  | cons g r => exact ⟨Nat.lt_of_lt_of_le h.1 le, h.2⟩
theorem Desc.len : ∀ {n : Nat} {l : List Nat}, Desc n l → l.length ≤ n
  | _, [], _ => Nat.zero_le _
  | n, g :: r, h => by
    have := Desc.len h.2
    have := h.1
    show r.length + 1 ≤ n
    omega
theorem Desc.mem : ∀ {n : Nat} {l : List Nat}, Desc n l → ∀ x ∈ l, x < n
  | _, [], _, x, h => by simp at h
  | n, g :: r, h, x, hx => by
    rcases List.mem_cons.mp hx with e | e
    · rw [e]; exact h.1
    · exact Nat.lt_trans (Desc.mem h.2 x e) h.1
theorem rk_bounds : ∀ {n : Nat} {l : List Nat}, Desc n l → 0 ≤ rk l ∧ rk l < ch n l.length
  | n, [], _ => by
    show (0 : Int) ≤ 0 ∧ (0 : Int) < ch n 0
    rw [ch_zero]; exact ⟨Int.le_refl _, by decide⟩
  | n, g :: r, h => by
    have ⟨a, b⟩ := rk_bounds h.2
    have c : ch (g + 1) (r.length + 1) ≤ ch n (r.length + 1) := ch_mono h.1
    have e := ch_succ g r.length
    show 0 ≤ (ch (g + 1) (r.length + 1) : Int) - 1 - rk r ∧ (ch (g + 1) (r.length + 1) : Int) - 1 - rk r < ch n (r.length + 1)
    omega
theorem rk_head {g : Nat} {r : List Nat} (h : Desc g r) : (ch g (r.length + 1) : Int) ≤ rk (g :: r) ∧ rk (g :: r) < ch (g + 1) (r.length + 1) := by
  have ⟨a, b⟩ := rk_bounds h
  have e := ch_succ g r.length
  show (ch g (r.length + 1) : Int) ≤ (ch (g + 1) (r.length + 1) : Int) - 1 - rk r ∧ (ch (g + 1) (r.length + 1) : Int) - 1 - rk r < ch (g + 1) (r.length + 1)
  omega
theorem head_one {g g' k : Nat} {p : Int} (h1 : (ch g k : Int) ≤ p) (h2 : p < ch (g + 1) k) (h3 : (ch g' k : Int) ≤ p) (h4 : p < ch (g' + 1) k) : g = g' := by
  rcases Nat.lt_trichotomy g g' with h | h | h
  · have := ch_mono (k := k) (show g + 1 ≤ g' from h)
    omega
  · exact h
  · have := ch_mono (k := k) (show g' + 1 ≤ g from h)
    omega
theorem rk_inj : ∀ {a b : List Nat} {n m : Nat}, Desc n a → Desc m b → a.length = b.length → rk a = rk b → a = b
  | [], [], _, _, _, _, _, _ => rfl
  | [], _ :: _, _, _, _, _, h, _ => by simp at h
  | _ :: _, [], _, _, _, _, h, _ => by simp at h
  | g :: r, g' :: r', n, m, ha, hb, hl, hr => by
    have hl' : r.length = r'.length := by simpa using hl
    have ⟨a1, a2⟩ := rk_head ha.2
    have ⟨b1, b2⟩ := rk_head hb.2
    rw [← hl'] at b1 b2
    rw [← hr] at b1 b2
    have e := head_one a1 a2 b1 b2
    subst e
    have e2 : rk r = rk r' := by
      have q : (ch (g + 1) (r.length + 1) : Int) - 1 - rk r = (ch (g + 1) (r'.length + 1) : Int) - 1 - rk r' := hr
      rw [hl'] at q
      omega
    rw [rk_inj ha.2 hb.2 hl' e2]
/-- the search: the greatest g below n with no more than p ahead -/
def dn (k : Nat) (p : Int) : Nat → Nat
  | 0 => 0
  | g + 1 => if (ch (g + 1) k : Int) > p then dn k p g else g + 1
theorem dn_spec {k : Nat} {p : Int} (hk : 0 < k) (hp : 0 ≤ p) : ∀ n : Nat, p < ch n k → dn k p n < n ∧ (ch (dn k p n) k : Int) ≤ p ∧ p < ch (dn k p n + 1) k
  | 0, h => by
    rw [ch_above hk] at h
    exact absurd h (by omega)
  | n + 1, h => by
    show dn k p (n + 1) < n + 1 ∧ _
    have e : dn k p (n + 1) = dn k p n := by
      show (if (ch (n + 1) k : Int) > p then dn k p n else n + 1) = dn k p n
      rw [if_pos h]
    rw [e]
    by_cases c : p < ch n k
    · have ⟨a, b, d⟩ := dn_spec hk hp n c
      exact ⟨Nat.lt_succ_of_lt a, b, d⟩
    · have e2 : dn k p n = n := by
        cases n with
        | zero => rfl
        | succ m =>
          show (if (ch (m + 1) k : Int) > p then dn k p m else m + 1) = m + 1
          rw [if_neg (by omega)]
      rw [e2]
      exact ⟨Nat.lt_succ_self n, by omega, h⟩
def un : Nat → Nat → Int → List Nat
  | _, 0, _ => []
  | n, k + 1, p => dn (k + 1) p n :: un (dn (k + 1) p n) k ((ch (dn (k + 1) p n + 1) (k + 1) : Int) - 1 - p)
theorem un_spec : ∀ (k n : Nat) (p : Int), 0 ≤ p → p < ch n k → Desc n (un n k p) ∧ (un n k p).length = k ∧ rk (un n k p) = p
  | 0, n, p, h0, h1 => by
    rw [ch_zero] at h1
    refine ⟨trivial, rfl, ?_⟩
    show (0 : Int) = p
    omega
  | k + 1, n, p, h0, h1 => by
    have ⟨a, b, c⟩ := dn_spec (k := k + 1) (Nat.succ_pos k) h0 n h1
    have e := ch_succ (dn (k + 1) p n) k
    have ⟨d1, d2, d3⟩ := un_spec k (dn (k + 1) p n) ((ch (dn (k + 1) p n + 1) (k + 1) : Int) - 1 - p) (by omega) (by omega)
    refine ⟨⟨a, d1⟩, ?_, ?_⟩
    · show (un _ k _).length + 1 = k + 1
      rw [d2]
    · show (ch (dn (k + 1) p n + 1) ((un _ k _).length + 1) : Int) - 1 - rk (un _ k _) = p
      rw [d2, d3]
      omega
theorem un_rk {n : Nat} {l : List Nat} (h : Desc n l) : un n l.length (rk l) = l := by
  have ⟨a, b⟩ := rk_bounds h
  have ⟨d1, d2, d3⟩ := un_spec l.length n (rk l) a b
  exact rk_inj d1 h d2 d3
theorem un_more {n m k : Nat} {p : Int} (hn : n ≤ m) (h0 : 0 ≤ p) (h1 : p < ch n k) : un m k p = un n k p := by
  have ⟨a1, a2, a3⟩ := un_spec k n p h0 h1
  have le : ch n k ≤ ch m k := ch_mono hn
  have ⟨b1, b2, b3⟩ := un_spec k m p h0 (by omega)
  exact rk_inj b1 a1 (by rw [a2, b2]) (by rw [a3, b3])
/-! the first pick -/
def fst : Nat → List Nat
  | 0 => []
  | m + 1 => m :: fst m
theorem fst_len : ∀ m : Nat, (fst m).length = m
  | 0 => rfl
  | m + 1 => by show (fst m).length + 1 = m + 1; rw [fst_len m]
theorem fst_desc : ∀ m : Nat, Desc m (fst m)
  | 0 => trivial
  | m + 1 => ⟨Nat.lt_succ_self m, fst_desc m⟩
theorem fst_mem : ∀ {m x : Nat}, x ∈ fst m ↔ x < m
  | 0, x => by simp [fst]
  | m + 1, x => by
    show x ∈ m :: fst m ↔ _
    rw [List.mem_cons, fst_mem (m := m)]
    omega
theorem fst_rk : ∀ m : Nat, rk (fst m) = 0
  | 0 => rfl
  | m + 1 => by
    show (ch (m + 1) ((fst m).length + 1) : Int) - 1 - rk (fst m) = 0
    rw [fst_len, ch_self, fst_rk m]; rfl
theorem fst_of {n : Nat} {l : List Nat} (h : Desc n l) (e : rk l = 0) : l = fst l.length :=
  rk_inj h (fst_desc _) (fst_len _).symm (by rw [e, fst_rk])
/-- the last pick: the greatest thing, and the first ones of the rest -/
theorem last_of {n m : Nat} {l : List Nat} (h : Desc n l) (hl : l.length = m + 1) (e : rk l = (ch n (m + 1) : Int) - 1) : l = (n - 1) :: fst m := by
  have hn : m + 1 ≤ n := by rw [← hl]; exact h.len
  obtain ⟨k, rfl⟩ : ∃ k, n = k + 1 := ⟨n - 1, by omega⟩
  refine rk_inj h (m := k + 1) ⟨Nat.lt_succ_self _, (fst_desc m).mono (by omega)⟩ (by rw [hl]; show m + 1 = (fst m).length + 1; rw [fst_len]) ?_
  rw [e]
  show _ = (ch (k + 1 - 1 + 1) ((fst m).length + 1) : Int) - 1 - rk (fst m)
  rw [fst_len, fst_rk]
  simp
/-! one goes out, one comes in -/
structure Ex (a b : List Nat) (o i : Nat) : Prop where
  oa : o ∈ a
  ob : o ∉ b
  ib : i ∈ b
  ia : i ∉ a
  same : ∀ x, x ≠ o → x ≠ i → (x ∈ a ↔ x ∈ b)
theorem Ex.symm {a b : List Nat} {o i : Nat} (h : Ex a b o i) : Ex b a i o := ⟨h.ib, h.ia, h.oa, h.ob, fun x h1 h2 => (h.same x h2 h1).symm⟩
theorem Ex.cons {a b : List Nat} {o i g : Nat} (h : Ex a b o i) (ho : o ≠ g) (hi : i ≠ g) : Ex (g :: a) (g :: b) o i :=
  ⟨List.mem_cons_of_mem _ h.oa, fun q => (List.mem_cons.mp q).elim ho h.ob, List.mem_cons_of_mem _ h.ib, fun q => (List.mem_cons.mp q).elim hi h.ia, fun x h1 h2 => by rw [List.mem_cons, List.mem_cons, h.same x h1 h2]⟩
theorem ex_next : ∀ {a b : List Nat} {n m : Nat}, Desc n a → Desc m b → a.length = b.length → rk b = rk a + 1 → ∃ o i, Ex a b o i
  | [], [], _, _, _, _, _, h => by
    have h' : (0 : Int) = 0 + 1 := h
    exact absurd h' (by decide)
  | [], _ :: _, _, _, _, _, h, _ => by simp at h
  | _ :: _, [], _, _, _, _, h, _ => by simp at h
  | ga :: ra, gb :: rb, n, m, ha, hb, hl, hr => by
    have hl' : ra.length = rb.length := by simpa using hl
    have ⟨a1, a2⟩ := rk_head ha.2
    have ⟨b1, b2⟩ := rk_head hb.2
    have ea : rk (ga :: ra) = (ch (ga + 1) (ra.length + 1) : Int) - 1 - rk ra := rfl
    have eb : rk (gb :: rb) = (ch (gb + 1) (rb.length + 1) : Int) - 1 - rk rb := rfl
    rcases Nat.lt_trichotomy ga gb with h | h | h
    · have c1 := ch_mono (k := ra.length + 1) (show ga + 1 ≤ gb from h)
      have la := ha.2.len
      have eg : gb = ga + 1 := by
        apply Classical.byContradiction
        intro ne
        have c2 := ch_mono (k := ra.length + 1) (show ga + 1 + 1 ≤ gb by omega)
        have c3 := ch_succ (ga + 1) ra.length
        have c4 := ch_pos (n := ga + 1) (k := ra.length) (by omega)
        rw [← hl'] at b1
        omega
      subst eg
      rw [← hl'] at b1 eb
      have ra0 : rk ra = 0 := by omega
      have e1 := ch_succ (ga + 1) ra.length
      have rbl : rk rb = (ch (ga + 1) ra.length : Int) - 1 := by omega
      have ra_is := fst_of ha.2 ra0
      cases hm : ra.length with
      | zero =>
        have e1 : ra = [] := List.length_eq_zero_iff.mp hm
        have e2 : rb = [] := List.length_eq_zero_iff.mp (by omega)
        subst e1 e2
        exact ⟨ga, ga + 1, by simp, by simp, by simp, by simp, fun x h1 h2 => by simp [h1, h2]⟩
      | succ j =>
        have rb_is := last_of hb.2 (m := j) (by omega) (by rw [rbl, hm])
        rw [hm] at ra_is
        have e3 : ga + 1 - 1 = ga := rfl
        rw [e3] at rb_is
        have jl : j < ga := by omega
        refine ⟨j, ga + 1, ?_, ?_, ?_, ?_, ?_⟩
        · rw [ra_is]; show j ∈ ga :: j :: fst j; simp
        · rw [rb_is]
          simp only [List.mem_cons, fst_mem]
          omega
        · simp
        · rw [ra_is]
          simp only [List.mem_cons, fst_mem]
          omega
        · intro x h1 h2
          rw [ra_is, rb_is]
          simp only [List.mem_cons, fst_mem]
          omega
    · subst h
      rw [← hl'] at eb
      have q : rk ra = rk rb + 1 := by omega
      obtain ⟨o, i, e⟩ := ex_next hb.2 ha.2 hl'.symm q
      have o1 := hb.2.mem o e.oa
      have i1 := ha.2.mem i e.ib
      exact ⟨i, o, e.symm.cons (by omega) (by omega)⟩
    · have c1 := ch_mono (k := ra.length + 1) (show gb + 1 ≤ ga from h)
      rw [← hl'] at b2
      omega
termination_by a b _ _ => a.length + b.length
decreasing_by
  all_goals simp only [List.length_cons]
  all_goals omega
theorem ex_round {n m : Nat} {a b : List Nat} (ha : Desc n a) (hb : Desc n b) (la : a.length = m) (lb : b.length = m) (h0 : 0 < m) (h1 : m < n) (ea : rk a = (ch n m : Int) - 1) (eb : rk b = 0) : ∃ o i, Ex a b o i := by
  obtain ⟨k, rfl⟩ : ∃ k, m = k + 1 := ⟨m - 1, by omega⟩
  have a_is := last_of ha la ea
  have b_is := fst_of hb eb
  rw [lb] at b_is
  refine ⟨n - 1, k, ?_, ?_, ?_, ?_, ?_⟩
  · rw [a_is]; simp
  · rw [b_is, fst_mem]; omega
  · rw [b_is, fst_mem]; omega
  · rw [a_is]; simp only [List.mem_cons, fst_mem]; omega
  · intro x h2 h3
    rw [a_is, b_is]
    simp only [List.mem_cons, fst_mem]
    omega
/-- from each pick to the next, round the end -/
theorem ex_step {n m : Nat} {a b : List Nat} (ha : Desc n a) (hb : Desc n b) (la : a.length = m) (lb : b.length = m) (h0 : 0 < m) (h1 : m < n) (e : rk b = (rk a + 1) % (ch n m : Int)) : ∃ o i, Ex a b o i := by
  have ⟨x, y⟩ := rk_bounds ha
  rw [la] at y
  by_cases c : rk a + 1 = ch n m
  · refine ex_round ha hb la lb h0 h1 (by omega) ?_
    rw [e, c, Int.emod_self]
  · refine ex_next ha hb (by rw [la, lb]) ?_
    rw [e]
    exact Int.emod_eq_of_lt (by omega) (by omega)
/-- nodup, as lists -/
theorem Desc.nodup : ∀ {n : Nat} {l : List Nat}, Desc n l → l.Nodup
  | _, [], _ => List.nodup_nil
  | n, g :: r, h => List.nodup_cons.mpr ⟨fun q => absurd (h.2.mem g q) (Nat.lt_irrefl _), h.2.nodup⟩
theorem filter_one {l : List Nat} {p : Nat → Bool} {o : Nat} (nd : l.Nodup) (hm : o ∈ l) (hp : ∀ x ∈ l, (p x = true ↔ x = o)) : l.filter p = [o] := by
  induction l with
  | nil => simp at hm
  | cons a r ih =>
    have ⟨n1, n2⟩ := List.nodup_cons.mp nd
    by_cases e : a = o
    · subst e
      have pa : p a = true := (hp a (by simp)).mpr rfl
      rw [List.filter_cons_of_pos pa]
      have : r.filter p = [] := by
        rw [List.filter_eq_nil_iff]
        intro x hx px
        have := (hp x (List.mem_cons_of_mem _ hx)).mp px
        subst this
        exact n1 hx
      rw [this]
    · have pa : ¬ p a = true := fun q => e ((hp a (by simp)).mp q)
      rw [List.filter_cons_of_neg pa]
      refine ih n2 ?_ (fun x hx => hp x (List.mem_cons_of_mem _ hx))
      rcases List.mem_cons.mp hm with q | q
      · exact absurd q.symm e
      · exact q
theorem Ex.outs {a b : List Nat} {o i : Nat} (h : Ex a b o i) (nd : a.Nodup) : a.filter (fun x => !b.contains x) = [o] := by
  refine filter_one nd h.oa fun x hx => ?_
  simp only [Bool.not_eq_true', List.contains_eq_mem, decide_eq_false_iff_not]
  constructor
  · intro q
    apply Classical.byContradiction
    intro ne
    by_cases e : x = i
    · subst e; exact h.ia hx
    · exact q ((h.same x ne e).mp hx)
  · intro q; rw [q]; exact h.ob
end Dp
namespace DpR
open PySem PySem.Spec PyProof.Rows L2
/-! ### comb -/
theorem fp_eq (n : Int) (k : Nat) : Builtin.Math.fallingProduct n k = Dp.fp n k := by
  induction k with
  | zero => rfl
  | succ k ih =>
    rw [PySem.W.mc_fp_succ, ih]
    rfl
theorem comb_eq (n k : Nat) : PySem.W.mcComb (n : Int) (k : Int) = (Dp.ch n k : Int) := by
  by_cases h : k ≤ n
  · by_cases h2 : k ≤ n - k
    · rw [PySem.W.mcComb_at (m := (k : Int)) (by omega) (by omega) (by omega), fp_eq, fp_eq, Int.toNat_natCast, Dp.ch_div]
    · have e : min (k : Int) ((n : Int) - (k : Int)) = ((n - k : Nat) : Int) := by omega
      rw [PySem.W.mcComb_at (by omega) (by omega) e, fp_eq, fp_eq, Int.toNat_natCast, Dp.ch_div, ← Dp.ch_sym h]
  · rw [PySem.W.mcComb_above (by omega), Dp.ch_above (by omega)]
    rfl
def rComb : List V → Hp → VK → Prop := fun vs H Q => ∃ a b : Nat, vs = [.int a, .int b] ∧ a ≤ 18000 ∧ Q (.int (Dp.ch a b : Nat)) H
section
variable {X : Cx}
theorem cr_comb : CallR X (.builtin "math.comb") rComb := by
  intro pins s σ H vs us Q I r h
  obtain ⟨a, b, rfl, ha, q⟩ := h
  obtain ⟨t, u, rfl⟩ := Vals.int2 r
  exact PySem.W.mc_comb_v (by omega) (by omega) (by omega) (.inr (by omega)) (comb_eq a b) ⟨.int _, H, I.tok _, ⟨_, rfl⟩, q⟩
/-! ### type(x) == int -/
theorem op_eqTy : OpR X (compareOp .Eq) (fun x y H Q => ∃ m n, x = .ty m ∧ y = .ty n ∧ PySem.W.kitMeta m = true ∧ PySem.W.kitMeta n = true ∧ Q (.bl (decide (m = n))) H) := by
  intro pins s σ H x y v u Q I rx ry h
  obtain ⟨m, n, rfl, rfl, h1, h2, q⟩ := h
  cases (show v = Value.type m from rx)
  cases (show u = Value.type n from ry)
  by_cases e : m = n
  · subst e
    refine TypeEq.eq_type_same (fun s' => ?_) (fin_bl I q (by simp))
    exact PySem.W.kitMeta_of h1
  · refine TypeEq.eq_type_other (fun s' => ?_) (fun s' => ?_) ?_ (fin_bl I q (by simp [e]))
    · exact PySem.W.kitMeta_of h1
    · exact PySem.W.kitMeta_of h2
    · rw [ty_beq, decide_eq_false e]

/-! ### a row: a list or a tuple, at its address -/
def SqB (b : Bool) (K : PySem.W.Frag) (H : Hp) (a : Addr) (xs : List V) : Prop := match b with
  | false => SqL K H a xs
  | true => SqT K H a xs
def InB (b : Bool) (h : Heap) (it a : Addr) (i : Nat) : Prop := match b with
  | false => h.IsListIter it a i
  | true => h.IsTupleIter it a i
def IsB (b : Bool) (h : Heap) (a : Addr) (its : Array Value) : Prop := match b with
  | false => h.IsList a its
  | true => h.IsTuple a its
def Itb (b : Bool) (K : PySem.W.Frag) (a : Addr) : It := match b with
  | false => Itl K a
  | true => Itt K a
/-- for x in row -/
def iSq (K : PySem.W.Frag) (tl : TE) : TI := fun σ H R => tl σ H fun x H1 => ∃ a b xs, x = .ref a ∧ SqB b K H1 a xs ∧ R (Itb b K a) H1
theorem pi_sq {tg l : Expr} {tl : TE} (hl : PE X l tl) : PI X tg l (iSq X.K tl) := by
  refine ⟨fun pins s σ H R I h => ?_⟩
  refine thn (hl.run pins s σ H _ I h) fun v s1 ⟨x, H1, I1, r1, q1⟩ => ?_
  obtain ⟨a, b, xs, e, hq, q⟩ := q1
  subst e
  cases r1
  cases b with
  | false =>
    obtain ⟨its, rv, p, hz⟩ := I1.list hq
    refine wpAny_pyIter_list p.isList ?_
    refine ⟨s1.heap.objs.size, [s1.heap.objs.size], _, _, H1, rfl, I1.kept (t' := s1.toks) fun b o e => Heap.get?_push_of_some _ e, turn_list a _, ⟨_, Heap.get?_push_size _ rfl, rfl, rfl⟩, fun b hb => ?_, q⟩
    have e : b = s1.heap.objs.size := by simpa using hb
    subst e
    exact I1.fpOk (Nat.le_refl _) (I1.hok.fresh (Nat.le_refl _))
  | true =>
    obtain ⟨its, rv, p, hz⟩ := I1.tuple hq
    refine wpAny_pyIter_tuple (show s1.heap.IsTuple a its.toArray from p) ?_
    refine ⟨s1.heap.objs.size, [s1.heap.objs.size], _, _, H1, rfl, I1.kept (t' := s1.toks) fun b o e => Heap.get?_push_of_some _ e, turn_tuple a _, ⟨_, Heap.get?_push_size _ rfl, rfl, rfl⟩, fun b hb => ?_, q⟩
    have e : b = s1.heap.objs.size := by simpa using hb
    subst e
    exact I1.fpOk (Nat.le_refl _) (I1.hok.fresh (Nat.le_refl _))
theorem walk_itb {K : PySem.W.Frag} {a : Addr} {xs : List V} : ∀ {b : Bool}, L2.Walk (Itb b K a) xs.length (fun H => SqB b K H a xs) (YAt xs)
  | false => walk_list
  | true => walk_tup

/-! ### enumerate(row, start=k) -/
/-- each item of the row at a in a new pair, counted from k -/
def Ies (b : Bool) (K : PySem.W.Frag) (k : Int) (a : Addr) : It :=
  ⟨fun i H => ∃ (xs : List V) (x : V), SqB b K H a xs ∧ xs[i]? = some x, fun i H v H' => ∃ T x, v = .ref T ∧ H T = none ∧ H' = upd H T (.tup [.int (k + (i : Nat)), x]) ∧ ∀ xs, SqB b K H a xs → xs[i]? = some x, fun i H => ∃ xs : List V, SqB b K H a xs ∧ xs.length ≤ i⟩
end
theorem sqB_is {X : Cx} {pins : List (Addr × Obj)} {σ : L2.St} {H : Hp} {s : Shared} {a : Addr} {xs : List V} {b : Bool} (I : Inv X pins σ H s) (h : SqB b X.K H a xs) : ∃ its : List Value, Vals xs its ∧ IsB b s.heap a its.toArray ∧ xs.length ≤ sizeLine := by
  cases b with
  | false =>
    obtain ⟨its, rv, p, hz⟩ := I.list h
    exact ⟨its, rv, p.isList, hz⟩
  | true =>
    obtain ⟨its, rv, p, hz⟩ := I.tuple h
    exact ⟨its, rv, (show s.heap.IsTuple a its.toArray from p), hz⟩
theorem sqB_inj {X : Cx} {pins : List (Addr × Obj)} {σ : L2.St} {H : Hp} {s : Shared} {a : Addr} {xs ys : List V} {b : Bool} (I : Inv X pins σ H s) (h : SqB b X.K H a xs) (h' : SqB b X.K H a ys) : xs = ys := by
  cases b with
  | false => exact I.list_inj h h'
  | true => exact I.tuple_inj h h'
theorem inB_obj {b : Bool} {h : Heap} {it a : Addr} {i : Nat} (x : InB b h it a i) : ∃ (o : Obj) (vs : Array Value) (n : String), h.get? it = some o ∧ o.data = .fields vs ∧ o.cls = .type n ∧ (n = "list_iterator" ∨ n = "tuple_iterator") := by
  cases b with
  | false => obtain ⟨o, e, c, d⟩ := x; exact ⟨o, _, _, e, d, c, .inl rfl⟩
  | true => obtain ⟨o, e, c, d⟩ := x; exact ⟨o, _, _, e, d, c, .inr rfl⟩
theorem inB_at {b : Bool} {h h' : Heap} {it a : Addr} {i : Nat} (x : InB b h it a i) (k : ∀ o, h.get? it = some o → h'.get? it = some o) : InB b h' it a i := by
  cases b with
  | false => exact Heap.IsListIter.at x k
  | true => exact Heap.IsTupleIter.at x k
theorem isB_ne {b : Bool} {h : Heap} {a it : Addr} {its : Array Value} {o : Obj} {vs : Array Value} (x : IsB b h a its) (e : h.get? it = some o) (d : o.data = .fields vs) : a ≠ it := by
  intro z
  subst z
  cases b with
  | false =>
    obtain ⟨o', e', c', n, d'⟩ := x
    rw [e] at e'; cases e'; rw [d] at d'; cases d'
  | true =>
    obtain ⟨o', e', c', n, d'⟩ := x
    rw [e] at e'; cases e'; rw [d] at d'; cases d'
theorem drawsB {b : Bool} {prog : Program} {w : World} {A : Around} (hh : A.handled = none) (it a : Addr) (hne : a ≠ it) (items : Array Value) :
    Draws prog w A it [it, a] items.size (fun i v => items[i]? = some v) (fun i h => InB b h it a i ∧ IsB b h a items) := by
  cases b with
  | false => exact Draws.list hh it a hne items
  | true => exact Draws.tuple hh it a hne items
theorem turn_ies {b : Bool} {P : Program} {w : World} {K : PySem.W.Frag} {elts : List Expr} {kk : Nat} {tpos : Pos} (k : Int) (a e it : Addr) :
    Turn P w K (.Tuple elts kk tpos) (Ies b K k a) [e, it] e (fun i h => (∃ old, IsEnum h e it (k + ((i : Nat) : Int)) old) ∧ InB b h it a i ∧ e ≠ it) where
  mem := by simp
  obj := fun i h st c hc => by
    obtain ⟨⟨old, he⟩, hi, _⟩ := st
    obtain ⟨o, vs, n, ho, hd, _⟩ := inB_obj hi
    have e' : c = e ∨ c = it := by simpa using hc
    rcases e' with z | z
    · rw [z]; exact ⟨_, he, fun v q => nomatch q⟩
    · rw [z]; exact ⟨o, ho, fun v q => by rw [hd] at q; cases q⟩
  keep := fun i h h' st k => let ⟨⟨old, he⟩, hi, hne⟩ := st; ⟨⟨old, k e (by simp) _ he⟩, inB_at hi fun o q => k it (by simp) o q, hne⟩
  item := by
    intro X hP hw hK hc i pins s σ H E I hf st hg
    subst hP hw hK
    obtain ⟨⟨old, he⟩, hit, hne⟩ := st
    obtain ⟨xs, x, hq, hx⟩ := hg
    obtain ⟨its, rv, p, hz⟩ := sqB_is I hq
    obtain ⟨u, hu, ru⟩ := rv.get hx
    obtain ⟨oi, vsi, ni, hoi, hdi, _⟩ := inB_obj hit
    have hel : e < s.heap.objs.size := Heap.lt_size he
    have hil : it < s.heap.objs.size := Heap.lt_size hoi
    have hai : a ≠ it := isB_ne p hoi hdi
    have hae : a ≠ e := isB_ne p he rfl
    have hh : X.A.in1.handled = none := I.ok.hd hc
    have hlt : i < its.toArray.size := by
      have := (List.getElem?_eq_some_iff.mp hu).1
      simpa using this
    refine wpAny_pyNext_enum_itemC (drawsB (b := b) hh it a hai its.toArray) he ⟨hit, p⟩ hlt hne (by simp [hne, Ne.symm hae]) fun x' h' tk hx' ho hst' hT hsz hk => ?_
    have hx'' : x' = u := by
      have h1 : its.toArray[i]? = some x' := hx'
      have h2 : its.toArray[i]? = some u := by simpa using hu
      rw [h1] at h2
      exact Option.some.inj h2
    subst hx''
    refine ⟨_, rfl, wpAny_letOwnedTupleGo_enum (s := { s with heap := h', toks := tk + 1 }) ho fun h'' he' sb => ?_⟩
    have hT2 : h''.get? s.heap.objs.size = some { cls := .type "tuple", data := .seq #[.int (k + (i : Nat)) tk, x'] } := (sb.2 _ (Nat.ne_of_gt hel)).trans hT
    have new : ObjOk X.prog X.w (upd H s.heap.objs.size (.tup [.int (k + (i : Nat)), x])) h'' s.heap.objs.size (.tup [.int (k + (i : Nat)), x]) :=
      ⟨by show 2 ≤ sizeLine; decide, [.int (k + (i : Nat)) tk, x'], .cons ⟨_, rfl⟩ (.cons ru .nil), ⟨_, hT2, rfl, _, rfl⟩⟩
    have I1 : Inv X pins σ (upd H s.heap.objs.size (.tup [.int (k + (i : Nat)), x])) { s with heap := h'', toks := tk + 1 } :=
      I.turnedNew (ch := [e, it]) (fun b ob hb q => (sb.2 b (fun z => hb (by simp [z]))).trans (hk b ob (fun z => hb (by simp [z])) (fun z => hb (by simp [z])) q)) hf (Nat.le_refl _) new
    refine ⟨.ref s.heap.objs.size, _, I1, rfl, ⟨_, x, rfl, I.hok.fresh (Nat.le_refl _), rfl, fun ys hy => by rw [sqB_inj I hy hq]; exact hx⟩, ⟨⟨x', ?_⟩, inB_at hst'.1 fun o q => (sb.2 it (Ne.symm hne)).trans q, hne⟩, fun b hb => ?_⟩
    · have e1 : k + ((i + 1 : Nat) : Int) = k + (i : Int) + 1 := by omega
      rw [e1]; exact he'
    · have hb' : b < s.heap.objs.size := by
        have e' : b = e ∨ b = it := by simpa using hb
        rcases e' with z | z
        · rw [z]; exact hel
        · rw [z]; exact hil
      rw [upd_ne (Nat.ne_of_lt hb')]
      exact (hf b hb).1
  done := by
    intro X hP hw hK hc i pins s σ H E I hf st hg
    subst hP hw hK
    obtain ⟨⟨old, he⟩, hit, hne⟩ := st
    obtain ⟨xs, hq, hx⟩ := hg
    obtain ⟨its, rv, p, hz⟩ := sqB_is I hq
    obtain ⟨f0, f1, f2, f3, f4, f5⟩ := hf it (by simp)
    obtain ⟨oi, vsi, ni, hoi, hdi, _⟩ := inB_obj hit
    have hai : a ≠ it := isB_ne p hoi hdi
    have hh : X.A.in1.handled = none := I.ok.hd hc
    have hl := rv.length
    -- the iterator stands at i, at or behind the end
    have D : Draws X.prog X.w X.A.in1 it [it, a] i (fun _ _ => True) (fun j h => j = i ∧ InB b h it a i ∧ IsB b h a its.toArray) :=
      { live := fun j h st => let ⟨o, _, _, ho, _⟩ := inB_obj st.2.1; ⟨o, ho⟩
        frame := fun j h h' st hk => ⟨st.1, inB_at st.2.1 fun o e => hk it (by simp) o e, by
          have q := st.2.2
          cases b with
          | false => exact Heap.IsList.at q fun o e => hk a (by simp) o e
          | true => exact Heap.IsTuple.at q fun o e => hk a (by simp) o e⟩
        item := fun j s Q E hj st _ => absurd st.1 (Nat.ne_of_lt hj)
        done := fun s Q E st hE => by
          have q := st.2
          cases b with
          | false => exact wpAny_nextOf_list_end hh q.1 q.2 (by simp; omega) hE
          | true => exact wpAny_nextOf_tuple_end hh q.1 q.2 (by simp; omega) hE }
    exact wpAny_pyNext_enum_endD D he ⟨rfl, hit, p⟩ fun h' eb => ⟨rfl, I.turned (t' := s.toks) (fun b o hb q => eb b o hb q) f0 f1 f3 f4 f5⟩
  self := fun A i s Q E st h => let ⟨⟨_, he⟩, _⟩ := st; wpAny_pyIter_enum he h
/-- enumerate(e, start=k): of a list or a tuple -/
def iEnumS (K : PySem.W.Frag) (k : Int) (ta : TE) : TI := fun σ H R => ta σ H fun v H1 => ∃ a b xs, v = .ref a ∧ SqB b K H1 a xs ∧ R (Ies b K k a) H1
def enumQ (K : PySem.W.Frag) (k : Int) (R : It → Hp → Prop) : List V → Hp → Prop := fun vs H1 => match vs with
  | [v] => ∃ a b xs, v = .ref a ∧ SqB b K H1 a xs ∧ R (Ies b K k a) H1
  | _ => False
theorem beginsB (b : Bool) (a : Addr) (items : Array Value) : ∃ o, Begins (.ref a) o (fun h => IsB b h a items) ∧ ∀ h it, h.get? it = some o → InB b h it a 0 := by
  cases b with
  | false => exact ⟨_, begins_list a items, fun h it e => ⟨_, e, rfl, rfl⟩⟩
  | true => exact ⟨_, begins_tuple a items, fun h it e => ⟨_, e, rfl, rfl⟩⟩
theorem callWith_typeKw {M : Model} {A : Around} {E : Value → Shared → Prop} {s : Shared} {pos : Pos} {T : String} {first : List Value} {args : List (Bool × Sem Value)} {kws : List (Option Str × Sem Value)} {Q : Value → Shared → Prop} (hplain : (args.any (·.1) || kws.any (·.1.isNone)) = false)
    (h : wpAny M A (evalArgs (.type T) true args kws) (fun a s₁ => wpAny M A (call (.type T) (first ++ a.pos) a.kw) Q E s₁) E s) :
    wpAny M A (callWith pos (.type T) first args kws) Q E s := by
  unfold callWith
  refine wpAny_bind (wpAny_holding (wpAny_mono h (fun a s₁ h₁ => wpAny_bind (wpAny_standAt ?_)) fun _ _ x => x))
  simp only [hplain]
  refine wpAny_bind (wpAny_pure ?_)
  exact wpAny_bind (wpAny_mono h₁ (fun r s₂ hr => wpAny_bind (wpAny_holding (wpAny_point (wpAny_pure hr)))) fun _ _ x => x)
theorem pi_enumS {X : Cx} {e : Expr} {ta : TE} {k : Int} {j : Nat} {p pos tpos p2 kpos : Pos} {elts : List Expr} {kk : Nat} (hk0 : -(2 ^ 63) ≤ k) (hk1 : k < 2 ^ 63) (hg : Gl X "enumerate") (hm : X.mg "enumerate" = none) (he : PE X e ta)
    (hs : starEach [e] X.env = (false, eval e X.env) :: starEach [] X.env := by rfl) (hall : (backToKw pos (keywordEach [⟨some "start", .Constant (.int k) j p2, kpos⟩] X.env)).all (·.1.isSome) = true := by rfl)
    (hks : (backToKw pos (keywordEach [⟨some "start", .Constant (.int k) j p2, kpos⟩] X.env)).filterMap (·.1) = [Str.ofString "start"] := by rfl)
    (hpl : ((backTo pos (starEach [e] X.env)).any (·.1) || (backToKw pos (keywordEach [⟨some "start", .Constant (.int k) j p2, kpos⟩] X.env)).any (·.1.isNone)) = false := by rfl) :
    PI X (.Tuple elts kk tpos) (.Call (.Name "enumerate" p) [e] [⟨some "start", .Constant (.int k) j p2, kpos⟩] pos) (iEnumS X.K k ta) := by
  refine ⟨fun pins s σ H R I h => ?_⟩
  refine wpAny_Call_Name_kw (ld_blt I hg hm boot_enumerate ?_)
  have hpa : PA X [e] (tCons ta tNil) := pa_cons he pa_nil hs
  have hpk : PK X [⟨some "start", .Constant (.int k) j p2, kpos⟩] (tCons (tC (.int k)) tNil) := pk_cons pe_int pk_nil
  refine callWith_typeKw hpl ?_
  refine PyProof.Rows.evalArgs_kw2 hall (thn (hpa.run pos pins s σ H (enumQ X.K k R) I h) fun us s1 hu => ?_) hs
  obtain ⟨vs, H1, I1, r, hQ⟩ := hu
  obtain ⟨a, b, xs, rfl, hq, q⟩ : ∃ a b xs, vs = [V.ref a] ∧ SqB b X.K H1 a xs ∧ R (Ies b X.K k a) H1 := by
    match vs, hQ with
    | [v], ⟨a, b, xs, e, hq, q⟩ => exact ⟨a, b, xs, by rw [e], hq, q⟩
  refine thn (hpk.run pos pins s1 σ H1 (fun zs H2 => zs = [.int k] ∧ H2 = H1) I1 ⟨rfl, rfl⟩) fun ws s2 hw => ?_
  obtain ⟨zs, H2, I2, rz, rfl, rfl⟩ := hw
  rw [hks]
  obtain ⟨u, rfl, ru⟩ := vals1 r
  obtain ⟨u2, rfl, ru2⟩ := vals1 rz
  obtain ⟨t2, rfl⟩ := ru2
  cases ru
  obtain ⟨its, rv, p', hz⟩ := sqB_is I2 hq
  obtain ⟨o, B, hin⟩ := beginsB b a its.toArray
  refine enum_begins_start B p' hk0 hk1 fun h' he hit hsz hk => wpAny_pyIter_enum he ?_
  have I3 : Inv X pins σ H2 { s2 with heap := h' } := I2.kept (t' := s2.toks) hk
  refine ⟨s2.heap.objs.size + 1, [s2.heap.objs.size + 1, s2.heap.objs.size], _, _, H2, rfl, I3, turn_ies (b := b) k a (s2.heap.objs.size + 1) s2.heap.objs.size, ⟨⟨.none, ?_⟩, hin _ _ hit, Nat.succ_ne_self _⟩, fun c hc => ?_, q⟩
  · have e1 : k + ((0 : Nat) : Int) = k := by omega
    rw [e1]; exact he
  · have e' : c = s2.heap.objs.size + 1 ∨ c = s2.heap.objs.size := by simpa using hc
    have hle : s2.heap.objs.size ≤ c := by
      rcases e' with z | z
      · rw [z]; exact Nat.le_add_right _ _
      · rw [z]; exact Nat.le_refl _
    exact I2.fpOk hle (I2.hok.fresh hle)
theorem walk_ies {b : Bool} {K : PySem.W.Frag} {k : Int} {a : Addr} {xs : List V} : L2.Walk (Ies b K k a) xs.length (fun H => SqB b K H a xs) (YPair (fun i => some (.int (k + (i : Nat)))) (fun i => xs[i]?)) := by
  refine ⟨fun i _ hi q => ⟨xs, xs[i], q, by simp [hi]⟩, fun _ q => ⟨xs, q, Nat.le_refl _⟩, fun i H v H' _ q y => ?_⟩
  obtain ⟨T, x, h1, h2, h3, h4⟩ := y
  exact ⟨T, .int (k + (i : Nat)), x, h1, h2, h3, rfl, h4 xs q⟩
theorem if_true_of {c : Bool} {A B : Prop} (h : c = true) (a : A) : if c = true then A else B := by rw [if_pos h]; exact a
theorem if_false_of {c : Bool} {A B : Prop} (h : c = false) (b : B) : if c = true then A else B := by rw [h]; exact iteF b
theorem two_int {a b : Int} {x y : Nat} (h1 : a = x) (h2 : b = y) : [V.int a, V.int b] = [V.int x, V.int y] := by rw [h1, h2]
end DpR
namespace Dp
open PySem PySem.Spec PyProof.Rows L2 DpR
/-! ### data that is handed in -/
def nv (t : Nat) : V := .int (t : Int)
def rowO : Bool → List V → HO
  | false, xs => .lst xs
  | true, xs => .tup xs
/-- a pick's things, rising -/
def asc (ds : List Nat) : List V := ds.reverse.map nv
theorem asc_len (ds : List Nat) : (asc ds).length = ds.length := by unfold asc; rw [List.length_map, List.length_reverse]
theorem row_sq {K : PySem.W.Frag} {H : Hp} {a : Addr} {xs : List V} : ∀ {b : Bool}, H a = some (rowO b xs) → SqB b K H a xs
  | false, h => SqL.of h
  | true, h => SqT.of h
inductive Dt (H : Hp) : V → Prop where
  | non : Dt H .non
  | bl (b : Bool) : Dt H (.bl b)
  | int (i : Int) : Dt H (.int i)
  | str (x : Str) : Dt H (.str x)
  | row {a : Addr} (b : Bool) (xs : List V) (h : H a = some (rowO b xs)) : Dt H (.ref a)
  | dic {a : Addr} (kvs : List (Key × V)) (h : H a = some (.dK kvs)) : Dt H (.ref a)
theorem Dt.mono {H H' : Hp} {x : V} (h : Dt H x) (s : Same H H') : Dt H' x := by
  cases h with
  | non => exact .non
  | bl b => exact .bl b
  | int i => exact .int i
  | str x => exact .str x
  | row b xs h => exact .row b xs (s _ _ h)
  | dic kvs h => exact .dic kvs (s _ _ h)
theorem Dt.tyB {K : PySem.W.Frag} {H : Hp} {x : V} (h : Dt H x) : ∃ T, TyB K H x T ∧ PySem.W.kitMeta T = true ∧ (T = "int" ↔ ∃ i, x = .int i) := by
  cases h with
  | non => exact ⟨_, .non, by decide +kernel, ⟨fun z => absurd z (by decide), fun ⟨_, z⟩ => (nomatch z)⟩⟩
  | bl b => exact ⟨_, .bl b, by decide +kernel, ⟨fun z => absurd z (by decide), fun ⟨_, z⟩ => (nomatch z)⟩⟩
  | int i => exact ⟨_, .int i, by decide +kernel, ⟨fun _ => ⟨i, rfl⟩, fun _ => rfl⟩⟩
  | str x => exact ⟨_, .str x, by decide +kernel, ⟨fun z => absurd z (by decide), fun ⟨_, z⟩ => (nomatch z)⟩⟩
  | row b xs h =>
    cases b with
    | false => exact ⟨_, .lst (SqL.of h), by decide +kernel, ⟨fun z => absurd z (by decide), fun ⟨_, z⟩ => (nomatch z)⟩⟩
    | true => exact ⟨_, .tup (SqT.of h), by decide +kernel, ⟨fun z => absurd z (by decide), fun ⟨_, z⟩ => (nomatch z)⟩⟩
  | dic kvs h => exact ⟨_, .dK h, by decide +kernel, ⟨fun z => absurd z (by decide), fun ⟨_, z⟩ => (nomatch z)⟩⟩
/-- is it a row? -/
def isRow (H : Hp) (x : V) : Prop := ∃ a b xs, x = .ref a ∧ H a = some (rowO b xs)
theorem Dt.tyX {K : PySem.W.Frag} {H : Hp} {x : V} (h : Dt H x) : ∃ (T : String) (r : Bool), TyX K H x (.type T) ∧ PySem.W.kitAny K (.type T) [.type "tuple", .type "list"] = some r ∧ (r = true ↔ isRow H x) := by
  have no : ∀ {T : String}, kitB T "tuple" = some false → kitB T "list" = some false → PySem.W.kitAny K (.type T) [.type "tuple", .type "list"] = some false := fun h1 h2 =>
    kitAny_cons (kit_ty h1) (fun _ => kitAny_cons (kit_ty h2) (fun _ => kitAny_nil) (fun z => (nomatch z))) (fun z => (nomatch z))
  cases h with
  | non => exact ⟨_, false, .base .non, no (by decide +kernel) (by decide +kernel), ⟨fun z => (nomatch z), fun ⟨_, _, _, z, _⟩ => (nomatch z)⟩⟩
  | bl b => exact ⟨_, false, .base (.bl b), no (by decide +kernel) (by decide +kernel), ⟨fun z => (nomatch z), fun ⟨_, _, _, z, _⟩ => (nomatch z)⟩⟩
  | int i => exact ⟨_, false, .base (.int i), no (by decide +kernel) (by decide +kernel), ⟨fun z => (nomatch z), fun ⟨_, _, _, z, _⟩ => (nomatch z)⟩⟩
  | str x => exact ⟨_, false, .base (.str x), no (by decide +kernel) (by decide +kernel), ⟨fun z => (nomatch z), fun ⟨_, _, _, z, _⟩ => (nomatch z)⟩⟩
  | @row a b xs h =>
    cases b with
    | false =>
      refine ⟨_, true, .base (.lst h), kitAny_cons (b := false) (kit_ty (by decide +kernel)) (fun _ => kitAny_cons (b := true) (kit_ty (by decide +kernel)) (fun z => (nomatch z)) (fun _ => rfl)) (fun z => (nomatch z)), ⟨fun _ => ⟨a, false, xs, rfl, h⟩, fun _ => rfl⟩⟩
    | true =>
      refine ⟨_, true, .base (.tup h), kitAny_cons (b := true) (kit_ty (by decide +kernel)) (fun z => (nomatch z)) (fun _ => rfl), ⟨fun _ => ⟨a, true, xs, rfl, h⟩, fun _ => rfl⟩⟩
  | @dic a kvs h =>
    refine ⟨_, false, .base (.dK h), no (by decide +kernel) (by decide +kernel), ⟨fun z => (nomatch z), fun ⟨a', b, xs, e, h'⟩ => ?_⟩⟩
    cases e
    rw [h] at h'
    cases b <;> cases h'
/-! ### a whole number within bounds; a rising row -/
def wholeV (x : V) (lo hi : Int) : Bool := match x with
  | .int i => decide (lo ≤ i) && decide (i ≤ hi)
  | _ => false
def risV (n : Int) : Int → List V → Bool
  | _, [] => true
  | lo, x :: r => match x with
    | .int i => decide (lo ≤ i) && decide (i ≤ n - 1) && risV n (i + 1) r
    | _ => false
/-- where a rising row is one, it is a pick's things -/
theorem ris_desc {n : Nat} : ∀ (xs : List V) (pre : List Nat) (lo : Nat), Desc lo pre → lo ≤ n → risV n lo xs = true → ∃ ds, asc pre ++ xs = asc ds ∧ Desc n ds ∧ ds.length = pre.length + xs.length
  | [], pre, lo, hp, hl, _ => ⟨pre, by rw [List.append_nil], hp.mono hl, rfl⟩
  | x :: r, pre, lo, hp, hl, h => by
    cases x with
    | int i =>
      have h' : (decide ((lo : Int) ≤ i) && decide (i ≤ (n : Int) - 1) && risV n (i + 1) r) = true := h
      rw [Bool.and_eq_true, Bool.and_eq_true, decide_eq_true_eq, decide_eq_true_eq] at h'
      obtain ⟨⟨h1, h2⟩, h3⟩ := h'
      obtain ⟨t, rfl⟩ : ∃ t : Nat, i = (t : Int) := ⟨i.toNat, by omega⟩
      have e1 : ((t : Nat) : Int) + 1 = ((t + 1 : Nat) : Int) := by omega
      rw [e1] at h3
      obtain ⟨ds, a1, a2, a3⟩ := ris_desc r (t :: pre) (t + 1) ⟨Nat.lt_succ_self t, hp.mono (by omega)⟩ (by omega) h3
      refine ⟨ds, ?_, a2, ?_⟩
      · rw [← a1]
        unfold asc
        rw [List.reverse_cons, List.map_append, List.append_assoc]
        rfl
      · rw [a3, List.length_cons, List.length_cons]; omega
    | _ => exact absurd (show false = true from h) Bool.false_ne_true
theorem asc_cons (t : Nat) (ds : List Nat) : asc (t :: ds) = asc ds ++ [nv t] := by
  unfold asc
  rw [List.reverse_cons, List.map_append]
  rfl
theorem ris_app (n : Int) : ∀ (xs : List V) (lo i : Int), risV n lo xs = true → (∀ j, xs.getLast? = some (.int j) → j < i) → lo ≤ i → i ≤ n - 1 → risV n lo (xs ++ [.int i]) = true
  | [], lo, i, _, _, h1, h2 => by
    show (decide (lo ≤ i) && decide (i ≤ n - 1) && true) = true
    simp [h1, h2]
  | x :: r, lo, i, h, hl, h1, h2 => by
    cases x with
    | int j =>
      have h' : (decide (lo ≤ j) && decide (j ≤ n - 1) && risV n (j + 1) r) = true := h
      rw [Bool.and_eq_true] at h'
      obtain ⟨q1, q2⟩ := h'
      show (decide (lo ≤ j) && decide (j ≤ n - 1) && risV n (j + 1) (r ++ [.int i])) = true
      rw [q1, Bool.true_and]
      cases r with
      | nil =>
        have := hl j rfl
        show (decide (j + 1 ≤ i) && decide (i ≤ n - 1) && true) = true
        simp [h2]
        omega
      | cons y r =>
        refine ris_app n (y :: r) (j + 1) i q2 (fun k hk => hl k (by rw [List.getLast?_cons_cons]; exact hk)) ?_ h2
        have : ∀ (l : List V) (lo : Int), l ≠ [] → risV n lo l = true → ∃ j, l.getLast? = some (.int j) ∧ lo ≤ j := by
          intro l
          induction l with
          | nil => intro lo h; exact absurd rfl h
          | cons z l ih =>
            intro lo _ hz
            cases z with
            | int a =>
              have hz' : (decide (lo ≤ a) && decide (a ≤ n - 1) && risV n (a + 1) l) = true := hz
              rw [Bool.and_eq_true, Bool.and_eq_true, decide_eq_true_eq] at hz'
              cases l with
              | nil => exact ⟨a, rfl, hz'.1.1⟩
              | cons z' l =>
                obtain ⟨b, hb, hle⟩ := ih (a + 1) (by simp) hz'.2
                exact ⟨b, by rw [List.getLast?_cons_cons]; exact hb, by omega⟩
            | _ => exact absurd (show false = true from hz) Bool.false_ne_true
        obtain ⟨b, hb, hle⟩ := this (y :: r) (j + 1) (by simp) q2
        have := hl b (by rw [List.getLast?_cons_cons]; exact hb)
        omega
    | _ => exact absurd (show false = true from h) Bool.false_ne_true
theorem asc_last : ∀ {ds : List Nat} {n : Nat} {j : Int}, Desc n ds → (asc ds).getLast? = some (.int j) → j < n
  | [], _, _, _, h => by simp [asc] at h
  | t :: ds, n, j, hd, h => by
    rw [asc_cons, List.getLast?_concat] at h
    have e : (t : Int) = j := V.int.inj (Option.some.inj h)
    have := hd.1
    omega
theorem desc_ris : ∀ {ds : List Nat} {n : Nat}, Desc n ds → risV n 0 (asc ds) = true
  | [], _, _ => rfl
  | t :: ds, n, h => by
    rw [asc_cons]
    have h1 := h.1
    have ih : risV n 0 (asc ds) = true := desc_ris (h.2.mono (by omega))
    exact ris_app n (asc ds) 0 t ih (fun j hj => asc_last h.2 hj) (by omega) (by omega)
theorem asc_inj {a b : List Nat} (h : asc a = asc b) : a = b := by
  unfold asc at h
  have h2 := (List.map_inj_right (f := nv) (fun x y e => by
    have := V.int.inj e
    omega)).mp h
  exact List.reverse_inj.mp h2
end Dp
namespace DpR
open PySem PySem.Spec PyProof.Rows L2
/-! ### an exception that was caught, kept in a name -/
def ExD (cls : Value) (d : Option Addr) (a : Addr) : HO := .ext fun h => ∃ (oe : Obj) (vs : Array Value), h.get? a = some oe ∧ Zc cls d oe ∧ oe.data = .fields vs
theorem exD_ok {P : Program} {w : World} {H : Hp} {h : Heap} {a : Addr} {cls : Value} {d : Option Addr} {oe : Obj} {vs : Array Value} (e : h.get? a = some oe) (z : Zc cls d oe) (f : oe.data = .fields vs) : ObjOk P w H h a (ExD cls d a) :=
  ⟨⟨oe, vs, e, z, f⟩, ⟨oe, e⟩, fun _ _ ⟨o, v, q, r⟩ k => ⟨o, v, k o q, r⟩⟩
/-- an object that came while we looked away is tracked from now on -/
theorem inv_track {X : Cx} {pins : List (Addr × Obj)} {σ : L2.St} {H : Hp} {sI s : Shared} {a : Addr} {cls : Value} {d : Option Addr} {oe : Obj} {vs : Array Value} (hx : X.ex = []) (J : Inv X pins σ H sI) (I : Inv X pins σ H s)
    (hI : sI.heap.get? a = none) (na : H a = none) (nL : a ≠ X.env.locals) (e : s.heap.get? a = some oe) (z : Zc cls d oe) (f : oe.data = .fields vs) : Inv X pins σ (upd H a (ExD cls d a)) s := by
  have n0 : X.s_0.heap.get? a = none := by
    cases q : X.s_0.heap.get? a with
    | none => rfl
    | some o =>
      obtain ⟨o', q'⟩ := J.base.there a o q (by rw [hx]; simp)
      rw [hI] at q'; cases q'
  have keepN : ∀ b, b ≠ a → H b = none → upd H a (ExD cls d a) b = none := fun b hb q => by rw [upd_ne hb]; exact q
  refine ⟨I.ok, I.os, I.bare, ⟨I.base.keep, I.base.slot, fun b o q n h => ?_, I.base.there, fun b xs q => ?_, fun b o u q => ?_, fun b ps q => ?_⟩, I.loc, I.cell, ?_, fun x c q => ?_, fun p hp => ?_, ?_, I.len⟩
  · exact keepN b (fun y => by rw [y, n0] at q; cases q) (I.base.free b o q n h)
  · have h := I.base.tups b xs q
    rw [upd_ne (ne_of_none h na)]; exact h
  · have h := I.base.frzs b o u q
    rw [upd_ne (ne_of_none h na)]; exact h
  · obtain ⟨m, h⟩ := I.base.tbls b ps q
    exact ⟨m, by rw [upd_ne (ne_of_none h na)]; exact h⟩
  · exact keepN _ (Ne.symm nL) I.free
  · refine keepN c (fun y => ?_) (I.freeC x c q)
    obtain ⟨v, o, ho, hd⟩ := I.cell x c q
    rw [y, e] at ho
    cases ho
    rw [f] at hd; cases hd
  · obtain ⟨h1, h2, h3, h4, h5⟩ := I.pin p hp
    refine ⟨h1, keepN p.1 (fun y => ?_) h2, h3, h4, h5⟩
    have h6 := (J.pin p hp).1
    rw [y, hI] at h6; cases h6
  · exact I.hok.laidN (fun _ _ q => q) na (exD_ok e z f)
theorem inv_suiteT {X : Cx} {pins : List (Addr × Obj)} {σ : L2.St} {H : Hp} {s : Shared} {a : Addr} (I : Inv X pins σ H s) : Inv (X.suite a (X.pn ++ pins)) [] σ H s :=
  ⟨I.ok.suite _ _, I.os, I.bare, I.base, I.loc, I.cell, I.free, I.freeC, fun p hp => I.pin p (by rw [List.append_nil] at hp; exact hp), I.hok, I.len⟩
theorem inv_unsuiteT {X : Cx} {pins pn' : List (Addr × Obj)} {σ : L2.St} {H : Hp} {s : Shared} {a : Addr} (I : Inv (X.suite a (X.pn ++ pins)) pn' σ H s) (ok : X.Ok) : Inv X pins σ H s :=
  ⟨ok, I.os, I.bare, I.base, I.loc, I.cell, I.free, I.freeC, fun p hp => I.pin p (List.mem_append_left _ hp), I.hok, I.len⟩
/-- what the clause 'except x as n' wishes where the exception is tracked within and behind the suite; slot i is n's -/
def wAsT (K : PySem.W.Frag) (c : Value) (i : Nat) (ts : Addr → TS) (Wout : WX) (D : Ends) : WX := fun cls d σ H =>
  ∃ b, PySem.W.exmOne K cls c = some b ∧ (b = true → ∀ a, H a = none → ts a { nx := fun σ' H' => D.nx (σ'.set i none) H', rt := D.rt, bk := fun σ' H' => D.bk (σ'.set i none) H', ct := fun σ' H' => D.ct (σ'.set i none) H' } (σ.set i (some (.ref a))) (upd H a (ExD cls d a))) ∧
    (b = false → Wout cls d σ H)
section
variable {X : Cx} {x n : Str} {c : Value} {i : Nat} {body suite : List Stmt} {b₀ : Stmt} {np pos pos' : Pos} {tb : WX → TS} {ts : Addr → TS} {Wout : WX}
theorem ps_tryT (hs : X.stack = X.env :: X.outer) (hf : X.env.frame = some X.env.locals) (hex : X.ex = []) (hN : X.N.Nodup) (hi : X.N[i]? = some n) (hln : X.env.kindOf n = some .local) (hc : Names X x c) (tk : Takes X Wout)
    (hb : ∀ (W : WX) (pn : List (Addr × Obj)) (xe : Value → Shared → Prop), Takes (X.tr pn xe) W → PassesOwn (model X.prog X.w) X.A X.env xe → PSs (X.tr pn xe) body (tb W))
    (hsu : ∀ (a : Addr) (pn : List (Addr × Obj)), PSs (X.suite a pn) (b₀ :: suite) (ts a)) :
    PS X (.Try body [.ExceptHandler (some (.Name x np)) (some n) (b₀ :: suite) pos'] [] [] pos) (fun D σ H => tb (wAsT X.K c i ts Wout D) D σ H) := by
  refine ⟨fun pins s σ H D I h => ?_⟩
  have ok := I.ok
  have hfr : X.A.frames = some (X.env :: X.outer) := by rw [ok.frames, hs]
  have hloc : Loc X.env.scope n := .inl hln
  refine wpAny_Try_except ?_
  refine wpAny_mono ((hb (wAsT X.K c i ts Wout D) (X.pn ++ pins) (fun e s₁ => wpAny (model X.prog X.w) X.A (noteFrame e X.env) (fun _ s₂ => wpAny (model X.prog X.w) X.A (setFlight e none) (fun _ s₃ =>
    wpAny (model X.prog X.w) X.A (handleBy e X.env [.ExceptHandler (some (.Name x np)) (some n) (b₀ :: suite) pos']) (SP X pins D) X.xe s₃) X.xe s₂) X.xe s₁) (fun u s' xx => ?_) PassesOwn.looking).run [] s σ H D (I.toTry _) h) (fun f s1 hsp => ?_) (fun e s1 he => he)
  · obtain ⟨a, B, sI, pins', σ', H', cls, d, rfl, J', nb, up, sky, na, os, ag, b, hb1, hyes, hno⟩ := xx
    have J : Inv X pins σ' H' sI := J'.ofTry ok
    have sky' : Sky B (X.env :: X.outer) a (Zc cls d) X.env.locals s'.heap := by rw [← hs]; exact sky
    show wpAny (model X.prog X.w) X.A (noteFrame (.ref a) X.env) _ _ _
    refine Sky.land Zc.steady hfr hf sky' fun h3 fl3 up3 => ?_
    have J3 : Inv X pins σ' H' { s' with heap := h3 } := J.landed nb fl3.1 (up.trans up3) os ag
    obtain ⟨oe3, vs3, he3, hz3, hd3⟩ := fl3.there
    have nfr : a ∉ frs (X.env :: X.outer) := fun hm => by
      obtain ⟨_, o', e', hnf⟩ := fl3.2.2.1.mem hm
      rw [he3] at e'; cases e'
      exact hnf _ hd3
    have nL : a ≠ X.env.locals := fun z => nfr (List.mem_filterMap.mpr ⟨X.env, List.mem_cons_self, by rw [hf, z]⟩)
    have hI : sI.heap.get? a = none := by
      cases q : sI.heap.get? a with
      | none => rfl
      | some o =>
        have h1 := nb a o q (by rw [hs]; exact nfr)
        rw [fl3.2.1] at h1; cases h1
    have T3 := inv_track hex J J3 hI na nL he3 hz3 hd3
    have S3 : Inv (X.suite a (X.pn ++ pins)) [] σ' (upd H' a (ExD cls d a)) { s' with heap := h3 } := inv_suiteT T3
    refine wpAny_handleBy_cons (codeAny_handlers_test ?_) (by intro q; cases q)
    have LT : PySem.W.Looks (model X.prog X.w) h3 (typeOf (.ref a)) cls := fun A Q E s k q => wpAny_typeOf_ref (k _ _ he3) (by rw [hz3.1]; exact q)
    have LM := PySem.W.exm_one (M := model X.prog X.w) (J3.kIn) LT hb1
    have test : ∀ {Q : Value → Shared → Prop} {E : Value → Shared → Prop}, Q c { s' with heap := h3 } → wpAny (model X.prog X.w) (X.A.mark (some (.ref a))) (eval (.Name x np) X.env) Q E { s' with heap := h3 } := fun {Q E} q => by
      obtain ⟨hg, hdbg, hm | ⟨hm, hv, hnn⟩⟩ := hc
      · exact ld_glob (X := X.suite a (X.pn ++ pins)) S3 hg hm q hdbg
      · exact ld_blt (X := X.suite a (X.pn ++ pins)) S3 hg hm hv q hnn hdbg
    refine test (LM.here ?_)
    cases b with
    | true =>
      refine codeAny_handlers_suite_as ?_
      refine HandSPX.lands_againZ fl3 fun h4 fl4 up4 => ?_
      have J4 : Inv X pins σ' H' { s' with heap := h4 } := J.landed nb fl4.1 ((up.trans up3).trans up4) os ag
      obtain ⟨oe4, vs4, he4, hz4, hd4⟩ := fl4.there
      have S4 : Inv (X.suite a (X.pn ++ pins)) [] σ' (upd H' a (ExD cls d a)) { s' with heap := h4 } := inv_suiteT (inv_track hex J J4 hI na nL he4 hz4 hd4)
      refine store_ok (X := X.suite a (X.pn ++ pins)) (v := .ref a) S4 hN hi hloc rfl (fun s5 S5 => ?_) (.inr hln)
      refine wpAny_mono ((hsu a (X.pn ++ pins)).run [] s5 _ _ _ S5 (hyes rfl a na)) (fun f s6 hsp => ?_) (fun _ _ z => False.elim z)
      have end_ : ∀ {σ6 : L2.St} {H6 : Hp} {Q : Shared → Prop}, Inv (X.suite a (X.pn ++ pins)) [] σ6 H6 s6 → (∀ s7, Inv X pins (σ6.set i none) H6 s7 → Q s7) →
          wpAny (model X.prog X.w) X.A (do bindName X.env n .none; unbindBehindTheSuite X.env n pos') (fun _ s7 => Q s7) X.xe s6 := fun {σ6 H6 Q} S6 hq => gone_ok (inv_unsuiteT S6 ok) hN hi hln hq
      cases f with
      | next =>
        obtain ⟨σ6, H6, S6, q6⟩ := hsp
        exact end_ S6 fun s7 J7 => ⟨_, _, J7, q6⟩
      | brk =>
        obtain ⟨σ6, H6, S6, q6⟩ := hsp
        exact end_ S6 fun s7 J7 => ⟨_, _, J7, q6⟩
      | cont =>
        obtain ⟨σ6, H6, S6, q6⟩ := hsp
        exact end_ S6 fun s7 J7 => ⟨_, _, J7, q6⟩
      | ret u =>
        obtain ⟨v6, σ6, H6, S6, r6, q6⟩ := hsp
        exact end_ S6 fun s7 J7 => ⟨_, _, _, J7, r6, q6⟩
    | false =>
      show wpAny _ X.A (handleBy (.ref a) X.env []) _ _ _
      refine wpAny_handleBy_nil ?_
      obtain ⟨k1, k2, k3, oe, vs, T, oT, ts', he, hz, hd, h1, hr⟩ := id fl3
      unfold PySem.passOn
      refine wpAny_bind (wpAny_field he hd h1 ?_)
      rw [if_neg (show ¬ ((Value.ref T == Value.none) = true) from by simp)]
      have fin : wpAny (model X.prog X.w) X.A (setFlight (.ref a) X.env.frame) (fun _ s4 => wpAny (model X.prog X.w) X.A (throw (.ref a) : Sem Flow) (SP X pins D) X.xe s4) X.xe { s' with heap := h3 } := by
        rw [hf]
        refine HandSPX.setFlight_upZ fl3 fun h4 hh4 up4 => wpAny_throw (tk _ _ ?_)
        exact ⟨a, B, sI, pins, σ', H', cls, d, rfl, J, nb, (up.trans up3).trans up4, .inr (.inr (by rw [hs]; exact hh4)), na, os, ag, hno rfl⟩
      first
        | exact wpAny_bind (wpAny_pure (wpAny_bind fin))
        | exact wpAny_bind fin
  · cases f with
    | next =>
      obtain ⟨σ', H', J', q⟩ := hsp
      exact wpAny_execs_nil ⟨σ', H', J'.ofTry ok, q⟩
    | brk =>
      obtain ⟨σ', H', J', q⟩ := hsp
      exact ⟨σ', H', J'.ofTry ok, q⟩
    | cont =>
      obtain ⟨σ', H', J', q⟩ := hsp
      exact ⟨σ', H', J'.ofTry ok, q⟩
    | ret u =>
      obtain ⟨v, σ', H', J', r, q⟩ := hsp
      exact ⟨v, σ', H', J'.ofTry ok, r, q⟩
end
/-! ### a method's call whose exceptions are wished for at the caller's slots -/
def tMethE (C : Addr) (m : Str) (sp : Sp) (E : L2.St → XK) (ta : TE) (t : TA) : TE := fun σ H Q => ta σ H fun x H1 => ∃ a dx fs, x = .ref a ∧ H1 a = some (.ins C dx fs) ∧ fs.lookup m = none ∧
  t σ H1 fun vs H2 => sp (x :: vs) H2 Q (E σ)
theorem pe_methE {X : Cx} {CX : CXT} {k : Nat} {f C : Addr} {fd : FuncData} {ps : List Str} {sp : Sp} {E : L2.St → XK} {m : Str} {pos apos : Pos} {e o : Expr} {es : List Expr} {ta : TE} {t : TA} {pl : Sem Bool} (he : PE X o ta) (c : Cls X.K C) (hm : Meth X.K C m f)
    (F : FnOk X.prog X.w X.K X.mg X.base CX k f fd ps sp) (hr : Room k X.A) (hb : Binds X.K fd ps []) (hx : ∀ σ, PassesAt CX X σ (E σ)) (ha : PA X (e :: es) t)
    (hst : starEach (e :: es) X.env = (false, eval e X.env) :: starEach es X.env := by rfl) (hpl : (backTo pos (starEach es X.env)).any (·.1) = false := by rfl)
    (ht : eval (.Call (.Attribute o m apos) (e :: es) [] pos) X.env = (do
      let ov ← eval o X.env
      standAt apos.atName
      let (f, first) ← holding [ov] (getMethod ov m pl)
      callWith pos f first (backTo pos (starEach (e :: es) X.env)) (backToKw pos (keywordEach [] X.env))) := by rfl) :
    PE X (.Call (.Attribute o m apos) (e :: es) [] pos) (tMethE C m sp E ta t) := by
  refine ⟨fun pins s σ H Q I h => ?_⟩
  refine PySem.W.methodCall_KW (pl := pl) (thn (he.run pins s σ H _ I h) fun u s1 ⟨x, H1, I1, rx, a, dx, fs, ex, ea, l, q⟩ => ?_) ht
  subst ex
  obtain rfl : u = Value.ref a := rx
  refine getmeth_ok I1 ea c hm l ?_
  refine PySem.W.callWith_K (first := [.ref a]) (h₀ := X.base) I.ok.mod.kin hm.kp (thn (ha.run pos pins s1 σ H1 _ I1 q) fun us s2 ⟨vs, H2, I2, r, q2⟩ => ⟨I2.kIn, ?_⟩) hst hpl
  exact run_fnS (us := .ref a :: us) (vs := .ref a :: vs) F hr hb (hx σ) I2 (.cons rfl r) q2
/-! ### isinstance of a kept exception -/
def rIsX (K : PySem.W.Frag) : List V → Hp → VK → Prop := fun xs H Q => ∃ (a D : Addr) (c : V) (cv : Value) (b : Bool), xs = [.ref a, c] ∧ H a = some (ExD (.ref D) none a) ∧ ExcC K D ∧ ClsV c cv ∧ PySem.W.kitOne K (.ref D) cv = some b ∧ Q (.bl b) H
theorem call_isX {X : Cx} : CallR X (.builtin "isinstance") (rIsX X.K) := by
  intro pins s σ H xs us Q I r h
  obtain ⟨a, D, c, cv, b, rfl, ha, C, hcv, e, q⟩ := h
  obtain ⟨u1, u2, rfl, r1, r2⟩ := vals2 r
  cases r1
  have ec := hcv.eq r2
  subst ec
  obtain ⟨⟨oe, vs, ho, hz, hv⟩, _, _⟩ := I.hok a _ ha
  have J : PySem.W.InstAt s.heap a oe D none := by
    obtain ⟨oc, od, oda, osl⟩ := oe
    obtain ⟨h1, h2⟩ := hz
    dsimp only at h1 h2 hv
    subst h1 h2 hv
    exact ⟨ho, rfl, rfl, trivial⟩
  exact PySem.W.kia_one (PySem.W.handS_kitx_exc C.hg C.hk C.hs C.hd C.ha C.hn C.ht C.hm) I.kIn J e (fun z => (nomatch z)) fun tk => ⟨.bl b, H, I.kept (t' := tk) fun _ _ z => z, rfl, q⟩
/-! ### list.count of flat things -/
def rCountF (K : PySem.W.Frag) : V → List V → Hp → VK → Prop := fun x xs H Q => ∃ (a : Addr) (ys : List V) (y : V), x = V.ref a ∧ xs = [y] ∧ SqL K H a ys ∧ flatV y = true ∧ ys.all flatV = true ∧ Q (.int ((ys.countP fun z => eqV z y : Nat) : Int)) H
theorem countP_eqU {x : V} : ∀ {xs : List V} {us : List Value}, Vals xs us → xs.all flatV = true → us.countP (eqU x) = xs.countP fun y => eqV y x
  | _, _, .nil, _ => rfl
  | y :: xs, u :: us, .cons r t, h => by
    have h' : flatV y = true ∧ xs.all flatV = true := by simpa using h
    rw [List.countP_cons, List.countP_cons, countP_eqU t h'.2, eqU_of r h'.1]
theorem mt_countF {X : Cx} : MtR X "list.count" (rCountF X.K) := by
  intro pins s σ H x xs v us Q I rx rxs h
  obtain ⟨a, ys, y, rfl, rfl, hs, fy, fys, q⟩ := h
  cases rx
  obtain ⟨u, rfl, ru⟩ := vals1 rxs
  obtain ⟨its, rv, ⟨⟨cls, dd, data, sl⟩, n, ho, hc, hdn, hd⟩, hlen⟩ := I.list hs
  simp only at hc hd
  subst hc hd
  refine call_meets PySem.F.slot_list_count ⟨_, ho, rfl⟩ PySem.F.entry_list_count (PySem.F.args_list_count_2 _ _)
    (SeqAt.list_countAt a its.toArray n dd sl u (eqU y)) ⟨ho, fun u' hu' => mem_eqAt ru fy rv fys u' (by simpa using hu'), ?_⟩
  have ec : its.toArray.toList.countP (eqU y) = ys.countP fun z => eqV z y := countP_eqU rv fys
  refine ⟨.int ((ys.countP fun z => eqV z y : Nat) : Int), H, I.tok _, ⟨s.toks, ?_⟩, q⟩
  show Value.int ((its.toArray.toList.countP (eqU y) : Nat) : Int) s.toks = Value.int ((ys.countP fun z => eqV z y : Nat) : Int) s.toks
  rw [ec]
end DpR
namespace DpR
end DpR
/-! the order of the sets: each set is its things, falling -/
namespace Dp
def gr : List Nat → Int
  | [] => 0
  | g :: r => (2 ^ (g + 1) : Nat) - 1 - gr r
theorem p2_pos (n : Nat) : 1 ≤ 2 ^ n := Nat.one_le_two_pow
theorem p2_succ (n : Nat) : 2 ^ (n + 1) = 2 ^ n + 2 ^ n := by rw [Nat.pow_succ]; omega
theorem p2_mono {n m : Nat} (h : n ≤ m) : 2 ^ n ≤ 2 ^ m := Nat.pow_le_pow_right (by decide) h
theorem gr_bounds : ∀ {n : Nat} {l : List Nat}, Desc n l → 0 ≤ gr l ∧ gr l < (2 ^ n : Nat)
  | n, [], _ => by
    have := p2_pos n
    show (0 : Int) ≤ 0 ∧ (0 : Int) < (2 ^ n : Nat)
    omega
  | n, g :: r, h => by
    have ⟨a, b⟩ := gr_bounds h.2
    have c := p2_mono (show g + 1 ≤ n from h.1)
    have e := p2_succ g
    show 0 ≤ ((2 ^ (g + 1) : Nat) : Int) - 1 - gr r ∧ ((2 ^ (g + 1) : Nat) : Int) - 1 - gr r < (2 ^ n : Nat)
    omega
theorem gr_head {g : Nat} {r : List Nat} (h : Desc g r) : ((2 ^ g : Nat) : Int) ≤ gr (g :: r) ∧ gr (g :: r) < (2 ^ (g + 1) : Nat) := by
  have ⟨a, b⟩ := gr_bounds h
  have e := p2_succ g
  show ((2 ^ g : Nat) : Int) ≤ ((2 ^ (g + 1) : Nat) : Int) - 1 - gr r ∧ ((2 ^ (g + 1) : Nat) : Int) - 1 - gr r < (2 ^ (g + 1) : Nat)
  omega
theorem ghead_one {g g' : Nat} {p : Int} (h1 : ((2 ^ g : Nat) : Int) ≤ p) (h2 : p < (2 ^ (g + 1) : Nat)) (h3 : ((2 ^ g' : Nat) : Int) ≤ p) (h4 : p < (2 ^ (g' + 1) : Nat)) : g = g' := by
  rcases Nat.lt_trichotomy g g' with h | h | h
  · have := p2_mono (show g + 1 ≤ g' from h)
    omega
  · exact h
  · have := p2_mono (show g' + 1 ≤ g from h)
    omega
theorem gr_inj : ∀ {a b : List Nat} {n m : Nat}, Desc n a → Desc m b → gr a = gr b → a = b
  | [], [], _, _, _, _, _ => rfl
  | [], g :: r, _, _, _, hb, h => by
    have ⟨a, _⟩ := gr_head hb.2
    have := p2_pos g
    have h' : (0 : Int) = gr (g :: r) := h
    omega
  | g :: r, [], _, _, ha, _, h => by
    have ⟨a, _⟩ := gr_head ha.2
    have := p2_pos g
    have h' : gr (g :: r) = 0 := h
    omega
  | g :: r, g' :: r', n, m, ha, hb, hr => by
    have ⟨a1, a2⟩ := gr_head ha.2
    have ⟨b1, b2⟩ := gr_head hb.2
    rw [← hr] at b1 b2
    have e := ghead_one a1 a2 b1 b2
    subst e
    have e2 : gr r = gr r' := by
      have q : ((2 ^ (g + 1) : Nat) : Int) - 1 - gr r = ((2 ^ (g + 1) : Nat) : Int) - 1 - gr r' := hr
      omega
    rw [gr_inj ha.2 hb.2 e2]
/-- the set of a number -/
def gu : Nat → Int → List Nat
  | 0, _ => []
  | n + 1, k => if k < (2 ^ n : Nat) then gu n k else n :: gu n ((2 ^ (n + 1) : Nat) - 1 - k)
theorem gu_spec : ∀ (n : Nat) (k : Int), 0 ≤ k → k < (2 ^ n : Nat) → Desc n (gu n k) ∧ gr (gu n k) = k
  | 0, k, h0, h1 => by
    have e : k = 0 := by
      have : ((2 ^ 0 : Nat) : Int) = 1 := rfl
      omega
    subst e
    exact ⟨trivial, rfl⟩
  | n + 1, k, h0, h1 => by
    have e := p2_succ n
    by_cases c : k < (2 ^ n : Nat)
    · have ⟨a, b⟩ := gu_spec n k h0 c
      have q : gu (n + 1) k = gu n k := by show (if _ then _ else _) = _; rw [if_pos c]
      rw [q]
      exact ⟨a.mono (Nat.le_succ n), b⟩
    · have ⟨a, b⟩ := gu_spec n ((2 ^ (n + 1) : Nat) - 1 - k) (by omega) (by omega)
      have q : gu (n + 1) k = n :: gu n ((2 ^ (n + 1) : Nat) - 1 - k) := by show (if _ then _ else _) = _; rw [if_neg c]
      rw [q]
      refine ⟨⟨Nat.lt_succ_self n, a⟩, ?_⟩
      show ((2 ^ (n + 1) : Nat) : Int) - 1 - gr (gu n _) = k
      rw [b]
      omega
theorem gu_gr {n : Nat} {l : List Nat} (h : Desc n l) : gu n (gr l) = l := by
  have ⟨a, b⟩ := gr_bounds h
  have ⟨d1, d2⟩ := gu_spec n (gr l) a b
  exact gr_inj d1 h d2
theorem gu_more {n m : Nat} {p : Int} (hn : n ≤ m) (h0 : 0 ≤ p) (h1 : p < (2 ^ n : Nat)) : gu m p = gu n p := by
  have ⟨a1, a2⟩ := gu_spec n p h0 h1
  have le := p2_mono hn
  have ⟨b1, b2⟩ := gu_spec m p h0 (by omega)
  exact gr_inj b1 a1 (by rw [a2, b2])
/-- the last set: the greatest thing alone -/
theorem gr_last (n : Nat) : gr [n] = (2 ^ (n + 1) : Nat) - 1 := by
  show ((2 ^ (n + 1) : Nat) : Int) - 1 - 0 = _
  omega
/-! one thing is put in or taken out -/
structure Tg (a b : List Nat) (t : Nat) : Prop where
  flip : t ∈ a ↔ t ∉ b
  same : ∀ x, x ≠ t → (x ∈ a ↔ x ∈ b)
theorem Tg.symm {a b : List Nat} {t : Nat} (h : Tg a b t) : Tg b a t :=
  ⟨⟨fun q r => h.flip.mp r q, fun q => Classical.byContradiction fun r => q (h.flip.mpr r)⟩, fun x n => (h.same x n).symm⟩
theorem Tg.cons {a b : List Nat} {t g : Nat} (h : Tg a b t) (n : t ≠ g) : Tg (g :: a) (g :: b) t := by
  refine ⟨?_, fun x hx => by rw [List.mem_cons, List.mem_cons, h.same x hx]⟩
  rw [List.mem_cons, List.mem_cons]
  constructor
  · rintro (e | q) (e' | q')
    · exact n e
    · exact n e
    · exact n e'
    · exact h.flip.mp q q'
  · intro q
    exact .inr (h.flip.mpr fun r => q (.inr r))
/-- the thing that changes is the only one -/
theorem Tg.one {a b : List Nat} {t u : Nat} (h : Tg a b t) (h' : Tg a b u) : t = u := by
  apply Classical.byContradiction
  intro n
  have s := h'.same t n
  by_cases q : t ∈ b
  · exact (h.flip.mp (s.mpr q)) q
  · exact q (s.mp (h.flip.mpr q))
theorem tg_next : ∀ {a b : List Nat} {n m : Nat}, Desc n a → Desc m b → gr b = gr a + 1 → ∃ t, Tg a b t
  | [], [], _, _, _, _, h => by
    have h' : (0 : Int) = 0 + 1 := h
    exact absurd h' (by decide)
  | [], g :: r, _, _, _, hb, h => by
    have ⟨x, y⟩ := gr_head hb.2
    have h' : gr (g :: r) = 0 + 1 := h
    have g0 : g = 0 := by
      apply Classical.byContradiction
      intro ne
      have := p2_mono (show 1 ≤ g by omega)
      have e : 2 ^ 1 = 2 := rfl
      omega
    subst g0
    have r0 : r = [] := by
      cases r with
      | nil => rfl
      | cons a b => exact absurd hb.2.1 (Nat.not_lt_zero _)
    subst r0
    exact ⟨0, by simp, fun x hx => by simp [hx]⟩
  | g :: r, [], _, _, ha, _, h => by
    have ⟨x, y⟩ := gr_head ha.2
    have := p2_pos g
    have h' : (0 : Int) = gr (g :: r) + 1 := h
    omega
  | ga :: ra, gb :: rb, n, m, ha, hb, hr => by
    have ⟨a1, a2⟩ := gr_head ha.2
    have ⟨b1, b2⟩ := gr_head hb.2
    have ea : gr (ga :: ra) = (2 ^ (ga + 1) : Nat) - 1 - gr ra := rfl
    have eb : gr (gb :: rb) = (2 ^ (gb + 1) : Nat) - 1 - gr rb := rfl
    rcases Nat.lt_trichotomy ga gb with h | h | h
    · have c1 := p2_mono (show ga + 1 ≤ gb from h)
      have eg : gb = ga + 1 := by
        apply Classical.byContradiction
        intro ne
        have c2 := p2_mono (show ga + 1 + 1 ≤ gb by omega)
        have c3 := p2_succ (ga + 1)
        have c4 := p2_pos (ga + 1)
        omega
      subst eg
      have c3 := p2_succ (ga + 1)
      have ra0 : gr ra = 0 := by omega
      have era : ra = [] := gr_inj ha.2 (b := []) (m := 0) trivial ra0
      have rb1 : gr rb = (2 ^ (ga + 1) : Nat) - 1 := by omega
      have erb : rb = [ga] := gr_inj hb.2 (b := [ga]) (m := ga + 1) ⟨Nat.lt_succ_self _, trivial⟩ (by rw [gr_last]; exact rb1)
      subst era
      subst erb
      exact ⟨ga + 1, by simp, fun x hx => by simp [hx]⟩
    · subst h
      have q : gr ra = gr rb + 1 := by omega
      obtain ⟨t, e⟩ := tg_next hb.2 ha.2 q
      refine ⟨t, e.symm.cons ?_⟩
      intro et
      subst et
      have m1 : t ∉ ra := fun q => absurd (ha.2.mem t q) (Nat.lt_irrefl _)
      have m2 : t ∉ rb := fun q => absurd (hb.2.mem t q) (Nat.lt_irrefl _)
      exact m2 (e.flip.mpr m1)
    · have c1 := p2_mono (show gb + 1 ≤ ga from h)
      omega
termination_by a b _ _ => a.length + b.length
decreasing_by
  all_goals simp only [List.length_cons]
  all_goals omega
theorem tg_round {n : Nat} {a b : List Nat} (ha : Desc n a) (hb : Desc n b) (h0 : 0 < n) (ea : gr a = (2 ^ n : Nat) - 1) (eb : gr b = 0) : Tg a b (n - 1) := by
  obtain ⟨k, rfl⟩ : ∃ k, n = k + 1 := ⟨n - 1, by omega⟩
  have a_is : a = [k] := gr_inj ha (b := [k]) (m := k + 1) ⟨Nat.lt_succ_self _, trivial⟩ (by rw [gr_last]; exact ea)
  have b_is : b = [] := gr_inj hb (b := []) (m := 0) trivial eb
  subst a_is b_is
  exact ⟨by simp, fun x hx => by
    have : x ≠ k := hx
    simp [this]⟩
theorem tg_step {n : Nat} {a b : List Nat} (ha : Desc n a) (hb : Desc n b) (h0 : 0 < n) (e : gr b = (gr a + 1) % ((2 ^ n : Nat) : Int)) : ∃ t, t < n ∧ Tg a b t := by
  have ⟨x, y⟩ := gr_bounds ha
  have key : ∃ t, Tg a b t := by
    by_cases c : gr a + 1 = (2 ^ n : Nat)
    · refine ⟨_, tg_round ha hb h0 (by omega) ?_⟩
      rw [e, c, Int.emod_self]
    · refine tg_next ha hb ?_
      rw [e]
      exact Int.emod_eq_of_lt (by omega) (by omega)
  obtain ⟨t, ht⟩ := key
  refine ⟨t, ?_, ht⟩
  by_cases q : t ∈ b
  · exact hb.mem t q
  · exact ha.mem t (ht.flip.mpr q)
/-- what remains of the one without the other -/
theorem Tg.filters {a b : List Nat} {t : Nat} (h : Tg a b t) (na : a.Nodup) (nb : b.Nodup) :
    (t ∈ a ∧ t ∉ b ∧ a.filter (fun x => !b.contains x) = [t] ∧ b.filter (fun x => !a.contains x) = []) ∨ (t ∉ a ∧ t ∈ b ∧ a.filter (fun x => !b.contains x) = [] ∧ b.filter (fun x => !a.contains x) = [t]) := by
  have lem : ∀ {a b : List Nat}, Tg a b t → t ∈ a → t ∉ b → a.Nodup → a.filter (fun x => !b.contains x) = [t] ∧ b.filter (fun x => !a.contains x) = [] := by
    intro a b h ta tb nd
    constructor
    · refine filter_one nd ta fun x hx => ?_
      simp only [Bool.not_eq_true', List.contains_eq_mem, decide_eq_false_iff_not]
      constructor
      · intro q
        apply Classical.byContradiction
        intro ne
        exact q ((h.same x ne).mp hx)
      · intro q; rw [q]; exact tb
    · rw [List.filter_eq_nil_iff]
      intro x hx
      simp only [Bool.not_eq_true', List.contains_eq_mem, decide_eq_false_iff_not]
      intro q
      by_cases e : x = t
      · subst e; exact tb hx
      · exact q ((h.same x e).mpr hx)
  by_cases ta : t ∈ a
  · have tb := h.flip.mp ta
    have ⟨x, y⟩ := lem h ta tb na
    exact .inl ⟨ta, tb, x, y⟩
  · have tb : t ∈ b := Classical.byContradiction fun q => ta (h.flip.mpr q)
    have ⟨x, y⟩ := lem h.symm tb ta nb
    exact .inr ⟨ta, tb, y, x⟩
end Dp
/-! t[::-1] of a tuple -/
namespace DpT
open PySem PySem.Spec PyProof.Rows HT
section
variable {prog : Program} {w : World} {A : Around} {E : Value → Shared → Prop} {s : Shared}
theorem adjust_rev (n : Nat) : Builtin.Slice.sliceAdjust none none (-1) (n : Int) = ((n : Int) - 1, -1) := by
  have h1 : ((-1 : Int) < 0) := by decide
  unfold Builtin.Slice.sliceAdjust
  simp only [h1, if_true]
theorem places_rev (n : Nat) : Builtin.Slice.slicePlaces ((n : Int) - 1) (-1) (-1) = n := by
  unfold Builtin.Slice.slicePlaces
  have h1 : ¬ ((-1 : Int) > 0) := by decide
  simp only [h1, if_false]
  by_cases c : n = 0
  · subst c; simp
  · have h2 : (n : Int) - 1 > -1 := by omega
    rw [if_pos h2]
    have h3 : ((n : Int) - 1 - -1 - 1) / - -1 + 1 = n := by
      rw [show (- -1 : Int) = 1 from rfl, Int.ediv_one]; omega
    rw [h3]; rfl
theorem sliceApplied_rev {sl : Addr} {vl vu vs : Value} {n : Nat} {Q : Int × Int × Nat → Shared → Prop} (hs : s.heap.IsSliceOf sl vl vu vs) (pl : IsPart vl none) (pu : IsPart vu none) (ps : IsPart vs (some (-1)))
    (h : Q ((n : Int) - 1, -1, n) s) : wpAny (model prog w) A (Builtin.Slice.sliceApplied (.ref sl) (pure (n : Int))) Q E s := by
  obtain ⟨os, hos, hcs, hds⟩ := id hs
  unfold Builtin.Slice.sliceApplied Builtin.Slice.sliceFields
  refine wpAny_bind (wpAny_bind (wpAny_field hos hds (x := vl) rfl (wpAny_bind (wpAny_field hos hds (x := vu) rfl (wpAny_bind (wpAny_field hos hds (x := vs) rfl (wpAny_pure ?_)))))))
  refine wpAny_bind (slicePart_ ps ?_)
  show wpAny _ _ (if ((-1 : Int) == 0) = true then _ else _) _ _ s
  rw [if_neg (by decide)]
  refine wpAny_bind (slicePart_ pl (wpAny_bind (slicePart_ pu (wpAny_bind (wpAny_pure ?_)))))
  show wpAny _ _ (match Builtin.Slice.sliceAdjust none none (-1) (n : Int) with | (lo, hi) => pure (lo, (-1 : Int), Builtin.Slice.slicePlaces lo hi (-1))) _ _ s
  rw [adjust_rev n]
  show wpAny _ _ (pure ((n : Int) - 1, (-1 : Int), Builtin.Slice.slicePlaces ((n : Int) - 1) (-1) (-1))) _ _ s
  rw [places_rev]
  exact wpAny_pure h
theorem pick_rev (xs : Array Value) : ((List.range xs.size).filterMap fun (m : Nat) => xs[(((xs.size : Int) - 1) + (m : Int) * -1).toNat]?).toArray = xs.toList.reverse.toArray := by
  congr 1
  apply List.ext_getElem?
  intro i
  have key : ∀ (k : Nat), k ≤ xs.size → (List.range k).filterMap (fun (m : Nat) => xs[(((xs.size : Int) - 1) + (m : Int) * -1).toNat]?) = xs.toList.reverse.take k := by
    intro k
    induction k with
    | zero => intro _; rfl
    | succ k ih =>
      intro hk
      rw [List.range_succ, List.filterMap_append, ih (by omega), List.take_succ]
      congr 1
      have e1 : (((xs.size : Int) - 1) + (k : Int) * -1).toNat = xs.size - 1 - k := by omega
      have e2 : xs.toList.reverse[k]? = xs[xs.size - 1 - k]? := by
        rw [List.getElem?_reverse (by rw [Array.length_toList]; omega), Array.length_toList, Array.getElem?_toList]
      show List.filterMap _ [k] = (xs.toList.reverse[k]?).toList
      rw [e2, List.filterMap_cons, e1]
      cases xs[xs.size - 1 - k]? <;> rfl
  rw [key xs.size (Nat.le_refl _), List.take_of_length_le (by rw [List.length_reverse, Array.length_toList]; exact Nat.le_refl _)]
theorem getItem_tuple_rev {t sl : Addr} {items : Array Value} {vl vu vs : Value} {Q : Value → Shared → Prop} (ht : IsTup s.heap t items) (hs : s.heap.IsSliceOf sl vl vu vs) (pl : IsPart vl none) (pu : IsPart vu none) (ps : IsPart vs (some (-1)))
    (h : Q (.ref s.heap.objs.size) { s with heap := s.heap.push { cls := .type "tuple", data := .seq items.toList.reverse.toArray } })
    (hsz : items.size ≤ sizeLine) : wpAny (model prog w) A (getItem (.ref t) (.ref sl)) Q E s := by
  have htake : sizeOk (.seq items.toList.reverse.toArray) := by
    show items.toList.reverse.toArray.size ≤ sizeLine
    rw [List.size_toArray, List.length_reverse, Array.length_toList]
    exact hsz
  obtain ⟨os, hos, hcs, hds⟩ := id hs
  have hTs : s.TypeIs (.ref sl) "slice" := ⟨os, hos, hcs⟩
  unfold getItem
  try with_reducible refine wpAny_holding ?_
  first | refine wpAny_bind (wpAny_pure ?_) | skip
  refine wpAny_bind (wpAny_sequenceKey ht.typeIs (by decide) ?_)
  refine wpAny_bind (wpAny_callSpecial?_slot (name := Str.ofString "__getitem__") ht.typeIs PyProof.Rows.slot_tuple_getitem
    (wpAny_call_entry PyProof.Rows.slot_tuple_getitem ht.typeIs entry_tuple_getitem ?_ (args_tuple_getitem _ _)))
  show wpAny _ _ (Builtin.Tuple.tupleItemsOf (.ref t) >>= _) _ _ s
  refine wpAny_bind (tupleItemsOf_ ht ?_)
  refine wpAny_bind (wpAny_typeOf hTs ?_)
  rw [if_pos (by decide)]
  refine wpAny_bind (sliceApplied_rev hs pl pu ps ?_)
  have hno : ¬ ((((items.size : Int) - 1) == 0 && (-1 : Int) == 1 && items.size == items.size) = true) := by
    intro q
    rw [Bool.and_eq_true, Bool.and_eq_true] at q
    exact absurd (eq_of_beq q.1.2) (by decide)
  show wpAny _ _ (if (((items.size : Int) - 1) == 0 && (-1 : Int) == 1 && items.size == items.size) = true then _ else _) _ _ s
  rw [if_neg hno, pick_rev]
  first
    | exact wpAny_bind (m := Builtin.Tuple.tupleExact _) (wpAny_newObj_type (wpAny_pure ⟨_, rfl, wpAny_pure h⟩) htake)
    | exact wpAny_bind (m := Builtin.Tuple.tupleExact _) (wpAny_newObj_type (wpAny_bind (wpAny_pure (wpAny_pure ⟨_, rfl, wpAny_pure h⟩))) htake)
    | exact wpAny_bind (wpAny_bind (m := Builtin.Tuple.tupleExact _) (wpAny_newObj_type (wpAny_pure (wpAny_pure ⟨_, rfl, wpAny_pure h⟩)) htake))
    | exact wpAny_bind (wpAny_bind (m := Builtin.Tuple.tupleExact _) (wpAny_newObj_type (wpAny_pure ⟨_, rfl, wpAny_pure h⟩) htake))
end
end DpT
namespace DpR
open PySem PySem.Spec PyProof.Rows L2
section
variable {X : Cx}
def tRevT (K : PySem.W.Frag) (te : TE) : TE := fun σ H Q => te σ H fun x H1 => ∃ a xs, x = .ref a ∧ SqT K H1 a xs ∧ ∀ p, H1 p = none → Q (.ref p) (upd H1 p (.tup xs.reverse))
theorem pe_revT {e : Expr} {te : TE} {k : Nat} {p1 p2 p3 pos : Pos} (he : PE X e te) : PE X (.Subscript e (.Slice none none (some (.UnaryOp .USub (.Constant (.int 1) k p1) p2)) p3) pos) (tRevT X.K te) := by
  refine ⟨fun pins s σ H Q I h => ?_⟩
  refine Subscript_ (thn (he.run pins s σ H _ I h) fun v s1 ⟨x, H1, I1, r1, q1⟩ => ?_)
  obtain ⟨a, xs, ex, hx, q⟩ := q1
  subst ex
  cases r1
  have hst : PO X (some (.UnaryOp .USub (.Constant (.int 1) k p1) p2)) (tPart (tUn (rU fun i => .int (-i)) (tC (.int 1)))) := po_some (pe_un un_neg pe_int)
  refine wpAny_Slice (thn (po_none.run pins s1 σ H1 (fun o H2 => o = none ∧ H2 = H1) I1 ⟨rfl, rfl⟩) fun vl s2 ⟨l, H2, I2, pl, el, e2⟩ => ?_)
  subst el e2
  refine thn (po_none.run pins s2 σ H2 (fun o H3 => o = none ∧ H3 = H2) I2 ⟨rfl, rfl⟩) fun vu s3 ⟨u, H3, I3, pu, eu, e3⟩ => ?_
  subst eu e3
  refine thn (hst.run pins s3 σ H3 (fun o H4 => o = some (-1) ∧ H4 = H3) I3 ⟨1, rfl, -1, rfl, rfl, rfl⟩) fun vs s4 ⟨o, H4, I4, ps, eo, e4⟩ => ?_
  subst eo e4
  have I5 : Inv X pins σ H4 { s4 with heap := s4.heap.push { cls := .type "slice", data := .fields #[vl, vu, vs] } } := I4.kept (t' := s4.toks) fun b ob q => Heap.get?_push_of_some _ q
  obtain ⟨its, r, ht, hz⟩ := I5.tuple hx
  have hlen := r.length
  show wpAny (model X.prog X.w) X.A (subscriptTail e (.Slice none none (some (.UnaryOp .USub (.Constant (.int 1) k p1) p2)) p3) (.ref a) (.ref s4.heap.objs.size)) (EP X pins σ Q) X.xe { s4 with heap := s4.heap.push { cls := .type "slice", data := .fields #[vl, vu, vs] } }
  refine tail_any (ops := [.ref a, .ref s4.heap.objs.size]) ht.typeIs (PyProof.Rows.slot_tuple_getitem.lookup) ?_ (by with_unfolding_all rfl)
  refine DpT.getItem_tuple_rev ht (Heap.IsSliceOf.new _ vl vu vs) pl pu ps ?_ (by rw [List.size_toArray]; omega)
  refine ⟨.ref _, _, I5.laid (t' := s4.toks) (o := .tup xs.reverse) (fun b ob q => Heap.get?_push_of_some _ q) (Nat.le_refl _) ?_, rfl, q _ (I5.hok.fresh (Nat.le_refl _))⟩
  exact ⟨by rw [List.length_reverse]; exact hz, _, r.reverse, IsTup.new _ _⟩
/-- a.f, the fragment named (inside a comprehension) -/
theorem pe_fldK {K : PySem.W.Frag} {e : Expr} {f : Str} {pos : Pos} {ta : TE} (hK : X.K = K) (he : PE X e ta) (hb : attributeBase e f X.env (eval e X.env) = eval e X.env) : PE X (.Attribute e f pos) (tFld K ta f) := by
  subst hK
  exact pe_fld he hb
end
end DpR
namespace Dp
open PySem PySem.Spec PyProof.Rows L2 DpR
/-! ### tuples of things, compared -/
theorem desc_lt : ∀ {ds : List Nat} {n i : Nat} {a b : Nat}, Desc n ds → ds[i]? = some a → ds[i + 1]? = some b → b < a
  | [], _, _, _, _, _, h, _ => by simp at h
  | g :: r, n, 0, a, b, h, h1, h2 => by
    have e : g = a := Option.some.inj h1
    subst e
    exact h.2.mem b (List.mem_of_getElem? (i := 0) h2)
  | g :: r, n, i + 1, a, b, h, h1, h2 => desc_lt (i := i) h.2 h1 h2
theorem asc_at {ds : List Nat} {n k : Nat} (h : Desc n ds) (hk : k < ds.length) : ∃ t, (asc ds)[k]? = some (nv t) ∧ t < n ∧ ds[ds.length - 1 - k]? = some t := by
  have h2 : ds.length - 1 - k < ds.length := by omega
  refine ⟨ds[ds.length - 1 - k], ?_, h.mem _ (List.getElem_mem h2), by simp [h2]⟩
  unfold asc
  rw [List.getElem?_map, List.getElem?_reverse hk, List.getElem?_eq_getElem h2]
  rfl
theorem asc_lt {ds : List Nat} {n k : Nat} (h : Desc n ds) (hk : k + 1 < ds.length) : ∃ a b, (asc ds)[k]? = some (nv a) ∧ (asc ds)[k + 1]? = some (nv b) ∧ a < b := by
  obtain ⟨a, a1, a2, a3⟩ := asc_at h (k := k) (by omega)
  obtain ⟨b, b1, b2, b3⟩ := asc_at h (k := k + 1) hk
  refine ⟨a, b, a1, b1, desc_lt (i := ds.length - 1 - (k + 1)) h b3 ?_⟩
  have e : ds.length - 1 - (k + 1) + 1 = ds.length - 1 - k := by omega
  rw [e]; exact a3
/-- a row of whole numbers, as data -/
def dtI (l : List Int) : PyData := .tuple (l.map PyData.int)
theorem dtI_lay : ∀ l : List Int, PyData.canLayAll0 (l.map PyData.int) = true ∧ PyData.depthAll (l.map PyData.int) = 0
  | [] => ⟨rfl, rfl⟩
  | x :: l => by
    have ⟨a, b⟩ := dtI_lay l
    constructor
    · show (PyData.canLay0 (.int x) && PyData.canLayAll0 (l.map PyData.int)) = true
      rw [a]; rfl
    · show max (PyData.depth (.int x)) (PyData.depthAll (l.map PyData.int)) = 0
      rw [b]; rfl
theorem dtI_shaped (l : List Int) : SeqAt.shaped (dtI l) = true := by
  have ⟨a, b⟩ := dtI_lay l
  show (PyData.canLayAll0 (l.map PyData.int) && decide (PyData.depth (.tuple (l.map PyData.int)) ≤ 64)) = true
  rw [a, Bool.true_and]
  refine decide_eq_true ?_
  show PyData.depthAll (l.map PyData.int) + 1 ≤ 64
  rw [b]; decide
theorem dtI_eqv (l : List Int) : PyData.eqv (dtI l) (dtI l) = true := SeqAt.eqv_refl _ (SeqAt.canLay_of_shaped (dtI_shaped l))
theorem dpAll_int {K : PySem.W.Frag} {H : Hp} : ∀ l : List Int, DpAll K H (l.map V.int) (l.map PyData.int)
  | [] => .nil
  | x :: l => .cons (.int x) (dpAll_int l)
def iasc (ds : List Nat) : List Int := ds.reverse.map Int.ofNat
theorem asc_iasc (ds : List Nat) : asc ds = (iasc ds).map V.int := by
  unfold asc iasc
  rw [List.map_map]
  rfl
theorem dp_tup {K : PySem.W.Frag} {H : Hp} {q : Addr} {ds : List Nat} (h : H q = some (.tup (asc ds))) : L2.Dp K H (.ref q) (dtI (iasc ds)) := by
  refine .tup (SqT.of h) ?_
  rw [asc_iasc]
  exact dpAll_int _
def ltI (l : List Int) : PyData := .list (l.map PyData.int)
theorem ltI_shaped (l : List Int) : SeqAt.shaped (ltI l) = true := by
  have ⟨a, b⟩ := dtI_lay l
  show (PyData.canLayAll0 (l.map PyData.int) && decide (PyData.depth (.list (l.map PyData.int)) ≤ 64)) = true
  rw [a, Bool.true_and]
  refine decide_eq_true ?_
  show PyData.depthAll (l.map PyData.int) + 1 ≤ 64
  rw [b]; decide
theorem ltI_eqv (l : List Int) : PyData.eqv (ltI l) (ltI l) = true := SeqAt.eqv_refl _ (SeqAt.canLay_of_shaped (ltI_shaped l))
theorem dp_lst {K : PySem.W.Frag} {H : Hp} {q : Addr} {ds : List Nat} (h : H q = some (.lst (asc ds))) : L2.Dp K H (.ref q) (ltI (iasc ds)) := by
  refine .lst (SqL.of h) ?_
  rw [asc_iasc]
  exact dpAll_int _

theorem inV_asc (t : Nat) (es : List Nat) : inV (nv t) (asc es) = es.contains t := by
  unfold inV asc
  rw [List.any_map, List.any_reverse]
  induction es with
  | nil => rfl
  | cons a es ih =>
    rw [List.any_cons, List.contains_cons, ih]
    congr 1
    show ((a : Int) == (t : Int)) = (t == a)
    by_cases e : a = t
    · subst e; simp
    · rw [beq_eq_false_iff_ne.mpr (by omega), beq_eq_false_iff_ne.mpr (Ne.symm e)]
theorem asc_flat (ds : List Nat) : (asc ds).all flatV = true := by
  rw [List.all_eq_true]
  intro x hx
  unfold asc at hx
  obtain ⟨t, _, rfl⟩ := List.mem_map.mp hx
  rfl
/-- the things of one pick that are not in another -/
theorem asc_filter (ds es : List Nat) : (asc ds).filter (fun x => !inV x (asc es)) = asc (ds.filter fun t => !es.contains t) := by
  unfold asc
  rw [List.filter_map, ← List.filter_reverse]
  congr 1
  apply List.filter_congr
  intro t _
  show (!inV (nv t) (asc es)) = !es.contains t
  rw [inV_asc]
theorem take_filter {xs : List V} {i : Nat} {x : V} (p : V → Bool) (h : xs[i]? = some x) : (xs.take (i + 1)).filter p = (xs.take i).filter p ++ (if p x = true then [x] else []) := by
  rw [List.take_succ, h, List.filter_append]
  congr 1
  show [x].filter p = _
  by_cases c : p x = true
  · rw [if_pos c, List.filter_cons_of_pos c]; rfl
  · rw [if_neg c, List.filter_cons_of_neg c]; rfl
theorem ex_uniq {a b : List Nat} {o i o' i' : Nat} (h : Ex a b o i) (h' : Ex a b o' i') : o = o' ∧ i = i' := by
  constructor
  · apply Classical.byContradiction
    intro ne
    by_cases e : o = i'
    · subst e; exact h'.ia h.oa
    · exact h.ob ((h'.same o ne e).mp h.oa)
  · apply Classical.byContradiction
    intro ne
    by_cases e : i = o'
    · subst e; exact h'.ob h.ib
    · exact h.ia ((h'.same i e ne).mpr h.ib)

theorem back_mod {r c : Int} (h0 : 0 ≤ r) (h1 : r < c) : ((r + 1) % c + -1) % c = r := by
  by_cases e : r + 1 = c
  · subst e
    have h2 : (r + 1) % (r + 1) = 0 := Int.emod_self
    rw [h2]
    have h3 : (0 + -1 : Int) = r + (r + 1) * (-1) := by omega
    rw [h3, Int.add_mul_emod_self_left]
    exact Int.emod_eq_of_lt h0 h1
  · have h2 : (r + 1) % c = r + 1 := Int.emod_eq_of_lt (by omega) (by omega)
    rw [h2]
    have h3 : r + 1 + -1 = r := by omega
    rw [h3]
    exact Int.emod_eq_of_lt h0 h1


theorem dp_ints {K : PySem.W.Frag} {H : Hp} {q : Addr} {l : List Int} (h : H q = some (.lst (l.map V.int))) : L2.Dp K H (.ref q) (ltI l) := .lst (SqL.of h) (dpAll_int l)
theorem dp_tupI {K : PySem.W.Frag} {H : Hp} {q : Addr} {l : List Int} (h : H q = some (.tup (l.map V.int))) : L2.Dp K H (.ref q) (dtI l) := .tup (SqT.of h) (dpAll_int l)
theorem asc_rev (ds : List Nat) : (asc ds).reverse = ds.map nv := by
  unfold asc
  rw [← List.map_reverse, List.reverse_reverse]
/-- among the first numbers just one is so -/
theorem range_one {n t : Nat} {p : Nat → Bool} (ht : t < n) (hp : ∀ x, x < n → (p x = true ↔ x = t)) : (List.range n).filter p = [t] :=
  filter_one List.nodup_range (List.mem_range.mpr ht) fun x hx => hp x (List.mem_range.mp hx)
theorem Tg.bne {a b : List Nat} {t : Nat} (h : Tg a b t) (x : Nat) : (a.contains x != b.contains x) = true ↔ x = t := by
  rw [bne_iff_ne]
  constructor
  · intro q
    apply Classical.byContradiction
    intro ne
    apply q
    rw [Bool.eq_iff_iff, List.contains_iff_mem, List.contains_iff_mem]
    exact h.same x ne
  · rintro rfl q
    rw [Bool.eq_iff_iff, List.contains_iff_mem, List.contains_iff_mem] at q
    by_cases c : x ∈ a
    · exact h.flip.mp c (q.mp c)
    · exact c (h.flip.mpr fun z => c (q.mpr z))
theorem range_filter_succ (p : Nat → Bool) (j : Nat) : (List.range (j + 1)).filter p = (List.range j).filter p ++ (if p j = true then [j] else []) := by
  rw [List.range_succ, List.filter_append]
  congr 1
  by_cases c : p j = true
  · rw [if_pos c, List.filter_cons_of_pos c]; rfl
  · rw [if_neg c, List.filter_cons_of_neg c]; rfl
/-! rows of tuples -/
def RowsAt (H : Hp) (q : Addr) (c : Nat → List V) (m : Nat) : Prop := ∃ rs : List Addr, H q = some (.lst (rs.map V.ref)) ∧ rs.length = m ∧ ∀ (i : Nat) (r : Addr), rs[i]? = some r → H r = some (.tup (c i))
theorem RowsAt.mono {H H' : Hp} {q : Addr} {c : Nat → List V} {m : Nat} (h : RowsAt H q c m) (s : Same H H') : RowsAt H' q c m :=
  let ⟨rs, e, l, kk⟩ := h; ⟨rs, s _ _ e, l, fun j r hr => s _ _ (kk j r hr)⟩
theorem RowsAt.nil {H : Hp} {q : Addr} {c : Nat → List V} (h : H q = some (.lst [])) : RowsAt H q c 0 := ⟨[], h, rfl, fun i r hr => by simp at hr⟩
/-- one row more, appended at the list itself -/
theorem RowsAt.add {H : Hp} {D z : Addr} {c : Nat → List V} {j : Nat} {acc : List V} (h : RowsAt H D c j) (hz : H z = some (.tup (c j))) (hD : H D = some (.lst acc)) : RowsAt (upd H D (.lst (acc ++ [.ref z]))) D c (j + 1) := by
  obtain ⟨ts, hts, lts, kts⟩ := h
  rw [hts] at hD
  have ea := HO.lst.inj (Option.some.inj hD)
  subst ea
  refine ⟨ts ++ [z], by rw [upd_same, List.map_append]; rfl, by rw [List.length_append, lts]; rfl, fun i r hr => ?_⟩
  have nD : ∀ (r : Addr) (xs : List V), H r = some (.tup xs) → r ≠ D := fun r xs h => ne_of h hts (by intro z; cases z)
  by_cases hi : i < ts.length
  · rw [List.getElem?_append_left hi] at hr
    have h1 := kts i r hr
    rw [upd_ne (nD _ _ h1)]
    exact h1
  · rw [List.getElem?_append_right (by omega)] at hr
    have ei : i = j := by
      by_cases zz : i - ts.length = 0
      · omega
      · rw [List.getElem?_eq_none (by simp; omega)] at hr
        cases hr
    subst ei
    rw [lts, Nat.sub_self] at hr
    have e : z = r := Option.some.inj hr
    subst e
    rw [upd_ne (nD _ _ hz)]
    exact hz
theorem RowsAt.len {H : Hp} {D : Addr} {c : Nat → List V} {j : Nat} {acc : List V} (h : RowsAt H D c j) (hD : H D = some (.lst acc)) : acc.length = j := by
  obtain ⟨ts, hts, lts, _⟩ := h
  rw [hts] at hD
  rw [← HO.lst.inj (Option.some.inj hD), List.length_map, lts]
theorem RowsAt.lst {H : Hp} {D : Addr} {c : Nat → List V} {j : Nat} (h : RowsAt H D c j) : ∃ acc, H D = some (.lst acc) ∧ acc.length = j := by
  obtain ⟨ts, hts, lts, _⟩ := h
  exact ⟨_, hts, by rw [List.length_map, lts]⟩
theorem RowsAt.at_ {H : Hp} {D : Addr} {c : Nat → List V} {j i : Nat} (h : RowsAt H D c j) (hi : i < j) : ∃ (acc : List V) (r : Addr), H D = some (.lst acc) ∧ acc.length = j ∧ acc[i]? = some (.ref r) ∧ H r = some (.tup (c i)) := by
  obtain ⟨ts, hts, lts, kts⟩ := h
  have hl : i < ts.length := by omega
  exact ⟨_, ts[i], hts, by rw [List.length_map, lts], by rw [List.getElem?_map, List.getElem?_eq_getElem hl]; rfl, kts i _ (List.getElem?_eq_getElem hl)⟩
/-- two lists of rows, one behind the other -/
theorem RowsAt.app {H : Hp} {a b q : Addr} {c d e : Nat → List V} {i j : Nat} {xs ys : List V} (h : RowsAt H a c i) (h' : RowsAt H b d j) (hx : H a = some (.lst xs)) (hy : H b = some (.lst ys)) (hq : H q = none)
    (e1 : ∀ k, k < i → e k = c k) (e2 : ∀ k, k < j → e (i + k) = d k) : RowsAt (upd H q (.lst (xs ++ ys))) q e (i + j) := by
  obtain ⟨ts, hts, lts, kts⟩ := h
  obtain ⟨us, hus, lus, kus⟩ := h'
  rw [hts] at hx
  have ea := HO.lst.inj (Option.some.inj hx)
  subst ea
  rw [hus] at hy
  have ea := HO.lst.inj (Option.some.inj hy)
  subst ea
  refine ⟨ts ++ us, by rw [upd_same, List.map_append], by rw [List.length_append, lts, lus], fun k r hr => ?_⟩
  by_cases hk : k < ts.length
  · rw [List.getElem?_append_left hk] at hr
    rw [e1 k (by omega)]
    have h1 := kts k r hr
    rw [upd_ne (ne_of_none h1 hq)]
    exact h1
  · rw [List.getElem?_append_right (by omega)] at hr
    have h1 := kus _ r hr
    have hl := (List.getElem?_eq_some_iff.mp hr).1
    have e3 : k = i + (k - ts.length) := by omega
    rw [e3, e2 _ (by omega), upd_ne (ne_of_none h1 hq)]
    exact h1
theorem gu_tail {n : Nat} {j : Int} (h0 : 0 ≤ j) (h1 : j < (2 ^ n : Nat)) : gu (n + 1) (((2 ^ n : Nat) : Int) + j) = n :: gu n (((2 ^ n : Nat) : Int) - 1 - j) := by
  have e := p2_succ n
  have q : gu (n + 1) (((2 ^ n : Nat) : Int) + j) = n :: gu n ((2 ^ (n + 1) : Nat) - 1 - (((2 ^ n : Nat) : Int) + j)) := by
    show (if _ then _ else _) = _
    rw [if_neg (by omega)]
  rw [q]
  congr 2
  omega
/-! either of two readings -/
theorem pe_either {X : Cx} {e : Expr} {t1 t2 : TE} (h1 : PE X e t1) (h2 : PE X e t2) : PE X e (fun σ H Q => t1 σ H Q ∨ t2 σ H Q) :=
  ⟨fun pins s σ H Q I h => h.elim (h1.run pins s σ H Q I) (h2.run pins s σ H Q I)⟩
theorem fn_or {P : Program} {w : World} {K : PySem.W.Frag} {mg : Str → Option Value} {base : Heap} {CX : CXT} {k : Nat} {f : Addr} {fd : FuncData} {ps : List Str} {sp sp' : Sp} (F : FnOk P w K mg base CX k f fd ps sp) (F' : FnOk P w K mg base CX k f fd ps sp') :
    FnOk P w K mg base CX k f fd ps (fun vs H Q E => sp vs H Q E ∨ sp' vs H Q E) :=
  ⟨fun vs H Q E q => q.elim (F.len vs H Q E) (F'.len vs H Q E), fun A outer s H args us vs Q E hr he hb hv hs => hs.elim (F.run A outer s H args us vs Q E hr he hb hv) (F'.run A outer s H args us vs Q E hr he hb hv)⟩
theorem dtI_same (l : List Int) {X : Bool → Prop} (h : X true) : X (PyData.eqv (dtI l) (dtI l)) := by rw [dtI_eqv]; exact h
theorem pe_weak {X : Cx} {e : Expr} {t t' : TE} (h : PE X e t) (i : ∀ σ H Q, t' σ H Q → t σ H Q) : PE X e t' :=
  ⟨fun pins s σ H Q I w => h.run pins s σ H Q I (i σ H Q w)⟩
theorem rgV_succ (m : Nat) : rgV 0 ((m + 1 : Nat) : Int) = rgV 0 (m : Int) ++ [nv m] := by
  unfold rgV
  have e1 : (((m + 1 : Nat) : Int) - 0).toNat = m + 1 := by omega
  have e2 : ((m : Int) - 0).toNat = m := by omega
  rw [e1, e2, List.range_succ, List.map_append]
  congr 1
  show [V.int (0 + ((m : Nat) : Int))] = [nv m]
  rw [Int.zero_add]; rfl
theorem asc_fst : ∀ m : Nat, asc (fst m) = rgV 0 (m : Int)
  | 0 => rfl
  | m + 1 => by
    rw [rgV_succ, ← asc_fst m]
    exact asc_cons m (fst m)
theorem cat_go {K : PySem.W.Frag} {H : Hp} {a b : Addr} {xs ys : List V} {Q : VK} (ha : H a = some (.tup xs)) (hb : H b = some (.tup ys)) (hl : xs.length + ys.length ≤ sizeLine)
    (h : ∀ z HL, Same H HL → HL z = some (.tup (xs ++ ys)) → Q (.ref z) HL) : rCatA K (.ref a) (.ref b) H Q :=
  ⟨a, b, xs, ys, rfl, rfl, SqT.of ha, SqT.of hb, hl, fun e => h b H (Same.refl _) (by rw [e]; exact hb), fun _ e => h a H (Same.refl _) (by rw [e, List.append_nil]; exact ha), fun _ _ p hp => h p _ (fun b u e => by rw [upd_ne (ne_of_none e hp)]; exact e) upd_same⟩
/-- an item at a drawn place -/
theorem at_drawn (xs : List V) {i : Int} (h0 : 0 ≤ i) (h1 : i < xs.length) : ∃ v, atI xs i = some v ∧ v ∈ xs := by
  obtain ⟨j, rfl⟩ : ∃ j : Nat, i = j := ⟨i.toNat, by omega⟩
  have hj : j < xs.length := by omega
  exact ⟨xs[j], atI_nat (by simp [hj]), List.getElem_mem hj⟩
end Dp
/-! sorted(t), t a tuple of ints -/
namespace DpT
open PySem PySem.Spec PyProof.Rows HT
section
variable {prog : Program} {w : World} {A : Around} {E : Value → Shared → Prop} {s : Shared}
theorem collect_tup {l : Addr} {vs : List Value} {Q : List Value → Shared → Prop} (hl : IsTup s.heap l vs.toArray)
    (h : Q vs { s with heap := (s.heap.push (seqObj "list" #[] 0)).update s.heap.objs.size (Obj.mapSeq (· ++ vs.toArray)) }) (hsz : vs.length ≤ sizeLine) :
    wpAny (model prog w) A (collect (.ref l)) Q E s := by
  obtain ⟨o, ho, hc, n, hd⟩ := id hl
  unfold collect
  refine wpAny_bind (wpAny_runValue (codeAny_builtin entry_proto_collect' ?_))
  show wpAny _ _ (do again (.builtin "list.__iadd__" ⟨[← newList [], .ref l], []⟩)) _ _ s
  refine wpAny_bind (wpAny_newList (wpAny_pure ⟨Code.quiet_builtin _ (by decide +kernel), codeAny_builtin entry_list_iadd' ?_⟩))
  show wpAny _ _ (Builtin.List.listExtendWith (.ref s.heap.objs.size) (.ref l) (.ref s.heap.objs.size)) _ _ { s with heap := s.heap.push (seqObj "list" #[] 0) }
  unfold Builtin.List.listExtendWith
  have ho' : (s.heap.push (seqObj "list" #[] 0)).get? l = some o := Heap.get?_push_of_some _ ho
  refine wpAny_bind (wpAny_typeOf (T := "tuple") ⟨o, ho', hc⟩ ?_)
  have ht : (Value.type "tuple" == Value.type "tuple") = true := by rfl
  rw [if_pos (by rw [ht]; simp)]
  refine wpAny_bind (listItems_at ho' hd ?_)
  refine wpAny_bind (listItems_at (xs := #[]) (n := 0) (Heap.get?_push_size _ rfl) rfl ?_)
  rw [if_neg (by simp)]
  refine wpAny_bind (listUpdate_at (xs := #[]) (n := 0) (Heap.get?_push_size _ rfl) rfl ?_ (Nat.zero_le _) (by show (#[] ++ vs.toArray).size ≤ sizeLine + 1; simp only [Array.size_append, List.size_toArray, List.length_nil]; omega))
  refine wpAny_pure ?_
  show wpAny (model prog w) A (do
      let o ← load s.heap.objs.size
      match o.data with
      | .seq xs _ => pure xs.toList
      | _ => unsupported "internal:collect") Q E { s with heap := (s.heap.push (seqObj "list" #[] 0)).update s.heap.objs.size (Obj.mapSeq (· ++ vs.toArray)) }
  refine wpAny_bind (wpAny_load (get?_update_seq (Heap.get?_push_size _ rfl) _) ?_)
  show wpAny _ _ (pure ((#[] : Array Value) ++ vs.toArray).toList) Q E _
  rw [show ((#[] : Array Value) ++ vs.toArray).toList = vs by simp]
  exact wpAny_pure h
end
end DpT
namespace SrtO
open PySem PySem.Spec PyProof.Rows
section
variable {prog : Program} {w : World} {A : Around} {E : Value → Shared → Prop} {s : Shared}
theorem sorted_ordTp {l : Addr} {vs : List Value} {ltv : Value → Value → Bool} {Q : Value → Shared → Prop} (O : Swo ltv) (hl : IsTup s.heap l vs.toArray) (hz : vs.length ≤ sizeLine)
    (hS : 2 ≤ vs.length → ∀ (h₁ : Heap) (a : Addr), h₁.get? a = some (seqObj "list" vs.toArray 0) → (∀ b o, s.heap.get? b = some o → b ≠ a ∧ h₁.get? b = some o) → SortableO prog w A.in1.in1 { s with heap := h₁ } a vs ltv)
    (h : ∀ out : List Value, Srtd ltv out → Stb ltv out vs → Q (.ref (s.heap.objs.size + 1)) { s with heap := sortedAll s.heap vs out.toArray }) :
    wpAny (model prog w) A (call (.builtin "sorted") [.ref l]) Q E s := by
  refine Calls.call_function_entry kind_sorted plain_sorted entry_sorted (args_sorted1 _) ?_
  unfold Builtin.«sorted»
  refine wpAny_bind (m := checkCount "sorted" 1 1 _) (wpAny_pure ?_)
  refine wpAny_bind (DpT.collect_tup hl ?_ hz)
  refine wpAny_bind (wpAny_newList ?_ hz)
  have hsz : ((s.heap.push (seqObj "list" #[] 0)).update s.heap.objs.size (Obj.mapSeq (· ++ vs.toArray))).objs.size = s.heap.objs.size + 1 := by
    rw [Heap.size_update, size_push']
  have hoL : (((s.heap.push (seqObj "list" #[] 0)).update s.heap.objs.size (Obj.mapSeq (· ++ vs.toArray))).push (seqObj "list" vs.toArray 0)).get? (s.heap.objs.size + 1) = some (seqObj "list" vs.toArray 0) := by
    rw [← hsz]; exact Heap.get?_push_size _ rfl
  have keep : ∀ b o, s.heap.get? b = some o → b ≠ s.heap.objs.size + 1 ∧ (((s.heap.push (seqObj "list" #[] 0)).update s.heap.objs.size (Obj.mapSeq (· ++ vs.toArray))).push (seqObj "list" vs.toArray 0)).get? b = some o := fun b o q => by
    have hlt : b < s.heap.objs.size := Heap.lt_size q
    refine ⟨Nat.ne_of_lt (Nat.lt_succ_of_lt hlt), Heap.get?_push_of_some _ ?_⟩
    rw [Heap.get?_update_ne _ _ _ _ (Nat.ne_of_lt hlt)]
    exact Heap.get?_push_of_some _ q
  show wpAny _ _ _ _ _ { s with heap := ((s.heap.push (seqObj "list" #[] 0)).update s.heap.objs.size (Obj.mapSeq (· ++ vs.toArray))).push (seqObj "list" vs.toArray 0) }
  rw [hsz]
  refine wpAny_bind (wpAny_holding (wpAny_call_entry slot_list_sort ⟨_, hoL, rfl⟩ entry_list_sort (list_sort_ord O hoL hz (fun h2 => hS h2 _ _ hoL keep) fun out hs hb => ⟨_, rfl, ?_⟩) (args_list_sort _)))
  exact wpAny_pure ⟨_, rfl, h out hs hb⟩
end
end SrtO
namespace DpR
open PySem PySem.Spec PyProof.Rows L2
def rSortedTp (K : PySem.W.Frag) : List V → Hp → VK → Prop := fun vs H Q => ∃ (a : Addr) (ns : List Int), vs = [V.ref a] ∧ SqT K H a (ns.map V.int) ∧
  ∀ (ns' : List Int) (p : Addr), ns'.Perm ns → ns'.Pairwise (· ≤ ·) → H p = none → Q (.ref p) (upd H p (.lst (ns'.map V.int)))
theorem cr_sortedTp {X : Cx} : CallR X (.builtin "sorted") (rSortedTp X.K) := by
  intro pins s σ H vs us Q I r h
  obtain ⟨a, ns, rfl, hs, q⟩ := h
  obtain ⟨its, rv, hl, hz⟩ := I.tuple hs
  rw [Vals.ref1 r]
  have hi := rv.ints
  refine SrtO.sorted_ordTp SrtO.swo_int hl (by rw [← rv.length]; exact hz) (fun h2 h₁ a' _ _ => SrtO.ints_sortable hi h2) fun out h1 h2 => ?_
  obtain ⟨k1, k2, k3⟩ := SrtO.ints_out hi h1 h2
  obtain ⟨ep, he'⟩ := PyProof.Rows.sortedAll_at s.heap its out.toArray
  have hlen : ((out.map SrtO.iv).map V.int).length ≤ sizeLine := by
    rw [List.length_map, k2.length_eq]
    rw [List.length_map] at hz
    exact hz
  exact ⟨.ref _, upd H (s.heap.objs.size + 1) (.lst ((out.map SrtO.iv).map V.int)), I.laid (t' := s.toks) (fun _ _ => PyProof.Rows.sortedAll_old) (Nat.le_succ _) ⟨hlen, out, ep, vals_of_ints k1, he'⟩, rfl, q _ _ k2 k3 (I.hok.fresh (Nat.le_succ _))⟩
end DpR
namespace Dp
open PySem PySem.Spec PyProof.Rows L2 DpR
/-! things put in order -/
theorem desc_ext : ∀ {a b : List Nat} {n m : Nat}, Desc n a → Desc m b → (∀ x, x ∈ a ↔ x ∈ b) → a = b
  | [], [], _, _, _, _, _ => rfl
  | [], g :: r, _, _, _, _, h => absurd ((h g).mpr List.mem_cons_self) (List.not_mem_nil)
  | g :: r, [], _, _, _, _, h => absurd ((h g).mp List.mem_cons_self) (List.not_mem_nil)
  | g :: r, g' :: r', n, m, ha, hb, h => by
    have e : g = g' := by
      rcases List.mem_cons.mp ((h g).mp List.mem_cons_self) with q | q
      · exact q
      · rcases List.mem_cons.mp ((h g').mpr List.mem_cons_self) with q' | q'
        · exact q'.symm
        · have h1 := hb.2.mem g q
          have h2 := ha.2.mem g' q'
          omega
    subst e
    congr 1
    refine desc_ext ha.2 hb.2 fun x => ?_
    have hx := h x
    rw [List.mem_cons, List.mem_cons] at hx
    have n1 : g ∉ r := fun q => absurd (ha.2.mem g q) (Nat.lt_irrefl _)
    have n2 : g ∉ r' := fun q => absurd (hb.2.mem g q) (Nat.lt_irrefl _)
    constructor
    · intro q
      rcases hx.mp (.inr q) with e | e
      · subst e; exact (n1 q).elim
      · exact e
    · intro q
      rcases hx.mpr (.inr q) with e | e
      · subst e; exact (n2 q).elim
      · exact e
theorem desc_filter : ∀ {l : List Nat} {n : Nat} (p : Nat → Bool), Desc n l → Desc n (l.filter p)
  | [], _, _, _ => trivial
  | g :: r, n, p, h => by
    have ih := desc_filter p h.2
    by_cases c : p g = true
    · rw [List.filter_cons_of_pos c]
      exact ⟨h.1, ih⟩
    · rw [List.filter_cons_of_neg c]
      exact ih.mono (Nat.le_of_lt h.1)
theorem desc_pw : ∀ {l : List Nat} {n : Nat}, Desc n l → l.Pairwise (fun a b => b < a)
  | [], _, _ => .nil
  | g :: r, n, h => .cons (fun b hb => h.2.mem b hb) (desc_pw h.2)
theorem iasc_pw {l : List Nat} {n : Nat} (h : Desc n l) : (iasc l).Pairwise (· ≤ ·) := by
  unfold iasc
  rw [List.pairwise_map, List.pairwise_reverse]
  exact (desc_pw h).imp fun {a b} q => by show (Int.ofNat b) ≤ Int.ofNat a; exact Int.ofNat_le.mpr (Nat.le_of_lt q)
/-- what is sorted of things: the pick that has just them -/
theorem sorted_is {n : Nat} {es l : List Nat} {ns : List Int} (he : Desc n es) (nd : l.Nodup) (hm : ∀ x, x ∈ l ↔ x ∈ es) (hp : ns.Perm (l.map Int.ofNat)) (hs : ns.Pairwise (· ≤ ·)) : ns.map V.int = asc es := by
  have p1 : l.Perm es := (List.perm_ext_iff_of_nodup nd he.nodup).mpr hm
  have p2 : ns.Perm (iasc es) := hp.trans ((p1.map _).trans (by unfold iasc; exact (es.reverse_perm.symm.map _)))
  have e : ns = iasc es := List.Perm.eq_of_pairwise (fun a b _ _ h1 h2 => Int.le_antisymm h1 h2) hs (iasc_pw he) p2
  rw [e, ← asc_iasc]
end Dp
/-! rows of counts: how many, their order -/
namespace Dp
def sm (f : Nat → Nat) : Nat → Nat
  | 0 => 0
  | n + 1 => sm f n + f n
theorem sm_congr {f g : Nat → Nat} : ∀ {n : Nat}, (∀ i, i < n → f i = g i) → sm f n = sm g n
  | 0, _ => rfl
  | n + 1, h => by
    show sm f n + f n = sm g n + g n
    rw [sm_congr (n := n) (fun i hi => h i (by omega)), h n (by omega)]
theorem sm_zero : ∀ n : Nat, sm (fun _ => 0) n = 0
  | 0 => rfl
  | n + 1 => by show sm _ n + 0 = 0; rw [sm_zero n]
theorem sm_add (f g : Nat → Nat) : ∀ n : Nat, sm (fun i => f i + g i) n = sm f n + sm g n
  | 0 => rfl
  | n + 1 => by
    show sm _ n + (f n + g n) = (sm f n + f n) + (sm g n + g n)
    rw [sm_add f g n]; omega
theorem sm_swap (F : Nat → Nat → Nat) (m : Nat) : ∀ n : Nat, sm (fun i => sm (fun j => F i j) m) n = sm (fun j => sm (fun i => F i j) n) m
  | 0 => (sm_zero m).symm
  | n + 1 => by
    show sm _ n + sm (fun j => F n j) m = _
    rw [sm_swap F m n, ← sm_add]
    rfl
theorem sm_mono {f : Nat → Nat} {a b : Nat} (h : a ≤ b) : sm f a ≤ sm f b := by
  induction b with
  | zero =>
    have : a = 0 := by omega
    subst this
    exact Nat.le_refl _
  | succ b ih =>
    by_cases e : a = b + 1
    · rw [e]; exact Nat.le_refl _
    · exact Nat.le_trans (ih (by omega)) (Nat.le_add_right _ _)
/-- one kind more, of at most c things -/
def ks (c : Nat) (g : Nat → Nat) : Nat → Nat := fun s => sm (fun i => if i ≤ s then g (s - i) else 0) (c + 1)
def kb : Nat → Nat := fun s => if s = 0 then 1 else 0
/-- how many rows there are -/
def kw : List Nat → Nat → Nat
  | [] => kb
  | c :: cs => ks c (kw cs)
theorem ks_comm (c d : Nat) (g : Nat → Nat) : ks c (ks d g) = ks d (ks c g) := by
  have key : ∀ (c d s : Nat), ks c (ks d g) s = sm (fun i => sm (fun j => if i + j ≤ s then g (s - (i + j)) else 0) (d + 1)) (c + 1) := by
    intro c d s
    refine sm_congr fun i hi => ?_
    by_cases h : i ≤ s
    · rw [if_pos h]
      refine sm_congr fun j hj => ?_
      by_cases h2 : i + j ≤ s
      · rw [if_pos h2, if_pos (by omega)]
        congr 1
        omega
      · rw [if_neg h2, if_neg (by omega)]
    · rw [if_neg h]
      refine ((sm_congr (g := fun _ => 0) fun j hj => ?_).trans (sm_zero _)).symm
      rw [if_neg (by omega)]
  funext s
  rw [key c d s, key d c s, sm_swap]
  refine sm_congr fun i hi => sm_congr fun j hj => ?_
  rw [Nat.add_comm]
theorem kw_perm {a b : List Nat} (h : a.Perm b) : kw a = kw b := by
  induction h with
  | nil => rfl
  | cons x _ ih => show ks x _ = ks x _; rw [ih]
  | swap x y l => exact ks_comm y x (kw l)
  | trans _ _ i1 i2 => exact i1.trans i2
theorem kw_fold : ∀ (cs ds : List Nat), cs.foldl (fun g c => ks c g) (kw ds) = kw (cs.reverse ++ ds)
  | [], ds => rfl
  | c :: cs, ds => by
    show cs.foldl _ (ks c (kw ds)) = _
    have e : ks c (kw ds) = kw (c :: ds) := rfl
    rw [e, kw_fold cs (c :: ds), List.reverse_cons, List.append_assoc]
    rfl
/-- counted kind by kind, from the first on -/
theorem kw_run (cs : List Nat) : cs.foldl (fun g c => ks c g) kb = kw cs := by
  have h := kw_fold cs []
  rw [List.append_nil] at h
  exact h.trans (kw_perm cs.reverse_perm)
/-- a row of the counts, of a size -/
def IsRw : List Nat → Nat → List Nat → Prop
  | [], s, [] => s = 0
  | c :: cs, s, r :: rs => r ≤ c ∧ r ≤ s ∧ IsRw cs (s - r) rs
  | _, _, _ => False
theorem IsRw.len : ∀ {cs : List Nat} {s : Nat} {rs : List Nat}, IsRw cs s rs → rs.length = cs.length
  | [], _, [], _ => rfl
  | c :: cs, s, r :: rs, h => by show rs.length + 1 = cs.length + 1; rw [h.2.2.len]
  | [], _, _ :: _, h => h.elim
  | _ :: _, _, [], h => h.elim
theorem IsRw.sum : ∀ {cs : List Nat} {s : Nat} {rs : List Nat}, IsRw cs s rs → rs.sum = s
  | [], _, [], h => (show _ = 0 from h).symm
  | c :: cs, s, r :: rs, h => by
    rw [List.sum_cons, h.2.2.sum]
    have := h.2.1
    omega
  | [], _, _ :: _, h => h.elim
  | _ :: _, _, [], h => h.elim
/-- a row is one where each count is within its kind's, and the size is right -/
theorem isRw_of : ∀ {cs rs : List Nat}, rs.length = cs.length → (∀ (i c r : Nat), cs[i]? = some c → rs[i]? = some r → r ≤ c) → IsRw cs rs.sum rs
  | [], [], _, _ => rfl
  | c :: cs, r :: rs, hl, h => by
    refine ⟨h 0 c r rfl rfl, by rw [List.sum_cons]; omega, ?_⟩
    have e : (r :: rs).sum - r = rs.sum := by rw [List.sum_cons]; omega
    rw [e]
    exact isRw_of (by simpa using hl) fun i c' r' h1 h2 => h (i + 1) c' r' h1 h2
  | [], _ :: _, hl, _ => by simp at hl
  | _ :: _, [], hl, _ => by simp at hl
theorem IsRw.le : ∀ {cs : List Nat} {s : Nat} {rs : List Nat}, IsRw cs s rs → ∀ (i c r : Nat), cs[i]? = some c → rs[i]? = some r → r ≤ c
  | [], _, [], _, _, _, _, h1, _ => by simp at h1
  | c :: cs, s, r :: rs, h, 0, c', r', h1, h2 => by
    cases h1
    cases h2
    exact h.1
  | c :: cs, s, r :: rs, h, i + 1, c', r', h1, h2 => h.2.2.le i c' r' h1 h2
  | [], _, _ :: _, h, _, _, _, _, _ => h.elim
  | _ :: _, _, [], h, _, _, _, _, _ => h.elim
/-- how many rows begin with just so many of the first kind -/
def kf (cs : List Nat) (s : Nat) : Nat → Nat := fun i => if i ≤ s then kw cs (s - i) else 0
theorem kw_cons (c : Nat) (cs : List Nat) (s : Nat) : kw (c :: cs) s = sm (kf cs s) (c + 1) := rfl
/-- a row's number -/
def krk : List Nat → Nat → List Nat → Nat
  | _ :: cs, s, r :: rs => sm (kf cs s) r + krk cs (s - r) rs
  | _, _, _ => 0
theorem krk_lt : ∀ {cs : List Nat} {s : Nat} {rs : List Nat}, IsRw cs s rs → krk cs s rs < kw cs s
  | [], s, [], h => by
    have e : s = 0 := h
    subst e
    show 0 < kb 0
    decide
  | c :: cs, s, r :: rs, h => by
    have ih := krk_lt h.2.2
    show sm (kf cs s) r + krk cs (s - r) rs < sm (kf cs s) (c + 1)
    have e : kf cs s r = kw cs (s - r) := if_pos h.2.1
    have m : sm (kf cs s) (r + 1) ≤ sm (kf cs s) (c + 1) := sm_mono (by have := h.1; omega)
    have x : sm (kf cs s) (r + 1) = sm (kf cs s) r + kf cs s r := rfl
    omega
  | [], _, _ :: _, h => h.elim
  | _ :: _, _, [], h => h.elim
/-- the head of a row by its number -/
theorem krk_head {c : Nat} {cs : List Nat} {s r : Nat} {rs : List Nat} (h : IsRw (c :: cs) s (r :: rs)) : sm (kf cs s) r ≤ krk (c :: cs) s (r :: rs) ∧ krk (c :: cs) s (r :: rs) < sm (kf cs s) (r + 1) := by
  have ih := krk_lt h.2.2
  have e : kf cs s r = kw cs (s - r) := if_pos h.2.1
  have x : sm (kf cs s) (r + 1) = sm (kf cs s) r + kf cs s r := rfl
  show sm (kf cs s) r ≤ sm (kf cs s) r + krk cs (s - r) rs ∧ sm (kf cs s) r + krk cs (s - r) rs < sm (kf cs s) (r + 1)
  omega
/-- rows stand as their numbers do -/
def lexN : List Nat → List Nat → Prop
  | a :: as, b :: bs => a < b ∨ (a = b ∧ lexN as bs)
  | _, _ => False
theorem krk_lex : ∀ {cs : List Nat} {s : Nat} {as bs : List Nat}, IsRw cs s as → IsRw cs s bs → lexN as bs → krk cs s as < krk cs s bs
  | [], _, [], [], _, _, h => h.elim
  | c :: cs, s, a :: as, b :: bs, ha, hb, h => by
    rcases h with h | ⟨e, h⟩
    · have ⟨_, x⟩ := krk_head ha
      have ⟨y, _⟩ := krk_head hb
      have m : sm (kf cs s) (a + 1) ≤ sm (kf cs s) b := sm_mono h
      omega
    · subst e
      have := krk_lex ha.2.2 hb.2.2 h
      show sm (kf cs s) a + krk cs (s - a) as < sm (kf cs s) a + krk cs (s - a) bs
      omega
  | [], _, _ :: _, _, h, _, _ => h.elim
  | [], _, [], _ :: _, _, h, _ => h.elim
  | _ :: _, _, [], _, h, _, _ => h.elim
  | _ :: _, _, _ :: _, [], _, h, _ => h.elim
theorem lex_tri : ∀ {as bs : List Nat}, as.length = bs.length → lexN as bs ∨ as = bs ∨ lexN bs as
  | [], [], _ => .inr (.inl rfl)
  | a :: as, b :: bs, h => by
    rcases Nat.lt_trichotomy a b with c | c | c
    · exact .inl (.inl c)
    · subst c
      rcases lex_tri (as := as) (bs := bs) (by simpa using h) with d | d | d
      · exact .inl (.inr ⟨rfl, d⟩)
      · exact .inr (.inl (by rw [d]))
      · exact .inr (.inr (.inr ⟨rfl, d⟩))
    · exact .inr (.inr (.inl c))
  | [], _ :: _, h => by simp at h
  | _ :: _, [], h => by simp at h
theorem krk_inj {cs : List Nat} {s : Nat} {as bs : List Nat} (ha : IsRw cs s as) (hb : IsRw cs s bs) (h : krk cs s as = krk cs s bs) : as = bs := by
  rcases lex_tri (ha.len.trans hb.len.symm) with d | d | d
  · have := krk_lex ha hb d
    omega
  · exact d
  · have := krk_lex hb ha d
    omega
theorem krk_lex_iff {cs : List Nat} {s : Nat} {as bs : List Nat} (ha : IsRw cs s as) (hb : IsRw cs s bs) : lexN as bs ↔ krk cs s as < krk cs s bs := by
  constructor
  · exact krk_lex ha hb
  · intro h
    rcases lex_tri (ha.len.trans hb.len.symm) with d | d | d
    · exact d
    · rw [d] at h; omega
    · have := krk_lex hb ha d
      omega
/-- the last place whose sum ahead is no more than k -/
def pkf (f : Nat → Nat) (k : Nat) : Nat → Nat
  | 0 => 0
  | n + 1 => if sm f (n + 1) ≤ k then n + 1 else pkf f k n
theorem pkf_spec {f : Nat → Nat} {k : Nat} : ∀ n : Nat, k < sm f (n + 1) → pkf f k n ≤ n ∧ sm f (pkf f k n) ≤ k ∧ k < sm f (pkf f k n + 1)
  | 0, h => ⟨Nat.le_refl _, Nat.zero_le _, h⟩
  | n + 1, h => by
    show pkf f k (n + 1) ≤ n + 1 ∧ _
    by_cases c : sm f (n + 1) ≤ k
    · have e : pkf f k (n + 1) = n + 1 := if_pos c
      rw [e]
      exact ⟨Nat.le_refl _, c, h⟩
    · have e : pkf f k (n + 1) = pkf f k n := if_neg c
      rw [e]
      have ⟨x, y, z⟩ := pkf_spec (f := f) (k := k) n (by omega)
      exact ⟨Nat.le_succ_of_le x, y, z⟩
theorem pkf_one {f : Nat → Nat} {k a b : Nat} (h1 : sm f a ≤ k) (h2 : k < sm f (a + 1)) (h3 : sm f b ≤ k) (h4 : k < sm f (b + 1)) : a = b := by
  rcases Nat.lt_trichotomy a b with h | h | h
  · have := sm_mono (f := f) (show a + 1 ≤ b from h)
    omega
  · exact h
  · have := sm_mono (f := f) (show b + 1 ≤ a from h)
    omega
/-- the row of a number -/
def kun : List Nat → Nat → Nat → List Nat
  | [], _, _ => []
  | c :: cs, s, k => pkf (kf cs s) k c :: kun cs (s - pkf (kf cs s) k c) (k - sm (kf cs s) (pkf (kf cs s) k c))
theorem kun_spec : ∀ (cs : List Nat) (s k : Nat), k < kw cs s → IsRw cs s (kun cs s k) ∧ krk cs s (kun cs s k) = k
  | [], s, k, h => by
    have h' : k < kb s := h
    unfold kb at h'
    by_cases e : s = 0
    · rw [if_pos e] at h'
      exact ⟨e, by show 0 = k; omega⟩
    · rw [if_neg e] at h'
      exact absurd h' (Nat.not_lt_zero _)
  | c :: cs, s, k, h => by
    obtain ⟨r, er⟩ : ∃ r, r = pkf (kf cs s) k c := ⟨_, rfl⟩
    have ⟨x, y, z⟩ := pkf_spec (f := kf cs s) (k := k) c h
    rw [← er] at x y z
    have zz : sm (kf cs s) (r + 1) = sm (kf cs s) r + kf cs s r := rfl
    have rs : r ≤ s := by
      apply Classical.byContradiction
      intro q
      have e : kf cs s r = 0 := if_neg q
      omega
    have e : kf cs s r = kw cs (s - r) := if_pos rs
    have ⟨i1, i2⟩ := kun_spec cs (s - r) (k - sm (kf cs s) r) (by omega)
    show IsRw (c :: cs) s (pkf (kf cs s) k c :: _) ∧ krk (c :: cs) s (pkf (kf cs s) k c :: _) = k
    rw [← er]
    refine ⟨⟨x, rs, i1⟩, ?_⟩
    show sm (kf cs s) r + krk cs (s - r) _ = k
    rw [i2]
    omega
theorem kun_krk {cs : List Nat} {s : Nat} {rs : List Nat} (h : IsRw cs s rs) : kun cs s (krk cs s rs) = rs := by
  have ⟨a, b⟩ := kun_spec cs s _ (krk_lt h)
  exact krk_inj a h b
/-- there are rows just of the sizes up to the sum of the counts -/
theorem kw_pos : ∀ {cs : List Nat} {s : Nat}, s ≤ cs.sum → 0 < kw cs s
  | [], s, h => by
    have e : s = 0 := by simpa using h
    subst e
    decide
  | c :: cs, s, h => by
    rw [List.sum_cons] at h
    rw [kw_cons]
    obtain ⟨r, hr1, hr2, hr3⟩ : ∃ r, r ≤ c ∧ r ≤ s ∧ s - r ≤ cs.sum := ⟨min c s, by omega, by omega, by omega⟩
    have p := kw_pos hr3
    have e : kf cs s r = kw cs (s - r) := if_pos hr2
    have m : sm (kf cs s) (r + 1) ≤ sm (kf cs s) (c + 1) := sm_mono (by omega)
    have x : sm (kf cs s) (r + 1) = sm (kf cs s) r + kf cs s r := rfl
    omega
theorem kw_above : ∀ {cs : List Nat} {s : Nat}, cs.sum < s → kw cs s = 0
  | [], s, h => by
    show kb s = 0
    unfold kb
    rw [if_neg (by simp at h; omega)]
  | c :: cs, s, h => by
    rw [List.sum_cons] at h
    rw [kw_cons, ← sm_zero (c + 1)]
    refine sm_congr fun i hi => ?_
    unfold kf
    by_cases q : i ≤ s
    · rw [if_pos q]; exact kw_above (by omega)
    · rw [if_neg q]
/-- the least row: as few as can be of the first kinds -/
def kle : List Nat → Nat → List Nat
  | [], _ => []
  | _ :: cs, s => (s - cs.sum) :: kle cs (s - (s - cs.sum))
theorem kle_spec : ∀ {cs : List Nat} {s : Nat}, s ≤ cs.sum → IsRw cs s (kle cs s) ∧ krk cs s (kle cs s) = 0
  | [], s, h => ⟨(by have e : s = 0 := by simpa using h
                     exact e), rfl⟩
  | c :: cs, s, h => by
    rw [List.sum_cons] at h
    have ⟨a, b⟩ := kle_spec (cs := cs) (s := s - (s - cs.sum)) (by omega)
    refine ⟨⟨by omega, by omega, a⟩, ?_⟩
    show sm (kf cs s) (s - cs.sum) + krk cs (s - (s - cs.sum)) (kle cs (s - (s - cs.sum))) = 0
    rw [b, Nat.add_zero, ← sm_zero (s - cs.sum)]
    refine sm_congr fun i hi => ?_
    unfold kf
    rw [if_pos (by omega)]
    exact kw_above (by omega)
theorem sm_flat {f : Nat → Nat} {a : Nat} : ∀ {b : Nat}, a ≤ b → (∀ i, a ≤ i → i < b → f i = 0) → sm f b = sm f a
  | 0, h, _ => by
    have : a = 0 := by omega
    rw [this]
  | b + 1, h, z => by
    by_cases e : a = b + 1
    · rw [e]
    · show sm f b + f b = sm f a
      rw [sm_flat (b := b) (by omega) (fun i h1 h2 => z i h1 (by omega)), z b (by omega) (by omega), Nat.add_zero]
theorem IsRw.sum_le : ∀ {cs : List Nat} {s : Nat} {rs : List Nat}, IsRw cs s rs → s ≤ cs.sum
  | [], s, [], h => by
    have e : s = 0 := h
    rw [e]
    exact Nat.zero_le _
  | c :: cs, s, r :: rs, h => by
    have := h.2.2.sum_le
    have h1 := h.1
    have h2 := h.2.1
    rw [List.sum_cons]
    omega
  | [], _, _ :: _, h => h.elim
  | _ :: _, _, [], h => h.elim
/-- the row behind a row -/
def knx : List Nat → List Nat → Option (List Nat)
  | c :: cs, r :: rs => match knx cs rs with
    | some t => some (r :: t)
    | none => if r < c ∧ 1 ≤ rs.sum then some ((r + 1) :: kle cs (rs.sum - 1)) else none
  | _, _ => none
theorem knx_spec : ∀ {cs : List Nat} {s : Nat} {rs : List Nat}, IsRw cs s rs →
    (knx cs rs = none → krk cs s rs + 1 = kw cs s) ∧ (∀ t, knx cs rs = some t → IsRw cs s t ∧ krk cs s t = krk cs s rs + 1)
  | [], s, [], h => by
    have e : s = 0 := h
    subst e
    exact ⟨fun _ => rfl, fun t ht => by cases ht⟩
  | c :: cs, s, r :: rs, h => by
    have ⟨i1, i2⟩ := knx_spec h.2.2
    have hs := h.2.2.sum
    have hle := h.2.2.sum_le
    have e0 : kf cs s r = kw cs (s - r) := if_pos h.2.1
    have x : sm (kf cs s) (r + 1) = sm (kf cs s) r + kf cs s r := rfl
    have ek : krk (c :: cs) s (r :: rs) = sm (kf cs s) r + krk cs (s - r) rs := rfl
    have hrc := h.1
    have hrs := h.2.1
    cases e : knx cs rs with
    | some t =>
      have ek2 : knx (c :: cs) (r :: rs) = some (r :: t) := by show (match knx cs rs with | some t => _ | none => _) = _; rw [e]
      rw [ek2]
      have ⟨a, b⟩ := i2 t e
      refine ⟨fun z => (nomatch z), fun t' ht => ?_⟩
      cases ht
      refine ⟨⟨h.1, h.2.1, a⟩, ?_⟩
      show sm (kf cs s) r + krk cs (s - r) t = _
      rw [b, ek]
      omega
    | none =>
      have ek2 : knx (c :: cs) (r :: rs) = if r < c ∧ 1 ≤ rs.sum then some ((r + 1) :: kle cs (rs.sum - 1)) else none := by show (match knx cs rs with | some t => _ | none => _) = _; rw [e]
      have n1 := i1 e
      rw [ek2]
      by_cases q : r < c ∧ 1 ≤ rs.sum
      · rw [if_pos q]
        refine ⟨fun z => (nomatch z), fun t' ht => ?_⟩
        cases ht
        have es : rs.sum - 1 = s - (r + 1) := by omega
        rw [es]
        have ⟨a, b⟩ := kle_spec (cs := cs) (s := s - (r + 1)) (by omega)
        refine ⟨⟨by omega, by omega, a⟩, ?_⟩
        show sm (kf cs s) (r + 1) + krk cs (s - (r + 1)) _ = _
        rw [b, ek]
        omega
      · rw [if_neg q]
        refine ⟨fun _ => ?_, fun t' ht => by cases ht⟩
        rw [ek, kw_cons]
        have fl : sm (kf cs s) (c + 1) = sm (kf cs s) (r + 1) := sm_flat (by omega) fun i h1 h2 => by
          by_cases rc : r < c
          · have : rs.sum = 0 := by omega
            exact if_neg (by omega)
          · omega
        omega
  | [], _, _ :: _, h => h.elim
  | _ :: _, _, [], h => h.elim
/-- as the law looks for it: the last place that may be raised -/
def upAt (cs rs : List Nat) (k : Nat) : Prop := ∃ c r, cs[k]? = some c ∧ rs[k]? = some r ∧ r < c ∧ 1 ≤ (rs.drop (k + 1)).sum
theorem knx_none : ∀ {cs rs : List Nat}, rs.length = cs.length → (∀ k, ¬ upAt cs rs k) → knx cs rs = none
  | [], [], _, _ => rfl
  | c :: cs, r :: rs, hl, h => by
    have ih := knx_none (cs := cs) (rs := rs) (by simpa using hl) fun k ⟨c', r', h1, h2, h3⟩ => h (k + 1) ⟨c', r', h1, h2, h3⟩
    show (match knx cs rs with | some t => _ | none => _) = _
    rw [ih]
    exact if_neg fun q => h 0 ⟨c, r, rfl, rfl, q.1, q.2⟩
  | [], _ :: _, hl, _ => by simp at hl
  | _ :: _, [], hl, _ => by simp at hl
theorem knx_some : ∀ {cs rs : List Nat} {k : Nat}, rs.length = cs.length → upAt cs rs k → (∀ j, k < j → ¬ upAt cs rs j) →
    ∃ r, rs[k]? = some r ∧ knx cs rs = some (rs.take k ++ (r + 1) :: kle (cs.drop (k + 1)) ((rs.drop (k + 1)).sum - 1))
  | c :: cs, r :: rs, 0, hl, ⟨c', r', h1, h2, h3, h4⟩, hn => by
    cases h1
    cases h2
    have ih := knx_none (cs := cs) (rs := rs) (by simpa using hl) fun j ⟨c', r', a1, a2, a3⟩ => hn (j + 1) (Nat.succ_pos _) ⟨c', r', a1, a2, a3⟩
    refine ⟨r, rfl, ?_⟩
    show (match knx cs rs with | some t => _ | none => _) = _
    rw [ih]
    exact if_pos ⟨h3, h4⟩
  | c :: cs, r :: rs, k + 1, hl, ⟨c', r', h1, h2, h3⟩, hn => by
    obtain ⟨r2, e1, e2⟩ := knx_some (cs := cs) (rs := rs) (k := k) (by simpa using hl) ⟨c', r', h1, h2, h3⟩ fun j hj ⟨c', r', a1, a2, a3⟩ => hn (j + 1) (by omega) ⟨c', r', a1, a2, a3⟩
    refine ⟨r2, e1, ?_⟩
    show (match knx cs rs with | some t => _ | none => _) = _
    rw [e2]
    rfl
  | [], _, _, _, ⟨_, _, h, _⟩, _ => by simp at h
  | _ :: _, [], _, _, ⟨_, _, _, h, _⟩, _ => by simp at h
end Dp
/-! sum(t), t a tuple of ints -/
namespace DpT
open PySem PySem.Spec PyProof.Rows HT L2
section
variable {prog : Program} {w : World} {A : Around} {E : Value → Shared → Prop} {s : Shared} {l : Addr} {xs : Array (Int × Tok)} {its : List Value} {ns : List Int} {Q : Value → Shared → Prop}
theorem sum_tupG (hh : A.handled = none) (hl : s.heap.IsTuple l (intItems xs))
    (h : ∀ h' tk t', (∀ b o, s.heap.get? b = some o → h'.get? b = some o) → Q (.int (preSum (numAt xs) xs.size) t') { s with heap := h', toks := tk }) :
    wpAny (model prog w) A (call (.builtin "sum") [.ref l]) Q E s := by
  have hlt : l < s.heap.objs.size := by obtain ⟨_, e, _⟩ := hl; exact Heap.lt_size e
  refine call_sum_walkG (wpAny_pyIter_tuple hl ?_)
  refine ⟨_, _, _, _, _, _, numAt xs, rfl, Walks.tuple (A := A.in1) hh _ l (Nat.ne_of_lt hlt) (intItems xs), ⟨⟨_, Heap.get?_push_size _ rfl, rfl, rfl⟩, hl.push _⟩, fun b hb => ?_, (fun _ _ => intItems_at), fun h' tk t' hk => ?_⟩
  · show b < (s.heap.push _).objs.size
    rw [Heap.size_push]
    rcases List.mem_cons.mp hb with e | e
    · subst e; exact Nat.lt_succ_self _
    · rw [List.mem_singleton] at e
      subst e
      exact Nat.lt_succ_of_lt hlt
  · have := h h' tk t' (fun b o e => hk b o (by
      intro q
      rw [List.mem_singleton] at q
      subst q
      exact absurd (Heap.lt_size e) (Nat.lt_irrefl _)) (Heap.get?_push_of_some _ e))
    simpa [intItems] using this
theorem sum_rawT (hh : A.handled = none) (hl : IsTup s.heap l its.toArray) (hi : IntsAre its ns)
    (h : ∀ h' tk t', (∀ b o, s.heap.get? b = some o → h'.get? b = some o) → Q (.int ns.sum t') { s with heap := h', toks := tk }) : wpAny (model prog w) A (call (.builtin "sum") [.ref l]) Q E s := by
  obtain ⟨xs, e⟩ := hi.allInts.items
  have hn : numsOf (intItems xs).toList = ns := by rw [← e]; exact hi.numsOf
  rw [nums_intItems] at hn
  rw [e] at hl
  obtain ⟨o, h1, h2, n, h3⟩ := hl
  refine sum_tupG hh ⟨o, h1, h2, n, h3⟩ fun h' tk t' hk => ?_
  have := h h' tk t' hk
  rw [preSum_eq, List.take_of_length_le (by simp), hn]; exact this
end
end DpT
namespace DpR
open PySem PySem.Spec PyProof.Rows L2
def rSumT (K : PySem.W.Frag) : List V → Hp → VK → Prop := fun vs H Q => ∃ (a : Addr) (ns : List Int), vs = [V.ref a] ∧ SqT K H a (ns.map V.int) ∧ Q (.int ns.sum) H
theorem cr_sumT {X : Cx} (hc : X.calm = true) : CallR X (.builtin "sum") (rSumT X.K) := by
  intro pins s σ H vs us Q I r h
  obtain ⟨a, ns, rfl, hs, q⟩ := h
  obtain ⟨its, rv, hl, _⟩ := I.tuple hs
  rw [Vals.ref1 r]
  exact DpT.sum_rawT (I.ok.hd hc) hl rv.ints fun h' tk t' hk => ⟨.int _, H, I.kept hk, ⟨_, rfl⟩, q⟩
end DpR
/-! C(..) in a try: the refusal is wished for at the caller's slots -/
namespace DpR
open PySem PySem.Spec PyProof.Rows L2
section
variable {X : Cx} {CX : CXT} {k : Nat} {f C : Addr} {fd : FuncData} {ps : List Str} {sp : Sp} {E : L2.St → XK} {x : Str} {p pos : Pos} {e : Expr} {es : List Expr} {t : TA}
def tMakeE (C : Addr) (sp : Sp) (E : L2.St → XK) (t : TA) : TE := fun σ H Q => t σ H fun vs H1 => ∀ x dx, H1 x = none → H1 dx = none → dx ≠ x →
  sp (.ref x :: vs) (upd (upd H1 dx (.own x)) x (.ins C dx [])) (fun v H2 => v = .non ∧ Q (.ref x) H2) (E σ)
theorem run_makeE {pins : List (Addr × Obj)} {σ : L2.St} {H : Hp} {s : Shared} {Q : VK} {us : List Value} {vs : List V} (M : Mk X.K C f) (F : FnOk X.prog X.w X.K X.mg X.base CX k f fd ps sp) (hr : Room (k + 1) X.A) (hb : Binds X.K fd ps [])
    (hx : PassesAt CX X σ (E σ)) (I : Inv X pins σ H s) (r : Vals vs us)
    (h : ∀ x dx, H x = none → H dx = none → dx ≠ x → sp (.ref x :: vs) (upd (upd H dx (.own x)) x (.ins C dx [])) (fun v H2 => v = .non ∧ Q (.ref x) H2) (E σ)) :
    wpAny (model X.prog X.w) X.A (call (.ref C) us) (EP X pins σ Q) X.xe s := by
  have hq := h (s.heap.objs.size + 1) s.heap.objs.size (I.hok.fresh (Nat.le_succ _)) (I.hok.fresh (Nat.le_refl _)) (Nat.ne_of_lt (Nat.lt_succ_self _))
  have I2 := Inv.made (C := C) I
  have r2 : Vals (V.ref (s.heap.objs.size + 1) :: vs) (Value.ref (s.heap.objs.size + 1) :: us) := .cons rfl r
  have hl : (Value.ref (s.heap.objs.size + 1) :: us ++ []).length = ps.length := by
    have e := r2.length
    rw [F.len _ _ _ _ hq] at e
    rw [List.append_nil]
    exact e.symm
  refine wpAny_call (make_map (f := f) I.kIn M.makes M.init (beq_iff_eq.mp M.fn) (codeAny_mono (F.run _ X.stack _ _ ⟨Value.ref (s.heap.objs.size + 1) :: us, []⟩ (Value.ref (s.heap.objs.size + 1) :: us) _ _ (E σ) (hr.make C us [])
    (I2.env0.make C us []) (by have b := hb _ (Value.ref (s.heap.objs.size + 1) :: us) I2.kIn hl; rw [List.append_nil] at b; exact b) r2 hq) fun r s' hq' => ?_))
  cases r with
  | error e => exact hx pins _ _ e s' I2 hq'
  | ok fl =>
    cases fl with
    | ret u =>
      obtain ⟨v, H', I3, rv, ev, q3⟩ := I2.after hq'
      subst ev
      exact ⟨rv, ⟨V.ref (s.heap.objs.size + 1), H', I3, rfl, q3⟩⟩
    | next => exact False.elim hq'
    | brk => exact False.elim hq'
    | cont => exact False.elim hq'
theorem pe_makeE (M : Mk X.K C f) (F : FnOk X.prog X.w X.K X.mg X.base CX k f fd ps sp) (hr : Room (k + 1) X.A) (hg : Gl X x) (hm : X.mg x = some (.ref C)) (hb : Binds X.K fd ps []) (hx : ∀ σ, PassesAt CX X σ (E σ))
    (ha : PA X (e :: es) t) (hdb : (x == ("__debug__" : Str)) = false := by decide) (he : starEach (e :: es) X.env = (false, eval e X.env) :: starEach es X.env := by rfl) (hpl : (backTo pos (starEach es X.env)).any (·.1) = false := by rfl) :
    PE X (.Call (.Name x p) (e :: es) [] pos) (tMakeE C sp E t) := by
  refine ⟨fun pins s σ H Q I h => ?_⟩
  refine wpAny_Call_Name_kw (ld_glob I hg hm ?_ hdb)
  refine PySem.W.callWith_K (h₀ := X.base) I.ok.mod.kin M.kp (thn (ha.run pos pins s σ H _ I h) fun us s1 ⟨vs, H1, I1, r, q⟩ => ⟨I1.kIn, ?_⟩) he hpl
  exact run_makeE M F hr hb (hx σ) I1 r q
end
end DpR
/-! a generator expression over a row, its element called or told; the table of its def is one object that stays as it is told -/
namespace DpR
open PySem PySem.Spec PyProof.Rows L2
/-- a code object's table, whatever is in it -/
def TabO (P : Addr) : HO := .ext fun h => ∃ ps : Array Value, h.get? P = some { cls := .none, data := .fields ps } ∧ TriplesOk ps.toList
section
variable {X : Cx} {pins : List (Addr × Obj)} {σ : L2.St} {H : Hp} {s : Shared}
theorem tabO_ok {prog : Program} {w : World} {H : Hp} {h : Heap} {P : Addr} {ps : Array Value} (e : h.get? P = some { cls := .none, data := .fields ps }) (ht : TriplesOk ps.toList) : ObjOk prog w H h P (TabO P) :=
  ⟨⟨ps, e, ht⟩, ⟨_, e⟩, fun h1 h2 ⟨qs, q1, q2⟩ k => ⟨qs, k _ q1, q2⟩⟩
theorem tabO_get (I : Inv X pins σ H s) {P : Addr} (hP : H P = some (TabO P)) : ∃ ps : Array Value, s.heap.get? P = some { cls := .none, data := .fields ps } ∧ TriplesOk ps.toList := (I.hok P _ hP).1
/-- the table has changed, nothing else -/
theorem inv_tabE {P : Addr} {ps : Array Value} {h' : Heap} {g' : Array GenState} {d' : Drawn} {t' : Nat} (I : Inv X pins σ H s) (hP : H P = some (TabO P)) (k : ∀ b o, b ≠ P → s.heap.get? b = some o → h'.get? b = some o)
    (hm : h'.get? P = some { cls := .none, data := .fields ps }) (ht : TriplesOk ps.toList) (hg : AllBare g') : Inv X pins σ H { s with heap := h', gens := g', drawn := d', toks := t' } := by
  have nP : ∀ b u, H b = some u → (∀ φ, u ≠ .ext φ) → b ≠ P := fun b u e q z => by
    rw [z, hP] at e
    exact q _ (Option.some.inj e).symm
  have nN : ∀ b, H b = none → b ≠ P := fun b e z => by
    rw [z, hP] at e
    cases e
  refine I.call (ch := []) ⟨fun b o e n _ _ => k b o (nN b n) e, fun b o e n _ _ => ⟨o.slots, k b o (nN b n) e⟩, fun b o _ n _ => n, fun b o e _ => ?_, fun b xs e => e, fun b o u e => e, fun b qs e => ⟨#[], by rw [Array.append_empty]; exact e⟩⟩ ?_ hg (fun _ z => nomatch z)
  · by_cases hb : b = P
    · rw [hb]; exact ⟨_, hm⟩
    · exact ⟨o, k b o hb e⟩
  · intro b u e
    by_cases hb : b = P
    · rw [hb, hP] at e
      cases e
      rw [hb]
      exact tabO_ok hm ht
    · refine (I.hok b u e).stay (fun d v hd q => k d v ?_ q) (fun d q => q) fun d xs q => q
      rcases hd with z | z
      · rw [z]; exact hb
      · exact nP d _ z fun φ y => by cases y
/-! ### a walk over either -/
def itrB (b : Bool) (a : Addr) : Obj := match b with
  | false => { cls := .type "list_iterator", data := .fields #[.ref a, .int 0 0] }
  | true => { cls := .type "tuple_iterator", data := .fields #[.ref a, .int 0 0] }
theorem iterB {prog : Program} {w : World} {A : Around} {E : Value → Shared → Prop} {s : Shared} {b : Bool} {a : Addr} {its : Array Value} {Q : Value → Shared → Prop} (h : IsB b s.heap a its) (q : Q (.ref s.heap.objs.size) { s with heap := s.heap.push (itrB b a) }) :
    wpAny (model prog w) A (pyIter (.ref a)) Q E s := by
  cases b with
  | false => exact wpAny_pyIter_list h q
  | true => exact wpAny_pyIter_tuple h q
theorem itrB_in {b : Bool} {h : Heap} {a : Addr} : InB b (h.push (itrB b a)) h.objs.size a 0 := by
  cases b with
  | false => exact ⟨_, Heap.get?_push_size _ rfl, rfl, rfl⟩
  | true => exact ⟨_, Heap.get?_push_size _ rfl, rfl, rfl⟩
theorem walksB {b : Bool} {prog : Program} {w : World} {A : Around} (hh : A.handled = none) (it a : Addr) (hne : a ≠ it) (items : Array Value) :
    Walks prog w A it [it, a] [it] items.size (fun i v => items[i]? = some v) (fun i h => InB b h it a i ∧ IsB b h a items) := by
  cases b with
  | false => exact Walks.list hh it a hne items
  | true => exact Walks.tuple hh it a hne items
theorem isB_at {b : Bool} {h h' : Heap} {a : Addr} {its : Array Value} (x : IsB b h a its) (k : ∀ o, h.get? a = some o → h'.get? a = some o) : IsB b h' a its := by
  cases b with
  | false => obtain ⟨o, e, r⟩ := x; exact ⟨o, k o e, r⟩
  | true => obtain ⟨o, e, r⟩ := x; exact ⟨o, k o e, r⟩
theorem isB_lt {b : Bool} {h : Heap} {a : Addr} {its : Array Value} (x : IsB b h a its) : a < h.objs.size := by
  cases b with
  | false => obtain ⟨o, e, r⟩ := x; exact Heap.lt_size e
  | true => obtain ⟨o, e, r⟩ := x; exact Heap.lt_size e
/-- what the element does, of the i-th item, in the generator's own frame -/
def EltG (X : Cx) (P : Addr) (scope : Scope) (x : Str) (elt : Expr) (s1 : Shared) (its : List Value) (F : Nat → Value → Prop) : Prop :=
  ∀ (cenv : Env) (A' : Around) (E' : Value → Shared → Prop) (i : Nat) (v : Value) (t : Shared) (m : Str → Option Value), cenv.scope = scope → cenv.globals = X.env.globals → cenv.builtins = builtinsNs → A'.handled = none → A'.depth ≤ X.A.depth + 1 → A'.units ≤ X.A.units + 8 →
    its[i]? = some v → t.heap.Ns cenv.locals m → m x = some v → (∀ b o, b ≠ P → s1.heap.get? b = some o → t.heap.get? b = some o) → wpAny (model X.prog X.w) A' (eval elt cenv) (fun y s3 => F i y ∧ Keeps t s3) E' t
/-- the generator g over n items, ready to be walked, in the state s5 -/
def ReadyR (X : Cx) (pins : List (Addr × Obj)) (σ : L2.St) (H1 : Hp) (n : Nat) (F : Nat → Value → Prop) (g : Addr) (s5 : Shared) : Prop :=
  ∃ (fp wr : List Addr) (G : Array GenState → Array GenState → Prop) (F' : Nat → Value → Prop) (St : Nat → Shared → Prop),
    WalksS X.prog X.w X.A.in1 g fp wr G n F' St ∧ WalksS X.prog X.w X.A.in1.in1 g fp wr G n F' St ∧ St 0 s5 ∧ (∀ b ∈ fp, b < s5.heap.objs.size) ∧ g ∈ fp ∧ (∀ i s9, St i s9 → s9.TypeIs (.ref g) "generator") ∧ (∀ j v, F' j v → F j v) ∧ ∀ s', Moved wr G s5 s' → Inv X pins σ H1 s'
theorem gen_row {c P : Addr} {elt iter : Expr} {x : Str} {px gpos : Pos} {scope : Scope} {te : TE} {k : Nat} {F : List V → Nat → Value → Prop} {Q' : Value → Shared → Prop} {R : List V → Hp → Prop}
    (hr : Room k X.A) (TB : GxR.TabB X.base X.mg c P) (hcode : X.env.code = .ref c) (S : GxR.GenS X.env scope x) (hi : PE X iter te)
    (hel : ∀ xs H1 s1 its, R xs H1 → H1 P = some (TabO P) → Inv X pins σ H1 s1 → Vals xs its → EltG X P scope x elt s1 its (F xs))
    (hs : ∀ v, genFold iter X.env v = pure v) (I : Inv X pins σ H s) (h : te σ H fun v H1 => ∃ a b xs, v = .ref a ∧ SqB b X.K H1 a xs ∧ H1 P = some (TabO P) ∧ R xs H1)
    (hQ : ∀ xs H1 g s5, R xs H1 → ReadyR X pins σ H1 xs.length (F xs) g s5 → Q' (.ref g) s5) :
    wpAny (model X.prog X.w) X.A (eval (.GeneratorExp elt [⟨.Name x px, iter, [], 0⟩] scope gpos) X.env) Q' X.xe s := by
  refine wpAny_GeneratorExp_walksQD hr.hd S.co (closure_ok S.free) S.cell S.dot S.loc S.kind (by have := hr.dp; omega) ?_ hs
  refine thn (hi.run pins s σ H _ I h) fun xv s1 ⟨v, H1, I1, r1, q1⟩ => ?_
  obtain ⟨a, b, xs, rfl, hq, hP, q1⟩ := q1
  obtain rfl : xv = Value.ref a := r1
  obtain ⟨its, rv, hB, hz⟩ := sqB_is I1 hq
  obtain ⟨ps, hPs, ht⟩ := tabO_get I1 hP
  have hlen : its.length = xs.length := rv.length.symm
  refine iterB hB ?_
  have ltP : P < s1.heap.objs.size := Heap.lt_size hPs
  have lta := isB_lt hB
  have aP : a ≠ P := isB_ne hB hPs rfl
  have hP2 : (s1.heap.push (itrB b a)).get? P = some { cls := .none, data := .fields ps } := Heap.get?_push_of_some _ hPs
  have cd : PySem.W.CodeHd (s1.heap.push (itrB b a)) c P := TB.code.keeps fun b u e => Heap.get?_push_of_some _ (I1.bk b u e)
  have lim2 : (s1.heap.push (itrB b a)).NoLimit := I1.nolimit.push _
  have sz2 : (s1.heap.push (itrB b a)).objs.size = s1.heap.objs.size + 1 := Heap.size_push ..
  have hcl : cStatics < s1.heap.objs.size := let ⟨_, hns, _⟩ := I1.nolimit; hns.lt
  have hcP : cStatics ≠ P := fun e => by
    obtain ⟨_, hns, _⟩ := I1.nolimit
    obtain ⟨o', es, ep, ho, hd, _⟩ := hns
    rw [e, hPs] at ho
    cases ho
    cases hd
  have cont : ∀ (code : Value) (h3 : Heap) (tk : Nat) (ps' : Array Value), Heap.ExtBut P (s1.heap.push (itrB b a)) h3 → (s1.heap.push (itrB b a)).objs.size ≤ h3.objs.size → h3.get? P = some { cls := .none, data := .fields ps' } → TriplesOk ps'.toList →
      wpAny (model X.prog X.w) X.A (builtinsFor X.env.globals X.env.builtins) (fun bi s₄ =>
        ∃ Ia fp wr n₀ Pf St₀ pz F2, Value.ref s1.heap.objs.size = .ref Ia ∧ (∀ A' : Around, A'.handled = none → Walks X.prog X.w A' Ia fp wr n₀ Pf St₀) ∧ St₀ 0 s₄.heap ∧ (∀ b ∈ fp, b < s₄.heap.objs.size) ∧ s₄.heap.NoLimit ∧ cStatics ∉ wr ∧
          (∀ href : Heap, (∀ b o, s₄.heap.get? b = some o → href.get? b = some o) →
            QuietGenD X.prog X.w (genEnv scope (cloFrom X.env.cells scope.names []) s₄.heap.objs.size code bi X.env) x [] elt (List.range s₄.heap.objs.size) wr Pf pz F2 href (X.A.depth + 1) (X.A.units + 8)) ∧
          (∀ a h₅ tk gs, gs.bare = true → s₄.heap.objs.size < a → h₅.objs.size = a + 1 → (∀ b o, s₄.heap.get? b = some o → h₅.get? b = some o) →
            WalksS X.prog X.w X.A.in4 a (a :: s₄.heap.objs.size :: List.range s₄.heap.objs.size) (s₄.heap.objs.size :: wr) (GenOnlyQ s₄.gens.size) (passing pz n₀ 0).length
              (fun j y => ∃ i, (passing pz n₀ 0)[j]? = some i ∧ F2 i y) (GenAt X.prog X.w X.A.in4 a s₄.gens.size s₄.heap.objs.size (List.range s₄.heap.objs.size) wr pz n₀ F2) →
            GenAt X.prog X.w X.A.in4 a s₄.gens.size s₄.heap.objs.size (List.range s₄.heap.objs.size) wr pz n₀ F2 0 { s₄ with gens := s₄.gens.push gs, toks := tk, heap := h₅ } →
            Q' (.ref a) { s₄ with gens := s₄.gens.push gs, toks := tk, heap := h₅ })) X.xe { s1 with heap := h3, toks := tk } := by
    intro code h3 tk ps' hx hsz hP3 ht3
    obtain ⟨bm, ob, e1, e2, e3, e4, e5, e6, e7, e8⟩ := TB.bm
    have keep3 : ∀ d u, d ≠ P → s1.heap.get? d = some u → h3.get? d = some u := fun d u hd e => hx d u hd (Heap.get?_push_of_some _ e)
    refine wpAny_builtinsFor (m := X.mg) (by rw [I1.ok.glob]; exact ((I1.mod.glob.keeps I1.bk).push _).extBut hx TB.gP) e1 e2 (keep3 _ _ e4 (I1.bk _ _ e5)) e6 e7 e8 ?_
    have hB3 : IsB b h3 a its.toArray := isB_at hB fun o e => keep3 a o aP e
    have hI3 : InB b h3 s1.heap.objs.size a 0 := inB_at itrB_in fun o e => hx _ o (Nat.ne_of_gt ltP) e
    refine ⟨s1.heap.objs.size, [s1.heap.objs.size, a], [s1.heap.objs.size], its.toArray.size, (fun i v => its.toArray[i]? = some v), (fun i h => InB b h s1.heap.objs.size a i ∧ IsB b h a its.toArray), (fun _ => true),
      F xs, rfl, (fun A' hA => walksB hA _ _ (Nat.ne_of_lt lta) _), ⟨hI3, hB3⟩, fun d hd => ?_, lim2.extBut hx hcP, fun z => ?_, fun href hhref => ?_, ?_⟩
    · show d < h3.objs.size
      rcases List.mem_cons.mp hd with z | z
      · rw [z]; exact Nat.lt_of_lt_of_le (by rw [sz2]; exact Nat.lt_succ_self _) hsz
      · rw [List.mem_singleton.mp z]; exact Nat.lt_of_lt_of_le (by rw [sz2]; exact Nat.lt_succ_of_lt lta) hsz
    · exact Nat.ne_of_lt hcl (List.mem_singleton.mp z)
    · refine ⟨fun A' E' i v s₂ m₂ hA _ _ hPv hn hm hk => ?_, fun A' E' i v s₂ m₂ hA hD hU hPv _ hn hm hk => ?_⟩
      · simp only [List.forIn_nil]
        exact wpAny_pure ⟨rfl, GxR.keeps_refl _⟩
      · refine hel xs H1 s1 its q1 hP I1 rv (genEnv scope (cloFrom X.env.cells scope.names []) h3.objs.size code builtinsNs X.env) A' E' i v s₂ m₂ rfl rfl rfl hA hD hU (by simpa using hPv) hn hm fun d o hd e => ?_
        have e3' := keep3 d o hd e
        refine hk d (List.mem_range.mpr (Heap.lt_size e3')) (fun z => ?_) o (hhref d o e3')
        have := List.mem_singleton.mp z
        rw [this] at e
        exact Nat.lt_irrefl _ (Heap.lt_size e)
    · intro g h5 tk5 gs hgb hag hsz5 hk5 W5 hgat
      simp only [GxR.passing_true, List.length_range] at W5
      have hn5 : its.toArray.size = xs.length := by rw [List.size_toArray, hlen]
      rw [hn5] at W5 hgat
      refine hQ xs H1 g _ q1 ⟨_, _, _, _, _, W5.in4_1, W5.in4_2, hgat, ?_, List.mem_cons_self, fun i s9 h9 => ?_, ?_, fun s' hm => ?_⟩
      · intro d hd
        show d < h5.objs.size
        have e5 : h5.objs.size = g + 1 := hsz5
        have h8 : h3.objs.size < g := hag
        rw [e5]
        rcases List.mem_cons.mp hd with z | z
        · rw [z]; exact Nat.lt_succ_self g
        · rcases List.mem_cons.mp z with z | z
          · rw [z]; exact Nat.lt_succ_of_lt h8
          · exact Nat.lt_succ_of_lt (Nat.lt_trans (show d < h3.objs.size from List.mem_range.mp z) h8)
      · exact h9.1.typeIs
      · intro j v hv
        obtain ⟨i, hij, e⟩ := hv
        obtain ⟨hj, ej⟩ := List.getElem?_eq_some_iff.mp hij
        rw [List.getElem_range] at ej
        subst ej
        exact e
      · have nwr : ∀ d u, s1.heap.get? d = some u → d ∉ h3.objs.size :: [s1.heap.objs.size] := fun d u e hd => by
          have hl := Heap.lt_size e
          rcases List.mem_cons.mp hd with z | z
          · rw [z] at hl
            have h9 : (h3.objs.size : Nat) < s1.heap.objs.size := hl
            have h9' : s1.heap.objs.size + 1 ≤ h3.objs.size := by rw [← sz2]; exact hsz
            omega
          · rw [List.mem_singleton.mp z] at hl
            exact Nat.lt_irrefl _ hl
        have J := inv_tabE (ps := ps') (h' := s'.heap) (g' := s'.gens) (d' := s'.drawn) (t' := s'.toks) I1 hP (fun d u hd e => hm.heap d u (nwr d u e) (hk5 d u (keep3 d u hd e)))
          (hm.heap P _ (nwr P _ hPs) (hk5 P _ hP3)) ht3 (AllBare.movedS (I1.bare.push hgb) hm)
        rw [GxR.sh_eta s1 s' hm.os] at J
        exact J
  refine ⟨lim2, ?_⟩
  cases hf : codeAmong gpos ps.toList with
  | none =>
    refine wpAny_genexprCodeX hcode (cd.code hP2 ht) (cd.tab hP2) hf fun c' h' tk hx hge hlt hco' _ htab' _ => ?_
    obtain ⟨o1, vs, f1, tf, fl, tg, inF, tx, tt, op, _, _, _, _, _, _, _, _, _, htr, _⟩ := hco'
    exact cont _ h' tk _ hx (Nat.le_trans hge (Nat.le_of_lt hlt)) htab'.2 htr
  | some cv =>
    refine wpAny_genexprCode_hit hcode (cd.code hP2 ht) hf ?_
    exact cont cv (s1.heap.push (itrB b a)) s1.toks ps (Heap.ExtBut.refl _ _) (Nat.le_refl _) hP2 ht
/-- all(test(x) for x in row) -/
def tAllG (K : PySem.W.Frag) (P : Addr) (pb : V → Bool) (R : V → Hp → Prop) (te : TE) : TE := fun σ H Q => te σ H fun v H1 => ∃ a b xs, v = .ref a ∧ SqB b K H1 a xs ∧ H1 P = some (TabO P) ∧ (∀ x ∈ xs, R x H1) ∧ Q (.bl (xs.all pb)) H1
theorem all_at (xs : List V) (pb : V → Bool) (f : Nat → Bool) (h : ∀ j x, xs[j]? = some x → f j = pb x) : (List.range xs.length).all f = xs.all pb := by
  rw [Bool.eq_iff_iff, List.all_eq_true, List.all_eq_true]
  constructor
  · intro q x hx
    obtain ⟨j, hj, e⟩ := List.getElem_of_mem hx
    rw [← h j x (by rw [List.getElem?_eq_getElem hj, e])]
    exact q j (List.mem_range.mpr hj)
  · intro q j hj
    have hj' := List.mem_range.mp hj
    rw [h j _ (List.getElem?_eq_getElem hj')]
    exact q _ (List.getElem_mem hj')
theorem pe_allG {c P : Addr} {elt iter : Expr} {x : Str} {px p pos gpos : Pos} {scope : Scope} {pb : V → Bool} {R : V → Hp → Prop} {te : TE} {k : Nat}
    (hr : Room k X.A) (hg : Gl X "all") (hm : X.mg "all" = none) (TB : GxR.TabB X.base X.mg c P) (hcode : X.env.code = .ref c) (S : GxR.GenS X.env scope x) (hi : PE X iter te)
    (hel : ∀ pins σ xs H1 s1 its, (∀ x ∈ xs, R x H1) → H1 P = some (TabO P) → Inv X pins σ H1 s1 → Vals xs its → EltG X P scope x elt s1 its (fun i y => ∃ z, xs[i]? = some z ∧ y = .bool (pb z)))
    (hs : ∀ v, genFold iter X.env v = pure v)
    (he : starEach [.GeneratorExp elt [⟨.Name x px, iter, [], 0⟩] scope gpos] X.env = (false, eval (.GeneratorExp elt [⟨.Name x px, iter, [], 0⟩] scope gpos) X.env) :: starEach [] X.env := by rfl) :
    PE X (.Call (.Name "all" p) [.GeneratorExp elt [⟨.Name x px, iter, [], 0⟩] scope gpos] [] pos) (tAllG X.K P pb R te) := by
  refine ⟨fun pins s σ H Q I h => ?_⟩
  have hb : bootBuiltins "all" = some (.builtin "all") := by decide +kernel
  refine wpAny_Call_Name_kw (ld_blt I hg hm hb ?_)
  refine PyProof.Rows.callWith_builtin1 ?_ he (by rfl)
  rw [he]
  show wpAny _ _ (spliced ((false, eval (.GeneratorExp elt [⟨.Name x px, iter, [], 0⟩] scope gpos) X.env) :: backTo pos (starEach [] X.env))) _ _ s
  refine Calls.spliced_cons (gen_row (F := fun xs i y => ∃ z, xs[i]? = some z ∧ y = .bool (pb z)) (R := fun xs H1 => (∀ x ∈ xs, R x H1) ∧ Q (.bl (xs.all pb)) H1) hr TB hcode S hi (fun xs H1 s1 its q hP I1 rv => hel pins σ xs H1 s1 its q.1 hP I1 rv) hs I h fun xs H1 g s5 hR hG => ?_)
  obtain ⟨fp, wr, G, F', St, W, _, hst, _, _, _, hF, hI⟩ := hG
  refine Calls.spliced_nil ?_
  obtain ⟨f, hf⟩ : ∃ f : Nat → Bool, ∀ j x, xs[j]? = some x → f j = pb x := ⟨fun j => match xs[j]? with
    | some x => pb x
    | none => false, fun j x e => by show (match xs[j]? with | some x => pb x | none => false) = pb x; rw [e]⟩
  refine call_all_walkS (W.self 0 _ _ _ hst ⟨g, fp, wr, G, _, F', St, f, rfl, W, hst, fun j y sj Qj Ej hy hQj => ?_, fun s' hmv => ?_⟩)
  · obtain ⟨z, hz, rfl⟩ := hF j y hy
    have hQ2 : Qj (f j) sj := hQj
    rw [hf j z hz] at hQ2
    exact wpAny_truthy_bool hQ2
  · refine ⟨.bl _, H1, hI s' hmv, rfl, ?_⟩
    rw [all_at xs pb f hf]
    exact hR.2
end
end DpR
namespace DpR
open PySem PySem.Spec PyProof.Rows L2
/-! ### type(x) not in (tuple, list) -/
theorem eqAt_ty {A : Around} {s : Shared} {m n : String} (hm : PySem.W.kitMeta m = true) (hn : PySem.W.kitMeta n = true) : SeqAt.EqAt A s (Value.type m) (Value.type n) (decide (m = n)) := by
  by_cases e : m = n
  · subst e
    rw [decide_eq_true rfl]
    exact SeqAt.EqAt.same _
  · rw [decide_eq_false e]
    intro prog w E Q h
    unfold eqBool
    refine wpAny_holding ?_
    refine wpAny_ite_split (fun hab => absurd (eq_of_beq hab) fun z => e (Value.type.inj z)) (fun _ => ?_)
    exact wpAny_bind (show wpAny (model prog w) A (richCompare .Eq (Value.type m) (Value.type n)) _ E s from
      TypeEq.eq_type_other (fun s' => PySem.W.kitMeta_of hm) (fun s' => PySem.W.kitMeta_of hn) (by rw [ty_beq, decide_eq_false e]) (wpAny_truthy_bool h))
def rNotTy (K : PySem.W.Frag) : V → V → Hp → VK → Prop := fun x y H Q => ∃ (m : String) (p : Addr) (ms : List String), x = .ty m ∧ y = .ref p ∧ SqT K H p (ms.map V.ty) ∧ PySem.W.kitMeta m = true ∧ (∀ n ∈ ms, PySem.W.kitMeta n = true) ∧ Q (.bl (!(ms.any fun n => decide (n = m)))) H
def eqTyU (m : String) (v : Value) : Bool := match v with
  | .type n => decide (n = m)
  | _ => false
theorem any_tyU {m : String} : ∀ {ms : List String} {us : List Value}, Vals (ms.map V.ty) us → us.any (eqTyU m) = ms.any fun n => decide (n = m)
  | [], _, .nil => rfl
  | n :: ms, _, .cons r t => by
    cases r
    rw [List.any_cons, List.any_cons, any_tyU t]
    rfl
theorem mem_tyU {ms : List String} : ∀ {us : List Value}, Vals (ms.map V.ty) us → ∀ u ∈ us, ∃ n ∈ ms, u = Value.type n := by
  induction ms with
  | nil => intro us h u hu; cases h; cases hu
  | cons n ms ih =>
    intro us h u hu
    cases h with
    | cons r t =>
      cases r
      rcases List.mem_cons.mp hu with e | e
      · exact ⟨n, List.mem_cons_self, e⟩
      · obtain ⟨k, hk, q⟩ := ih t u e
        exact ⟨k, List.mem_cons_of_mem _ hk, q⟩
section
variable {X : Cx}
theorem op_notInTy : OpR X (compareOp .NotIn) (rNotTy X.K) := by
  intro pins s σ H x y v u Q I rx ry h
  obtain ⟨m, p, ms, rfl, rfl, hq, hm, hms, q⟩ := h
  cases rx
  cases ry
  obtain ⟨its, r, pl, hz⟩ := I.tuple hq
  refine SeqAt.notIn_tupleAt (eqTyU m) (show s.heap.IsTuple p its.toArray from pl) (fun w hw => ?_) ⟨.bl _, H, I, rfl, ?_⟩
  · obtain ⟨n, hn, rfl⟩ := mem_tyU r w (by simpa using hw)
    exact eqAt_ty (hms n hn) hm
  · rw [show its.toArray.any (eqTyU m) = its.any (eqTyU m) by simp, any_tyU r]
    exact q
/-- a built-in's call, by either of two readings -/
theorem cr_or {f : Value} {r r' : List V → Hp → VK → Prop} (h : CallR X f r) (h' : CallR X f r') : CallR X f (fun xs H Q => r xs H Q ∨ r' xs H Q) := by
  intro pins s σ H xs us Q I rx q
  rcases q with q | q
  · exact h pins s σ H xs us Q I rx q
  · exact h' pins s σ H xs us Q I rx q
end
end DpR
/-! the end of a law in whose program one def's table grows -/
namespace DpR
open PySem PySem.Spec PyProof.Rows L2
abbrev tab0 : Obj := { cls := .none, data := .fields #[] }
theorem law_callE {P : Program} {w : World} {K : PySem.W.Frag} {mg mb : Str → Option Value} {CX : CXT} {k : Nat} {fa a c tb : Addr} {fd : FuncData} {x : Str} {sp : Sp} {s₁ : Shared} {vs : List Value} {ns : List Int}
    (KX : K.In s₁.heap) (hns : s₁.heap.Ns mainGlobals mg) (hb : s₁.heap.Ns builtinsNs mb) (hbb : ∀ x : Str, x ≠ "__name__" → mb x = bootBuiltins x) (hlim : s₁.heap.NoLimit) (hg : s₁.gens = #[])
    (hT : s₁.heap.get? tb = some tab0) (nT : K.lookup tb = none) (C : PySem.W.CodeHd s₁.heap c tb)
    (hbm : ∃ (bm : Addr) (ob : Obj), mg "__builtins__" = some (.ref bm) ∧ bm ≠ builtinsNs ∧ s₁.heap.get? bm = some ob ∧ ob.cls = .type "module" ∧ ob.dict = some builtinsNs ∧ ob.data = .plain)
    (ha : s₁.heap.get? a = some { cls := .type "list", data := .seq vs.toArray }) (hi : IntsAre vs ns) (hl : ns.length ≤ sizeLine) (hr : Room k callerA)
    (F : ∀ base : Heap, K.In base → base.Ns mainGlobals mg → GxR.TabB base mg c tb → FnOk P w K mg base CX k fa fd [x] sp) (hbind : ∀ (s : Shared) (u : Value), BindsTo s fd ⟨[u], []⟩ [(x, u)])
    (hsp : ∀ H : Hp, H tb = some (TabO tb) → SqL K H a (ns.map V.int) → sp [.ref a] H (fun v H' => v = .bl true ∧ H' tb = some (TabO tb)) fun _ _ _ => False)
    (hCX : ∀ H e s', CX [] H s₁ (fun _ _ _ => False) e s' → False) :
    codeAny (model P w) callerA (.call (.ref fa) ⟨[.ref a], []⟩) (fun r s' => r = .ok (.ret (.bool true)) ∧ OldK s₁.heap s'.heap ∧ s'.os = s₁.os ∧ AllBare s'.gens) s₁ := by
  have rv := vals_ints hi
  have lenV := hi.length
  have aT : a ≠ tb := fun z => by
    rw [z, hT] at ha
    have z' := congrArg Obj.data (Option.some.inj ha)
    cases z'
  have core : ∀ H : Hp, H tb = some (TabO tb) → (∀ b, H b = none ∨ b = tb ∨ ∃ o xs, H b = some (.frz o (.lst xs))) → SqL K H a (ns.map V.int) → HOk P w H s₁.heap → (∀ b, H b ≠ none → b = a ∨ b = tb) → (H a ≠ none → K.lookup a = none) →
      codeAny (model P w) callerA (.call (.ref fa) ⟨[.ref a], []⟩) (fun r s' => r = .ok (.ret (.bool true)) ∧ OldK s₁.heap s'.heap ∧ s'.os = s₁.os ∧ AllBare s'.gens) s₁ := by
    intro H hH hO hS hok hA hK
    have base_of : ∀ {b : Addr} {o : Obj}, s₁.heap.get? b = some o → H b = none → (hidT s₁.heap H).get? b = some o := fun e n => hidT_get e n
    have noD : ∀ {b : Addr} {o : Obj}, s₁.heap.get? b = some o → (∀ vs n, o.data ≠ .seq vs n) → o.data ≠ .fields #[] → H b = none := fun {b o} e h1 h2 => by
      cases q : H b with
      | none => rfl
      | some u =>
        rcases hA b (by rw [q]; simp) with e' | e'
        · rw [e', ha] at e
          cases e
          exact (h1 _ _ rfl).elim
        · rw [e', hT] at e
          cases e
          exact (h2 rfl).elim
    have noA : ∀ {b : Addr} {o : Obj} {es : Array DictEntry} {ep : Nat}, s₁.heap.get? b = some o → o.data = .dict es ep → H b = none := fun {b o es ep} e d =>
      noD e (fun vs n z => by rw [d] at z; cases z) fun z => by rw [d] at z; cases z
    have nsK : ∀ {b : Addr} {m : Str → Option Value}, s₁.heap.Ns b m → (hidT s₁.heap H).Ns b m := fun {b m} ⟨o, es, ep, e, d, r⟩ => ⟨o, es, ep, base_of e (noA e d), d, r⟩
    have hKb : K.In (hidT s₁.heap H) := fun b o e => base_of (KX b o e) (by
      cases q : H b with
      | none => rfl
      | some u =>
        rcases hA b (by rw [q]; simp) with e' | e'
        · rw [e'] at e q
          rw [hK (by rw [q]; simp)] at e
          cases e
        · rw [e', nT] at e
          cases e)
    have hM : L2.Mod K mg (hidT s₁.heap H) := ⟨hKb, nsK hns, ⟨mb, nsK hb, hbb⟩, let ⟨mc, h1, h2⟩ := hlim; ⟨mc, nsK h1, h2⟩⟩
    have TB : GxR.TabB (hidT s₁.heap H) mg c tb := by
      refine ⟨?_, ?_, fun z => ?_⟩
      · obtain ⟨o, us, file, tf, flags, tg, inF, text, tt, e1, r1, r2, r3, r4, r5, r6, r7, r8, hne⟩ := C
        refine ⟨o, us, file, tf, flags, tg, inF, text, tt, base_of e1 (noD e1 (fun vs n z => ?_) fun z => ?_), r1, r2, r3, r4, r5, r6, r7, r8, hne⟩
        · rw [r2] at z
          cases z
        · rw [r2] at z
          cases z
          simp at r3
      · obtain ⟨bm, ob, b1, b2, b3, b4, b5, b6⟩ := hbm
        have nG : bm ≠ mainGlobals := fun q => by
          obtain ⟨o, es, ep, e, hd, _⟩ := hns
          rw [q, e] at b3
          cases b3
          rw [hd] at b6
          cases b6
        have nP : bm ≠ tb := fun q => by
          rw [q, hT] at b3
          cases b3
          cases b6
        exact ⟨bm, ob, b1, b2, nG, nP, base_of b3 (noD b3 (fun vs n z => by rw [b6] at z; cases z) fun z => by rw [b6] at z; cases z), b4, b5, b6⟩
      · obtain ⟨o, es, ep, e, hd, _⟩ := hns
        rw [z, hT] at e
        cases e
        cases hd
    have e0 : Env0 P w K mg (hidT s₁.heap H) callerA [] s₁ H := ⟨rfl, hM, fun b o e => of_hidT e, Nat.le_of_eq (hidT_size _ _), trivial, fun b hb => absurd (show b ∈ ([] : List Addr) from hb) (by simp), hok, .of_eq hg⟩
    refine codeAny_mono ((F _ hKb (nsK hns) TB).run callerA [] s₁ H ⟨[.ref a], []⟩ [.ref a] [.ref a] _ _ hr e0 (hbind s₁ (.ref a)) (.cons rfl .nil) (hsp H hH hS)) fun r s' h => ?_
    cases r with
    | error e => exact (hCX H e s' h).elim
    | ok fl =>
      cases fl with
      | next => exact False.elim h
      | brk => exact False.elim h
      | cont => exact False.elim h
      | ret u =>
        obtain ⟨v, H', os, bare, un, hok', r', q⟩ := h
        obtain ⟨q', qT⟩ := q
        subst q'
        obtain rfl : u = Value.bool true := r'
        have key : ∀ b o, b ≠ tb → s₁.heap.get? b = some o → s'.heap.get? b = some o := fun b o nb e => by
          cases q : H b with
          | none => exact un.keep b o e q (by intro z; exact absurd (show b ∈ ([] : List Addr) from z) (by simp)) (by simp)
          | some u =>
            rcases hO b with z | z | ⟨ob, xs, z⟩
            · rw [q] at z; cases z
            · exact absurd z nb
            · have z2 := un.frzs b ob _ z
              obtain ⟨e1, _⟩ := hok b _ z
              obtain ⟨e2, _⟩ := hok' b _ z2
              rw [e] at e1; cases e1
              exact e2
        obtain ⟨more, hm, _⟩ := (hok' tb _ qT).1
        refine ⟨rfl, ⟨fun b o e => ?_, fun b o e => ?_⟩, os, bare⟩
        · by_cases hb : b = tb
          · rw [hb] at e ⊢
            rw [hT] at e
            cases e
            exact .inr (.inl ⟨(C.tab hT).isCodeTable, rfl, #[], more, rfl, by rw [Array.empty_append]; exact hm⟩)
          · exact .inl (key b o hb e)
        · by_cases hb : b = tb
          · rw [hb]
            exact ⟨_, hm⟩
          · exact ⟨o, key b o hb e⟩
  have okT : ∀ H : Hp, ObjOk P w H s₁.heap tb (TabO tb) := fun H => tabO_ok hT (show TriplesOk [] from trivial)
  cases hk : K.lookup a with
  | some o =>
    have e := KX a o hk
    rw [ha] at e
    cases e
    refine core (fun b => if b = tb then some (TabO tb) else none) (if_pos rfl) (fun b => ?_) (.inr ⟨_, vs.toArray, _, hk, rfl, rfl, rfl, by rw [List.size_toArray, lenV]; exact hl, by simpa using rv⟩) (fun b u z => ?_) (fun b z => ?_) fun z => absurd (show (if a = tb then some (TabO tb) else none) = none from if_neg aT) z
    · by_cases hb : b = tb
      · exact .inr (.inl hb)
      · exact .inl (if_neg hb)
    · by_cases hb : b = tb
      · have z' := (if_pos hb).symm.trans z
        cases z'
        rw [hb]
        exact okT _
      · have z' := (if_neg hb).symm.trans z
        cases z'
    · by_cases hb : b = tb
      · exact .inr hb
      · exact absurd (if_neg hb) z
  | none =>
    refine core (fun b => if b = a then some (.frz { cls := .type "list", data := .seq vs.toArray } (.lst (ns.map V.int))) else if b = tb then some (TabO tb) else none) ((if_neg (Ne.symm aT)).trans (if_pos rfl)) (fun b => ?_)
      (.inl (.inr ⟨{ cls := .type "list", data := .seq vs.toArray }, if_pos rfl⟩)) (fun b u z => ?_) (fun b z => ?_) fun _ => hk
    · by_cases hb : b = a
      · exact .inr (.inr ⟨_, _, if_pos hb⟩)
      · by_cases hb2 : b = tb
        · exact .inr (.inl hb2)
        · exact .inl ((if_neg hb).trans (if_neg hb2))
    · by_cases hb : b = a
      · have z' := (if_pos hb).symm.trans z
        cases z'
        rw [hb]
        exact ⟨ha, by rw [List.length_map]; exact hl, vs, _, rv, ha⟩
      · have z1 := (if_neg hb).symm.trans z
        by_cases hb2 : b = tb
        · have z' := (if_pos hb2).symm.trans z1
          cases z'
          rw [hb2]
          exact okT _
        · have z' := (if_neg hb2).symm.trans z1
          cases z'
    · by_cases hb : b = a
      · exact .inl hb
      · by_cases hb2 : b = tb
        · exact .inr hb2
        · exact absurd ((if_neg hb).trans (if_neg hb2)) z
/-- the table of the def nm is empty as yet -/
def TabOf (K : PySem.W.Frag) (mg : Str → Option Value) (nm : Str) (h : Heap) : Prop := ∀ (f c P : Addr) (o : Obj) (fd : FuncData) (e : Value) (dd : Option Addr) (vs : Array Value) (sl : Array (Option Value)), mg nm = some (.ref f) → K.lookup f = some o → o.data = .func fd → fd.code = .ref c →
  K.lookup c = some ⟨e, dd, .fields vs, sl⟩ → vs[11]? = some (.ref P) → h.get? P = some tab0
/-- what is known of the law's promise -/
def LawAtE (l : PySem.W.OpenLaw) (w : World) (K : PySem.W.Frag) (CX : CXT) (k n : Nat) (x : Str) (mg : Str → Option Value) (fa : Addr) (h : Heap) : Prop :=
  ∃ (fd : FuncData) (c tb : Addr) (sp : Sp), h.get? tb = some tab0 ∧ K.lookup tb = none ∧ PySem.W.codeHdIn K c tb = true ∧ (∀ (s : Shared) (u : Value), BindsTo s fd ⟨[u], []⟩ [(x, u)]) ∧
    (∀ (H : Hp) (a : Addr) (ns : List Int), ns.length ≤ n → H tb = some (TabO tb) → SqL K H a (ns.map V.int) → sp [.ref a] H (fun v H' => v = .bl true ∧ H' tb = some (TabO tb)) fun _ _ _ => False) ∧
    ∀ base : Heap, K.In base → base.Ns mainGlobals mg → GxR.TabB base mg c tb → FnOk l.prog w K mg base CX k fa fd [x] sp
theorem walk_ofE {l : PySem.W.OpenLaw} {n k : Nat} {q : Program} {loose : List Str} {XP : (Str → Option Value) → Heap → Prop} {YP : World → Heap → Prop} {d : DefRec} {K : Params → PySem.W.Frag} {CX : World → CXT} {x : Str} (nm : Str)
    (hn : l.most = some n) (hn2 : n ≤ sizeLine) (hdf : d.params.defaults = []) (hr : Room k callerA) (hrec : ((recsOf q).any fun e => e.name == nm) = true) (hY : ∀ (w : World) (h : Heap), YP w h → (K w.params).In h)
    (F : ∀ (w : World) (mg : Str → Option Value) (fa : Addr) (h : Heap), YP w h → (K w.params).In h → h.Ns mainGlobals mg → mg d.name = some (.ref fa) → TabOf (K w.params) mg nm h → LawAtE l w (K w.params) (CX w) k n x mg fa h)
    (hCX : ∀ (w : World) (H : Hp) (s : Shared) (e : Value) (s' : Shared), CX w [] H s (fun _ _ _ => False) e s' → False) :
    PySem.W.WalkO q loose XP YP l.row.toRowW d [] (fun f vs => PySem.call f vs) := by
  refine Att.attach_callB hn hdf fun w s₀ s₁ mg mb fa o pm cd doc a vs ns G Y ho hd hcd hmg hobj hints hlen hbits hg => ?_
  have KX := hY w _ Y
  have own : TabOf (K w.params) mg nm s₁.heap := fun f c P o1 fd1 e dd vs1 sl k0 k1 k2 k3 k4 k5 => by
    obtain ⟨dL, hm, hn1⟩ := List.any_eq_true.mp hrec
    have hn2 : dL.name = nm := beq_iff_eq.mp hn1
    obtain ⟨a', o', fd', c', P', h1, h2, h3, h4, h5, h6⟩ := G.T.tab dL hm
    rw [hn2, k0] at h1
    cases h1
    have g1 := KX _ _ k1
    rw [g1] at h2
    cases h2
    rw [k2] at h3
    cases h3
    rw [k3] at h4
    cases h4
    obtain ⟨⟨oc, vc, e1, _, e3, e4⟩, hP⟩ := h6
    have g2 := KX _ _ k4
    rw [g2] at e1
    cases e1
    cases e3
    rw [k5] at e4
    cases e4
    exact hP
  obtain ⟨fd, c, tb, sp, hT, nT, C, hb, hsp, hF⟩ := F w mg fa _ Y KX G.T.g hmg own
  exact law_callE KX G.T.g G.T.b G.T.builtins G.T.nolimit hg hT nT (PySem.W.codeHd_of_K KX C) G.T.bmain hobj hints (Nat.le_trans hlen hn2) hr hF hb (fun H hH hS => hsp H a ns hlen hH hS) fun H e s' => hCX w H s₁ e s'
end DpR
/-! zip of two rows, each a list or a tuple -/
namespace DpR
open PySem PySem.Spec PyProof.Rows L2
def ItzB (b1 b2 : Bool) (K : PySem.W.Frag) (a b : Addr) : It :=
  ⟨fun i H => ∃ (xs ys : List V) (x y : V), SqB b1 K H a xs ∧ SqB b2 K H b ys ∧ xs[i]? = some x ∧ ys[i]? = some y,
    fun i H v H' => ∃ T x y, v = .ref T ∧ H T = none ∧ H' = upd H T (.tup [x, y]) ∧ (∀ xs, SqB b1 K H a xs → xs[i]? = some x) ∧ ∀ ys, SqB b2 K H b ys → ys[i]? = some y,
    fun i H => ∃ xs ys : List V, SqB b1 K H a xs ∧ SqB b2 K H b ys ∧ xs.length = i ∧ ys.length = i⟩
theorem turn_zipB {P : Program} {w : World} {K : PySem.W.Frag} {elts : List Expr} {kk : Nat} {tpos : Pos} {b1 b2 : Bool} {a b z TI TO i1 i2 : Addr} (D : ZipSep2 z TI TO i1 i2 [i1, a] [i2, b]) :
    Turn P w K (.Tuple elts kk tpos) (ItzB b1 b2 K a b) [z, TI, TO, i1, i2] z (fun i h => IsZip h z TI TO .none ∧ IsTupOf2 h TI (.ref i1) (.ref i2) ∧ (∃ x y, IsTupOf2 h TO x y) ∧ InB b1 h i1 a i ∧ InB b2 h i2 b i) where
  mem := by simp
  obj := fun i h st c hc => by
    obtain ⟨hz, hTI, ⟨x, y, hTO⟩, h1, h2⟩ := st
    obtain ⟨o1, vs1, n1, e1, d1, _⟩ := inB_obj h1
    obtain ⟨o2, vs2, n2, e2, d2, _⟩ := inB_obj h2
    have e' : c = z ∨ c = TI ∨ c = TO ∨ c = i1 ∨ c = i2 := by simpa using hc
    rcases e' with q | q | q | q | q
    · rw [q]; exact ⟨_, hz, fun v q => nomatch q⟩
    · rw [q]; exact ⟨_, hTI, fun v q => nomatch q⟩
    · rw [q]; exact ⟨_, hTO, fun v q => nomatch q⟩
    · rw [q]; exact ⟨o1, e1, fun v q => by rw [d1] at q; cases q⟩
    · rw [q]; exact ⟨o2, e2, fun v q => by rw [d2] at q; cases q⟩
  keep := fun i h h' st k => by
    obtain ⟨hz, hTI, ⟨x, y, hTO⟩, h1, h2⟩ := st
    exact ⟨k z (by simp) _ hz, k TI (by simp) _ hTI, ⟨x, y, k TO (by simp) _ hTO⟩, inB_at h1 fun o q => k i1 (by simp) o q, inB_at h2 fun o q => k i2 (by simp) o q⟩
  item := by
    intro X hP hw hK hc i pins s σ H E I hf st hg
    subst hP hw hK
    obtain ⟨hz, hTI, ⟨x0, y0, hTO⟩, h1, h2⟩ := st
    obtain ⟨xs, ys, x, y, hqx, hqy, hx, hy⟩ := hg
    obtain ⟨its, rv, p, _⟩ := sqB_is I hqx
    obtain ⟨its2, rv2, p2, _⟩ := sqB_is I hqy
    obtain ⟨u, hu, ru⟩ := rv.get hx
    obtain ⟨u2, hu2, ru2⟩ := rv2.get hy
    have hzl : z < s.heap.objs.size := Heap.lt_size hz
    have l1 : i < its.toArray.size := by rw [List.size_toArray]; exact (List.getElem?_eq_some_iff.mp hu).1
    have l2 : i < its2.toArray.size := by rw [List.size_toArray]; exact (List.getElem?_eq_some_iff.mp hu2).1
    have n1 : a ≠ i1 := let ⟨o, vs, n, e, d, _⟩ := inB_obj h1; isB_ne p e d
    have n2 : b ≠ i2 := let ⟨o, vs, n, e, d, _⟩ := inB_obj h2; isB_ne p2 e d
    refine wpAny_pyNext_zipD2_item D (drawsB (b := b1) (show X.A.in1.handled = none from I.ok.hd hc) i1 a n1 its.toArray) (drawsB (b := b2) (show X.A.in1.handled = none from I.ok.hd hc) i2 b n2 its2.toArray) hz hTI hTO ⟨h1, p⟩ ⟨h2, p2⟩ l1 l2 fun v1 v2 h' tk q1 q2 z' TO' st1 st2 hT hsz hk => ?_
    have ev1 : u = v1 := by
      have q1' : its[i]? = some v1 := by simpa using q1
      rw [hu] at q1'
      exact Option.some.inj q1'
    have ev2 : u2 = v2 := by
      have q2' : its2[i]? = some v2 := by simpa using q2
      rw [hu2] at q2'
      exact Option.some.inj q2'
    subst ev1 ev2
    refine ⟨_, rfl, wpAny_letOwnedTupleGo_zip (s := { s with heap := h', toks := tk }) z' fun h'' z'' sb => ?_⟩
    have hT2 : h''.get? s.heap.objs.size = some { cls := .type "tuple", data := .seq #[u, u2] } := (sb.2 _ (Nat.ne_of_gt hzl)).trans hT
    have new : ObjOk X.prog X.w (upd H s.heap.objs.size (.tup [x, y])) h'' s.heap.objs.size (.tup [x, y]) :=
      ⟨by show 2 ≤ sizeLine; decide, [u, u2], .cons ru (.cons ru2 .nil), ⟨_, hT2, rfl, _, rfl⟩⟩
    have I1 : Inv X pins σ (upd H s.heap.objs.size (.tup [x, y])) { s with heap := h'', toks := tk } :=
      I.turnedNew (t' := tk) (ch := [z, TI, TO, i1, i2]) (fun c o hb q => (sb.2 c (fun q' => hb (by simp [q']))).trans (hk c o (fun q' => hb (by simp [q'])) (fun q' => hb (by simp [q'])) (fun q' => hb (by simp [q'])) (fun q' => hb (by simp [q'])) q)) hf (Nat.le_refl _) new
    refine ⟨.ref s.heap.objs.size, _, I1, rfl, ⟨_, x, y, rfl, I.hok.fresh (Nat.le_refl _), rfl, fun l hl => by rw [sqB_inj I hl hqx]; exact hx, fun l hl => by rw [sqB_inj I hl hqy]; exact hy⟩, ⟨z'', ?_, ⟨u, u2, ?_⟩, ?_, ?_⟩, fun c hcm => ?_⟩
    · exact (sb.2 _ D.TIz).trans (hk _ _ D.TIz D.TITO D.TIi1 D.TIi2 hTI)
    · exact (sb.2 _ D.TOz).trans TO'
    · exact inB_at st1.1 fun o q => (sb.2 _ (Ne.symm D.zi1)).trans q
    · exact inB_at st2.1 fun o q => (sb.2 _ (Ne.symm D.zi2)).trans q
    · have hlt : c < s.heap.objs.size := by
        have e' : c = z ∨ c = TI ∨ c = TO ∨ c = i1 ∨ c = i2 := by simpa using hcm
        rcases e' with q | q | q | q | q
        · rw [q]; exact hzl
        · rw [q]; exact Heap.lt_size hTI
        · rw [q]; exact Heap.lt_size hTO
        · rw [q]; obtain ⟨_, _, _, e1, _⟩ := inB_obj h1; exact Heap.lt_size e1
        · rw [q]; obtain ⟨_, _, _, e2, _⟩ := inB_obj h2; exact Heap.lt_size e2
      rw [upd_ne (Nat.ne_of_lt hlt)]
      exact (hf c hcm).1
  done := by
    intro X hP hw hK hc i pins s σ H E I hf st hg
    subst hP hw hK
    obtain ⟨hz, hTI, ⟨x0, y0, hTO⟩, h1, h2⟩ := st
    obtain ⟨xs, ys, hqx, hqy, e1, e2⟩ := hg
    obtain ⟨its, rv, p, _⟩ := sqB_is I hqx
    obtain ⟨its2, rv2, p2, _⟩ := sqB_is I hqy
    have l1 : i = its.toArray.size := by rw [List.size_toArray, ← rv.length]; exact e1.symm
    have l2 : i = its2.toArray.size := by rw [List.size_toArray, ← rv2.length]; exact e2.symm
    have n1 : a ≠ i1 := let ⟨o, vs, n, e, d, _⟩ := inB_obj h1; isB_ne p e d
    have n2 : b ≠ i2 := let ⟨o, vs, n, e, d, _⟩ := inB_obj h2; isB_ne p2 e d
    exact wpAny_pyNext_zipD2_end D (drawsB (b := b1) (show X.A.in1.handled = none from I.ok.hd hc) i1 a n1 its.toArray) (drawsB (b := b2) (show X.A.in1.handled = none from I.ok.hd hc) i2 b n2 its2.toArray) hz hTI hTO ⟨h1, p⟩ ⟨h2, p2⟩ (Nat.le_of_eq l1) (Nat.le_of_eq l2) (.inl l1) fun h' tk hk => ⟨rfl, I.turnedL (t' := tk) (ch := [z, TI, TO, i1, i2]) (fun c o hb q =>
      hk c o (fun q' => hb (by simp [q'])) (fun q' => hb (by simp [q'])) (fun q' => hb (by simp [q'])) (fun q' => hb (by simp [q'])) q) hf⟩
  self := fun A i s Q E st h => wpAny_pyIter_zip st.1 h
theorem beginsR {b : Bool} {a : Addr} {its : Array Value} : Begins (.ref a) (itrB b a) (fun h => IsB b h a its) := by
  cases b with
  | false => exact begins_list _ _
  | true => exact begins_tuple _ _
def iZipB (K : PySem.W.Frag) (ta : TA) : TI := fun σ H R => ta σ H fun vs H1 => ∃ a b b1 b2 xs ys, vs = [.ref a, .ref b] ∧ SqB b1 K H1 a xs ∧ SqB b2 K H1 b ys ∧ R (ItzB b1 b2 K a b) H1
theorem pi_zipB {X : Cx} {e e2 : Expr} {ta : TA} {p pos tpos : Pos} {elts : List Expr} {kk : Nat} (hg : Gl X "zip") (hm : X.mg "zip" = none) (ha : PA X [e, e2] ta)
    (hs : starEach [e, e2] X.env = (false, eval e X.env) :: starEach [e2] X.env := by rfl) (hpl : (backTo pos (starEach [e2] X.env)).any (·.1) = false := by rfl) :
    PI X (.Tuple elts kk tpos) (.Call (.Name "zip" p) [e, e2] [] pos) (iZipB X.K ta) := by
  refine ⟨fun pins s σ H R I h => ?_⟩
  refine Call_ (ld_blt I hg hm PyProof.Rows.boot_zip (PyProof.Rows.callWith_type1 (thn (ha.run pos pins s σ H _ I h) fun us s1 ⟨vs, H1, I1, r1, q1⟩ => ?_) hs hpl))
  obtain ⟨a, b, b1, b2, xs, ys, ex, hqx, hqy, q⟩ := q1
  subst ex
  cases r1 with
  | cons r rr =>
    cases rr with
    | cons r' rr =>
      cases rr
      cases r
      cases r'
      obtain ⟨its, rv, p1, _⟩ := sqB_is I1 hqx
      obtain ⟨its2, rv2, p2, _⟩ := sqB_is I1 hqy
      have la := isB_lt p1
      have lb := isB_lt p2
      refine zip_begins2 (H1 := fun h => IsB b1 h a its.toArray) (H2 := fun h => IsB b2 h b its2.toArray) beginsR beginsR p1 p2 fun h' hz hTI hTO h1 h2 hsz hk => wpAny_pyIter_zip hz ?_
      have I2 : Inv X pins σ H1 { s1 with heap := h' } := I1.kept (t' := s1.toks) hk
      have in1 : InB b1 h' s1.heap.objs.size a 0 := by
        cases b1 with
        | false => exact ⟨_, h1, rfl, rfl⟩
        | true => exact ⟨_, h1, rfl, rfl⟩
      have in2 : InB b2 h' (s1.heap.objs.size + 1) b 0 := by
        cases b2 with
        | false => exact ⟨_, h2, rfl, rfl⟩
        | true => exact ⟨_, h2, rfl, rfl⟩
      have la' : (a : Nat) < s1.heap.objs.size := la
      have lb' : (b : Nat) < s1.heap.objs.size := lb
      have na : ∀ {x y : Nat}, x ≠ y → (x : Addr) ≠ y := fun h => h
      have D : ZipSep2 (s1.heap.objs.size + 4) (s1.heap.objs.size + 2) (s1.heap.objs.size + 3) s1.heap.objs.size (s1.heap.objs.size + 1) [s1.heap.objs.size, a] [s1.heap.objs.size + 1, b] := by
        have two : ∀ {x u v : Nat}, x ≠ u → x ≠ v → (x : Addr) ∉ ([u, v] : List Addr) := fun {x u v} h1 h2 z => by
          rcases List.mem_cons.mp z with z | z
          · exact h1 z
          · exact h2 (List.mem_singleton.mp z)
        refine ⟨na (by omega), na (by omega), na (by omega), na (by omega), List.mem_cons_self, two (by omega) (Nat.ne_of_gt (Nat.lt_of_lt_of_le la (Nat.le_add_right _ _))), two (by omega) (Nat.ne_of_gt (Nat.lt_of_lt_of_le la (Nat.le_add_right _ _))), na (by omega), List.mem_cons_self, two (by omega) (Nat.ne_of_gt (Nat.lt_of_lt_of_le lb (Nat.le_add_right _ _))), two (by omega) (Nat.ne_of_gt (Nat.lt_of_lt_of_le lb (Nat.le_add_right _ _))), two (by omega) (Nat.ne_of_gt lb), two (by omega) (Nat.ne_of_gt (Nat.lt_of_lt_of_le la (Nat.le_add_right _ _)))⟩
      refine ⟨s1.heap.objs.size + 4, [s1.heap.objs.size + 4, s1.heap.objs.size + 2, s1.heap.objs.size + 3, s1.heap.objs.size, s1.heap.objs.size + 1], _, _, H1, rfl, I2, turn_zipB D, ⟨hz, hTI, ⟨_, _, hTO⟩, in1, in2⟩, fun c hcm => ?_, q⟩
      have hle : s1.heap.objs.size ≤ c := by
        have e' : c = s1.heap.objs.size + 4 ∨ c = s1.heap.objs.size + 2 ∨ c = s1.heap.objs.size + 3 ∨ c = s1.heap.objs.size ∨ c = s1.heap.objs.size + 1 := by simpa using hcm
        rcases e' with z | z | z | z | z
        · rw [z]; exact Nat.le_add_right _ _
        · rw [z]; exact Nat.le_add_right _ _
        · rw [z]; exact Nat.le_add_right _ _
        · rw [z]; exact Nat.le_refl _
        · rw [z]; exact Nat.le_add_right _ _
      exact I1.fpOk hle (I1.hok.fresh hle)
/-- a loop over zip of two rows of one length -/
theorem for_zipB {K : PySem.W.Frag} {b1 b2 : Bool} {a b : Addr} {xs ys : List V} {g : TG} {tb : TS} {D : Ends} {σ : L2.St} {H : Hp} (hl : xs.length = ys.length) (Pv : Nat → L2.St → Hp → Prop) (h0 : Pv 0 σ H) (hq : ∀ i σ H, Pv i σ H → SqB b1 K H a xs ∧ SqB b2 K H b ys)
    (hs : ∀ (i : Nat) (x y : V) (T : Addr) (σ : L2.St) (H : Hp), xs[i]? = some x → ys[i]? = some y → Pv i σ H → H T = none → g (.ref T) σ (upd H T (.tup [x, y])) fun σ2 H2 => tb { D with nx := Pv (i + 1), ct := Pv (i + 1), bk := D.nx } σ2 H2) (hd : ∀ σ H, Pv xs.length σ H → D.nx σ H) :
    ∃ W : Nat → Nat → L2.St → Hp → Prop, (∃ m, W 0 m σ H) ∧ ∀ i m σ H, W i m σ H →
      ((ItzB b1 b2 K a b).stop i H ∧ D.nx σ H) ∨ ((ItzB b1 b2 K a b).go i H ∧ ∃ N : L2.St → Hp → Prop, (∀ σ' H', N σ' H' → ∃ m', m' < m ∧ W (i + 1) m' σ' H') ∧ ∀ v H', (ItzB b1 b2 K a b).yld i H v H' → g v σ H' fun σ2 H2 => tb { D with nx := N, ct := N, bk := D.nx } σ2 H2) := by
  refine ⟨fun i m σ H => m = xs.length - i ∧ i ≤ xs.length ∧ Pv i σ H, ⟨xs.length, rfl, Nat.zero_le _, h0⟩, ?_⟩
  rintro i m σ H ⟨rfl, hi, p⟩
  obtain ⟨qx, qy⟩ := hq i σ H p
  by_cases hlt : i < xs.length
  · have hx : xs[i]? = some xs[i] := List.getElem?_eq_getElem hlt
    have hlt2 : i < ys.length := by omega
    have hy : ys[i]? = some ys[i] := List.getElem?_eq_getElem hlt2
    refine .inr ⟨⟨xs, ys, _, _, qx, qy, hx, hy⟩, Pv (i + 1), fun σ' H' p' => ⟨xs.length - (i + 1), by omega, rfl, hlt, p'⟩, fun v H' y => ?_⟩
    obtain ⟨T, x', y', rfl, hT, rfl, k1, k2⟩ := y
    exact hs i x' y' T σ H (k1 xs qx) (k2 ys qy) p hT
  · have e : i = xs.length := by omega
    subst e
    exact .inl ⟨⟨xs, ys, qx, qy, rfl, hl.symm⟩, hd σ H p⟩
end DpR
namespace Dp
open PySem PySem.Spec PyProof.Rows L2 DpR
def top (i : Nat) : Stmt := PySem.Challenge.pw_doorpicks_k10_all_rows_of_few.main.body.getD i (.Pass ⟨0, 0, 0, 0⟩)
abbrev s_is_whole : Stmt := top 1
abbrev s_are_counts : Stmt := top 12
abbrev s_ways_from : Stmt := top 13
abbrev s_Kinds_init : Stmt := inClass (top 14) 0
abbrev s_Kinds_many : Stmt := inClass (top 14) 1
abbrev s_Kinds_number : Stmt := inClass (top 14) 2
abbrev s_Kinds_at : Stmt := inClass (top 14) 3
abbrev s_Kinds_has : Stmt := inClass (top 14) 4
abbrev s_law_mixed : Stmt := top 16
abbrev s_law_cell_at : Stmt := top 17
abbrev s_law_rows : Stmt := top 18
abbrev s_law_kind : Stmt := top 19
abbrev s_law_at : Stmt := top 20
abbrev s_law_number : Stmt := top 21
abbrev s_law : Stmt := top 22
/-! ### what the top has written of the program -/
structure ExT (K : PySem.W.Frag) (mg : Str → Option Value) (x : Str) (C : Addr) : Prop where
  g : mg x = some (.ref C)
  x : PySem.W.excIn K C [.type "ValueError", .type "Exception", .type "BaseException", .type "object"] "ValueError.__new__" = true
  kp : PySem.W.keepIn K (.ref C) = true
  b : PySem.W.subIn K (.ref C) (.type "BaseException") = some true
  t : PySem.W.typeIn K (.ref C) = some (.type "type")
structure GlbW (mg : Str → Option Value) : Prop where
  type : mg "type" = none
  int : mg "int" = none
  isinstance : mg "isinstance" = none
  tuple : mg "tuple" = none
  list : mg "list" = none
structure LIT (mg : Str → Option Value) : Prop where
  isinstance : mg "isinstance" = none
  tuple : mg "tuple" = none
structure GD (K : PySem.W.Frag) (mg : Str → Option Value) (x : Str) (st : Stmt) (ps : List Str) (f : Addr) (fd : FuncData) : Prop where
  F : Fun K x x st f fd
  b : Binds K fd ps []
  g : mg x = some (.ref f)
def spLaw (K : PySem.W.Frag) : Sp := fun vs H Q _ => ∃ (a : Addr) (ns : List Int), vs = [.ref a] ∧ SqL K H a (ns.map V.int) ∧ ns.length ≤ 63 ∧ ∀ H', Q (.bl true) H'
/-- a method stands, its arguments bind, it keeps its promise -/
def MtOk (P : Program) (w : World) (K : PySem.W.Frag) (mg : Str → Option Value) (base : Heap) (C : Addr) (x : Str) (ps : List Str) (l : Nat) (sp : Sp) : Prop :=
  ∃ f fd, Meth K C x f ∧ Binds K fd ("self" :: ps) [] ∧ FnOk P w K mg base (L2.CX P w) l f fd ("self" :: ps) sp
def HasM (P : Program) (w : World) (K : PySem.W.Frag) (mg : Str → Option Value) (base : Heap) (C : Addr) (x : Str) (ps : List Str) (l : Nat) (sp : Sp) : Prop := ∃ k, k ≤ l ∧ MtOk P w K mg base C x ps k sp
theorem same_new {H : Hp} {p : Addr} {o : HO} (h : H p = none) : Same H (upd H p o) := fun b u e => by rw [upd_ne (ne_of_none e h)]; exact e
/-! ### the promises -/
def spWhole : Sp := fun vs H Q _ => ∃ (x : V) (lo hi : Int), vs = [x, .int lo, .int hi] ∧ Dt H x ∧ Q (.bl (wholeV x lo hi)) H
/-- what is_rising tells -/
def risB (H : Hp) (x : V) (n : Int) (r : Bool) : Prop := (isRow H x → ∀ a b xs, x = .ref a → H a = some (rowO b xs) → r = risV n 0 xs) ∧ (¬ isRow H x → r = false)
def DtIn (H : Hp) (x : V) : Prop := Dt H x ∧ ∀ a b xs, x = .ref a → H a = some (rowO b xs) → ∀ y ∈ xs, Dt H y
def spRising : Sp := fun vs H Q _ => ∃ (x : V) (n : Int), vs = [x, .int n] ∧ DtIn H x ∧ ∀ (r : Bool) H', Same H H' → risB H x n r → Q (.bl r) H'
theorem whole_nat {x : V} {hi : Nat} (h : wholeV x 0 hi = true) : ∃ n : Nat, x = nv n ∧ n ≤ hi := by
  cases x with
  | int i =>
    have h' : (decide (0 ≤ i) && decide (i ≤ (hi : Int))) = true := h
    rw [Bool.and_eq_true, decide_eq_true_eq, decide_eq_true_eq] at h'
    refine ⟨i.toNat, ?_, by omega⟩
    show V.int i = V.int (i.toNat : Int)
    congr 1
    omega
  | _ => exact absurd (show false = true from h) Bool.false_ne_true
theorem whole_nv (n hi : Nat) : wholeV (nv n) 0 hi = decide (n ≤ hi) := by
  show (decide ((0 : Int) ≤ (n : Int)) && decide ((n : Int) ≤ (hi : Int))) = decide (n ≤ hi)
  rw [decide_eq_true (by omega : (0 : Int) ≤ (n : Int)), Bool.true_and]
  by_cases h : n ≤ hi
  · rw [decide_eq_true h, decide_eq_true (by omega)]
  · rw [decide_eq_false h, decide_eq_false (by omega)]
theorem nv_inj {a b : Nat} (h : nv a = nv b) : a = b := by
  have := V.int.inj h
  omega
theorem drop_more {ds : List Nat} {i : Nat} (h : i < ds.length) : ∃ t, ds.drop (ds.length - (i + 1)) = t :: ds.drop (ds.length - i) ∧ (asc ds)[i]? = some (nv t) := by
  have h2 : ds.length - (i + 1) < ds.length := by omega
  refine ⟨ds[ds.length - (i + 1)], ?_, ?_⟩
  · rw [List.drop_eq_getElem_cons h2]
    congr 2
    omega
  · unfold asc
    rw [List.getElem?_map, List.getElem?_reverse h]
    have e : ds.length - 1 - i = ds.length - (i + 1) := by omega
    rw [e, List.getElem?_eq_getElem h2]
    rfl
theorem un_zero (n : Nat) (p : Int) : un n 0 p = [] := by cases n <;> rfl
/-! ### a Kinds object, and what its methods promise -/
structure KdC (K : PySem.W.Frag) (C : Addr) : Prop where
  cl : Cls K C
  nC : NoAttr K C "counts"
  nS : NoAttr K C "size"
  nW : NoAttr K C "_ways"
def kdF (ct wt : Addr) (s : Nat) : List (Str × V) := putF "_ways" (.ref wt) (putF "size" (nv s) (putF "counts" (.ref ct) []))
theorem cs_ne : ¬ (("counts" : Str) = "size") := by decide +kernel
theorem cw_ne : ¬ (("counts" : Str) = "_ways") := by decide +kernel
theorem sw_ne : ¬ (("size" : Str) = "_ways") := by decide +kernel
theorem kdF_counts (ct wt : Addr) (s : Nat) : (kdF ct wt s).lookup ("counts" : Str) = some (.ref ct) := by
  unfold kdF
  rw [lookup_putF, if_neg cw_ne, lookup_putF, if_neg cs_ne, lookup_putF, if_pos rfl]
theorem kdF_size (ct wt : Addr) (s : Nat) : (kdF ct wt s).lookup ("size" : Str) = some (nv s) := by
  unfold kdF
  rw [lookup_putF, if_neg sw_ne, lookup_putF, if_pos rfl]
theorem kdF_ways (ct wt : Addr) (s : Nat) : (kdF ct wt s).lookup ("_ways" : Str) = some (.ref wt) := by
  unfold kdF
  rw [lookup_putF, if_pos rfl]
theorem kdF_no (ct wt : Addr) (s : Nat) {x : Str} (h1 : ¬ x = "size") (h2 : ¬ x = "counts") (h3 : ¬ x = "_ways" := by decide +kernel) : (kdF ct wt s).lookup x = none := by
  unfold kdF
  rw [lookup_putF, if_neg h3, lookup_putF, if_neg h1, lookup_putF, if_neg h2]
  all_goals rfl
/-- how many rows of the kinds there are, for each size up to s -/
def wrow (cs : List Nat) (s : Nat) : List V := (List.range (s + 1)).map fun m => nv (kw cs m)
/-- the ways of the kinds from each one on -/
def WaysAt (H : Hp) (wt : Addr) (cs : List Nat) (s : Nat) : Prop := ∃ rs : List Addr, H wt = some (.lst (rs.map V.ref)) ∧ rs.length = cs.length + 1 ∧ ∀ (i : Nat) (r : Addr), rs[i]? = some r → H r = some (.lst (wrow (cs.drop i) s))
theorem WaysAt.mono {H H' : Hp} {wt : Addr} {cs : List Nat} {s : Nat} (h : WaysAt H wt cs s) (e : Same H H') : WaysAt H' wt cs s :=
  let ⟨rs, a, b, c⟩ := h; ⟨rs, e _ _ a, b, fun i r q => e _ _ (c i r q)⟩
theorem WaysAt.put {H : Hp} {wt p : Addr} {cs : List Nat} {s : Nat} {o : HO} {C dx : Addr} {fs : List (Str × V)} (h : WaysAt H wt cs s) (e : H p = some (.ins C dx fs)) : WaysAt (upd H p o) wt cs s :=
  let ⟨rs, a, b, c⟩ := h; ⟨rs, (upd_ne (ne_of a e (by intro z; cases z))).trans a, b, fun i r q => (upd_ne (ne_of (c i r q) e (by intro z; cases z))).trans (c i r q)⟩
/-- counts within the bounds, and a size -/
structure KOk (cs : List Nat) (s : Nat) : Prop where
  l12 : cs.length ≤ 12
  c20 : ∀ c ∈ cs, c ≤ 20
  le : s ≤ cs.sum
structure KdAt (C : Addr) (H : Hp) (p : Addr) (cs : List Nat) (s : Nat) : Prop where
  ob : ∃ dx ct wt, H p = some (.ins C dx (kdF ct wt s)) ∧ H ct = some (.tup (cs.map nv)) ∧ WaysAt H wt cs s
  ok : KOk cs s
theorem KdAt.mono {C : Addr} {H H' : Hp} {p : Addr} {cs : List Nat} {s : Nat} (h : KdAt C H p cs s) (e : Same H H') : KdAt C H' p cs s :=
  ⟨let ⟨dx, ct, wt, a, b, c⟩ := h.ob; ⟨dx, ct, wt, e _ _ a, e _ _ b, c.mono e⟩, h.ok⟩
def IsKr (H : Hp) (one : V) (cs : List Nat) (s : Nat) (rs : List Nat) : Prop := ∃ a b, one = .ref a ∧ H a = some (rowO b (rs.map nv)) ∧ IsRw cs s rs
theorem nvs_inj {a b : List Nat} (h : a.map nv = b.map nv) : a = b :=
  (List.map_inj_right (f := nv) (fun x y e => by
    have := V.int.inj e
    omega)).mp h
theorem IsKr.inj {H : Hp} {one : V} {cs : List Nat} {s : Nat} {rs rs' : List Nat} (h : IsKr H one cs s rs) (h' : IsKr H one cs s rs') : rs = rs' := by
  obtain ⟨a, b, rfl, q, _⟩ := h
  obtain ⟨a', b', e, q', _⟩ := h'
  cases e
  rw [q] at q'
  cases b <;> cases b' <;> first | exact nvs_inj (HO.lst.inj (Option.some.inj q')) | exact nvs_inj (HO.tup.inj (Option.some.inj q')) | cases q'
/-- counts as they are handed in -/
def IsCounts (H : Hp) (x : V) (cs : List Nat) : Prop := ∃ a b, x = .ref a ∧ H a = some (rowO b (cs.map nv))
def spKInit (C CB tb : Addr) : Sp := fun vs H Q E => ∃ (p dx : Addr) (x y : V), vs = [.ref p, x, y] ∧ H p = some (.ins C dx []) ∧ DtIn H x ∧ Dt H y ∧ H tb = some (TabO tb) ∧
  (∀ cs s ct wt G, IsCounts H x cs → y = nv s → KOk cs s → Same H G → G ct = some (.tup (cs.map nv)) → WaysAt G wt cs s → Q .non (upd G p (.ins C dx (kdF ct wt s)))) ∧
  (∀ G, (¬ ∃ cs s, IsCounts H x cs ∧ y = nv s ∧ KOk cs s) → Same H G → E (.ref CB) none G)
/-- the law, where the table of a def may grow -/
def spLawT (K : PySem.W.Frag) (tb : Addr) : Sp := fun vs H Q _ => ∃ (a : Addr) (ns : List Int), vs = [.ref a] ∧ SqL K H a (ns.map V.int) ∧ ns.length ≤ 63 ∧ H tb = some (TabO tb) ∧ ∀ H', H' tb = some (TabO tb) → Q (.bl true) H'
def spKMany (C : Addr) : Sp := fun vs H Q _ => ∃ (p : Addr) (cs : List Nat) (s : Nat), vs = [.ref p] ∧ KdAt C H p cs s ∧ ∀ H', Same H H' → Q (nv (kw cs s)) H'
def spKNumber (C CP : Addr) : Sp := fun vs H Q E => ∃ (p : Addr) (cs : List Nat) (s : Nat) (one : V), vs = [.ref p, one] ∧ KdAt C H p cs s ∧ DtIn H one ∧
  (∀ rs H', IsKr H one cs s rs → Same H H' → Q (nv (krk cs s rs)) H') ∧ (∀ H', (¬ ∃ rs, IsKr H one cs s rs) → Same H H' → E (.ref CP) none H')
def spKAt (C CN : Addr) : Sp := fun vs H Q E => ∃ (p : Addr) (cs : List Nat) (s : Nat) (x : V), vs = [.ref p, x] ∧ KdAt C H p cs s ∧ Dt H x ∧
  (∀ (i : Nat) q H', x = nv i → i < kw cs s → Same H H' → H q = none → H' q = some (.tup ((kun cs s i).map nv)) → Q (.ref q) H') ∧
  (∀ H', (¬ ∃ i : Nat, x = nv i ∧ i < kw cs s) → Same H H' → E (.ref CN) none H')
structure KindsB (P : Program) (w : World) (K : PySem.W.Frag) (mg : Str → Option Value) (base : Heap) (C CB tb : Addr) (l : Nat) : Prop where
  T : KdC K C
  g : mg "Kinds" = some (.ref C)
  made : ∃ f fd, Mk K C f ∧ Binds K fd ["self", "counts", "size"] [] ∧ ∃ k, k ≤ l ∧ FnOk P w K mg base (L2.CX P w) k f fd ["self", "counts", "size"] (spKInit C CB tb)
/-- whole numbers from nought on, as ints -/
theorem nvs_ints (l : List Nat) : l.map nv = (l.map Int.ofNat).map V.int := by rw [List.map_map]; rfl
theorem ofNat_sum : ∀ l : List Nat, (l.map Int.ofNat).sum = ((l.sum : Nat) : Int)
  | [] => rfl
  | a :: l => by
    rw [List.map_cons, List.sum_cons, List.sum_cons, ofNat_sum l]
    show (a : Int) + _ = _
    omega
end Dp
namespace Dp
open PySem PySem.Spec PyProof.Rows L2 DpR
/-! ### what the law's own small defs tell -/
structure LG (mg : Str → Option Value) : Prop where
  len : mg "len" = none
  range : mg "range" = none
  min : mg "min" = none
  max : mg "max" = none
def Drawn (c : Int) : Prop := 0 ≤ c ∧ c < 2147483399
def spMixed : Sp := fun vs H Q _ => ∃ c k : Int, vs = [.int c, .int k] ∧ ∀ d, Drawn d → Q (.int d) H
def spCellAt (K : PySem.W.Frag) : Sp := fun vs H Q _ => ∃ (a : Addr) (ns : List Int) (k : Nat), vs = [.ref a, nv k] ∧ SqL K H a (ns.map V.int) ∧ ∀ d, Drawn d → Q (.int d) H
def spWide : Sp := fun vs H Q _ => ∃ c b : Int, vs = [.int c, .int b] ∧ 0 < b ∧ ∀ r, 0 ≤ r → r < b → Q (.int r) H
def spSize : Sp := fun vs H Q _ => ∃ c : Int, vs = [.int c] ∧ 0 ≤ c ∧ ∀ (n m : Nat) (p : Addr) H', n ≤ 200 → m ≤ n → Same H H' → H p = none → H' p = some (.tup [nv n, nv m]) → Q (.ref p) H'
structure GX (K : PySem.W.Frag) (mg : Str → Option Value) (f : Addr) (fd : FuncData) : Prop where
  F : Fun K "_law_mixed" "_law_mixed" s_law_mixed f fd
  b : Binds K fd ["_law_cell", "_law_k"] []
  g : mg "_law_mixed" = some (.ref f)
section
variable {P : Program} {w : World} {K : PySem.W.Frag} {mg : Str → Option Value} {base : Heap}
theorem scMixed : FnScope ["_law_cell", "_law_k", "_law_mix"] ["_law_cell", "_law_k"] (defScope s_law_mixed) := ⟨rfl, rfl, rfl, by decide +kernel, rfl, by decide +kernel, by decide +kernel⟩
theorem ok_mixed {f : Addr} {fd : FuncData} (F : Fun K "_law_mixed" "_law_mixed" s_law_mixed f fd) : FnOk P w K mg base CX0 1 f fd ["_law_cell", "_law_k"] spMixed := by
  refine F.ok scMixed (fun vs H Q E h => ?_) (fun cdv A outer s H vs Q E hr h => ?_)
  · obtain ⟨c, k, rfl, _⟩ := h
    rfl
  · obtain ⟨c, k, rfl, q⟩ := h
    refine ⟨_, pss_cons (ps_set (i := 2) scMixed.nd rfl (Or.inl rfl) (pe_op op_mod (pe_op op_mul (pe_op op_add (pe_op op_add (pv 0) (pe_op op_mul pe_int (pv 1))) pe_int) pe_int) pe_int))
      (pss_one (ps_ret (pe_op op_mod (pe_op op_add (pe_op op_mul (pv 2) (pv 2)) (pe_op op_mul pe_int (pv 2))) pe_int))), ?_⟩
    have h1 := Int.emod_nonneg ((c + 7919 * k + 11) * 48271) (b := 2147483647) (by decide)
    have h2 := Int.emod_lt_of_pos ((c + 7919 * k + 11) * 48271) (b := 2147483647) (by decide)
    refine ⟨_, rfl, _, rfl, _, _, rfl, rfl, .inl ⟨by decide, by decide⟩, _, _, rfl, rfl, _, _, rfl, rfl, _, _, rfl, rfl, .inr ⟨by decide, by decide⟩, _, _, rfl, rfl, (by show (0 : Int) < 2147483647; decide), ?_⟩
    refine ⟨_, rfl, _, rfl, _, _, rfl, rfl, .inl ⟨by omega, by omega⟩, _, rfl, _, _, rfl, rfl, .inl ⟨by decide, by decide⟩, _, _, rfl, rfl, _, _, rfl, rfl, (by show (0 : Int) < 2147483399; decide), ?_⟩
    exact q _ ⟨Int.emod_nonneg _ (by decide), Int.emod_lt_of_pos _ (by decide)⟩
theorem scCellAt : FnScope ["_law_script", "_law_k", "_law_cell"] ["_law_script", "_law_k"] (defScope s_law_cell_at) := ⟨rfl, rfl, rfl, by decide +kernel, rfl, by decide +kernel, by decide +kernel⟩
theorem ok_cellAt {f fX : Addr} {fd fdX : FuncData} (F : Fun K "_law_cell_at" "_law_cell_at" s_law_cell_at f fd) (L : LG mg) (X : GX K mg fX fdX) : FnOk P w K mg base CX0 2 f fd ["_law_script", "_law_k"] (spCellAt K) := by
  have GXk : FnOk P w K mg base CX0 1 fX fdX ["_law_cell", "_law_k"] spMixed := ok_mixed X.F
  refine F.ok scCellAt (fun vs H Q E h => ?_) (fun cdv A outer s H vs Q E hr h => ?_)
  · obtain ⟨a, ns, k, rfl, _⟩ := h
    rfl
  · obtain ⟨a, ns, k, rfl, hS, q⟩ := h
    refine ⟨_, pss_cons (ps_set (i := 2) scCellAt.nd rfl (Or.inl rfl) pe_int)
      (pss_cons (ps_if (pt_cmpR op_lt (pv 1) (pe_callB call_len_seq (by rfl) L.len PySem.boot_len (pa_cons (pv 0) pa_nil)) (nomark _)) (pss_one (ps_set (i := 2) scCellAt.nd rfl (Or.inl rfl) (pe_ix ix_list (pv 0) (pv 1) (fun _ _ => rfl)))) pss_nil)
      (pss_one (ps_ret (pe_call GXk hr rfl X.g X.F.kp X.b .nil pass0 (pa_cons (pv 2) (pa_cons (pe_op op_add pe_int (pv 1)) pa_nil)))))), ?_⟩
    refine ⟨_, rfl, _, rfl, a, _, rfl, .inl hS, _, _, rfl, rfl, _, rfl, ?_⟩
    by_cases c : k < (ns.map V.int).length
    · refine if_true_of (decide_eq_true (by omega)) ?_
      obtain ⟨z, hz⟩ : ∃ z, ns[k]? = some z := ⟨ns[k]'(by simpa using c), by simp⟩
      refine ⟨_, rfl, _, rfl, a, _, _, V.int z, rfl, rfl, hS, atI_nat (by rw [List.getElem?_map, hz]; rfl), ?_⟩
      exact ⟨_, rfl, _, rfl, _, _, rfl, rfl, _, _, rfl, q⟩
    · refine if_false_of (decide_eq_false (by omega)) ?_
      exact ⟨_, rfl, _, rfl, _, _, rfl, rfl, _, _, rfl, q⟩
end
theorem cut_to {xs : List V} {k : Nat} (h : k ≤ xs.length) : cutV xs none (some (k : Int)) = xs.take k := by
  unfold cutV
  rw [HT.sIx_none, HT.sIx_nat, List.drop_zero, Nat.sub_zero, Nat.min_eq_left h]
theorem cut_from {xs : List V} {k : Nat} (h : k ≤ xs.length) : cutV xs (some (k : Int)) none = xs.drop k := by
  unfold cutV
  rw [HT.sIx_none, HT.sIx_nat, Nat.min_eq_left h]
  exact List.take_of_length_le (by rw [List.length_drop]; exact Nat.le_refl _)
theorem cut_last (xs : List V) : cutV xs (some (-1)) none = xs.drop (xs.length - 1) := by
  have e : HT.sIx xs.length 0 (some (-1)) = xs.length - 1 := by
    show (if (-1 : Int) < 0 then (-1 + (xs.length : Int)).toNat else min (-1 : Int).toNat xs.length) = _
    rw [if_pos (by decide)]
    omega
  unfold cutV
  rw [HT.sIx_none, e]
  exact List.take_of_length_le (by rw [List.length_drop]; exact Nat.le_refl _)
theorem sl_go {K : PySem.W.Frag} {H : Hp} {a : Addr} {xs : List V} {lo hi : Option Int} {Q : VK} (ha : H a = some (.tup xs)) (h : ∀ z HL, Same H HL → HL z = some (.tup (cutV xs lo hi)) → Q (.ref z) HL) : rSlA K (.ref a) lo hi H Q := by
  refine ⟨a, xs, rfl, SqT.of ha, fun ⟨e1, e2⟩ => h a H (Same.refl _) ?_, fun _ p hp => h p _ (fun b u e => by rw [upd_ne (ne_of_none e hp)]; exact e) upd_same⟩
  unfold cutV
  rw [e1, e2, List.drop_zero, Nat.sub_zero, List.take_length]
  exact ha
/-! ### the law's _law_kind: which refusal it was -/
structure KindX (K : PySem.W.Frag) (CB CP CN CC CT D : Addr) (j : Nat) : Prop where
  ex : ExcC K D
  b0 : PySem.W.kitOne K (.ref D) (.ref CB) = some (decide (j = 0))
  b1 : PySem.W.kitOne K (.ref D) (.ref CP) = some (decide (j = 1))
  b2 : PySem.W.kitOne K (.ref D) (.ref CN) = some (decide (j = 2))
  b3 : PySem.W.kitOne K (.ref D) (.ref CC) = some (decide (j = 3))
  b4 : PySem.W.kitOne K (.ref D) (.ref CT) = some (decide (j = 4))
  ve : PySem.W.kitOne K (.ref D) (.type "ValueError") = some true
def kname : Nat → Str
  | 0 => "bounds"
  | 1 => "pick"
  | 2 => "number"
  | 3 => "change"
  | _ => "text"
structure KG (mg : Str → Option Value) (CB CP CN CC CT : Addr) : Prop where
  isinstance : mg "isinstance" = none
  ve : mg "ValueError" = none
  gB : mg "NoBounds" = some (.ref CB)
  gP : mg "NoPick" = some (.ref CP)
  gN : mg "NoNumber" = some (.ref CN)
  gC : mg "NoChange" = some (.ref CC)
  gT : mg "NoText" = some (.ref CT)
def spKind (K : PySem.W.Frag) (CB CP CN CC CT : Addr) : Sp := fun vs H Q _ => ∃ (a D : Addr) (j : Nat), vs = [.ref a] ∧ H a = some (ExD (.ref D) none a) ∧ KindX K CB CP CN CC CT D j ∧ j < 5 ∧ ∀ H', Same H H' → Q (.str (kname j)) H'
def marks (j : Nat) : List V := [.bl (decide (j = 0)), .bl (decide (j = 1)), .bl (decide (j = 2)), .bl (decide (j = 3)), .bl (decide (j = 4))]
theorem marks_count {j : Nat} (h : j < 5) : ((marks j).countP fun z => eqV z (.bl true)) = 1 := by
  match j, h with
  | 0, _ => decide
  | 1, _ => decide
  | 2, _ => decide
  | 3, _ => decide
  | 4, _ => decide
theorem marks_flat (j : Nat) : (marks j).all flatV = true := rfl
theorem marks_at {j : Nat} (h : j < 5) : (marks j)[j]? = some (.bl true) ∧ ∀ (m : Nat) (z : V), m < j → (marks j)[m]? = some z → eqV z (.bl true) = false := by
  match j, h with
  | 0, _ => exact ⟨rfl, fun m z hm => absurd hm (Nat.not_lt_zero _)⟩
  | 1, _ => exact ⟨rfl, fun m z hm e => by match m, hm, e with | 0, _, e => cases e; rfl⟩
  | 2, _ => exact ⟨rfl, fun m z hm e => by match m, hm, e with | 0, _, e => cases e; rfl | 1, _, e => cases e; rfl⟩
  | 3, _ => exact ⟨rfl, fun m z hm e => by match m, hm, e with | 0, _, e => cases e; rfl | 1, _, e => cases e; rfl | 2, _, e => cases e; rfl⟩
  | 4, _ => exact ⟨rfl, fun m z hm e => by match m, hm, e with | 0, _, e => cases e; rfl | 1, _, e => cases e; rfl | 2, _, e => cases e; rfl | 3, _, e => cases e; rfl⟩
theorem kname_at {j : Nat} (h : j < 5) : ([.str "bounds", .str "pick", .str "number", .str "change", .str "text"] : List V)[j]? = some (.str (kname j)) := by
  match j, h with
  | 0, _ => rfl
  | 1, _ => rfl
  | 2, _ => rfl
  | 3, _ => rfl
  | 4, _ => rfl
section
variable {P : Program} {w : World} {K : PySem.W.Frag} {mg : Str → Option Value} {base : Heap}
theorem scKind : FnScope ["_law_e", "_law_marks"] ["_law_e"] (defScope s_law_kind) := ⟨rfl, rfl, rfl, by decide +kernel, rfl, by decide +kernel, by decide +kernel⟩
theorem ok_kind {f CB CP CN CC CT : Addr} {fd : FuncData} (F : Fun K "_law_kind" "_law_kind" s_law_kind f fd) (G : KG mg CB CP CN CC CT) : FnOk P w K mg base CX0 1 f fd ["_law_e"] (spKind K CB CP CN CC CT) := by
  refine F.ok scKind (fun vs H Q E h => ?_) (fun cdv A outer s H vs Q E hr h => ?_)
  · obtain ⟨a, D, j, rfl, _⟩ := h
    rfl
  · obtain ⟨a, D, j, rfl, ha, kx, hj, q⟩ := h
    refine ⟨_, pss_cons (ps_set (i := 1) scKind.nd rfl (Or.inl rfl) (pe_lst (pa_cons (pe_callB call_isX (by rfl) G.isinstance (by decide +kernel) (pa_cons (pv 0) (pa_cons (pe_glob (v := .ref CB) (by rfl) G.gB rfl) pa_nil)))
          (pa_cons (pe_callB call_isX (by rfl) G.isinstance (by decide +kernel) (pa_cons (pv 0) (pa_cons (pe_glob (v := .ref CP) (by rfl) G.gP rfl) pa_nil)))
          (pa_cons (pe_callB call_isX (by rfl) G.isinstance (by decide +kernel) (pa_cons (pv 0) (pa_cons (pe_glob (v := .ref CN) (by rfl) G.gN rfl) pa_nil)))
          (pa_cons (pe_callB call_isX (by rfl) G.isinstance (by decide +kernel) (pa_cons (pv 0) (pa_cons (pe_glob (v := .ref CC) (by rfl) G.gC rfl) pa_nil))) pa_nil))))))
      (pss_cons (ps_expr (pe_bm PySem.F.plainAttrs_list PySem.F.slot_list_append PySem.F.type_list_append mt_append (pv 1) (pa_cons (pe_callB call_isX (by rfl) G.isinstance (by decide +kernel) (pa_cons (pv 0) (pa_cons (pe_glob (v := .ref CT) (by rfl) G.gT rfl) pa_nil))) pa_nil)))
      (pss_cons (ps_if (PW.pt (pw_or (pt_cmpR op_ne (pe_bm PySem.F.plainAttrs_list PySem.F.slot_list_count PySem.F.type_list_count mt_countF (pv 1) (pa_cons pe_bl pa_nil)) pe_int (nomark _))
          (pw_or1 (pt_not (pt_val (pe_callB call_isX (by rfl) G.isinstance (by decide +kernel) (pa_cons (pv 0) (pa_cons (pe_bltn (v := .ty "ValueError") (by rfl) G.ve (by decide +kernel) rfl) pa_nil)))))))) (pss_one (ps_ret pe_str)) pss_nil)
      (pss_one (ps_ret (pe_ix ix_list (pe_lst (pa_cons pe_str (pa_cons pe_str (pa_cons pe_str (pa_cons pe_str (pa_cons pe_str pa_nil)))))) (pe_bm PySem.F.plainAttrs_list PySem.F.slot_list_index PySem.F.type_list_index mt_index (pv 1) (pa_cons pe_bl pa_nil)) (fun _ _ => rfl)))))), ?_⟩
    refine ⟨_, rfl, a, D, _, _, _, rfl, ha, kx.ex, .own CB, kx.b0, _, rfl, a, D, _, _, _, rfl, ha, kx.ex, .own CP, kx.b1, _, rfl, a, D, _, _, _, rfl, ha, kx.ex, .own CN, kx.b2, _, rfl, a, D, _, _, _, rfl, ha, kx.ex, .own CC, kx.b3, (by show 4 ≤ sizeLine; decide), fun l hl => ?_⟩
    have s1 : Same H (upd H l (.lst [.bl (decide (j = 0)), .bl (decide (j = 1)), .bl (decide (j = 2)), .bl (decide (j = 3))])) := same_new hl
    have nal : a ≠ l := ne_of_none ha hl
    refine ⟨_, rfl, .inl ⟨rfl, _, SqL.of upd_same⟩, _, rfl, a, D, _, _, _, rfl, s1 _ _ ha, kx.ex, .own CT, kx.b4, l, _, _, rfl, rfl, upd_same, (by show 4 < sizeLine; decide), ?_⟩
    have s2 : Same H (upd (upd H l (.lst [.bl (decide (j = 0)), .bl (decide (j = 1)), .bl (decide (j = 2)), .bl (decide (j = 3))])) l (.lst (marks j))) := fun b o e => by
      have nb : b ≠ l := ne_of_none e hl
      rw [upd_ne nb, upd_ne nb]; exact e
    obtain ⟨H2, e2⟩ : ∃ H2, H2 = upd (upd H l (.lst [.bl (decide (j = 0)), .bl (decide (j = 1)), .bl (decide (j = 2)), .bl (decide (j = 3))])) l (.lst (marks j)) := ⟨_, rfl⟩
    have hl2 : H2 l = some (.lst (marks j)) := by rw [e2]; exact upd_same
    rw [← e2] at s2
    have goalH : ∀ (X : Hp → Prop), X H2 → X (upd (upd H l (.lst [.bl (decide (j = 0)), .bl (decide (j = 1)), .bl (decide (j = 2)), .bl (decide (j = 3))])) l (.lst ([.bl (decide (j = 0)), .bl (decide (j = 1)), .bl (decide (j = 2)), .bl (decide (j = 3))] ++ [.bl (decide (j = 4))]))) := fun X h => by rw [e2] at h; exact h
    refine goalH (fun Hx => _) ?_
    refine ⟨_, rfl, .inl ⟨rfl, _, SqL.of hl2⟩, l, marks j, .bl true, rfl, rfl, SqL.of hl2, rfl, marks_flat j, ?_⟩
    rw [marks_count hj]
    refine ⟨rfl, _, rfl, ?_⟩
    refine iteNS rfl ?_
    refine ⟨_, rfl, a, D, _, _, _, rfl, s2 _ _ ha, kx.ex, .ty _, kx.ve, _, rfl, ?_⟩
    refine iteF ?_
    have ⟨at1, at2⟩ := marks_at hj
    refine ⟨(by show 5 ≤ sizeLine; decide), fun l5 hl5 => ?_⟩
    have s5 := s2.trans (same_new (o := .lst [.str "bounds", .str "pick", .str "number", .str "change", .str "text"]) hl5)
    refine ⟨_, rfl, .inl ⟨rfl, _, SqL.of ((upd_ne (ne_of_none hl2 hl5)).trans hl2)⟩, l, marks j, .bl true, j, .bl true, rfl, rfl, SqL.of ((upd_ne (ne_of_none hl2 hl5)).trans hl2), rfl, marks_flat j, at1, rfl, at2, ?_⟩
    exact ⟨l5, _, _, _, rfl, rfl, SqL.of upd_same, at_of (j := j) rfl (kname_at hj), q _ s5⟩
end
structure PeX (K : PySem.W.Frag) (mg : Str → Option Value) (PE : Addr) : Prop where
  g : mg "PickError" = some (.ref PE)
  b : PySem.W.subIn K (.ref PE) (.type "BaseException") = some true
  d : PySem.W.hasDictIn K PE = true
  t : PySem.W.typeIn K (.ref PE) = some (.type "type")
structure GK (K : PySem.W.Frag) (mg : Str → Option Value) (f : Addr) (fd : FuncData) : Prop where
  F : Fun K "_law_kind" "_law_kind" s_law_kind f fd
  b : Binds K fd ["_law_e"] []
  g : mg "_law_kind" = some (.ref f)
/-- what the law's own tries tell: what the method tells, or the name of its refusal -/
def spTry (K : PySem.W.Frag) (C CB CP CN CC CT PE : Addr) (x : Str) (sp : Sp) : Sp := fun vs H Q _ => ∃ (p dx : Addr) (fs : List (Str × V)) (arg : V), vs = [.ref p, arg] ∧ H p = some (.ins C dx fs) ∧ fs.lookup x = none ∧
  ∀ (Q2 : VK) (E2 : XK), (∀ v H1, Q v H1 → Q2 v H1) → (∀ (D : Addr) (j : Nat) H1, KindX K CB CP CN CC CT D j → j < 5 → PySem.W.subIn K (.ref D) (.ref PE) = some true → (∀ H2, Same H1 H2 → Q (.str (kname j)) H2) → E2 (.ref D) none H1) → sp [.ref p, arg] H Q2 E2
section
variable {P : Program} {w : World} {K : PySem.W.Frag} {mg : Str → Option Value} {base : Heap}
theorem scLAt : FnScope ["_law_told", "_law_number_here", "_law_found", "_law_error", "_law_e"] ["_law_told", "_law_number_here"] (defScope s_law_at) := ⟨rfl, rfl, rfl, by decide +kernel, rfl, by decide +kernel, by decide +kernel⟩
theorem ok_LAt {f fK C CB CP CN CC CT PE : Addr} {fd fdK : FuncData} {l lA : Nat} {sp : Sp} (F : Fun K "_law_at" "_law_at" s_law_at f fd) (Kd : GK K mg fK fdK) (G : KG mg CB CP CN CC CT) (T : Cls K C) (pe : PeX K mg PE)
    (mA : MtOk P w K mg base C "at" ["number"] lA sp) (hA : lA ≤ l) (h1 : 1 ≤ l) : FnOk P w K mg base CX0 (l + 1) f fd ["_law_told", "_law_number_here"] (spTry K C CB CP CN CC CT PE "at" sp) := by
  have GKk : FnOk P w K mg base CX0 1 fK fdK ["_law_e"] (spKind K CB CP CN CC CT) := ok_kind Kd.F G
  obtain ⟨fA, fdA, eA, bA, kA⟩ := mA
  refine F.ok scLAt (fun vs H Q E h => ?_) (fun cdv A outer s H vs Q E hr h => ?_)
  · obtain ⟨p, dx, fs, x, rfl, _⟩ := h
    rfl
  · obtain ⟨p, dx, fs, x, rfl, hp, hno, k⟩ := h
    refine ⟨_, pss_cons (ps_set (i := 2) scLAt.nd rfl (Or.inl rfl) pe_non)
      (pss_cons (ps_set (i := 3) scLAt.nd rfl (Or.inl rfl) pe_non)
      (pss_cons (ps_tryT (i := 4) (tb := fun W => tAsg (tMethE C "at" sp (WE W) (tVar 0) (tCons (tVar 1) tNil)) (gName 2)) (ts := fun _ => tAsg (tVar 4) (gName 3)) (Wout := fun _ _ _ _ => False) rfl rfl rfl scLAt.nd rfl rfl ⟨rfl, by decide, .inl pe.g⟩ takes0
          (fun W pn xe tk _ => pss_one (ps_set (i := 2) scLAt.nd rfl (Or.inl rfl) (by exact pe_methE (pv 0) T eA kA (hr.mono hA) bA (fun σ => passAt tk σ) (pa_cons (pv 1) pa_nil))))
          (fun a pn => pss_one (ps_set (i := 3) scLAt.nd rfl (Or.inl rfl) (by exact pv 4))))
      (pss_cons (ps_if (pt_cmp (pc_notN (pv 3))) (pss_one (ps_ret (pe_call GKk (hr.mono h1) rfl Kd.g Kd.F.kp Kd.b .nil pass0 (pa_cons (pv 3) pa_nil)))) pss_nil)
      (pss_one (ps_ret (pv 2)))))), ?_⟩
    refine ⟨_, rfl, p, dx, _, rfl, hp, hno, x, rfl, k _ _ (fun v H1 q => ?_) (fun D j H1 kx hj sN q => ?_)⟩
    · refine ⟨_, rfl, _, rfl, ?_⟩
      refine iteNS rfl ?_
      exact ⟨_, rfl, q⟩
    · refine ⟨true, PySem.W.exm_ref pe.b pe.d pe.t sN, fun _ a na => ?_, fun z => (nomatch z)⟩
      refine ⟨_, rfl, ?_⟩
      refine ⟨_, rfl, _, rfl, ?_⟩
      refine if_true_of rfl ?_
      exact ⟨_, rfl, a, D, j, rfl, upd_same, kx, hj, fun H2 s2 => q H2 ((same_new na).trans s2)⟩
theorem scLNum : FnScope ["_law_told", "_law_one", "_law_found", "_law_error", "_law_e"] ["_law_told", "_law_one"] (defScope s_law_number) := ⟨rfl, rfl, rfl, by decide +kernel, rfl, by decide +kernel, by decide +kernel⟩
theorem ok_LNum {f fK C CB CP CN CC CT PE : Addr} {fd fdK : FuncData} {l lA : Nat} {sp : Sp} (F : Fun K "_law_number" "_law_number" s_law_number f fd) (Kd : GK K mg fK fdK) (G : KG mg CB CP CN CC CT) (T : Cls K C) (pe : PeX K mg PE)
    (mA : MtOk P w K mg base C "number" ["one"] lA sp) (hA : lA ≤ l) (h1 : 1 ≤ l) : FnOk P w K mg base CX0 (l + 1) f fd ["_law_told", "_law_one"] (spTry K C CB CP CN CC CT PE "number" sp) := by
  have GKk : FnOk P w K mg base CX0 1 fK fdK ["_law_e"] (spKind K CB CP CN CC CT) := ok_kind Kd.F G
  obtain ⟨fA, fdA, eA, bA, kA⟩ := mA
  refine F.ok scLNum (fun vs H Q E h => ?_) (fun cdv A outer s H vs Q E hr h => ?_)
  · obtain ⟨p, dx, fs, x, rfl, _⟩ := h
    rfl
  · obtain ⟨p, dx, fs, x, rfl, hp, hno, k⟩ := h
    refine ⟨_, pss_cons (ps_set (i := 2) scLNum.nd rfl (Or.inl rfl) pe_non)
      (pss_cons (ps_set (i := 3) scLNum.nd rfl (Or.inl rfl) pe_non)
      (pss_cons (ps_tryT (i := 4) (tb := fun W => tAsg (tMethE C "number" sp (WE W) (tVar 0) (tCons (tVar 1) tNil)) (gName 2)) (ts := fun _ => tAsg (tVar 4) (gName 3)) (Wout := fun _ _ _ _ => False) rfl rfl rfl scLNum.nd rfl rfl ⟨rfl, by decide, .inl pe.g⟩ takes0
          (fun W pn xe tk _ => pss_one (ps_set (i := 2) scLNum.nd rfl (Or.inl rfl) (by exact pe_methE (pv 0) T eA kA (hr.mono hA) bA (fun σ => passAt tk σ) (pa_cons (pv 1) pa_nil))))
          (fun a pn => pss_one (ps_set (i := 3) scLNum.nd rfl (Or.inl rfl) (by exact pv 4))))
      (pss_cons (ps_if (pt_cmp (pc_notN (pv 3))) (pss_one (ps_ret (pe_call GKk (hr.mono h1) rfl Kd.g Kd.F.kp Kd.b .nil pass0 (pa_cons (pv 3) pa_nil)))) pss_nil)
      (pss_one (ps_ret (pv 2)))))), ?_⟩
    refine ⟨_, rfl, p, dx, _, rfl, hp, hno, x, rfl, k _ _ (fun v H1 q => ?_) (fun D j H1 kx hj sN q => ?_)⟩
    · refine ⟨_, rfl, _, rfl, ?_⟩
      refine iteNS rfl ?_
      exact ⟨_, rfl, q⟩
    · refine ⟨true, PySem.W.exm_ref pe.b pe.d pe.t sN, fun _ a na => ?_, fun z => (nomatch z)⟩
      refine ⟨_, rfl, ?_⟩
      refine ⟨_, rfl, _, rfl, ?_⟩
      refine if_true_of rfl ?_
      exact ⟨_, rfl, a, D, j, rfl, upd_same, kx, hj, fun H2 s2 => q H2 ((same_new na).trans s2)⟩
end
/-! ### a statement, and what holds behind it -/
def tCut (t : TS) : TS := fun D σ H => ∃ J : L2.St → Hp → Prop, t { nx := J, rt := D.rt, bk := D.bk, ct := D.ct } σ H ∧ ∀ σ' H', J σ' H' → D.nx σ' H'
theorem ps_cut {X : Cx} {st : Stmt} {t : TS} (h : PS X st t) : PS X st (tCut t) := by
  refine ⟨fun pins s σ H D I hh => ?_⟩
  obtain ⟨J, h1, h2⟩ := hh
  refine thn (h.run pins s σ H _ I h1) fun f s1 q => ?_
  cases f with
  | next => exact let ⟨σ', H', I', j⟩ := q; ⟨σ', H', I', h2 σ' H' j⟩
  | ret v => exact q
  | brk => exact q
  | cont => exact q
end Dp
namespace Dp
open PySem PySem.Spec PyProof.Rows L2 DpR
/-! ### all rows of few: the law's own list of all rows -/
/-- the row of a number, as items -/
def rwV (cs : List Nat) (s k : Nat) : List V := (kun cs s k).map nv
theorem kf_at {cs : List Nat} {s p : Nat} (h : p ≤ s) : kf cs s p = kw cs (s - p) := if_pos h
theorem sm_kf {cs : List Nat} {s p : Nat} (h : p ≤ s) : sm (kf cs s) (p + 1) = sm (kf cs s) p + kw cs (s - p) := by
  show sm (kf cs s) p + kf cs s p = _
  rw [kf_at h]
theorem kun_at {c : Nat} {cs : List Nat} {s p j : Nat} (hc : p ≤ c) (hs : p ≤ s) (hj : j < kw cs (s - p)) : kun (c :: cs) s (sm (kf cs s) p + j) = p :: kun cs (s - p) j := by
  have e1 := sm_kf (cs := cs) hs
  have mono := sm_mono (f := kf cs s) (show p + 1 ≤ c + 1 by omega)
  have ⟨_, y, z⟩ := pkf_spec (f := kf cs s) (k := sm (kf cs s) p + j) c (by omega)
  have ep : pkf (kf cs s) (sm (kf cs s) p + j) c = p := pkf_one y z (by omega) (by omega)
  show pkf (kf cs s) (sm (kf cs s) p + j) c :: kun cs (s - pkf (kf cs s) (sm (kf cs s) p + j) c) (sm (kf cs s) p + j - sm (kf cs s) (pkf (kf cs s) (sm (kf cs s) p + j) c)) = _
  rw [ep]
  congr 2
  omega
theorem kw_min (c : Nat) (cs : List Nat) (s : Nat) : kw (c :: cs) s = sm (kf cs s) (min c s + 1) := by
  rw [kw_cons]
  exact sm_flat (by omega) fun i h1 h2 => if_neg (by omega)
theorem kw_few : ∀ {cs : List Nat} {s : Nat}, (∀ c ∈ cs, c ≤ 5) → kw cs s ≤ 6 ^ cs.length
  | [], s, _ => by show (if s = 0 then 1 else 0) ≤ 1; split <;> decide
  | c :: cs, s, h => by
    have hc := h c List.mem_cons_self
    have q : ∀ n, sm (kf cs s) n ≤ n * 6 ^ cs.length := by
      intro n
      induction n with
      | zero => exact Nat.zero_le _
      | succ n ih =>
        show sm (kf cs s) n + kf cs s n ≤ _
        have h2 : kf cs s n ≤ 6 ^ cs.length := by
          unfold kf
          split
          · exact kw_few fun x hx => h x (List.mem_cons_of_mem _ hx)
          · exact Nat.zero_le _
        rw [Nat.succ_mul]
        omega
    have := q (c + 1)
    rw [kw_cons, List.length_cons, Nat.pow_succ]
    have m := Nat.mul_le_mul_right (6 ^ cs.length) (show c + 1 ≤ 6 by omega)
    omega
theorem few_lt {cs : List Nat} {s : Nat} (h : ∀ c ∈ cs, c ≤ 5) (l : cs.length ≤ 4) : kw cs s ≤ 1296 :=
  Nat.le_trans (kw_few h) (Nat.le_trans (Nat.pow_le_pow_right (by decide) l) (by decide))
theorem small1300 {n : Nat} (h : n ≤ 2592) : n < sizeLine := Nat.lt_of_le_of_lt h (by decide)
theorem dp_nvs {K : PySem.W.Frag} {H : Hp} {p : Addr} {cs : List Nat} (h : H p = some (.tup (cs.map nv))) : L2.Dp K H (.ref p) (dtI (cs.map Int.ofNat)) := by
  refine .tup (SqT.of h) ?_
  rw [nvs_ints]
  exact dpAll_int _
def spLRows (d : Nat) : Sp := fun vs H Q _ => ∃ (ct : Addr) (cs : List Nat) (s : Nat), vs = [.ref ct, nv s] ∧ H ct = some (.tup (cs.map nv)) ∧ cs.length < d ∧ cs.length ≤ 4 ∧ (∀ c ∈ cs, c ≤ 5) ∧
  ∀ q H', Same H H' → H q = none → RowsAt H' q (rwV cs s) (kw cs s) → Q (.ref q) H'
section
variable {P : Program} {w : World} {K : PySem.W.Frag} {mg : Str → Option Value} {base : Heap}
theorem scLRows : FnScope ["_law_counts", "_law_size", "_law_found", "_law_count", "_law_row"] ["_law_counts", "_law_size"] (defScope s_law_rows) := ⟨rfl, rfl, rfl, by decide +kernel, rfl, by decide +kernel, by decide +kernel⟩
theorem ok_lrows {f : Addr} {fd : FuncData} (F : Fun K "_law_rows" "_law_rows" s_law_rows f fd) (bF : Binds K fd ["_law_counts", "_law_size"] []) (gF : mg "_law_rows" = some (.ref f)) (L : LG mg) : ∀ d, FnOk P w K mg base CX0 d f fd ["_law_counts", "_law_size"] (spLRows d) := by
  intro d
  induction d with
  | zero =>
    refine ⟨fun vs H Q E h => ?_, fun A outer s H args us vs Q E hr he hb hv h => ?_⟩
    · obtain ⟨ct, cs, s, rfl, _⟩ := h
      rfl
    · obtain ⟨ct, cs, s, _, _, h, _⟩ := h
      exact absurd h (Nat.not_lt_zero _)
  | succ d ih =>
    refine F.ok scLRows (fun vs H Q E h => ?_) (fun cdv A outer s0 H vs Q E hr h => ?_)
    · obtain ⟨ct, cs, s, rfl, _⟩ := h
      rfl
    · obtain ⟨ct, cs, s, rfl, hct, hd, l4, c5, q⟩ := h
      refine ⟨_, pss_cons (ps_if (pt_cmpR (op_eqD hr.units) (pv 0) (pe_tup pa_nil) (nomark _)) (pss_one (ps_ret (pe_ifExp (pt_cmpR op_eq (pv 1) pe_int (nomark _)) (pe_lst (pa_cons (pe_tup pa_nil) pa_nil)) (pe_lst pa_nil)))) pss_nil)
        (pss_cons (ps_set (i := 2) scLRows.nd rfl (Or.inl rfl) (pe_lst pa_nil))
        (pss_cons (ps_for PassesOwn.never rfl (pi_range1 rfl L.range (pa_cons (pe_op op_add (pe_callB (call_min2 rfl) (by rfl) L.min (by decide +kernel) (pa_cons (pe_ix ix_tup (pv 0) pe_int (fun _ _ => rfl)) (pa_cons (pv 1) pa_nil))) pe_int) pa_nil)) (pg_name (i := 3) scLRows.nd rfl (Or.inr rfl))
          (pss_one (ps_set (i := 2) scLRows.nd rfl (Or.inl rfl) (pe_op op_cat (pv 2)
            (pe_lc (own := [("_law_row", 4)]) (g := gName 4) (tt := tYes) rfl scLRows.nd (pi_list (pe_call ih hr rfl gF F.kp bF .nil pass0 (pa_cons (pe_slice sl_tupA (pv 0) (po_some pe_int) po_none) (pa_cons (pe_op op_sub (pv 1) (pv 3)) pa_nil)))) (blkOk_by (N := ["_law_counts", "_law_size", "_law_found", "_law_count", "_law_row"]) (sc := defScope s_law_rows) (by decide +kernel)) (fun _ _ _ _ _ => pg_name (i := 4) scLRows.nd rfl (Or.inl rfl)) (fun _ _ _ _ _ => pts_nil)
              (fun _ _ _ _ _ => pe_op (r := rCatA K) op_catA (pe_tup (pa_cons (pv 3) pa_nil)) (pv 4)))))))
        (pss_one (ps_ret (pv 2))))), ?_⟩
      refine ⟨_, rfl, Nat.zero_le _, fun tz htz => ⟨dtI (cs.map Int.ofNat), dtI [], dp_nvs ((same_new htz) _ _ hct), dp_tup (ds := []) upd_same, dtI_shaped _, dtI_shaped _, _, rfl, ?_⟩⟩
      have sz := same_new (o := .tup []) htz
      cases cs with
      | nil =>
        refine if_true_of rfl ?_
        refine ⟨_, rfl, rfl, _, rfl, ?_⟩
        by_cases s0' : s = 0
        · subst s0'
          refine if_true_of rfl ?_
          refine ⟨Nat.zero_le _, fun t ht => ⟨(by show 1 ≤ sizeLine; decide), fun l hl => ?_⟩⟩
          have s1 := sz.trans (same_new (o := .tup []) ht)
          refine q l _ (s1.trans (same_new hl)) (s1.free hl) ⟨[t], upd_same, rfl, fun i r hr => ?_⟩
          cases i with
          | zero =>
            have e : t = r := Option.some.inj hr
            subst e
            exact (upd_ne (ne_of_none upd_same hl)).trans upd_same
          | succ i => simp at hr
        · refine if_false_of (decide_eq_false fun z => s0' (nv_inj (b := 0) z)) ?_
          refine ⟨Nat.zero_le _, fun l hl => q l _ (sz.trans (same_new hl)) (sz.free hl) ?_⟩
          have e : kw [] s = 0 := if_neg s0'
          rw [e]
          exact RowsAt.nil upd_same
      | cons c cs =>
        refine if_false_of rfl ?_
        refine ⟨Nat.zero_le _, fun l0 hl0 => ?_⟩
        have sl := sz.trans (same_new (o := .lst []) hl0)
        have hc5 : c ≤ 5 := c5 c List.mem_cons_self
        have em : (if (s : Int) < (c : Int) then (s : Int) else (c : Int)) + 1 = ((min c s + 1 : Nat) : Int) := by split <;> omega
        refine ⟨_, rfl, ct, _, _, nv c, rfl, rfl, SqT.of (sl _ _ hct), at_of (j := 0) rfl rfl, _, rfl, _, _, rfl, _, _, rfl, rfl, ((min c s + 1 : Nat) : Int), congrArg (fun z => [V.int z]) em, by omega, by omega, ?_⟩
        rw [Int.toNat_natCast]
        have c5' : ∀ x ∈ cs, x ≤ 5 := fun x hx => c5 x (List.mem_cons_of_mem _ hx)
        refine for_range (n := min c s + 1) (fun p σ G => ∃ (q1 : Addr) (v3 v4 : Option V), σ = [some (.ref ct), some (nv s), some (.ref q1), v3, v4] ∧ RowsAt G q1 (rwV (c :: cs) s) (sm (kf cs s) p) ∧ H q1 = none ∧ Same H G)
          ⟨l0, none, none, rfl, RowsAt.nil upd_same, sz.free hl0, sl⟩ ?_ ?_
        · rintro p σ G hp ⟨q1, v3, v4, rfl, rq1, hq1, g⟩
          have hpc : p ≤ c := by omega
          have hps : p ≤ s := by omega
          refine ⟨_, rfl, _, rfl, _, rfl, ?_⟩
          try unfold tNoPart
          refine (show rSlA K (.ref ct) (some 1) none G _ from sl_go (g _ _ hct) (fun zs G2 sS hzs => ?_))
          have hzs' : G2 zs = some (.tup (cs.map nv)) := by
            rw [hzs]
            exact congrArg (fun z => some (HO.tup z)) (cut_from (xs := (c :: cs).map nv) (k := 1) (by simp))
          refine ⟨_, rfl, _, rfl, _, _, rfl, rfl, zs, cs, s - p, (by show [V.ref zs, V.int ((s : Int) - (0 + (p : Int)))] = [V.ref zs, V.int ((s - p : Nat) : Int)]; rw [show (s : Int) - (0 + (p : Int)) = ((s - p : Nat) : Int) by omega]), hzs', by simp at hd; omega, by simp at l4; omega, c5', fun q2 G3 s3 hq2 rq2 => ?_⟩
          have few : kw cs (s - p) ≤ 1296 := few_lt c5' (by simp at l4; omega)
          have fewS : sm (kf cs s) p ≤ 1296 := by
            have h1 := sm_mono (f := kf cs s) (show p ≤ c + 1 by omega)
            have h2 := few_lt (cs := c :: cs) (s := s) c5 l4
            rw [kw_cons] at h2
            omega
          obtain ⟨xs2, hxs2, lxs2⟩ := rq2.lst
          refine ⟨q2, rfl, ⟨_, SqL.of hxs2⟩, fun D hD => lc_it (walk_list (a := q2) (xs := xs2)) (fun j G4 => RowsAt G4 D (fun k => nv p :: rwV cs (s - p) k) j ∧ Same G3 G4) ⟨RowsAt.nil upd_same, same_new hD⟩ (fun j G4 _ ⟨_, g4⟩ => SqL.of (g4 _ _ hxs2)) ?_ ?_⟩
          · rintro j y G4 G4' hj ⟨rD, g4⟩ ⟨rfl, hy⟩
            rw [lxs2] at hj
            obtain ⟨acc, r, ha, la, hr, hrt⟩ := rq2.at_ hj
            rw [hxs2] at ha
            have ea := HO.lst.inj (Option.some.inj ha)
            subst ea
            rw [hr] at hy
            have ey := Option.some.inj hy
            subst ey
            have hr4 := g4 _ _ hrt
            obtain ⟨acc2, hD2, lD2⟩ := rD.lst
            refine ⟨rfl, _, rfl, (by show 1 ≤ sizeLine; decide), fun t1 ht1 => ⟨_, rfl, ?_⟩⟩
            have ep : V.int (0 + (p : Int)) = nv p := by rw [Int.zero_add]; rfl
            have g5 : Same G4' (upd G4' t1 (.tup [V.int (0 + (p : Int))])) := same_new ht1
            have lrow : (rwV cs (s - p) j).length ≤ 4 := by
              unfold rwV
              rw [List.length_map, (kun_spec cs (s - p) j hj).1.len]
              simp at l4; omega
            refine cat_go (upd_same (H := G4') (a := t1) (o := .tup [V.int (0 + (p : Int))])) (g5 _ _ hr4) (by show 1 + (rwV cs (s - p) j).length ≤ sizeLine; exact Nat.le_of_lt (small1000 (by omega))) (fun z HL sHL hz => ?_)
            have hD3 := sHL _ _ (g5 _ _ hD2)
            refine ⟨acc2, hD3, by rw [lD2]; exact small1300 (by omega), ((rD.mono g5).mono sHL).add (c := fun k => nv p :: rwV cs (s - p) k) (by rw [hz, ep]; rfl) hD3, fun b o e => ?_⟩
            rw [upd_ne (ne_of_none e hD)]
            exact sHL _ _ (g5 _ _ (g4 _ _ e))
          · rintro G4 ⟨rD, g4⟩
            rw [lxs2] at rD
            have gAll := (sS.trans s3).trans g4
            obtain ⟨xs1, hxs1, lxs1⟩ := rq1.lst
            obtain ⟨acc2, hD2, lD2⟩ := rD.lst
            refine ⟨q1, D, xs1, acc2, rfl, rfl, gAll _ _ hxs1, hD2, (by rw [lxs1, lD2]; exact Nat.le_of_lt (small1300 (by omega))), fun q4 hq4 => ?_⟩
            refine ⟨q4, some (.int (0 + (p : Int))), _, rfl, ?_, (g.trans gAll).free hq4, (g.trans gAll).trans (same_new hq4)⟩
            rw [sm_kf hps]
            refine (rq1.mono gAll).app rD (gAll _ _ hxs1) hD2 hq4 (fun _ _ => rfl) (fun k hk => ?_)
            unfold rwV
            rw [kun_at hpc hps hk]
            rfl
        · rintro σ G ⟨q1, v3, v4, rfl, rq1, hq1, g⟩
          rw [← kw_min] at rq1
          exact ⟨_, rfl, q q1 G g hq1 rq1⟩
end
end Dp
namespace Dp
open PySem PySem.Spec PyProof.Rows L2 DpR
/-! ### all rows of few: the law -/
structure LI10 (mg : Str → Option Value) : Prop where
  isinstance : mg "isinstance" = none
  tuple : mg "tuple" = none
  list : mg "list" = none
  sum : mg "sum" = none
/-- the refusals, as the law reads them -/
structure Refs10 (K : PySem.W.Frag) (mg : Str → Option Value) (CB CP CN CC CT PE : Addr) : Prop where
  KG : KG mg CB CP CN CC CT
  pe : PeX K mg PE
  kP : KindX K CB CP CN CC CT CP 1
  kN : KindX K CB CP CN CC CT CN 2
  sP : PySem.W.subIn K (.ref CP) (.ref PE) = some true
  sN : PySem.W.subIn K (.ref CN) (.ref PE) = some true
structure Law10 (K : PySem.W.Frag) (mg : Str → Option Value) (CB CP CN CC CT PE : Addr) (fX fK fT fE fL fO : Addr) (dX dK dT dE dL dO : FuncData) : Prop where
  L : LG mg
  I : LI10 mg
  R : Refs10 K mg CB CP CN CC CT PE
  X : GX K mg fX dX
  Ka : GD K mg "_law_cell_at" s_law_cell_at ["_law_script", "_law_k"] fK dK
  Kd : GK K mg fT dT
  Ro : GD K mg "_law_rows" s_law_rows ["_law_counts", "_law_size"] fE dE
  La : GD K mg "_law_at" s_law_at ["_law_told", "_law_number_here"] fL dL
  Lo : GD K mg "_law_number" s_law_number ["_law_told", "_law_one"] fO dO
theorem dp_nvsL {K : PySem.W.Frag} {H : Hp} {p : Addr} {cs : List Nat} (h : H p = some (.lst (cs.map nv))) : L2.Dp K H (.ref p) (ltI (cs.map Int.ofNat)) := by
  refine .lst (SqL.of h) ?_
  rw [nvs_ints]
  exact dpAll_int _
theorem dtIn_nvs {H : Hp} {a : Addr} {b : Bool} {cs : List Nat} (h : H a = some (rowO b (cs.map nv))) : DtIn H (.ref a) := by
  refine ⟨.row b _ h, fun a' b' xs e h' y hy => ?_⟩
  cases e
  rw [h] at h'
  have e : cs.map nv = xs := by
    cases b <;> cases b' <;> first | exact HO.lst.inj (Option.some.inj h') | exact HO.tup.inj (Option.some.inj h') | cases h'
  rw [← e] at hy
  obtain ⟨t, _, rfl⟩ := List.mem_map.mp hy
  exact .int _
theorem same_mk2 {C x dx : Addr} {H G : Hp} {o : HO} (hx : H x = none) (hd : H dx = none) (sG : Same (upd (upd H dx (.own x)) x (.ins C dx [])) G) : Same H (upd G x o) := fun b u e => by
  have n1 : b ≠ x := ne_of_none e hx
  have n2 : b ≠ dx := ne_of_none e hd
  rw [upd_ne n1]
  exact sG _ _ (by rw [upd_ne n1, upd_ne n2]; exact e)
/-- what may be handed in and is no row: a number, a truth, None, a text; a tuple of such that is no row; the list of None -/
inductive Flt : V → Prop
  | int (i : Int) : Flt (.int i)
  | bl (b : Bool) : Flt (.bl b)
  | non : Flt .non
  | str (x : Str) : Flt (.str x)
theorem Flt.dt {H : Hp} {v : V} (h : Flt v) : Dt H v := by
  cases h with
  | int i => exact .int i
  | bl b => exact .bl b
  | non => exact .non
  | str x => exact .str x
def NoRow (cs : List Nat) (s : Nat) (xs : List V) : Prop := ¬ ∃ rs, xs = rs.map nv ∧ IsRw cs s rs
inductive BadK (cs : List Nat) (s : Nat) (H : Hp) : V → Prop
  | flat {v : V} (h : Flt v) : BadK cs s H v
  | tup {a : Addr} {xs : List V} (h : H a = some (.tup xs)) (f : ∀ y ∈ xs, Flt y) (n : NoRow cs s xs) : BadK cs s H (.ref a)
  | lnon {a : Addr} (h : H a = some (.lst [.non])) : BadK cs s H (.ref a)
theorem BadK.mono {cs : List Nat} {s : Nat} {H H' : Hp} {v : V} (h : BadK cs s H v) (e : Same H H') : BadK cs s H' v := by
  cases h with
  | flat h => exact .flat h
  | tup h f n => exact .tup (e _ _ h) f n
  | lnon h => exact .lnon (e _ _ h)
theorem BadK.put {cs : List Nat} {s : Nat} {H : Hp} {v : V} {q : Addr} {ys : List V} {o : HO} (h : BadK cs s H v) (e : H q = some (.lst ys)) (l : 2 ≤ ys.length) : BadK cs s (upd H q o) v := by
  cases h with
  | flat h => exact .flat h
  | tup h f n => exact .tup ((upd_ne (ne_of h e (by intro z; cases z))).trans h) f n
  | @lnon a h =>
    refine .lnon ((upd_ne fun z => ?_).trans h)
    rw [z, e] at h
    rw [HO.lst.inj (Option.some.inj h)] at l
    exact absurd l (by decide)
theorem BadK.no {cs : List Nat} {s : Nat} {H : Hp} {v : V} (h : BadK cs s H v) : DtIn H v ∧ ¬ ∃ rs, IsKr H v cs s rs := by
  have only : ∀ {a : Addr} {b b' : Bool} {xs ys : List V}, H a = some (rowO b xs) → H a = some (rowO b' ys) → xs = ys := fun {a b b' xs ys} h h' => by
    rw [h] at h'
    cases b <;> cases b' <;> first | exact HO.lst.inj (Option.some.inj h') | exact HO.tup.inj (Option.some.inj h') | cases h'
  cases h with
  | flat h =>
    refine ⟨⟨h.dt, fun a b xs e _ => ?_⟩, fun ⟨rs, a, b, e, _⟩ => ?_⟩ <;> (subst e; cases h)
  | @tup a xs h f n =>
    refine ⟨⟨.row true _ h, fun a' b' ys e h' y hy => ?_⟩, fun ⟨rs, a', b', e, h', q⟩ => ?_⟩
    · cases e
      rw [← only (b := true) h h'] at hy
      exact (f y hy).dt
    · cases e
      exact n ⟨rs, only (b := true) h h', q⟩
  | @lnon a h =>
    refine ⟨⟨.row false _ h, fun a' b' ys e h' y hy => ?_⟩, fun ⟨rs, a', b', e, h', q⟩ => ?_⟩
    · cases e
      rw [← only (b := false) h h', List.mem_singleton] at hy
      subst hy
      exact .non
    · cases e
      have e := only (b := false) h h'
      cases rs with
      | nil => cases e
      | cons r rs => cases e
theorem small10k {n : Nat} (h : n ≤ 10000) : n < sizeLine := Nat.lt_of_le_of_lt h (by decide)
theorem noRow_len {cs : List Nat} {s : Nat} {xs : List V} (h : xs.length ≠ cs.length) : NoRow cs s xs := fun ⟨rs, e, q⟩ => h (by rw [e, List.length_map, q.len])
theorem noRow_item {cs : List Nat} {s : Nat} {xs : List V} {y : V} (m : y ∈ xs) (h : ∀ t : Nat, y ≠ nv t) : NoRow cs s xs := fun ⟨rs, e, _⟩ => by
  rw [e] at m
  obtain ⟨t, _, e2⟩ := List.mem_map.mp m
  exact h t e2.symm
theorem noRow_swap {cs : List Nat} {s k r : Nat} {rs : List Nat} {one : V} (h : IsRw cs s rs) (hk : rs[k]? = some r) (n : one ≠ nv r) : NoRow cs s ((rs.take k).map nv ++ [one] ++ (rs.drop (k + 1)).map nv) := fun ⟨ts, e, q⟩ => by
  have m : one ∈ ts.map nv := by rw [← e]; simp
  obtain ⟨t, _, rfl⟩ := List.mem_map.mp m
  have e2 : rs.take k ++ [t] ++ rs.drop (k + 1) = ts := nvs_inj (by rw [List.map_append, List.map_append]; exact e)
  have e3 : rs = rs.take k ++ [r] ++ rs.drop (k + 1) := by
    have hl := (List.getElem?_eq_some_iff.mp hk).1
    have e4 := List.drop_eq_getElem_cons hl
    have e5 : rs[k] = r := (List.getElem?_eq_some_iff.mp hk).2
    rw [e5] at e4
    rw [List.append_assoc]
    show rs = rs.take k ++ (r :: rs.drop (k + 1))
    rw [← e4, List.take_append_drop]
  have s1 := h.sum
  have s2 := q.sum
  rw [e3] at s1
  rw [← e2] at s2
  rw [List.sum_append, List.sum_append] at s1 s2
  apply n
  have : t = r := by
    have a1 : [t].sum = t := by simp
    have a2 : [r].sum = r := by simp
    omega
  rw [this]
/-- a tuple that is no row -/
def BadT (cs : List Nat) (s : Nat) (H : Hp) (v : V) : Prop := ∃ a xs, v = .ref a ∧ H a = some (.tup xs) ∧ (∀ y ∈ xs, Flt y) ∧ NoRow cs s xs
theorem BadT.bad {cs : List Nat} {s : Nat} {H : Hp} {v : V} (h : BadT cs s H v) : BadK cs s H v := let ⟨a, xs, e, h1, h2, h3⟩ := h; by subst e; exact .tup h1 h2 h3
theorem BadT.mono {cs : List Nat} {s : Nat} {H H' : Hp} {v : V} (h : BadT cs s H v) (e : Same H H') : BadT cs s H' v := let ⟨a, xs, e', h1, h2, h3⟩ := h; ⟨a, xs, e', e _ _ h1, h2, h3⟩
theorem BadT.put {cs : List Nat} {s : Nat} {H : Hp} {v : V} {q : Addr} {ys : List V} {o : HO} (h : BadT cs s H v) (e : H q = some (.lst ys)) : BadT cs s (upd H q o) v :=
  let ⟨a, xs, e', h1, h2, h3⟩ := h; ⟨a, xs, e', (upd_ne (ne_of h1 e (by intro z; cases z))).trans h1, h2, h3⟩
theorem flt_nvs {rs : List Nat} {y : V} (h : y ∈ rs.map nv) : Flt y := by obtain ⟨t, _, rfl⟩ := List.mem_map.mp h; exact .int _
theorem nvs_at0 {xs : List Nat} {i : Nat} {y : V} (h : (xs.map nv)[i]? = some y) : ∃ c, xs[i]? = some c ∧ y = nv c := by
  rw [List.getElem?_map] at h
  cases e : xs[i]? with
  | none => rw [e] at h; cases h
  | some c => rw [e] at h; exact ⟨c, rfl, (Option.some.inj h).symm⟩
theorem cut_mem {xs : List V} {lo hi : Option Int} {y : V} (h : y ∈ cutV xs lo hi) : y ∈ xs := by
  unfold cutV at h
  exact List.mem_of_mem_drop (List.mem_of_mem_take h)
section
variable {P : Program} {w : World} {K : PySem.W.Frag} {mg : Str → Option Value} {base : Heap}
abbrev N10 : List Str := ["_law_script", "_law_k", "_law_cell", "_law_j", "_law_counts", "_law_size", "_law_told", "_law_due", "_law_place", "_law_found", "_law_handed", "_law_wrong", "_law_row", "_law_at_here", "_law_odd", "_law_more", "_law_some", "_law_one"]
theorem scLaw : FnScope N10 ["_law_script"] (defScope s_law) := ⟨rfl, rfl, rfl, by decide +kernel, rfl, by decide +kernel, by decide +kernel⟩
theorem ok_law {N CB CP CN CC CT PE tb fX fK fT fE fL fO : Addr} {dX dK dT dE dL dO : FuncData} {f : Addr} {fd : FuncData} (F : Fun K "law" "law" s_law f fd)
    (Z : Law10 K mg CB CP CN CC CT PE fX fK fT fE fL fO dX dK dT dE dL dO) (Kd : KindsB P w K mg base N CB tb 7) (Km : HasM P w K mg base N "many" [] 7 (spKMany N)) (Kn : HasM P w K mg base N "number" ["one"] 7 (spKNumber N CP)) (Ka : HasM P w K mg base N "at" ["number"] 7 (spKAt N CN)) : FnOk P w K mg base CX0 10 f fd ["_law_script"] (spLawT K tb) := by
  obtain ⟨fI, dI, mI, bI, lI, hI, kI⟩ := Kd.made
  obtain ⟨lM, hM, mM⟩ := Km
  obtain ⟨lN, hN, mN⟩ := Kn
  obtain ⟨lA, hA, mA⟩ := Ka
  have T := Kd.T
  have R := Z.R
  have kX : FnOk P w K mg base CX0 1 fX dX ["_law_cell", "_law_k"] spMixed := ok_mixed Z.X.F
  have kK : FnOk P w K mg base CX0 2 fK dK ["_law_script", "_law_k"] (spCellAt K) := ok_cellAt Z.Ka.F Z.L Z.X
  have kE : FnOk P w K mg base CX0 5 fE dE ["_law_counts", "_law_size"] (spLRows 5) := ok_lrows Z.Ro.F Z.Ro.b Z.Ro.g Z.L 5
  have kL : FnOk P w K mg base CX0 8 fL dL ["_law_told", "_law_number_here"] (spTry K N CB CP CN CC CT PE "at" (spKAt N CN)) := ok_LAt Z.La.F Z.Kd R.KG T.cl R.pe mA hA (by decide)
  have kO : FnOk P w K mg base CX0 8 fO dO ["_law_told", "_law_one"] (spTry K N CB CP CN CC CT PE "number" (spKNumber N CP)) := ok_LNum Z.Lo.F Z.Kd R.KG T.cl R.pe mN hN (by decide)
  obtain ⟨fM, fdM, eM, bM, kM⟩ := mM
  refine F.ok scLaw (fun vs H Q E h => ?_) (fun cdv A outer s H vs Q E hr h => ?_)
  · obtain ⟨a, ns, rfl, _⟩ := h
    rfl
  · obtain ⟨a, ns, rfl, hS, hlen, hTb, k⟩ := h
    have r1 : Room 1 _ := hr.mono (by decide)
    have r2 : Room 2 _ := hr.mono (by decide)
    have r5 : Room 5 _ := hr.mono (by decide)
    have r8 : Room 8 _ := hr.mono (by decide)
    have rM : Room lM _ := hr.mono (by omega)
    have rI : Room (lI + 1) _ := hr.mono (by omega)
    refine ⟨_, pss_cons (ps_for PassesOwn.never rfl (pi_range1 rfl Z.L.range (pa_cons (pe_callB (call_max2 rfl) (by rfl) Z.L.max (by decide +kernel) (pa_cons pe_int (pa_cons (pe_callB (call_min2 rfl) (by rfl) Z.L.min (by decide +kernel) (pa_cons pe_int (pa_cons (pe_callB call_len_seq (by rfl) Z.L.len PySem.boot_len (pa_cons (pv 0) pa_nil)) pa_nil))) pa_nil))) pa_nil)) (pg_name (i := 1) scLaw.nd rfl (Or.inl rfl))
        (pss_cons (ps_set (i := 2) scLaw.nd rfl (Or.inr rfl) (pe_call kK r2 rfl Z.Ka.g Z.Ka.F.kp Z.Ka.b .nil pass0 (pa_cons (pv 0) (pa_cons (pv 1) pa_nil))))
        (pss_cons (ps_set (i := 4) scLaw.nd rfl (Or.inr rfl) (pe_callTy call_tuple_of (by rfl) Z.I.tuple (by decide +kernel) (pa_cons (pe_lc (own := [("_law_j", 3)]) (g := gName 3) (tt := tYes) rfl scLaw.nd (pi_range1 rfl Z.L.range (pa_cons (pe_op op_mod (pv 2) pe_int) pa_nil)) (blkOk_by (N := N10) (sc := defScope s_law) (by decide +kernel)) (fun _ _ _ _ _ => pg_name (i := 3) scLaw.nd rfl (Or.inl rfl)) (fun _ _ _ _ _ => pts_nil)
            (fun _ _ _ _ _ => pe_op op_mod (pe_call kX r1 rfl Z.X.g Z.X.F.kp Z.X.b .nil pass0 (pa_cons (pv 2) (pa_cons (pe_op op_add pe_int (pv 3)) pa_nil))) pe_int)) pa_nil)))
        (pss_cons (ps_cut (ps_set (i := 5) scLaw.nd rfl (Or.inl rfl) (pe_op op_mod (pe_op op_fdiv (pv 2) pe_int) (pe_op op_add (pe_callB (cr_sumT rfl) (by rfl) Z.I.sum (by decide +kernel) (pa_cons (pv 4) pa_nil)) pe_int))))
        (pss_cons (ps_cut (ps_set (i := 6) scLaw.nd rfl (Or.inl rfl) (pe_make mI kI rI rfl Kd.g bI .nil passL (pa_cons (pe_ix ix_list (pe_lst (pa_cons (pe_callTy call_list_of (by rfl) Z.I.list (by decide +kernel) (pa_cons (pv 4) pa_nil)) (pa_cons (pv 4) pa_nil))) (pe_op op_mod (pe_op op_fdiv (pv 2) pe_int) pe_int) (fun _ _ => rfl)) (pa_cons (pv 5) pa_nil)))))
        (pss_cons (ps_set (i := 7) scLaw.nd rfl (Or.inl rfl) (pe_call kE r5 rfl Z.Ro.g Z.Ro.F.kp Z.Ro.b .nil pass0 (pa_cons (pv 4) (pa_cons (pv 5) pa_nil))))
        (pss_cons (ps_if (pt_cmpR op_ne (pe_meth0 (pv 6) T.cl eM kM rM bM .nil passL) (pe_callB call_len_seq (by rfl) Z.L.len PySem.boot_len (pa_cons (pv 7) pa_nil)) (nomark _)) (pss_one (ps_ret pe_bl)) pss_nil)
        (pss_cons (ps_for PassesOwn.never rfl (pi_range1 rfl Z.L.range (pa_cons (pe_callB call_len_seq (by rfl) Z.L.len PySem.boot_len (pa_cons (pv 7) pa_nil)) pa_nil)) (pg_name (i := 8) scLaw.nd rfl (Or.inl rfl))
          (pss_cons (ps_set (i := 9) scLaw.nd rfl (Or.inl rfl) (pe_call kL r8 rfl Z.La.g Z.La.F.kp Z.La.b .nil pass0 (pa_cons (pv 6) (pa_cons (pv 8) pa_nil))))
          (pss_cons (ps_if (PW.pt (pw_or (pt_not (pt_val (pe_callB call_isi (by rfl) Z.I.isinstance (by decide +kernel) (pa_cons (pv 9) (pa_cons (pe_bltn (v := .ty "tuple") (by rfl) Z.I.tuple (by decide +kernel) rfl) pa_nil))))) (pw_or1 (pt_cmpR (op_neD hr.units) (pv 9) (pe_ix ix_list (pv 7) (pv 8) (fun _ _ => rfl)) (nomark _))))) (pss_one (ps_ret pe_bl)) pss_nil)
          (pss_cons (ps_set (i := 10) scLaw.nd rfl (Or.inl rfl) (pe_callTy call_list_of (by rfl) Z.I.list (by decide +kernel) (pa_cons (pv 9) pa_nil)))
          (pss_one (ps_if (PW.pt (pw_or (pt_cmpR op_ne (pe_call kO r8 rfl Z.Lo.g Z.Lo.F.kp Z.Lo.b .nil pass0 (pa_cons (pv 6) (pa_cons (pv 9) pa_nil))) (pv 8) (nomark _)) (pw_or (pt_cmpR op_ne (pe_call kO r8 rfl Z.Lo.g Z.Lo.F.kp Z.Lo.b .nil pass0 (pa_cons (pv 6) (pa_cons (pv 10) pa_nil))) (pv 8) (nomark _))
            (pw_or1 (pt_cmpR (op_neD hr.units) (pv 10) (pe_callTy call_list_of (by rfl) Z.I.list (by decide +kernel) (pa_cons (pv 9) pa_nil)) (nomark _)))))) (pss_one (ps_ret pe_bl)) pss_nil))))))
        (pss_cons (ps_for PassesOwn.never rfl (pi_list (pe_lst (pa_cons (pe_un un_neg pe_int) (pa_cons (pe_callB call_len_seq (by rfl) Z.L.len PySem.boot_len (pa_cons (pv 7) pa_nil)) (pa_cons (pe_op op_add (pe_op op_add (pe_callB call_len_seq (by rfl) Z.L.len PySem.boot_len (pa_cons (pv 7) pa_nil)) pe_int) (pe_op op_mod (pe_op op_fdiv (pv 2) pe_int) (pe_op op_pow pe_int pe_int)))
            (pa_cons (pe_un un_neg (pe_op op_pow pe_int pe_int)) (pa_cons (pe_op op_pow pe_int pe_int) (pa_cons pe_bl (pa_cons pe_non (pa_cons pe_str (pa_cons (pe_tup (pa_cons pe_int pa_nil)) pa_nil))))))))))) (pg_name (i := 11) scLaw.nd rfl (Or.inl rfl))
          (pss_one (ps_if (pt_cmpR op_ne (pe_call kL r8 rfl Z.La.g Z.La.F.kp Z.La.b .nil pass0 (pa_cons (pv 6) (pa_cons (pv 11) pa_nil))) pe_str (nomark _)) (pss_one (ps_ret pe_bl)) pss_nil)))
        (pss_cons (ps_cut (ps_set (i := 12) scLaw.nd rfl (Or.inr rfl) (pe_ix ix_list (pv 7) (pe_op op_mod (pe_op op_fdiv (pv 2) pe_int) (pe_callB call_len_seq (by rfl) Z.L.len PySem.boot_len (pa_cons (pv 7) pa_nil))) (fun _ _ => rfl))))
        (pss_cons (ps_cut (ps_set (i := 13) scLaw.nd rfl (Or.inr rfl) (pe_op op_mod (pe_op op_fdiv (pv 2) pe_int) (pe_callB (call_max2 rfl) (by rfl) Z.L.max (by decide +kernel) (pa_cons pe_int (pa_cons (pe_callB call_len_seq (by rfl) Z.L.len PySem.boot_len (pa_cons (pv 12) pa_nil)) pa_nil))))))
        (pss_cons (ps_cut (ps_set (i := 14) scLaw.nd rfl (Or.inl rfl) (pe_lst (pa_cons pe_non (pa_cons pe_int (pa_cons pe_str (pa_cons (pe_lst (pa_cons pe_non pa_nil)) (pa_cons (pe_op op_catA (pv 12) (pe_tup (pa_cons pe_int pa_nil))) (pa_cons (pe_op op_catA (pe_tup (pa_cons pe_int pa_nil)) (pv 12)) (pa_cons (pe_op op_catA (pe_op op_catA (pv 12) (pv 12)) (pe_tup (pa_cons pe_int pa_nil))) pa_nil))))))))))
        (pss_cons (ps_cut (ps_if (pt_cmpR (op_neD hr.units) (pv 12) (pe_tup pa_nil) (nomark _))
          (pss_cons (ps_cut (ps_set (i := 15) scLaw.nd rfl (Or.inl rfl) (pe_lst (pa_cons (pe_op op_add (pe_ix ix_tup (pv 12) (pv 13) (fun _ _ => rfl)) pe_int) (pa_cons (pe_op op_sub (pe_ix ix_tup (pv 12) (pv 13) (fun _ _ => rfl)) pe_int)
              (pa_cons (pe_op op_add (pe_op op_add (pe_ix ix_tup (pv 4) (pv 13) (fun _ _ => rfl)) pe_int) (pe_op op_mod (pe_op op_fdiv (pv 2) pe_int) pe_int)) (pa_cons (pe_un un_neg pe_int) (pa_cons pe_non (pa_cons pe_bl (pa_cons pe_str pa_nil))))))))))
          (pss_one (ps_set (i := 14) scLaw.nd rfl (Or.inl rfl) (pe_op op_cat (pe_op op_cat (pv 14)
            (pe_lc (own := [("_law_one", 17)]) (g := gName 17) (tt := tYes) rfl scLaw.nd (pi_list (pv 15)) (blkOk_by (N := N10) (sc := defScope s_law) (by decide +kernel)) (fun _ _ _ _ _ => pg_name (i := 17) scLaw.nd rfl (Or.inl rfl)) (fun _ _ _ _ _ => pts_nil)
              (fun _ _ _ _ _ => pe_op (r := rCatA K) op_catA (pe_op (r := rCatA K) op_catA (pe_slice (r := rSlA K) sl_tupA (pv 12) po_none (po_some (pv 13))) (pe_tup (pa_cons (pv 17) pa_nil))) (pe_slice (r := rSlA K) sl_tupA (pv 12) (po_some (pe_op op_add (pv 13) pe_int)) po_none))))
            (pe_lst (pa_cons (pe_slice sl_tupA (pv 12) (po_some pe_int) po_none) pa_nil)))))) pss_nil))
        (pss_cons (ps_cut (ps_if (pt_cmpR op_gt (pe_callB call_len_seq (by rfl) Z.L.len PySem.boot_len (pa_cons (pv 12) pa_nil)) pe_int (nomark _))
          (pss_one (ps_expr (pe_bm PySem.F.plainAttrs_list PySem.F.slot_list_append PySem.F.type_list_append mt_append (pv 14) (pa_cons (pe_op op_catA (pe_tup (pa_cons (pe_op op_add (pe_ix ix_tup (pv 12) pe_int (fun _ _ => rfl)) pe_int) (pa_cons (pe_op op_sub (pe_op op_sub (pe_ix ix_tup (pv 12) pe_int (fun _ _ => rfl)) pe_int) (pe_ix ix_tup (pv 4) pe_int (fun _ _ => rfl))) pa_nil))) (pe_slice sl_tupA (pv 12) (po_some pe_int) po_none)) pa_nil)))) pss_nil))
        (pss_cons (ps_for PassesOwn.never rfl (pi_range1 rfl Z.L.range (pa_cons (pe_callB call_len_seq (by rfl) Z.L.len PySem.boot_len (pa_cons (pv 4) pa_nil)) pa_nil)) (pg_name (i := 3) scLaw.nd rfl (Or.inr rfl))
          (pss_cons (ps_set (i := 16) scLaw.nd rfl (Or.inl rfl) (pe_call kE r5 rfl Z.Ro.g Z.Ro.F.kp Z.Ro.b .nil pass0 (pa_cons (pe_op op_catA (pe_op op_catA (pe_slice sl_tupA (pv 4) po_none (po_some (pv 3))) (pe_tup (pa_cons (pe_op op_add (pe_ix ix_tup (pv 4) (pv 3) (fun _ _ => rfl)) pe_int) pa_nil))) (pe_slice sl_tupA (pv 4) (po_some (pe_op op_add (pv 3) pe_int)) po_none)) (pa_cons (pv 5) pa_nil))))
          (pss_one (ps_set (i := 14) scLaw.nd rfl (Or.inl rfl) (pe_op op_cat (pv 14) (pe_slice sl_list
            (pe_lc (own := [("_law_one", 17)]) (g := gName 17) rfl scLaw.nd (pi_list (pv 16)) (blkOk_by (N := N10) (sc := defScope s_law) (by decide +kernel)) (fun _ _ _ _ _ => pg_name (i := 17) scLaw.nd rfl (Or.inl rfl)) (fun _ _ _ _ _ => pts_one (pt_cmpR op_gt (pe_ix (r := rIxT K) ix_tup (pv 17) (pv 3) (fun _ _ => rfl)) (pe_ix (r := rIxT K) ix_tup (pv 4) (pv 3) (fun _ _ => rfl)) (nomark _)))
              (fun _ _ _ _ _ => pv 17)) po_none (po_some pe_int)))))))
        (pss_one (ps_for PassesOwn.never rfl (pi_list (pv 14)) (pg_name (i := 11) scLaw.nd rfl (Or.inl rfl))
          (pss_one (ps_if (pt_cmpR op_ne (pe_call kO r8 rfl Z.Lo.g Z.Lo.F.kp Z.Lo.b .nil pass0 (pa_cons (pv 6) (pa_cons (pv 11) pa_nil))) pe_str (nomark _)) (pss_one (ps_ret pe_bl)) pss_nil)))))))))))))))))))
      (pss_one (ps_ret pe_bl)), ?_⟩
    refine ⟨_, rfl, a, _, rfl, .inl hS, _, _, rfl, _, _, rfl, _, rfl, by rw [List.length_map]; (split <;> (try split) <;> omega), by rw [List.length_map]; (split <;> (try split) <;> omega), ?_⟩
    refine for_range (fun i σ H' => ∃ v1 v2 v3 v4 v5 v6 v7 v8 v9 v10 v11 v12 v13 v14 v15 v16 v17, σ = [some (.ref a), v1, v2, v3, v4, v5, v6, v7, v8, v9, v10, v11, v12, v13, v14, v15, v16, v17] ∧ Same H H') ⟨none, none, none, none, none, none, none, none, none, none, none, none, none, none, none, none, none, rfl, Same.refl _⟩ ?_ ?_
    · rintro i σ H' hi ⟨v1, v2, v3, v4, v5, v6, v7, v8, v9, v10, v11, v12, v13, v14, v15, v16, v17, rfl, sA⟩
      refine ⟨_, rfl, _, rfl, a, ns, i, (by show [V.ref a, V.int (0 + (i : Int))] = [V.ref a, V.int (i : Int)]; rw [Int.zero_add]), sA.seq hS, fun c hc => ?_⟩
      have hc0 : 0 ≤ c := hc.1
      -- counts
      have m0 := Int.emod_nonneg c (b := 5) (by decide)
      have m1 := Int.emod_lt_of_pos c (b := 5) (by decide)
      refine ⟨_, rfl, _, _, rfl, rfl, (by show (0 : Int) < 5; decide), _, rfl, by show (-(2 ^ 62) : Int) ≤ c % 5; omega, by show (c % 5 : Int) < 2 ^ 62; omega, fun D hD => lc_it walk_range (n := (c % 5).toNat) (fun j G => ∃ cs : List Nat, G D = some (.lst (cs.map nv)) ∧ cs.length = j ∧ (∀ c ∈ cs, c ≤ 4) ∧ Same H' G) ⟨[], upd_same, rfl, fun _ h => (nomatch h), same_new hD⟩ (fun j G _ _ => trivial) ?_ ?_⟩
      · rintro j y G G' hj ⟨cs, hlG, lj, c4, g⟩ ⟨rfl, rfl⟩
        refine ⟨rfl, _, rfl, _, rfl, _, _, rfl, rfl, _, _, rfl, fun d1 hd1 => ⟨_, _, rfl, rfl, (by show (0 : Int) < 5; decide), ?_⟩⟩
        obtain ⟨cn, ecn, hcn⟩ : ∃ cn : Nat, d1 % 5 = (cn : Int) ∧ cn ≤ 4 := by
          have h1 := Int.emod_nonneg d1 (b := 5) (by decide)
          have h2 := Int.emod_lt_of_pos d1 (b := 5) (by decide)
          exact ⟨(d1 % 5).toNat, by omega, by omega⟩
        refine ⟨_, hlG, (by rw [List.length_map, lj]; exact small1000 (by omega)), cs ++ [cn], ?_, by rw [List.length_append, lj]; rfl, fun x hx => ?_, fun b o e => ?_⟩
        · rw [upd_same, List.map_append]
          exact congrArg (fun z => some (HO.lst (cs.map nv ++ [V.int z]))) ecn
        · rcases List.mem_append.mp hx with h | h
          · exact c4 x h
          · rw [List.mem_singleton] at h; rw [h]; exact hcn
        · rw [upd_ne (ne_of_none e hD)]
          exact g _ _ e
      rintro G ⟨cs, hlG, lj, c4, g⟩
      have l4 : cs.length ≤ 4 := by omega
      refine ⟨D, cs.map nv, rfl, .inl ⟨SqL.of hlG, fun qc hqc => ?_⟩⟩
      have s1 := g.trans (same_new (o := .tup (cs.map nv)) hqc)
      have hqc1 : upd G qc (.tup (cs.map nv)) qc = some (.tup (cs.map nv)) := upd_same
      obtain ⟨H1, eH1⟩ : ∃ H1, H1 = upd G qc (.tup (cs.map nv)) := ⟨_, rfl⟩
      rw [← eH1] at s1 hqc1 ⊢
      have hqcI : H1 qc = some (.tup ((cs.map Int.ofNat).map V.int)) := by rw [← nvs_ints]; exact hqc1
      have esum := ofNat_sum cs
      -- size
      refine ⟨fun σ' G' => ∃ s : Nat, s ≤ cs.sum ∧ G' = H1 ∧ σ' = [some (.ref a), some (.int (0 + (i : Int))), some (.int c), v3, some (.ref qc), some (nv s), v6, v7, v8, v9, v10, v11, v12, v13, v14, v15, v16, v17], ?_, ?_⟩
      · refine ⟨_, rfl, _, _, rfl, rfl, ⟨by decide, by decide⟩, _, rfl, qc, _, rfl, SqT.of hqcI, _, _, rfl, rfl, _, _, rfl, rfl, (by show (0 : Int) < (cs.map Int.ofNat).sum + 1; omega), ?_⟩
        have h1 := Int.emod_nonneg (c / 5) (b := (cs.map Int.ofNat).sum + 1) (by omega)
        have h2 := Int.emod_lt_of_pos (c / 5) (b := (cs.map Int.ofNat).sum + 1) (by omega)
        have es : V.int (c / 5 % ((cs.map Int.ofNat).sum + 1)) = nv (c / 5 % ((cs.map Int.ofNat).sum + 1)).toNat := congrArg V.int (by omega)
        refine ⟨(c / 5 % ((cs.map Int.ofNat).sum + 1)).toNat, by omega, rfl, ?_⟩
        rw [← es]
        rfl
      rintro σ1 G1 ⟨s, hs, rfl, rfl⟩
      have ok : KOk cs s := ⟨by omega, fun x hx => by have := c4 x hx; omega, hs⟩
      -- Kinds
      refine ⟨fun σ' G' => ∃ x dx ct wt, Same G1 G' ∧ G' x = some (.ins N dx (kdF ct wt s)) ∧ KdAt N G' x cs s ∧ σ' = [some (.ref a), some (.int (0 + (i : Int))), some (.int c), v3, some (.ref qc), some (nv s), some (.ref x), v7, v8, v9, v10, v11, v12, v13, v14, v15, v16, v17], ?_, ?_⟩
      · refine ⟨_, rfl, qc, _, rfl, .inr (SqT.of hqc1), fun lc hlc => ⟨_, rfl, (by show 2 ≤ sizeLine; decide), fun ll hll => ?_⟩⟩
        have e1 := same_new (o := .lst (cs.map nv)) hlc
        have e2 := same_new (o := .lst [.ref lc, .ref qc]) hll
        obtain ⟨va, hva, mva⟩ := at_drawn [V.ref lc, .ref qc] (i := c / 100 % 2) (Int.emod_nonneg _ (by decide)) (Int.emod_lt_of_pos _ (by decide))
        obtain ⟨av, bv, rfl, hav⟩ : ∃ av bv, va = .ref av ∧ upd (upd G1 lc (.lst (cs.map nv))) ll (.lst [.ref lc, .ref qc]) av = some (rowO bv (cs.map nv)) := by
          simp only [List.mem_cons, List.not_mem_nil, or_false] at mva
          rcases mva with e | e <;> subst e
          · exact ⟨lc, false, rfl, e2 _ _ upd_same⟩
          · exact ⟨qc, true, rfl, e2 _ _ (e1 _ _ hqc1)⟩
        refine ⟨_, rfl, _, _, rfl, rfl, ⟨by decide, by decide⟩, _, _, rfl, rfl, (by show (0 : Int) < 2; decide), ll, _, _, _, rfl, rfl, SqL.of upd_same, hva, ?_⟩
        obtain ⟨HM, eHM⟩ : ∃ HM, HM = upd (upd G1 lc (.lst (cs.map nv))) ll (.lst [.ref lc, .ref qc]) := ⟨_, rfl⟩
        have sM : Same G1 HM := by rw [eHM]; exact e1.trans e2
        rw [← eHM] at hav ⊢
        have hTbM : HM tb = some (TabO tb) := sM _ _ (s1 _ _ (sA _ _ hTb))
        refine ⟨_, rfl, fun x dx nx ndx nex => ?_⟩
        have sN : Same HM (upd (upd HM dx (.own x)) x (.ins N dx [])) := fun b o e => (upd_ne (ne_of_none e nx)).trans ((upd_ne (ne_of_none e ndx)).trans e)
        refine ⟨x, dx, .ref av, nv s, rfl, upd_same, dtIn_nvs (sN _ _ hav), .int _, sN _ _ hTbM, fun cs' s' ct wt G2 hc2 e2 ok2 sG hG hWt => ⟨rfl, ?_⟩, fun G2 no _ => (no ⟨cs, s, ⟨av, bv, rfl, sN _ _ hav⟩, rfl, ok⟩).elim⟩
        have ecs : cs' = cs := by
          obtain ⟨a', b', e, h'⟩ := hc2
          cases e
          have h'' := sN _ _ hav
          rw [h''] at h'
          cases bv <;> cases b' <;> first | exact (nvs_inj (HO.lst.inj (Option.some.inj h'))).symm | exact (nvs_inj (HO.tup.inj (Option.some.inj h'))).symm | cases h'
        have ess := nv_inj e2
        subst ecs
        subst ess
        have nct : ct ≠ x := ne_of hG (sG _ _ upd_same) (by intro z; cases z)
        exact ⟨x, dx, ct, wt, sM.trans (same_mk2 nx ndx sG), upd_same, ⟨⟨dx, ct, wt, upd_same, (upd_ne nct).trans hG, hWt.put (sG _ _ upd_same)⟩, ok⟩, rfl⟩
      rintro σ2 G2 ⟨x, dx, ct, wt, s2, hx2, kd2, rfl⟩
      have nom : (kdF ct wt s).lookup ("many" : Str) = none := kdF_no _ _ _ (by decide +kernel) (by decide +kernel)
      have noa : (kdF ct wt s).lookup ("at" : Str) = none := kdF_no _ _ _ (by decide +kernel) (by decide +kernel)
      have non : (kdF ct wt s).lookup ("number" : Str) = none := kdF_no _ _ _ (by decide +kernel) (by decide +kernel)
      have c5 : ∀ x ∈ cs, x ≤ 5 := fun x hx => by have := c4 x hx; omega
      have pos : 0 < kw cs s := kw_pos hs
      have few := few_lt (s := s) c5 l4
      -- due
      refine ⟨_, rfl, _, rfl, qc, cs, s, rfl, s2 _ _ hqc1, by omega, l4, c5, fun q H3 s3 hqn rq3 => ?_⟩
      refine ⟨_, rfl, x, dx, _, rfl, s3 _ _ hx2, nom, x, cs, s, rfl, kd2.mono s3, fun H4 s4 => ?_⟩
      have s24 := s3.trans s4
      have hx4 := s24 _ _ hx2
      have kd4 := kd2.mono s24
      have hqc4 := s24 _ _ (s2 _ _ hqc1)
      have rq4 := rq3.mono s4
      have sQ : Same H H4 := (sA.trans s1).trans (s2.trans s24)
      obtain ⟨due, hrs, lrs⟩ := rq4.lst
      refine ⟨_, rfl, q, _, rfl, .inl (SqL.of hrs), rfl, _, rfl, ?_⟩
      refine iteNS (congrArg V.int (by rw [lrs])) ?_
      -- the places
      refine ⟨_, rfl, q, _, rfl, .inl (SqL.of hrs), _, rfl, by omega, by omega, ?_⟩
      rw [Int.toNat_natCast]
      refine for_range (n := due.length) (fun j σ G => ∃ v8 v9 v10, σ = [some (.ref a), some (.int (0 + (i : Int))), some (.int c), v3, some (.ref qc), some (nv s), some (.ref x), some (.ref q), v8, v9, v10, v11, v12, v13, v14, v15, v16, v17] ∧ Same H4 G) ⟨v8, v9, v10, rfl, Same.refl _⟩ ?_ ?_
      · rintro j σ G hj ⟨v8, v9, v10, rfl, g⟩
        have hjw : j < kw cs s := by omega
        have kdG := kd4.mono g
        have hxG := g _ _ hx4
        have hrsG := g _ _ hrs
        obtain ⟨rs, ers⟩ : ∃ rs, rs = kun cs s j := ⟨_, rfl⟩
        have ⟨u1, u3⟩ := kun_spec cs s j hjw
        rw [← ers] at u1 u3
        obtain ⟨due', r, hd1, ld1, hr1, hrt⟩ := (rq4.mono g).at_ (i := j) hjw
        have edue : due' = due := by rw [hrsG] at hd1; exact (HO.lst.inj (Option.some.inj hd1)).symm
        subst edue
        have hrt' : G r = some (.tup (rs.map nv)) := by rw [ers]; exact hrt
        have lrs' := u1.len
        have ej : V.int (0 + (j : Int)) = nv j := by rw [Int.zero_add]; rfl
        -- at
        refine ⟨_, rfl, _, rfl, x, dx, _, _, rfl, hxG, noa, fun Q2 E2 hq he => ⟨x, cs, s, _, rfl, kdG, .int _, fun i' fq H5 e _ s5 hqn hfq => hq _ _ ?_, fun H5 no _ => (no ⟨j, ej, hjw⟩).elim⟩⟩
        rw [ej] at e
        cases nv_inj e
        rw [← ers] at hfq
        have g5 := g.trans s5
        refine ⟨_, rfl, _, _, .type "tuple", .type "tuple", true, rfl, .ty _, .base (.tup hfq), kit_ty (by decide +kernel), _, rfl, ?_⟩
        refine iteF ?_
        refine ⟨_, rfl, _, rfl, _, rfl, q, _, _, .ref r, rfl, rfl, SqL.of (s5 _ _ hrsG), at_of (j := j) (Int.zero_add _) hr1, dtI (rs.map Int.ofNat), dtI (rs.map Int.ofNat), dp_nvs hfq, dp_nvs (s5 _ _ hrt'), dtI_shaped _, dtI_shaped _, _, rfl, ?_⟩
        rw [dtI_eqv]
        refine iteF ?_
        -- handed
        refine ⟨_, rfl, fq, _, rfl, .inr (SqT.of hfq), fun lh hlh => ?_⟩
        have s6 : Same H5 (upd H5 lh (.lst (rs.map nv))) := same_new hlh
        have pqf : IsKr (upd H5 lh (.lst (rs.map nv))) (.ref fq) cs s rs := ⟨fq, true, rfl, s6 _ _ hfq, u1⟩
        have pql : IsKr (upd H5 lh (.lst (rs.map nv))) (.ref lh) cs s rs := ⟨lh, false, rfl, upd_same, u1⟩
        have kd6 := (kdG.mono s5).mono s6
        have hx6 := s6 _ _ (s5 _ _ hxG)
        have ezn : nv (krk cs s rs) = V.int (0 + (j : Int)) := by rw [u3, ej]
        refine ⟨_, rfl, _, rfl, x, dx, _, _, rfl, hx6, non, fun Q2 E2 hq he => ⟨x, cs, s, _, rfl, kd6, dtIn_nvs (b := true) (s6 _ _ hfq), fun rs' H7 k7 s7 => hq _ _ ?_, fun H7 no _ => (no ⟨_, pqf⟩).elim⟩⟩
        cases IsKr.inj k7 pqf
        refine ⟨_, rfl, rfl, _, rfl, ?_⟩
        refine iteNS ezn ?_
        have hlh7 : H7 lh = some (.lst (rs.map nv)) := s7 _ _ upd_same
        have pql7 : IsKr H7 (.ref lh) cs s rs := ⟨lh, false, rfl, hlh7, u1⟩
        refine ⟨_, rfl, _, rfl, x, dx, _, _, rfl, s7 _ _ hx6, non, fun Q2 E2 hq he => ⟨x, cs, s, _, rfl, kd6.mono s7, dtIn_nvs (b := false) hlh7, fun rs' H8 k8 s8 => hq _ _ ?_, fun H8 no _ => (no ⟨_, pql7⟩).elim⟩⟩
        cases IsKr.inj k8 pql7
        refine ⟨_, rfl, rfl, _, rfl, ?_⟩
        refine iteNS ezn ?_
        have hfq8 := s8 _ _ (s7 _ _ (s6 _ _ hfq))
        refine ⟨_, rfl, _, rfl, fq, _, rfl, .inr (SqT.of hfq8), fun l9 hl9 => ?_⟩
        refine ⟨ltI (rs.map Int.ofNat), ltI (rs.map Int.ofNat), dp_nvsL ((same_new hl9) _ _ (s8 _ _ hlh7)), dp_nvsL upd_same, ltI_shaped _, ltI_shaped _, _, rfl, ?_⟩
        rw [ltI_eqv]
        exact iteF ⟨_, _, _, rfl, (((g5.trans s6).trans s7).trans s8).trans (same_new hl9)⟩
      · rintro σ G ⟨v8, v9, v10, rfl, g⟩
        have kdG := kd4.mono g
        have hxG := g _ _ hx4
        have hrsG := g _ _ hrs
        have p6 : (0 : Int) < 10 ^ (6 : Int).toNat := by decide
        -- what is no number
        refine ⟨_, rfl, _, rfl, q, _, rfl, .inl (SqL.of hrsG), _, rfl, q, _, rfl, .inl (SqL.of hrsG), _, _, rfl, rfl, _, rfl, _, _, rfl, rfl, ⟨by decide, by decide⟩, _, _, rfl, rfl, ⟨by decide, by decide, by decide⟩, _, _, rfl, rfl, p6, _, _, rfl, rfl, _, _, rfl, rfl, ⟨by decide, by decide, by decide⟩, _, rfl, _, _, rfl, rfl, ⟨by decide, by decide, by decide⟩, (by show 1 ≤ sizeLine; decide), fun t0 ht0 => ⟨(by show 9 ≤ sizeLine; decide), fun lw hlw => ?_⟩⟩
        have hw1 := Int.emod_nonneg (c / 81) (b := 10 ^ (6 : Int).toNat) (by decide)
        have elen : (due.length : Int) = (kw cs s : Int) := by rw [lrs]
        rw [elen]
        obtain ⟨wl, ewl⟩ : ∃ wl : List V, wl = [.int (-1), .int (kw cs s : Int), .int ((kw cs s : Int) + 1 + c / 81 % 10 ^ (6 : Int).toNat), .int (-(10 ^ (40 : Int).toNat)), .int (10 ^ (40 : Int).toNat), .bl true, .non, .str "0", .ref t0] := ⟨_, rfl⟩
        have g5 : Same G (upd (upd G t0 (.tup [.int 0])) lw (.lst wl)) := (same_new ht0).trans (by rw [ewl]; exact same_new hlw)
        obtain ⟨H5, eH5⟩ : ∃ H5, H5 = upd (upd G t0 (.tup [.int 0])) lw (.lst wl) := ⟨_, rfl⟩
        have hl5 : H5 lw = some (.lst wl) := by rw [eH5]; exact upd_same
        have ht5 : H5 t0 = some (.tup [.int 0]) := by rw [eH5, upd_ne (ne_of_none upd_same hlw)]; exact upd_same
        rw [← eH5] at g5
        have onH2 : ∀ (X : Hp → Prop), X H5 → X (upd (upd G t0 (.tup [.int 0])) lw (.lst [.int (-1), .int (kw cs s : Int), .int ((kw cs s : Int) + 1 + c / 81 % 10 ^ (6 : Int).toNat), .int (-(10 ^ (40 : Int).toNat)), .int (10 ^ (40 : Int).toNat), .bl true, .non, .str "0", .ref t0])) := fun X h => by rw [eH5, ewl] at h; exact h
        refine onH2 (fun Hx => _) ?_
        refine ⟨lw, rfl, ⟨_, SqL.of hl5⟩, for_list (K := K) (a := lw) (xs := wl) (fun j σ G2 => ∃ v11, σ = [some (.ref a), some (.int (0 + (i : Int))), some (.int c), v3, some (.ref qc), some (nv s), some (.ref x), some (.ref q), v8, v9, v10, v11, v12, v13, v14, v15, v16, v17] ∧ Same H5 G2)
          ⟨v11, rfl, Same.refl _⟩ (fun j σ G2 _ ⟨_, _, g⟩ => SqL.of (g _ _ hl5)) ?_ ?_⟩
        · rintro j y σ G2 hy ⟨v11, rfl, g6⟩
          have big : ¬ ((10 : Int) ^ (40 : Int).toNat < (kw cs s : Int)) := by
            have : (1296 : Int) ≤ 10 ^ (40 : Int).toNat := by decide
            omega
          have neg : ¬ (0 ≤ -((10 : Int) ^ (40 : Int).toNat)) := by decide
          obtain ⟨dy, hno⟩ : Dt G2 y ∧ ¬ ∃ z : Nat, y = nv z ∧ z < kw cs s := by
            have hm := List.mem_of_getElem? hy
            rw [ewl] at hm
            have no : ∀ z : Int, ¬ (0 ≤ z ∧ z < (kw cs s : Int)) → ¬ ∃ t : Nat, V.int z = nv t ∧ t < kw cs s := fun z h ⟨t, e, l⟩ => by
              have e2 : z = (t : Int) := V.int.inj e
              exact h ⟨by omega, by omega⟩
            simp only [List.mem_cons, List.not_mem_nil, or_false] at hm
            rcases hm with e | e | e | e | e | e | e | e | e <;> subst e
            · exact ⟨.int _, no _ (by omega)⟩
            · exact ⟨.int _, no _ (by omega)⟩
            · exact ⟨.int _, no _ (by omega)⟩
            · exact ⟨.int _, no _ fun h => neg h.1⟩
            · exact ⟨.int _, no _ fun h => big h.2⟩
            · exact ⟨.bl _, fun ⟨z, e, _⟩ => by cases e⟩
            · exact ⟨.non, fun ⟨z, e, _⟩ => by cases e⟩
            · exact ⟨.str _, fun ⟨z, e, _⟩ => by cases e⟩
            · exact ⟨.row true _ (g6 _ _ ht5), fun ⟨z, e, _⟩ => by cases e⟩
          refine ⟨_, rfl, _, rfl, x, dx, _, _, rfl, g6 _ _ (g5 _ _ hxG), noa, fun Q2 E2 hq he => ⟨x, cs, s, y, rfl, (kdG.mono g5).mono g6, dy, fun i' fq H6 e lt _ _ _ => (hno ⟨i', e, lt⟩).elim, fun H6 _ s6 => he _ _ _ R.kN (by decide) R.sN fun H7 s7 => ⟨rfl, _, rfl, ?_⟩⟩⟩
          exact iteNS rfl ⟨_, rfl, (g6.trans s6).trans s7⟩
        rintro σ G2 ⟨v11, rfl, g6⟩
        have s46 := (g.trans g5).trans g6
        have kdG := kd4.mono s46
        have hxG := s46 _ _ hx4
        have hrsG := s46 _ _ hrs
        have hqcG := s46 _ _ hqc4
        -- a row, and a place in it
        refine ⟨fun σ' G' => ∃ (r : Addr) (rs : List Nat), IsRw cs s rs ∧ G' r = some (.tup (rs.map nv)) ∧ G' = G2 ∧ σ' = [some (.ref a), some (.int (0 + (i : Int))), some (.int c), v3, some (.ref qc), some (nv s), some (.ref x), some (.ref q), v8, v9, v10, v11, some (.ref r), v13, v14, v15, v16, v17], ?_, ?_⟩
        · have p0 : (0 : Int) < (due.length : Int) := by omega
          have h1 := Int.emod_nonneg (c / 700) (b := (due.length : Int)) (by omega)
          have h2 := Int.emod_lt_of_pos (c / 700) p0
          obtain ⟨due', r, hd1, ld1, hr1, hrt⟩ := (rq4.mono s46).at_ (i := (c / 700 % (due.length : Int)).toNat) (by omega)
          have edue : due' = due := by rw [hrsG] at hd1; exact (HO.lst.inj (Option.some.inj hd1)).symm
          subst edue
          refine ⟨_, rfl, _, rfl, _, _, rfl, rfl, ⟨by decide, by decide⟩, _, rfl, q, _, rfl, .inl (SqL.of hrsG), _, _, rfl, rfl, p0, q, _, _, .ref r, rfl, rfl, SqL.of hrsG, at_of (j := (c / 700 % (due'.length : Int)).toNat) (by omega) hr1, ?_⟩
          exact ⟨r, _, (kun_spec cs s _ (by omega)).1, hrt, rfl, rfl⟩
        rintro σ3 G3 ⟨r, rs, hrw, hr3, rfl, rfl⟩
        have lrw := hrw.len
        refine ⟨fun σ' G' => ∃ k : Nat, (rs ≠ [] → k < rs.length) ∧ G' = G3 ∧ σ' = [some (.ref a), some (.int (0 + (i : Int))), some (.int c), v3, some (.ref qc), some (nv s), some (.ref x), some (.ref q), v8, v9, v10, v11, some (.ref r), some (nv k), v14, v15, v16, v17], ?_, ?_⟩
        · obtain ⟨m, em⟩ : ∃ m : Int, m = (if ((rs.map nv).length : Int) > 1 then ((rs.map nv).length : Int) else 1) := ⟨_, rfl⟩
          have hm0 : 0 < m ∧ (rs ≠ [] → m ≤ (rs.length : Int)) := by
            rw [em, List.length_map]
            split
            · exact ⟨by omega, fun _ => Int.le_refl _⟩
            · refine ⟨by decide, fun n => ?_⟩
              have := List.length_pos_iff.mpr n
              omega
          have h1 := Int.emod_nonneg (c / 7000) (b := m) (by omega)
          have h2 := Int.emod_lt_of_pos (c / 7000) hm0.1
          have ek : V.int (c / 7000 % m) = nv (c / 7000 % m).toNat := congrArg V.int (by omega)
          refine ⟨_, rfl, _, _, rfl, rfl, ⟨by decide, by decide⟩, _, rfl, r, _, rfl, .inr (SqT.of hr3), _, _, rfl, _, _, rfl, rfl, (by show (0 : Int) < (if ((rs.map nv).length : Int) > 1 then ((rs.map nv).length : Int) else 1); rw [← em]; exact hm0.1), ?_⟩
          refine ⟨(c / 7000 % m).toNat, fun n => by have := hm0.2 n; omega, rfl, ?_⟩
          rw [← ek, em]
          rfl
        rintro σ4 G4 ⟨kk, hkk, rfl, rfl⟩
        -- the first ones that are none
        have hrs7 : ∀ (G' : Hp), Same G4 G' → G' r = some (.tup (rs.map nv)) := fun G' e => e _ _ hr3
        have lrm : (rs.map nv).length ≤ 4 := by rw [List.length_map]; omega
        refine ⟨fun σ' G' => ∃ (qo : Addr) (ys : List V), G' qo = some (.lst ys) ∧ 7 ≤ ys.length ∧ ys.length ≤ 7 ∧ (∀ y ∈ ys, BadK cs s G' y) ∧ G4 qo = none ∧ Same G4 G' ∧ σ' = [some (.ref a), some (.int (0 + (i : Int))), some (.int c), v3, some (.ref qc), some (nv s), some (.ref x), some (.ref q), v8, v9, v10, v11, some (.ref r), some (nv kk), some (.ref qo), v15, v16, v17], ?_, ?_⟩
        · refine ⟨(by show 1 ≤ sizeLine; decide), fun ln hln => ?_⟩
          have e1 := same_new (o := .lst [.non]) hln
          refine ⟨_, rfl, (by show 1 ≤ sizeLine; decide), fun t1 ht1 => ?_⟩
          have e2 := same_new (o := .tup [.int 0]) ht1
          refine cat_go (e2 _ _ (e1 _ _ hr3)) upd_same (by show (rs.map nv).length + 1 ≤ sizeLine; exact Nat.le_of_lt (small1000 (by omega))) (fun z1 HL1 sL1 hz1 => ?_)
          refine ⟨(by show 1 ≤ sizeLine; decide), fun t2 ht2 => ?_⟩
          have e3 := same_new (o := .tup [.int 0]) ht2
          have b1 := ((e1.trans e2).trans sL1).trans e3
          refine ⟨_, rfl, cat_go upd_same (b1 _ _ hr3) (by show 1 + (rs.map nv).length ≤ sizeLine; exact Nat.le_of_lt (small1000 (by omega))) (fun z2 HL2 sL2 hz2 => ?_)⟩
          have b2 := b1.trans sL2
          refine ⟨_, rfl, _, rfl, cat_go (b2 _ _ hr3) (b2 _ _ hr3) (Nat.le_of_lt (small1000 (by omega))) (fun z3 HL3 sL3 hz3 => ?_)⟩
          refine ⟨(by show 1 ≤ sizeLine; decide), fun t4 ht4 => ?_⟩
          have e4 := same_new (o := .tup [.int 1]) ht4
          refine cat_go (e4 _ _ hz3) upd_same (by rw [List.length_append]; show (rs.map nv).length + (rs.map nv).length + 1 ≤ sizeLine; exact Nat.le_of_lt (small1000 (by omega))) (fun z4 HL4 sL4 hz4 => ?_)
          refine ⟨(by show 7 ≤ sizeLine; decide), fun lo hlo => ?_⟩
          have e5 := same_new (o := .lst [.non, .int 5, .str "", .ref ln, .ref z1, .ref z2, .ref z4]) hlo
          have c4' := e4.trans (sL4.trans e5)
          have c3 := sL3.trans c4'
          have c2' := sL2.trans c3
          have c1 := e3.trans c2'
          have b3 := b2.trans c3
          refine ⟨lo, _, upd_same, (by show 7 ≤ 7; decide), (by show 7 ≤ 7; decide), fun y hy => ?_, (b2.trans (sL3.trans (e4.trans sL4))).free hlo, b3, rfl⟩
          simp only [List.mem_cons, List.not_mem_nil, or_false] at hy
          rcases hy with e | e | e | e | e | e | e <;> subst e
          · exact .flat .non
          · exact .flat (.int _)
          · exact .flat (.str _)
          · exact .lnon ((e2.trans (sL1.trans c1)) _ _ upd_same)
          · refine .tup (c1 _ _ hz1) (fun y hy => ?_) (noRow_len (by rw [List.length_append, List.length_map]; show rs.length + 1 ≠ _; omega))
            rcases List.mem_append.mp hy with h | h
            · exact flt_nvs h
            · rw [List.mem_singleton] at h; subst h; exact .int _
          · refine .tup (c3 _ _ hz2) (fun y hy => ?_) (noRow_len (by rw [List.length_append, List.length_map]; show 1 + rs.length ≠ _; omega))
            rcases List.mem_append.mp hy with h | h
            · rw [List.mem_singleton] at h; subst h; exact .int _
            · exact flt_nvs h
          · refine .tup (e5 _ _ hz4) (fun y hy => ?_) (noRow_len (by rw [List.length_append, List.length_append, List.length_map]; show rs.length + rs.length + 1 ≠ _; omega))
            rcases List.mem_append.mp hy with h | h
            · rcases List.mem_append.mp h with h | h <;> exact flt_nvs h
            · rw [List.mem_singleton] at h; subst h; exact .int _
        rintro σ5 G5 ⟨qo, ys, hqo, ly, ly2, by_, hqn, s45, rfl⟩
        have hqc5 := s45 _ _ hqcG
        have hr5 := s45 _ _ hr3
        -- one item exchanged, or left out
        refine ⟨fun σ' G' => ∃ (qo : Addr) (ys : List V) (v15 : Option V), G' qo = some (.lst ys) ∧ 7 ≤ ys.length ∧ ys.length ≤ 20 ∧ (∀ y ∈ ys, BadK cs s G' y) ∧ G4 qo = none ∧ Same G4 G' ∧ σ' = [some (.ref a), some (.int (0 + (i : Int))), some (.int c), v3, some (.ref qc), some (nv s), some (.ref x), some (.ref q), v8, v9, v10, v11, some (.ref r), some (nv kk), some (.ref qo), v15, v16, v17], ?_, ?_⟩
        · refine ⟨_, rfl, Nat.zero_le _, fun tz htz => ⟨dtI (rs.map Int.ofNat), dtI [], dp_nvs ((same_new htz) _ _ hr5), dp_tup (ds := []) upd_same, dtI_shaped _, dtI_shaped _, _, rfl, ?_⟩⟩
          have ez := same_new (o := .tup []) htz
          by_cases rn : rs = []
          · subst rn
            exact if_false_of rfl ⟨qo, ys, v15, ez _ _ hqo, ly, by omega, fun y hy => (by_ y hy).mono ez, hqn, s45.trans ez, rfl⟩
          have en : PyData.eqv (dtI (rs.map Int.ofNat)) (dtI []) = false := by
            cases rs with
            | nil => exact absurd rfl rn
            | cons r0 rs => rfl
          rw [en]
          refine if_true_of rfl ?_
          have hkl := hkk rn
          obtain ⟨ra, er⟩ : ∃ ra, rs[kk]? = some ra := ⟨rs[kk], List.getElem?_eq_getElem hkl⟩
          obtain ⟨ca, ec⟩ : ∃ ca, cs[kk]? = some ca := ⟨cs[kk]'(by omega), List.getElem?_eq_getElem (by omega)⟩
          have rc : ra ≤ ca := hrw.le kk ca ra ec er
          have ar : atI (rs.map nv) (kk : Int) = some (nv ra) := atI_nat (by rw [List.getElem?_map, er]; rfl)
          have ac : atI (cs.map nv) (kk : Int) = some (nv ca) := atI_nat (by rw [List.getElem?_map, ec]; rfl)
          have hr6 := ez _ _ hr5
          have hqc6 := ez _ _ hqc5
          have d0 := Int.emod_nonneg (c / 100) (b := 9) (by decide)
          obtain ⟨ml, eml⟩ : ∃ ml : List V, ml = [.int ((ra : Int) + 1), .int ((ra : Int) - 1), .int ((ca : Int) + 1 + c / 100 % 9), .int (-1), .non, .bl true, .str "1"] := ⟨_, rfl⟩
          have hml : ∀ y ∈ ml, Flt y ∧ y ≠ nv ra := fun y hy => by
            rw [eml] at hy
            simp only [List.mem_cons, List.not_mem_nil, or_false] at hy
            have ni : ∀ z : Int, z ≠ (ra : Int) → V.int z ≠ nv ra := fun z h e => h (V.int.inj e)
            rcases hy with e | e | e | e | e | e | e <;> subst e
            · exact ⟨.int _, ni _ (by omega)⟩
            · exact ⟨.int _, ni _ (by omega)⟩
            · exact ⟨.int _, ni _ (by omega)⟩
            · exact ⟨.int _, ni _ (by omega)⟩
            · exact ⟨.non, fun z => (nomatch z)⟩
            · exact ⟨.bl _, fun z => (nomatch z)⟩
            · exact ⟨.str _, fun z => (nomatch z)⟩
          have lml : ml.length = 7 := by rw [eml]; rfl
          refine ⟨fun σ' G' => ∃ lm : Addr, Same (upd G5 tz (.tup [])) G' ∧ G' lm = some (.lst ml) ∧ σ' = [some (.ref a), some (.int (0 + (i : Int))), some (.int c), v3, some (.ref qc), some (nv s), some (.ref x), some (.ref q), v8, v9, v10, v11, some (.ref r), some (nv kk), some (.ref qo), some (.ref lm), v16, v17], ?_, ?_⟩
          · rw [eml]
            exact ⟨_, rfl, _, rfl, r, _, _, nv ra, rfl, rfl, SqT.of hr6, ar, _, _, rfl, rfl, _, rfl, _, rfl, r, _, _, nv ra, rfl, rfl, SqT.of hr6, ar, _, _, rfl, rfl, _, rfl, _, rfl, qc, _, _, nv ca, rfl, rfl, SqT.of hqc6, ac, _, _, rfl, rfl, _, rfl, _, _, rfl, rfl, ⟨by decide, by decide⟩, _, _, rfl, rfl, (by show (0 : Int) < 9; decide), _, _, rfl, rfl, _, rfl, (by show 7 ≤ sizeLine; decide), fun lm hlm => ⟨lm, same_new hlm, upd_same, rfl⟩⟩
          rintro σx GM ⟨lm, sM, hlmM, rfl⟩
          have s5M := ez.trans sM
          have hrM := s5M _ _ hr5
          refine ⟨_, rfl, _, rfl, lm, rfl, ⟨_, SqL.of hlmM⟩, fun D hD => lc_it (walk_list (a := lm) (xs := ml)) (fun j G => ∃ zs : List V, G D = some (.lst zs) ∧ zs.length = j ∧ (∀ y ∈ zs, BadT cs s G y) ∧ Same GM G) ⟨[], upd_same, rfl, fun _ h => (nomatch h), same_new hD⟩ (fun j G _ ⟨_, _, _, _, g⟩ => SqL.of (g _ _ hlmM)) ?_ ?_⟩
          · rintro j y G G' hj ⟨zs, hDG, lj, bz, g⟩ ⟨rfl, hy⟩
            have ⟨fy, ny⟩ := hml y (List.mem_of_getElem? hy)
            have hrG := g _ _ hrM
            refine ⟨rfl, _, rfl, _, rfl, _, rfl, ?_⟩
            refine (show rSlA K (.ref r) none (some _) G' _ from sl_go hrG (fun za HA sA' hza => ?_))
            rw [cut_to (by rw [List.length_map]; omega)] at hza
            refine ⟨_, rfl, (by show 1 ≤ sizeLine; decide), fun tw htw => ?_⟩
            refine cat_go ((same_new htw) _ _ hza) upd_same (by rw [List.length_take]; show _ + 1 ≤ sizeLine; exact Nat.le_of_lt (small1000 (by omega))) (fun zb HB sB' hzb => ?_)
            have sAB := sA'.trans ((same_new htw).trans sB')
            refine ⟨_, rfl, _, rfl, _, _, rfl, rfl, _, rfl, ?_⟩
            try unfold tNoPart
            refine (show rSlA K (.ref r) (some _) none HB _ from sl_go (sAB _ _ hrG) (fun zc HC sC' hzc => ?_))
            have hzc' : HC zc = some (.tup ((rs.map nv).drop (kk + 1))) := by
              rw [← cut_from (xs := rs.map nv) (k := kk + 1) (by rw [List.length_map]; omega)]
              exact hzc
            refine cat_go (sC' _ _ hzb) hzc' (by rw [List.length_append, List.length_take, List.length_drop]; show _ + 1 + _ ≤ sizeLine; exact Nat.le_of_lt (small1000 (by omega))) (fun ze HE sE' hze => ?_)
            have sAll := sAB.trans (sC'.trans sE')
            have hDE := sAll _ _ hDG
            refine ⟨zs, hDE, (by rw [lj]; exact small1000 (by omega)), zs ++ [.ref ze], upd_same, by rw [List.length_append, lj]; rfl, fun y2 hy2 => ?_, fun b o e => ?_⟩
            · rcases List.mem_append.mp hy2 with h | h
              · exact ((bz y2 h).mono sAll).put hDE
              · rw [List.mem_singleton] at h
                subst h
                refine BadT.put ⟨ze, _, rfl, hze, fun y3 hy3 => ?_, ?_⟩ hDE
                · rcases List.mem_append.mp hy3 with h | h
                  · rcases List.mem_append.mp h with h | h
                    · exact flt_nvs (List.mem_of_mem_take h)
                    · rw [List.mem_singleton] at h; rw [h]; exact fy
                  · exact flt_nvs (List.mem_of_mem_drop h)
                · rw [← List.map_take, ← List.map_drop]
                  exact noRow_swap hrw er ny
            · rw [upd_ne (ne_of_none e hD)]
              exact sAll _ _ (g _ _ e)
          rintro G6 ⟨zs, hDG, lj, bz, g6⟩
          rw [lml] at lj
          have s56 := s5M.trans g6
          have hqo6 := s56 _ _ hqo
          refine ⟨qo, D, ys, zs, rfl, rfl, hqo6, hDG, Nat.le_of_lt (small1000 (by omega)), fun q1 hq1 => ?_⟩
          have e1 := same_new (o := .lst (ys ++ zs)) hq1
          have hrH := e1 _ _ (s56 _ _ hr5)
          refine ⟨_, rfl, _, rfl, ?_⟩
          try unfold tNoPart
          refine (show rSlA K (.ref r) (some _) none _ _ from sl_go hrH (fun zd HD sD' hzd => ?_))
          have hzd' : HD zd = some (.tup ((rs.map nv).drop 1)) := by
            rw [← cut_from (xs := rs.map nv) (k := 1) (by rw [List.length_map]; omega)]
            exact hzd
          refine ⟨(by show 1 ≤ sizeLine; decide), fun l1 hl1 => ?_⟩
          have e2 := same_new (o := .lst [.ref zd]) hl1
          have hq1' := e2 _ _ (sD' _ _ (upd_same (H := G6) (a := q1) (o := .lst (ys ++ zs))))
          refine ⟨q1, l1, _, _, rfl, rfl, hq1', upd_same, (by rw [List.length_append]; show _ + 1 ≤ sizeLine; exact Nat.le_of_lt (small1000 (by omega))), fun q2 hq2 => ?_⟩
          have e3 := same_new (o := .lst ((ys ++ zs) ++ [.ref zd])) hq2
          have s6e := e1.trans (sD'.trans (e2.trans e3))
          refine ⟨q2, _, _, upd_same, by rw [List.length_append]; show 7 ≤ (ys ++ zs).length + 1; rw [List.length_append]; omega, by rw [List.length_append]; show (ys ++ zs).length + 1 ≤ 20; rw [List.length_append]; omega, fun y hy => ?_, (s45.trans (s56.trans (e1.trans (sD'.trans e2)))).free hq2, s45.trans (s56.trans s6e), rfl⟩
          rcases List.mem_append.mp hy with h | h
          · rcases List.mem_append.mp h with h | h
            · exact (by_ y h).mono (s56.trans s6e)
            · exact ((bz y h).mono s6e).bad
          · rw [List.mem_singleton] at h
            subst h
            refine .tup ((e2.trans e3) _ _ hzd') (fun y3 hy3 => flt_nvs (List.mem_of_mem_drop hy3)) (noRow_len (by rw [List.length_drop, List.length_map]; omega))
        rintro σ6 G6 ⟨qo2, ys2, v15', hqo2, lya, lyb, by2, hqn2, s46', rfl⟩
        have hqcA : ∀ {X : Hp}, Same G4 X → X qc = some (.tup (cs.map nv)) := fun e => e _ _ hqcG
        -- one more of the first, too few of the second
        refine ⟨fun σ' G' => ∃ (ys : List V), G' qo2 = some (.lst ys) ∧ ys.length ≤ 21 ∧ (∀ y ∈ ys, BadK cs s G' y) ∧ Same G4 G' ∧ σ' = [some (.ref a), some (.int (0 + (i : Int))), some (.int c), v3, some (.ref qc), some (nv s), some (.ref x), some (.ref q), v8, v9, v10, v11, some (.ref r), some (nv kk), some (.ref qo2), v15', v16, v17], ?_, ?_⟩
        · have hr6 := hrs7 _ s46'
          have hqc6 := hqcA s46'
          refine ⟨_, rfl, r, _, rfl, .inr (SqT.of hr6), _, _, rfl, rfl, _, rfl, ?_⟩
          by_cases l2 : rs.length ≤ 1
          · exact if_false_of (decide_eq_false (by rw [List.length_map]; omega)) ⟨ys2, hqo2, by omega, by2, s46', rfl⟩
          refine if_true_of (decide_eq_true (by rw [List.length_map]; omega)) ?_
          obtain ⟨r0, er0⟩ : ∃ r0, rs[0]? = some r0 := ⟨rs[0]'(by omega), List.getElem?_eq_getElem (by omega)⟩
          obtain ⟨q1, er1⟩ : ∃ q1, rs[1]? = some q1 := ⟨rs[1]'(by omega), List.getElem?_eq_getElem (by omega)⟩
          obtain ⟨c1, ec1⟩ : ∃ c1, cs[1]? = some c1 := ⟨cs[1]'(by omega), List.getElem?_eq_getElem (by omega)⟩
          have rc : q1 ≤ c1 := hrw.le 1 c1 q1 ec1 er1
          refine ⟨_, rfl, .inl ⟨rfl, _, SqL.of hqo2⟩, _, rfl, r, _, _, nv r0, rfl, rfl, SqT.of hr6, at_of (j := 0) rfl (by rw [List.getElem?_map, er0]; rfl), _, _, rfl, rfl, _, rfl, r, _, _, nv q1, rfl, rfl, SqT.of hr6, at_of (j := 1) rfl (by rw [List.getElem?_map, er1]; rfl), _, _, rfl, rfl, _, rfl, qc, _, _, nv c1, rfl, rfl, SqT.of hqc6, at_of (j := 1) rfl (by rw [List.getElem?_map, ec1]; rfl), _, _, rfl, rfl, (by show 2 ≤ sizeLine; decide), fun t1 ht1 => ⟨_, rfl, _, rfl, ?_⟩⟩
          have e1 := same_new (o := .tup [.int ((r0 : Int) + 1), .int ((q1 : Int) - 1 - (c1 : Int))]) ht1
          try unfold tNoPart
          refine (show rSlA K (.ref r) (some _) none _ _ from sl_go (e1 _ _ hr6) (fun zd HD sD' hzd => ?_))
          have hzd' : HD zd = some (.tup ((rs.map nv).drop 2)) := by
            rw [← cut_from (xs := rs.map nv) (k := 2) (by rw [List.length_map]; omega)]
            exact hzd
          refine cat_go (sD' _ _ (upd_same (H := G6) (a := t1) (o := .tup [.int ((r0 : Int) + 1), .int ((q1 : Int) - 1 - (c1 : Int))]))) hzd' (by rw [List.length_drop]; show 2 + _ ≤ sizeLine; exact Nat.le_of_lt (small1000 (by omega))) (fun ze HE sE' hze => ?_)
          have s6e := e1.trans (sD'.trans sE')
          have hqE := s6e _ _ hqo2
          refine ⟨qo2, ys2, .ref ze, rfl, rfl, hqE, small1000 (by omega), ys2 ++ [.ref ze], upd_same, by rw [List.length_append]; show ys2.length + 1 ≤ 21; omega, fun y hy => ?_, fun b o e => ?_, rfl⟩
          · rcases List.mem_append.mp hy with h | h
            · exact ((by2 y h).mono s6e).put hqE (by omega)
            · rw [List.mem_singleton] at h
              subst h
              refine BadK.put (.tup hze (fun y3 hy3 => ?_) (noRow_item (y := .int ((q1 : Int) - 1 - (c1 : Int))) (by simp) fun t e => ?_)) hqE (by omega)
              · rcases List.mem_append.mp hy3 with h | h
                · simp only [List.mem_cons, List.not_mem_nil, or_false] at h
                  rcases h with e | e <;> subst e <;> exact .int _
                · exact flt_nvs (List.mem_of_mem_drop h)
              · have := V.int.inj e
                omega
          · rw [upd_ne (ne_of_none e hqn2)]
            exact s6e _ _ (s46' _ _ e)
        rintro σ7 G7 ⟨ys3, hqo3, ly3, by3, s47, rfl⟩
        -- rows with one more of a kind than there is
        have lcm : (cs.map nv).length = cs.length := List.length_map _
        refine ⟨_, rfl, qc, _, rfl, .inr (SqT.of (hqcA s47)), _, rfl, by omega, by omega, ?_⟩
        rw [Int.toNat_natCast]
        refine for_range (n := (cs.map nv).length) (fun j σ G => ∃ (qo : Addr) (ys : List V) (v3 v16 : Option V), σ = [some (.ref a), some (.int (0 + (i : Int))), some (.int c), v3, some (.ref qc), some (nv s), some (.ref x), some (.ref q), v8, v9, v10, v11, some (.ref r), some (nv kk), some (.ref qo), v15', v16, v17] ∧ G qo = some (.lst ys) ∧ ys.length ≤ 21 + 1296 * j ∧ (∀ y ∈ ys, BadK cs s G y) ∧ Same G4 G) ⟨qo2, ys3, v3, v16, rfl, hqo3, ly3, by3, s47⟩ ?_ ?_
        · rintro j σ G8 hj ⟨qo, ys, v3, v16, rfl, hqo, ly, bys, s48⟩
          rw [lcm] at hj
          obtain ⟨cj, ecj⟩ : ∃ cj, cs[j]? = some cj := ⟨cs[j], List.getElem?_eq_getElem hj⟩
          have acj : atI (cs.map nv) (0 + (j : Int)) = some (nv cj) := at_of (j := j) (Int.zero_add _) (by rw [List.getElem?_map, ecj]; rfl)
          obtain ⟨cs', ecs'⟩ : ∃ cs' : List Nat, cs' = cs.take j ++ [cj + 1] ++ cs.drop (j + 1) := ⟨_, rfl⟩
          have lcs' : cs'.length = cs.length := by
            rw [ecs', List.length_append, List.length_append, List.length_take, List.length_drop]
            show min j cs.length + 1 + (cs.length - (j + 1)) = cs.length
            omega
          have c5' : ∀ y ∈ cs', y ≤ 5 := fun y hy => by
            rw [ecs'] at hy
            rcases List.mem_append.mp hy with h | h
            · rcases List.mem_append.mp h with h | h
              · exact c5 y (List.mem_of_mem_take h)
              · rw [List.mem_singleton] at h
                have := c4 cj (List.mem_of_getElem? ecj)
                omega
            · exact c5 y (List.mem_of_mem_drop h)
          have few' := few_lt (s := s) c5' (by omega)
          refine ⟨_, rfl, _, rfl, _, rfl, ?_⟩
          refine (show rSlA K (.ref qc) none (some _) G8 _ from sl_go (hqcA s48) (fun za HA sA' hza => ?_))
          rw [Int.zero_add, cut_to (by omega)] at hza
          refine ⟨_, rfl, _, rfl, qc, _, _, nv cj, rfl, rfl, SqT.of (hqcA (s48.trans sA')), acj, _, _, rfl, rfl, (by show 1 ≤ sizeLine; decide), fun tw htw => ?_⟩
          refine cat_go ((same_new htw) _ _ hza) upd_same (by rw [List.length_take]; show _ + 1 ≤ sizeLine; exact Nat.le_of_lt (small1000 (by omega))) (fun zb HB sB' hzb => ?_)
          have sAB := sA'.trans ((same_new htw).trans sB')
          refine ⟨_, rfl, _, rfl, _, _, rfl, rfl, _, rfl, ?_⟩
          try unfold tNoPart
          refine (show rSlA K (.ref qc) (some _) none HB _ from sl_go (hqcA (s48.trans sAB)) (fun zc HC sC' hzc => ?_))
          have hzc' : HC zc = some (.tup ((cs.map nv).drop (j + 1))) := by
            rw [← cut_from (xs := cs.map nv) (k := j + 1) (by omega)]
            rw [Int.zero_add] at hzc
            exact hzc
          refine cat_go (sC' _ _ hzb) hzc' (by rw [List.length_append, List.length_take, List.length_drop]; show _ + 1 + _ ≤ sizeLine; exact Nat.le_of_lt (small1000 (by omega))) (fun ze HE sE' hze => ?_)
          have sAll := sAB.trans (sC'.trans sE')
          have hze' : HE ze = some (.tup (cs'.map nv)) := by
            rw [hze, ecs', List.map_append, List.map_append, List.map_take, List.map_drop]
            rfl
          refine ⟨_, rfl, ze, cs', s, rfl, hze', by omega, by omega, c5', fun q2 G9 s9 hq2 rq2 => ?_⟩
          have s8to9 := sAll.trans s9
          obtain ⟨xs2, hxs2, lxs2⟩ := rq2.lst
          refine ⟨_, rfl, _, rfl, q2, rfl, ⟨_, SqL.of hxs2⟩, fun D hD => lc_it (walk_list (a := q2) (xs := xs2)) (fun m G => ∃ zs : List V, G D = some (.lst zs) ∧ zs.length ≤ m ∧ (∀ y ∈ zs, BadT cs s G y) ∧ Same G9 G) ⟨[], upd_same, Nat.le_refl _, fun _ h => (nomatch h), same_new hD⟩ (fun m G _ ⟨_, _, _, _, g⟩ => SqL.of (g _ _ hxs2)) ?_ ?_⟩
          · rintro m y G G' hm ⟨zs, hDG, lz, bz, g⟩ ⟨rfl, hy⟩
            rw [lxs2] at hm
            obtain ⟨acc, rr, ha, la, hrr, hrrt⟩ := rq2.at_ hm
            rw [hxs2] at ha
            have ea := HO.lst.inj (Option.some.inj ha)
            subst ea
            rw [hrr] at hy
            have ey := Option.some.inj hy
            subst ey
            have hrG := g _ _ hrrt
            have ⟨u1, _⟩ := kun_spec cs' s m hm
            have lu := u1.len
            obtain ⟨t, et⟩ : ∃ t, (kun cs' s m)[j]? = some t := ⟨(kun cs' s m)[j]'(by omega), List.getElem?_eq_getElem (by omega)⟩
            have atj : atI (rwV cs' s m) (0 + (j : Int)) = some (nv t) := at_of (j := j) (Int.zero_add _) (by unfold rwV; rw [List.getElem?_map, et]; rfl)
            refine ⟨rfl, _, rfl, _, rfl, rr, _, _, nv t, rfl, rfl, SqT.of hrG, atj, _, rfl, _, rfl, qc, _, _, nv cj, rfl, rfl, SqT.of (hqcA ((s48.trans s8to9).trans g)), acj, _, _, rfl, rfl, _, rfl, ?_⟩
            by_cases gt : cj < t
            · refine if_true_of (decide_eq_true (by omega)) ?_
              refine ⟨_, rfl, zs, hDG, small10k (by omega), zs ++ [.ref rr], upd_same, by rw [List.length_append]; show zs.length + 1 ≤ m + 1; omega, fun y2 hy2 => ?_, fun b o e => ?_⟩
              · rcases List.mem_append.mp hy2 with h | h
                · exact (bz y2 h).put hDG
                · rw [List.mem_singleton] at h
                  subst h
                  refine BadT.put ⟨rr, _, rfl, hrG, fun y3 hy3 => flt_nvs hy3, fun ⟨rs', e, qq⟩ => ?_⟩ hDG
                  have e2 := nvs_inj e
                  have := qq.le j cj t ecj (by rw [← e2]; exact et)
                  omega
              · rw [upd_ne (ne_of_none e hD)]
                exact g _ _ e
            · exact if_false_of (decide_eq_false (by omega)) ⟨zs, hDG, by omega, bz, g⟩
          rintro G10 ⟨zs, hDG, lz, bz, g10⟩
          rw [lxs2] at lz
          have s8to10 := s8to9.trans g10
          refine ⟨_, rfl, ?_⟩
          try unfold tNoPart
          refine (show rSlL K (.ref D) none (some _) G10 _ from ⟨D, zs, rfl, SqL.of hDG, fun ls hls => ?_⟩)
          have lcut := cutV_length zs none (some 2)
          have e1 := same_new (o := .lst (cutV zs none (some 2))) hls
          refine ⟨qo, ls, ys, _, rfl, rfl, e1 _ _ (s8to10 _ _ hqo), upd_same, Nat.le_of_lt (small10k (by omega)), fun q3 hq3 => ?_⟩
          have e2 := same_new (o := .lst (ys ++ cutV zs none (some 2))) hq3
          refine ⟨q3, ys ++ cutV zs none (some 2), some (.int (0 + (j : Int))), _, rfl, upd_same, by rw [List.length_append]; omega, fun y hy => ?_, s48.trans (s8to10.trans (e1.trans e2))⟩
          rcases List.mem_append.mp hy with h | h
          · exact (bys y h).mono (s8to10.trans (e1.trans e2))
          · exact ((bz y (cut_mem h)).mono (e1.trans e2)).bad
        rintro σ G8 ⟨qo, ys, v3', v16', rfl, hqo, ly, bys, s48⟩
        have s8 := s46.trans s48
        refine ⟨_, rfl, qo, rfl, ⟨_, SqL.of hqo⟩, for_list (K := K) (a := qo) (xs := ys) (fun j σ G2 => ∃ v11, σ = [some (.ref a), some (.int (0 + (i : Int))), some (.int c), v3', some (.ref qc), some (nv s), some (.ref x), some (.ref q), v8, v9, v10, v11, some (.ref r), some (nv kk), some (.ref qo), v15', v16', v17] ∧ Same G8 G2)
          ⟨v11, rfl, Same.refl _⟩ (fun j σ G2 _ ⟨_, _, g⟩ => SqL.of (g _ _ hqo)) ?_ ?_⟩
        · rintro j y σ G2 hy ⟨v11, rfl, g6⟩
          have ⟨dy, hno⟩ := ((bys y (List.mem_of_getElem? hy)).mono g6).no
          refine ⟨_, rfl, _, rfl, x, dx, _, _, rfl, g6 _ _ (s8 _ _ hx4), non, fun Q2 E2 hq he => ⟨x, cs, s, y, rfl, (kd4.mono s8).mono g6, dy, fun rs' H7 k7 _ => (hno ⟨rs', k7⟩).elim, fun H6 _ s6 => he _ _ _ R.kP (by decide) R.sP fun H7 s7 => ⟨rfl, _, rfl, ?_⟩⟩⟩
          exact iteNS rfl ⟨_, rfl, (g6.trans s6).trans s7⟩
        rintro σ G2 ⟨v11, rfl, g6⟩
        exact ⟨_, _, _, _, _, _, _, _, _, _, _, _, _, _, _, _, _, rfl, sQ.trans (s8.trans g6)⟩
    · rintro σ H' ⟨v1, v2, v3, v4, v5, v6, v7, v8, v9, v10, v11, v12, v13, v14, v15, v16, v17, rfl, sA⟩
      exact k H' (sA _ _ hTb)
end
end Dp
namespace Dp
open PySem PySem.Spec PyProof.Rows L2 DpR
section
variable {P : Program} {w : World} {K : PySem.W.Frag} {mg : Str → Option Value} {base : Heap}
/-! ### is_whole -/
theorem scWhole : FnScope ["asked", "low", "high"] ["asked", "low", "high"] (defScope s_is_whole) := ⟨rfl, rfl, rfl, by decide +kernel, rfl, by decide +kernel, by decide +kernel⟩
theorem ok_whole {f : Addr} {fd : FuncData} (F : Fun K "is_whole" "is_whole" s_is_whole f fd) (G : GlbW mg) : FnOk P w K mg base CX0 1 f fd ["asked", "low", "high"] spWhole := by
  refine F.ok scWhole (fun vs H Q E h => ?_) (fun cdv A outer s H vs Q E hr h => ?_)
  · obtain ⟨x, lo, hi, rfl, _⟩ := h
    rfl
  · obtain ⟨x, lo, hi, rfl, hx, q⟩ := h
    refine ⟨_, pss_one (ps_ret (pe_and (pe_cmpR op_eqTy (pe_callTy call_type1 (by rfl) G.type (by decide +kernel) (pa_cons (pv 0) pa_nil)) (pe_bltn (v := .ty "int") (by rfl) G.int (by decide +kernel) rfl) (nomark _))
      (pe_one (pe_chain op_le op_le (pv 1) (pv 0) (pv 2))))), ?_⟩
    obtain ⟨T, ty, hk, hT⟩ := hx.tyB (K := K)
    refine ⟨x, rfl, x, T, rfl, ty, T, "int", rfl, rfl, hk, by decide +kernel, decide (T = "int"), rfl, ?_⟩
    by_cases c : T = "int"
    · obtain ⟨i, rfl⟩ := hT.mp c
      refine if_true_of (decide_eq_true c) ?_
      refine ⟨_, rfl, _, rfl, lo, i, rfl, rfl, decide (lo ≤ i), rfl, ?_⟩
      by_cases c1 : lo ≤ i
      · refine if_true_of (decide_eq_true c1) ?_
        refine ⟨_, rfl, i, hi, rfl, rfl, ?_⟩
        have e : wholeV (.int i) lo hi = decide (i ≤ hi) := by
          show (decide (lo ≤ i) && decide (i ≤ hi)) = decide (i ≤ hi)
          rw [decide_eq_true c1, Bool.true_and]
        show Q (.bl (decide (i ≤ hi))) H
        rw [← e]
        exact q
      · refine if_false_of (decide_eq_false c1) ?_
        have e : wholeV (.int i) lo hi = false := by
          show (decide (lo ≤ i) && decide (i ≤ hi)) = false
          rw [decide_eq_false c1, Bool.false_and]
        rw [← e]
        exact q
    · refine if_false_of (decide_eq_false c) ?_
      have e : wholeV x lo hi = false := by
        cases x with
        | int i => exact absurd (hT.mpr ⟨i, rfl⟩) c
        | _ => rfl
      rw [← e]
      exact q
structure GW (K : PySem.W.Frag) (mg : Str → Option Value) (f : Addr) (fd : FuncData) : Prop where
  F : Fun K "is_whole" "is_whole" s_is_whole f fd
  b : Binds K fd ["asked", "low", "high"] []
  g : mg "is_whole" = some (.ref f)
end
/-! ### is_whole, called within a generator expression: it changes nothing -/
def wholeU (x : Value) (lo hi : Int) : Bool := match x with
  | .int i _ => decide (lo ≤ i) && decide (i ≤ hi)
  | _ => false
theorem whole_rel {x : V} {u : Value} (r : RelV x u) (lo hi : Int) : wholeU u lo hi = wholeV x lo hi := by
  cases x with
  | int i => obtain ⟨t, rfl⟩ := r; rfl
  | str z => obtain ⟨t, rfl⟩ := r; rfl
  | _ => first | (cases r; rfl) | (obtain ⟨t, rfl⟩ := r; rfl) | (obtain ⟨t, e⟩ := r; cases e; rfl)
section
variable {P : Program} {w : World} {K : PySem.W.Frag} {mg : Str → Option Value} {base : Heap}
theorem whole_quiet {f : Addr} {fd : FuncData} {A : Around} {E : Value → Shared → Prop} {s : Shared} {x : Value} {T : String} {lo hi : Int} {t u : Tok} (F : Fun K "is_whole" "is_whole" s_is_whole f fd) (B : Binds K fd ["asked", "low", "high"] []) (G : GlbW mg)
    (M : L2.Mod K mg base) (hA : A.handled = none) (hd : A.depth + 8 < recursionLimit) (hk : ∀ b o, base.get? b = some o → s.heap.get? b = some o)
    (hx : s.TypeIs x T) (hT : PySem.W.kitMeta T = true) (hi' : T = "int" ↔ ∃ i t, x = .int i t) (hnb : (Value.type T == Value.type "builtin_function_or_method") = false) :
    wpAny (model P w) A (call (.ref f) [x, .int lo t, .int hi u]) (fun y s' => y = .bool (wholeU x lo hi) ∧ Keeps s s') E s := by
  obtain ⟨oc, od, kV, doc, pm, an, cdv, ct, osl, rfl, lk, hcd⟩ := F.ex
  have KX : K.In s.heap := M.kin.keeps hk
  have lim : s.heap.NoLimit := M.nolimit.keeps hk
  have bd := B s [x, .int lo t, .int hi u] KX rfl
  have S : FnScope ["asked", "low", "high"] ["asked", "low", "high"] (defScope s_is_whole) := scWhole
  refine wpAny_call (codeAny_call_function (by omega) (KX _ _ lk) rfl S.co S.gen rfl (PySem.W.codeRec_of KX hcd) (bd _ _ _ _ ?_))
  refine wpAny_newFunctionEnv_cells S.kind (fun y hy => ?_) fun env he s1 x1 => ?_
  · rcases S.par y.1 (List.of_mem_zip hy).1 with q | q
    · exact .inl q
    · exact .inr ⟨q, PySem.W.cellsFrom_some _ _ _ (.inl q)⟩
  subst he
  refine ⟨lim.keeps x1.toInCall.keep, codeAny_func ?_⟩
  have hx1 : s1.TypeIs x T := by
    cases x with
    | ref a => obtain ⟨o, h1, h2⟩ := hx; exact ⟨o, x1.toInCall.keep a o h1, h2⟩
    | _ => exact hx
  have hk1 : ∀ b o, base.get? b = some o → s1.heap.get? b = some o := fun b o e => x1.toInCall.keep b o (hk b o e)
  obtain ⟨mb, bl1, bl2⟩ := M.blt
  have fin : ∀ b : Bool, b = wholeU x lo hi → (wants (fun y s' => y = Value.bool (wholeU x lo hi) ∧ Keeps s s') E) (.ok (.ret (.bool b))) s1 := fun b e => by
    subst e
    exact ⟨rfl, x1.done⟩
  show wpAny _ _ (execs [.Return (some (.BoolOp .And [.Compare (.Call (.Name "type" _) [.Name "asked" _] [] _) [.Eq] [.Name "int" _] _, .Compare (.Name "low" _) [.LtE, .LtE] [.Name "asked" _, .Name "high" _] _] _)) _] _) _ _ _
  refine wpAny_execs_cons (wpAny_Return_some ?_)
  have b1 : bootBuiltins "type" = some (.type "type") := by decide +kernel
  have b2 : bootBuiltins "int" = some (.type "int") := by decide +kernel
  have kM : PySem.W.kitMeta "int" = true := by decide +kernel
  refine BoolOp_and (wpAny_Compare1 ?_ rfl)
  refine wpAny_Call_Name_kw (Calls.Name_function_global S.kind (by rfl) (Calls.loadGlobal_builtin (M.glob.keeps hk1) G.type (bl1.keeps hk1) ((bl2 "type" (by decide)).trans b1) ?_) (by decide))
  refine PyProof.Rows.callWith_type1 (PyProof.Rows.args_cons (wpAny_Name (ldLC x1 S.kind (by rfl) (by rfl) ?_) (by decide)) rfl) rfl rfl
  refine PyProof.Rows.args_nil ?_
  refine call_type_of hx1 hnb ?_
  refine Calls.Name_function_global S.kind (by rfl) (Calls.loadGlobal_builtin (M.glob.keeps hk1) G.int (bl1.keeps hk1) ((bl2 "int" (by decide)).trans b2) ?_) (by decide)
  by_cases e : T = "int"
  · subst e
    obtain ⟨i, t0, rfl⟩ := hi'.mp rfl
    refine TypeEq.eq_type_same (X := "int") TypeEq.meta_int (wpAny_truthy_bool ?_)
    refine ite_tt ?_
    refine BoolOp_one ?_
    refine Compare_chain ?_ (by with_unfolding_all rfl)
    refine wpAny_Name (ldLC x1 S.kind (by rfl) (by rfl) ?_) (by decide)
    refine chain_link (wpAny_Name (ldLC x1 S.kind (by rfl) (by rfl) ?_) (by decide))
    refine le_int (wpAny_truthy_bool ?_)
    by_cases c : lo ≤ i
    · rw [decide_eq_true c]
      refine ite_tt (chain_last (wpAny_Name (ldLC x1 S.kind (by rfl) (by rfl) ?_) (by decide)))
      refine le_int (fin _ ?_)
      show decide (i ≤ hi) = (decide (lo ≤ i) && decide (i ≤ hi))
      rw [decide_eq_true c, Bool.true_and]
    · rw [decide_eq_false c]
      refine ite_ff (fin _ ?_)
      show false = (decide (lo ≤ i) && decide (i ≤ hi))
      rw [decide_eq_false c, Bool.false_and]
  · have mT : ∀ s' : Shared, s'.TypeIs (.type T) "type" := fun s' => by exact PySem.W.kitMeta_of hT
    refine TypeEq.eq_type_other (X := T) (Y := "int") mT TypeEq.meta_int (by rw [ty_beq, decide_eq_false e]) (wpAny_truthy_bool ?_)
    refine ite_ff (fin _ ?_)
    cases x with
    | int i t0 => exact absurd (hi'.mpr ⟨i, t0, rfl⟩) e
    | _ => rfl
end
/-! ### are_counts -/
structure GlbK (mg : Str → Option Value) : Prop extends GlbW mg where
  len : mg "len" = none
  all : mg "all" = none
  kinds : ∃ t, mg "MOST_KINDS" = some (.int 12 t)
  most : ∃ t, mg "MOST_OF_A_KIND" = some (.int 20 t)
structure GAC (K : PySem.W.Frag) (mg : Str → Option Value) (base : Heap) (f : Addr) (fd : FuncData) (c tb : Addr) : Prop where
  F : Fun K "are_counts" "are_counts" s_are_counts f fd
  cd : fd.code = .ref c
  b : Binds K fd ["asked"] []
  g : mg "are_counts" = some (.ref f)
  tb : GxR.TabB base mg c tb
theorem Dt.tyR {K : PySem.W.Frag} {H : Hp} {x : V} (h : Dt H x) : ∃ T, TyB K H x T ∧ PySem.W.kitMeta T = true ∧ ((["tuple", "list"].any fun n => decide (n = T)) = true ↔ isRow H x) := by
  cases h with
  | non => exact ⟨_, .non, by decide +kernel, ⟨fun z => absurd z (by decide +kernel), fun ⟨_, _, _, z, _⟩ => (nomatch z)⟩⟩
  | bl b => exact ⟨_, .bl b, by decide +kernel, ⟨fun z => absurd z (by decide +kernel), fun ⟨_, _, _, z, _⟩ => (nomatch z)⟩⟩
  | int i => exact ⟨_, .int i, by decide +kernel, ⟨fun z => absurd z (by decide +kernel), fun ⟨_, _, _, z, _⟩ => (nomatch z)⟩⟩
  | str x => exact ⟨_, .str x, by decide +kernel, ⟨fun z => absurd z (by decide +kernel), fun ⟨_, _, _, z, _⟩ => (nomatch z)⟩⟩
  | @row a b xs h =>
    cases b with
    | false => exact ⟨_, .lst (SqL.of h), by decide +kernel, ⟨fun _ => ⟨a, false, xs, rfl, h⟩, fun _ => by decide +kernel⟩⟩
    | true => exact ⟨_, .tup (SqT.of h), by decide +kernel, ⟨fun _ => ⟨a, true, xs, rfl, h⟩, fun _ => by decide +kernel⟩⟩
  | @dic a kvs h =>
    refine ⟨_, .dK h, by decide +kernel, ⟨fun z => absurd z (by decide +kernel), fun ⟨a', b, xs, z, e⟩ => ?_⟩⟩
    cases z
    rw [h] at e
    cases b <;> cases e
def spAreCounts (tb : Addr) : Sp := fun vs H Q _ => ∃ x, vs = [x] ∧ DtIn H x ∧ H tb = some (TabO tb) ∧ ∀ r H', Same H H' → (r = true ↔ ∃ cs, IsCounts H x cs ∧ cs.length ≤ 12 ∧ ∀ c ∈ cs, c ≤ 20) → Q (.bl r) H'
section
variable {P : Program} {w : World} {K : PySem.W.Frag} {mg : Str → Option Value} {base : Heap}
theorem scCounts : FnScope ["asked"] ["asked"] (defScope s_are_counts) := ⟨rfl, rfl, rfl, by decide +kernel, rfl, by decide +kernel, by decide +kernel⟩
theorem whole_elt {X : Cx} {pins : List (Addr × Obj)} {σ : L2.St} {P : Addr} {scope : Scope} {p0 p1 p2 p3 p4 : Pos} {j : Nat} {fW : Addr} {fdW : FuncData} {H1 : Hp} {s1 : Shared} {xs : List V} {its : List Value} {tm : Tok} (W : GW X.K X.mg fW fdW) (G : GlbW X.mg) (hmo : X.mg "MOST_OF_A_KIND" = some (.int 20 tm))
    (hP : H1 P = some (TabO P)) (hd : X.A.depth + 9 < recursionLimit) (sk : scope.kind = .function) (s1' : scope.names.lookup ("is_whole" : Str) = some NameKind.globalImplicit) (s2 : scope.names.lookup ("count" : Str) = some NameKind.local) (s3 : scope.names.lookup ("MOST_OF_A_KIND" : Str) = some NameKind.globalImplicit)
    (hx : ∀ x ∈ xs, Dt H1 x) (I : Inv X pins σ H1 s1) (rv : Vals xs its) :
    EltG X P scope "count" (.Call (.Name "is_whole" p0) [.Name "count" p1, .Constant (.int 0) j p2, .Name "MOST_OF_A_KIND" p3] [] p4) s1 its (fun i y => ∃ z, xs[i]? = some z ∧ y = .bool (wholeV z 0 20)) := by
  intro cenv A' E' i v t m hsc hgl hbl hA hD hU hi hn hm hk
  have kd : cenv.scope.kind = .function := by rw [hsc]; exact sk
  have hbase : ∀ b o, X.base.get? b = some o → t.heap.get? b = some o := fun b o e => by
    have ⟨e1, e2⟩ := I.bs b o e
    exact hk b o (fun z => by rw [z, hP] at e2; cases e2) e1
  have ns : t.heap.Ns cenv.globals X.mg := by rw [hgl, I.ok.glob]; exact I.mod.glob.keeps hbase
  obtain ⟨z, hz, rz⟩ : ∃ z, xs[i]? = some z ∧ RelV z v := by
    have hi2 : i < its.length := (List.getElem?_eq_some_iff.mp hi).1
    have hl := rv.length
    obtain ⟨z, ez⟩ : ∃ z, xs[i]? = some z := ⟨xs[i]'(by omega), List.getElem?_eq_getElem _⟩
    obtain ⟨u, hu, ru⟩ := rv.get ez
    rw [hi] at hu
    cases hu
    exact ⟨z, ez, ru⟩
  obtain ⟨T, ty, hT, hI⟩ := (hx z (List.mem_of_getElem? hz)).tyB (K := X.K)
  have tv : t.TypeIs v T := by
    have q := ty.is I rz
    cases v with
    | ref a =>
      obtain ⟨o, h1, h2⟩ := q
      refine ⟨o, hk a o (fun z => ?_) h1, h2⟩
      obtain ⟨ps, e, _⟩ := tabO_get I hP
      rw [z, e] at h1
      cases h1
      cases h2
    | _ => exact q
  have hint : T = "int" ↔ ∃ i t, v = Value.int i t := by
    rw [hI]
    constructor
    · rintro ⟨k, rfl⟩
      obtain ⟨t, e⟩ := (show ∃ t, v = Value.int k t from rz)
      exact ⟨k, t, e⟩
    · rintro ⟨k, t, rfl⟩
      cases z with
      | int k' => exact ⟨k', rfl⟩
      | _ => first | (cases rz; done) | (obtain ⟨_, e⟩ := rz; cases e; done)
  refine wpAny_Call_Name_kw (Calls.Name_function_global kd (by show cenv.scope.names.lookup _ = _; rw [hsc]; exact s1') (Calls.loadGlobal_global ns W.g ?_) (by decide))
  refine PySem.W.callWith_K (h₀ := X.base) I.mod.kin W.F.kp ?_ rfl rfl
  refine PyProof.Rows.args_cons (wpAny_Name (wpAny_loadName_local kd (by show cenv.scope.names.lookup _ = _; rw [hsc]; exact s2) hn hm ?_) (by decide)) rfl
  refine PyProof.Rows.args_cons (wpAny_Constant_int ?_) rfl
  refine PyProof.Rows.args_cons (Calls.Name_function_global kd (by show cenv.scope.names.lookup _ = _; rw [hsc]; exact s3) (Calls.loadGlobal_global ns hmo ?_) (by decide)) rfl
  refine PyProof.Rows.args_nil ⟨I.mod.kin.keeps hbase, ?_⟩
  refine wpAny_mono (whole_quiet (s := { t with toks := t.toks + 1 }) W.F W.b G I.mod hA (by omega) hbase tv hT hint ty.nb) (fun y s3 q => ?_) fun _ _ e => e
  obtain ⟨rfl, h', tk', rfl, kk⟩ := q
  refine ⟨⟨z, hz, ?_⟩, h', tk', rfl, kk⟩
  rw [whole_rel rz]
theorem ok_counts {f fW : Addr} {fd fdW : FuncData} {c tb : Addr} (A' : GAC K mg base f fd c tb) (G : GlbK mg) (W : GW K mg fW fdW) : FnOk P w K mg base CX0 4 f fd ["asked"] (spAreCounts tb) := by
  obtain ⟨oc, od, kV, doc, pm, an, cdv, ct, osl, rfl, lk, hcd⟩ := A'.F.ex
  have ec : cdv = .ref c := A'.cd
  subst ec
  obtain ⟨tk, hmk⟩ := G.kinds
  obtain ⟨tm, hmo⟩ := G.most
  refine fn_of lk hcd scCounts (fun vs H Q E h => ?_) fun A outer s H vs Q E hr h => ?_
  · obtain ⟨x, rfl, _⟩ := h
    rfl
  · obtain ⟨x, rfl, hx, hP, q⟩ := h
    refine ⟨_, pss_cons (ps_if (PW.pt (pw_or (pt_cmpR op_notInTy (pe_callTy call_type1 (by rfl) G.type (by decide +kernel) (pa_cons (pv 0) pa_nil)) (pe_tup (pa_cons (pe_bltn (v := .ty "tuple") (by rfl) G.tuple (by decide +kernel) rfl) (pa_cons (pe_bltn (v := .ty "list") (by rfl) G.list (by decide +kernel) rfl) pa_nil))) (by rfl))
          (pw_or1 (pt_cmpR op_gt (pe_callB call_len_seq (by rfl) G.len PySem.boot_len (pa_cons (pv 0) pa_nil)) (pe_glob (v := .int 12) (by rfl) hmk ⟨_, rfl⟩) (nomark _))))) (pss_one (ps_ret pe_bl)) pss_nil)
      (pss_one (ps_ret (pe_allG (x := "count") (P := tb) (c := c) (pb := fun z => wholeV z 0 20) (R := fun x H1 => Dt H1 x) hr (by rfl) G.all A'.tb rfl ?S (pv 0) ?hel (fun _ => rfl)))), ?_⟩
    case S =>
      exact ⟨rfl, rfl, by decide +kernel, rfl, rfl, fun y hy e => absurd e ((show ∀ y ∈ (_ : Scope).names, y.2 ≠ NameKind.free by decide +kernel) y hy)⟩
    case hel =>
      intro pins σ xs H1 s1 its hxs hP1 I rv
      exact whole_elt (tm := tm) W G.toGlbW hmo hP1 (Nat.lt_of_le_of_lt (Nat.le_add_right _ 5) hr.dp) rfl (by decide +kernel) (by decide +kernel) (by decide +kernel) hxs I rv
    obtain ⟨T, ty, kT, hT⟩ := hx.1.tyR (K := K)
    refine ⟨_, rfl, x, T, rfl, ty, (by show 2 ≤ sizeLine; decide), fun tp htp => ?_⟩
    have s1 : Same H (upd H tp (.tup [.ty "tuple", .ty "list"])) := same_new htp
    refine ⟨T, tp, ["tuple", "list"], rfl, rfl, SqT.of upd_same, kT, (by decide +kernel), _, rfl, ?_⟩
    have noc : ¬ isRow H x → ¬ ∃ cs, IsCounts H x cs ∧ cs.length ≤ 12 ∧ ∀ c ∈ cs, c ≤ 20 := fun n ⟨cs, ⟨a, b, e, h1⟩, _⟩ => n ⟨a, b, _, e, h1⟩
    cases hr' : (["tuple", "list"].any fun n => decide (n = T)) with
    | false =>
      have nr : ¬ isRow H x := fun z => by rw [hT.mpr z] at hr'; cases hr'
      exact iteT (iteT (q false _ s1 ⟨fun z => (nomatch z), fun z => absurd z (noc nr)⟩))
    | true =>
      obtain ⟨a, b, xs, rfl, ha⟩ := hT.mp hr'
      have only : ∀ {b' : Bool} {xs' : List V}, H a = some (rowO b' xs') → xs' = xs := fun {b' xs'} h' => by
        rw [ha] at h'
        cases b <;> cases b' <;> first | exact (HO.lst.inj (Option.some.inj h')).symm | exact (HO.tup.inj (Option.some.inj h')).symm | cases h'
      have len : ∀ cs, IsCounts H (.ref a) cs → xs = cs.map nv := fun cs ⟨a', b', e, h1⟩ => by cases e; exact (only h1).symm
      refine iteF ?_
      have sq : SqL K (upd H tp (.tup [.ty "tuple", .ty "list"])) a xs ∨ SqT K (upd H tp (.tup [.ty "tuple", .ty "list"])) a xs := by
        cases b with
        | false => exact .inl (SqL.of (s1 _ _ ha))
        | true => exact .inr (SqT.of (s1 _ _ ha))
      refine ⟨_, rfl, a, xs, rfl, sq, _, _, rfl, rfl, _, rfl, ?_⟩
      by_cases c : 12 < xs.length
      · refine if_true_of (decide_eq_true (show (12 : Int) < (xs.length : Int) by omega)) ?_
        refine q false _ s1 ⟨fun z => (nomatch z), fun ⟨cs, h1, h2, _⟩ => ?_⟩
        have e := congrArg List.length (len cs h1)
        rw [List.length_map] at e
        omega
      · refine if_false_of (decide_eq_false (show ¬ (12 : Int) < (xs.length : Int) by omega)) ?_
        refine ⟨_, rfl, a, b, xs, rfl, row_sq (s1 _ _ ha), s1 _ _ hP, fun y hy => (hx.2 a b xs rfl ha y hy).mono s1, q _ _ s1 ⟨fun z => ?_, fun ⟨cs, h1, _, h3⟩ => ?_⟩⟩
        · rw [List.all_eq_true] at z
          have all : ∀ y ∈ xs, ∃ n : Nat, y = nv n ∧ n ≤ 20 := fun y hy => whole_nat (hi := 20) (z y hy)
          obtain ⟨cs, e, h20⟩ : ∃ cs : List Nat, xs = cs.map nv ∧ ∀ c ∈ cs, c ≤ 20 := by
            clear only len sq c z hr' hT ha ty
            induction xs with
            | nil => exact ⟨[], rfl, fun _ h => (nomatch h)⟩
            | cons y ys ih =>
              obtain ⟨n, e, hn⟩ := all y List.mem_cons_self
              obtain ⟨cs, e2, h2⟩ := ih fun z hz => all z (List.mem_cons_of_mem _ hz)
              refine ⟨n :: cs, by rw [e, e2]; rfl, fun c hc => ?_⟩
              rcases List.mem_cons.mp hc with h | h
              · rw [h]; exact hn
              · exact h2 c h
          exact ⟨cs, ⟨a, b, rfl, by rw [← e]; exact ha⟩, by rw [e, List.length_map] at c; omega, h20⟩
        · rw [len cs h1, List.all_eq_true]
          intro y hy
          obtain ⟨n, hn, rfl⟩ := List.mem_map.mp hy
          have e := whole_nv n 20
          show wholeV (nv n) 0 20 = true
          rw [show (20 : Int) = ((20 : Nat) : Int) from rfl, e]
          exact decide_eq_true (h3 n hn)
end
/-! ### sums of cut rows -/
theorem qsm_front (f : Nat → Nat) : ∀ n : Nat, sm f (n + 1) = f 0 + sm (fun i => f (i + 1)) n
  | 0 => by show 0 + f 0 = f 0 + 0; omega
  | n + 1 => by
    show sm f (n + 1) + f (n + 1) = f 0 + (sm (fun i => f (i + 1)) n + f (n + 1))
    rw [qsm_front f n]; omega
theorem qsm_rev (f : Nat → Nat) : ∀ n : Nat, sm f n = sm (fun i => f (n - 1 - i)) n
  | 0 => rfl
  | n + 1 => by
    rw [qsm_front (fun i => f (n + 1 - 1 - i)) n]
    show sm f n + f n = f (n + 1 - 1 - 0) + _
    rw [qsm_rev f n, Nat.add_comm]
    congr 1
    refine sm_congr fun i hi => ?_
    congr 1
    omega
theorem qcut_sum (g : Nat → Nat) (S lo : Nat) : ∀ m : Nat, lo + m ≤ S + 1 → ((((List.range (S + 1)).map g).drop lo).take m).sum = sm (fun j => g (lo + j)) m
  | 0, _ => by rw [List.take_zero]; rfl
  | m + 1, h => by
    rw [List.take_add_one, List.sum_append, qcut_sum g S lo m (by omega), List.getElem?_drop, List.getElem?_map, List.getElem?_range (by omega)]
    rfl
theorem qks_cut (c : Nat) (g : Nat → Nat) (S k : Nat) (h : k ≤ S) : ((((List.range (S + 1)).map g).drop (k - c)).take (k + 1 - (k - c))).sum = ks c g k := by
  rw [qcut_sum g S (k - c) _ (by omega), qsm_rev]
  show _ = sm _ (c + 1)
  obtain ⟨m, em⟩ : ∃ m, m = k + 1 - (k - c) := ⟨_, rfl⟩
  rw [← em]
  rw [sm_flat (a := m) (b := c + 1) (by omega) (fun i h1 h2 => if_neg (by omega))]
  refine sm_congr fun i hi => ?_
  rw [if_pos (by omega)]
  congr 1
  omega
theorem qcut_mid {xs : List V} {a b : Nat} (h1 : a ≤ b) (h2 : b ≤ xs.length) : cutV xs (some (a : Int)) (some (b : Int)) = (xs.drop a).take (b - a) := by
  unfold cutV
  rw [HT.sIx_nat, HT.sIx_nat, Nat.min_eq_left h2, Nat.min_eq_left (show a ≤ xs.length by omega)]
structure GlbI (mg : Str → Option Value) : Prop extends GlbK mg where
  range : mg "range" = none
  max : mg "max" = none
  sum : mg "sum" = none
  reversed : mg "reversed" = none
def rTupR : List V → Hp → VK → Prop := fun xs H Q => ∃ (a : Addr) (b : Bool) (ys : List V), xs = [.ref a] ∧ H a = some (rowO b ys) ∧ ∀ z HL, Same H HL → HL z = some (.tup ys) → Q (.ref z) HL
theorem cr_tupR {X : Cx} : CallR X (.type "tuple") rTupR := by
  intro pins s σ H xs us Q I r h
  obtain ⟨a, b, ys, rfl, ha, q⟩ := h
  refine call_tuple_of pins s σ H _ us Q I r ?_
  cases b with
  | false => exact ⟨a, ys, rfl, .inl ⟨SqL.of ha, fun l hl => q l _ (same_new hl) upd_same⟩⟩
  | true => exact ⟨a, ys, rfl, .inr ⟨SqT.of ha, q a H (Same.refl _) ha⟩⟩
/-! ### ways_from -/
def spWaysFrom : Sp := fun vs H Q _ => ∃ (ct : Addr) (cs : List Nat) (s : Nat), vs = [.ref ct, nv s] ∧ H ct = some (.tup (cs.map nv)) ∧ cs.length ≤ 12 ∧ s ≤ 500 ∧ ∀ wt H', Same H H' → WaysAt H' wt cs s → Q (.ref wt) H'
theorem wrow_len (cs : List Nat) (s : Nat) : (wrow cs s).length = s + 1 := by unfold wrow; rw [List.length_map, List.length_range]
theorem wrow_map (cs : List Nat) (s : Nat) : wrow cs s = ((List.range (s + 1)).map (kw cs)).map nv := by unfold wrow; rw [List.map_map]; rfl
section
variable {P : Program} {w : World} {K : PySem.W.Frag} {mg : Str → Option Value} {base : Heap}
theorem scWaysFrom : FnScope ["counts", "size", "ways", "count", "later", "many"] ["counts", "size"] (defScope s_ways_from) := ⟨rfl, rfl, rfl, by decide +kernel, rfl, by decide +kernel, by decide +kernel⟩
theorem ok_waysFrom {f : Addr} {fd : FuncData} (F : Fun K "ways_from" "ways_from" s_ways_from f fd) (G : GlbI mg) : FnOk P w K mg base CX0 1 f fd ["counts", "size"] spWaysFrom := by
  refine F.ok scWaysFrom (fun vs H Q E h => ?_) (fun cdv A outer s0 H vs Q E hr h => ?_)
  · obtain ⟨ct, cs, s, rfl, _⟩ := h
    rfl
  · obtain ⟨ct, cs, s, rfl, hct, hl12, hs, k⟩ := h
    refine ⟨_, pss_cons (ps_set (i := 2) scWaysFrom.nd rfl (Or.inl rfl) (pe_lst (pa_cons (pe_op op_cat (pe_lst (pa_cons pe_int pa_nil)) (pe_op op_rep (pe_lst (pa_cons pe_int pa_nil)) (pv 1))) pa_nil)))
      (pss_cons (ps_for PassesOwn.never rfl (RT.pi_revA (by rfl) G.reversed (pv 0)) (pg_name (i := 3) scWaysFrom.nd rfl (Or.inr rfl))
        (pss_cons (ps_set (i := 4) scWaysFrom.nd rfl (Or.inr rfl) (pe_ix ix_list (pv 2) (pe_un un_neg pe_int) (fun _ _ => rfl)))
        (pss_one (ps_expr (pe_bm PySem.F.plainAttrs_list PySem.F.slot_list_append PySem.F.type_list_append mt_append (pv 2) (pa_cons (pe_lc (own := [("many", 5)]) (g := gName 5) (tt := tYes) rfl scWaysFrom.nd (pi_range1 rfl G.range (pa_cons (pe_op op_add (pv 1) pe_int) pa_nil)) (blkOk_by (N := ["counts", "size", "ways", "count", "later", "many"]) (sc := defScope s_ways_from) (by decide +kernel)) (fun _ _ _ _ _ => pg_name (i := 5) scWaysFrom.nd rfl (Or.inl rfl)) (fun _ _ _ _ _ => pts_nil)
          (fun _ _ _ _ _ => pe_callB (r := rSum K) (cr_sum rfl) (by rfl) G.sum (by decide +kernel) (pa_cons (pe_slice (r := rSlL K) sl_list (pv 4) (po_some (pe_callB (call_max2 rfl) (by rfl) G.max (by decide +kernel) (pa_cons pe_int (pa_cons (pe_op op_sub (pv 5) (pv 3)) pa_nil)))) (po_some (pe_op op_add (pv 5) pe_int))) pa_nil))) pa_nil))))))
      (pss_cons (ps_expr (pe_bm0 PySem.F.plainAttrs_list PySem.F.slot_list_reverse PySem.F.type_list_reverse mt_reverse (pv 2)))
      (pss_one (ps_ret (pv 2))))), ?_⟩
    -- [1] + [0] * size
    have fl : ([V.int 1] ++ (List.replicate s [V.int 0]).flatten) = wrow [] s := by
      have e : ∀ n : Nat, (List.replicate n [V.int 0]).flatten = ((List.range n).map fun i => kb (i + 1)).map nv := by
        intro n
        induction n with
        | zero => rfl
        | succ n ih =>
          rw [List.replicate_succ', List.flatten_append, ih, List.range_succ, List.map_append, List.map_append]
          rfl
      rw [e, wrow_map, List.range_succ_eq_map]
      simp only [List.map_cons, List.map_map]
      rfl
    refine ⟨(by show 1 ≤ sizeLine; decide), fun l1 hl1 => ⟨(by show 1 ≤ sizeLine; decide), fun l2 hl2 => ⟨_, rfl, l2, (s : Int), _, rfl, rfl, upd_same, by omega, by omega, (by rw [Int.toNat_natCast]; show 1 * s ≤ sizeLine; exact Nat.le_of_lt (small1000 (by omega))), fun l3 hl3 => ?_⟩⟩⟩
    rw [Int.toNat_natCast]
    have hl1' := (same_new (o := .lst (List.replicate s [V.int 0]).flatten) hl3) _ _ ((same_new (o := .lst [V.int 0]) hl2) _ _ (upd_same (H := H) (a := l1) (o := .lst [V.int 1])))
    have lfl : (List.replicate s [V.int 0]).flatten.length = s := by rw [List.length_flatten, List.map_replicate, List.sum_replicate_nat]; simp
    refine ⟨l1, l3, _, _, rfl, rfl, hl1', upd_same, (by rw [lfl]; show 1 + s ≤ sizeLine; exact Nat.le_of_lt (small1000 (by omega))), fun l4 hl4 => ?_⟩
    have sX := (((same_new (o := .lst [V.int 1]) hl1).trans (same_new (o := .lst [V.int 0]) hl2)).trans (same_new (o := .lst (List.replicate s [V.int 0]).flatten) hl3)).trans (same_new (o := .lst ([V.int 1] ++ (List.replicate s [V.int 0]).flatten)) hl4)
    obtain ⟨H4, eH4⟩ : ∃ H4, H4 = upd (upd (upd (upd H l1 (.lst [V.int 1])) l2 (.lst [V.int 0])) l3 (.lst (List.replicate s [V.int 0]).flatten)) l4 (.lst ([V.int 1] ++ (List.replicate s [V.int 0]).flatten)) := ⟨_, rfl⟩
    have h44 : H4 l4 = some (.lst (wrow [] s)) := by rw [eH4, upd_same, fl]
    rw [← eH4] at sX
    have onH : ∀ (X : Hp → Prop), X H4 → X (upd (upd (upd (upd H l1 (.lst [V.int 1])) l2 (.lst [V.int 0])) l3 (.lst (List.replicate s [V.int 0]).flatten)) l4 (.lst ([V.int 1] ++ (List.replicate s [V.int 0]).flatten))) := fun X h => by rw [eH4] at h; exact h
    refine onH (fun Hx => _) ?_
    refine ⟨(by show 1 ≤ sizeLine; decide), fun l hl => ?_⟩
    have s5 := same_new (o := .lst [V.ref l4]) hl
    have hlH : H l = none := sX.free hl
    have hct5 := s5 _ _ (sX _ _ hct)
    have lcs : (cs.map nv).length = cs.length := List.length_map _
    refine ⟨_, rfl, ct, cs.map nv, rfl, .inr ⟨SqT.of hct5, RT.for_ItvT (fun i σ G => ∃ (rs : List Addr) (v3 v4 v5 : Option V), σ = [some (.ref ct), some (nv s), some (.ref l), v3, v4, v5] ∧ i ≤ cs.length ∧ G l = some (.lst (rs.map V.ref)) ∧ rs.length = i + 1 ∧ (∀ (j : Nat) (r : Addr), rs[j]? = some r → G r = some (.lst (wrow (cs.drop (cs.length - j)) s))) ∧ Same H G)
      ⟨[l4], none, none, none, rfl, Nat.zero_le _, upd_same, rfl, fun j r hj => ?_, sX.trans s5⟩ (fun i σ G ⟨_, _, _, _, _, _, _, _, _, g⟩ => SqT.of (g _ _ hct)) ?_ ?_⟩⟩
    · cases j with
      | zero =>
        cases hj
        rw [Nat.sub_zero, List.drop_length]
        exact s5 _ _ h44
      | succ j => simp at hj
    · rintro i x σ G hi hx ⟨rs, v3, v4, v5, rfl, _, hlG, hrl, hrs, g⟩
      rw [lcs] at hi hx
      rw [List.getElem?_map] at hx
      obtain ⟨c, ec, rfl⟩ : ∃ c, cs[cs.length - 1 - i]? = some c ∧ x = nv c := by
        cases e : cs[cs.length - 1 - i]? with
        | none => rw [e] at hx; cases hx
        | some c => rw [e] at hx; exact ⟨c, rfl, (Option.some.inj hx).symm⟩
      obtain ⟨r, er⟩ : ∃ r, rs[i]? = some r := ⟨rs[i]'(by omega), List.getElem?_eq_getElem _⟩
      obtain ⟨rest, erest⟩ : ∃ rest, rest = cs.drop (cs.length - i) := ⟨_, rfl⟩
      have hr' := hrs i r er
      rw [← erest] at hr'
      have edrop : cs.drop (cs.length - (i + 1)) = c :: rest := by
        have e1 : cs.length - (i + 1) = cs.length - 1 - i := by omega
        have hlt : cs.length - 1 - i < cs.length := by omega
        rw [e1, List.drop_eq_getElem_cons hlt, erest]
        have e2 : cs[cs.length - 1 - i] = c := by
          rw [List.getElem?_eq_getElem hlt] at ec
          exact Option.some.inj ec
        rw [e2]
        congr 2
        omega
      have hlast : atI (rs.map V.ref) (-1) = some (.ref r) := by
        unfold atI ixN
        rw [if_neg (by omega), if_pos (by rw [List.length_map]; omega)]
        have e3 : ((-1 : Int) + ((rs.map V.ref).length : Int)).toNat = i := by rw [List.length_map]; omega
        show (rs.map V.ref)[((-1 : Int) + ((rs.map V.ref).length : Int)).toNat]? = _
        rw [e3, List.getElem?_map, er]
        rfl
      refine ⟨_, rfl, _, rfl, l, _, _, _, rfl, rfl, SqL.of hlG, hlast, ?_⟩
      have etn : ((s : Int) + 1).toNat = s + 1 := by omega
      refine ⟨_, rfl, .inl ⟨rfl, _, SqL.of hlG⟩, _, rfl, _, _, rfl, rfl, _, rfl, by omega, by omega, fun D hD => lc_it walk_range (fun j G2 => G2 D = some (.lst (((List.range j).map (ks c (kw rest))).map nv)) ∧ Same G G2) ⟨upd_same, same_new hD⟩ (fun j G2 _ _ => trivial) ?_ ?_⟩
      · rintro j y G2 G2' hj ⟨hD2, g2⟩ ⟨rfl, ey⟩
        have ey' : y = nv j := ey.trans (congrArg V.int (by omega))
        subst ey'
        rw [etn] at hj
        have em : (if (j : Int) - (c : Int) > 0 then (j : Int) - (c : Int) else 0) = ((j - c : Nat) : Int) := by split <;> omega
        have ej1 : (j : Int) + 1 = ((j + 1 : Nat) : Int) := by omega
        refine ⟨rfl, _, rfl, _, rfl, _, rfl, _, _, rfl, rfl, _, _, rfl, _, rfl, _, rfl, _, _, rfl, rfl, _, rfl, r, _, rfl, SqL.of (g2 _ _ hr'), fun ls hls => ?_⟩
        have ecut : cutV (wrow rest s) (some (if (j : Int) - (c : Int) > 0 then (j : Int) - (c : Int) else 0)) (some ((j : Int) + 1)) = (((((List.range (s + 1)).map (kw rest)).drop (j - c)).take (j + 1 - (j - c))).map Int.ofNat).map V.int := by
          rw [em, ej1, qcut_mid (by omega) (by rw [wrow_len]; omega), wrow_map, ← List.map_drop, ← List.map_take, nvs_ints]
        refine ⟨ls, ((((List.range (s + 1)).map (kw rest)).drop (j - c)).take (j + 1 - (j - c))).map Int.ofNat, rfl, SqL.of (by rw [← ecut]; exact upd_same), ?_⟩
        rw [ofNat_sum, qks_cut c (kw rest) s j (by omega)]
        have hD3 := (same_new (o := .lst (cutV (wrow rest s) (some (if (j : Int) - (c : Int) > 0 then (j : Int) - (c : Int) else 0)) (some ((j : Int) + 1)))) hls) _ _ hD2
        refine ⟨_, hD3, ?_, ?_, fun b o e => ?_⟩
        · rw [List.length_map, List.length_map, List.length_range]; exact small1000 (by omega)
        · rw [upd_same, List.range_succ, List.map_append, List.map_append]; rfl
        · rw [upd_ne (ne_of_none e hD)]
          exact (same_new hls) _ _ (g2 _ _ e)
      · rintro G3 ⟨hD3, g3⟩
        rw [etn] at hD3
        have hl3 := g3 _ _ hlG
        have eD : G3 D = some (.lst (wrow (c :: rest) s)) := by rw [hD3, wrow_map]; rfl
        refine ⟨l, _, _, rfl, rfl, hl3, (by rw [List.length_map]; exact small1000 (by omega)), rs ++ [D], some (nv c), some (.ref r), _, rfl, by omega, ?_, by rw [List.length_append, hrl]; rfl, fun j r' hj => ?_, fun b o e => ?_⟩
        · rw [upd_same, List.map_append]; rfl
        · have np : ∀ {q : Addr} {xs : List V}, G3 q = some (.lst xs) → q ≠ l → upd G3 l (.lst (rs.map V.ref ++ [V.ref D])) q = some (.lst xs) := fun h n => (upd_ne n).trans h
          have nl : ∀ (q : Addr) (zs : List Nat), G3 q = some (.lst (zs.map nv)) → 0 < zs.length → q ≠ l := fun q zs h hz z => by
            rw [z, hl3] at h
            have e := HO.lst.inj (Option.some.inj h)
            cases zs with
            | nil => exact absurd hz (Nat.lt_irrefl _)
            | cons y ys =>
              cases rs with
              | nil => simp at hrl
              | cons r0 rs0 =>
                have e0 := (List.cons.inj e).1
                cases e0
          by_cases hji : j < rs.length
          · rw [List.getElem?_append_left hji] at hj
            have q := g3 _ _ (hrs j r' hj)
            refine np q (nl r' _ (by rw [← wrow_map]; exact q) (by rw [List.length_map, List.length_range]; omega))
          · have hj' : j = rs.length := by
              have := (List.getElem?_eq_some_iff.mp hj).1
              rw [List.length_append] at this
              have : j < rs.length + 1 := this
              omega
            rw [hj', List.getElem?_append_right (Nat.le_refl _), Nat.sub_self] at hj
            cases hj
            rw [hj', hrl, edrop]
            exact np eD (nl D _ (by rw [← wrow_map]; exact eD) (by rw [List.length_map, List.length_range]; omega))
        · rw [upd_ne (ne_of_none e hlH)]
          exact g3 _ _ (g _ _ e)
    · rintro σ G ⟨rs, v3, v4, v5, rfl, _, hlG, hrl, hrs, g⟩
      rw [lcs] at hrl
      refine ⟨_, rfl, .inl ⟨rfl, _, SqL.of hlG⟩, l, _, rfl, rfl, hlG, _, rfl, k l _ (fun b o e => by rw [upd_ne (ne_of_none e hlH)]; exact g _ _ e) ⟨rs.reverse, by rw [upd_same, List.map_reverse], by rw [List.length_reverse]; omega, fun i r hi => ?_⟩⟩
      have hir : i < rs.length := by
        have := (List.getElem?_eq_some_iff.mp hi).1
        rw [List.length_reverse] at this
        exact this
      rw [List.getElem?_reverse hir] at hi
      have q := hrs _ r hi
      have e1 : cs.length - (rs.length - 1 - i) = i := by omega
      rw [e1] at q
      rw [upd_ne (fun z => ?_)]
      · exact q
      · rw [z, hlG] at q
        have e := HO.lst.inj (Option.some.inj q)
        cases rs with
        | nil => simp at hrl
        | cons r0 rs0 =>
          rw [wrow_map, List.range_succ_eq_map] at e
          have e0 := (List.cons.inj e).1
          cases e0
end
/-! ### Kinds: made, many -/
structure GWF (K : PySem.W.Frag) (mg : Str → Option Value) (f : Addr) (fd : FuncData) : Prop where
  F : Fun K "ways_from" "ways_from" s_ways_from f fd
  b : Binds K fd ["counts", "size"] []
  g : mg "ways_from" = some (.ref f)
section
variable {P : Program} {w : World} {K : PySem.W.Frag} {mg : Str → Option Value} {base : Heap}
theorem scKInit : FnScope ["self", "counts", "size"] ["self", "counts", "size"] (defScope s_Kinds_init) := ⟨rfl, rfl, rfl, by decide +kernel, rfl, by decide +kernel, by decide +kernel⟩
theorem sum_le_500 {cs : List Nat} (h1 : cs.length ≤ 12) (h2 : ∀ c ∈ cs, c ≤ 20) : cs.sum ≤ 500 := by
  have q : ∀ l : List Nat, (∀ c ∈ l, c ≤ 20) → l.sum ≤ 20 * l.length := by
    intro l
    induction l with
    | nil => intro _; exact Nat.le_refl _
    | cons a l ih =>
      intro h
      have h1 := h a List.mem_cons_self
      have h2 := ih fun c hc => h c (List.mem_cons_of_mem _ hc)
      rw [List.sum_cons, List.length_cons]
      omega
  have := q cs h2
  omega
theorem ok_kinit {f fW fA fF C CB c tb : Addr} {fd fdW fdA fdF : FuncData} (F : Fun K "__init__" "Kinds.__init__" s_Kinds_init f fd) (G : GlbI mg) (W : GW K mg fW fdW) (A' : GAC K mg base fA fdA c tb) (Y : GWF K mg fF fdF) (T : KdC K C) (xB : ExT K mg "NoBounds" CB) :
    FnOk P w K mg base (L2.CX P w) 5 f fd ["self", "counts", "size"] (spKInit C CB tb) := by
  have GWk : FnOk P w K mg base CX0 1 fW fdW ["asked", "low", "high"] spWhole := ok_whole W.F G.toGlbW
  have GAk : FnOk P w K mg base CX0 4 fA fdA ["asked"] (spAreCounts tb) := ok_counts A' G.toGlbK W
  have GFk : FnOk P w K mg base CX0 1 fF fdF ["counts", "size"] spWaysFrom := ok_waysFrom Y.F G
  refine F.okX scKInit (fun vs H Q E h => ?_) (fun cdv A outer s H vs Q E hr h => ?_)
  · obtain ⟨p, dx, x, y, rfl, _⟩ := h
    rfl
  · obtain ⟨p, dx, x, y, rfl, hp, hx, hy, htb, kok, kno⟩ := h
    have r1 : Room 1 _ := hr.mono (by decide)
    refine ⟨_, pss_cons (ps_if (pt_not (pt_val (pe_call GAk hr rfl A'.g A'.F.kp A'.b .nil pass0 (pa_cons (pv 1) pa_nil)))) (pss_one (ps_raise rfl (takes_of rfl rfl rfl rfl) (pmk_own PySem.F.excBase_ValueError xB.x xB.g xB.kp (raises_own xB.b xB.t) (by rfl)))) pss_nil)
      (pss_cons (ps_if (pt_not (pt_val (pe_call GWk r1 rfl W.g W.F.kp W.b .nil pass0 (pa_cons (pv 2) (pa_cons pe_int (pa_cons (pe_callB (cr_or (cr_sum rfl) (cr_sumT rfl)) (by rfl) G.sum (by decide +kernel) (pa_cons (pv 1) pa_nil)) pa_nil)))))) (pss_one (ps_raise rfl (takes_of rfl rfl rfl rfl) (pmk_own PySem.F.excBase_ValueError xB.x xB.g xB.kp (raises_own xB.b xB.t) (by rfl)))) pss_nil)
      (PSs.nox (pss_cons (ps_fld (pv 0) (pe_callTy cr_tupR (by rfl) G.tuple (by decide +kernel) (pa_cons (pv 1) pa_nil)) rfl)
      (pss_cons (ps_fld (pv 0) (pv 2) rfl)
      (pss_one (ps_fld (pv 0) (pe_call GFk r1 rfl Y.g Y.F.kp Y.b .nil pass0 (pa_cons (pe_fld (pv 0) rfl) (pa_cons (pv 2) pa_nil))) rfl)))))), ?_⟩
    refine ⟨_, rfl, x, rfl, hx, htb, fun r H1 s1 hr1 => ⟨_, rfl, ?_⟩⟩
    cases hr' : r with
    | false =>
      refine iteT (kno H1 ?_ s1)
      rintro ⟨cs, s, h1, _, ok⟩
      rw [hr1.mpr ⟨cs, h1, ok.l12, ok.c20⟩] at hr'
      cases hr'
    | true =>
      refine iteF ?_
      obtain ⟨cs, hcs, l12, c20⟩ := hr1.mp hr'
      obtain ⟨a, b, rfl, ha⟩ := id hcs
      have ha1 := s1 _ _ ha
      have e1 := nvs_ints cs
      have only : ∀ cs', IsCounts H (.ref a) cs' → cs' = cs := fun cs' ⟨a', b', e, h'⟩ => by
        cases e
        rw [ha] at h'
        cases b <;> cases b' <;> first | exact (nvs_inj (HO.lst.inj (Option.some.inj h'))).symm | exact (nvs_inj (HO.tup.inj (Option.some.inj h'))).symm | cases h'
      have sm : ∀ {Q : VK}, Q (.int ((cs.map Int.ofNat).sum)) H1 → (rSum K [.ref a] H1 Q ∨ rSumT K [.ref a] H1 Q) := fun {Q} q => by
        cases b with
        | false => exact .inl ⟨a, cs.map Int.ofNat, rfl, SqL.of (by rw [← e1]; exact ha1), q⟩
        | true => exact .inr ⟨a, cs.map Int.ofNat, rfl, SqT.of (by rw [← e1]; exact ha1), q⟩
      refine ⟨_, rfl, _, rfl, sm ⟨y, 0, _, rfl, hy.mono s1, _, rfl, ?_⟩⟩
      rw [ofNat_sum]
      cases c2 : wholeV y 0 (cs.sum : Int) with
      | false =>
        refine iteT (kno H1 ?_ s1)
        rintro ⟨cs', s, h1, rfl, ok⟩
        rw [only cs' h1] at ok
        have e := whole_nv s cs.sum
        rw [c2, decide_eq_true ok.le] at e
        cases e
      | true =>
        refine iteF ?_
        obtain ⟨s, rfl, hs⟩ := whole_nat c2
        have ok : KOk cs s := ⟨l12, c20, hs⟩
        refine ⟨_, rfl, a, b, _, rfl, ha1, fun ct G1 sG hct => ?_⟩
        have s2 := s1.trans sG
        have hp2 := s2 _ _ hp
        refine ⟨_, rfl, p, C, dx, [], rfl, hp2, T.cl, T.nC, (by show 0 < 1000; decide), ?_⟩
        refine ⟨_, rfl, _, rfl, p, C, dx, _, rfl, upd_same, T.cl, T.nS, (by show 1 < 1000; decide), ?_⟩
        have nct : ct ≠ p := ne_of hct hp2 (by intro z; cases z)
        have f2 : putF "size" (nv s) (putF "counts" (.ref ct) []) = putF "size" (nv s) (putF "counts" (.ref ct) []) := rfl
        have lc : (putF "size" (nv s) (putF "counts" (V.ref ct) [])).lookup ("counts" : Str) = some (.ref ct) := by
          rw [lookup_putF, if_neg cs_ne, lookup_putF, if_pos rfl]
        rw [upd_upd]
        refine ⟨_, rfl, p, C, dx, _, _, rfl, upd_same, T.cl, T.nC, lc, _, rfl, ct, cs, s, rfl, (upd_ne nct).trans hct, l12, Nat.le_trans hs (sum_le_500 l12 c20), fun wt G3 s3 hwt => ?_⟩
        have hp3 := s3 _ _ (upd_same (H := G1) (a := p) (o := .ins C dx (putF "size" (nv s) (putF "counts" (.ref ct) []))))
        refine ⟨_, rfl, p, C, dx, _, rfl, hp3, T.cl, T.nW, (by show 2 < 1000; decide), ?_⟩
        obtain ⟨G4, eG4⟩ : ∃ G4, G4 = upd G3 p (.ins C dx []) := ⟨_, rfl⟩
        have eu : upd G3 p (.ins C dx (kdF ct wt s)) = upd G4 p (.ins C dx (kdF ct wt s)) := by rw [eG4, upd_upd]
        show Q .non (upd G3 p (.ins C dx (kdF ct wt s)))
        rw [eu]
        refine kok cs s ct wt G4 hcs rfl ok (fun q o e => ?_) ?_ ?_
        · rw [eG4]
          by_cases n : q = p
          · rw [n] at e ⊢
            rw [upd_same, ← e]
            exact hp.symm
          · rw [upd_ne n]
            exact s3 _ _ ((upd_ne n).trans (s2 _ _ e))
        · rw [eG4, upd_ne nct]
          exact s3 _ _ ((upd_ne nct).trans hct)
        · rw [eG4]
          exact hwt.put hp3
theorem scKMany : FnScope ["self"] ["self"] (defScope s_Kinds_many) := ⟨rfl, rfl, rfl, by decide +kernel, rfl, by decide +kernel, by decide +kernel⟩
theorem ok_kmany {f C : Addr} {fd : FuncData} (F : Fun K "many" "Kinds.many" s_Kinds_many f fd) (T : KdC K C) : FnOk P w K mg base CX0 1 f fd ["self"] (spKMany C) := by
  refine F.ok scKMany (fun vs H Q E h => ?_) (fun cdv A outer s0 H vs Q E hr h => ?_)
  · obtain ⟨p, cs, s, rfl, _⟩ := h
    rfl
  · obtain ⟨p, cs, s, rfl, hp, q⟩ := h
    obtain ⟨dx, ct, wt, hp', hct, rs, hw, hl, hrs⟩ := hp.ob
    refine ⟨_, pss_one (ps_ret (pe_ix ix_list (pe_ix ix_list (pe_fld (pv 0) rfl) pe_int (fun _ _ => rfl)) (pe_fld (pv 0) rfl) (fun _ _ => rfl))), ?_⟩
    obtain ⟨r, er⟩ : ∃ r, rs[0]? = some r := ⟨rs[0]'(by omega), List.getElem?_eq_getElem _⟩
    have hr' := hrs 0 r er
    rw [List.drop_zero] at hr'
    refine ⟨_, rfl, p, C, dx, _, _, rfl, hp', T.cl, T.nW, kdF_ways _ _ _, wt, _, 0, .ref r, rfl, rfl, SqL.of hw, at_of (j := 0) rfl (by rw [List.getElem?_map, er]; rfl), ?_⟩
    refine ⟨_, rfl, p, C, dx, _, _, rfl, hp', T.cl, T.nS, kdF_size _ _ _, r, _, (s : Int), nv (kw cs s), rfl, rfl, SqL.of hr', at_of (j := s) rfl ?_, q _ (Same.refl _)⟩
    unfold wrow
    rw [List.getElem?_map, List.getElem?_range (by omega)]
    rfl
end
structure GlbN (mg : Str → Option Value) : Prop extends GlbI mg where
  isinstance' : mg "isinstance" = none
  zip : mg "zip" = none
theorem qcut_from {xs : List V} {k : Nat} (h : k ≤ xs.length) : cutV xs (some (k : Int)) none = xs.drop k := by
  unfold cutV
  rw [HT.sIx_none, HT.sIx_nat, Nat.min_eq_left h]
  exact List.take_of_length_le (by rw [List.length_drop]; exact Nat.le_refl _)
def spHas (C : Addr) : Sp := fun vs H Q _ => ∃ (p : Addr) (cs : List Nat) (s : Nat) (one : V), vs = [.ref p, one] ∧ KdAt C H p cs s ∧ DtIn H one ∧ ∀ r H', Same H H' → (r = true ↔ ∃ rs, IsKr H one cs s rs) → Q (.bl r) H'
structure GKH (K : PySem.W.Frag) (C : Addr) (f : Addr) (fd : FuncData) : Prop where
  F : Fun K "_has" "Kinds._has" s_Kinds_has f fd
  b : Binds K fd ["self", "one"] []
  m : Meth K C "_has" f
structure GKM (K : PySem.W.Frag) (C : Addr) (f : Addr) (fd : FuncData) : Prop where
  F : Fun K "many" "Kinds.many" s_Kinds_many f fd
  b : Binds K fd ["self"] []
  m : Meth K C "many" f
theorem nvs_at {l : List Nat} {i : Nat} {x : V} (h : (l.map nv)[i]? = some x) : ∃ n, l[i]? = some n ∧ x = nv n := by
  rw [List.getElem?_map] at h
  cases e : l[i]? with
  | none => rw [e] at h; cases h
  | some n => rw [e] at h; exact ⟨n, rfl, (Option.some.inj h).symm⟩
theorem drop_at {α : Type} {l : List α} {i : Nat} {x : α} (h : l[i]? = some x) : l.drop i = x :: l.drop (i + 1) := by
  obtain ⟨h1, h2⟩ := List.getElem?_eq_some_iff.mp h
  rw [List.drop_eq_getElem_cons h1, h2]
section
variable {P : Program} {w : World} {K : PySem.W.Frag} {mg : Str → Option Value} {base : Heap}
/-! ### _has -/
theorem scHas : FnScope ["self", "one", "picked", "count"] ["self", "one"] (defScope s_Kinds_has) := ⟨rfl, rfl, rfl, by decide +kernel, rfl, by decide +kernel, by decide +kernel⟩
theorem ok_has {f fW C : Addr} {fd fdW : FuncData} (F : Fun K "_has" "Kinds._has" s_Kinds_has f fd) (G : GlbN mg) (W : GW K mg fW fdW) (T : KdC K C) : FnOk P w K mg base CX0 2 f fd ["self", "one"] (spHas C) := by
  have GWk : FnOk P w K mg base CX0 1 fW fdW ["asked", "low", "high"] spWhole := ok_whole W.F G.toGlbW
  refine F.ok scHas (fun vs H Q E h => ?_) (fun cdv A outer s0 H vs Q E hr h => ?_)
  · obtain ⟨p, cs, s, one, rfl, _⟩ := h
    rfl
  · obtain ⟨p, cs, s, one, rfl, hp, ho, q⟩ := h
    obtain ⟨dx, ct, wt, hp', hct, _⟩ := hp.ob
    refine ⟨_, pss_cons (ps_if (PW.pt (pw_or (pt_not (pt_val (pe_callB call_isiT (by rfl) G.isinstance (by decide +kernel) (pa_cons (pv 1) (pa_cons (pe_tup (pa_cons (pe_bltn (v := .ty "tuple") (by rfl) G.tuple (by decide +kernel) rfl) (pa_cons (pe_bltn (v := .ty "list") (by rfl) G.list (by decide +kernel) rfl) pa_nil))) pa_nil)))))
          (pw_or1 (pt_cmpR op_ne (pe_callB call_len_seq (by rfl) G.len PySem.boot_len (pa_cons (pv 1) pa_nil)) (pe_callB call_len_seq (by rfl) G.len PySem.boot_len (pa_cons (pe_fld (pv 0) rfl) pa_nil)) (nomark _))))) (pss_one (ps_ret pe_bl)) pss_nil)
      (pss_cons (ps_for PassesOwn.never rfl (pi_zipB (by rfl) G.zip (pa_cons (pv 1) (pa_cons (pe_fld (pv 0) rfl) pa_nil))) (pg_tup rfl (pgs_cons (pg_name (i := 2) scHas.nd rfl (Or.inl rfl)) (pgs_cons (pg_name (i := 3) scHas.nd rfl (Or.inl rfl)) pgs_nil)))
        (pss_one (ps_if (pt_not (pt_val (pe_call GWk hr rfl W.g W.F.kp W.b .nil pass0 (pa_cons (pv 2) (pa_cons pe_int (pa_cons (pv 3) pa_nil)))))) (pss_one (ps_ret pe_bl)) pss_nil)))
      (pss_one (ps_ret (pe_cmpR op_eq (pe_callB (cr_or (cr_sum rfl) (cr_sumT rfl)) (by rfl) G.sum (by decide +kernel) (pa_cons (pv 1) pa_nil)) (pe_fld (pv 0) rfl) (nomark _))))), ?_⟩
    refine ⟨one, rfl, (by show 2 ≤ sizeLine; decide), fun tp htp => ?_⟩
    have s1 : Same H (upd H tp (.tup [.ty "tuple", .ty "list"])) := same_new htp
    obtain ⟨T', r, tx, hk, hrow⟩ := (ho.1.mono s1).tyX (K := K)
    have hrow' : isRow (upd H tp (.tup [.ty "tuple", .ty "list"])) one ↔ isRow H one := by
      constructor
      · rintro ⟨a, b, xs, rfl, h⟩
        cases ho.1 with
        | row b xs h' => exact ⟨a, b, xs, rfl, h'⟩
        | dic kvs h' =>
          have := s1 _ _ h'
          rw [h] at this
          cases b <;> cases this
      · rintro ⟨a, b, xs, e, h⟩
        exact ⟨a, b, xs, e, s1 _ _ h⟩
    rw [hrow'] at hrow
    refine ⟨one, tp, _, .type T', _, r, rfl, upd_same, .cons (.ty _) (.cons (.ty _) .nil), tx, hk, r, rfl, ?_⟩
    have nok : ¬ isRow H one → ¬ ∃ rs, IsKr H one cs s rs := fun n ⟨rs, a, b, e, h1, _⟩ => n ⟨a, b, _, e, h1⟩
    cases hr' : r with
    | false =>
      rw [hr'] at hrow
      have nr : ¬ isRow H one := fun z => absurd (hrow.mpr z) (by simp)
      exact iteT (iteT (q false _ s1 ⟨fun z => (nomatch z), fun z => absurd z (nok nr)⟩))
    | true =>
      rw [hr'] at hrow
      obtain ⟨a, b, xs, rfl, ha⟩ := hrow.mp rfl
      refine iteF ?_
      have only : ∀ {rs : List Nat}, IsKr H (.ref a) cs s rs → xs = rs.map nv ∧ IsRw cs s rs := fun {rs} ⟨a', b', e, h', rw'⟩ => by
        cases e
        rw [ha] at h'
        refine ⟨?_, rw'⟩
        cases b <;> cases b' <;> first | exact HO.lst.inj (Option.some.inj h') | exact HO.tup.inj (Option.some.inj h') | cases h'
      have ha1 := s1 _ _ ha
      have sq : SqL K (upd H tp (.tup [.ty "tuple", .ty "list"])) a xs ∨ SqT K (upd H tp (.tup [.ty "tuple", .ty "list"])) a xs := by
        cases b with
        | false => exact .inl (SqL.of ha1)
        | true => exact .inr (SqT.of ha1)
      refine ⟨_, rfl, a, xs, rfl, sq, _, rfl, p, C, dx, _, _, rfl, s1 _ _ hp', T.cl, T.nC, kdF_counts _ _ _, ct, _, rfl, .inr (SqT.of (s1 _ _ hct)), rfl, _, rfl, ?_⟩
      have edec : decide (V.int (xs.length : Int) = V.int ((cs.map nv).length : Int)) = decide (xs.length = cs.length) := by
        rw [List.length_map]
        by_cases c : xs.length = cs.length
        · rw [decide_eq_true c, decide_eq_true (by rw [c])]
        · rw [decide_eq_false c]; exact decide_eq_false fun z => c (by have := V.int.inj z; omega)
      rw [edec]
      by_cases c : xs.length = cs.length
      · rw [decide_eq_true c]
        refine iteF ?_
        have ih : ∀ y ∈ xs, Dt H y := ho.2 a b xs rfl ha
        refine ⟨_, rfl, _, rfl, p, C, dx, _, _, rfl, s1 _ _ hp', T.cl, T.nC, kdF_counts _ _ _, a, ct, b, true, xs, cs.map nv, rfl, row_sq ha1, SqT.of (s1 _ _ hct), for_zipB (by rw [List.length_map]; exact c) (fun i σ H' => ∃ (rs : List Nat) (v2 v3 : Option V), σ = [some (.ref p), some (.ref a), v2, v3] ∧ Same H H' ∧ xs.take i = rs.map nv ∧ (∀ (j c r : Nat), cs[j]? = some c → rs[j]? = some r → r ≤ c))
          ⟨[], none, none, rfl, s1, rfl, fun j c r _ h => by simp at h⟩ (fun i σ H' ⟨_, _, _, _, s2, _⟩ => ⟨row_sq (s2 _ _ ha), SqT.of (s2 _ _ hct)⟩) ?_ ?_⟩
        · rintro i x y TT σ H1 hx hy ⟨rs, v2, v3, rfl, s2, et, hle⟩ hTT
          obtain ⟨cn, hcn, rfl⟩ := nvs_at hy
          have s3 := s2.trans (same_new (o := .tup [x, nv cn]) hTT)
          have dxx : Dt (upd H1 TT (.tup [x, nv cn])) x := (ih x (List.mem_of_getElem? hx)).mono s3
          refine ⟨TT, _, rfl, SqT.of upd_same, rfl, _, _, rfl, _, _, rfl, rfl, _, rfl, _, rfl, x, 0, cn, rfl, dxx, _, rfl, ?_⟩
          have lrs : rs.length = i := by
            have e := congrArg List.length et
            rw [List.length_map, List.length_take] at e
            have := (List.getElem?_eq_some_iff.mp hx).1
            omega
          cases hw : wholeV x 0 cn with
          | false =>
            refine iteT (q false _ s3 ⟨fun z => (nomatch z), fun ⟨rs', k⟩ => ?_⟩)
            obtain ⟨e1, e2⟩ := only k
            rw [e1] at hx
            obtain ⟨r, hr1, rfl⟩ := nvs_at hx
            have h20 := e2.le i cn r hcn hr1
            have e := whole_nv r cn
            rw [hw, decide_eq_true h20] at e
            cases e
          | true =>
            refine iteF ?_
            obtain ⟨r, rfl, hrn⟩ := whole_nat hw
            refine ⟨rs ++ [r], _, _, rfl, s3, by rw [List.take_add_one, et, hx, List.map_append]; rfl, fun j c' r' h1 h2 => ?_⟩
            by_cases hj : j < rs.length
            · rw [List.getElem?_append_left hj] at h2
              exact hle j c' r' h1 h2
            · have hj2 : j = rs.length := by
                have := (List.getElem?_eq_some_iff.mp h2).1
                rw [List.length_append] at this
                have : j < rs.length + 1 := this
                omega
              rw [hj2, List.getElem?_append_right (Nat.le_refl _), Nat.sub_self] at h2
              cases h2
              rw [hj2, lrs, hcn] at h1
              cases h1
              exact hrn
        · rintro σ H1 ⟨rs, v2, v3, rfl, s2, et, hle⟩
          rw [List.take_length] at et
          have ha2 := s2 _ _ ha
          rw [et] at ha2
          have e1 := nvs_ints rs
          have sm : ∀ {Q : VK}, Q (.int ((rs.map Int.ofNat).sum)) H1 → (rSum K [.ref a] H1 Q ∨ rSumT K [.ref a] H1 Q) := fun {Q} q => by
            cases b with
            | false => exact .inl ⟨a, rs.map Int.ofNat, rfl, SqL.of (by rw [← e1]; exact ha2), q⟩
            | true => exact .inr ⟨a, rs.map Int.ofNat, rfl, SqT.of (by rw [← e1]; exact ha2), q⟩
          refine ⟨_, rfl, sm ⟨_, rfl, p, C, dx, _, _, rfl, s2 _ _ hp', T.cl, T.nS, kdF_size _ _ _, rfl, ?_⟩⟩
          refine q _ _ s2 ?_
          rw [ofNat_sum, decide_eq_true_eq]
          have lrs : rs.length = cs.length := by
            have e := congrArg List.length et
            rw [List.length_map] at e
            omega
          constructor
          · intro z
            have es : rs.sum = s := by have := V.int.inj z; omega
            exact ⟨rs, a, b, rfl, by rw [← et]; exact ha, by rw [← es]; exact isRw_of lrs hle⟩
          · rintro ⟨rs', k⟩
            obtain ⟨e2, e3⟩ := only k
            have e4 : rs = rs' := nvs_inj (by rw [← et, e2])
            rw [e4, e3.sum]
            rfl
      · rw [decide_eq_false c]
        refine iteT (q false _ s1 ⟨fun z => (nomatch z), fun ⟨rs', k⟩ => ?_⟩)
        obtain ⟨e1, e2⟩ := only k
        have := e2.len
        rw [e1, List.length_map] at c
        exact (c this).elim
/-! ### number -/
theorem scKNumber : FnScope ["self", "one", "place", "rest", "later", "picked"] ["self", "one"] (defScope s_Kinds_number) := ⟨rfl, rfl, rfl, by decide +kernel, rfl, by decide +kernel, by decide +kernel⟩
theorem ok_knumber {f fH fW C CP : Addr} {fd fdH fdW : FuncData} (F : Fun K "number" "Kinds.number" s_Kinds_number f fd) (G : GlbN mg) (W : GW K mg fW fdW) (Hs : GKH K C fH fdH) (T : KdC K C) (xP : ExT K mg "NoPick" CP) :
    FnOk P w K mg base (L2.CX P w) 3 f fd ["self", "one"] (spKNumber C CP) := by
  have GHk : FnOk P w K mg base CX0 2 fH fdH ["self", "one"] (spHas C) := ok_has Hs.F G W T
  refine F.okX scKNumber (fun vs H Q E h => ?_) (fun cdv A outer s0 H vs Q E hr h => ?_)
  · obtain ⟨p, cs, s, one, rfl, _⟩ := h
    rfl
  · obtain ⟨p, cs, s, one, rfl, hp, ho, kok, kno⟩ := h
    obtain ⟨dx, ct, wt, hp', hct, ws, hwt, hwl, hws⟩ := hp.ob
    refine ⟨_, pss_cons (ps_if (pt_not (pt_val (pe_meth (pv 0) T.cl Hs.m GHk hr Hs.b .nil pass0 (pa_cons (pv 1) pa_nil)))) (pss_one (ps_raise rfl (takes_of rfl rfl rfl rfl) (pmk_own PySem.F.excBase_ValueError xP.x xP.g xP.kp (raises_own xP.b xP.t) (by rfl)))) pss_nil)
      (PSs.nox (pss_cons (ps_set (i := 2) scKNumber.nd rfl (Or.inl rfl) pe_int)
      (pss_cons (ps_set (i := 3) scKNumber.nd rfl (Or.inl rfl) (pe_fld (pv 0) rfl))
      (pss_cons (ps_for PassesOwn.never rfl (pi_zipB (by rfl) G.zip (pa_cons (pe_slice sl_list (pe_fld (pv 0) rfl) (po_some pe_int) po_none) (pa_cons (pv 1) pa_nil))) (pg_tup rfl (pgs_cons (pg_name (i := 4) scKNumber.nd rfl (Or.inl rfl)) (pgs_cons (pg_name (i := 5) scKNumber.nd rfl (Or.inl rfl)) pgs_nil)))
        (pss_cons (ps_aug (i := 2) scKNumber.nd rfl (.inl rfl) (pe_callB (cr_sum rfl) (by rfl) G.sum (by decide +kernel) (pa_cons (pe_slice sl_list (pv 4) (po_some (pe_op op_add (pe_op op_sub (pv 3) (pv 5)) pe_int)) (po_some (pe_op op_add (pv 3) pe_int))) pa_nil)) ip_add)
        (pss_one (ps_aug (i := 3) scKNumber.nd rfl (.inl rfl) (pv 5) ip_sub))))
      (pss_one (ps_ret (pv 2))))))), ?_⟩
    refine ⟨_, rfl, p, dx, _, rfl, hp', kdF_no _ _ _ (by decide +kernel) (by decide +kernel), one, rfl, p, cs, s, one, rfl, hp, ho, fun r H1 s1 hr1 => ⟨_, rfl, ?_⟩⟩
    cases hr' : r with
    | false => exact iteT (kno _ (fun z => by rw [hr1.mpr z] at hr'; cases hr') s1)
    | true =>
      refine iteF ?_
      obtain ⟨rs, krs⟩ := hr1.mp hr'
      obtain ⟨a, b, rfl, ha, hrw⟩ := id krs
      have lrs := hrw.len
      refine ⟨_, rfl, p, C, dx, _, _, rfl, s1 _ _ hp', T.cl, T.nS, kdF_size _ _ _, ?_⟩
      refine ⟨_, rfl, p, C, dx, _, _, rfl, s1 _ _ hp', T.cl, T.nW, kdF_ways _ _ _, 1, rfl, wt, _, rfl, SqL.of (s1 _ _ hwt), fun z hz => ?_⟩
      have ecut : cutV (ws.map V.ref) (some (1 : Int)) none = (ws.drop 1).map V.ref := by
        rw [show (1 : Int) = ((1 : Nat) : Int) from rfl, qcut_from (by rw [List.length_map]; omega), List.map_drop]
      have s2 := s1.trans (same_new (o := .lst (cutV (ws.map V.ref) (some (1 : Int)) none)) hz)
      have hz2 : upd H1 z (.lst (cutV (ws.map V.ref) (some (1 : Int)) none)) z = some (.lst ((ws.drop 1).map V.ref)) := by rw [upd_same, ecut]
      obtain ⟨H2, eH2⟩ : ∃ H2, H2 = upd H1 z (.lst (cutV (ws.map V.ref) (some (1 : Int)) none)) := ⟨_, rfl⟩
      rw [← eH2] at s2 hz2
      have onH : ∀ (X : Hp → Prop), X H2 → X (upd H1 z (.lst (cutV (ws.map V.ref) (some (1 : Int)) none))) := fun X h => by rw [eH2] at h; exact h
      refine onH (fun Hx => _) ?_
      have lz : ((ws.drop 1).map V.ref).length = (rs.map nv).length := by rw [List.length_map, List.length_drop, List.length_map]; omega
      refine ⟨_, rfl, z, a, false, b, (ws.drop 1).map V.ref, rs.map nv, rfl, SqL.of hz2, row_sq (s2 _ _ ha), for_zipB lz (fun i σ H' => ∃ (pl re : Nat) (v4 v5 : Option V), σ = [some (.ref p), some (.ref a), some (nv pl), some (nv re), v4, v5] ∧ i ≤ cs.length ∧ re ≤ s ∧ IsRw (cs.drop i) re (rs.drop i) ∧ krk cs s rs = pl + krk (cs.drop i) re (rs.drop i) ∧ Same H2 H')
        ⟨0, s, none, none, rfl, Nat.zero_le _, Nat.le_refl _, hrw, by rw [Nat.zero_add]; rfl, Same.refl _⟩ (fun i σ H' ⟨_, _, _, _, _, _, _, _, _, s3⟩ => ⟨SqL.of (s3 _ _ hz2), row_sq (s3 _ _ (s2 _ _ ha))⟩) ?_ ?_⟩
      · rintro i x y TT σ H3 hx hy ⟨pl, re, v4, v5, rfl, _, hre, hwi, hkr, s3⟩ hTT
        obtain ⟨rn, hrn, rfl⟩ := nvs_at hy
        have hi : i < cs.length := by have := (List.getElem?_eq_some_iff.mp hrn).1; omega
        obtain ⟨cn, hcn⟩ : ∃ cn, cs[i]? = some cn := ⟨cs[i], List.getElem?_eq_getElem hi⟩
        have d1 := drop_at hrn
        have d2 := drop_at hcn
        rw [d1, d2] at hwi hkr
        have hle := hwi.2.1
        rw [List.getElem?_map, List.getElem?_drop] at hx
        obtain ⟨wr, hwr, rfl⟩ : ∃ wr, ws[1 + i]? = some wr ∧ x = .ref wr := by
          cases e : ws[1 + i]? with
          | none => rw [e] at hx; cases hx
          | some wr => rw [e] at hx; exact ⟨wr, rfl, (Option.some.inj hx).symm⟩
        have s4 := s3.trans (same_new (o := .tup [V.ref wr, nv rn]) hTT)
        have hwr2 : upd H3 TT (.tup [V.ref wr, nv rn]) wr = some (.lst (wrow (cs.drop (i + 1)) s)) := by
          have q := s4 _ _ (s2 _ _ (hws (1 + i) wr hwr))
          rw [show i + 1 = 1 + i by omega]
          exact q
        refine ⟨TT, _, rfl, SqT.of upd_same, rfl, _, _, rfl, _, _, rfl, rfl, ?_⟩
        have elo : (re : Int) - (rn : Int) + 1 = ((re - rn + 1 : Nat) : Int) := by omega
        have ehi : (re : Int) + 1 = ((re + 1 : Nat) : Int) := by omega
        have ec2 : cutV (wrow (cs.drop (i + 1)) s) (some ((re : Int) - (rn : Int) + 1)) (some ((re : Int) + 1)) = (((((List.range (s + 1)).map (kw (cs.drop (i + 1)))).drop (re - rn + 1)).take rn).map Int.ofNat).map V.int := by
          rw [elo, ehi, qcut_mid (by omega) (by rw [wrow_len]; omega), wrow_map, ← List.map_drop, ← List.map_take, nvs_ints]
          congr 3
          omega
        refine ⟨_, rfl, _, rfl, _, rfl, _, rfl, _, _, rfl, rfl, _, _, rfl, rfl, _, rfl, _, rfl, _, _, rfl, rfl, _, rfl, wr, _, rfl, SqL.of hwr2, fun ls hls => ?_⟩
        refine ⟨ls, ((((List.range (s + 1)).map (kw (cs.drop (i + 1)))).drop (re - rn + 1)).take rn).map Int.ofNat, rfl, SqL.of (by rw [← ec2]; exact upd_same), ?_⟩
        rw [ofNat_sum, qcut_sum _ s (re - rn + 1) rn (by omega), qsm_rev]
        have esm : sm (fun i_1 => kw (cs.drop (i + 1)) (re - rn + 1 + (rn - 1 - i_1))) rn = sm (kf (cs.drop (i + 1)) re) rn := by
          refine sm_congr fun j hj => ?_
          show _ = (if j ≤ re then kw (cs.drop (i + 1)) (re - j) else 0)
          rw [if_pos (by omega)]
          congr 1
          omega
        rw [esm]
        have s5 := s4.trans (same_new (o := .lst (cutV (wrow (cs.drop (i + 1)) s) (some ((re : Int) - (rn : Int) + 1)) (some ((re : Int) + 1)))) hls)
        refine ⟨_, _, rfl, rfl, _, rfl, _, rfl, _, _, rfl, rfl, pl + sm (kf (cs.drop (i + 1)) re) rn, re - rn, some (.ref wr), some (nv rn), ?_, by omega, by omega, hwi.2.2, ?_, s5⟩
        · have e1 : (pl : Int) + ((sm (kf (cs.drop (i + 1)) re) rn : Nat) : Int) = ((pl + sm (kf (cs.drop (i + 1)) re) rn : Nat) : Int) := by omega
          have e2 : (re : Int) - (rn : Int) = ((re - rn : Nat) : Int) := by omega
          show [_, _, some (V.int ((pl : Int) + ((sm (kf (cs.drop (i + 1)) re) rn : Nat) : Int))), some (V.int ((re : Int) - (rn : Int))), _, _] = _
          rw [e1, e2]
          rfl
        · rw [hkr]
          show pl + (sm (kf (cs.drop (i + 1)) re) rn + krk (cs.drop (i + 1)) (re - rn) (rs.drop (i + 1))) = _
          omega
      · rintro σ H3 ⟨pl, re, v4, v5, rfl, _, _, _, hkr, s3⟩
        have e1 : ((ws.drop 1).map V.ref).length = cs.length := by rw [List.length_map, List.length_drop]; omega
        rw [e1, List.drop_length] at hkr
        have e2 : krk cs s rs = pl := by
          rw [hkr]
          show pl + krk [] re _ = pl
          cases rs.drop cs.length <;> rfl
        refine ⟨_, rfl, ?_⟩
        rw [← e2]
        exact kok rs _ krs (s2.trans s3)
end
/-! ### at -/
section
variable {P : Program} {w : World} {K : PySem.W.Frag} {mg : Str → Option Value} {base : Heap}
theorem scKAt : FnScope ["self", "number", "row", "place", "rest", "later", "picked"] ["self", "number"] (defScope s_Kinds_at) := ⟨rfl, rfl, rfl, by decide +kernel, rfl, by decide +kernel, by decide +kernel⟩
theorem pkf_le {cs : List Nat} {s k c : Nat} (h : k < sm (kf cs s) (c + 1)) : pkf (kf cs s) k c ≤ c ∧ pkf (kf cs s) k c ≤ s ∧ sm (kf cs s) (pkf (kf cs s) k c) ≤ k ∧ k < sm (kf cs s) (pkf (kf cs s) k c + 1) := by
  have ⟨x, y, z⟩ := pkf_spec (f := kf cs s) (k := k) c h
  refine ⟨x, ?_, y, z⟩
  apply Classical.byContradiction
  intro q
  have e : kf cs s (pkf (kf cs s) k c) = 0 := if_neg q
  have zz : sm (kf cs s) (pkf (kf cs s) k c + 1) = sm (kf cs s) (pkf (kf cs s) k c) + kf cs s (pkf (kf cs s) k c) := rfl
  omega
def whileK (b : Nat) : L2.St → Hp → Nat := fun σ' _ => match σ'[6]? with | some (some (V.int t)) => b - t.toNat | _ => 0
theorem ok_kat {f fW fM C CN : Addr} {fd fdW fdM : FuncData} (F : Fun K "at" "Kinds.at" s_Kinds_at f fd) (G : GlbN mg) (W : GW K mg fW fdW) (M : GKM K C fM fdM) (T : KdC K C) (xN : ExT K mg "NoNumber" CN) :
    FnOk P w K mg base (L2.CX P w) 2 f fd ["self", "number"] (spKAt C CN) := by
  have GWk : FnOk P w K mg base CX0 1 fW fdW ["asked", "low", "high"] spWhole := ok_whole W.F G.toGlbW
  have GMk : FnOk P w K mg base CX0 1 fM fdM ["self"] (spKMany C) := ok_kmany M.F T
  refine F.okX scKAt (fun vs H Q E h => ?_) (fun cdv A outer s0 H vs Q E hr h => ?_)
  · obtain ⟨p, cs, s, x, rfl, _⟩ := h
    rfl
  · obtain ⟨p, cs, s, x, rfl, hp, hx, kok, kno⟩ := h
    obtain ⟨dx, ct, wt, hp', hct, ws, hwt, hwl, hws⟩ := hp.ob
    refine ⟨_, pss_cons (ps_if (pt_not (pt_val (pe_call GWk hr rfl W.g W.F.kp W.b .nil pass0 (pa_cons (pv 1) (pa_cons pe_int (pa_cons (pe_op op_sub (pe_meth0 (pv 0) T.cl M.m GMk hr M.b .nil pass0) pe_int) pa_nil))))))
        (pss_one (ps_raise rfl (takes_of rfl rfl rfl rfl) (pmk_own PySem.F.excBase_ValueError xN.x xN.g xN.kp (raises_own xN.b xN.t) (by rfl)))) pss_nil)
      (PSs.nox (pss_cons (ps_set (i := 2) scKAt.nd rfl (Or.inl rfl) (pe_lst pa_nil))
      (pss_cons (ps_set (i := 3) scKAt.nd rfl (Or.inl rfl) (pv 1))
      (pss_cons (ps_set (i := 4) scKAt.nd rfl (Or.inl rfl) (pe_fld (pv 0) rfl))
      (pss_cons (ps_for PassesOwn.never rfl (pi_list (pe_slice sl_list (pe_fld (pv 0) rfl) (po_some pe_int) po_none)) (pg_name (i := 5) scKAt.nd rfl (Or.inl rfl))
        (pss_cons (ps_set (i := 6) scKAt.nd rfl (Or.inl rfl) pe_int)
        (pss_cons (ps_while PassesOwn.never (pt_cmpR op_ge (pv 3) (pe_ix ix_list (pv 5) (pe_op op_sub (pv 4) (pv 6)) (fun _ _ => rfl)) (nomark _))
          (pss_cons (ps_aug (i := 3) scKAt.nd rfl (.inl rfl) (pe_ix ix_list (pv 5) (pe_op op_sub (pv 4) (pv 6)) (fun _ _ => rfl)) ip_sub)
          (pss_one (ps_aug (i := 6) scKAt.nd rfl (.inl rfl) pe_int ip_add))))
        (pss_cons (ps_expr (pe_bm PySem.F.plainAttrs_list PySem.F.slot_list_append PySem.F.type_list_append mt_append (pv 2) (pa_cons (pv 6) pa_nil)))
        (pss_one (ps_aug (i := 4) scKAt.nd rfl (.inl rfl) (pv 6) ip_sub))))))
      (pss_one (ps_ret (pe_callTy call_tuple_of (by rfl) G.tuple (by decide +kernel) (pa_cons (pv 2) pa_nil))))))))), ?_⟩
    refine ⟨_, rfl, _, rfl, p, dx, _, rfl, hp', kdF_no _ _ _ (by decide +kernel) (by decide +kernel), p, cs, s, rfl, hp, fun H1 s1 => ?_⟩
    refine ⟨_, _, rfl, rfl, x, 0, _, rfl, hx.mono s1, _, rfl, ?_⟩
    cases c : wholeV x 0 ((kw cs s : Int) - 1) with
    | false =>
      refine iteT (kno _ ?_ s1)
      rintro ⟨i, rfl, hi⟩
      have c' : (decide ((0 : Int) ≤ (i : Int)) && decide ((i : Int) ≤ (kw cs s : Int) - 1)) = false := c
      rw [decide_eq_true (by omega), decide_eq_true (by omega)] at c'
      cases c'
    | true =>
      refine iteF ?_
      obtain ⟨i, rfl, hi⟩ : ∃ i : Nat, x = nv i ∧ i < kw cs s := by
        cases x with
        | int i =>
          have c' : (decide (0 ≤ i) && decide (i ≤ (kw cs s : Int) - 1)) = true := c
          rw [Bool.and_eq_true, decide_eq_true_eq, decide_eq_true_eq] at c'
          exact ⟨i.toNat, congrArg V.int (show i = (i.toNat : Int) by omega), by omega⟩
        | _ => exact absurd (show false = true from c) Bool.false_ne_true
      have kk := kok i
      refine ⟨Nat.zero_le _, fun l hl => ?_⟩
      have s2 : Same H (upd H1 l (.lst [])) := s1.trans (same_new hl)
      have hlH : H l = none := s1.free hl
      refine ⟨_, rfl, _, rfl, p, C, dx, _, _, rfl, s2 _ _ hp', T.cl, T.nS, kdF_size _ _ _, ?_⟩
      refine ⟨_, rfl, p, C, dx, _, _, rfl, s2 _ _ hp', T.cl, T.nW, kdF_ways _ _ _, 1, rfl, wt, _, rfl, SqL.of (s2 _ _ hwt), fun z hz => ?_⟩
      have ecut : cutV (ws.map V.ref) (some (1 : Int)) none = (ws.drop 1).map V.ref := by
        rw [show (1 : Int) = ((1 : Nat) : Int) from rfl, qcut_from (by rw [List.length_map]; omega), List.map_drop]
      have nzl : z ≠ l := fun e => by rw [e, upd_same] at hz; cases hz
      have s3 := s2.trans (same_new (o := .lst (cutV (ws.map V.ref) (some (1 : Int)) none)) hz)
      have hz2 : upd (upd H1 l (.lst [])) z (.lst (cutV (ws.map V.ref) (some (1 : Int)) none)) z = some (.lst ((ws.drop 1).map V.ref)) := by rw [upd_same, ecut]
      have hl2 : upd (upd H1 l (.lst [])) z (.lst (cutV (ws.map V.ref) (some (1 : Int)) none)) l = some (.lst []) := by rw [upd_ne (Ne.symm nzl)]; exact upd_same
      obtain ⟨H2, eH2⟩ : ∃ H2, H2 = upd (upd H1 l (.lst [])) z (.lst (cutV (ws.map V.ref) (some (1 : Int)) none)) := ⟨_, rfl⟩
      rw [← eH2] at s3 hz2 hl2
      have onH : ∀ (X : Hp → Prop), X H2 → X (upd (upd H1 l (.lst [])) z (.lst (cutV (ws.map V.ref) (some (1 : Int)) none))) := fun X h => by rw [eH2] at h; exact h
      refine onH (fun Hx => _) ?_
      have lz : ((ws.drop 1).map V.ref).length = cs.length := by rw [List.length_map, List.length_drop]; omega
      have l12 := hp.ok.l12
      refine ⟨z, rfl, ⟨_, SqL.of hz2⟩, for_list (K := K) (a := z) (xs := (ws.drop 1).map V.ref) (fun j σ H' => ∃ (gs : List Nat) (pl re : Nat) (v5 v6 : Option V), σ = [some (.ref p), some (nv i), some (.ref l), some (nv pl), some (nv re), v5, v6] ∧ j ≤ cs.length ∧ gs.length = j ∧ re ≤ s ∧ pl < kw (cs.drop j) re ∧ kun cs s i = gs ++ kun (cs.drop j) re pl ∧
          H' l = some (.lst (gs.map nv)) ∧ H' z = some (.lst ((ws.drop 1).map V.ref)) ∧ Same H H')
        ⟨[], i, s, none, none, rfl, Nat.zero_le _, rfl, Nat.le_refl _, hi, rfl, hl2, hz2, s3⟩ (fun j σ G _ ⟨_, _, _, _, _, _, _, _, _, _, _, _, g, _⟩ => SqL.of g) ?_ ?_⟩
      · rintro j y σ H3 hy ⟨gs, pl, re, v5, v6, rfl, _, hgs, hre, hpl, hun, hl3, hz3, s4⟩
        have hj : j < cs.length := by have := (List.getElem?_eq_some_iff.mp hy).1; omega
        obtain ⟨cn, hcn⟩ : ∃ cn, cs[j]? = some cn := ⟨cs[j], List.getElem?_eq_getElem hj⟩
        have d2 := drop_at hcn
        rw [d2] at hpl hun
        rw [List.getElem?_map, List.getElem?_drop] at hy
        obtain ⟨wr, hwr, rfl⟩ : ∃ wr, ws[1 + j]? = some wr ∧ y = .ref wr := by
          cases e : ws[1 + j]? with
          | none => rw [e] at hy; cases hy
          | some wr => rw [e] at hy; exact ⟨wr, rfl, (Option.some.inj hy).symm⟩
        obtain ⟨rest, erest⟩ : ∃ rest, rest = cs.drop (j + 1) := ⟨_, rfl⟩
        have hwr0 : H wr = some (.lst (wrow rest s)) := by
          rw [erest, show j + 1 = 1 + j by omega]
          exact hws (1 + j) wr hwr
        have hwr3 := s4 _ _ hwr0
        rw [← erest] at hpl hun
        have hpl' : pl < sm (kf rest re) (cn + 1) := hpl
        have ⟨p1, p2, p3, p4⟩ := pkf_le hpl'
        obtain ⟨rr, err⟩ : ∃ rr, rr = pkf (kf rest re) pl cn := ⟨_, rfl⟩
        rw [← err] at p1 p2 p3 p4
        refine while_by (fun σ' H' => H' = H3 ∧ ∃ t : Nat, σ' = [some (.ref p), some (nv i), some (.ref l), some (.int ((pl - sm (kf rest re) t : Nat) : Int)), some (nv re), some (.ref wr), some (nv t)] ∧ t ≤ rr ∧ sm (kf rest re) t ≤ pl) (whileK rr) ⟨rfl, 0, by rw [show sm (kf rest re) 0 = 0 from rfl, Nat.sub_zero]; rfl, Nat.zero_le _, Nat.zero_le _⟩ ?_ ?_
        · rintro σ' H' ⟨rfl, t, rfl, ht, hsm⟩
          have ekf : kf rest re t = kw rest (re - t) := if_pos (by omega)
          have est : sm (kf rest re) (t + 1) = sm (kf rest re) t + kf rest re t := rfl
          have eix : (re : Int) - (t : Int) = ((re - t : Nat) : Int) := by omega
          have hat : (wrow rest s)[re - t]? = some (nv (kw rest (re - t))) := by
            unfold wrow
            rw [List.getElem?_map, List.getElem?_range (by omega)]
            rfl
          refine ⟨_, rfl, _, rfl, _, rfl, _, rfl, _, _, rfl, rfl, wr, _, _, nv (kw rest (re - t)), rfl, rfl, SqL.of hwr3, at_of (j := re - t) eix hat, _, _, rfl, rfl, _, rfl, ?_⟩
          by_cases cc : sm (kf rest re) (t + 1) ≤ pl
          · refine if_true_of (decide_eq_true (show ((kw rest (re - t) : Nat) : Int) ≤ ((pl - sm (kf rest re) t : Nat) : Int) by omega)) ?_
            refine ⟨_, rfl, _, rfl, _, rfl, _, rfl, _, _, rfl, rfl, wr, _, _, nv (kw rest (re - t)), rfl, rfl, SqL.of hwr3, at_of (j := re - t) eix hat, _, _, rfl, rfl, _, rfl, _, _, rfl, rfl, ⟨rfl, t + 1, ?_, ?_, cc⟩, ?_⟩
            · have e1 : ((pl - sm (kf rest re) t : Nat) : Int) - ((kw rest (re - t) : Nat) : Int) = ((pl - sm (kf rest re) (t + 1) : Nat) : Int) := by omega
              show [_, _, _, some (V.int (((pl - sm (kf rest re) t : Nat) : Int) - ((kw rest (re - t) : Nat) : Int))), _, _, some (V.int ((t : Int) + 1))] = _
              rw [e1]
              rfl
            · apply Classical.byContradiction
              intro q
              have := sm_mono (f := kf rest re) (show rr + 1 ≤ t + 1 by omega)
              omega
            · have ht2 : t < rr := by
                apply Classical.byContradiction
                intro q
                have := sm_mono (f := kf rest re) (show rr + 1 ≤ t + 1 by omega)
                omega
              show rr - ((t : Int) + 1).toNat < rr - ((t : Int)).toNat
              omega
          · refine if_false_of (decide_eq_false (show ¬ ((kw rest (re - t) : Nat) : Int) ≤ ((pl - sm (kf rest re) t : Nat) : Int) by omega)) ?_
            have etr : t = rr := pkf_one hsm (by omega) p3 p4
            subst etr
            refine ⟨_, rfl, .inl ⟨rfl, _, SqL.of hl3⟩, _, rfl, l, _, _, rfl, rfl, hl3, (by rw [List.length_map]; exact small1000 (by omega)), ?_⟩
            refine ⟨_, rfl, _, rfl, _, _, rfl, rfl, gs ++ [t], pl - sm (kf rest re) t, re - t, some (.ref wr), some (nv t), ?_, by omega, by rw [List.length_append, hgs]; rfl, by omega, ?_, ?_, ?_, ?_, fun b o e => ?_⟩
            · show [_, _, _, _, some (V.int ((re : Int) - (t : Int))), _, _] = _
              rw [eix]
              rfl
            · rw [← erest]
              omega
            · rw [hun, ← erest, List.append_assoc]
              congr 1
              show pkf (kf rest re) pl cn :: kun rest (re - pkf (kf rest re) pl cn) (pl - sm (kf rest re) (pkf (kf rest re) pl cn)) = _
              rw [← err]
              rfl
            · rw [upd_same, List.map_append]; rfl
            · rw [upd_ne nzl]
              exact hz3
            · rw [upd_ne (ne_of_none e hlH)]
              exact s4 _ _ e
        · rintro σ' H' Q1 Q2 mono ⟨v1, e1, v2, e2, v3, e3, v4, e4, a1, b1, e5, e6, q1, q2, q3, q4, e7, e8, e9, e10, a2, b2, e11, e12, k1, e13, h⟩
          exact ⟨v1, e1, v2, e2, v3, e3, v4, e4, a1, b1, e5, e6, q1, q2, q3, q4, e7, e8, e9, e10, a2, b2, e11, e12, k1, e13, mono _ _ h⟩
      · rintro σ H3 ⟨gs, pl, re, v5, v6, rfl, _, hgs, hre, hpl, hun, hl3, hz3, s4⟩
        rw [lz, List.drop_length] at hun
        have hun' : kun cs s i = gs := by rw [hun]; exact List.append_nil _
        refine ⟨_, rfl, l, _, rfl, .inl ⟨SqL.of hl3, fun r hr1 => kk r _ rfl hi (s4.trans (same_new hr1)) (s4.free hr1) ?_⟩⟩
        rw [upd_same, hun']
end
theorem fn_cx {P : Program} {w : World} {K : PySem.W.Frag} {mg : Str → Option Value} {base : Heap} {k : Nat} {f : Addr} {fd : FuncData} {ps : List Str} {sp : Sp} (F : FnOk P w K mg base CX0 k f fd ps sp) : FnOk P w K mg base (L2.CX P w) k f fd ps sp :=
  ⟨F.len, fun A outer s H args us vs Q E hr e0 hb r hsp => codeAny_mono (F.run A outer s H args us vs Q E hr e0 hb r hsp) fun r s' h => by
    cases r with
    | error e => exact h.elim
    | ok fl => cases fl <;> exact h⟩
theorem hasM {P : Program} {w : World} {K : PySem.W.Frag} {mg : Str → Option Value} {base : Heap} {C f : Addr} {fd : FuncData} {x : Str} {ps : List Str} {k l : Nat} {sp : Sp} (m : Meth K C x f) (b : Binds K fd ("self" :: ps) []) (F : FnOk P w K mg base (L2.CX P w) k f fd ("self" :: ps) sp) (h : k ≤ l) : HasM P w K mg base C x ps l sp :=
  ⟨k, h, f, fd, m, b, F⟩
theorem hasM0 {P : Program} {w : World} {K : PySem.W.Frag} {mg : Str → Option Value} {base : Heap} {C f : Addr} {fd : FuncData} {x : Str} {ps : List Str} {k l : Nat} {sp : Sp} (m : Meth K C x f) (b : Binds K fd ("self" :: ps) []) (F : FnOk P w K mg base CX0 k f fd ("self" :: ps) sp) (h : k ≤ l) : HasM P w K mg base C x ps l sp :=
  hasM m b (fn_cx F) h
end Dp
namespace Dp
open PySem PySem.Spec PyProof.Rows L2 DpR
/-! ### what the top has written -/
theorem all_mk {l : PySem.W.OpenLaw} {w : World} {K : PySem.W.Frag} {h : Heap} {mg : Str → Option Value} {fa N f1 f2 f3 f4 f5 CB CP CN f6 f7 f8 f9 f10 f11 f12 f13 f14 f15 PE CC CT cT tb : Addr} (X : K.In h) (G : h.Ns mainGlobals mg) (hfa : mg "law" = some (.ref fa)) (hTab : TabOf K mg "are_counts" h)
    {od1 an1 od2 an2 od3 an3 od4 an4 od5 an5 od6 an6 od7 an7 od8 an8 od9 an9 od10 an10 od11 an11 od12 an12 od13 an13 od14 an14 od15 an15 : Option Addr} {sl1 sl2 sl3 sl4 sl5 sl6 sl7 sl8 sl9 sl10 sl11 sl12 sl13 sl14 sl15 : Array (Option Value)} {oc1 kV1 dc1 pm1 cd1 ct1 oc2 kV2 dc2 pm2 cd2 ct2 oc3 kV3 dc3 pm3 cd3 ct3 oc4 kV4 dc4 pm4 cd4 ct4 oc5 kV5 dc5 pm5 cd5 ct5 oc6 kV6 dc6 pm6 cd6 ct6 oc7 kV7 dc7 pm7 ct7 oc8 kV8 dc8 pm8 cd8 ct8 oc9 kV9 dc9 pm9 cd9 ct9 oc10 kV10 dc10 pm10 cd10 ct10 oc11 kV11 dc11 pm11 cd11 ct11 oc12 kV12 dc12 pm12 cd12 ct12 oc13 kV13 dc13 pm13 cd13 ct13 oc14 kV14 dc14 pm14 cd14 ct14 oc15 kV15 dc15 pm15 cd15 ct15 : Value} {tk to : Tok} {ce : Value} {cdd : Option Addr} {cvs : Array Value} {csl : Array (Option Value)}
    (aN : PySem.W.nsIn K mainGlobals "Kinds" = some (some (.ref N)))
    (pgN : PySem.W.plainGet K N Str.empty = true)
    (hdN : PySem.W.hasDictIn K N = true)
    (poN : PySem.W.plainOver K N = true)
    (saN : PySem.W.findIn K (.ref N) "__setattr__" = some (some (.builtin "object.__setattr__")))
    (mkN : PySem.W.makesIn K N = true)
    (kpN : PySem.W.keepIn K (.ref N) = true)
    (nfN0 : PySem.W.findIn K (.ref N) "counts" = some none)
    (nfN1 : PySem.W.findIn K (.ref N) "size" = some none)
    (nfN2 : PySem.W.findIn K (.ref N) "_ways" = some none)
    (a1 : PySem.W.findIn K (.ref N) "__init__" = some (some (.ref f1)))
    (i1 : PySem.W.isFn K (.ref f1) = true)
    (l1 : K.lookup f1 = some ⟨oc1, od1, .func (PySem.W.fnOf "__init__" "Kinds.__init__" (defArgs s_Kinds_init) (defBody s_Kinds_init) (defScope s_Kinds_init) .none kV1 dc1 pm1 an1 cd1 ct1), sl1⟩)
    (c1 : PySem.W.codeIn K cd1 "Kinds.__init__" = true)
    (k1 : PySem.W.keepIn K (.ref f1) = true)
    (a2 : PySem.W.findIn K (.ref N) "many" = some (some (.ref f2)))
    (i2 : PySem.W.isFn K (.ref f2) = true)
    (l2 : K.lookup f2 = some ⟨oc2, od2, .func (PySem.W.fnOf "many" "Kinds.many" (defArgs s_Kinds_many) (defBody s_Kinds_many) (defScope s_Kinds_many) .none kV2 dc2 pm2 an2 cd2 ct2), sl2⟩)
    (c2 : PySem.W.codeIn K cd2 "Kinds.many" = true)
    (k2 : PySem.W.keepIn K (.ref f2) = true)
    (a3 : PySem.W.findIn K (.ref N) "number" = some (some (.ref f3)))
    (i3 : PySem.W.isFn K (.ref f3) = true)
    (l3 : K.lookup f3 = some ⟨oc3, od3, .func (PySem.W.fnOf "number" "Kinds.number" (defArgs s_Kinds_number) (defBody s_Kinds_number) (defScope s_Kinds_number) .none kV3 dc3 pm3 an3 cd3 ct3), sl3⟩)
    (c3 : PySem.W.codeIn K cd3 "Kinds.number" = true)
    (k3 : PySem.W.keepIn K (.ref f3) = true)
    (a4 : PySem.W.findIn K (.ref N) "at" = some (some (.ref f4)))
    (i4 : PySem.W.isFn K (.ref f4) = true)
    (l4 : K.lookup f4 = some ⟨oc4, od4, .func (PySem.W.fnOf "at" "Kinds.at" (defArgs s_Kinds_at) (defBody s_Kinds_at) (defScope s_Kinds_at) .none kV4 dc4 pm4 an4 cd4 ct4), sl4⟩)
    (c4 : PySem.W.codeIn K cd4 "Kinds.at" = true)
    (k4 : PySem.W.keepIn K (.ref f4) = true)
    (a5 : PySem.W.findIn K (.ref N) "_has" = some (some (.ref f5)))
    (i5 : PySem.W.isFn K (.ref f5) = true)
    (l5 : K.lookup f5 = some ⟨oc5, od5, .func (PySem.W.fnOf "_has" "Kinds._has" (defArgs s_Kinds_has) (defBody s_Kinds_has) (defScope s_Kinds_has) .none kV5 dc5 pm5 an5 cd5 ct5), sl5⟩)
    (c5 : PySem.W.codeIn K cd5 "Kinds._has" = true)
    (k5 : PySem.W.keepIn K (.ref f5) = true)
    (aCB : PySem.W.nsIn K mainGlobals "NoBounds" = some (some (.ref CB)))
    (xCB : PySem.W.excIn K CB [.type "ValueError", .type "Exception", .type "BaseException", .type "object"] "ValueError.__new__" = true)
    (kpCB : PySem.W.keepIn K (.ref CB) = true)
    (bCB : PySem.W.subIn K (.ref CB) (.type "BaseException") = some true)
    (tCB : PySem.W.typeIn K (.ref CB) = some (.type "type"))
    (aCP : PySem.W.nsIn K mainGlobals "NoPick" = some (some (.ref CP)))
    (xCP : PySem.W.excIn K CP [.type "ValueError", .type "Exception", .type "BaseException", .type "object"] "ValueError.__new__" = true)
    (kpCP : PySem.W.keepIn K (.ref CP) = true)
    (bCP : PySem.W.subIn K (.ref CP) (.type "BaseException") = some true)
    (tCP : PySem.W.typeIn K (.ref CP) = some (.type "type"))
    (aCN : PySem.W.nsIn K mainGlobals "NoNumber" = some (some (.ref CN)))
    (xCN : PySem.W.excIn K CN [.type "ValueError", .type "Exception", .type "BaseException", .type "object"] "ValueError.__new__" = true)
    (kpCN : PySem.W.keepIn K (.ref CN) = true)
    (bCN : PySem.W.subIn K (.ref CN) (.type "BaseException") = some true)
    (tCN : PySem.W.typeIn K (.ref CN) = some (.type "type"))
    (a6 : PySem.W.nsIn K mainGlobals "is_whole" = some (some (.ref f6)))
    (l6 : K.lookup f6 = some ⟨oc6, od6, .func (PySem.W.fnOf "is_whole" "is_whole" (defArgs s_is_whole) (defBody s_is_whole) (defScope s_is_whole) .none kV6 dc6 pm6 an6 cd6 ct6), sl6⟩)
    (c6 : PySem.W.codeIn K cd6 "is_whole" = true)
    (k6 : PySem.W.keepIn K (.ref f6) = true)
    (a7 : PySem.W.nsIn K mainGlobals "are_counts" = some (some (.ref f7)))
    (l7 : K.lookup f7 = some ⟨oc7, od7, .func (PySem.W.fnOf "are_counts" "are_counts" (defArgs s_are_counts) (defBody s_are_counts) (defScope s_are_counts) .none kV7 dc7 pm7 an7 (.ref cT) ct7), sl7⟩)
    (c7 : PySem.W.codeIn K (.ref cT) "are_counts" = true)
    (lcT : K.lookup cT = some ⟨ce, cdd, .fields cvs, csl⟩)
    (vcT : cvs[11]? = some (.ref tb))
    (nTb : K.lookup tb = none)
    (hTb : PySem.W.codeHdIn K cT tb = true)
    (k7 : PySem.W.keepIn K (.ref f7) = true)
    (a8 : PySem.W.nsIn K mainGlobals "ways_from" = some (some (.ref f8)))
    (l8 : K.lookup f8 = some ⟨oc8, od8, .func (PySem.W.fnOf "ways_from" "ways_from" (defArgs s_ways_from) (defBody s_ways_from) (defScope s_ways_from) .none kV8 dc8 pm8 an8 cd8 ct8), sl8⟩)
    (c8 : PySem.W.codeIn K cd8 "ways_from" = true)
    (k8 : PySem.W.keepIn K (.ref f8) = true)
    (a9 : PySem.W.nsIn K mainGlobals "_law_mixed" = some (some (.ref f9)))
    (l9 : K.lookup f9 = some ⟨oc9, od9, .func (PySem.W.fnOf "_law_mixed" "_law_mixed" (defArgs s_law_mixed) (defBody s_law_mixed) (defScope s_law_mixed) .none kV9 dc9 pm9 an9 cd9 ct9), sl9⟩)
    (c9 : PySem.W.codeIn K cd9 "_law_mixed" = true)
    (k9 : PySem.W.keepIn K (.ref f9) = true)
    (a10 : PySem.W.nsIn K mainGlobals "_law_cell_at" = some (some (.ref f10)))
    (l10 : K.lookup f10 = some ⟨oc10, od10, .func (PySem.W.fnOf "_law_cell_at" "_law_cell_at" (defArgs s_law_cell_at) (defBody s_law_cell_at) (defScope s_law_cell_at) .none kV10 dc10 pm10 an10 cd10 ct10), sl10⟩)
    (c10 : PySem.W.codeIn K cd10 "_law_cell_at" = true)
    (k10 : PySem.W.keepIn K (.ref f10) = true)
    (a11 : PySem.W.nsIn K mainGlobals "_law_rows" = some (some (.ref f11)))
    (l11 : K.lookup f11 = some ⟨oc11, od11, .func (PySem.W.fnOf "_law_rows" "_law_rows" (defArgs s_law_rows) (defBody s_law_rows) (defScope s_law_rows) .none kV11 dc11 pm11 an11 cd11 ct11), sl11⟩)
    (c11 : PySem.W.codeIn K cd11 "_law_rows" = true)
    (k11 : PySem.W.keepIn K (.ref f11) = true)
    (a12 : PySem.W.nsIn K mainGlobals "_law_kind" = some (some (.ref f12)))
    (l12 : K.lookup f12 = some ⟨oc12, od12, .func (PySem.W.fnOf "_law_kind" "_law_kind" (defArgs s_law_kind) (defBody s_law_kind) (defScope s_law_kind) .none kV12 dc12 pm12 an12 cd12 ct12), sl12⟩)
    (c12 : PySem.W.codeIn K cd12 "_law_kind" = true)
    (k12 : PySem.W.keepIn K (.ref f12) = true)
    (a13 : PySem.W.nsIn K mainGlobals "_law_at" = some (some (.ref f13)))
    (l13 : K.lookup f13 = some ⟨oc13, od13, .func (PySem.W.fnOf "_law_at" "_law_at" (defArgs s_law_at) (defBody s_law_at) (defScope s_law_at) .none kV13 dc13 pm13 an13 cd13 ct13), sl13⟩)
    (c13 : PySem.W.codeIn K cd13 "_law_at" = true)
    (k13 : PySem.W.keepIn K (.ref f13) = true)
    (a14 : PySem.W.nsIn K mainGlobals "_law_number" = some (some (.ref f14)))
    (l14 : K.lookup f14 = some ⟨oc14, od14, .func (PySem.W.fnOf "_law_number" "_law_number" (defArgs s_law_number) (defBody s_law_number) (defScope s_law_number) .none kV14 dc14 pm14 an14 cd14 ct14), sl14⟩)
    (c14 : PySem.W.codeIn K cd14 "_law_number" = true)
    (k14 : PySem.W.keepIn K (.ref f14) = true)
    (a15 : PySem.W.nsIn K mainGlobals "law" = some (some (.ref f15)))
    (l15 : K.lookup f15 = some ⟨oc15, od15, .func (PySem.W.fnOf "law" "law" (defArgs s_law) (defBody s_law) (defScope s_law) .none kV15 dc15 pm15 an15 cd15 ct15), sl15⟩)
    (c15 : PySem.W.codeIn K cd15 "law" = true)
    (k15 : PySem.W.keepIn K (.ref f15) = true)
    (z_type : PySem.W.nsIn K mainGlobals "type" = some none)
    (z_int : PySem.W.nsIn K mainGlobals "int" = some none)
    (z_isinstance : PySem.W.nsIn K mainGlobals "isinstance" = some none)
    (z_tuple : PySem.W.nsIn K mainGlobals "tuple" = some none)
    (z_list : PySem.W.nsIn K mainGlobals "list" = some none)
    (z_len : PySem.W.nsIn K mainGlobals "len" = some none)
    (z_range : PySem.W.nsIn K mainGlobals "range" = some none)
    (z_reversed : PySem.W.nsIn K mainGlobals "reversed" = some none)
    (z_min : PySem.W.nsIn K mainGlobals "min" = some none)
    (z_max : PySem.W.nsIn K mainGlobals "max" = some none)
    (z_sum : PySem.W.nsIn K mainGlobals "sum" = some none)
    (z_all : PySem.W.nsIn K mainGlobals "all" = some none)
    (z_zip : PySem.W.nsIn K mainGlobals "zip" = some none)
    (z_ValueError : PySem.W.nsIn K mainGlobals "ValueError" = some none)
    (v_MOST_KINDS : PySem.W.nsIn K mainGlobals "MOST_KINDS" = some (some (.int 12 tk)))
    (v_MOST_OF_A_KIND : PySem.W.nsIn K mainGlobals "MOST_OF_A_KIND" = some (some (.int 20 to)))
    (aPE : PySem.W.nsIn K mainGlobals "PickError" = some (some (.ref PE)))
    (bPE : PySem.W.subIn K (.ref PE) (.type "BaseException") = some true)
    (dPE : PySem.W.hasDictIn K PE = true)
    (tPE : PySem.W.typeIn K (.ref PE) = some (.type "type"))
    (aCC : PySem.W.nsIn K mainGlobals "NoChange" = some (some (.ref CC)))
    (aCT : PySem.W.nsIn K mainGlobals "NoText" = some (some (.ref CT)))
    (sg : PySem.W.specialIn K (.builtin "object.__class__") "__get__" = some (some (.builtin "getset_descriptor.__get__")))
    (st : PySem.W.takesIn K (.builtin "object.__class__") = some true)
    (egCP : PySem.W.findIn K (.ref CP) "__getattribute__" = some (some (.builtin "BaseException.__getattribute__")))
    (ekCP : PySem.W.findIn K (.ref CP) "__getattr__" = some none)
    (edCP : PySem.W.hasDictIn K CP = true)
    (eaCP : PySem.W.findIn K (.ref CP) "__class__" = some (some (.builtin "object.__class__")))
    (emCP : PySem.W.mroIn K CP (.type "object") = some true)
    (ktCPCB : PySem.W.kitOne K (.ref CP) (.ref CB) = some false)
    (ktCPCP : PySem.W.kitOne K (.ref CP) (.ref CP) = some true)
    (ktCPCN : PySem.W.kitOne K (.ref CP) (.ref CN) = some false)
    (ktCPCC : PySem.W.kitOne K (.ref CP) (.ref CC) = some false)
    (ktCPCT : PySem.W.kitOne K (.ref CP) (.ref CT) = some false)
    (kvCP : PySem.W.kitOne K (.ref CP) (.type "ValueError") = some true)
    (sCP : PySem.W.subIn K (.ref CP) (.ref PE) = some true)
    (egCN : PySem.W.findIn K (.ref CN) "__getattribute__" = some (some (.builtin "BaseException.__getattribute__")))
    (ekCN : PySem.W.findIn K (.ref CN) "__getattr__" = some none)
    (edCN : PySem.W.hasDictIn K CN = true)
    (eaCN : PySem.W.findIn K (.ref CN) "__class__" = some (some (.builtin "object.__class__")))
    (emCN : PySem.W.mroIn K CN (.type "object") = some true)
    (ktCNCB : PySem.W.kitOne K (.ref CN) (.ref CB) = some false)
    (ktCNCP : PySem.W.kitOne K (.ref CN) (.ref CP) = some false)
    (ktCNCN : PySem.W.kitOne K (.ref CN) (.ref CN) = some true)
    (ktCNCC : PySem.W.kitOne K (.ref CN) (.ref CC) = some false)
    (ktCNCT : PySem.W.kitOne K (.ref CN) (.ref CT) = some false)
    (kvCN : PySem.W.kitOne K (.ref CN) (.type "ValueError") = some true)
    (sCN : PySem.W.subIn K (.ref CN) (.ref PE) = some true)
    : LawAtE l w K CX0 10 63 "_law_script" mg fa h := by
  have e := hfa.symm.trans (PySem.W.mg_of X G a15)
  cases e
  have F1 := fun_mk (st := s_Kinds_init) l1 c1 k1
  have b1 := F1.binds (ps := ["self", "counts", "size"]) fun _ _ _ _ _ _ us hl => match us, hl with | [_, _, _], _ => rfl
  have F2 := fun_mk (st := s_Kinds_many) l2 c2 k2
  have b2 := F2.binds (ps := ["self"]) fun _ _ _ _ _ _ us hl => match us, hl with | [_], _ => rfl
  have F3 := fun_mk (st := s_Kinds_number) l3 c3 k3
  have b3 := F3.binds (ps := ["self", "one"]) fun _ _ _ _ _ _ us hl => match us, hl with | [_, _], _ => rfl
  have F4 := fun_mk (st := s_Kinds_at) l4 c4 k4
  have b4 := F4.binds (ps := ["self", "number"]) fun _ _ _ _ _ _ us hl => match us, hl with | [_, _], _ => rfl
  have F5 := fun_mk (st := s_Kinds_has) l5 c5 k5
  have b5 := F5.binds (ps := ["self", "one"]) fun _ _ _ _ _ _ us hl => match us, hl with | [_, _], _ => rfl
  have F6 := fun_mk (st := s_is_whole) l6 c6 k6
  have b6 := F6.binds (ps := ["asked", "low", "high"]) fun _ _ _ _ _ _ us hl => match us, hl with | [_, _, _], _ => rfl
  have F7 := fun_mk (st := s_are_counts) l7 c7 k7
  have b7 := F7.binds (ps := ["asked"]) fun _ _ _ _ _ _ us hl => match us, hl with | [_], _ => rfl
  have F8 := fun_mk (st := s_ways_from) l8 c8 k8
  have b8 := F8.binds (ps := ["counts", "size"]) fun _ _ _ _ _ _ us hl => match us, hl with | [_, _], _ => rfl
  have F9 := fun_mk (st := s_law_mixed) l9 c9 k9
  have b9 := F9.binds (ps := ["_law_cell", "_law_k"]) fun _ _ _ _ _ _ us hl => match us, hl with | [_, _], _ => rfl
  have F10 := fun_mk (st := s_law_cell_at) l10 c10 k10
  have b10 := F10.binds (ps := ["_law_script", "_law_k"]) fun _ _ _ _ _ _ us hl => match us, hl with | [_, _], _ => rfl
  have F11 := fun_mk (st := s_law_rows) l11 c11 k11
  have b11 := F11.binds (ps := ["_law_counts", "_law_size"]) fun _ _ _ _ _ _ us hl => match us, hl with | [_, _], _ => rfl
  have F12 := fun_mk (st := s_law_kind) l12 c12 k12
  have b12 := F12.binds (ps := ["_law_e"]) fun _ _ _ _ _ _ us hl => match us, hl with | [_], _ => rfl
  have F13 := fun_mk (st := s_law_at) l13 c13 k13
  have b13 := F13.binds (ps := ["_law_told", "_law_number_here"]) fun _ _ _ _ _ _ us hl => match us, hl with | [_, _], _ => rfl
  have F14 := fun_mk (st := s_law_number) l14 c14 k14
  have b14 := F14.binds (ps := ["_law_told", "_law_one"]) fun _ _ _ _ _ _ us hl => match us, hl with | [_, _], _ => rfl
  have F15 := fun_mk (st := s_law) l15 c15 k15
  have ECB : ExT K mg "NoBounds" CB := ⟨PySem.W.mg_of X G aCB, xCB, kpCB, bCB, tCB⟩
  have ECP : ExT K mg "NoPick" CP := ⟨PySem.W.mg_of X G aCP, xCP, kpCP, bCP, tCP⟩
  have ECN : ExT K mg "NoNumber" CN := ⟨PySem.W.mg_of X G aCN, xCN, kpCN, bCN, tCN⟩
  have n_type := PySem.W.mg_none_of X G z_type
  have n_int := PySem.W.mg_none_of X G z_int
  have n_isinstance := PySem.W.mg_none_of X G z_isinstance
  have n_tuple := PySem.W.mg_none_of X G z_tuple
  have n_list := PySem.W.mg_none_of X G z_list
  have n_len := PySem.W.mg_none_of X G z_len
  have n_range := PySem.W.mg_none_of X G z_range
  have n_reversed := PySem.W.mg_none_of X G z_reversed
  have n_min := PySem.W.mg_none_of X G z_min
  have n_max := PySem.W.mg_none_of X G z_max
  have n_sum := PySem.W.mg_none_of X G z_sum
  have n_all := PySem.W.mg_none_of X G z_all
  have n_zip := PySem.W.mg_none_of X G z_zip
  have n_ValueError := PySem.W.mg_none_of X G z_ValueError
  have w_MOST_KINDS := PySem.W.mg_of X G v_MOST_KINDS
  have w_MOST_OF_A_KIND := PySem.W.mg_of X G v_MOST_OF_A_KIND
  have hGI : GlbI mg := ⟨⟨⟨n_type, n_int, n_isinstance, n_tuple, n_list⟩, n_len, n_all, ⟨tk, w_MOST_KINDS⟩, ⟨to, w_MOST_OF_A_KIND⟩⟩, n_range, n_max, n_sum, n_reversed⟩
  have hGN : GlbN mg := ⟨hGI, n_isinstance, n_zip⟩
  have hTK : KdC K N := ⟨⟨pgN, hdN, poN, saN⟩, nfN0, nfN1, nfN2⟩
  have hKG : KG mg CB CP CN CC CT := ⟨n_isinstance, n_ValueError, ECB.g, ECP.g, ECN.g, (PySem.W.mg_of X G aCC), (PySem.W.mg_of X G aCT)⟩
  have hkCP : KindX K CB CP CN CC CT CP 1 := ⟨⟨egCP, ekCP, bCP, edCP, eaCP, sg, st, emCP⟩, ktCPCB, ktCPCP, ktCPCN, ktCPCC, ktCPCT, kvCP⟩
  have hkCN : KindX K CB CP CN CC CT CN 2 := ⟨⟨egCN, ekCN, bCN, edCN, eaCN, sg, st, emCN⟩, ktCNCB, ktCNCP, ktCNCN, ktCNCC, ktCNCT, kvCN⟩
  exact ⟨PySem.W.fnOf "law" "law" (defArgs s_law) (defBody s_law) (defScope s_law) .none kV15 dc15 pm15 an15 cd15 ct15, cT, tb, spLawT K tb, hTab _ _ _ _ _ _ _ _ _ (PySem.W.mg_of X G a7) l7 rfl rfl lcT vcT, nTb, hTb, fun s v => .of_eq rfl, fun H a ns hl hP hS => ⟨a, ns, rfl, hS, hl, hP, fun _ q => ⟨rfl, q⟩⟩, fun base _ _ hTB => ok_law F15 ⟨⟨n_len, n_range, n_min, n_max⟩, ⟨n_isinstance, n_tuple, n_list, n_sum⟩, ⟨hKG, ⟨PySem.W.mg_of X G aPE, bPE, dPE, tPE⟩, hkCP, hkCN, sCP, sCN⟩, ⟨F9, b9, (PySem.W.mg_of X G a9)⟩, ⟨F10, b10, (PySem.W.mg_of X G a10)⟩, ⟨F12, b12, (PySem.W.mg_of X G a12)⟩, ⟨F11, b11, (PySem.W.mg_of X G a11)⟩, ⟨F13, b13, (PySem.W.mg_of X G a13)⟩, ⟨F14, b14, (PySem.W.mg_of X G a14)⟩⟩ ⟨hTK, PySem.W.mg_of X G aN, _, _, ⟨mkN, a1, i1, kpN⟩, b1, 5, by decide, ok_kinit F1 hGI ⟨F6, b6, (PySem.W.mg_of X G a6)⟩ ⟨F7, rfl, b7, (PySem.W.mg_of X G a7), hTB⟩ ⟨F8, b8, (PySem.W.mg_of X G a8)⟩ hTK ECB⟩ (hasM0 ⟨a2, i2, k2⟩ b2 (ok_kmany F2 hTK) (by decide)) (hasM ⟨a3, i3, k3⟩ b3 (ok_knumber F3 hGN ⟨F6, b6, (PySem.W.mg_of X G a6)⟩ ⟨F5, b5, ⟨a5, i5, k5⟩⟩ hTK ECP) (by decide)) (hasM ⟨a4, i4, k4⟩ b4 (ok_kat F4 hGN ⟨F6, b6, (PySem.W.mg_of X G a6)⟩ ⟨F2, b2, ⟨a2, i2, k2⟩⟩ hTK ECN) (by decide))⟩
theorem walk {l : PySem.W.OpenLaw} {q : Program} {loose : List Str} {XP : (Str → Option Value) → Heap → Prop} {YP : World → Heap → Prop} {d : DefRec} {K : Params → PySem.W.Frag} (hn : l.most = some 63) (hdf : d.params.defaults = []) (hrec : ((recsOf q).any fun e => e.name == ("are_counts" : Str)) = true)
    (hY : ∀ (w : World) (h : Heap), YP w h → (K w.params).In h)
    (F : ∀ (w : World) (mg : Str → Option Value) (fa : Addr) (h : Heap), (K w.params).In h → h.Ns mainGlobals mg → mg d.name = some (.ref fa) → TabOf (K w.params) mg "are_counts" h → LawAtE l w (K w.params) CX0 10 63 "_law_script" mg fa h) :
    PySem.W.WalkO q loose XP YP l.row.toRowW d [] (fun f vs => PySem.call f vs) :=
  walk_ofE (n := 63) (k := 10) (x := "_law_script") (CX := fun _ => CX0) "are_counts" hn (by decide) hdf ⟨rfl, by decide, by decide⟩ hrec hY (fun w mg fa h _ X G e t => F w mg fa h X G e t) fun _ _ _ _ _ z => z
end Dp
open PySem PySem.W PyProof.Rows
set_option maxRecDepth 100000 in
set_option maxHeartbeats 0 in
theorem PySem.Challenge.cw_doorpicks_k10_all_rows_of_few_holds : PySem.Challenge.rw_doorpicks_k10_all_rows_of_few.Holds := by
  w_on; o_law; k_head; (case hw => w_witness2)
  k_fill
  refine Dp.walk (l := PySem.Challenge.rw_doorpicks_k10_all_rows_of_few) rfl rfl (by decide +kernel) (fun w h Y => PySem.W.kIn_of Y) ?F
  case F =>
    intro w mg fa h KX G hmg hTab
    refine' Dp.all_mk KX G hmg hTab ?aN ?pgN ?hdN ?poN ?saN ?mkN ?kpN ?nfN0 ?nfN1 ?nfN2 ?a1 ?i1 ?l1 ?c1 ?k1 ?a2 ?i2 ?l2 ?c2 ?k2 ?a3 ?i3 ?l3 ?c3 ?k3 ?a4 ?i4 ?l4 ?c4 ?k4 ?a5 ?i5 ?l5 ?c5 ?k5 ?aCB ?xCB ?kpCB ?bCB ?tCB ?aCP ?xCP ?kpCP ?bCP ?tCP ?aCN ?xCN ?kpCN ?bCN ?tCN ?a6 ?l6 ?c6 ?k6 ?a7 ?l7 ?c7 ?lcT ?vcT ?nTb ?hTb ?k7 ?a8 ?l8 ?c8 ?k8 ?a9 ?l9 ?c9 ?k9 ?a10 ?l10 ?c10 ?k10 ?a11 ?l11 ?c11 ?k11 ?a12 ?l12 ?c12 ?k12 ?a13 ?l13 ?c13 ?k13 ?a14 ?l14 ?c14 ?k14 ?a15 ?l15 ?c15 ?k15 ?z_type ?z_int ?z_isinstance ?z_tuple ?z_list ?z_len ?z_range ?z_reversed ?z_min ?z_max ?z_sum ?z_all ?z_zip ?z_ValueError ?v_MOST_KINDS ?v_MOST_OF_A_KIND ?aPE ?bPE ?dPE ?tPE ?aCC ?aCT ?sg ?st ?egCP ?ekCP ?edCP ?eaCP ?emCP ?ktCPCB ?ktCPCP ?ktCPCN ?ktCPCC ?ktCPCT ?kvCP ?sCP ?egCN ?ekCN ?edCN ?eaCN ?emCN ?ktCNCB ?ktCNCP ?ktCNCN ?ktCNCC ?ktCNCT ?kvCN ?sCN
    (case aN => first | rfl | k_is)
    (case pgN => first | rfl | k_is)
    (case hdN => first | rfl | k_is)
    (case poN => first | rfl | k_is)
    (case saN => first | rfl | k_is)
    (case mkN => first | rfl | k_is)
    (case kpN => first | rfl | k_is)
    (case nfN0 => first | rfl | k_is)
    (case nfN1 => first | rfl | k_is)
    (case nfN2 => first | rfl | k_is)
    (case a1 => first | rfl | k_is)
    (case i1 => first | rfl | k_is)
    (case l1 => first | rfl | k_is)
    (case c1 => first | rfl | k_is)
    (case k1 => first | rfl | k_is)
    (case a2 => first | rfl | k_is)
    (case i2 => first | rfl | k_is)
    (case l2 => first | rfl | k_is)
    (case c2 => first | rfl | k_is)
    (case k2 => first | rfl | k_is)
    (case a3 => first | rfl | k_is)
    (case i3 => first | rfl | k_is)
    (case l3 => first | rfl | k_is)
    (case c3 => first | rfl | k_is)
    (case k3 => first | rfl | k_is)
    (case a4 => first | rfl | k_is)
    (case i4 => first | rfl | k_is)
    (case l4 => first | rfl | k_is)
    (case c4 => first | rfl | k_is)
    (case k4 => first | rfl | k_is)
    (case a5 => first | rfl | k_is)
    (case i5 => first | rfl | k_is)
    (case l5 => first | rfl | k_is)
    (case c5 => first | rfl | k_is)
    (case k5 => first | rfl | k_is)
    (case aCB => first | rfl | k_is)
    (case xCB => k_exc)
    (case kpCB => first | rfl | k_is)
    (case bCB => first | rfl | k_is)
    (case tCB => first | rfl | k_is)
    (case aCP => first | rfl | k_is)
    (case xCP => k_exc)
    (case kpCP => first | rfl | k_is)
    (case bCP => first | rfl | k_is)
    (case tCP => first | rfl | k_is)
    (case aCN => first | rfl | k_is)
    (case xCN => k_exc)
    (case kpCN => first | rfl | k_is)
    (case bCN => first | rfl | k_is)
    (case tCN => first | rfl | k_is)
    (case a6 => first | rfl | k_is)
    (case l6 => first | rfl | k_is)
    (case c6 => first | rfl | k_is)
    (case k6 => first | rfl | k_is)
    (case a7 => first | rfl | k_is)
    (case l7 => first | rfl | k_is)
    (case c7 => first | rfl | k_is)
    (case lcT => first | rfl | k_is)
    (case vcT => first | rfl | k_is)
    (case nTb => first | rfl | k_is)
    (case hTb => first | rfl | k_is)
    (case k7 => first | rfl | k_is)
    (case a8 => first | rfl | k_is)
    (case l8 => first | rfl | k_is)
    (case c8 => first | rfl | k_is)
    (case k8 => first | rfl | k_is)
    (case a9 => first | rfl | k_is)
    (case l9 => first | rfl | k_is)
    (case c9 => first | rfl | k_is)
    (case k9 => first | rfl | k_is)
    (case a10 => first | rfl | k_is)
    (case l10 => first | rfl | k_is)
    (case c10 => first | rfl | k_is)
    (case k10 => first | rfl | k_is)
    (case a11 => first | rfl | k_is)
    (case l11 => first | rfl | k_is)
    (case c11 => first | rfl | k_is)
    (case k11 => first | rfl | k_is)
    (case a12 => first | rfl | k_is)
    (case l12 => first | rfl | k_is)
    (case c12 => first | rfl | k_is)
    (case k12 => first | rfl | k_is)
    (case a13 => first | rfl | k_is)
    (case l13 => first | rfl | k_is)
    (case c13 => first | rfl | k_is)
    (case k13 => first | rfl | k_is)
    (case a14 => first | rfl | k_is)
    (case l14 => first | rfl | k_is)
    (case c14 => first | rfl | k_is)
    (case k14 => first | rfl | k_is)
    (case a15 => first | rfl | k_is)
    (case l15 => first | rfl | k_is)
    (case c15 => first | rfl | k_is)
    (case k15 => first | rfl | k_is)
    (case z_type => first | rfl | k_is)
    (case z_int => first | rfl | k_is)
    (case z_isinstance => first | rfl | k_is)
    (case z_tuple => first | rfl | k_is)
    (case z_list => first | rfl | k_is)
    (case z_len => first | rfl | k_is)
    (case z_range => first | rfl | k_is)
    (case z_reversed => first | rfl | k_is)
    (case z_min => first | rfl | k_is)
    (case z_max => first | rfl | k_is)
    (case z_sum => first | rfl | k_is)
    (case z_all => first | rfl | k_is)
    (case z_zip => first | rfl | k_is)
    (case z_ValueError => first | rfl | k_is)
    (case v_MOST_KINDS => first | rfl | k_is)
    (case v_MOST_OF_A_KIND => first | rfl | k_is)
    (case aPE => first | rfl | k_is)
    (case bPE => first | rfl | k_is)
    (case dPE => first | rfl | k_is)
    (case tPE => first | rfl | k_is)
    (case aCC => first | rfl | k_is)
    (case aCT => first | rfl | k_is)
    (case sg => first | rfl | k_is)
    (case st => first | rfl | k_is)
    (case egCP => first | rfl | k_is)
    (case ekCP => first | rfl | k_is)
    (case edCP => first | rfl | k_is)
    (case eaCP => first | rfl | k_is)
    (case emCP => first | rfl | k_is)
    (case ktCPCB => first | rfl | k_is)
    (case ktCPCP => first | rfl | k_is)
    (case ktCPCN => first | rfl | k_is)
    (case ktCPCC => first | rfl | k_is)
    (case ktCPCT => first | rfl | k_is)
    (case kvCP => first | rfl | k_is)
    (case sCP => first | rfl | k_is)
    (case egCN => first | rfl | k_is)
    (case ekCN => first | rfl | k_is)
    (case edCN => first | rfl | k_is)
    (case eaCN => first | rfl | k_is)
    (case emCN => first | rfl | k_is)
    (case ktCNCB => first | rfl | k_is)
    (case ktCNCP => first | rfl | k_is)
    (case ktCNCN => first | rfl | k_is)
    (case ktCNCC => first | rfl | k_is)
    (case ktCNCT => first | rfl | k_is)
    (case kvCN => first | rfl | k_is)
    (case sCN => first | rfl | k_is)
#print axioms PySem.Challenge.cw_doorpicks_k10_all_rows_of_few_holds
