import PyProof.Rows.All
import Wide.All
import OpenK.AllK
import Wide.FinOn
import HandS.ForExc
import HandS.Comp
import HandS.Dict
import HandS.Iter
import HandS.Walk
import HandS.IsInst
import HandS.Rev
import HandS.Gcd
import HandS.More
import KE.KMathGC
import KE.GoesEnumKw
import HandS.ExcIs
import HandS.ExcValue
import HandS.TupAny
import HandS.Style
import HandS.Conv
import HandS.SortInts
import HandS.CallLocal
import HandS.TupLen
import HandS.AnyAll
import PyProof.GenCompD
import HandS.EndTab
import HandS.Text
import HandS.JoinGen
import HandS.DictComp
import HandS.ReplaceLit
import HandS.Flow
import PySem.Challenge.RW_doorpicks_k13_written_and_read
set_option Elab.async false
set_option linter.all false
set_option maxRecDepth 100000
set_option maxHeartbeats 4000000
namespace Dp
/-! ways to pick -/
def ch : Nat → Nat → Nat
  | _, 0 => 1
  | 0, _ + 1 => 0
  | n + 1, k + 1 => ch n k + ch n (k + 1)
theorem ch_zero (n : Nat) : ch n 0 = 1 := by cases n <;> rfl
theorem ch_succ (n k : Nat) : ch (n + 1) (k + 1) = ch n k + ch n (k + 1) := rfl
theorem ch_above : ∀ {n k : Nat}, n < k → ch n k = 0
  | n, 0, h => absurd h (Nat.not_lt_zero _)
  | 0, k + 1, _ => rfl
  | n + 1, k + 1, h => by
    rw [ch_succ, ch_above (n := n) (k := k) (by omega), ch_above (n := n) (k := k + 1) (by omega)]
theorem ch_self : ∀ n : Nat, ch n n = 1
  | 0 => rfl
  | n + 1 => by rw [ch_succ, ch_self n, ch_above (Nat.lt_succ_self n)]
theorem ch_pos : ∀ {n k : Nat}, k ≤ n → 1 ≤ ch n k
  | n, 0, _ => by rw [ch_zero]; exact Nat.le_refl 1
  | 0, k + 1, h => absurd h (by omega)
  | n + 1, k + 1, h => by
    rw [ch_succ]
    have := ch_pos (n := n) (k := k) (by omega)
    omega
theorem ch_step (n k : Nat) : ch n k ≤ ch (n + 1) k := by
  cases k with
  | zero => rw [ch_zero, ch_zero]; exact Nat.le_refl _
  | succ k => rw [ch_succ]; exact Nat.le_add_left _ _
theorem ch_mono {n m k : Nat} (h : n ≤ m) : ch n k ≤ ch m k := by
  induction m with
  | zero =>
    have e : n = 0 := by omega
    subst e
    exact Nat.le_refl _
  | succ m ih =>
    by_cases e : n = m + 1
    · subst e; exact Nat.le_refl _
    · exact Nat.le_trans (ih (by omega)) (ch_step m k)
theorem ch_two {n k : Nat} (h0 : 0 < k) (h1 : k < n) : 2 ≤ ch n k := by
  obtain ⟨n, rfl⟩ : ∃ m, n = m + 1 := ⟨n - 1, by omega⟩
  obtain ⟨k, rfl⟩ : ∃ m, k = m + 1 := ⟨k - 1, by omega⟩
  rw [ch_succ]
  have a := ch_pos (n := n) (k := k) (by omega)
  have b := ch_pos (n := n) (k := k + 1) (by omega)
  omega
/-! falling products: the ways by a quotient -/
def fp (n : Int) : Nat → Int
  | 0 => 1
  | k + 1 => fp n k * (n - (k : Int))
theorem fp_shift (n : Int) : ∀ k : Nat, fp (n + 1) (k + 1) = (n + 1) * fp n k
  | 0 => by show (1 : Int) * (n + 1 - ((0 : Nat) : Int)) = (n + 1) * 1; simp
  | k + 1 => by
    show fp (n + 1) (k + 1) * (n + 1 - ((k + 1 : Nat) : Int)) = (n + 1) * (fp n k * (n - (k : Int)))
    rw [fp_shift n k]
    have e : n + 1 - ((k + 1 : Nat) : Int) = n - (k : Int) := by omega
    rw [e, Int.mul_assoc]
theorem fp_pascal (n : Int) (k : Nat) : fp (n + 1) (k + 1) = fp n (k + 1) + ((k : Int) + 1) * fp n k := by
  rw [fp_shift]
  show (n + 1) * fp n k = fp n k * (n - (k : Int)) + ((k : Int) + 1) * fp n k
  rw [Int.mul_comm (fp n k), ← Int.add_mul]
  congr 1
  omega
theorem fp_zero_succ (k : Nat) : fp 0 (k + 1) = 0 := by
  have e : fp (0 : Int) (k + 1) = fp ((-1 : Int) + 1) (k + 1) := rfl
  rw [e, fp_shift]
  show (-1 + 1 : Int) * _ = 0
  rw [show (-1 + 1 : Int) = 0 from rfl, Int.zero_mul]
theorem fp_self_pos : ∀ k : Nat, 0 < fp (k : Int) k
  | 0 => by show (0 : Int) < 1; decide
  | k + 1 => by
    have e : ((k + 1 : Nat) : Int) = (k : Int) + 1 := by omega
    rw [e, fp_shift]
    exact Int.mul_pos (by omega) (fp_self_pos k)
theorem ch_fp : ∀ n k : Nat, (ch n k : Int) * fp (k : Int) k = fp (n : Int) k
  | n, 0 => by rw [ch_zero]; rfl
  | 0, k + 1 => by
    show ((0 : Nat) : Int) * _ = fp 0 (k + 1)
    rw [fp_zero_succ]; simp
  | n + 1, k + 1 => by
    rw [ch_succ, Int.natCast_add, Int.add_mul, ch_fp n (k + 1)]
    have e1 : ((k + 1 : Nat) : Int) = (k : Int) + 1 := by omega
    have e2 : ((n + 1 : Nat) : Int) = (n : Int) + 1 := by omega
    rw [e2, fp_pascal]
    have e3 : fp ((k + 1 : Nat) : Int) (k + 1) = ((k : Int) + 1) * fp (k : Int) k := by rw [e1, fp_shift]
    rw [e3, ← Int.mul_assoc, Int.mul_comm (ch n k : Int), Int.mul_assoc, ch_fp n k, Int.add_comm]
theorem ch_div (n k : Nat) : fp (n : Int) k / fp (k : Int) k = (ch n k : Int) := by
  rw [← ch_fp n k]
  exact Int.mul_ediv_cancel _ (by have := fp_self_pos k; omega)
theorem ch_sym : ∀ {n k : Nat}, k ≤ n → ch n k = ch n (n - k)
  | 0, k, h => by
    have e : k = 0 := by omega
    subst e; rfl
  | n + 1, 0, h => by rw [ch_zero, Nat.sub_zero, ch_self]
  | n + 1, k + 1, h => by
    by_cases e : k = n
    · subst e
      rw [ch_self, Nat.sub_self, ch_zero]
    · rw [ch_succ, ch_sym (n := n) (k := k) (by omega), ch_sym (n := n) (k := k + 1) (by omega)]
      obtain ⟨d, hd⟩ : ∃ d, n - k = d + 1 := ⟨n - k - 1, by omega⟩
      have e1 : n + 1 - (k + 1) = d + 1 := by omega
      have e2 : n - (k + 1) = d := by omega
      rw [e1, hd, e2, ch_succ, Nat.add_comm]
/-! picks: things falling (the greatest first) -/
def Desc : Nat → List Nat → Prop
  | _, [] => True
  | n, g :: r => g < n ∧ Desc g r
def rk : List Nat → Int
  | [] => 0
  | g :: r => (ch (g + 1) (r.length + 1) : Int) - 1 - rk r
theorem Desc.mono {n m : Nat} {l : List Nat} (h : Desc n l) (le : n ≤ m) : Desc m l := by
  cases l with
  | nil => trivial
  | cons g r => exact ⟨Nat.lt_of_lt_of_le h.1 le, h.2⟩
theorem Desc.len : ∀ {n : Nat} {l : List Nat}, Desc n l → l.length ≤ n
  | _, [], _ => Nat.zero_le _
  | n, g :: r, h => by
    have := Desc.len h.2
    have := h.1
    show r.length + 1 ≤ n
    omega
theorem Desc.mem : ∀ {n : Nat} {l : List Nat}, Desc n l → ∀ x ∈ l, x < n
  | _, [], _, x, h => by simp at h
  | n, g :: r, h, x, hx => by
    rcases List.mem_cons.mp hx with e | e
    · rw [e]; exact h.1
    · exact Nat.lt_trans (Desc.mem h.2 x e) h.1
theorem rk_bounds : ∀ {n : Nat} {l : List Nat}, Desc n l → 0 ≤ rk l ∧ rk l < ch n l.length
  | n, [], _ => by
    show (0 : Int) ≤ 0 ∧ (0 : Int) < ch n 0
    rw [ch_zero]; exact ⟨Int.le_refl _, by decide⟩
  | n, g :: r, h => by
    have ⟨a, b⟩ := rk_bounds h.2
    have c : ch (g + 1) (r.length + 1) ≤ ch n (r.length + 1) := ch_mono h.1
    have e := ch_succ g r.length
    show 0 ≤ (ch (g + 1) (r.length + 1) : Int) - 1 - rk r ∧ (ch (g + 1) (r.length + 1) : Int) - 1 - rk r < ch n (r.length + 1)
    omega
theorem rk_head {g : Nat} {r : List Nat} (h : Desc g r) : (ch g (r.length + 1) : Int) ≤ rk (g :: r) ∧ rk (g :: r) < ch (g + 1) (r.length + 1) := by
  have ⟨a, b⟩ := rk_bounds h
  have e := ch_succ g r.length
  show (ch g (r.length + 1) : Int) ≤ (ch (g + 1) (r.length + 1) : Int) - 1 - rk r ∧ (ch (g + 1) (r.length + 1) : Int) - 1 - rk r < ch (g + 1) (r.length + 1)
  omega
theorem head_one {g g' k : Nat} {p : Int} (h1 : (ch g k : Int) ≤ p) (h2 : p < ch (g + 1) k) (h3 : (ch g' k : Int) ≤ p) (h4 : p < ch (g' + 1) k) : g = g' := by
  rcases Nat.lt_trichotomy g g' with h | h | h
  · have := ch_mono (k := k) (show g + 1 ≤ g' from h)
    omega
  · exact h
  · have := ch_mono (k := k) (show g' + 1 ≤ g from h)
    omega
theorem rk_inj : ∀ {a b : List Nat} {n m : Nat}, Desc n a → Desc m b → a.length = b.length → rk a = rk b → a = b
  | [], [], _, _, _, _, _, _ => rfl
  | [], _ :: _, _, _, _, _, h, _ => by simp at h
  | _ :: _, [], _, _, _, _, h, _ => by simp at h
  | g :: r, g' :: r', n, m, ha, hb, hl, hr => by
    have hl' : r.length = r'.length := by simpa using hl
    have ⟨a1, a2⟩ := rk_head ha.2
    have ⟨b1, b2⟩ := rk_head hb.2
    rw [← hl'] at b1 b2
    rw [← hr] at b1 b2
    have e := head_one a1 a2 b1 b2
    subst e
    have e2 : rk r = rk r' := by
      have q : (ch (g + 1) (r.length + 1) : Int) - 1 - rk r = (ch (g + 1) (r'.length + 1) : Int) - 1 - rk r' := hr
      rw [hl'] at q
      omega
    rw [rk_inj ha.2 hb.2 hl' e2]
/-- the search: the greatest g below n with no more than p ahead -/
def dn (k : Nat) (p : Int) : Nat → Nat
  | 0 => 0
  | g + 1 => if (ch (g + 1) k : Int) > p then dn k p g else g + 1
theorem dn_spec {k : Nat} {p : Int} (hk : 0 < k) (hp : 0 ≤ p) : ∀ n : Nat, p < ch n k → dn k p n < n ∧ (ch (dn k p n) k : Int) ≤ p ∧ p < ch (dn k p n + 1) k
  | 0, h => by
    rw [ch_above hk] at h
    exact absurd h (by omega)
  | n + 1, h => by
    show dn k p (n + 1) < n + 1 ∧ _
    have e : dn k p (n + 1) = dn k p n := by
      show (if (ch (n + 1) k : Int) > p then dn k p n else n + 1) = dn k p n
      rw [if_pos h]
    rw [e]
    by_cases c : p < ch n k
    · have ⟨a, b, d⟩ := dn_spec hk hp n c
      exact ⟨Nat.lt_succ_of_lt a, b, d⟩
    · have e2 : dn k p n = n := by
        cases n with
        | zero => rfl
        | succ m =>
          show (if (ch (m + 1) k : Int) > p then dn k p m else m + 1) = m + 1
          rw [if_neg (by omega)]
      rw [e2]
      exact ⟨Nat.lt_succ_self n, by omega, h⟩
def un : Nat → Nat → Int → List Nat
  | _, 0, _ => []
  | n, k + 1, p => dn (k + 1) p n :: un (dn (k + 1) p n) k ((ch (dn (k + 1) p n + 1) (k + 1) : Int) - 1 - p)
theorem un_spec : ∀ (k n : Nat) (p : Int), 0 ≤ p → p < ch n k → Desc n (un n k p) ∧ (un n k p).length = k ∧ rk (un n k p) = p
  | 0, n, p, h0, h1 => by
    rw [ch_zero] at h1
    refine ⟨trivial, rfl, ?_⟩
    show (0 : Int) = p
    omega
  | k + 1, n, p, h0, h1 => by
    have ⟨a, b, c⟩ := dn_spec (k := k + 1) (Nat.succ_pos k) h0 n h1
    have e := ch_succ (dn (k + 1) p n) k
    have ⟨d1, d2, d3⟩ := un_spec k (dn (k + 1) p n) ((ch (dn (k + 1) p n + 1) (k + 1) : Int) - 1 - p) (by omega) (by omega)
    refine ⟨⟨a, d1⟩, ?_, ?_⟩
    · show (un _ k _).length + 1 = k + 1
      rw [d2]
    · show (ch (dn (k + 1) p n + 1) ((un _ k _).length + 1) : Int) - 1 - rk (un _ k _) = p
      rw [d2, d3]
      omega
theorem un_rk {n : Nat} {l : List Nat} (h : Desc n l) : un n l.length (rk l) = l := by
  have ⟨a, b⟩ := rk_bounds h
  have ⟨d1, d2, d3⟩ := un_spec l.length n (rk l) a b
  exact rk_inj d1 h d2 d3
theorem un_more {n m k : Nat} {p : Int} (hn : n ≤ m) (h0 : 0 ≤ p) (h1 : p < ch n k) : un m k p = un n k p := by
  have ⟨a1, a2, a3⟩ := un_spec k n p h0 h1
  have le : ch n k ≤ ch m k := ch_mono hn
  have ⟨b1, b2, b3⟩ := un_spec k m p h0 (by omega)
  exact rk_inj b1 a1 (by rw [a2, b2]) (by rw [a3, b3])
/-! the first pick -/
def fst : Nat → List Nat
  | 0 => []
  | m + 1 => m :: fst m
theorem fst_len : ∀ m : Nat, (fst m).length = m
  | 0 => rfl
  | m + 1 => by show (fst m).length + 1 = m + 1; rw [fst_len m]
theorem fst_desc : ∀ m : Nat, Desc m (fst m)
  | 0 => trivial
  | m + 1 => ⟨Nat.lt_succ_self m, fst_desc m⟩
theorem fst_mem : ∀ {m x : Nat}, x ∈ fst m ↔ x < m
  | 0, x => by simp [fst]
  | m + 1, x => by
    show x ∈ m :: fst m ↔ _
    rw [List.mem_cons, fst_mem (m := m)]
    omega
theorem fst_rk : ∀ m : Nat, rk (fst m) = 0
  | 0 => rfl
  | m + 1 => by
    show (ch (m + 1) ((fst m).length + 1) : Int) - 1 - rk (fst m) = 0
    rw [fst_len, ch_self, fst_rk m]; rfl
theorem fst_of {n : Nat} {l : List Nat} (h : Desc n l) (e : rk l = 0) : l = fst l.length :=
  rk_inj h (fst_desc _) (fst_len _).symm (by rw [e, fst_rk])
/-- the last pick: the greatest thing, and the first ones of the rest -/
theorem last_of {n m : Nat} {l : List Nat} (h : Desc n l) (hl : l.length = m + 1) (e : rk l = (ch n (m + 1) : Int) - 1) : l = (n - 1) :: fst m := by
  have hn : m + 1 ≤ n := by rw [← hl]; exact h.len
  obtain ⟨k, rfl⟩ : ∃ k, n = k + 1 := ⟨n - 1, by omega⟩
  refine rk_inj h (m := k + 1) ⟨Nat.lt_succ_self _, (fst_desc m).mono (by omega)⟩ (by rw [hl]; show m + 1 = (fst m).length + 1; rw [fst_len]) ?_
  rw [e]
  show _ = (ch (k + 1 - 1 + 1) ((fst m).length + 1) : Int) - 1 - rk (fst m)
  rw [fst_len, fst_rk]
  simp
/-! one goes out, one comes in -/
structure Ex (a b : List Nat) (o i : Nat) : Prop where
  oa : o ∈ a
  ob : o ∉ b
  ib : i ∈ b
  ia : i ∉ a
  same : ∀ x, x ≠ o → x ≠ i → (x ∈ a ↔ x ∈ b)
theorem Ex.symm {a b : List Nat} {o i : Nat} (h : Ex a b o i) : Ex b a i o := ⟨h.ib, h.ia, h.oa, h.ob, fun x h1 h2 => (h.same x h2 h1).symm⟩
theorem Ex.cons {a b : List Nat} {o i g : Nat} (h : Ex a b o i) (ho : o ≠ g) (hi : i ≠ g) : Ex (g :: a) (g :: b) o i :=
  ⟨List.mem_cons_of_mem _ h.oa, fun q => (List.mem_cons.mp q).elim ho h.ob, List.mem_cons_of_mem _ h.ib, fun q => (List.mem_cons.mp q).elim hi h.ia, fun x h1 h2 => by rw [List.mem_cons, List.mem_cons, h.same x h1 h2]⟩
theorem ex_next : ∀ {a b : List Nat} {n m : Nat}, Desc n a → Desc m b → a.length = b.length → rk b = rk a + 1 → ∃ o i, Ex a b o i
  | [], [], _, _, _, _, _, h => by
    have h' : (0 : Int) = 0 + 1 := h
    exact absurd h' (by decide)
  | [], _ :: _, _, _, _, _, h, _ => by simp at h
  | _ :: _, [], _, _, _, _, h, _ => by simp at h
  | ga :: ra, gb :: rb, n, m, ha, hb, hl, hr => by
    have hl' : ra.length = rb.length := by simpa using hl
    have ⟨a1, a2⟩ := rk_head ha.2
    have ⟨b1, b2⟩ := rk_head hb.2
    have ea : rk (ga :: ra) = (ch (ga + 1) (ra.length + 1) : Int) - 1 - rk ra := rfl
    have eb : rk (gb :: rb) = (ch (gb + 1) (rb.length + 1) : Int) - 1 - rk rb := rfl
    rcases Nat.lt_trichotomy ga gb with h | h | h
    · have c1 := ch_mono (k := ra.length + 1) (show ga + 1 ≤ gb from h)
      have la := ha.2.len
      have eg : gb = ga + 1 := by
        apply Classical.byContradiction
        intro ne
        have c2 := ch_mono (k := ra.length + 1) (show ga + 1 + 1 ≤ gb by omega)
        have c3 := ch_succ (ga + 1) ra.length
        have c4 := ch_pos (n := ga + 1) (k := ra.length) (by omega)
        rw [← hl'] at b1
        omega
      subst eg
      rw [← hl'] at b1 eb
      have ra0 : rk ra = 0 := by omega
      have e1 := ch_succ (ga + 1) ra.length
      have rbl : rk rb = (ch (ga + 1) ra.length : Int) - 1 := by omega
      have ra_is := fst_of ha.2 ra0
      cases hm : ra.length with
      | zero =>
        have e1 : ra = [] := List.length_eq_zero_iff.mp hm
        have e2 : rb = [] := List.length_eq_zero_iff.mp (by omega)
        subst e1 e2
        exact ⟨ga, ga + 1, by simp, by simp, by simp, by simp, fun x h1 h2 => by simp [h1, h2]⟩
      | succ j =>
        have rb_is := last_of hb.2 (m := j) (by omega) (by rw [rbl, hm])
        rw [hm] at ra_is
        have e3 : ga + 1 - 1 = ga := rfl
        rw [e3] at rb_is
        have jl : j < ga := by omega
        refine ⟨j, ga + 1, ?_, ?_, ?_, ?_, ?_⟩
        · rw [ra_is]; show j ∈ ga :: j :: fst j; simp
        · rw [rb_is]
          simp only [List.mem_cons, fst_mem]
          omega
        · simp
        · rw [ra_is]
          simp only [List.mem_cons, fst_mem]
          omega
        · intro x h1 h2
          rw [ra_is, rb_is]
          simp only [List.mem_cons, fst_mem]
          omega
    · subst h
      rw [← hl'] at eb
      have q : rk ra = rk rb + 1 := by omega
      obtain ⟨o, i, e⟩ := ex_next hb.2 ha.2 hl'.symm q
      have o1 := hb.2.mem o e.oa
      have i1 := ha.2.mem i e.ib
      exact ⟨i, o, e.symm.cons (by omega) (by omega)⟩
    · have c1 := ch_mono (k := ra.length + 1) (show gb + 1 ≤ ga from h)
      rw [← hl'] at b2
      omega
termination_by a b _ _ => a.length + b.length
decreasing_by
  all_goals simp only [List.length_cons]
  all_goals omega
theorem ex_round {n m : Nat} {a b : List Nat} (ha : Desc n a) (hb : Desc n b) (la : a.length = m) (lb : b.length = m) (h0 : 0 < m) (h1 : m < n) (ea : rk a = (ch n m : Int) - 1) (eb : rk b = 0) : ∃ o i, Ex a b o i := by
  obtain ⟨k, rfl⟩ : ∃ k, m = k + 1 := ⟨m - 1, by omega⟩
  have a_is := last_of ha la ea
  have b_is := fst_of hb eb
  rw [lb] at b_is
  refine ⟨n - 1, k, ?_, ?_, ?_, ?_, ?_⟩
  · rw [a_is]; simp
  · rw [b_is, fst_mem]; omega
  · rw [b_is, fst_mem]; omega
  · rw [a_is]; simp only [List.mem_cons, fst_mem]; omega
  · intro x h2 h3
    rw [a_is, b_is]
    simp only [List.mem_cons, fst_mem]
    omega
/-- from each pick to the next, round the end -/
theorem ex_step {n m : Nat} {a b : List Nat} (ha : Desc n a) (hb : Desc n b) (la : a.length = m) (lb : b.length = m) (h0 : 0 < m) (h1 : m < n) (e : rk b = (rk a + 1) % (ch n m : Int)) : ∃ o i, Ex a b o i := by
  have ⟨x, y⟩ := rk_bounds ha
  rw [la] at y
  by_cases c : rk a + 1 = ch n m
  · refine ex_round ha hb la lb h0 h1 (by omega) ?_
    rw [e, c, Int.emod_self]
  · refine ex_next ha hb (by rw [la, lb]) ?_
    rw [e]
    exact Int.emod_eq_of_lt (by omega) (by omega)
/-- nodup, as lists -/
theorem Desc.nodup : ∀ {n : Nat} {l : List Nat}, Desc n l → l.Nodup
  | _, [], _ => List.nodup_nil
  | n, g :: r, h => List.nodup_cons.mpr ⟨fun q => absurd (h.2.mem g q) (Nat.lt_irrefl _), h.2.nodup⟩
theorem filter_one {l : List Nat} {p : Nat → Bool} {o : Nat} (nd : l.Nodup) (hm : o ∈ l) (hp : ∀ x ∈ l, (p x = true ↔ x = o)) : l.filter p = [o] := by
  induction l with
  | nil => simp at hm
  | cons a r ih =>
    have ⟨n1, n2⟩ := List.nodup_cons.mp nd
    by_cases e : a = o
    · subst e
      have pa : p a = true := (hp a (by simp)).mpr rfl
      rw [List.filter_cons_of_pos pa]
      have : r.filter p = [] := by
        rw [List.filter_eq_nil_iff]
        intro x hx px
        have := (hp x (List.mem_cons_of_mem _ hx)).mp px
        subst this
        exact n1 hx
      rw [this]
    · have pa : ¬ p a = true := fun q => e ((hp a (by simp)).mp q)
      rw [List.filter_cons_of_neg pa]
      refine ih n2 ?_ (fun x hx => hp x (List.mem_cons_of_mem _ hx))
      rcases List.mem_cons.mp hm with q | q
      · exact absurd q.symm e
      · exact q
theorem Ex.outs {a b : List Nat} {o i : Nat} (h : Ex a b o i) (nd : a.Nodup) : a.filter (fun x => !b.contains x) = [o] := by
  refine filter_one nd h.oa fun x hx => ?_
  simp only [Bool.not_eq_true', List.contains_eq_mem, decide_eq_false_iff_not]
  constructor
  · intro q
    apply Classical.byContradiction
    intro ne
    by_cases e : x = i
    · subst e; exact h.ia hx
    · exact q ((h.same x ne e).mp hx)
  · intro q; rw [q]; exact h.ob
end Dp
namespace DpR
open PySem PySem.Spec PyProof.Rows L2
/-! ### comb -/
theorem fp_eq (n : Int) (k : Nat) : Builtin.Math.fallingProduct n k = Dp.fp n k := by
  induction k with
  | zero => rfl
  | succ k ih =>
    rw [PySem.W.mc_fp_succ, ih]
    rfl
theorem comb_eq (n k : Nat) : PySem.W.mcComb (n : Int) (k : Int) = (Dp.ch n k : Int) := by
  by_cases h : k ≤ n
  · by_cases h2 : k ≤ n - k
    · rw [PySem.W.mcComb_at (m := (k : Int)) (by omega) (by omega) (by omega), fp_eq, fp_eq, Int.toNat_natCast, Dp.ch_div]
    · have e : min (k : Int) ((n : Int) - (k : Int)) = ((n - k : Nat) : Int) := by omega
      rw [PySem.W.mcComb_at (by omega) (by omega) e, fp_eq, fp_eq, Int.toNat_natCast, Dp.ch_div, ← Dp.ch_sym h]
  · rw [PySem.W.mcComb_above (by omega), Dp.ch_above (by omega)]
    rfl
def rComb : List V → Hp → VK → Prop := fun vs H Q => ∃ a b : Nat, vs = [.int a, .int b] ∧ a ≤ 18000 ∧ Q (.int (Dp.ch a b : Nat)) H
section
variable {X : Cx}
theorem cr_comb : CallR X (.builtin "math.comb") rComb := by
  intro pins s σ H vs us Q I r h
  obtain ⟨a, b, rfl, ha, q⟩ := h
  obtain ⟨t, u, rfl⟩ := Vals.int2 r
  exact PySem.W.mc_comb_v (by omega) (by omega) (by omega) (.inr (by omega)) (comb_eq a b) ⟨.int _, H, I.tok _, ⟨_, rfl⟩, q⟩
/-! ### type(x) == int -/
theorem op_eqTy : OpR X (compareOp .Eq) (fun x y H Q => ∃ m n, x = .ty m ∧ y = .ty n ∧ PySem.W.kitMeta m = true ∧ PySem.W.kitMeta n = true ∧ Q (.bl (decide (m = n))) H) := by
  intro pins s σ H x y v u Q I rx ry h
  obtain ⟨m, n, rfl, rfl, h1, h2, q⟩ := h
  cases (show v = Value.type m from rx)
  cases (show u = Value.type n from ry)
  by_cases e : m = n
  · subst e
    refine TypeEq.eq_type_same (fun s' => ?_) (fin_bl I q (by simp))
    exact PySem.W.kitMeta_of h1
  · refine TypeEq.eq_type_other (fun s' => ?_) (fun s' => ?_) ?_ (fin_bl I q (by simp [e]))
    · exact PySem.W.kitMeta_of h1
    · exact PySem.W.kitMeta_of h2
    · rw [ty_beq, decide_eq_false e]

/-! ### a row: a list or a tuple, at its address -/
def SqB (b : Bool) (K : PySem.W.Frag) (H : Hp) (a : Addr) (xs : List V) : Prop := match b with
  | false => SqL K H a xs
  | true => SqT K H a xs
def InB (b : Bool) (h : Heap) (it a : Addr) (i : Nat) : Prop := match b with
  | false => h.IsListIter it a i
  | true => h.IsTupleIter it a i
def IsB (b : Bool) (h : Heap) (a : Addr) (its : Array Value) : Prop := match b with
  | false => h.IsList a its
  | true => h.IsTuple a its
def Itb (b : Bool) (K : PySem.W.Frag) (a : Addr) : It := match b with
  | false => Itl K a
  | true => Itt K a
/-- for x in row -/
def iSq (K : PySem.W.Frag) (tl : TE) : TI := fun σ H R => tl σ H fun x H1 => ∃ a b xs, x = .ref a ∧ SqB b K H1 a xs ∧ R (Itb b K a) H1
theorem pi_sq {tg l : Expr} {tl : TE} (hl : PE X l tl) : PI X tg l (iSq X.K tl) := by
  refine ⟨fun pins s σ H R I h => ?_⟩
  refine thn (hl.run pins s σ H _ I h) fun v s1 ⟨x, H1, I1, r1, q1⟩ => ?_
  obtain ⟨a, b, xs, e, hq, q⟩ := q1
  subst e
  cases r1
  cases b with
  | false =>
    obtain ⟨its, rv, p, hz⟩ := I1.list hq
    refine wpAny_pyIter_list p.isList ?_
    refine ⟨s1.heap.objs.size, [s1.heap.objs.size], _, _, H1, rfl, I1.kept (t' := s1.toks) fun b o e => Heap.get?_push_of_some _ e, turn_list a _, ⟨_, Heap.get?_push_size _ rfl, rfl, rfl⟩, fun b hb => ?_, q⟩
    have e : b = s1.heap.objs.size := by simpa using hb
    subst e
    exact I1.fpOk (Nat.le_refl _) (I1.hok.fresh (Nat.le_refl _))
  | true =>
    obtain ⟨its, rv, p, hz⟩ := I1.tuple hq
    refine wpAny_pyIter_tuple (show s1.heap.IsTuple a its.toArray from p) ?_
    refine ⟨s1.heap.objs.size, [s1.heap.objs.size], _, _, H1, rfl, I1.kept (t' := s1.toks) fun b o e => Heap.get?_push_of_some _ e, turn_tuple a _, ⟨_, Heap.get?_push_size _ rfl, rfl, rfl⟩, fun b hb => ?_, q⟩
    have e : b = s1.heap.objs.size := by simpa using hb
    subst e
    exact I1.fpOk (Nat.le_refl _) (I1.hok.fresh (Nat.le_refl _))
theorem walk_itb {K : PySem.W.Frag} {a : Addr} {xs : List V} : ∀ {b : Bool}, L2.Walk (Itb b K a) xs.length (fun H => SqB b K H a xs) (YAt xs)
  | false => walk_list
  | true => walk_tup

/-! ### enumerate(row, start=k) -/
/-- each item of the row at a in a new pair, counted from k -/
def Ies (b : Bool) (K : PySem.W.Frag) (k : Int) (a : Addr) : It :=
  ⟨fun i H => ∃ (xs : List V) (x : V), SqB b K H a xs ∧ xs[i]? = some x, fun i H v H' => ∃ T x, v = .ref T ∧ H T = none ∧ H' = upd H T (.tup [.int (k + (i : Nat)), x]) ∧ ∀ xs, SqB b K H a xs → xs[i]? = some x, fun i H => ∃ xs : List V, SqB b K H a xs ∧ xs.length ≤ i⟩
end
theorem sqB_is {X : Cx} {pins : List (Addr × Obj)} {σ : L2.St} {H : Hp} {s : Shared} {a : Addr} {xs : List V} {b : Bool} (I : Inv X pins σ H s) (h : SqB b X.K H a xs) : ∃ its : List Value, Vals xs its ∧ IsB b s.heap a its.toArray ∧ xs.length ≤ sizeLine := by
  cases b with
  | false =>
    obtain ⟨its, rv, p, hz⟩ := I.list h
    exact ⟨its, rv, p.isList, hz⟩
  | true =>
    obtain ⟨its, rv, p, hz⟩ := I.tuple h
    exact ⟨its, rv, (show s.heap.IsTuple a its.toArray from p), hz⟩
theorem sqB_inj {X : Cx} {pins : List (Addr × Obj)} {σ : L2.St} {H : Hp} {s : Shared} {a : Addr} {xs ys : List V} {b : Bool} (I : Inv X pins σ H s) (h : SqB b X.K H a xs) (h' : SqB b X.K H a ys) : xs = ys := by
  cases b with
  | false => exact I.list_inj h h'
  | true => exact I.tuple_inj h h'
theorem inB_obj {b : Bool} {h : Heap} {it a : Addr} {i : Nat} (x : InB b h it a i) : ∃ (o : Obj) (vs : Array Value) (n : String), h.get? it = some o ∧ o.data = .fields vs ∧ o.cls = .type n ∧ (n = "list_iterator" ∨ n = "tuple_iterator") := by
  cases b with
  | false => obtain ⟨o, e, c, d⟩ := x; exact ⟨o, _, _, e, d, c, .inl rfl⟩
  | true => obtain ⟨o, e, c, d⟩ := x; exact ⟨o, _, _, e, d, c, .inr rfl⟩
theorem inB_at {b : Bool} {h h' : Heap} {it a : Addr} {i : Nat} (x : InB b h it a i) (k : ∀ o, h.get? it = some o → h'.get? it = some o) : InB b h' it a i := by
  cases b with
  | false => exact Heap.IsListIter.at x k
  | true => exact Heap.IsTupleIter.at x k
theorem isB_ne {b : Bool} {h : Heap} {a it : Addr} {its : Array Value} {o : Obj} {vs : Array Value} (x : IsB b h a its) (e : h.get? it = some o) (d : o.data = .fields vs) : a ≠ it := by
  intro z
  subst z
  cases b with
  | false =>
    obtain ⟨o', e', c', n, d'⟩ := x
    rw [e] at e'; cases e'; rw [d] at d'; cases d'
  | true =>
    obtain ⟨o', e', c', n, d'⟩ := x
    rw [e] at e'; cases e'; rw [d] at d'; cases d'
theorem drawsB {b : Bool} {prog : Program} {w : World} {A : Around} (hh : A.handled = none) (it a : Addr) (hne : a ≠ it) (items : Array Value) :
    Draws prog w A it [it, a] items.size (fun i v => items[i]? = some v) (fun i h => InB b h it a i ∧ IsB b h a items) := by
  cases b with
  | false => exact Draws.list hh it a hne items
  | true => exact Draws.tuple hh it a hne items
theorem turn_ies {b : Bool} {P : Program} {w : World} {K : PySem.W.Frag} {elts : List Expr} {kk : Nat} {tpos : Pos} (k : Int) (a e it : Addr) :
    Turn P w K (.Tuple elts kk tpos) (Ies b K k a) [e, it] e (fun i h => (∃ old, IsEnum h e it (k + ((i : Nat) : Int)) old) ∧ InB b h it a i ∧ e ≠ it) where
  mem := by simp
  obj := fun i h st c hc => by
    obtain ⟨⟨old, he⟩, hi, _⟩ := st
    obtain ⟨o, vs, n, ho, hd, _⟩ := inB_obj hi
    have e' : c = e ∨ c = it := by simpa using hc
    rcases e' with z | z
    · rw [z]; exact ⟨_, he, fun v q => nomatch q⟩
    · rw [z]; exact ⟨o, ho, fun v q => by rw [hd] at q; cases q⟩
  keep := fun i h h' st k => let ⟨⟨old, he⟩, hi, hne⟩ := st; ⟨⟨old, k e (by simp) _ he⟩, inB_at hi fun o q => k it (by simp) o q, hne⟩
  item := by
    intro X hP hw hK hc i pins s σ H E I hf st hg
    subst hP hw hK
    obtain ⟨⟨old, he⟩, hit, hne⟩ := st
    obtain ⟨xs, x, hq, hx⟩ := hg
    obtain ⟨its, rv, p, hz⟩ := sqB_is I hq
    obtain ⟨u, hu, ru⟩ := rv.get hx
    obtain ⟨oi, vsi, ni, hoi, hdi, _⟩ := inB_obj hit
    have hel : e < s.heap.objs.size := Heap.lt_size he
    have hil : it < s.heap.objs.size := Heap.lt_size hoi
    have hai : a ≠ it := isB_ne p hoi hdi
    have hae : a ≠ e := isB_ne p he rfl
    have hh : X.A.in1.handled = none := I.ok.hd hc
    have hlt : i < its.toArray.size := by
      have := (List.getElem?_eq_some_iff.mp hu).1
      simpa using this
    refine wpAny_pyNext_enum_itemC (drawsB (b := b) hh it a hai its.toArray) he ⟨hit, p⟩ hlt hne (by simp [hne, Ne.symm hae]) fun x' h' tk hx' ho hst' hT hsz hk => ?_
    have hx'' : x' = u := by
      have h1 : its.toArray[i]? = some x' := hx'
      have h2 : its.toArray[i]? = some u := by simpa using hu
      rw [h1] at h2
      exact Option.some.inj h2
    subst hx''
    refine ⟨_, rfl, wpAny_letOwnedTupleGo_enum (s := { s with heap := h', toks := tk + 1 }) ho fun h'' he' sb => ?_⟩
    have hT2 : h''.get? s.heap.objs.size = some { cls := .type "tuple", data := .seq #[.int (k + (i : Nat)) tk, x'] } := (sb.2 _ (Nat.ne_of_gt hel)).trans hT
    have new : ObjOk X.prog X.w (upd H s.heap.objs.size (.tup [.int (k + (i : Nat)), x])) h'' s.heap.objs.size (.tup [.int (k + (i : Nat)), x]) :=
      ⟨by show 2 ≤ sizeLine; decide, [.int (k + (i : Nat)) tk, x'], .cons ⟨_, rfl⟩ (.cons ru .nil), ⟨_, hT2, rfl, _, rfl⟩⟩
    have I1 : Inv X pins σ (upd H s.heap.objs.size (.tup [.int (k + (i : Nat)), x])) { s with heap := h'', toks := tk + 1 } :=
      I.turnedNew (ch := [e, it]) (fun b ob hb q => (sb.2 b (fun z => hb (by simp [z]))).trans (hk b ob (fun z => hb (by simp [z])) (fun z => hb (by simp [z])) q)) hf (Nat.le_refl _) new
    refine ⟨.ref s.heap.objs.size, _, I1, rfl, ⟨_, x, rfl, I.hok.fresh (Nat.le_refl _), rfl, fun ys hy => by rw [sqB_inj I hy hq]; exact hx⟩, ⟨⟨x', ?_⟩, inB_at hst'.1 fun o q => (sb.2 it (Ne.symm hne)).trans q, hne⟩, fun b hb => ?_⟩
    · have e1 : k + ((i + 1 : Nat) : Int) = k + (i : Int) + 1 := by omega
      rw [e1]; exact he'
    · have hb' : b < s.heap.objs.size := by
        have e' : b = e ∨ b = it := by simpa using hb
        rcases e' with z | z
        · rw [z]; exact hel
        · rw [z]; exact hil
      rw [upd_ne (Nat.ne_of_lt hb')]
      exact (hf b hb).1
  done := by
    intro X hP hw hK hc i pins s σ H E I hf st hg
    subst hP hw hK
    obtain ⟨⟨old, he⟩, hit, hne⟩ := st
    obtain ⟨xs, hq, hx⟩ := hg
    obtain ⟨its, rv, p, hz⟩ := sqB_is I hq
    obtain ⟨f0, f1, f2, f3, f4, f5⟩ := hf it (by simp)
    obtain ⟨oi, vsi, ni, hoi, hdi, _⟩ := inB_obj hit
    have hai : a ≠ it := isB_ne p hoi hdi
    have hh : X.A.in1.handled = none := I.ok.hd hc
    have hl := rv.length
    -- the iterator stands at i, at or behind the end
    have D : Draws X.prog X.w X.A.in1 it [it, a] i (fun _ _ => True) (fun j h => j = i ∧ InB b h it a i ∧ IsB b h a its.toArray) :=
      { live := fun j h st => let ⟨o, _, _, ho, _⟩ := inB_obj st.2.1; ⟨o, ho⟩
        frame := fun j h h' st hk => ⟨st.1, inB_at st.2.1 fun o e => hk it (by simp) o e, by
          have q := st.2.2
          cases b with
          | false => exact Heap.IsList.at q fun o e => hk a (by simp) o e
          | true => exact Heap.IsTuple.at q fun o e => hk a (by simp) o e⟩
        item := fun j s Q E hj st _ => absurd st.1 (Nat.ne_of_lt hj)
        done := fun s Q E st hE => by
          have q := st.2
          cases b with
          | false => exact wpAny_nextOf_list_end hh q.1 q.2 (by simp; omega) hE
          | true => exact wpAny_nextOf_tuple_end hh q.1 q.2 (by simp; omega) hE }
    exact wpAny_pyNext_enum_endD D he ⟨rfl, hit, p⟩ fun h' eb => ⟨rfl, I.turned (t' := s.toks) (fun b o hb q => eb b o hb q) f0 f1 f3 f4 f5⟩
  self := fun A i s Q E st h => let ⟨⟨_, he⟩, _⟩ := st; wpAny_pyIter_enum he h
/-- enumerate(e, start=k): of a list or a tuple -/
def iEnumS (K : PySem.W.Frag) (k : Int) (ta : TE) : TI := fun σ H R => ta σ H fun v H1 => ∃ a b xs, v = .ref a ∧ SqB b K H1 a xs ∧ R (Ies b K k a) H1
def enumQ (K : PySem.W.Frag) (k : Int) (R : It → Hp → Prop) : List V → Hp → Prop := fun vs H1 => match vs with
  | [v] => ∃ a b xs, v = .ref a ∧ SqB b K H1 a xs ∧ R (Ies b K k a) H1
  | _ => False
theorem beginsB (b : Bool) (a : Addr) (items : Array Value) : ∃ o, Begins (.ref a) o (fun h => IsB b h a items) ∧ ∀ h it, h.get? it = some o → InB b h it a 0 := by
  cases b with
  | false => exact ⟨_, begins_list a items, fun h it e => ⟨_, e, rfl, rfl⟩⟩
  | true => exact ⟨_, begins_tuple a items, fun h it e => ⟨_, e, rfl, rfl⟩⟩
theorem callWith_typeKw {M : Model} {A : Around} {E : Value → Shared → Prop} {s : Shared} {pos : Pos} {T : String} {first : List Value} {args : List (Bool × Sem Value)} {kws : List (Option Str × Sem Value)} {Q : Value → Shared → Prop} (hplain : (args.any (·.1) || kws.any (·.1.isNone)) = false)
    (h : wpAny M A (evalArgs (.type T) true args kws) (fun a s₁ => wpAny M A (call (.type T) (first ++ a.pos) a.kw) Q E s₁) E s) :
    wpAny M A (callWith pos (.type T) first args kws) Q E s := by
  unfold callWith
  refine wpAny_bind (wpAny_holding (wpAny_mono h (fun a s₁ h₁ => wpAny_bind (wpAny_standAt ?_)) fun _ _ x => x))
  simp only [hplain]
  refine wpAny_bind (wpAny_pure ?_)
  exact wpAny_bind (wpAny_mono h₁ (fun r s₂ hr => wpAny_bind (wpAny_holding (wpAny_point (wpAny_pure hr)))) fun _ _ x => x)
theorem pi_enumS {X : Cx} {e : Expr} {ta : TE} {k : Int} {j : Nat} {p pos tpos p2 kpos : Pos} {elts : List Expr} {kk : Nat} (hk0 : -(2 ^ 63) ≤ k) (hk1 : k < 2 ^ 63) (hg : Gl X "enumerate") (hm : X.mg "enumerate" = none) (he : PE X e ta)
    (hs : starEach [e] X.env = (false, eval e X.env) :: starEach [] X.env := by rfl) (hall : (backToKw pos (keywordEach [⟨some "start", .Constant (.int k) j p2, kpos⟩] X.env)).all (·.1.isSome) = true := by rfl)
    (hks : (backToKw pos (keywordEach [⟨some "start", .Constant (.int k) j p2, kpos⟩] X.env)).filterMap (·.1) = [Str.ofString "start"] := by rfl)
    (hpl : ((backTo pos (starEach [e] X.env)).any (·.1) || (backToKw pos (keywordEach [⟨some "start", .Constant (.int k) j p2, kpos⟩] X.env)).any (·.1.isNone)) = false := by rfl) :
    PI X (.Tuple elts kk tpos) (.Call (.Name "enumerate" p) [e] [⟨some "start", .Constant (.int k) j p2, kpos⟩] pos) (iEnumS X.K k ta) := by
  refine ⟨fun pins s σ H R I h => ?_⟩
  refine wpAny_Call_Name_kw (ld_blt I hg hm boot_enumerate ?_)
  have hpa : PA X [e] (tCons ta tNil) := pa_cons he pa_nil hs
  have hpk : PK X [⟨some "start", .Constant (.int k) j p2, kpos⟩] (tCons (tC (.int k)) tNil) := pk_cons pe_int pk_nil
  refine callWith_typeKw hpl ?_
  refine PyProof.Rows.evalArgs_kw2 hall (thn (hpa.run pos pins s σ H (enumQ X.K k R) I h) fun us s1 hu => ?_) hs
  obtain ⟨vs, H1, I1, r, hQ⟩ := hu
  obtain ⟨a, b, xs, rfl, hq, q⟩ : ∃ a b xs, vs = [V.ref a] ∧ SqB b X.K H1 a xs ∧ R (Ies b X.K k a) H1 := by
    match vs, hQ with
    | [v], ⟨a, b, xs, e, hq, q⟩ => exact ⟨a, b, xs, by rw [e], hq, q⟩
  refine thn (hpk.run pos pins s1 σ H1 (fun zs H2 => zs = [.int k] ∧ H2 = H1) I1 ⟨rfl, rfl⟩) fun ws s2 hw => ?_
  obtain ⟨zs, H2, I2, rz, rfl, rfl⟩ := hw
  rw [hks]
  obtain ⟨u, rfl, ru⟩ := vals1 r
  obtain ⟨u2, rfl, ru2⟩ := vals1 rz
  obtain ⟨t2, rfl⟩ := ru2
  cases ru
  obtain ⟨its, rv, p', hz⟩ := sqB_is I2 hq
  obtain ⟨o, B, hin⟩ := beginsB b a its.toArray
  refine enum_begins_start B p' hk0 hk1 fun h' he hit hsz hk => wpAny_pyIter_enum he ?_
  have I3 : Inv X pins σ H2 { s2 with heap := h' } := I2.kept (t' := s2.toks) hk
  refine ⟨s2.heap.objs.size + 1, [s2.heap.objs.size + 1, s2.heap.objs.size], _, _, H2, rfl, I3, turn_ies (b := b) k a (s2.heap.objs.size + 1) s2.heap.objs.size, ⟨⟨.none, ?_⟩, hin _ _ hit, Nat.succ_ne_self _⟩, fun c hc => ?_, q⟩
  · have e1 : k + ((0 : Nat) : Int) = k := by omega
    rw [e1]; exact he
  · have e' : c = s2.heap.objs.size + 1 ∨ c = s2.heap.objs.size := by simpa using hc
    have hle : s2.heap.objs.size ≤ c := by
      rcases e' with z | z
      · rw [z]; exact Nat.le_add_right _ _
      · rw [z]; exact Nat.le_refl _
    exact I2.fpOk hle (I2.hok.fresh hle)
theorem walk_ies {b : Bool} {K : PySem.W.Frag} {k : Int} {a : Addr} {xs : List V} : L2.Walk (Ies b K k a) xs.length (fun H => SqB b K H a xs) (YPair (fun i => some (.int (k + (i : Nat)))) (fun i => xs[i]?)) := by
  refine ⟨fun i _ hi q => ⟨xs, xs[i], q, by simp [hi]⟩, fun _ q => ⟨xs, q, Nat.le_refl _⟩, fun i H v H' _ q y => ?_⟩
  obtain ⟨T, x, h1, h2, h3, h4⟩ := y
  exact ⟨T, .int (k + (i : Nat)), x, h1, h2, h3, rfl, h4 xs q⟩
theorem if_true_of {c : Bool} {A B : Prop} (h : c = true) (a : A) : if c = true then A else B := by rw [if_pos h]; exact a
theorem if_false_of {c : Bool} {A B : Prop} (h : c = false) (b : B) : if c = true then A else B := by rw [h]; exact iteF b
theorem two_int {a b : Int} {x y : Nat} (h1 : a = x) (h2 : b = y) : [V.int a, V.int b] = [V.int x, V.int y] := by rw [h1, h2]
end DpR
namespace Dp
open PySem PySem.Spec PyProof.Rows L2 DpR
/-! ### data that is handed in -/
def nv (t : Nat) : V := .int (t : Int)
def rowO : Bool → List V → HO
  | false, xs => .lst xs
  | true, xs => .tup xs
/-- a pick's things, rising -/
def asc (ds : List Nat) : List V := ds.reverse.map nv
theorem asc_len (ds : List Nat) : (asc ds).length = ds.length := by unfold asc; rw [List.length_map, List.length_reverse]
theorem row_sq {K : PySem.W.Frag} {H : Hp} {a : Addr} {xs : List V} : ∀ {b : Bool}, H a = some (rowO b xs) → SqB b K H a xs
  | false, h => SqL.of h
  | true, h => SqT.of h
inductive Dt (H : Hp) : V → Prop where
  | non : Dt H .non
  | bl (b : Bool) : Dt H (.bl b)
  | int (i : Int) : Dt H (.int i)
  | str (x : Str) : Dt H (.str x)
  | row {a : Addr} (b : Bool) (xs : List V) (h : H a = some (rowO b xs)) : Dt H (.ref a)
  | dic {a : Addr} (kvs : List (Key × V)) (h : H a = some (.dK kvs)) : Dt H (.ref a)
theorem Dt.mono {H H' : Hp} {x : V} (h : Dt H x) (s : Same H H') : Dt H' x := by
  cases h with
  | non => exact .non
  | bl b => exact .bl b
  | int i => exact .int i
  | str x => exact .str x
  | row b xs h => exact .row b xs (s _ _ h)
  | dic kvs h => exact .dic kvs (s _ _ h)
theorem Dt.tyB {K : PySem.W.Frag} {H : Hp} {x : V} (h : Dt H x) : ∃ T, TyB K H x T ∧ PySem.W.kitMeta T = true ∧ (T = "int" ↔ ∃ i, x = .int i) := by
  cases h with
  | non => exact ⟨_, .non, by decide +kernel, ⟨fun z => absurd z (by decide), fun ⟨_, z⟩ => (nomatch z)⟩⟩
  | bl b => exact ⟨_, .bl b, by decide +kernel, ⟨fun z => absurd z (by decide), fun ⟨_, z⟩ => (nomatch z)⟩⟩
  | int i => exact ⟨_, .int i, by decide +kernel, ⟨fun _ => ⟨i, rfl⟩, fun _ => rfl⟩⟩
  | str x => exact ⟨_, .str x, by decide +kernel, ⟨fun z => absurd z (by decide), fun ⟨_, z⟩ => (nomatch z)⟩⟩
  | row b xs h =>
    cases b with
    | false => exact ⟨_, .lst (SqL.of h), by decide +kernel, ⟨fun z => absurd z (by decide), fun ⟨_, z⟩ => (nomatch z)⟩⟩
    | true => exact ⟨_, .tup (SqT.of h), by decide +kernel, ⟨fun z => absurd z (by decide), fun ⟨_, z⟩ => (nomatch z)⟩⟩
  | dic kvs h => exact ⟨_, .dK h, by decide +kernel, ⟨fun z => absurd z (by decide), fun ⟨_, z⟩ => (nomatch z)⟩⟩
/-- is it a row? -/
def isRow (H : Hp) (x : V) : Prop := ∃ a b xs, x = .ref a ∧ H a = some (rowO b xs)
theorem Dt.tyX {K : PySem.W.Frag} {H : Hp} {x : V} (h : Dt H x) : ∃ (T : String) (r : Bool), TyX K H x (.type T) ∧ PySem.W.kitAny K (.type T) [.type "tuple", .type "list"] = some r ∧ (r = true ↔ isRow H x) := by
  have no : ∀ {T : String}, kitB T "tuple" = some false → kitB T "list" = some false → PySem.W.kitAny K (.type T) [.type "tuple", .type "list"] = some false := fun h1 h2 =>
    kitAny_cons (kit_ty h1) (fun _ => kitAny_cons (kit_ty h2) (fun _ => kitAny_nil) (fun z => (nomatch z))) (fun z => (nomatch z))
  cases h with
  | non => exact ⟨_, false, .base .non, no (by decide +kernel) (by decide +kernel), ⟨fun z => (nomatch z), fun ⟨_, _, _, z, _⟩ => (nomatch z)⟩⟩
  | bl b => exact ⟨_, false, .base (.bl b), no (by decide +kernel) (by decide +kernel), ⟨fun z => (nomatch z), fun ⟨_, _, _, z, _⟩ => (nomatch z)⟩⟩
  | int i => exact ⟨_, false, .base (.int i), no (by decide +kernel) (by decide +kernel), ⟨fun z => (nomatch z), fun ⟨_, _, _, z, _⟩ => (nomatch z)⟩⟩
  | str x => exact ⟨_, false, .base (.str x), no (by decide +kernel) (by decide +kernel), ⟨fun z => (nomatch z), fun ⟨_, _, _, z, _⟩ => (nomatch z)⟩⟩
  | @row a b xs h =>
    cases b with
    | false =>
      refine ⟨_, true, .base (.lst h), kitAny_cons (b := false) (kit_ty (by decide +kernel)) (fun _ => kitAny_cons (b := true) (kit_ty (by decide +kernel)) (fun z => (nomatch z)) (fun _ => rfl)) (fun z => (nomatch z)), ⟨fun _ => ⟨a, false, xs, rfl, h⟩, fun _ => rfl⟩⟩
    | true =>
      refine ⟨_, true, .base (.tup h), kitAny_cons (b := true) (kit_ty (by decide +kernel)) (fun z => (nomatch z)) (fun _ => rfl), ⟨fun _ => ⟨a, true, xs, rfl, h⟩, fun _ => rfl⟩⟩
  | @dic a kvs h =>
    refine ⟨_, false, .base (.dK h), no (by decide +kernel) (by decide +kernel), ⟨fun z => (nomatch z), fun ⟨a', b, xs, e, h'⟩ => ?_⟩⟩
    cases e
    rw [h] at h'
    cases b <;> cases h'
/-! ### a whole number within bounds; a rising row -/
def wholeV (x : V) (lo hi : Int) : Bool := match x with
  | .int i => decide (lo ≤ i) && decide (i ≤ hi)
  | _ => false
def risV (n : Int) : Int → List V → Bool
  | _, [] => true
  | lo, x :: r => match x with
    | .int i => decide (lo ≤ i) && decide (i ≤ n - 1) && risV n (i + 1) r
    | _ => false
/-- where a rising row is one, it is a pick's things -/
theorem ris_desc {n : Nat} : ∀ (xs : List V) (pre : List Nat) (lo : Nat), Desc lo pre → lo ≤ n → risV n lo xs = true → ∃ ds, asc pre ++ xs = asc ds ∧ Desc n ds ∧ ds.length = pre.length + xs.length
  | [], pre, lo, hp, hl, _ => ⟨pre, by rw [List.append_nil], hp.mono hl, rfl⟩
  | x :: r, pre, lo, hp, hl, h => by
    cases x with
    | int i =>
      have h' : (decide ((lo : Int) ≤ i) && decide (i ≤ (n : Int) - 1) && risV n (i + 1) r) = true := h
      rw [Bool.and_eq_true, Bool.and_eq_true, decide_eq_true_eq, decide_eq_true_eq] at h'
      obtain ⟨⟨h1, h2⟩, h3⟩ := h'
      obtain ⟨t, rfl⟩ : ∃ t : Nat, i = (t : Int) := ⟨i.toNat, by omega⟩
      have e1 : ((t : Nat) : Int) + 1 = ((t + 1 : Nat) : Int) := by omega
      rw [e1] at h3
      obtain ⟨ds, a1, a2, a3⟩ := ris_desc r (t :: pre) (t + 1) ⟨Nat.lt_succ_self t, hp.mono (by omega)⟩ (by omega) h3
      refine ⟨ds, ?_, a2, ?_⟩
      · rw [← a1]
        unfold asc
        rw [List.reverse_cons, List.map_append, List.append_assoc]
        rfl
      · rw [a3, List.length_cons, List.length_cons]; omega
    | _ => exact absurd (show false = true from h) Bool.false_ne_true
theorem asc_cons (t : Nat) (ds : List Nat) : asc (t :: ds) = asc ds ++ [nv t] := by
  unfold asc
  rw [List.reverse_cons, List.map_append]
  rfl
theorem ris_app (n : Int) : ∀ (xs : List V) (lo i : Int), risV n lo xs = true → (∀ j, xs.getLast? = some (.int j) → j < i) → lo ≤ i → i ≤ n - 1 → risV n lo (xs ++ [.int i]) = true
  | [], lo, i, _, _, h1, h2 => by
    show (decide (lo ≤ i) && decide (i ≤ n - 1) && true) = true
    simp [h1, h2]
  | x :: r, lo, i, h, hl, h1, h2 => by
    cases x with
    | int j =>
      have h' : (decide (lo ≤ j) && decide (j ≤ n - 1) && risV n (j + 1) r) = true := h
      rw [Bool.and_eq_true] at h'
      obtain ⟨q1, q2⟩ := h'
      show (decide (lo ≤ j) && decide (j ≤ n - 1) && risV n (j + 1) (r ++ [.int i])) = true
      rw [q1, Bool.true_and]
      cases r with
      | nil =>
        have := hl j rfl
        show (decide (j + 1 ≤ i) && decide (i ≤ n - 1) && true) = true
        simp [h2]
        omega
      | cons y r =>
        refine ris_app n (y :: r) (j + 1) i q2 (fun k hk => hl k (by rw [List.getLast?_cons_cons]; exact hk)) ?_ h2
        have : ∀ (l : List V) (lo : Int), l ≠ [] → risV n lo l = true → ∃ j, l.getLast? = some (.int j) ∧ lo ≤ j := by
          intro l
          induction l with
          | nil => intro lo h; exact absurd rfl h
          | cons z l ih =>
            intro lo _ hz
            cases z with
            | int a =>
              have hz' : (decide (lo ≤ a) && decide (a ≤ n - 1) && risV n (a + 1) l) = true := hz
              rw [Bool.and_eq_true, Bool.and_eq_true, decide_eq_true_eq] at hz'
              cases l with
              | nil => exact ⟨a, rfl, hz'.1.1⟩
              | cons z' l =>
                obtain ⟨b, hb, hle⟩ := ih (a + 1) (by simp) hz'.2
                exact ⟨b, by rw [List.getLast?_cons_cons]; exact hb, by omega⟩
            | _ => exact absurd (show false = true from hz) Bool.false_ne_true
        obtain ⟨b, hb, hle⟩ := this (y :: r) (j + 1) (by simp) q2
        have := hl b (by rw [List.getLast?_cons_cons]; exact hb)
        omega
    | _ => exact absurd (show false = true from h) Bool.false_ne_true
theorem asc_last : ∀ {ds : List Nat} {n : Nat} {j : Int}, Desc n ds → (asc ds).getLast? = some (.int j) → j < n
  | [], _, _, _, h => by simp [asc] at h
  | t :: ds, n, j, hd, h => by
    rw [asc_cons, List.getLast?_concat] at h
    have e : (t : Int) = j := V.int.inj (Option.some.inj h)
    have := hd.1
    omega
theorem desc_ris : ∀ {ds : List Nat} {n : Nat}, Desc n ds → risV n 0 (asc ds) = true
  | [], _, _ => rfl
  | t :: ds, n, h => by
    rw [asc_cons]
    have h1 := h.1
    have ih : risV n 0 (asc ds) = true := desc_ris (h.2.mono (by omega))
    exact ris_app n (asc ds) 0 t ih (fun j hj => asc_last h.2 hj) (by omega) (by omega)
theorem asc_inj {a b : List Nat} (h : asc a = asc b) : a = b := by
  unfold asc at h
  have h2 := (List.map_inj_right (f := nv) (fun x y e => by
    have := V.int.inj e
    omega)).mp h
  exact List.reverse_inj.mp h2
end Dp
namespace DpR
open PySem PySem.Spec PyProof.Rows L2
/-! ### an exception that was caught, kept in a name -/
def ExD (cls : Value) (d : Option Addr) (a : Addr) : HO := .ext fun h => ∃ (oe : Obj) (vs : Array Value), h.get? a = some oe ∧ Zc cls d oe ∧ oe.data = .fields vs
theorem exD_ok {P : Program} {w : World} {H : Hp} {h : Heap} {a : Addr} {cls : Value} {d : Option Addr} {oe : Obj} {vs : Array Value} (e : h.get? a = some oe) (z : Zc cls d oe) (f : oe.data = .fields vs) : ObjOk P w H h a (ExD cls d a) :=
  ⟨⟨oe, vs, e, z, f⟩, ⟨oe, e⟩, fun _ _ ⟨o, v, q, r⟩ k => ⟨o, v, k o q, r⟩⟩
/-- an object that came while we looked away is tracked from now on -/
theorem inv_track {X : Cx} {pins : List (Addr × Obj)} {σ : L2.St} {H : Hp} {sI s : Shared} {a : Addr} {cls : Value} {d : Option Addr} {oe : Obj} {vs : Array Value} (hx : X.ex = []) (J : Inv X pins σ H sI) (I : Inv X pins σ H s)
    (hI : sI.heap.get? a = none) (na : H a = none) (nL : a ≠ X.env.locals) (e : s.heap.get? a = some oe) (z : Zc cls d oe) (f : oe.data = .fields vs) : Inv X pins σ (upd H a (ExD cls d a)) s := by
  have n0 : X.s_0.heap.get? a = none := by
    cases q : X.s_0.heap.get? a with
    | none => rfl
    | some o =>
      obtain ⟨o', q'⟩ := J.base.there a o q (by rw [hx]; simp)
      rw [hI] at q'; cases q'
  have keepN : ∀ b, b ≠ a → H b = none → upd H a (ExD cls d a) b = none := fun b hb q => by rw [upd_ne hb]; exact q
  refine ⟨I.ok, I.os, I.bare, ⟨I.base.keep, I.base.slot, fun b o q n h => ?_, I.base.there, fun b xs q => ?_, fun b o u q => ?_, fun b ps q => ?_⟩, I.loc, I.cell, ?_, fun x c q => ?_, fun p hp => ?_, ?_, I.len⟩
  · exact keepN b (fun y => by rw [y, n0] at q; cases q) (I.base.free b o q n h)
  · have h := I.base.tups b xs q
    rw [upd_ne (ne_of_none h na)]; exact h
  · have h := I.base.frzs b o u q
    rw [upd_ne (ne_of_none h na)]; exact h
  · obtain ⟨m, h⟩ := I.base.tbls b ps q
    exact ⟨m, by rw [upd_ne (ne_of_none h na)]; exact h⟩
  · exact keepN _ (Ne.symm nL) I.free
  · refine keepN c (fun y => ?_) (I.freeC x c q)
    obtain ⟨v, o, ho, hd⟩ := I.cell x c q
    rw [y, e] at ho
    cases ho
    rw [f] at hd; cases hd
  · obtain ⟨h1, h2, h3, h4, h5⟩ := I.pin p hp
    refine ⟨h1, keepN p.1 (fun y => ?_) h2, h3, h4, h5⟩
    have h6 := (J.pin p hp).1
    rw [y, hI] at h6; cases h6
  · exact I.hok.laidN (fun _ _ q => q) na (exD_ok e z f)
theorem inv_suiteT {X : Cx} {pins : List (Addr × Obj)} {σ : L2.St} {H : Hp} {s : Shared} {a : Addr} (I : Inv X pins σ H s) : Inv (X.suite a (X.pn ++ pins)) [] σ H s :=
  ⟨I.ok.suite _ _, I.os, I.bare, I.base, I.loc, I.cell, I.free, I.freeC, fun p hp => I.pin p (by rw [List.append_nil] at hp; exact hp), I.hok, I.len⟩
theorem inv_unsuiteT {X : Cx} {pins pn' : List (Addr × Obj)} {σ : L2.St} {H : Hp} {s : Shared} {a : Addr} (I : Inv (X.suite a (X.pn ++ pins)) pn' σ H s) (ok : X.Ok) : Inv X pins σ H s :=
  ⟨ok, I.os, I.bare, I.base, I.loc, I.cell, I.free, I.freeC, fun p hp => I.pin p (List.mem_append_left _ hp), I.hok, I.len⟩
/-- what the clause 'except x as n' wishes where the exception is tracked within and behind the suite; slot i is n's -/
def wAsT (K : PySem.W.Frag) (c : Value) (i : Nat) (ts : Addr → TS) (Wout : WX) (D : Ends) : WX := fun cls d σ H =>
  ∃ b, PySem.W.exmOne K cls c = some b ∧ (b = true → ∀ a, H a = none → ts a { nx := fun σ' H' => D.nx (σ'.set i none) H', rt := D.rt, bk := fun σ' H' => D.bk (σ'.set i none) H', ct := fun σ' H' => D.ct (σ'.set i none) H' } (σ.set i (some (.ref a))) (upd H a (ExD cls d a))) ∧
    (b = false → Wout cls d σ H)
section
variable {X : Cx} {x n : Str} {c : Value} {i : Nat} {body suite : List Stmt} {b₀ : Stmt} {np pos pos' : Pos} {tb : WX → TS} {ts : Addr → TS} {Wout : WX}
theorem ps_tryT (hs : X.stack = X.env :: X.outer) (hf : X.env.frame = some X.env.locals) (hex : X.ex = []) (hN : X.N.Nodup) (hi : X.N[i]? = some n) (hln : X.env.kindOf n = some .local) (hc : Names X x c) (tk : Takes X Wout)
    (hb : ∀ (W : WX) (pn : List (Addr × Obj)) (xe : Value → Shared → Prop), Takes (X.tr pn xe) W → PassesOwn (model X.prog X.w) X.A X.env xe → PSs (X.tr pn xe) body (tb W))
    (hsu : ∀ (a : Addr) (pn : List (Addr × Obj)), PSs (X.suite a pn) (b₀ :: suite) (ts a)) :
    PS X (.Try body [.ExceptHandler (some (.Name x np)) (some n) (b₀ :: suite) pos'] [] [] pos) (fun D σ H => tb (wAsT X.K c i ts Wout D) D σ H) := by
  refine ⟨fun pins s σ H D I h => ?_⟩
  have ok := I.ok
  have hfr : X.A.frames = some (X.env :: X.outer) := by rw [ok.frames, hs]
  have hloc : Loc X.env.scope n := .inl hln
  refine wpAny_Try_except ?_
  refine wpAny_mono ((hb (wAsT X.K c i ts Wout D) (X.pn ++ pins) (fun e s₁ => wpAny (model X.prog X.w) X.A (noteFrame e X.env) (fun _ s₂ => wpAny (model X.prog X.w) X.A (setFlight e none) (fun _ s₃ =>
    wpAny (model X.prog X.w) X.A (handleBy e X.env [.ExceptHandler (some (.Name x np)) (some n) (b₀ :: suite) pos']) (SP X pins D) X.xe s₃) X.xe s₂) X.xe s₁) (fun u s' xx => ?_) PassesOwn.looking).run [] s σ H D (I.toTry _) h) (fun f s1 hsp => ?_) (fun e s1 he => he)
  · obtain ⟨a, B, sI, pins', σ', H', cls, d, rfl, J', nb, up, sky, na, os, ag, b, hb1, hyes, hno⟩ := xx
    have J : Inv X pins σ' H' sI := J'.ofTry ok
    have sky' : Sky B (X.env :: X.outer) a (Zc cls d) X.env.locals s'.heap := by rw [← hs]; exact sky
    show wpAny (model X.prog X.w) X.A (noteFrame (.ref a) X.env) _ _ _
    refine Sky.land Zc.steady hfr hf sky' fun h3 fl3 up3 => ?_
    have J3 : Inv X pins σ' H' { s' with heap := h3 } := J.landed nb fl3.1 (up.trans up3) os ag
    obtain ⟨oe3, vs3, he3, hz3, hd3⟩ := fl3.there
    have nfr : a ∉ frs (X.env :: X.outer) := fun hm => by
      obtain ⟨_, o', e', hnf⟩ := fl3.2.2.1.mem hm
      rw [he3] at e'; cases e'
      exact hnf _ hd3
    have nL : a ≠ X.env.locals := fun z => nfr (List.mem_filterMap.mpr ⟨X.env, List.mem_cons_self, by rw [hf, z]⟩)
    have hI : sI.heap.get? a = none := by
      cases q : sI.heap.get? a with
      | none => rfl
      | some o =>
        have h1 := nb a o q (by rw [hs]; exact nfr)
        rw [fl3.2.1] at h1; cases h1
    have T3 := inv_track hex J J3 hI na nL he3 hz3 hd3
    have S3 : Inv (X.suite a (X.pn ++ pins)) [] σ' (upd H' a (ExD cls d a)) { s' with heap := h3 } := inv_suiteT T3
    refine wpAny_handleBy_cons (codeAny_handlers_test ?_) (by intro q; cases q)
    have LT : PySem.W.Looks (model X.prog X.w) h3 (typeOf (.ref a)) cls := fun A Q E s k q => wpAny_typeOf_ref (k _ _ he3) (by rw [hz3.1]; exact q)
    have LM := PySem.W.exm_one (M := model X.prog X.w) (J3.kIn) LT hb1
    have test : ∀ {Q : Value → Shared → Prop} {E : Value → Shared → Prop}, Q c { s' with heap := h3 } → wpAny (model X.prog X.w) (X.A.mark (some (.ref a))) (eval (.Name x np) X.env) Q E { s' with heap := h3 } := fun {Q E} q => by
      obtain ⟨hg, hdbg, hm | ⟨hm, hv, hnn⟩⟩ := hc
      · exact ld_glob (X := X.suite a (X.pn ++ pins)) S3 hg hm q hdbg
      · exact ld_blt (X := X.suite a (X.pn ++ pins)) S3 hg hm hv q hnn hdbg
    refine test (LM.here ?_)
    cases b with
    | true =>
      refine codeAny_handlers_suite_as ?_
      refine HandSPX.lands_againZ fl3 fun h4 fl4 up4 => ?_
      have J4 : Inv X pins σ' H' { s' with heap := h4 } := J.landed nb fl4.1 ((up.trans up3).trans up4) os ag
      obtain ⟨oe4, vs4, he4, hz4, hd4⟩ := fl4.there
      have S4 : Inv (X.suite a (X.pn ++ pins)) [] σ' (upd H' a (ExD cls d a)) { s' with heap := h4 } := inv_suiteT (inv_track hex J J4 hI na nL he4 hz4 hd4)
      refine store_ok (X := X.suite a (X.pn ++ pins)) (v := .ref a) S4 hN hi hloc rfl (fun s5 S5 => ?_) (.inr hln)
      refine wpAny_mono ((hsu a (X.pn ++ pins)).run [] s5 _ _ _ S5 (hyes rfl a na)) (fun f s6 hsp => ?_) (fun _ _ z => False.elim z)
      have end_ : ∀ {σ6 : L2.St} {H6 : Hp} {Q : Shared → Prop}, Inv (X.suite a (X.pn ++ pins)) [] σ6 H6 s6 → (∀ s7, Inv X pins (σ6.set i none) H6 s7 → Q s7) →
          wpAny (model X.prog X.w) X.A (do bindName X.env n .none; unbindBehindTheSuite X.env n pos') (fun _ s7 => Q s7) X.xe s6 := fun {σ6 H6 Q} S6 hq => gone_ok (inv_unsuiteT S6 ok) hN hi hln hq
      cases f with
      | next =>
        obtain ⟨σ6, H6, S6, q6⟩ := hsp
        exact end_ S6 fun s7 J7 => ⟨_, _, J7, q6⟩
      | brk =>
        obtain ⟨σ6, H6, S6, q6⟩ := hsp
        exact end_ S6 fun s7 J7 => ⟨_, _, J7, q6⟩
      | cont =>
        obtain ⟨σ6, H6, S6, q6⟩ := hsp
        exact end_ S6 fun s7 J7 => ⟨_, _, J7, q6⟩
      | ret u =>
        obtain ⟨v6, σ6, H6, S6, r6, q6⟩ := hsp
        exact end_ S6 fun s7 J7 => ⟨_, _, _, J7, r6, q6⟩
    | false =>
      show wpAny _ X.A (handleBy (.ref a) X.env []) _ _ _
      refine wpAny_handleBy_nil ?_
      obtain ⟨k1, k2, k3, oe, vs, T, oT, ts', he, hz, hd, h1, hr⟩ := id fl3
      unfold PySem.passOn
      refine wpAny_bind (wpAny_field he hd h1 ?_)
      rw [if_neg (show ¬ ((Value.ref T == Value.none) = true) from by simp)]
      have fin : wpAny (model X.prog X.w) X.A (setFlight (.ref a) X.env.frame) (fun _ s4 => wpAny (model X.prog X.w) X.A (throw (.ref a) : Sem Flow) (SP X pins D) X.xe s4) X.xe { s' with heap := h3 } := by
        rw [hf]
        refine HandSPX.setFlight_upZ fl3 fun h4 hh4 up4 => wpAny_throw (tk _ _ ?_)
        exact ⟨a, B, sI, pins, σ', H', cls, d, rfl, J, nb, (up.trans up3).trans up4, .inr (.inr (by rw [hs]; exact hh4)), na, os, ag, hno rfl⟩
      first
        | exact wpAny_bind (wpAny_pure (wpAny_bind fin))
        | exact wpAny_bind fin
  · cases f with
    | next =>
      obtain ⟨σ', H', J', q⟩ := hsp
      exact wpAny_execs_nil ⟨σ', H', J'.ofTry ok, q⟩
    | brk =>
      obtain ⟨σ', H', J', q⟩ := hsp
      exact ⟨σ', H', J'.ofTry ok, q⟩
    | cont =>
      obtain ⟨σ', H', J', q⟩ := hsp
      exact ⟨σ', H', J'.ofTry ok, q⟩
    | ret u =>
      obtain ⟨v, σ', H', J', r, q⟩ := hsp
      exact ⟨v, σ', H', J'.ofTry ok, r, q⟩
end
/-! ### a method's call whose exceptions are wished for at the caller's slots -/
def tMethE (C : Addr) (m : Str) (sp : Sp) (E : L2.St → XK) (ta : TE) (t : TA) : TE := fun σ H Q => ta σ H fun x H1 => ∃ a dx fs, x = .ref a ∧ H1 a = some (.ins C dx fs) ∧ fs.lookup m = none ∧
  t σ H1 fun vs H2 => sp (x :: vs) H2 Q (E σ)
theorem pe_methE {X : Cx} {CX : CXT} {k : Nat} {f C : Addr} {fd : FuncData} {ps : List Str} {sp : Sp} {E : L2.St → XK} {m : Str} {pos apos : Pos} {e o : Expr} {es : List Expr} {ta : TE} {t : TA} {pl : Sem Bool} (he : PE X o ta) (c : Cls X.K C) (hm : Meth X.K C m f)
    (F : FnOk X.prog X.w X.K X.mg X.base CX k f fd ps sp) (hr : Room k X.A) (hb : Binds X.K fd ps []) (hx : ∀ σ, PassesAt CX X σ (E σ)) (ha : PA X (e :: es) t)
    (hst : starEach (e :: es) X.env = (false, eval e X.env) :: starEach es X.env := by rfl) (hpl : (backTo pos (starEach es X.env)).any (·.1) = false := by rfl)
    (ht : eval (.Call (.Attribute o m apos) (e :: es) [] pos) X.env = (do
      let ov ← eval o X.env
      standAt apos.atName
      let (f, first) ← holding [ov] (getMethod ov m pl)
      callWith pos f first (backTo pos (starEach (e :: es) X.env)) (backToKw pos (keywordEach [] X.env))) := by rfl) :
    PE X (.Call (.Attribute o m apos) (e :: es) [] pos) (tMethE C m sp E ta t) := by
  refine ⟨fun pins s σ H Q I h => ?_⟩
  refine PySem.W.methodCall_KW (pl := pl) (thn (he.run pins s σ H _ I h) fun u s1 ⟨x, H1, I1, rx, a, dx, fs, ex, ea, l, q⟩ => ?_) ht
  subst ex
  obtain rfl : u = Value.ref a := rx
  refine getmeth_ok I1 ea c hm l ?_
  refine PySem.W.callWith_K (first := [.ref a]) (h₀ := X.base) I.ok.mod.kin hm.kp (thn (ha.run pos pins s1 σ H1 _ I1 q) fun us s2 ⟨vs, H2, I2, r, q2⟩ => ⟨I2.kIn, ?_⟩) hst hpl
  exact run_fnS (us := .ref a :: us) (vs := .ref a :: vs) F hr hb (hx σ) I2 (.cons rfl r) q2
/-! ### isinstance of a kept exception -/
def rIsX (K : PySem.W.Frag) : List V → Hp → VK → Prop := fun xs H Q => ∃ (a D : Addr) (c : V) (cv : Value) (b : Bool), xs = [.ref a, c] ∧ H a = some (ExD (.ref D) none a) ∧ ExcC K D ∧ ClsV c cv ∧ PySem.W.kitOne K (.ref D) cv = some b ∧ Q (.bl b) H
theorem call_isX {X : Cx} : CallR X (.builtin "isinstance") (rIsX X.K) := by
  intro pins s σ H xs us Q I r h
  obtain ⟨a, D, c, cv, b, rfl, ha, C, hcv, e, q⟩ := h
  obtain ⟨u1, u2, rfl, r1, r2⟩ := vals2 r
  cases r1
  have ec := hcv.eq r2
  subst ec
  obtain ⟨⟨oe, vs, ho, hz, hv⟩, _, _⟩ := I.hok a _ ha
  have J : PySem.W.InstAt s.heap a oe D none := by
    obtain ⟨oc, od, oda, osl⟩ := oe
    obtain ⟨h1, h2⟩ := hz
    dsimp only at h1 h2 hv
    subst h1 h2 hv
    exact ⟨ho, rfl, rfl, trivial⟩
  exact PySem.W.kia_one (PySem.W.handS_kitx_exc C.hg C.hk C.hs C.hd C.ha C.hn C.ht C.hm) I.kIn J e (fun z => (nomatch z)) fun tk => ⟨.bl b, H, I.kept (t' := tk) fun _ _ z => z, rfl, q⟩
/-! ### list.count of flat things -/
def rCountF (K : PySem.W.Frag) : V → List V → Hp → VK → Prop := fun x xs H Q => ∃ (a : Addr) (ys : List V) (y : V), x = V.ref a ∧ xs = [y] ∧ SqL K H a ys ∧ flatV y = true ∧ ys.all flatV = true ∧ Q (.int ((ys.countP fun z => eqV z y : Nat) : Int)) H
theorem countP_eqU {x : V} : ∀ {xs : List V} {us : List Value}, Vals xs us → xs.all flatV = true → us.countP (eqU x) = xs.countP fun y => eqV y x
  | _, _, .nil, _ => rfl
  | y :: xs, u :: us, .cons r t, h => by
    have h' : flatV y = true ∧ xs.all flatV = true := by simpa using h
    rw [List.countP_cons, List.countP_cons, countP_eqU t h'.2, eqU_of r h'.1]
theorem mt_countF {X : Cx} : MtR X "list.count" (rCountF X.K) := by
  intro pins s σ H x xs v us Q I rx rxs h
  obtain ⟨a, ys, y, rfl, rfl, hs, fy, fys, q⟩ := h
  cases rx
  obtain ⟨u, rfl, ru⟩ := vals1 rxs
  obtain ⟨its, rv, ⟨⟨cls, dd, data, sl⟩, n, ho, hc, hdn, hd⟩, hlen⟩ := I.list hs
  simp only at hc hd
  subst hc hd
  refine call_meets PySem.F.slot_list_count ⟨_, ho, rfl⟩ PySem.F.entry_list_count (PySem.F.args_list_count_2 _ _)
    (SeqAt.list_countAt a its.toArray n dd sl u (eqU y)) ⟨ho, fun u' hu' => mem_eqAt ru fy rv fys u' (by simpa using hu'), ?_⟩
  have ec : its.toArray.toList.countP (eqU y) = ys.countP fun z => eqV z y := countP_eqU rv fys
  refine ⟨.int ((ys.countP fun z => eqV z y : Nat) : Int), H, I.tok _, ⟨s.toks, ?_⟩, q⟩
  show Value.int ((its.toArray.toList.countP (eqU y) : Nat) : Int) s.toks = Value.int ((ys.countP fun z => eqV z y : Nat) : Int) s.toks
  rw [ec]
end DpR
namespace DpR
end DpR
/-! the order of the sets: each set is its things, falling -/
namespace Dp
def gr : List Nat → Int
  | [] => 0
  | g :: r => (2 ^ (g + 1) : Nat) - 1 - gr r
theorem p2_pos (n : Nat) : 1 ≤ 2 ^ n := Nat.one_le_two_pow
theorem p2_succ (n : Nat) : 2 ^ (n + 1) = 2 ^ n + 2 ^ n := by rw [Nat.pow_succ]; omega
theorem p2_mono {n m : Nat} (h : n ≤ m) : 2 ^ n ≤ 2 ^ m := Nat.pow_le_pow_right (by decide) h
theorem gr_bounds : ∀ {n : Nat} {l : List Nat}, Desc n l → 0 ≤ gr l ∧ gr l < (2 ^ n : Nat)
  | n, [], _ => by
    have := p2_pos n
    show (0 : Int) ≤ 0 ∧ (0 : Int) < (2 ^ n : Nat)
    omega
  | n, g :: r, h => by
    have ⟨a, b⟩ := gr_bounds h.2
    have c := p2_mono (show g + 1 ≤ n from h.1)
    have e := p2_succ g
    show 0 ≤ ((2 ^ (g + 1) : Nat) : Int) - 1 - gr r ∧ ((2 ^ (g + 1) : Nat) : Int) - 1 - gr r < (2 ^ n : Nat)
    omega
theorem gr_head {g : Nat} {r : List Nat} (h : Desc g r) : ((2 ^ g : Nat) : Int) ≤ gr (g :: r) ∧ gr (g :: r) < (2 ^ (g + 1) : Nat) := by
  have ⟨a, b⟩ := gr_bounds h
  have e := p2_succ g
  show ((2 ^ g : Nat) : Int) ≤ ((2 ^ (g + 1) : Nat) : Int) - 1 - gr r ∧ ((2 ^ (g + 1) : Nat) : Int) - 1 - gr r < (2 ^ (g + 1) : Nat)
  omega
theorem ghead_one {g g' : Nat} {p : Int} (h1 : ((2 ^ g : Nat) : Int) ≤ p) (h2 : p < (2 ^ (g + 1) : Nat)) (h3 : ((2 ^ g' : Nat) : Int) ≤ p) (h4 : p < (2 ^ (g' + 1) : Nat)) : g = g' := by
  rcases Nat.lt_trichotomy g g' with h | h | h
  · have := p2_mono (show g + 1 ≤ g' from h)
    omega
  · exact h
  · have := p2_mono (show g' + 1 ≤ g from h)
    omega
theorem gr_inj : ∀ {a b : List Nat} {n m : Nat}, Desc n a → Desc m b → gr a = gr b → a = b
  | [], [], _, _, _, _, _ => rfl
  | [], g :: r, _, _, _, hb, h => by
    have ⟨a, _⟩ := gr_head hb.2
    have := p2_pos g
    have h' : (0 : Int) = gr (g :: r) := h
    omega
  | g :: r, [], _, _, ha, _, h => by
    have ⟨a, _⟩ := gr_head ha.2
    have := p2_pos g
    have h' : gr (g :: r) = 0 := h
    omega
  | g :: r, g' :: r', n, m, ha, hb, hr => by
    have ⟨a1, a2⟩ := gr_head ha.2
    have ⟨b1, b2⟩ := gr_head hb.2
    rw [← hr] at b1 b2
    have e := ghead_one a1 a2 b1 b2
    subst e
    have e2 : gr r = gr r' := by
      have q : ((2 ^ (g + 1) : Nat) : Int) - 1 - gr r = ((2 ^ (g + 1) : Nat) : Int) - 1 - gr r' := hr
      omega
    rw [gr_inj ha.2 hb.2 e2]
/-- the set of a number -/
def gu : Nat → Int → List Nat
  | 0, _ => []
  | n + 1, k => if k < (2 ^ n : Nat) then gu n k else n :: gu n ((2 ^ (n + 1) : Nat) - 1 - k)
theorem gu_spec : ∀ (n : Nat) (k : Int), 0 ≤ k → k < (2 ^ n : Nat) → Desc n (gu n k) ∧ gr (gu n k) = k
  | 0, k, h0, h1 => by
    have e : k = 0 := by
      have : ((2 ^ 0 : Nat) : Int) = 1 := rfl
      omega
    subst e
    exact ⟨trivial, rfl⟩
  | n + 1, k, h0, h1 => by
    have e := p2_succ n
    by_cases c : k < (2 ^ n : Nat)
    · have ⟨a, b⟩ := gu_spec n k h0 c
      have q : gu (n + 1) k = gu n k := by show (if _ then _ else _) = _; rw [if_pos c]
      rw [q]
      exact ⟨a.mono (Nat.le_succ n), b⟩
    · have ⟨a, b⟩ := gu_spec n ((2 ^ (n + 1) : Nat) - 1 - k) (by omega) (by omega)
      have q : gu (n + 1) k = n :: gu n ((2 ^ (n + 1) : Nat) - 1 - k) := by show (if _ then _ else _) = _; rw [if_neg c]
      rw [q]
      refine ⟨⟨Nat.lt_succ_self n, a⟩, ?_⟩
      show ((2 ^ (n + 1) : Nat) : Int) - 1 - gr (gu n _) = k
      rw [b]
      omega
theorem gu_gr {n : Nat} {l : List Nat} (h : Desc n l) : gu n (gr l) = l := by
  have ⟨a, b⟩ := gr_bounds h
  have ⟨d1, d2⟩ := gu_spec n (gr l) a b
  exact gr_inj d1 h d2
theorem gu_more {n m : Nat} {p : Int} (hn : n ≤ m) (h0 : 0 ≤ p) (h1 : p < (2 ^ n : Nat)) : gu m p = gu n p := by
  have ⟨a1, a2⟩ := gu_spec n p h0 h1
  have le := p2_mono hn
  have ⟨b1, b2⟩ := gu_spec m p h0 (by omega)
  exact gr_inj b1 a1 (by rw [a2, b2])
/-- the last set: the greatest thing alone -/
theorem gr_last (n : Nat) : gr [n] = (2 ^ (n + 1) : Nat) - 1 := by
  show ((2 ^ (n + 1) : Nat) : Int) - 1 - 0 = _
  omega
/-! one thing is put in or taken out -/
structure Tg (a b : List Nat) (t : Nat) : Prop where
  flip : t ∈ a ↔ t ∉ b
  same : ∀ x, x ≠ t → (x ∈ a ↔ x ∈ b)
theorem Tg.symm {a b : List Nat} {t : Nat} (h : Tg a b t) : Tg b a t :=
  ⟨⟨fun q r => h.flip.mp r q, fun q => Classical.byContradiction fun r => q (h.flip.mpr r)⟩, fun x n => (h.same x n).symm⟩
theorem Tg.cons {a b : List Nat} {t g : Nat} (h : Tg a b t) (n : t ≠ g) : Tg (g :: a) (g :: b) t := by
  refine ⟨?_, fun x hx => by rw [List.mem_cons, List.mem_cons, h.same x hx]⟩
  rw [List.mem_cons, List.mem_cons]
  constructor
  · rintro (e | q) (e' | q')
    · exact n e
    · exact n e
    · exact n e'
    · exact h.flip.mp q q'
  · intro q
    exact .inr (h.flip.mpr fun r => q (.inr r))
/-- the thing that changes is the only one -/
theorem Tg.one {a b : List Nat} {t u : Nat} (h : Tg a b t) (h' : Tg a b u) : t = u := by
  apply Classical.byContradiction
  intro n
  have s := h'.same t n
  by_cases q : t ∈ b
  · exact (h.flip.mp (s.mpr q)) q
  · exact q (s.mp (h.flip.mpr q))
theorem tg_next : ∀ {a b : List Nat} {n m : Nat}, Desc n a → Desc m b → gr b = gr a + 1 → ∃ t, Tg a b t
  | [], [], _, _, _, _, h => by
    have h' : (0 : Int) = 0 + 1 := h
    exact absurd h' (by decide)
  | [], g :: r, _, _, _, hb, h => by
    have ⟨x, y⟩ := gr_head hb.2
    have h' : gr (g :: r) = 0 + 1 := h
    have g0 : g = 0 := by
      apply Classical.byContradiction
      intro ne
      have := p2_mono (show 1 ≤ g by omega)
      have e : 2 ^ 1 = 2 := rfl
      omega
    subst g0
    have r0 : r = [] := by
      cases r with
      | nil => rfl
      | cons a b => exact absurd hb.2.1 (Nat.not_lt_zero _)
    subst r0
    exact ⟨0, by simp, fun x hx => by simp [hx]⟩
  | g :: r, [], _, _, ha, _, h => by
    have ⟨x, y⟩ := gr_head ha.2
    have := p2_pos g
    have h' : (0 : Int) = gr (g :: r) + 1 := h
    omega
  | ga :: ra, gb :: rb, n, m, ha, hb, hr => by
    have ⟨a1, a2⟩ := gr_head ha.2
    have ⟨b1, b2⟩ := gr_head hb.2
    have ea : gr (ga :: ra) = (2 ^ (ga + 1) : Nat) - 1 - gr ra := rfl
    have eb : gr (gb :: rb) = (2 ^ (gb + 1) : Nat) - 1 - gr rb := rfl
    rcases Nat.lt_trichotomy ga gb with h | h | h
    · have c1 := p2_mono (show ga + 1 ≤ gb from h)
      have eg : gb = ga + 1 := by
        apply Classical.byContradiction
        intro ne
        have c2 := p2_mono (show ga + 1 + 1 ≤ gb by omega)
        have c3 := p2_succ (ga + 1)
        have c4 := p2_pos (ga + 1)
        omega
      subst eg
      have c3 := p2_succ (ga + 1)
      have ra0 : gr ra = 0 := by omega
      have era : ra = [] := gr_inj ha.2 (b := []) (m := 0) trivial ra0
      have rb1 : gr rb = (2 ^ (ga + 1) : Nat) - 1 := by omega
      have erb : rb = [ga] := gr_inj hb.2 (b := [ga]) (m := ga + 1) ⟨Nat.lt_succ_self _, trivial⟩ (by rw [gr_last]; exact rb1)
      subst era
      subst erb
      exact ⟨ga + 1, by simp, fun x hx => by simp [hx]⟩
    · subst h
      have q : gr ra = gr rb + 1 := by omega
      obtain ⟨t, e⟩ := tg_next hb.2 ha.2 q
      refine ⟨t, e.symm.cons ?_⟩
      intro et
      subst et
      have m1 : t ∉ ra := fun q => absurd (ha.2.mem t q) (Nat.lt_irrefl _)
      have m2 : t ∉ rb := fun q => absurd (hb.2.mem t q) (Nat.lt_irrefl _)
      exact m2 (e.flip.mpr m1)
    · have c1 := p2_mono (show gb + 1 ≤ ga from h)
      omega
termination_by a b _ _ => a.length + b.length
decreasing_by
  all_goals simp only [List.length_cons]
  all_goals omega
theorem tg_round {n : Nat} {a b : List Nat} (ha : Desc n a) (hb : Desc n b) (h0 : 0 < n) (ea : gr a = (2 ^ n : Nat) - 1) (eb : gr b = 0) : Tg a b (n - 1) := by
  obtain ⟨k, rfl⟩ : ∃ k, n = k + 1 := ⟨n - 1, by omega⟩
  have a_is : a = [k] := gr_inj ha (b := [k]) (m := k + 1) ⟨Nat.lt_succ_self _, trivial⟩ (by rw [gr_last]; exact ea)
  have b_is : b = [] := gr_inj hb (b := []) (m := 0) trivial eb
  subst a_is b_is
  exact ⟨by simp, fun x hx => by
    have : x ≠ k := hx
    simp [this]⟩
theorem tg_step {n : Nat} {a b : List Nat} (ha : Desc n a) (hb : Desc n b) (h0 : 0 < n) (e : gr b = (gr a + 1) % ((2 ^ n : Nat) : Int)) : ∃ t, t < n ∧ Tg a b t := by
  have ⟨x, y⟩ := gr_bounds ha
  have key : ∃ t, Tg a b t := by
    by_cases c : gr a + 1 = (2 ^ n : Nat)
    · refine ⟨_, tg_round ha hb h0 (by omega) ?_⟩
      rw [e, c, Int.emod_self]
    · refine tg_next ha hb ?_
      rw [e]
      exact Int.emod_eq_of_lt (by omega) (by omega)
  obtain ⟨t, ht⟩ := key
  refine ⟨t, ?_, ht⟩
  by_cases q : t ∈ b
  · exact hb.mem t q
  · exact ha.mem t (ht.flip.mpr q)
/-- what remains of the one without the other -/
theorem Tg.filters {a b : List Nat} {t : Nat} (h : Tg a b t) (na : a.Nodup) (nb : b.Nodup) :
    (t ∈ a ∧ t ∉ b ∧ a.filter (fun x => !b.contains x) = [t] ∧ b.filter (fun x => !a.contains x) = []) ∨ (t ∉ a ∧ t ∈ b ∧ a.filter (fun x => !b.contains x) = [] ∧ b.filter (fun x => !a.contains x) = [t]) := by
  have lem : ∀ {a b : List Nat}, Tg a b t → t ∈ a → t ∉ b → a.Nodup → a.filter (fun x => !b.contains x) = [t] ∧ b.filter (fun x => !a.contains x) = [] := by
    intro a b h ta tb nd
    constructor
    · refine filter_one nd ta fun x hx => ?_
      simp only [Bool.not_eq_true', List.contains_eq_mem, decide_eq_false_iff_not]
      constructor
      · intro q
        apply Classical.byContradiction
        intro ne
        exact q ((h.same x ne).mp hx)
      · intro q; rw [q]; exact tb
    · rw [List.filter_eq_nil_iff]
      intro x hx
      simp only [Bool.not_eq_true', List.contains_eq_mem, decide_eq_false_iff_not]
      intro q
      by_cases e : x = t
      · subst e; exact tb hx
      · exact q ((h.same x e).mpr hx)
  by_cases ta : t ∈ a
  · have tb := h.flip.mp ta
    have ⟨x, y⟩ := lem h ta tb na
    exact .inl ⟨ta, tb, x, y⟩
  · have tb : t ∈ b := Classical.byContradiction fun q => ta (h.flip.mpr q)
    have ⟨x, y⟩ := lem h.symm tb ta nb
    exact .inr ⟨ta, tb, y, x⟩
end Dp
/-! t[::-1] of a tuple -/
namespace DpT
open PySem PySem.Spec PyProof.Rows HT
section
variable {prog : Program} {w : World} {A : Around} {E : Value → Shared → Prop} {s : Shared}
theorem adjust_rev (n : Nat) : Builtin.Slice.sliceAdjust none none (-1) (n : Int) = ((n : Int) - 1, -1) := by
  have h1 : ((-1 : Int) < 0) := by decide
  unfold Builtin.Slice.sliceAdjust
  simp only [h1, if_true]
theorem places_rev (n : Nat) : Builtin.Slice.slicePlaces ((n : Int) - 1) (-1) (-1) = n := by
  unfold Builtin.Slice.slicePlaces
  have h1 : ¬ ((-1 : Int) > 0) := by decide
  simp only [h1, if_false]
  by_cases c : n = 0
  · subst c; simp
  · have h2 : (n : Int) - 1 > -1 := by omega
    rw [if_pos h2]
    have h3 : ((n : Int) - 1 - -1 - 1) / - -1 + 1 = n := by
      rw [show (- -1 : Int) = 1 from rfl, Int.ediv_one]; omega
    rw [h3]; rfl
theorem sliceApplied_rev {sl : Addr} {vl vu vs : Value} {n : Nat} {Q : Int × Int × Nat → Shared → Prop} (hs : s.heap.IsSliceOf sl vl vu vs) (pl : IsPart vl none) (pu : IsPart vu none) (ps : IsPart vs (some (-1)))
    (h : Q ((n : Int) - 1, -1, n) s) : wpAny (model prog w) A (Builtin.Slice.sliceApplied (.ref sl) (pure (n : Int))) Q E s := by
  obtain ⟨os, hos, hcs, hds⟩ := id hs
  unfold Builtin.Slice.sliceApplied Builtin.Slice.sliceFields
  refine wpAny_bind (wpAny_bind (wpAny_field hos hds (x := vl) rfl (wpAny_bind (wpAny_field hos hds (x := vu) rfl (wpAny_bind (wpAny_field hos hds (x := vs) rfl (wpAny_pure ?_)))))))
  refine wpAny_bind (slicePart_ ps ?_)
  show wpAny _ _ (if ((-1 : Int) == 0) = true then _ else _) _ _ s
  rw [if_neg (by decide)]
  refine wpAny_bind (slicePart_ pl (wpAny_bind (slicePart_ pu (wpAny_bind (wpAny_pure ?_)))))
  show wpAny _ _ (match Builtin.Slice.sliceAdjust none none (-1) (n : Int) with | (lo, hi) => pure (lo, (-1 : Int), Builtin.Slice.slicePlaces lo hi (-1))) _ _ s
  rw [adjust_rev n]
  show wpAny _ _ (pure ((n : Int) - 1, (-1 : Int), Builtin.Slice.slicePlaces ((n : Int) - 1) (-1) (-1))) _ _ s
  rw [places_rev]
  exact wpAny_pure h
theorem pick_rev (xs : Array Value) : ((List.range xs.size).filterMap fun (m : Nat) => xs[(((xs.size : Int) - 1) + (m : Int) * -1).toNat]?).toArray = xs.toList.reverse.toArray := by
  congr 1
  apply List.ext_getElem?
  intro i
  have key : ∀ (k : Nat), k ≤ xs.size → (List.range k).filterMap (fun (m : Nat) => xs[(((xs.size : Int) - 1) + (m : Int) * -1).toNat]?) = xs.toList.reverse.take k := by
    intro k
    induction k with
    | zero => intro _; rfl
    | succ k ih =>
      intro hk
      rw [List.range_succ, List.filterMap_append, ih (by omega), List.take_succ]
      congr 1
      have e1 : (((xs.size : Int) - 1) + (k : Int) * -1).toNat = xs.size - 1 - k := by omega
      have e2 : xs.toList.reverse[k]? = xs[xs.size - 1 - k]? := by
        rw [List.getElem?_reverse (by rw [Array.length_toList]; omega), Array.length_toList, Array.getElem?_toList]
      show List.filterMap _ [k] = (xs.toList.reverse[k]?).toList
      rw [e2, List.filterMap_cons, e1]
      cases xs[xs.size - 1 - k]? <;> rfl
  rw [key xs.size (Nat.le_refl _), List.take_of_length_le (by rw [List.length_reverse, Array.length_toList]; exact Nat.le_refl _)]
theorem getItem_tuple_rev {t sl : Addr} {items : Array Value} {vl vu vs : Value} {Q : Value → Shared → Prop} (ht : IsTup s.heap t items) (hs : s.heap.IsSliceOf sl vl vu vs) (pl : IsPart vl none) (pu : IsPart vu none) (ps : IsPart vs (some (-1)))
    (h : Q (.ref s.heap.objs.size) { s with heap := s.heap.push { cls := .type "tuple", data := .seq items.toList.reverse.toArray } })
    (hsz : items.size ≤ sizeLine) : wpAny (model prog w) A (getItem (.ref t) (.ref sl)) Q E s := by
  have htake : sizeOk (.seq items.toList.reverse.toArray) := by
    show items.toList.reverse.toArray.size ≤ sizeLine
    rw [List.size_toArray, List.length_reverse, Array.length_toList]
    exact hsz
  obtain ⟨os, hos, hcs, hds⟩ := id hs
  have hTs : s.TypeIs (.ref sl) "slice" := ⟨os, hos, hcs⟩
  unfold getItem
  try with_reducible refine wpAny_holding ?_
  first | refine wpAny_bind (wpAny_pure ?_) | skip
  refine wpAny_bind (wpAny_sequenceKey ht.typeIs (by decide) ?_)
  refine wpAny_bind (wpAny_callSpecial?_slot (name := Str.ofString "__getitem__") ht.typeIs PyProof.Rows.slot_tuple_getitem
    (wpAny_call_entry PyProof.Rows.slot_tuple_getitem ht.typeIs entry_tuple_getitem ?_ (args_tuple_getitem _ _)))
  show wpAny _ _ (Builtin.Tuple.tupleItemsOf (.ref t) >>= _) _ _ s
  refine wpAny_bind (tupleItemsOf_ ht ?_)
  refine wpAny_bind (wpAny_typeOf hTs ?_)
  rw [if_pos (by decide)]
  refine wpAny_bind (sliceApplied_rev hs pl pu ps ?_)
  have hno : ¬ ((((items.size : Int) - 1) == 0 && (-1 : Int) == 1 && items.size == items.size) = true) := by
    intro q
    rw [Bool.and_eq_true, Bool.and_eq_true] at q
    exact absurd (eq_of_beq q.1.2) (by decide)
  show wpAny _ _ (if (((items.size : Int) - 1) == 0 && (-1 : Int) == 1 && items.size == items.size) = true then _ else _) _ _ s
  rw [if_neg hno, pick_rev]
  first
    | exact wpAny_bind (m := Builtin.Tuple.tupleExact _) (wpAny_newObj_type (wpAny_pure ⟨_, rfl, wpAny_pure h⟩) htake)
    | exact wpAny_bind (m := Builtin.Tuple.tupleExact _) (wpAny_newObj_type (wpAny_bind (wpAny_pure (wpAny_pure ⟨_, rfl, wpAny_pure h⟩))) htake)
    | exact wpAny_bind (wpAny_bind (m := Builtin.Tuple.tupleExact _) (wpAny_newObj_type (wpAny_pure (wpAny_pure ⟨_, rfl, wpAny_pure h⟩)) htake))
    | exact wpAny_bind (wpAny_bind (m := Builtin.Tuple.tupleExact _) (wpAny_newObj_type (wpAny_pure ⟨_, rfl, wpAny_pure h⟩) htake))
end
end DpT
namespace DpR
open PySem PySem.Spec PyProof.Rows L2
section
variable {X : Cx}
def tRevT (K : PySem.W.Frag) (te : TE) : TE := fun σ H Q => te σ H fun x H1 => ∃ a xs, x = .ref a ∧ SqT K H1 a xs ∧ ∀ p, H1 p = none → Q (.ref p) (upd H1 p (.tup xs.reverse))
theorem pe_revT {e : Expr} {te : TE} {k : Nat} {p1 p2 p3 pos : Pos} (he : PE X e te) : PE X (.Subscript e (.Slice none none (some (.UnaryOp .USub (.Constant (.int 1) k p1) p2)) p3) pos) (tRevT X.K te) := by
  refine ⟨fun pins s σ H Q I h => ?_⟩
  refine Subscript_ (thn (he.run pins s σ H _ I h) fun v s1 ⟨x, H1, I1, r1, q1⟩ => ?_)
  obtain ⟨a, xs, ex, hx, q⟩ := q1
  subst ex
  cases r1
  have hst : PO X (some (.UnaryOp .USub (.Constant (.int 1) k p1) p2)) (tPart (tUn (rU fun i => .int (-i)) (tC (.int 1)))) := po_some (pe_un un_neg pe_int)
  refine wpAny_Slice (thn (po_none.run pins s1 σ H1 (fun o H2 => o = none ∧ H2 = H1) I1 ⟨rfl, rfl⟩) fun vl s2 ⟨l, H2, I2, pl, el, e2⟩ => ?_)
  subst el e2
  refine thn (po_none.run pins s2 σ H2 (fun o H3 => o = none ∧ H3 = H2) I2 ⟨rfl, rfl⟩) fun vu s3 ⟨u, H3, I3, pu, eu, e3⟩ => ?_
  subst eu e3
  refine thn (hst.run pins s3 σ H3 (fun o H4 => o = some (-1) ∧ H4 = H3) I3 ⟨1, rfl, -1, rfl, rfl, rfl⟩) fun vs s4 ⟨o, H4, I4, ps, eo, e4⟩ => ?_
  subst eo e4
  have I5 : Inv X pins σ H4 { s4 with heap := s4.heap.push { cls := .type "slice", data := .fields #[vl, vu, vs] } } := I4.kept (t' := s4.toks) fun b ob q => Heap.get?_push_of_some _ q
  obtain ⟨its, r, ht, hz⟩ := I5.tuple hx
  have hlen := r.length
  show wpAny (model X.prog X.w) X.A (subscriptTail e (.Slice none none (some (.UnaryOp .USub (.Constant (.int 1) k p1) p2)) p3) (.ref a) (.ref s4.heap.objs.size)) (EP X pins σ Q) X.xe { s4 with heap := s4.heap.push { cls := .type "slice", data := .fields #[vl, vu, vs] } }
  refine tail_any (ops := [.ref a, .ref s4.heap.objs.size]) ht.typeIs (PyProof.Rows.slot_tuple_getitem.lookup) ?_ (by with_unfolding_all rfl)
  refine DpT.getItem_tuple_rev ht (Heap.IsSliceOf.new _ vl vu vs) pl pu ps ?_ (by rw [List.size_toArray]; omega)
  refine ⟨.ref _, _, I5.laid (t' := s4.toks) (o := .tup xs.reverse) (fun b ob q => Heap.get?_push_of_some _ q) (Nat.le_refl _) ?_, rfl, q _ (I5.hok.fresh (Nat.le_refl _))⟩
  exact ⟨by rw [List.length_reverse]; exact hz, _, r.reverse, IsTup.new _ _⟩
/-- a.f, the fragment named (inside a comprehension) -/
theorem pe_fldK {K : PySem.W.Frag} {e : Expr} {f : Str} {pos : Pos} {ta : TE} (hK : X.K = K) (he : PE X e ta) (hb : attributeBase e f X.env (eval e X.env) = eval e X.env) : PE X (.Attribute e f pos) (tFld K ta f) := by
  subst hK
  exact pe_fld he hb
end
end DpR
namespace Dp
open PySem PySem.Spec PyProof.Rows L2 DpR
/-! ### tuples of things, compared -/
theorem desc_lt : ∀ {ds : List Nat} {n i : Nat} {a b : Nat}, Desc n ds → ds[i]? = some a → ds[i + 1]? = some b → b < a
  | [], _, _, _, _, _, h, _ => by simp at h
  | g :: r, n, 0, a, b, h, h1, h2 => by
    have e : g = a := Option.some.inj h1
    subst e
    exact h.2.mem b (List.mem_of_getElem? (i := 0) h2)
  | g :: r, n, i + 1, a, b, h, h1, h2 => desc_lt (i := i) h.2 h1 h2
theorem asc_at {ds : List Nat} {n k : Nat} (h : Desc n ds) (hk : k < ds.length) : ∃ t, (asc ds)[k]? = some (nv t) ∧ t < n ∧ ds[ds.length - 1 - k]? = some t := by
  have h2 : ds.length - 1 - k < ds.length := by omega
  refine ⟨ds[ds.length - 1 - k], ?_, h.mem _ (List.getElem_mem h2), by simp [h2]⟩
  unfold asc
  rw [List.getElem?_map, List.getElem?_reverse hk, List.getElem?_eq_getElem h2]
  rfl
theorem asc_lt {ds : List Nat} {n k : Nat} (h : Desc n ds) (hk : k + 1 < ds.length) : ∃ a b, (asc ds)[k]? = some (nv a) ∧ (asc ds)[k + 1]? = some (nv b) ∧ a < b := by
  obtain ⟨a, a1, a2, a3⟩ := asc_at h (k := k) (by omega)
  obtain ⟨b, b1, b2, b3⟩ := asc_at h (k := k + 1) hk
  refine ⟨a, b, a1, b1, desc_lt (i := ds.length - 1 - (k + 1)) h b3 ?_⟩
  have e : ds.length - 1 - (k + 1) + 1 = ds.length - 1 - k := by omega
  rw [e]; exact a3
/-- a row of whole numbers, as data -/
def dtI (l : List Int) : PyData := .tuple (l.map PyData.int)
theorem dtI_lay : ∀ l : List Int, PyData.canLayAll0 (l.map PyData.int) = true ∧ PyData.depthAll (l.map PyData.int) = 0
  | [] => ⟨rfl, rfl⟩
  | x :: l => by
    have ⟨a, b⟩ := dtI_lay l
    constructor
    · show (PyData.canLay0 (.int x) && PyData.canLayAll0 (l.map PyData.int)) = true
      rw [a]; rfl
    · show max (PyData.depth (.int x)) (PyData.depthAll (l.map PyData.int)) = 0
      rw [b]; rfl
theorem dtI_shaped (l : List Int) : SeqAt.shaped (dtI l) = true := by
  have ⟨a, b⟩ := dtI_lay l
  show (PyData.canLayAll0 (l.map PyData.int) && decide (PyData.depth (.tuple (l.map PyData.int)) ≤ 64)) = true
  rw [a, Bool.true_and]
  refine decide_eq_true ?_
  show PyData.depthAll (l.map PyData.int) + 1 ≤ 64
  rw [b]; decide
theorem dtI_eqv (l : List Int) : PyData.eqv (dtI l) (dtI l) = true := SeqAt.eqv_refl _ (SeqAt.canLay_of_shaped (dtI_shaped l))
theorem dpAll_int {K : PySem.W.Frag} {H : Hp} : ∀ l : List Int, DpAll K H (l.map V.int) (l.map PyData.int)
  | [] => .nil
  | x :: l => .cons (.int x) (dpAll_int l)
def iasc (ds : List Nat) : List Int := ds.reverse.map Int.ofNat
theorem asc_iasc (ds : List Nat) : asc ds = (iasc ds).map V.int := by
  unfold asc iasc
  rw [List.map_map]
  rfl
theorem dp_tup {K : PySem.W.Frag} {H : Hp} {q : Addr} {ds : List Nat} (h : H q = some (.tup (asc ds))) : L2.Dp K H (.ref q) (dtI (iasc ds)) := by
  refine .tup (SqT.of h) ?_
  rw [asc_iasc]
  exact dpAll_int _
def ltI (l : List Int) : PyData := .list (l.map PyData.int)
theorem ltI_shaped (l : List Int) : SeqAt.shaped (ltI l) = true := by
  have ⟨a, b⟩ := dtI_lay l
  show (PyData.canLayAll0 (l.map PyData.int) && decide (PyData.depth (.list (l.map PyData.int)) ≤ 64)) = true
  rw [a, Bool.true_and]
  refine decide_eq_true ?_
  show PyData.depthAll (l.map PyData.int) + 1 ≤ 64
  rw [b]; decide
theorem ltI_eqv (l : List Int) : PyData.eqv (ltI l) (ltI l) = true := SeqAt.eqv_refl _ (SeqAt.canLay_of_shaped (ltI_shaped l))
theorem dp_lst {K : PySem.W.Frag} {H : Hp} {q : Addr} {ds : List Nat} (h : H q = some (.lst (asc ds))) : L2.Dp K H (.ref q) (ltI (iasc ds)) := by
  refine .lst (SqL.of h) ?_
  rw [asc_iasc]
  exact dpAll_int _

theorem inV_asc (t : Nat) (es : List Nat) : inV (nv t) (asc es) = es.contains t := by
  unfold inV asc
  rw [List.any_map, List.any_reverse]
  induction es with
  | nil => rfl
  | cons a es ih =>
    rw [List.any_cons, List.contains_cons, ih]
    congr 1
    show ((a : Int) == (t : Int)) = (t == a)
    by_cases e : a = t
    · subst e; simp
    · rw [beq_eq_false_iff_ne.mpr (by omega), beq_eq_false_iff_ne.mpr (Ne.symm e)]
theorem asc_flat (ds : List Nat) : (asc ds).all flatV = true := by
  rw [List.all_eq_true]
  intro x hx
  unfold asc at hx
  obtain ⟨t, _, rfl⟩ := List.mem_map.mp hx
  rfl
/-- the things of one pick that are not in another -/
theorem asc_filter (ds es : List Nat) : (asc ds).filter (fun x => !inV x (asc es)) = asc (ds.filter fun t => !es.contains t) := by
  unfold asc
  rw [List.filter_map, ← List.filter_reverse]
  congr 1
  apply List.filter_congr
  intro t _
  show (!inV (nv t) (asc es)) = !es.contains t
  rw [inV_asc]
theorem take_filter {xs : List V} {i : Nat} {x : V} (p : V → Bool) (h : xs[i]? = some x) : (xs.take (i + 1)).filter p = (xs.take i).filter p ++ (if p x = true then [x] else []) := by
  rw [List.take_succ, h, List.filter_append]
  congr 1
  show [x].filter p = _
  by_cases c : p x = true
  · rw [if_pos c, List.filter_cons_of_pos c]; rfl
  · rw [if_neg c, List.filter_cons_of_neg c]; rfl
theorem ex_uniq {a b : List Nat} {o i o' i' : Nat} (h : Ex a b o i) (h' : Ex a b o' i') : o = o' ∧ i = i' := by
  constructor
  · apply Classical.byContradiction
    intro ne
    by_cases e : o = i'
    · subst e; exact h'.ia h.oa
    · exact h.ob ((h'.same o ne e).mp h.oa)
  · apply Classical.byContradiction
    intro ne
    by_cases e : i = o'
    · subst e; exact h'.ob h.ib
    · exact h.ia ((h'.same i e ne).mpr h.ib)

theorem back_mod {r c : Int} (h0 : 0 ≤ r) (h1 : r < c) : ((r + 1) % c + -1) % c = r := by
  by_cases e : r + 1 = c
  · subst e
    have h2 : (r + 1) % (r + 1) = 0 := Int.emod_self
    rw [h2]
    have h3 : (0 + -1 : Int) = r + (r + 1) * (-1) := by omega
    rw [h3, Int.add_mul_emod_self_left]
    exact Int.emod_eq_of_lt h0 h1
  · have h2 : (r + 1) % c = r + 1 := Int.emod_eq_of_lt (by omega) (by omega)
    rw [h2]
    have h3 : r + 1 + -1 = r := by omega
    rw [h3]
    exact Int.emod_eq_of_lt h0 h1


theorem dp_ints {K : PySem.W.Frag} {H : Hp} {q : Addr} {l : List Int} (h : H q = some (.lst (l.map V.int))) : L2.Dp K H (.ref q) (ltI l) := .lst (SqL.of h) (dpAll_int l)
theorem dp_tupI {K : PySem.W.Frag} {H : Hp} {q : Addr} {l : List Int} (h : H q = some (.tup (l.map V.int))) : L2.Dp K H (.ref q) (dtI l) := .tup (SqT.of h) (dpAll_int l)
theorem asc_rev (ds : List Nat) : (asc ds).reverse = ds.map nv := by
  unfold asc
  rw [← List.map_reverse, List.reverse_reverse]
/-- among the first numbers just one is so -/
theorem range_one {n t : Nat} {p : Nat → Bool} (ht : t < n) (hp : ∀ x, x < n → (p x = true ↔ x = t)) : (List.range n).filter p = [t] :=
  filter_one List.nodup_range (List.mem_range.mpr ht) fun x hx => hp x (List.mem_range.mp hx)
theorem Tg.bne {a b : List Nat} {t : Nat} (h : Tg a b t) (x : Nat) : (a.contains x != b.contains x) = true ↔ x = t := by
  rw [bne_iff_ne]
  constructor
  · intro q
    apply Classical.byContradiction
    intro ne
    apply q
    rw [Bool.eq_iff_iff, List.contains_iff_mem, List.contains_iff_mem]
    exact h.same x ne
  · rintro rfl q
    rw [Bool.eq_iff_iff, List.contains_iff_mem, List.contains_iff_mem] at q
    by_cases c : x ∈ a
    · exact h.flip.mp c (q.mp c)
    · exact c (h.flip.mpr fun z => c (q.mpr z))
theorem range_filter_succ (p : Nat → Bool) (j : Nat) : (List.range (j + 1)).filter p = (List.range j).filter p ++ (if p j = true then [j] else []) := by
  rw [List.range_succ, List.filter_append]
  congr 1
  by_cases c : p j = true
  · rw [if_pos c, List.filter_cons_of_pos c]; rfl
  · rw [if_neg c, List.filter_cons_of_neg c]; rfl
/-! rows of tuples -/
def RowsAt (H : Hp) (q : Addr) (c : Nat → List V) (m : Nat) : Prop := ∃ rs : List Addr, H q = some (.lst (rs.map V.ref)) ∧ rs.length = m ∧ ∀ (i : Nat) (r : Addr), rs[i]? = some r → H r = some (.tup (c i))
theorem RowsAt.mono {H H' : Hp} {q : Addr} {c : Nat → List V} {m : Nat} (h : RowsAt H q c m) (s : Same H H') : RowsAt H' q c m :=
  let ⟨rs, e, l, kk⟩ := h; ⟨rs, s _ _ e, l, fun j r hr => s _ _ (kk j r hr)⟩
theorem RowsAt.nil {H : Hp} {q : Addr} {c : Nat → List V} (h : H q = some (.lst [])) : RowsAt H q c 0 := ⟨[], h, rfl, fun i r hr => by simp at hr⟩
/-- one row more, appended at the list itself -/
theorem RowsAt.add {H : Hp} {D z : Addr} {c : Nat → List V} {j : Nat} {acc : List V} (h : RowsAt H D c j) (hz : H z = some (.tup (c j))) (hD : H D = some (.lst acc)) : RowsAt (upd H D (.lst (acc ++ [.ref z]))) D c (j + 1) := by
  obtain ⟨ts, hts, lts, kts⟩ := h
  rw [hts] at hD
  have ea := HO.lst.inj (Option.some.inj hD)
  subst ea
  refine ⟨ts ++ [z], by rw [upd_same, List.map_append]; rfl, by rw [List.length_append, lts]; rfl, fun i r hr => ?_⟩
  have nD : ∀ (r : Addr) (xs : List V), H r = some (.tup xs) → r ≠ D := fun r xs h => ne_of h hts (by intro z; cases z)
  by_cases hi : i < ts.length
  · rw [List.getElem?_append_left hi] at hr
    have h1 := kts i r hr
    rw [upd_ne (nD _ _ h1)]
    exact h1
  · rw [List.getElem?_append_right (by omega)] at hr
    have ei : i = j := by
      by_cases zz : i - ts.length = 0
      · omega
      · rw [List.getElem?_eq_none (by simp; omega)] at hr
        cases hr
    subst ei
    rw [lts, Nat.sub_self] at hr
    have e : z = r := Option.some.inj hr
    subst e
    rw [upd_ne (nD _ _ hz)]
    exact hz
theorem RowsAt.len {H : Hp} {D : Addr} {c : Nat → List V} {j : Nat} {acc : List V} (h : RowsAt H D c j) (hD : H D = some (.lst acc)) : acc.length = j := by
  obtain ⟨ts, hts, lts, _⟩ := h
  rw [hts] at hD
  rw [← HO.lst.inj (Option.some.inj hD), List.length_map, lts]
theorem RowsAt.lst {H : Hp} {D : Addr} {c : Nat → List V} {j : Nat} (h : RowsAt H D c j) : ∃ acc, H D = some (.lst acc) ∧ acc.length = j := by
  obtain ⟨ts, hts, lts, _⟩ := h
  exact ⟨_, hts, by rw [List.length_map, lts]⟩
theorem RowsAt.at_ {H : Hp} {D : Addr} {c : Nat → List V} {j i : Nat} (h : RowsAt H D c j) (hi : i < j) : ∃ (acc : List V) (r : Addr), H D = some (.lst acc) ∧ acc.length = j ∧ acc[i]? = some (.ref r) ∧ H r = some (.tup (c i)) := by
  obtain ⟨ts, hts, lts, kts⟩ := h
  have hl : i < ts.length := by omega
  exact ⟨_, ts[i], hts, by rw [List.length_map, lts], by rw [List.getElem?_map, List.getElem?_eq_getElem hl]; rfl, kts i _ (List.getElem?_eq_getElem hl)⟩
/-- two lists of rows, one behind the other -/
theorem RowsAt.app {H : Hp} {a b q : Addr} {c d e : Nat → List V} {i j : Nat} {xs ys : List V} (h : RowsAt H a c i) (h' : RowsAt H b d j) (hx : H a = some (.lst xs)) (hy : H b = some (.lst ys)) (hq : H q = none)
    (e1 : ∀ k, k < i → e k = c k) (e2 : ∀ k, k < j → e (i + k) = d k) : RowsAt (upd H q (.lst (xs ++ ys))) q e (i + j) := by
  obtain ⟨ts, hts, lts, kts⟩ := h
  obtain ⟨us, hus, lus, kus⟩ := h'
  rw [hts] at hx
  have ea := HO.lst.inj (Option.some.inj hx)
  subst ea
  rw [hus] at hy
  have ea := HO.lst.inj (Option.some.inj hy)
  subst ea
  refine ⟨ts ++ us, by rw [upd_same, List.map_append], by rw [List.length_append, lts, lus], fun k r hr => ?_⟩
  by_cases hk : k < ts.length
  · rw [List.getElem?_append_left hk] at hr
    rw [e1 k (by omega)]
    have h1 := kts k r hr
    rw [upd_ne (ne_of_none h1 hq)]
    exact h1
  · rw [List.getElem?_append_right (by omega)] at hr
    have h1 := kus _ r hr
    have hl := (List.getElem?_eq_some_iff.mp hr).1
    have e3 : k = i + (k - ts.length) := by omega
    rw [e3, e2 _ (by omega), upd_ne (ne_of_none h1 hq)]
    exact h1
theorem gu_tail {n : Nat} {j : Int} (h0 : 0 ≤ j) (h1 : j < (2 ^ n : Nat)) : gu (n + 1) (((2 ^ n : Nat) : Int) + j) = n :: gu n (((2 ^ n : Nat) : Int) - 1 - j) := by
  have e := p2_succ n
  have q : gu (n + 1) (((2 ^ n : Nat) : Int) + j) = n :: gu n ((2 ^ (n + 1) : Nat) - 1 - (((2 ^ n : Nat) : Int) + j)) := by
    show (if _ then _ else _) = _
    rw [if_neg (by omega)]
  rw [q]
  congr 2
  omega
/-! either of two readings -/
theorem pe_either {X : Cx} {e : Expr} {t1 t2 : TE} (h1 : PE X e t1) (h2 : PE X e t2) : PE X e (fun σ H Q => t1 σ H Q ∨ t2 σ H Q) :=
  ⟨fun pins s σ H Q I h => h.elim (h1.run pins s σ H Q I) (h2.run pins s σ H Q I)⟩
theorem fn_or {P : Program} {w : World} {K : PySem.W.Frag} {mg : Str → Option Value} {base : Heap} {CX : CXT} {k : Nat} {f : Addr} {fd : FuncData} {ps : List Str} {sp sp' : Sp} (F : FnOk P w K mg base CX k f fd ps sp) (F' : FnOk P w K mg base CX k f fd ps sp') :
    FnOk P w K mg base CX k f fd ps (fun vs H Q E => sp vs H Q E ∨ sp' vs H Q E) :=
  ⟨fun vs H Q E q => q.elim (F.len vs H Q E) (F'.len vs H Q E), fun A outer s H args us vs Q E hr he hb hv hs => hs.elim (F.run A outer s H args us vs Q E hr he hb hv) (F'.run A outer s H args us vs Q E hr he hb hv)⟩
theorem dtI_same (l : List Int) {X : Bool → Prop} (h : X true) : X (PyData.eqv (dtI l) (dtI l)) := by rw [dtI_eqv]; exact h
theorem pe_weak {X : Cx} {e : Expr} {t t' : TE} (h : PE X e t) (i : ∀ σ H Q, t' σ H Q → t σ H Q) : PE X e t' :=
  ⟨fun pins s σ H Q I w => h.run pins s σ H Q I (i σ H Q w)⟩
theorem rgV_succ (m : Nat) : rgV 0 ((m + 1 : Nat) : Int) = rgV 0 (m : Int) ++ [nv m] := by
  unfold rgV
  have e1 : (((m + 1 : Nat) : Int) - 0).toNat = m + 1 := by omega
  have e2 : ((m : Int) - 0).toNat = m := by omega
  rw [e1, e2, List.range_succ, List.map_append]
  congr 1
  show [V.int (0 + ((m : Nat) : Int))] = [nv m]
  rw [Int.zero_add]; rfl
theorem asc_fst : ∀ m : Nat, asc (fst m) = rgV 0 (m : Int)
  | 0 => rfl
  | m + 1 => by
    rw [rgV_succ, ← asc_fst m]
    exact asc_cons m (fst m)
theorem cat_go {K : PySem.W.Frag} {H : Hp} {a b : Addr} {xs ys : List V} {Q : VK} (ha : H a = some (.tup xs)) (hb : H b = some (.tup ys)) (hl : xs.length + ys.length ≤ sizeLine)
    (h : ∀ z HL, Same H HL → HL z = some (.tup (xs ++ ys)) → Q (.ref z) HL) : rCatA K (.ref a) (.ref b) H Q :=
  ⟨a, b, xs, ys, rfl, rfl, SqT.of ha, SqT.of hb, hl, fun e => h b H (Same.refl _) (by rw [e]; exact hb), fun _ e => h a H (Same.refl _) (by rw [e, List.append_nil]; exact ha), fun _ _ p hp => h p _ (fun b u e => by rw [upd_ne (ne_of_none e hp)]; exact e) upd_same⟩
/-- an item at a drawn place -/
theorem at_drawn (xs : List V) {i : Int} (h0 : 0 ≤ i) (h1 : i < xs.length) : ∃ v, atI xs i = some v ∧ v ∈ xs := by
  obtain ⟨j, rfl⟩ : ∃ j : Nat, i = j := ⟨i.toNat, by omega⟩
  have hj : j < xs.length := by omega
  exact ⟨xs[j], atI_nat (by simp [hj]), List.getElem_mem hj⟩
end Dp
/-! sorted(t), t a tuple of ints -/
namespace DpT
open PySem PySem.Spec PyProof.Rows HT
section
variable {prog : Program} {w : World} {A : Around} {E : Value → Shared → Prop} {s : Shared}
theorem collect_tup {l : Addr} {vs : List Value} {Q : List Value → Shared → Prop} (hl : IsTup s.heap l vs.toArray)
    (h : Q vs { s with heap := (s.heap.push (seqObj "list" #[] 0)).update s.heap.objs.size (Obj.mapSeq (· ++ vs.toArray)) }) (hsz : vs.length ≤ sizeLine) :
    wpAny (model prog w) A (collect (.ref l)) Q E s := by
  obtain ⟨o, ho, hc, n, hd⟩ := id hl
  unfold collect
  refine wpAny_bind (wpAny_runValue (codeAny_builtin entry_proto_collect' ?_))
  show wpAny _ _ (do again (.builtin "list.__iadd__" ⟨[← newList [], .ref l], []⟩)) _ _ s
  refine wpAny_bind (wpAny_newList (wpAny_pure ⟨Code.quiet_builtin _ (by decide +kernel), codeAny_builtin entry_list_iadd' ?_⟩))
  show wpAny _ _ (Builtin.List.listExtendWith (.ref s.heap.objs.size) (.ref l) (.ref s.heap.objs.size)) _ _ { s with heap := s.heap.push (seqObj "list" #[] 0) }
  unfold Builtin.List.listExtendWith
  have ho' : (s.heap.push (seqObj "list" #[] 0)).get? l = some o := Heap.get?_push_of_some _ ho
  refine wpAny_bind (wpAny_typeOf (T := "tuple") ⟨o, ho', hc⟩ ?_)
  have ht : (Value.type "tuple" == Value.type "tuple") = true := by rfl
  rw [if_pos (by rw [ht]; simp)]
  refine wpAny_bind (listItems_at ho' hd ?_)
  refine wpAny_bind (listItems_at (xs := #[]) (n := 0) (Heap.get?_push_size _ rfl) rfl ?_)
  rw [if_neg (by simp)]
  refine wpAny_bind (listUpdate_at (xs := #[]) (n := 0) (Heap.get?_push_size _ rfl) rfl ?_ (Nat.zero_le _) (by show (#[] ++ vs.toArray).size ≤ sizeLine + 1; simp only [Array.size_append, List.size_toArray, List.length_nil]; omega))
  refine wpAny_pure ?_
  show wpAny (model prog w) A (do
      let o ← load s.heap.objs.size
      match o.data with
      | .seq xs _ => pure xs.toList
      | _ => unsupported "internal:collect") Q E { s with heap := (s.heap.push (seqObj "list" #[] 0)).update s.heap.objs.size (Obj.mapSeq (· ++ vs.toArray)) }
  refine wpAny_bind (wpAny_load (get?_update_seq (Heap.get?_push_size _ rfl) _) ?_)
  show wpAny _ _ (pure ((#[] : Array Value) ++ vs.toArray).toList) Q E _
  rw [show ((#[] : Array Value) ++ vs.toArray).toList = vs by simp]
  exact wpAny_pure h
end
end DpT
namespace SrtO
open PySem PySem.Spec PyProof.Rows
section
variable {prog : Program} {w : World} {A : Around} {E : Value → Shared → Prop} {s : Shared}
theorem sorted_ordTp {l : Addr} {vs : List Value} {ltv : Value → Value → Bool} {Q : Value → Shared → Prop} (O : Swo ltv) (hl : IsTup s.heap l vs.toArray) (hz : vs.length ≤ sizeLine)
    (hS : 2 ≤ vs.length → ∀ (h₁ : Heap) (a : Addr), h₁.get? a = some (seqObj "list" vs.toArray 0) → (∀ b o, s.heap.get? b = some o → b ≠ a ∧ h₁.get? b = some o) → SortableO prog w A.in1.in1 { s with heap := h₁ } a vs ltv)
    (h : ∀ out : List Value, Srtd ltv out → Stb ltv out vs → Q (.ref (s.heap.objs.size + 1)) { s with heap := sortedAll s.heap vs out.toArray }) :
    wpAny (model prog w) A (call (.builtin "sorted") [.ref l]) Q E s := by
  refine Calls.call_function_entry kind_sorted plain_sorted entry_sorted (args_sorted1 _) ?_
  unfold Builtin.«sorted»
  refine wpAny_bind (m := checkCount "sorted" 1 1 _) (wpAny_pure ?_)
  refine wpAny_bind (DpT.collect_tup hl ?_ hz)
  refine wpAny_bind (wpAny_newList ?_ hz)
  have hsz : ((s.heap.push (seqObj "list" #[] 0)).update s.heap.objs.size (Obj.mapSeq (· ++ vs.toArray))).objs.size = s.heap.objs.size + 1 := by
    rw [Heap.size_update, size_push']
  have hoL : (((s.heap.push (seqObj "list" #[] 0)).update s.heap.objs.size (Obj.mapSeq (· ++ vs.toArray))).push (seqObj "list" vs.toArray 0)).get? (s.heap.objs.size + 1) = some (seqObj "list" vs.toArray 0) := by
    rw [← hsz]; exact Heap.get?_push_size _ rfl
  have keep : ∀ b o, s.heap.get? b = some o → b ≠ s.heap.objs.size + 1 ∧ (((s.heap.push (seqObj "list" #[] 0)).update s.heap.objs.size (Obj.mapSeq (· ++ vs.toArray))).push (seqObj "list" vs.toArray 0)).get? b = some o := fun b o q => by
    have hlt : b < s.heap.objs.size := Heap.lt_size q
    refine ⟨Nat.ne_of_lt (Nat.lt_succ_of_lt hlt), Heap.get?_push_of_some _ ?_⟩
    rw [Heap.get?_update_ne _ _ _ _ (Nat.ne_of_lt hlt)]
    exact Heap.get?_push_of_some _ q
  show wpAny _ _ _ _ _ { s with heap := ((s.heap.push (seqObj "list" #[] 0)).update s.heap.objs.size (Obj.mapSeq (· ++ vs.toArray))).push (seqObj "list" vs.toArray 0) }
  rw [hsz]
  refine wpAny_bind (wpAny_holding (wpAny_call_entry slot_list_sort ⟨_, hoL, rfl⟩ entry_list_sort (list_sort_ord O hoL hz (fun h2 => hS h2 _ _ hoL keep) fun out hs hb => ⟨_, rfl, ?_⟩) (args_list_sort _)))
  exact wpAny_pure ⟨_, rfl, h out hs hb⟩
end
end SrtO
namespace DpR
open PySem PySem.Spec PyProof.Rows L2
def rSortedTp (K : PySem.W.Frag) : List V → Hp → VK → Prop := fun vs H Q => ∃ (a : Addr) (ns : List Int), vs = [V.ref a] ∧ SqT K H a (ns.map V.int) ∧
  ∀ (ns' : List Int) (p : Addr), ns'.Perm ns → ns'.Pairwise (· ≤ ·) → H p = none → Q (.ref p) (upd H p (.lst (ns'.map V.int)))
theorem cr_sortedTp {X : Cx} : CallR X (.builtin "sorted") (rSortedTp X.K) := by
  intro pins s σ H vs us Q I r h
  obtain ⟨a, ns, rfl, hs, q⟩ := h
  obtain ⟨its, rv, hl, hz⟩ := I.tuple hs
  rw [Vals.ref1 r]
  have hi := rv.ints
  refine SrtO.sorted_ordTp SrtO.swo_int hl (by rw [← rv.length]; exact hz) (fun h2 h₁ a' _ _ => SrtO.ints_sortable hi h2) fun out h1 h2 => ?_
  obtain ⟨k1, k2, k3⟩ := SrtO.ints_out hi h1 h2
  obtain ⟨ep, he'⟩ := PyProof.Rows.sortedAll_at s.heap its out.toArray
  have hlen : ((out.map SrtO.iv).map V.int).length ≤ sizeLine := by
    rw [List.length_map, k2.length_eq]
    rw [List.length_map] at hz
    exact hz
  exact ⟨.ref _, upd H (s.heap.objs.size + 1) (.lst ((out.map SrtO.iv).map V.int)), I.laid (t' := s.toks) (fun _ _ => PyProof.Rows.sortedAll_old) (Nat.le_succ _) ⟨hlen, out, ep, vals_of_ints k1, he'⟩, rfl, q _ _ k2 k3 (I.hok.fresh (Nat.le_succ _))⟩
end DpR
namespace Dp
open PySem PySem.Spec PyProof.Rows L2 DpR
/-! things put in order -/
theorem desc_ext : ∀ {a b : List Nat} {n m : Nat}, Desc n a → Desc m b → (∀ x, x ∈ a ↔ x ∈ b) → a = b
  | [], [], _, _, _, _, _ => rfl
  | [], g :: r, _, _, _, _, h => absurd ((h g).mpr List.mem_cons_self) (List.not_mem_nil)
  | g :: r, [], _, _, _, _, h => absurd ((h g).mp List.mem_cons_self) (List.not_mem_nil)
  | g :: r, g' :: r', n, m, ha, hb, h => by
    have e : g = g' := by
      rcases List.mem_cons.mp ((h g).mp List.mem_cons_self) with q | q
      · exact q
      · rcases List.mem_cons.mp ((h g').mpr List.mem_cons_self) with q' | q'
        · exact q'.symm
        · have h1 := hb.2.mem g q
          have h2 := ha.2.mem g' q'
          omega
    subst e
    congr 1
    refine desc_ext ha.2 hb.2 fun x => ?_
    have hx := h x
    rw [List.mem_cons, List.mem_cons] at hx
    have n1 : g ∉ r := fun q => absurd (ha.2.mem g q) (Nat.lt_irrefl _)
    have n2 : g ∉ r' := fun q => absurd (hb.2.mem g q) (Nat.lt_irrefl _)
    constructor
    · intro q
      rcases hx.mp (.inr q) with e | e
      · subst e; exact (n1 q).elim
      · exact e
    · intro q
      rcases hx.mpr (.inr q) with e | e
      · subst e; exact (n2 q).elim
      · exact e
theorem desc_filter : ∀ {l : List Nat} {n : Nat} (p : Nat → Bool), Desc n l → Desc n (l.filter p)
  | [], _, _, _ => trivial
  | g :: r, n, p, h => by
    have ih := desc_filter p h.2
    by_cases c : p g = true
    · rw [List.filter_cons_of_pos c]
      exact ⟨h.1, ih⟩
    · rw [List.filter_cons_of_neg c]
      exact ih.mono (Nat.le_of_lt h.1)
theorem desc_pw : ∀ {l : List Nat} {n : Nat}, Desc n l → l.Pairwise (fun a b => b < a)
  | [], _, _ => .nil
  | g :: r, n, h => .cons (fun b hb => h.2.mem b hb) (desc_pw h.2)
theorem iasc_pw {l : List Nat} {n : Nat} (h : Desc n l) : (iasc l).Pairwise (· ≤ ·) := by
  unfold iasc
  rw [List.pairwise_map, List.pairwise_reverse]
  exact (desc_pw h).imp fun {a b} q => by show (Int.ofNat b) ≤ Int.ofNat a; exact Int.ofNat_le.mpr (Nat.le_of_lt q)
/-- what is sorted of things: the pick that has just them -/
theorem sorted_is {n : Nat} {es l : List Nat} {ns : List Int} (he : Desc n es) (nd : l.Nodup) (hm : ∀ x, x ∈ l ↔ x ∈ es) (hp : ns.Perm (l.map Int.ofNat)) (hs : ns.Pairwise (· ≤ ·)) : ns.map V.int = asc es := by
  have p1 : l.Perm es := (List.perm_ext_iff_of_nodup nd he.nodup).mpr hm
  have p2 : ns.Perm (iasc es) := hp.trans ((p1.map _).trans (by unfold iasc; exact (es.reverse_perm.symm.map _)))
  have e : ns = iasc es := List.Perm.eq_of_pairwise (fun a b _ _ h1 h2 => Int.le_antisymm h1 h2) hs (iasc_pw he) p2
  rw [e, ← asc_iasc]
end Dp
/-! rows of counts: how many, their order -/
namespace Dp
def sm (f : Nat → Nat) : Nat → Nat
  | 0 => 0
  | n + 1 => sm f n + f n
theorem sm_congr {f g : Nat → Nat} : ∀ {n : Nat}, (∀ i, i < n → f i = g i) → sm f n = sm g n
  | 0, _ => rfl
  | n + 1, h => by
    show sm f n + f n = sm g n + g n
    rw [sm_congr (n := n) (fun i hi => h i (by omega)), h n (by omega)]
theorem sm_zero : ∀ n : Nat, sm (fun _ => 0) n = 0
  | 0 => rfl
  | n + 1 => by show sm _ n + 0 = 0; rw [sm_zero n]
theorem sm_add (f g : Nat → Nat) : ∀ n : Nat, sm (fun i => f i + g i) n = sm f n + sm g n
  | 0 => rfl
  | n + 1 => by
    show sm _ n + (f n + g n) = (sm f n + f n) + (sm g n + g n)
    rw [sm_add f g n]; omega
theorem sm_swap (F : Nat → Nat → Nat) (m : Nat) : ∀ n : Nat, sm (fun i => sm (fun j => F i j) m) n = sm (fun j => sm (fun i => F i j) n) m
  | 0 => (sm_zero m).symm
  | n + 1 => by
    show sm _ n + sm (fun j => F n j) m = _
    rw [sm_swap F m n, ← sm_add]
    rfl
theorem sm_mono {f : Nat → Nat} {a b : Nat} (h : a ≤ b) : sm f a ≤ sm f b := by
  induction b with
  | zero =>
    have : a = 0 := by omega
    subst this
    exact Nat.le_refl _
  | succ b ih =>
    by_cases e : a = b + 1
    · rw [e]; exact Nat.le_refl _
    · exact Nat.le_trans (ih (by omega)) (Nat.le_add_right _ _)
/-- one kind more, of at most c things -/
def ks (c : Nat) (g : Nat → Nat) : Nat → Nat := fun s => sm (fun i => if i ≤ s then g (s - i) else 0) (c + 1)
def kb : Nat → Nat := fun s => if s = 0 then 1 else 0
/-- how many rows there are -/
def kw : List Nat → Nat → Nat
  | [] => kb
  | c :: cs => ks c (kw cs)
theorem ks_comm (c d : Nat) (g : Nat → Nat) : ks c (ks d g) = ks d (ks c g) := by
  have key : ∀ (c d s : Nat), ks c (ks d g) s = sm (fun i => sm (fun j => if i + j ≤ s then g (s - (i + j)) else 0) (d + 1)) (c + 1) := by
    intro c d s
    refine sm_congr fun i hi => ?_
    by_cases h : i ≤ s
    · rw [if_pos h]
      refine sm_congr fun j hj => ?_
      by_cases h2 : i + j ≤ s
      · rw [if_pos h2, if_pos (by omega)]
        congr 1
        omega
      · rw [if_neg h2, if_neg (by omega)]
    · rw [if_neg h]
      refine ((sm_congr (g := fun _ => 0) fun j hj => ?_).trans (sm_zero _)).symm
      rw [if_neg (by omega)]
  funext s
  rw [key c d s, key d c s, sm_swap]
  refine sm_congr fun i hi => sm_congr fun j hj => ?_
  rw [Nat.add_comm]
theorem kw_perm {a b : List Nat} (h : a.Perm b) : kw a = kw b := by
  induction h with
  | nil => rfl
  | cons x _ ih => show ks x _ = ks x _; rw [ih]
  | swap x y l => exact ks_comm y x (kw l)
  | trans _ _ i1 i2 => exact i1.trans i2
theorem kw_fold : ∀ (cs ds : List Nat), cs.foldl (fun g c => ks c g) (kw ds) = kw (cs.reverse ++ ds)
  | [], ds => rfl
  | c :: cs, ds => by
    show cs.foldl _ (ks c (kw ds)) = _
    have e : ks c (kw ds) = kw (c :: ds) := rfl
    rw [e, kw_fold cs (c :: ds), List.reverse_cons, List.append_assoc]
    rfl
/-- counted kind by kind, from the first on -/
theorem kw_run (cs : List Nat) : cs.foldl (fun g c => ks c g) kb = kw cs := by
  have h := kw_fold cs []
  rw [List.append_nil] at h
  exact h.trans (kw_perm cs.reverse_perm)
/-- a row of the counts, of a size -/
def IsRw : List Nat → Nat → List Nat → Prop
  | [], s, [] => s = 0
  | c :: cs, s, r :: rs => r ≤ c ∧ r ≤ s ∧ IsRw cs (s - r) rs
  | _, _, _ => False
theorem IsRw.len : ∀ {cs : List Nat} {s : Nat} {rs : List Nat}, IsRw cs s rs → rs.length = cs.length
  | [], _, [], _ => rfl
  | c :: cs, s, r :: rs, h => by show rs.length + 1 = cs.length + 1; rw [h.2.2.len]
  | [], _, _ :: _, h => h.elim
  | _ :: _, _, [], h => h.elim
theorem IsRw.sum : ∀ {cs : List Nat} {s : Nat} {rs : List Nat}, IsRw cs s rs → rs.sum = s
  | [], _, [], h => (show _ = 0 from h).symm
  | c :: cs, s, r :: rs, h => by
    rw [List.sum_cons, h.2.2.sum]
    have := h.2.1
    omega
  | [], _, _ :: _, h => h.elim
  | _ :: _, _, [], h => h.elim
/-- a row is one where each count is within its kind's, and the size is right -/
theorem isRw_of : ∀ {cs rs : List Nat}, rs.length = cs.length → (∀ (i c r : Nat), cs[i]? = some c → rs[i]? = some r → r ≤ c) → IsRw cs rs.sum rs
  | [], [], _, _ => rfl
  | c :: cs, r :: rs, hl, h => by
    refine ⟨h 0 c r rfl rfl, by rw [List.sum_cons]; omega, ?_⟩
    have e : (r :: rs).sum - r = rs.sum := by rw [List.sum_cons]; omega
    rw [e]
    exact isRw_of (by simpa using hl) fun i c' r' h1 h2 => h (i + 1) c' r' h1 h2
  | [], _ :: _, hl, _ => by simp at hl
  | _ :: _, [], hl, _ => by simp at hl
theorem IsRw.le : ∀ {cs : List Nat} {s : Nat} {rs : List Nat}, IsRw cs s rs → ∀ (i c r : Nat), cs[i]? = some c → rs[i]? = some r → r ≤ c
  | [], _, [], _, _, _, _, h1, _ => by simp at h1
  | c :: cs, s, r :: rs, h, 0, c', r', h1, h2 => by
    cases h1
    cases h2
    exact h.1
  | c :: cs, s, r :: rs, h, i + 1, c', r', h1, h2 => h.2.2.le i c' r' h1 h2
  | [], _, _ :: _, h, _, _, _, _, _ => h.elim
  | _ :: _, _, [], h, _, _, _, _, _ => h.elim
/-- how many rows begin with just so many of the first kind -/
def kf (cs : List Nat) (s : Nat) : Nat → Nat := fun i => if i ≤ s then kw cs (s - i) else 0
theorem kw_cons (c : Nat) (cs : List Nat) (s : Nat) : kw (c :: cs) s = sm (kf cs s) (c + 1) := rfl
/-- a row's number -/
def krk : List Nat → Nat → List Nat → Nat
  | _ :: cs, s, r :: rs => sm (kf cs s) r + krk cs (s - r) rs
  | _, _, _ => 0
theorem krk_lt : ∀ {cs : List Nat} {s : Nat} {rs : List Nat}, IsRw cs s rs → krk cs s rs < kw cs s
  | [], s, [], h => by
    have e : s = 0 := h
    subst e
    show 0 < kb 0
    decide
  | c :: cs, s, r :: rs, h => by
    have ih := krk_lt h.2.2
    show sm (kf cs s) r + krk cs (s - r) rs < sm (kf cs s) (c + 1)
    have e : kf cs s r = kw cs (s - r) := if_pos h.2.1
    have m : sm (kf cs s) (r + 1) ≤ sm (kf cs s) (c + 1) := sm_mono (by have := h.1; omega)
    have x : sm (kf cs s) (r + 1) = sm (kf cs s) r + kf cs s r := rfl
    omega
  | [], _, _ :: _, h => h.elim
  | _ :: _, _, [], h => h.elim
/-- the head of a row by its number -/
theorem krk_head {c : Nat} {cs : List Nat} {s r : Nat} {rs : List Nat} (h : IsRw (c :: cs) s (r :: rs)) : sm (kf cs s) r ≤ krk (c :: cs) s (r :: rs) ∧ krk (c :: cs) s (r :: rs) < sm (kf cs s) (r + 1) := by
  have ih := krk_lt h.2.2
  have e : kf cs s r = kw cs (s - r) := if_pos h.2.1
  have x : sm (kf cs s) (r + 1) = sm (kf cs s) r + kf cs s r := rfl
  show sm (kf cs s) r ≤ sm (kf cs s) r + krk cs (s - r) rs ∧ sm (kf cs s) r + krk cs (s - r) rs < sm (kf cs s) (r + 1)
  omega
/-- rows stand as their numbers do -/
def lexN : List Nat → List Nat → Prop
  | a :: as, b :: bs => a < b ∨ (a = b ∧ lexN as bs)
  | _, _ => False
theorem krk_lex : ∀ {cs : List Nat} {s : Nat} {as bs : List Nat}, IsRw cs s as → IsRw cs s bs → lexN as bs → krk cs s as < krk cs s bs
  | [], _, [], [], _, _, h => h.elim
  | c :: cs, s, a :: as, b :: bs, ha, hb, h => by
    rcases h with h | ⟨e, h⟩
    · have ⟨_, x⟩ := krk_head ha
      have ⟨y, _⟩ := krk_head hb
      have m : sm (kf cs s) (a + 1) ≤ sm (kf cs s) b := sm_mono h
      omega
    · subst e
      have := krk_lex ha.2.2 hb.2.2 h
      show sm (kf cs s) a + krk cs (s - a) as < sm (kf cs s) a + krk cs (s - a) bs
      omega
  | [], _, _ :: _, _, h, _, _ => h.elim
  | [], _, [], _ :: _, _, h, _ => h.elim
  | _ :: _, _, [], _, h, _, _ => h.elim
  | _ :: _, _, _ :: _, [], _, h, _ => h.elim
theorem lex_tri : ∀ {as bs : List Nat}, as.length = bs.length → lexN as bs ∨ as = bs ∨ lexN bs as
  | [], [], _ => .inr (.inl rfl)
  | a :: as, b :: bs, h => by
    rcases Nat.lt_trichotomy a b with c | c | c
    · exact .inl (.inl c)
    · subst c
      rcases lex_tri (as := as) (bs := bs) (by simpa using h) with d | d | d
      · exact .inl (.inr ⟨rfl, d⟩)
      · exact .inr (.inl (by rw [d]))
      · exact .inr (.inr (.inr ⟨rfl, d⟩))
    · exact .inr (.inr (.inl c))
  | [], _ :: _, h => by simp at h
  | _ :: _, [], h => by simp at h
theorem krk_inj {cs : List Nat} {s : Nat} {as bs : List Nat} (ha : IsRw cs s as) (hb : IsRw cs s bs) (h : krk cs s as = krk cs s bs) : as = bs := by
  rcases lex_tri (ha.len.trans hb.len.symm) with d | d | d
  · have := krk_lex ha hb d
    omega
  · exact d
  · have := krk_lex hb ha d
    omega
theorem krk_lex_iff {cs : List Nat} {s : Nat} {as bs : List Nat} (ha : IsRw cs s as) (hb : IsRw cs s bs) : lexN as bs ↔ krk cs s as < krk cs s bs := by
  constructor
  · exact krk_lex ha hb
  · intro h
    rcases lex_tri (ha.len.trans hb.len.symm) with d | d | d
    · exact d
    · rw [d] at h; omega
    · have := krk_lex hb ha d
      omega
/-- the last place whose sum ahead is no more than k -/
def pkf (f : Nat → Nat) (k : Nat) : Nat → Nat
  | 0 => 0
  | n + 1 => if sm f (n + 1) ≤ k then n + 1 else pkf f k n
theorem pkf_spec {f : Nat → Nat} {k : Nat} : ∀ n : Nat, k < sm f (n + 1) → pkf f k n ≤ n ∧ sm f (pkf f k n) ≤ k ∧ k < sm f (pkf f k n + 1)
  | 0, h => ⟨Nat.le_refl _, Nat.zero_le _, h⟩
  | n + 1, h => by
    show pkf f k (n + 1) ≤ n + 1 ∧ _
    by_cases c : sm f (n + 1) ≤ k
    · have e : pkf f k (n + 1) = n + 1 := if_pos c
      rw [e]
      exact ⟨Nat.le_refl _, c, h⟩
    · have e : pkf f k (n + 1) = pkf f k n := if_neg c
      rw [e]
      have ⟨x, y, z⟩ := pkf_spec (f := f) (k := k) n (by omega)
      exact ⟨Nat.le_succ_of_le x, y, z⟩
theorem pkf_one {f : Nat → Nat} {k a b : Nat} (h1 : sm f a ≤ k) (h2 : k < sm f (a + 1)) (h3 : sm f b ≤ k) (h4 : k < sm f (b + 1)) : a = b := by
  rcases Nat.lt_trichotomy a b with h | h | h
  · have := sm_mono (f := f) (show a + 1 ≤ b from h)
    omega
  · exact h
  · have := sm_mono (f := f) (show b + 1 ≤ a from h)
    omega
/-- the row of a number -/
def kun : List Nat → Nat → Nat → List Nat
  | [], _, _ => []
  | c :: cs, s, k => pkf (kf cs s) k c :: kun cs (s - pkf (kf cs s) k c) (k - sm (kf cs s) (pkf (kf cs s) k c))
theorem kun_spec : ∀ (cs : List Nat) (s k : Nat), k < kw cs s → IsRw cs s (kun cs s k) ∧ krk cs s (kun cs s k) = k
  | [], s, k, h => by
    have h' : k < kb s := h
    unfold kb at h'
    by_cases e : s = 0
    · rw [if_pos e] at h'
      exact ⟨e, by show 0 = k; omega⟩
    · rw [if_neg e] at h'
      exact absurd h' (Nat.not_lt_zero _)
  | c :: cs, s, k, h => by
    obtain ⟨r, er⟩ : ∃ r, r = pkf (kf cs s) k c := ⟨_, rfl⟩
    have ⟨x, y, z⟩ := pkf_spec (f := kf cs s) (k := k) c h
    rw [← er] at x y z
    have zz : sm (kf cs s) (r + 1) = sm (kf cs s) r + kf cs s r := rfl
    have rs : r ≤ s := by
      apply Classical.byContradiction
      intro q
      have e : kf cs s r = 0 := if_neg q
      omega
    have e : kf cs s r = kw cs (s - r) := if_pos rs
    have ⟨i1, i2⟩ := kun_spec cs (s - r) (k - sm (kf cs s) r) (by omega)
    show IsRw (c :: cs) s (pkf (kf cs s) k c :: _) ∧ krk (c :: cs) s (pkf (kf cs s) k c :: _) = k
    rw [← er]
    refine ⟨⟨x, rs, i1⟩, ?_⟩
    show sm (kf cs s) r + krk cs (s - r) _ = k
    rw [i2]
    omega
theorem kun_krk {cs : List Nat} {s : Nat} {rs : List Nat} (h : IsRw cs s rs) : kun cs s (krk cs s rs) = rs := by
  have ⟨a, b⟩ := kun_spec cs s _ (krk_lt h)
  exact krk_inj a h b
/-- there are rows just of the sizes up to the sum of the counts -/
theorem kw_pos : ∀ {cs : List Nat} {s : Nat}, s ≤ cs.sum → 0 < kw cs s
  | [], s, h => by
    have e : s = 0 := by simpa using h
    subst e
    decide
  | c :: cs, s, h => by
    rw [List.sum_cons] at h
    rw [kw_cons]
    obtain ⟨r, hr1, hr2, hr3⟩ : ∃ r, r ≤ c ∧ r ≤ s ∧ s - r ≤ cs.sum := ⟨min c s, by omega, by omega, by omega⟩
    have p := kw_pos hr3
    have e : kf cs s r = kw cs (s - r) := if_pos hr2
    have m : sm (kf cs s) (r + 1) ≤ sm (kf cs s) (c + 1) := sm_mono (by omega)
    have x : sm (kf cs s) (r + 1) = sm (kf cs s) r + kf cs s r := rfl
    omega
theorem kw_above : ∀ {cs : List Nat} {s : Nat}, cs.sum < s → kw cs s = 0
  | [], s, h => by
    show kb s = 0
    unfold kb
    rw [if_neg (by simp at h; omega)]
  | c :: cs, s, h => by
    rw [List.sum_cons] at h
    rw [kw_cons, ← sm_zero (c + 1)]
    refine sm_congr fun i hi => ?_
    unfold kf
    by_cases q : i ≤ s
    · rw [if_pos q]; exact kw_above (by omega)
    · rw [if_neg q]
/-- the least row: as few as can be of the first kinds -/
def kle : List Nat → Nat → List Nat
  | [], _ => []
  | _ :: cs, s => (s - cs.sum) :: kle cs (s - (s - cs.sum))
theorem kle_spec : ∀ {cs : List Nat} {s : Nat}, s ≤ cs.sum → IsRw cs s (kle cs s) ∧ krk cs s (kle cs s) = 0
  | [], s, h => ⟨(by have e : s = 0 := by simpa using h
                     exact e), rfl⟩
  | c :: cs, s, h => by
    rw [List.sum_cons] at h
    have ⟨a, b⟩ := kle_spec (cs := cs) (s := s - (s - cs.sum)) (by omega)
    refine ⟨⟨by omega, by omega, a⟩, ?_⟩
    show sm (kf cs s) (s - cs.sum) + krk cs (s - (s - cs.sum)) (kle cs (s - (s - cs.sum))) = 0
    rw [b, Nat.add_zero, ← sm_zero (s - cs.sum)]
    refine sm_congr fun i hi => ?_
    unfold kf
    rw [if_pos (by omega)]
    exact kw_above (by omega)
theorem sm_flat {f : Nat → Nat} {a : Nat} : ∀ {b : Nat}, a ≤ b → (∀ i, a ≤ i → i < b → f i = 0) → sm f b = sm f a
  | 0, h, _ => by
    have : a = 0 := by omega
    rw [this]
  | b + 1, h, z => by
    by_cases e : a = b + 1
    · rw [e]
    · show sm f b + f b = sm f a
      rw [sm_flat (b := b) (by omega) (fun i h1 h2 => z i h1 (by omega)), z b (by omega) (by omega), Nat.add_zero]
theorem IsRw.sum_le : ∀ {cs : List Nat} {s : Nat} {rs : List Nat}, IsRw cs s rs → s ≤ cs.sum
  | [], s, [], h => by
    have e : s = 0 := h
    rw [e]
    exact Nat.zero_le _
  | c :: cs, s, r :: rs, h => by
    have := h.2.2.sum_le
    have h1 := h.1
    have h2 := h.2.1
    rw [List.sum_cons]
    omega
  | [], _, _ :: _, h => h.elim
  | _ :: _, _, [], h => h.elim
/-- the row behind a row -/
def knx : List Nat → List Nat → Option (List Nat)
  | c :: cs, r :: rs => match knx cs rs with
    | some t => some (r :: t)
    | none => if r < c ∧ 1 ≤ rs.sum then some ((r + 1) :: kle cs (rs.sum - 1)) else none
  | _, _ => none
theorem knx_spec : ∀ {cs : List Nat} {s : Nat} {rs : List Nat}, IsRw cs s rs →
    (knx cs rs = none → krk cs s rs + 1 = kw cs s) ∧ (∀ t, knx cs rs = some t → IsRw cs s t ∧ krk cs s t = krk cs s rs + 1)
  | [], s, [], h => by
    have e : s = 0 := h
    subst e
    exact ⟨fun _ => rfl, fun t ht => by cases ht⟩
  | c :: cs, s, r :: rs, h => by
    have ⟨i1, i2⟩ := knx_spec h.2.2
    have hs := h.2.2.sum
    have hle := h.2.2.sum_le
    have e0 : kf cs s r = kw cs (s - r) := if_pos h.2.1
    have x : sm (kf cs s) (r + 1) = sm (kf cs s) r + kf cs s r := rfl
    have ek : krk (c :: cs) s (r :: rs) = sm (kf cs s) r + krk cs (s - r) rs := rfl
    have hrc := h.1
    have hrs := h.2.1
    cases e : knx cs rs with
    | some t =>
      have ek2 : knx (c :: cs) (r :: rs) = some (r :: t) := by show (match knx cs rs with | some t => _ | none => _) = _; rw [e]
      rw [ek2]
      have ⟨a, b⟩ := i2 t e
      refine ⟨fun z => (nomatch z), fun t' ht => ?_⟩
      cases ht
      refine ⟨⟨h.1, h.2.1, a⟩, ?_⟩
      show sm (kf cs s) r + krk cs (s - r) t = _
      rw [b, ek]
      omega
    | none =>
      have ek2 : knx (c :: cs) (r :: rs) = if r < c ∧ 1 ≤ rs.sum then some ((r + 1) :: kle cs (rs.sum - 1)) else none := by show (match knx cs rs with | some t => _ | none => _) = _; rw [e]
      have n1 := i1 e
      rw [ek2]
      by_cases q : r < c ∧ 1 ≤ rs.sum
      · rw [if_pos q]
        refine ⟨fun z => (nomatch z), fun t' ht => ?_⟩
        cases ht
        have es : rs.sum - 1 = s - (r + 1) := by omega
        rw [es]
        have ⟨a, b⟩ := kle_spec (cs := cs) (s := s - (r + 1)) (by omega)
        refine ⟨⟨by omega, by omega, a⟩, ?_⟩
        show sm (kf cs s) (r + 1) + krk cs (s - (r + 1)) _ = _
        rw [b, ek]
        omega
      · rw [if_neg q]
        refine ⟨fun _ => ?_, fun t' ht => by cases ht⟩
        rw [ek, kw_cons]
        have fl : sm (kf cs s) (c + 1) = sm (kf cs s) (r + 1) := sm_flat (by omega) fun i h1 h2 => by
          by_cases rc : r < c
          · have : rs.sum = 0 := by omega
            exact if_neg (by omega)
          · omega
        omega
  | [], _, _ :: _, h => h.elim
  | _ :: _, _, [], h => h.elim
/-- as the law looks for it: the last place that may be raised -/
def upAt (cs rs : List Nat) (k : Nat) : Prop := ∃ c r, cs[k]? = some c ∧ rs[k]? = some r ∧ r < c ∧ 1 ≤ (rs.drop (k + 1)).sum
theorem knx_none : ∀ {cs rs : List Nat}, rs.length = cs.length → (∀ k, ¬ upAt cs rs k) → knx cs rs = none
  | [], [], _, _ => rfl
  | c :: cs, r :: rs, hl, h => by
    have ih := knx_none (cs := cs) (rs := rs) (by simpa using hl) fun k ⟨c', r', h1, h2, h3⟩ => h (k + 1) ⟨c', r', h1, h2, h3⟩
    show (match knx cs rs with | some t => _ | none => _) = _
    rw [ih]
    exact if_neg fun q => h 0 ⟨c, r, rfl, rfl, q.1, q.2⟩
  | [], _ :: _, hl, _ => by simp at hl
  | _ :: _, [], hl, _ => by simp at hl
theorem knx_some : ∀ {cs rs : List Nat} {k : Nat}, rs.length = cs.length → upAt cs rs k → (∀ j, k < j → ¬ upAt cs rs j) →
    ∃ r, rs[k]? = some r ∧ knx cs rs = some (rs.take k ++ (r + 1) :: kle (cs.drop (k + 1)) ((rs.drop (k + 1)).sum - 1))
  | c :: cs, r :: rs, 0, hl, ⟨c', r', h1, h2, h3, h4⟩, hn => by
    cases h1
    cases h2
    have ih := knx_none (cs := cs) (rs := rs) (by simpa using hl) fun j ⟨c', r', a1, a2, a3⟩ => hn (j + 1) (Nat.succ_pos _) ⟨c', r', a1, a2, a3⟩
    refine ⟨r, rfl, ?_⟩
    show (match knx cs rs with | some t => _ | none => _) = _
    rw [ih]
    exact if_pos ⟨h3, h4⟩
  | c :: cs, r :: rs, k + 1, hl, ⟨c', r', h1, h2, h3⟩, hn => by
    obtain ⟨r2, e1, e2⟩ := knx_some (cs := cs) (rs := rs) (k := k) (by simpa using hl) ⟨c', r', h1, h2, h3⟩ fun j hj ⟨c', r', a1, a2, a3⟩ => hn (j + 1) (by omega) ⟨c', r', a1, a2, a3⟩
    refine ⟨r2, e1, ?_⟩
    show (match knx cs rs with | some t => _ | none => _) = _
    rw [e2]
    rfl
  | [], _, _, _, ⟨_, _, h, _⟩, _ => by simp at h
  | _ :: _, [], _, _, ⟨_, _, _, h, _⟩, _ => by simp at h
end Dp
/-! sum(t), t a tuple of ints -/
namespace DpT
open PySem PySem.Spec PyProof.Rows HT L2
section
variable {prog : Program} {w : World} {A : Around} {E : Value → Shared → Prop} {s : Shared} {l : Addr} {xs : Array (Int × Tok)} {its : List Value} {ns : List Int} {Q : Value → Shared → Prop}
theorem sum_tupG (hh : A.handled = none) (hl : s.heap.IsTuple l (intItems xs))
    (h : ∀ h' tk t', (∀ b o, s.heap.get? b = some o → h'.get? b = some o) → Q (.int (preSum (numAt xs) xs.size) t') { s with heap := h', toks := tk }) :
    wpAny (model prog w) A (call (.builtin "sum") [.ref l]) Q E s := by
  have hlt : l < s.heap.objs.size := by obtain ⟨_, e, _⟩ := hl; exact Heap.lt_size e
  refine call_sum_walkG (wpAny_pyIter_tuple hl ?_)
  refine ⟨_, _, _, _, _, _, numAt xs, rfl, Walks.tuple (A := A.in1) hh _ l (Nat.ne_of_lt hlt) (intItems xs), ⟨⟨_, Heap.get?_push_size _ rfl, rfl, rfl⟩, hl.push _⟩, fun b hb => ?_, (fun _ _ => intItems_at), fun h' tk t' hk => ?_⟩
  · show b < (s.heap.push _).objs.size
    rw [Heap.size_push]
    rcases List.mem_cons.mp hb with e | e
    · subst e; exact Nat.lt_succ_self _
    · rw [List.mem_singleton] at e
      subst e
      exact Nat.lt_succ_of_lt hlt
  · have := h h' tk t' (fun b o e => hk b o (by
      intro q
      rw [List.mem_singleton] at q
      subst q
      exact absurd (Heap.lt_size e) (Nat.lt_irrefl _)) (Heap.get?_push_of_some _ e))
    simpa [intItems] using this
theorem sum_rawT (hh : A.handled = none) (hl : IsTup s.heap l its.toArray) (hi : IntsAre its ns)
    (h : ∀ h' tk t', (∀ b o, s.heap.get? b = some o → h'.get? b = some o) → Q (.int ns.sum t') { s with heap := h', toks := tk }) : wpAny (model prog w) A (call (.builtin "sum") [.ref l]) Q E s := by
  obtain ⟨xs, e⟩ := hi.allInts.items
  have hn : numsOf (intItems xs).toList = ns := by rw [← e]; exact hi.numsOf
  rw [nums_intItems] at hn
  rw [e] at hl
  obtain ⟨o, h1, h2, n, h3⟩ := hl
  refine sum_tupG hh ⟨o, h1, h2, n, h3⟩ fun h' tk t' hk => ?_
  have := h h' tk t' hk
  rw [preSum_eq, List.take_of_length_le (by simp), hn]; exact this
end
end DpT
namespace DpR
open PySem PySem.Spec PyProof.Rows L2
def rSumT (K : PySem.W.Frag) : List V → Hp → VK → Prop := fun vs H Q => ∃ (a : Addr) (ns : List Int), vs = [V.ref a] ∧ SqT K H a (ns.map V.int) ∧ Q (.int ns.sum) H
theorem cr_sumT {X : Cx} (hc : X.calm = true) : CallR X (.builtin "sum") (rSumT X.K) := by
  intro pins s σ H vs us Q I r h
  obtain ⟨a, ns, rfl, hs, q⟩ := h
  obtain ⟨its, rv, hl, _⟩ := I.tuple hs
  rw [Vals.ref1 r]
  exact DpT.sum_rawT (I.ok.hd hc) hl rv.ints fun h' tk t' hk => ⟨.int _, H, I.kept hk, ⟨_, rfl⟩, q⟩
end DpR
/-! C(..) in a try: the refusal is wished for at the caller's slots -/
namespace DpR
open PySem PySem.Spec PyProof.Rows L2
section
variable {X : Cx} {CX : CXT} {k : Nat} {f C : Addr} {fd : FuncData} {ps : List Str} {sp : Sp} {E : L2.St → XK} {x : Str} {p pos : Pos} {e : Expr} {es : List Expr} {t : TA}
def tMakeE (C : Addr) (sp : Sp) (E : L2.St → XK) (t : TA) : TE := fun σ H Q => t σ H fun vs H1 => ∀ x dx, H1 x = none → H1 dx = none → dx ≠ x →
  sp (.ref x :: vs) (upd (upd H1 dx (.own x)) x (.ins C dx [])) (fun v H2 => v = .non ∧ Q (.ref x) H2) (E σ)
theorem run_makeE {pins : List (Addr × Obj)} {σ : L2.St} {H : Hp} {s : Shared} {Q : VK} {us : List Value} {vs : List V} (M : Mk X.K C f) (F : FnOk X.prog X.w X.K X.mg X.base CX k f fd ps sp) (hr : Room (k + 1) X.A) (hb : Binds X.K fd ps [])
    (hx : PassesAt CX X σ (E σ)) (I : Inv X pins σ H s) (r : Vals vs us)
    (h : ∀ x dx, H x = none → H dx = none → dx ≠ x → sp (.ref x :: vs) (upd (upd H dx (.own x)) x (.ins C dx [])) (fun v H2 => v = .non ∧ Q (.ref x) H2) (E σ)) :
    wpAny (model X.prog X.w) X.A (call (.ref C) us) (EP X pins σ Q) X.xe s := by
  have hq := h (s.heap.objs.size + 1) s.heap.objs.size (I.hok.fresh (Nat.le_succ _)) (I.hok.fresh (Nat.le_refl _)) (Nat.ne_of_lt (Nat.lt_succ_self _))
  have I2 := Inv.made (C := C) I
  have r2 : Vals (V.ref (s.heap.objs.size + 1) :: vs) (Value.ref (s.heap.objs.size + 1) :: us) := .cons rfl r
  have hl : (Value.ref (s.heap.objs.size + 1) :: us ++ []).length = ps.length := by
    have e := r2.length
    rw [F.len _ _ _ _ hq] at e
    rw [List.append_nil]
    exact e.symm
  refine wpAny_call (make_map (f := f) I.kIn M.makes M.init (beq_iff_eq.mp M.fn) (codeAny_mono (F.run _ X.stack _ _ ⟨Value.ref (s.heap.objs.size + 1) :: us, []⟩ (Value.ref (s.heap.objs.size + 1) :: us) _ _ (E σ) (hr.make C us [])
    (I2.env0.make C us []) (by have b := hb _ (Value.ref (s.heap.objs.size + 1) :: us) I2.kIn hl; rw [List.append_nil] at b; exact b) r2 hq) fun r s' hq' => ?_))
  cases r with
  | error e => exact hx pins _ _ e s' I2 hq'
  | ok fl =>
    cases fl with
    | ret u =>
      obtain ⟨v, H', I3, rv, ev, q3⟩ := I2.after hq'
      subst ev
      exact ⟨rv, ⟨V.ref (s.heap.objs.size + 1), H', I3, rfl, q3⟩⟩
    | next => exact False.elim hq'
    | brk => exact False.elim hq'
    | cont => exact False.elim hq'
theorem pe_makeE (M : Mk X.K C f) (F : FnOk X.prog X.w X.K X.mg X.base CX k f fd ps sp) (hr : Room (k + 1) X.A) (hg : Gl X x) (hm : X.mg x = some (.ref C)) (hb : Binds X.K fd ps []) (hx : ∀ σ, PassesAt CX X σ (E σ))
    (ha : PA X (e :: es) t) (hdb : (x == ("__debug__" : Str)) = false := by decide) (he : starEach (e :: es) X.env = (false, eval e X.env) :: starEach es X.env := by rfl) (hpl : (backTo pos (starEach es X.env)).any (·.1) = false := by rfl) :
    PE X (.Call (.Name x p) (e :: es) [] pos) (tMakeE C sp E t) := by
  refine ⟨fun pins s σ H Q I h => ?_⟩
  refine wpAny_Call_Name_kw (ld_glob I hg hm ?_ hdb)
  refine PySem.W.callWith_K (h₀ := X.base) I.ok.mod.kin M.kp (thn (ha.run pos pins s σ H _ I h) fun us s1 ⟨vs, H1, I1, r, q⟩ => ⟨I1.kIn, ?_⟩) he hpl
  exact run_makeE M F hr hb (hx σ) I1 r q
end
end DpR
/-! a generator expression over a row, its element called or told; the table of its def is one object that stays as it is told -/
namespace DpR
open PySem PySem.Spec PyProof.Rows L2
/-- a code object's table, whatever is in it -/
def TabO (P : Addr) : HO := .ext fun h => ∃ ps : Array Value, h.get? P = some { cls := .none, data := .fields ps } ∧ TriplesOk ps.toList
section
variable {X : Cx} {pins : List (Addr × Obj)} {σ : L2.St} {H : Hp} {s : Shared}
theorem tabO_ok {prog : Program} {w : World} {H : Hp} {h : Heap} {P : Addr} {ps : Array Value} (e : h.get? P = some { cls := .none, data := .fields ps }) (ht : TriplesOk ps.toList) : ObjOk prog w H h P (TabO P) :=
  ⟨⟨ps, e, ht⟩, ⟨_, e⟩, fun h1 h2 ⟨qs, q1, q2⟩ k => ⟨qs, k _ q1, q2⟩⟩
theorem tabO_get (I : Inv X pins σ H s) {P : Addr} (hP : H P = some (TabO P)) : ∃ ps : Array Value, s.heap.get? P = some { cls := .none, data := .fields ps } ∧ TriplesOk ps.toList := (I.hok P _ hP).1
/-- the table has changed, nothing else -/
theorem inv_tabE {P : Addr} {ps : Array Value} {h' : Heap} {g' : Array GenState} {d' : Drawn} {t' : Nat} (I : Inv X pins σ H s) (hP : H P = some (TabO P)) (k : ∀ b o, b ≠ P → s.heap.get? b = some o → h'.get? b = some o)
    (hm : h'.get? P = some { cls := .none, data := .fields ps }) (ht : TriplesOk ps.toList) (hg : AllBare g') : Inv X pins σ H { s with heap := h', gens := g', drawn := d', toks := t' } := by
  have nP : ∀ b u, H b = some u → (∀ φ, u ≠ .ext φ) → b ≠ P := fun b u e q z => by
    rw [z, hP] at e
    exact q _ (Option.some.inj e).symm
  have nN : ∀ b, H b = none → b ≠ P := fun b e z => by
    rw [z, hP] at e
    cases e
  refine I.call (ch := []) ⟨fun b o e n _ _ => k b o (nN b n) e, fun b o e n _ _ => ⟨o.slots, k b o (nN b n) e⟩, fun b o _ n _ => n, fun b o e _ => ?_, fun b xs e => e, fun b o u e => e, fun b qs e => ⟨#[], by rw [Array.append_empty]; exact e⟩⟩ ?_ hg (fun _ z => nomatch z)
  · by_cases hb : b = P
    · rw [hb]; exact ⟨_, hm⟩
    · exact ⟨o, k b o hb e⟩
  · intro b u e
    by_cases hb : b = P
    · rw [hb, hP] at e
      cases e
      rw [hb]
      exact tabO_ok hm ht
    · refine (I.hok b u e).stay (fun d v hd q => k d v ?_ q) (fun d q => q) fun d xs q => q
      rcases hd with z | z
      · rw [z]; exact hb
      · exact nP d _ z fun φ y => by cases y
/-! ### a walk over either -/
def itrB (b : Bool) (a : Addr) : Obj := match b with
  | false => { cls := .type "list_iterator", data := .fields #[.ref a, .int 0 0] }
  | true => { cls := .type "tuple_iterator", data := .fields #[.ref a, .int 0 0] }
theorem iterB {prog : Program} {w : World} {A : Around} {E : Value → Shared → Prop} {s : Shared} {b : Bool} {a : Addr} {its : Array Value} {Q : Value → Shared → Prop} (h : IsB b s.heap a its) (q : Q (.ref s.heap.objs.size) { s with heap := s.heap.push (itrB b a) }) :
    wpAny (model prog w) A (pyIter (.ref a)) Q E s := by
  cases b with
  | false => exact wpAny_pyIter_list h q
  | true => exact wpAny_pyIter_tuple h q
theorem itrB_in {b : Bool} {h : Heap} {a : Addr} : InB b (h.push (itrB b a)) h.objs.size a 0 := by
  cases b with
  | false => exact ⟨_, Heap.get?_push_size _ rfl, rfl, rfl⟩
  | true => exact ⟨_, Heap.get?_push_size _ rfl, rfl, rfl⟩
theorem walksB {b : Bool} {prog : Program} {w : World} {A : Around} (hh : A.handled = none) (it a : Addr) (hne : a ≠ it) (items : Array Value) :
    Walks prog w A it [it, a] [it] items.size (fun i v => items[i]? = some v) (fun i h => InB b h it a i ∧ IsB b h a items) := by
  cases b with
  | false => exact Walks.list hh it a hne items
  | true => exact Walks.tuple hh it a hne items
theorem isB_at {b : Bool} {h h' : Heap} {a : Addr} {its : Array Value} (x : IsB b h a its) (k : ∀ o, h.get? a = some o → h'.get? a = some o) : IsB b h' a its := by
  cases b with
  | false => obtain ⟨o, e, r⟩ := x; exact ⟨o, k o e, r⟩
  | true => obtain ⟨o, e, r⟩ := x; exact ⟨o, k o e, r⟩
theorem isB_lt {b : Bool} {h : Heap} {a : Addr} {its : Array Value} (x : IsB b h a its) : a < h.objs.size := by
  cases b with
  | false => obtain ⟨o, e, r⟩ := x; exact Heap.lt_size e
  | true => obtain ⟨o, e, r⟩ := x; exact Heap.lt_size e
/-- what the element does, of the i-th item, in the generator's own frame -/
def EltG (X : Cx) (P : Addr) (scope : Scope) (x : Str) (elt : Expr) (s1 : Shared) (its : List Value) (F : Nat → Value → Prop) : Prop :=
  ∀ (cenv : Env) (A' : Around) (E' : Value → Shared → Prop) (i : Nat) (v : Value) (t : Shared) (m : Str → Option Value), cenv.scope = scope → cenv.globals = X.env.globals → cenv.builtins = builtinsNs → A'.handled = none → A'.depth ≤ X.A.depth + 1 → A'.units ≤ X.A.units + 8 →
    its[i]? = some v → t.heap.Ns cenv.locals m → m x = some v → (∀ b o, b ≠ P → s1.heap.get? b = some o → t.heap.get? b = some o) → wpAny (model X.prog X.w) A' (eval elt cenv) (fun y s3 => F i y ∧ Keeps t s3) E' t
/-- the generator g over n items, ready to be walked, in the state s5 -/
def ReadyR (X : Cx) (pins : List (Addr × Obj)) (σ : L2.St) (H1 : Hp) (n : Nat) (F : Nat → Value → Prop) (g : Addr) (s5 : Shared) : Prop :=
  ∃ (fp wr : List Addr) (G : Array GenState → Array GenState → Prop) (F' : Nat → Value → Prop) (St : Nat → Shared → Prop),
    WalksS X.prog X.w X.A.in1 g fp wr G n F' St ∧ WalksS X.prog X.w X.A.in1.in1 g fp wr G n F' St ∧ St 0 s5 ∧ (∀ b ∈ fp, b < s5.heap.objs.size) ∧ g ∈ fp ∧ (∀ i s9, St i s9 → s9.TypeIs (.ref g) "generator") ∧ (∀ j v, F' j v → F j v) ∧ ∀ s', Moved wr G s5 s' → Inv X pins σ H1 s'
theorem gen_row {c P : Addr} {elt iter : Expr} {x : Str} {px gpos : Pos} {scope : Scope} {te : TE} {k : Nat} {F : List V → Nat → Value → Prop} {Q' : Value → Shared → Prop} {R : List V → Hp → Prop}
    (hr : Room k X.A) (TB : GxR.TabB X.base X.mg c P) (hcode : X.env.code = .ref c) (S : GxR.GenS X.env scope x) (hi : PE X iter te)
    (hel : ∀ xs H1 s1 its, R xs H1 → H1 P = some (TabO P) → Inv X pins σ H1 s1 → Vals xs its → EltG X P scope x elt s1 its (F xs))
    (hs : ∀ v, genFold iter X.env v = pure v) (I : Inv X pins σ H s) (h : te σ H fun v H1 => ∃ a b xs, v = .ref a ∧ SqB b X.K H1 a xs ∧ H1 P = some (TabO P) ∧ R xs H1)
    (hQ : ∀ xs H1 g s5, R xs H1 → ReadyR X pins σ H1 xs.length (F xs) g s5 → Q' (.ref g) s5) :
    wpAny (model X.prog X.w) X.A (eval (.GeneratorExp elt [⟨.Name x px, iter, [], 0⟩] scope gpos) X.env) Q' X.xe s := by
  refine wpAny_GeneratorExp_walksQD hr.hd S.co (closure_ok S.free) S.cell S.dot S.loc S.kind (by have := hr.dp; omega) ?_ hs
  refine thn (hi.run pins s σ H _ I h) fun xv s1 ⟨v, H1, I1, r1, q1⟩ => ?_
  obtain ⟨a, b, xs, rfl, hq, hP, q1⟩ := q1
  obtain rfl : xv = Value.ref a := r1
  obtain ⟨its, rv, hB, hz⟩ := sqB_is I1 hq
  obtain ⟨ps, hPs, ht⟩ := tabO_get I1 hP
  have hlen : its.length = xs.length := rv.length.symm
  refine iterB hB ?_
  have ltP : P < s1.heap.objs.size := Heap.lt_size hPs
  have lta := isB_lt hB
  have aP : a ≠ P := isB_ne hB hPs rfl
  have hP2 : (s1.heap.push (itrB b a)).get? P = some { cls := .none, data := .fields ps } := Heap.get?_push_of_some _ hPs
  have cd : PySem.W.CodeHd (s1.heap.push (itrB b a)) c P := TB.code.keeps fun b u e => Heap.get?_push_of_some _ (I1.bk b u e)
  have lim2 : (s1.heap.push (itrB b a)).NoLimit := I1.nolimit.push _
  have sz2 : (s1.heap.push (itrB b a)).objs.size = s1.heap.objs.size + 1 := Heap.size_push ..
  have hcl : cStatics < s1.heap.objs.size := let ⟨_, hns, _⟩ := I1.nolimit; hns.lt
  have hcP : cStatics ≠ P := fun e => by
    obtain ⟨_, hns, _⟩ := I1.nolimit
    obtain ⟨o', es, ep, ho, hd, _⟩ := hns
    rw [e, hPs] at ho
    cases ho
    cases hd
  have cont : ∀ (code : Value) (h3 : Heap) (tk : Nat) (ps' : Array Value), Heap.ExtBut P (s1.heap.push (itrB b a)) h3 → (s1.heap.push (itrB b a)).objs.size ≤ h3.objs.size → h3.get? P = some { cls := .none, data := .fields ps' } → TriplesOk ps'.toList →
      wpAny (model X.prog X.w) X.A (builtinsFor X.env.globals X.env.builtins) (fun bi s₄ =>
        ∃ Ia fp wr n₀ Pf St₀ pz F2, Value.ref s1.heap.objs.size = .ref Ia ∧ (∀ A' : Around, A'.handled = none → Walks X.prog X.w A' Ia fp wr n₀ Pf St₀) ∧ St₀ 0 s₄.heap ∧ (∀ b ∈ fp, b < s₄.heap.objs.size) ∧ s₄.heap.NoLimit ∧ cStatics ∉ wr ∧
          (∀ href : Heap, (∀ b o, s₄.heap.get? b = some o → href.get? b = some o) →
            QuietGenD X.prog X.w (genEnv scope (cloFrom X.env.cells scope.names []) s₄.heap.objs.size code bi X.env) x [] elt (List.range s₄.heap.objs.size) wr Pf pz F2 href (X.A.depth + 1) (X.A.units + 8)) ∧
          (∀ a h₅ tk gs, gs.bare = true → s₄.heap.objs.size < a → h₅.objs.size = a + 1 → (∀ b o, s₄.heap.get? b = some o → h₅.get? b = some o) →
            WalksS X.prog X.w X.A.in4 a (a :: s₄.heap.objs.size :: List.range s₄.heap.objs.size) (s₄.heap.objs.size :: wr) (GenOnlyQ s₄.gens.size) (passing pz n₀ 0).length
              (fun j y => ∃ i, (passing pz n₀ 0)[j]? = some i ∧ F2 i y) (GenAt X.prog X.w X.A.in4 a s₄.gens.size s₄.heap.objs.size (List.range s₄.heap.objs.size) wr pz n₀ F2) →
            GenAt X.prog X.w X.A.in4 a s₄.gens.size s₄.heap.objs.size (List.range s₄.heap.objs.size) wr pz n₀ F2 0 { s₄ with gens := s₄.gens.push gs, toks := tk, heap := h₅ } →
            Q' (.ref a) { s₄ with gens := s₄.gens.push gs, toks := tk, heap := h₅ })) X.xe { s1 with heap := h3, toks := tk } := by
    intro code h3 tk ps' hx hsz hP3 ht3
    obtain ⟨bm, ob, e1, e2, e3, e4, e5, e6, e7, e8⟩ := TB.bm
    have keep3 : ∀ d u, d ≠ P → s1.heap.get? d = some u → h3.get? d = some u := fun d u hd e => hx d u hd (Heap.get?_push_of_some _ e)
    refine wpAny_builtinsFor (m := X.mg) (by rw [I1.ok.glob]; exact ((I1.mod.glob.keeps I1.bk).push _).extBut hx TB.gP) e1 e2 (keep3 _ _ e4 (I1.bk _ _ e5)) e6 e7 e8 ?_
    have hB3 : IsB b h3 a its.toArray := isB_at hB fun o e => keep3 a o aP e
    have hI3 : InB b h3 s1.heap.objs.size a 0 := inB_at itrB_in fun o e => hx _ o (Nat.ne_of_gt ltP) e
    refine ⟨s1.heap.objs.size, [s1.heap.objs.size, a], [s1.heap.objs.size], its.toArray.size, (fun i v => its.toArray[i]? = some v), (fun i h => InB b h s1.heap.objs.size a i ∧ IsB b h a its.toArray), (fun _ => true),
      F xs, rfl, (fun A' hA => walksB hA _ _ (Nat.ne_of_lt lta) _), ⟨hI3, hB3⟩, fun d hd => ?_, lim2.extBut hx hcP, fun z => ?_, fun href hhref => ?_, ?_⟩
    · show d < h3.objs.size
      rcases List.mem_cons.mp hd with z | z
      · rw [z]; exact Nat.lt_of_lt_of_le (by rw [sz2]; exact Nat.lt_succ_self _) hsz
      · rw [List.mem_singleton.mp z]; exact Nat.lt_of_lt_of_le (by rw [sz2]; exact Nat.lt_succ_of_lt lta) hsz
    · exact Nat.ne_of_lt hcl (List.mem_singleton.mp z)
    · refine ⟨fun A' E' i v s₂ m₂ hA _ _ hPv hn hm hk => ?_, fun A' E' i v s₂ m₂ hA hD hU hPv _ hn hm hk => ?_⟩
      · simp only [List.forIn_nil]
        exact wpAny_pure ⟨rfl, GxR.keeps_refl _⟩
      · refine hel xs H1 s1 its q1 hP I1 rv (genEnv scope (cloFrom X.env.cells scope.names []) h3.objs.size code builtinsNs X.env) A' E' i v s₂ m₂ rfl rfl rfl hA hD hU (by simpa using hPv) hn hm fun d o hd e => ?_
        have e3' := keep3 d o hd e
        refine hk d (List.mem_range.mpr (Heap.lt_size e3')) (fun z => ?_) o (hhref d o e3')
        have := List.mem_singleton.mp z
        rw [this] at e
        exact Nat.lt_irrefl _ (Heap.lt_size e)
    · intro g h5 tk5 gs hgb hag hsz5 hk5 W5 hgat
      simp only [GxR.passing_true, List.length_range] at W5
      have hn5 : its.toArray.size = xs.length := by rw [List.size_toArray, hlen]
      rw [hn5] at W5 hgat
      refine hQ xs H1 g _ q1 ⟨_, _, _, _, _, W5.in4_1, W5.in4_2, hgat, ?_, List.mem_cons_self, fun i s9 h9 => ?_, ?_, fun s' hm => ?_⟩
      · intro d hd
        show d < h5.objs.size
        have e5 : h5.objs.size = g + 1 := hsz5
        have h8 : h3.objs.size < g := hag
        rw [e5]
        rcases List.mem_cons.mp hd with z | z
        · rw [z]; exact Nat.lt_succ_self g
        · rcases List.mem_cons.mp z with z | z
          · rw [z]; exact Nat.lt_succ_of_lt h8
          · exact Nat.lt_succ_of_lt (Nat.lt_trans (show d < h3.objs.size from List.mem_range.mp z) h8)
      · exact h9.1.typeIs
      · intro j v hv
        obtain ⟨i, hij, e⟩ := hv
        obtain ⟨hj, ej⟩ := List.getElem?_eq_some_iff.mp hij
        rw [List.getElem_range] at ej
        subst ej
        exact e
      · have nwr : ∀ d u, s1.heap.get? d = some u → d ∉ h3.objs.size :: [s1.heap.objs.size] := fun d u e hd => by
          have hl := Heap.lt_size e
          rcases List.mem_cons.mp hd with z | z
          · rw [z] at hl
            have h9 : (h3.objs.size : Nat) < s1.heap.objs.size := hl
            have h9' : s1.heap.objs.size + 1 ≤ h3.objs.size := by rw [← sz2]; exact hsz
            omega
          · rw [List.mem_singleton.mp z] at hl
            exact Nat.lt_irrefl _ hl
        have J := inv_tabE (ps := ps') (h' := s'.heap) (g' := s'.gens) (d' := s'.drawn) (t' := s'.toks) I1 hP (fun d u hd e => hm.heap d u (nwr d u e) (hk5 d u (keep3 d u hd e)))
          (hm.heap P _ (nwr P _ hPs) (hk5 P _ hP3)) ht3 (AllBare.movedS (I1.bare.push hgb) hm)
        rw [GxR.sh_eta s1 s' hm.os] at J
        exact J
  refine ⟨lim2, ?_⟩
  cases hf : codeAmong gpos ps.toList with
  | none =>
    refine wpAny_genexprCodeX hcode (cd.code hP2 ht) (cd.tab hP2) hf fun c' h' tk hx hge hlt hco' _ htab' _ => ?_
    obtain ⟨o1, vs, f1, tf, fl, tg, inF, tx, tt, op, _, _, _, _, _, _, _, _, _, htr, _⟩ := hco'
    exact cont _ h' tk _ hx (Nat.le_trans hge (Nat.le_of_lt hlt)) htab'.2 htr
  | some cv =>
    refine wpAny_genexprCode_hit hcode (cd.code hP2 ht) hf ?_
    exact cont cv (s1.heap.push (itrB b a)) s1.toks ps (Heap.ExtBut.refl _ _) (Nat.le_refl _) hP2 ht
/-- all(test(x) for x in row) -/
def tAllG (K : PySem.W.Frag) (P : Addr) (pb : V → Bool) (R : V → Hp → Prop) (te : TE) : TE := fun σ H Q => te σ H fun v H1 => ∃ a b xs, v = .ref a ∧ SqB b K H1 a xs ∧ H1 P = some (TabO P) ∧ (∀ x ∈ xs, R x H1) ∧ Q (.bl (xs.all pb)) H1
theorem all_at (xs : List V) (pb : V → Bool) (f : Nat → Bool) (h : ∀ j x, xs[j]? = some x → f j = pb x) : (List.range xs.length).all f = xs.all pb := by
  rw [Bool.eq_iff_iff, List.all_eq_true, List.all_eq_true]
  constructor
  · intro q x hx
    obtain ⟨j, hj, e⟩ := List.getElem_of_mem hx
    rw [← h j x (by rw [List.getElem?_eq_getElem hj, e])]
    exact q j (List.mem_range.mpr hj)
  · intro q j hj
    have hj' := List.mem_range.mp hj
    rw [h j _ (List.getElem?_eq_getElem hj')]
    exact q _ (List.getElem_mem hj')
theorem pe_allG {c P : Addr} {elt iter : Expr} {x : Str} {px p pos gpos : Pos} {scope : Scope} {pb : V → Bool} {R : V → Hp → Prop} {te : TE} {k : Nat}
    (hr : Room k X.A) (hg : Gl X "all") (hm : X.mg "all" = none) (TB : GxR.TabB X.base X.mg c P) (hcode : X.env.code = .ref c) (S : GxR.GenS X.env scope x) (hi : PE X iter te)
    (hel : ∀ pins σ xs H1 s1 its, (∀ x ∈ xs, R x H1) → H1 P = some (TabO P) → Inv X pins σ H1 s1 → Vals xs its → EltG X P scope x elt s1 its (fun i y => ∃ z, xs[i]? = some z ∧ y = .bool (pb z)))
    (hs : ∀ v, genFold iter X.env v = pure v)
    (he : starEach [.GeneratorExp elt [⟨.Name x px, iter, [], 0⟩] scope gpos] X.env = (false, eval (.GeneratorExp elt [⟨.Name x px, iter, [], 0⟩] scope gpos) X.env) :: starEach [] X.env := by rfl) :
    PE X (.Call (.Name "all" p) [.GeneratorExp elt [⟨.Name x px, iter, [], 0⟩] scope gpos] [] pos) (tAllG X.K P pb R te) := by
  refine ⟨fun pins s σ H Q I h => ?_⟩
  have hb : bootBuiltins "all" = some (.builtin "all") := by decide +kernel
  refine wpAny_Call_Name_kw (ld_blt I hg hm hb ?_)
  refine PyProof.Rows.callWith_builtin1 ?_ he (by rfl)
  rw [he]
  show wpAny _ _ (spliced ((false, eval (.GeneratorExp elt [⟨.Name x px, iter, [], 0⟩] scope gpos) X.env) :: backTo pos (starEach [] X.env))) _ _ s
  refine Calls.spliced_cons (gen_row (F := fun xs i y => ∃ z, xs[i]? = some z ∧ y = .bool (pb z)) (R := fun xs H1 => (∀ x ∈ xs, R x H1) ∧ Q (.bl (xs.all pb)) H1) hr TB hcode S hi (fun xs H1 s1 its q hP I1 rv => hel pins σ xs H1 s1 its q.1 hP I1 rv) hs I h fun xs H1 g s5 hR hG => ?_)
  obtain ⟨fp, wr, G, F', St, W, _, hst, _, _, _, hF, hI⟩ := hG
  refine Calls.spliced_nil ?_
  obtain ⟨f, hf⟩ : ∃ f : Nat → Bool, ∀ j x, xs[j]? = some x → f j = pb x := ⟨fun j => match xs[j]? with
    | some x => pb x
    | none => false, fun j x e => by show (match xs[j]? with | some x => pb x | none => false) = pb x; rw [e]⟩
  refine call_all_walkS (W.self 0 _ _ _ hst ⟨g, fp, wr, G, _, F', St, f, rfl, W, hst, fun j y sj Qj Ej hy hQj => ?_, fun s' hmv => ?_⟩)
  · obtain ⟨z, hz, rfl⟩ := hF j y hy
    have hQ2 : Qj (f j) sj := hQj
    rw [hf j z hz] at hQ2
    exact wpAny_truthy_bool hQ2
  · refine ⟨.bl _, H1, hI s' hmv, rfl, ?_⟩
    rw [all_at xs pb f hf]
    exact hR.2
end
end DpR
/-! the end of a law in whose program one def's table grows -/
namespace DpR
open PySem PySem.Spec PyProof.Rows L2
abbrev tab0 : Obj := { cls := .none, data := .fields #[] }
theorem law_callE {P : Program} {w : World} {K : PySem.W.Frag} {mg mb : Str → Option Value} {CX : CXT} {k : Nat} {fa a c tb : Addr} {fd : FuncData} {x : Str} {sp : Sp} {s₁ : Shared} {vs : List Value} {ns : List Int}
    (KX : K.In s₁.heap) (hns : s₁.heap.Ns mainGlobals mg) (hb : s₁.heap.Ns builtinsNs mb) (hbb : ∀ x : Str, x ≠ "__name__" → mb x = bootBuiltins x) (hlim : s₁.heap.NoLimit) (hg : s₁.gens = #[])
    (hT : s₁.heap.get? tb = some tab0) (nT : K.lookup tb = none) (C : PySem.W.CodeHd s₁.heap c tb)
    (hbm : ∃ (bm : Addr) (ob : Obj), mg "__builtins__" = some (.ref bm) ∧ bm ≠ builtinsNs ∧ s₁.heap.get? bm = some ob ∧ ob.cls = .type "module" ∧ ob.dict = some builtinsNs ∧ ob.data = .plain)
    (ha : s₁.heap.get? a = some { cls := .type "list", data := .seq vs.toArray }) (hi : IntsAre vs ns) (hl : ns.length ≤ sizeLine) (hr : Room k callerA)
    (F : ∀ base : Heap, K.In base → base.Ns mainGlobals mg → GxR.TabB base mg c tb → FnOk P w K mg base CX k fa fd [x] sp) (hbind : ∀ (s : Shared) (u : Value), BindsTo s fd ⟨[u], []⟩ [(x, u)])
    (hsp : ∀ H : Hp, H tb = some (TabO tb) → SqL K H a (ns.map V.int) → sp [.ref a] H (fun v H' => v = .bl true ∧ H' tb = some (TabO tb)) fun _ _ _ => False)
    (hCX : ∀ H e s', CX [] H s₁ (fun _ _ _ => False) e s' → False) :
    codeAny (model P w) callerA (.call (.ref fa) ⟨[.ref a], []⟩) (fun r s' => r = .ok (.ret (.bool true)) ∧ OldK s₁.heap s'.heap ∧ s'.os = s₁.os ∧ AllBare s'.gens) s₁ := by
  have rv := vals_ints hi
  have lenV := hi.length
  have aT : a ≠ tb := fun z => by
    rw [z, hT] at ha
    have z' := congrArg Obj.data (Option.some.inj ha)
    cases z'
  have core : ∀ H : Hp, H tb = some (TabO tb) → (∀ b, H b = none ∨ b = tb ∨ ∃ o xs, H b = some (.frz o (.lst xs))) → SqL K H a (ns.map V.int) → HOk P w H s₁.heap → (∀ b, H b ≠ none → b = a ∨ b = tb) → (H a ≠ none → K.lookup a = none) →
      codeAny (model P w) callerA (.call (.ref fa) ⟨[.ref a], []⟩) (fun r s' => r = .ok (.ret (.bool true)) ∧ OldK s₁.heap s'.heap ∧ s'.os = s₁.os ∧ AllBare s'.gens) s₁ := by
    intro H hH hO hS hok hA hK
    have base_of : ∀ {b : Addr} {o : Obj}, s₁.heap.get? b = some o → H b = none → (hidT s₁.heap H).get? b = some o := fun e n => hidT_get e n
    have noD : ∀ {b : Addr} {o : Obj}, s₁.heap.get? b = some o → (∀ vs n, o.data ≠ .seq vs n) → o.data ≠ .fields #[] → H b = none := fun {b o} e h1 h2 => by
      cases q : H b with
      | none => rfl
      | some u =>
        rcases hA b (by rw [q]; simp) with e' | e'
        · rw [e', ha] at e
          cases e
          exact (h1 _ _ rfl).elim
        · rw [e', hT] at e
          cases e
          exact (h2 rfl).elim
    have noA : ∀ {b : Addr} {o : Obj} {es : Array DictEntry} {ep : Nat}, s₁.heap.get? b = some o → o.data = .dict es ep → H b = none := fun {b o es ep} e d =>
      noD e (fun vs n z => by rw [d] at z; cases z) fun z => by rw [d] at z; cases z
    have nsK : ∀ {b : Addr} {m : Str → Option Value}, s₁.heap.Ns b m → (hidT s₁.heap H).Ns b m := fun {b m} ⟨o, es, ep, e, d, r⟩ => ⟨o, es, ep, base_of e (noA e d), d, r⟩
    have hKb : K.In (hidT s₁.heap H) := fun b o e => base_of (KX b o e) (by
      cases q : H b with
      | none => rfl
      | some u =>
        rcases hA b (by rw [q]; simp) with e' | e'
        · rw [e'] at e q
          rw [hK (by rw [q]; simp)] at e
          cases e
        · rw [e', nT] at e
          cases e)
    have hM : L2.Mod K mg (hidT s₁.heap H) := ⟨hKb, nsK hns, ⟨mb, nsK hb, hbb⟩, let ⟨mc, h1, h2⟩ := hlim; ⟨mc, nsK h1, h2⟩⟩
    have TB : GxR.TabB (hidT s₁.heap H) mg c tb := by
      refine ⟨?_, ?_, fun z => ?_⟩
      · obtain ⟨o, us, file, tf, flags, tg, inF, text, tt, e1, r1, r2, r3, r4, r5, r6, r7, r8, hne⟩ := C
        refine ⟨o, us, file, tf, flags, tg, inF, text, tt, base_of e1 (noD e1 (fun vs n z => ?_) fun z => ?_), r1, r2, r3, r4, r5, r6, r7, r8, hne⟩
        · rw [r2] at z
          cases z
        · rw [r2] at z
          cases z
          simp at r3
      · obtain ⟨bm, ob, b1, b2, b3, b4, b5, b6⟩ := hbm
        have nG : bm ≠ mainGlobals := fun q => by
          obtain ⟨o, es, ep, e, hd, _⟩ := hns
          rw [q, e] at b3
          cases b3
          rw [hd] at b6
          cases b6
        have nP : bm ≠ tb := fun q => by
          rw [q, hT] at b3
          cases b3
          cases b6
        exact ⟨bm, ob, b1, b2, nG, nP, base_of b3 (noD b3 (fun vs n z => by rw [b6] at z; cases z) fun z => by rw [b6] at z; cases z), b4, b5, b6⟩
      · obtain ⟨o, es, ep, e, hd, _⟩ := hns
        rw [z, hT] at e
        cases e
        cases hd
    have e0 : Env0 P w K mg (hidT s₁.heap H) callerA [] s₁ H := ⟨rfl, hM, fun b o e => of_hidT e, Nat.le_of_eq (hidT_size _ _), trivial, fun b hb => absurd (show b ∈ ([] : List Addr) from hb) (by simp), hok, .of_eq hg⟩
    refine codeAny_mono ((F _ hKb (nsK hns) TB).run callerA [] s₁ H ⟨[.ref a], []⟩ [.ref a] [.ref a] _ _ hr e0 (hbind s₁ (.ref a)) (.cons rfl .nil) (hsp H hH hS)) fun r s' h => ?_
    cases r with
    | error e => exact (hCX H e s' h).elim
    | ok fl =>
      cases fl with
      | next => exact False.elim h
      | brk => exact False.elim h
      | cont => exact False.elim h
      | ret u =>
        obtain ⟨v, H', os, bare, un, hok', r', q⟩ := h
        obtain ⟨q', qT⟩ := q
        subst q'
        obtain rfl : u = Value.bool true := r'
        have key : ∀ b o, b ≠ tb → s₁.heap.get? b = some o → s'.heap.get? b = some o := fun b o nb e => by
          cases q : H b with
          | none => exact un.keep b o e q (by intro z; exact absurd (show b ∈ ([] : List Addr) from z) (by simp)) (by simp)
          | some u =>
            rcases hO b with z | z | ⟨ob, xs, z⟩
            · rw [q] at z; cases z
            · exact absurd z nb
            · have z2 := un.frzs b ob _ z
              obtain ⟨e1, _⟩ := hok b _ z
              obtain ⟨e2, _⟩ := hok' b _ z2
              rw [e] at e1; cases e1
              exact e2
        obtain ⟨more, hm, _⟩ := (hok' tb _ qT).1
        refine ⟨rfl, ⟨fun b o e => ?_, fun b o e => ?_⟩, os, bare⟩
        · by_cases hb : b = tb
          · rw [hb] at e ⊢
            rw [hT] at e
            cases e
            exact .inr (.inl ⟨(C.tab hT).isCodeTable, rfl, #[], more, rfl, by rw [Array.empty_append]; exact hm⟩)
          · exact .inl (key b o hb e)
        · by_cases hb : b = tb
          · rw [hb]
            exact ⟨_, hm⟩
          · exact ⟨o, key b o hb e⟩
  have okT : ∀ H : Hp, ObjOk P w H s₁.heap tb (TabO tb) := fun H => tabO_ok hT (show TriplesOk [] from trivial)
  cases hk : K.lookup a with
  | some o =>
    have e := KX a o hk
    rw [ha] at e
    cases e
    refine core (fun b => if b = tb then some (TabO tb) else none) (if_pos rfl) (fun b => ?_) (.inr ⟨_, vs.toArray, _, hk, rfl, rfl, rfl, by rw [List.size_toArray, lenV]; exact hl, by simpa using rv⟩) (fun b u z => ?_) (fun b z => ?_) fun z => absurd (show (if a = tb then some (TabO tb) else none) = none from if_neg aT) z
    · by_cases hb : b = tb
      · exact .inr (.inl hb)
      · exact .inl (if_neg hb)
    · by_cases hb : b = tb
      · have z' := (if_pos hb).symm.trans z
        cases z'
        rw [hb]
        exact okT _
      · have z' := (if_neg hb).symm.trans z
        cases z'
    · by_cases hb : b = tb
      · exact .inr hb
      · exact absurd (if_neg hb) z
  | none =>
    refine core (fun b => if b = a then some (.frz { cls := .type "list", data := .seq vs.toArray } (.lst (ns.map V.int))) else if b = tb then some (TabO tb) else none) ((if_neg (Ne.symm aT)).trans (if_pos rfl)) (fun b => ?_)
      (.inl (.inr ⟨{ cls := .type "list", data := .seq vs.toArray }, if_pos rfl⟩)) (fun b u z => ?_) (fun b z => ?_) fun _ => hk
    · by_cases hb : b = a
      · exact .inr (.inr ⟨_, _, if_pos hb⟩)
      · by_cases hb2 : b = tb
        · exact .inr (.inl hb2)
        · exact .inl ((if_neg hb).trans (if_neg hb2))
    · by_cases hb : b = a
      · have z' := (if_pos hb).symm.trans z
        cases z'
        rw [hb]
        exact ⟨ha, by rw [List.length_map]; exact hl, vs, _, rv, ha⟩
      · have z1 := (if_neg hb).symm.trans z
        by_cases hb2 : b = tb
        · have z' := (if_pos hb2).symm.trans z1
          cases z'
          rw [hb2]
          exact okT _
        · have z' := (if_neg hb2).symm.trans z1
          cases z'
    · by_cases hb : b = a
      · exact .inl hb
      · by_cases hb2 : b = tb
        · exact .inr hb2
        · exact absurd ((if_neg hb).trans (if_neg hb2)) z
/-- the table of the def nm is empty as yet -/
def TabOf (K : PySem.W.Frag) (mg : Str → Option Value) (nm : Str) (h : Heap) : Prop := ∀ (f c P : Addr) (o : Obj) (fd : FuncData) (e : Value) (dd : Option Addr) (vs : Array Value) (sl : Array (Option Value)), mg nm = some (.ref f) → K.lookup f = some o → o.data = .func fd → fd.code = .ref c →
  K.lookup c = some ⟨e, dd, .fields vs, sl⟩ → vs[11]? = some (.ref P) → h.get? P = some tab0
/-- what is known of the law's promise -/
def LawAtE (l : PySem.W.OpenLaw) (w : World) (K : PySem.W.Frag) (CX : CXT) (k n : Nat) (x : Str) (mg : Str → Option Value) (fa : Addr) (h : Heap) : Prop :=
  ∃ (fd : FuncData) (c tb : Addr) (sp : Sp), h.get? tb = some tab0 ∧ K.lookup tb = none ∧ PySem.W.codeHdIn K c tb = true ∧ (∀ (s : Shared) (u : Value), BindsTo s fd ⟨[u], []⟩ [(x, u)]) ∧
    (∀ (H : Hp) (a : Addr) (ns : List Int), ns.length ≤ n → H tb = some (TabO tb) → SqL K H a (ns.map V.int) → sp [.ref a] H (fun v H' => v = .bl true ∧ H' tb = some (TabO tb)) fun _ _ _ => False) ∧
    ∀ base : Heap, K.In base → base.Ns mainGlobals mg → GxR.TabB base mg c tb → FnOk l.prog w K mg base CX k fa fd [x] sp
theorem walk_ofE {l : PySem.W.OpenLaw} {n k : Nat} {q : Program} {loose : List Str} {XP : (Str → Option Value) → Heap → Prop} {YP : World → Heap → Prop} {d : DefRec} {K : Params → PySem.W.Frag} {CX : World → CXT} {x : Str} (nm : Str)
    (hn : l.most = some n) (hn2 : n ≤ sizeLine) (hdf : d.params.defaults = []) (hr : Room k callerA) (hrec : ((recsOf q).any fun e => e.name == nm) = true) (hY : ∀ (w : World) (h : Heap), YP w h → (K w.params).In h)
    (F : ∀ (w : World) (mg : Str → Option Value) (fa : Addr) (h : Heap), YP w h → (K w.params).In h → h.Ns mainGlobals mg → mg d.name = some (.ref fa) → TabOf (K w.params) mg nm h → LawAtE l w (K w.params) (CX w) k n x mg fa h)
    (hCX : ∀ (w : World) (H : Hp) (s : Shared) (e : Value) (s' : Shared), CX w [] H s (fun _ _ _ => False) e s' → False) :
    PySem.W.WalkO q loose XP YP l.row.toRowW d [] (fun f vs => PySem.call f vs) := by
  refine Att.attach_callB hn hdf fun w s₀ s₁ mg mb fa o pm cd doc a vs ns G Y ho hd hcd hmg hobj hints hlen hbits hg => ?_
  have KX := hY w _ Y
  have own : TabOf (K w.params) mg nm s₁.heap := fun f c P o1 fd1 e dd vs1 sl k0 k1 k2 k3 k4 k5 => by
    obtain ⟨dL, hm, hn1⟩ := List.any_eq_true.mp hrec
    have hn2 : dL.name = nm := beq_iff_eq.mp hn1
    obtain ⟨a', o', fd', c', P', h1, h2, h3, h4, h5, h6⟩ := G.T.tab dL hm
    rw [hn2, k0] at h1
    cases h1
    have g1 := KX _ _ k1
    rw [g1] at h2
    cases h2
    rw [k2] at h3
    cases h3
    rw [k3] at h4
    cases h4
    obtain ⟨⟨oc, vc, e1, _, e3, e4⟩, hP⟩ := h6
    have g2 := KX _ _ k4
    rw [g2] at e1
    cases e1
    cases e3
    rw [k5] at e4
    cases e4
    exact hP
  obtain ⟨fd, c, tb, sp, hT, nT, C, hb, hsp, hF⟩ := F w mg fa _ Y KX G.T.g hmg own
  exact law_callE KX G.T.g G.T.b G.T.builtins G.T.nolimit hg hT nT (PySem.W.codeHd_of_K KX C) G.T.bmain hobj hints (Nat.le_trans hlen hn2) hr hF hb (fun H hH hS => hsp H a ns hlen hH hS) fun H e s' => hCX w H s₁ e s'
end DpR
namespace Dp
open PySem PySem.Spec PyProof.Rows L2 DpR TL
/-! texts of picks -/
/-- the text of a thing -/
def wd (n : Nat) : Str := ((toString (n : Int) : String) : Str)
def isDg (c : Nat) : Bool := decide (48 ≤ c) && decide (c ≤ 57)
def valL (l : List Nat) : Int := l.foldl (fun (a : Int) (c : Nat) => 10 * a + ((c : Int) - 48)) 0
/-- the number that a word writes, -1 of what is none -/
def numL' (l : List Nat) : Int := if (l.length = 0 ∨ 3 < l.length) ∨ l.all isDg = false then -1 else if l.head? = some 48 ∧ l ≠ [48] then -1 else valL l
def numW (x : Str) : Int := numL' (tl x)
theorem num_wd : ∀ n, n < 200 → numW (wd n) = (n : Int) := by decide +kernel
theorem wd_dg : ∀ n, n < 200 → (tl (wd n)).all isDg = true ∧ tl (wd n) ≠ [] := by decide +kernel
theorem wd_len : ∀ n, n < 200 → (wd n).length ≤ 3 := by decide +kernel
theorem num1 : ∀ a, a < 10 → tl (wd a) = [48 + a] := by decide +kernel
theorem num2 : ∀ a, a < 10 → a ≠ 0 → ∀ b, b < 10 → tl (wd (10 * a + b)) = [48 + a, 48 + b] := by decide +kernel
theorem num3 : ∀ a, a < 2 → a ≠ 0 → ∀ b, b < 10 → ∀ c, c < 10 → tl (wd (100 * a + 10 * b + c)) = [48 + a, 48 + b, 48 + c] := by decide +kernel
theorem dg_ex {c : Nat} (h : isDg c = true) : ∃ a, a < 10 ∧ c = 48 + a := by
  unfold isDg at h
  rw [Bool.and_eq_true, decide_eq_true_eq, decide_eq_true_eq] at h
  exact ⟨c - 48, by omega, by omega⟩
/-- a word that writes a thing is the text of it -/
theorem wd_num {x : Str} {n : Nat} (h : numW x = (n : Int)) (hn : n < 200) : x = wd n := by
  refine ext_tl ?_
  unfold numW numL' at h
  by_cases c1 : ((tl x).length = 0 ∨ 3 < (tl x).length) ∨ (tl x).all isDg = false
  · rw [if_pos c1] at h; omega
  rw [if_neg c1] at h
  by_cases c2 : (tl x).head? = some 48 ∧ tl x ≠ [48]
  · rw [if_pos c2] at h; omega
  rw [if_neg c2] at h
  have c3 : (tl x).all isDg = true := by
    cases e : (tl x).all isDg with
    | true => rfl
    | false => exact absurd (Or.inr e) c1
  cases e : tl x with
  | nil => rw [e] at c1; exact absurd (Or.inl (Or.inl rfl)) c1
  | cons a l =>
    rw [e] at h c1 c2 c3
    rw [List.all_cons, Bool.and_eq_true] at c3
    obtain ⟨a', ha, rfl⟩ := dg_ex c3.1
    cases l with
    | nil =>
      have hv : (n : Int) = (a' : Int) := by rw [← h]; show 10 * (0 : Int) + (((48 + a' : Nat) : Int) - 48) = _; omega
      have : n = a' := by omega
      subst this
      exact (num1 n ha).symm
    | cons b l =>
      have a0 : a' ≠ 0 := fun z => c2 (by subst z; exact ⟨rfl, by simp⟩)
      have c4 := c3.2
      rw [List.all_cons, Bool.and_eq_true] at c4
      obtain ⟨b', hb, rfl⟩ := dg_ex c4.1
      cases l with
      | nil =>
        have hv : (n : Int) = 10 * (a' : Int) + (b' : Int) := by rw [← h]; show 10 * (10 * (0 : Int) + (((48 + a' : Nat) : Int) - 48)) + (((48 + b' : Nat) : Int) - 48) = _; omega
        have : n = 10 * a' + b' := by omega
        subst this
        exact (num2 a' ha a0 b' hb).symm
      | cons d l =>
        have c5 := c4.2
        rw [List.all_cons, Bool.and_eq_true] at c5
        obtain ⟨d', hd, rfl⟩ := dg_ex c5.1
        cases l with
        | nil =>
          have hv : (n : Int) = 100 * (a' : Int) + 10 * (b' : Int) + (d' : Int) := by
            rw [← h]; show 10 * (10 * (10 * (0 : Int) + (((48 + a' : Nat) : Int) - 48)) + (((48 + b' : Nat) : Int) - 48)) + (((48 + d' : Nat) : Int) - 48) = _; omega
          have : n = 100 * a' + 10 * b' + d' := by omega
          subst this
          exact (num3 a' (by omega) a0 b' hb d' hd).symm
        | cons g l => exact absurd (Or.inl (Or.inr (by simp))) c1
/-- what the word table tells of a word -/
def thingV (x : Str) : V := if 0 ≤ numW x ∧ numW x ≤ 199 then .int (numW x) else .non
theorem thing_wd {n : Nat} (h : n < 200) : thingV (wd n) = nv n := by
  unfold thingV
  rw [num_wd n h, if_pos (by omega)]
  rfl
theorem thing_no {x : Str} (h : ∀ n, n < 200 → x ≠ wd n) : thingV x = .non := by
  unfold thingV
  rw [if_neg]
  rintro ⟨h1, h2⟩
  exact h (numW x).toNat (by omega) (wd_num (by omega) (by omega))
/-- a text tells the pick ds -/
def Tells (t : Str) (ds : List Nat) : Prop := (t = "none" ∧ ds = []) ∨ (t ≠ "none" ∧ (Txt.split t " ").map thingV = asc ds ∧ Desc 200 ds)
/-- the text of the pick ds -/
def txt (ds : List Nat) : Str := if ds = [] then "none" else Txt.join " " (ds.reverse.map wd)
theorem txt_split {ds : List Nat} (h : Desc 200 ds) (n : ds ≠ []) : Txt.split (Txt.join " " (ds.reverse.map wd)) " " = ds.reverse.map wd := by
  refine split_join (s := 32) (S := []) rfl (by decide +kernel) (by simpa using n) fun p hp => ?_
  obtain ⟨t, ht, rfl⟩ := List.mem_map.mp hp
  have hd := (wd_dg t (h.mem t (List.mem_reverse.mp ht))).1
  intro z
  have := List.all_eq_true.mp hd 32 z
  exact absurd this (by decide)
theorem wd_sum : ∀ {l : List Nat}, (∀ t ∈ l, t < 200) → ((l.map wd).map (·.length)).sum ≤ 3 * l.length
  | [], _ => Nat.le_refl _
  | a :: l, h => by
    have h1 := wd_len a (h a List.mem_cons_self)
    have h2 := wd_sum (l := l) fun t ht => h t (List.mem_cons_of_mem _ ht)
    rw [List.map_cons, List.map_cons, List.sum_cons, List.length_cons]
    omega
theorem blank_len : ((" " : Str)).length = 1 := by decide +kernel
theorem wd_total {ds : List Nat} (h : Desc 200 ds) : ((ds.reverse.map wd).map (·.length)).sum + (ds.reverse.map wd).length * ((" " : Str)).length ≤ 800 := by
  have h1 := wd_sum (l := ds.reverse) fun t ht => h.mem t (List.mem_reverse.mp ht)
  have h2 := h.len
  rw [blank_len, List.length_map, Nat.mul_one]
  rw [List.length_reverse] at h1 ⊢
  omega
theorem join_ok {ds : List Nat} (h : Desc 200 ds) : JoinOk " " (ds.reverse.map wd) = true := joinOk_of (Nat.le_trans (wd_total h) (by decide))
/-- a text is short -/
theorem txt_len {ds : List Nat} (h : Desc 200 ds) : (txt ds).length ≤ 800 := by
  unfold txt
  split
  · decide +kernel
  · rw [join_eq]
    exact Nat.le_trans (PySem.StrLaws.join_length_le _ _) (wd_total h)
/-- a text that starts with a figure is not the word none -/
theorem txt_none {ds : List Nat} (h : Desc 200 ds) (n : ds ≠ []) : Txt.join " " (ds.reverse.map wd) ≠ "none" := fun e => by
  have hs := txt_split h n
  rw [e] at hs
  have h1 : Txt.split "none" " " = [("none" : Str)] := by decide +kernel
  rw [h1] at hs
  cases hr : ds.reverse with
  | nil => exact n (by simpa using hr)
  | cons t l =>
    rw [hr] at hs
    have ht : t < 200 := h.mem t (by have : t ∈ ds.reverse := by rw [hr]; exact List.mem_cons_self
                                     exact List.mem_reverse.mp this)
    have e2 : ("none" : Str) = wd t := by
      have := List.cons.inj hs
      exact this.1
    have := num_wd t ht
    rw [← e2] at this
    have e3 : numW "none" = -1 := by decide +kernel
    omega
/-- the text of a pick tells it -/
theorem tells_txt {ds : List Nat} (h : Desc 200 ds) : Tells (txt ds) ds := by
  by_cases n : ds = []
  · subst n
    exact .inl ⟨rfl, rfl⟩
  · have e : txt ds = Txt.join " " (ds.reverse.map wd) := if_neg n
    rw [e]
    refine .inr ⟨txt_none h n, ?_, h⟩
    rw [txt_split h n]
    unfold asc
    rw [List.map_map]
    refine List.map_congr_left fun t ht => thing_wd (h.mem t (List.mem_reverse.mp ht))
theorem Tells.inj {t : Str} {ds es : List Nat} (h : Tells t ds) (h' : Tells t es) : ds = es := by
  rcases h with ⟨a, b⟩ | ⟨a, b, _⟩ <;> rcases h' with ⟨c, d⟩ | ⟨c, d, _⟩
  · rw [b, d]
  · exact absurd a c
  · exact absurd c a
  · exact asc_inj (b.symm.trans d)
end Dp
namespace DpR
open PySem PySem.Spec PyProof.Rows L2
/-! a text joined over a generator expression over a row -/
section
variable {X : Cx}
def tJoinR (K : PySem.W.Frag) (P : Addr) (f : V → Str) (R : V → Hp → Prop) (to te : TE) : TE := fun σ H Q => to σ H fun v H1 => ∃ sep : Str, v = .str sep ∧ te σ H1 fun u H2 => ∃ a b xs, u = .ref a ∧ SqB b K H2 a xs ∧ H2 P = some (TabO P) ∧
  (∀ x ∈ xs, R x H2) ∧ JoinOk sep (xs.map f) = true ∧ xs.length ≤ sizeLine ∧ Q (.str (Txt.join sep (xs.map f))) H2
theorem pe_joinR {c P : Addr} {o elt iter : Expr} {x : Str} {px apos cpos gpos : Pos} {scope : Scope} {f : V → Str} {R : V → Hp → Prop} {to te : TE} {k : Nat}
    (hr : Room k X.A) (TB : GxR.TabB X.base X.mg c P) (hcode : X.env.code = .ref c) (S : GxR.GenS X.env scope x) (ho : PE X o to) (hi : PE X iter te)
    (hel : ∀ pins σ xs H1 s1 its, (∀ x ∈ xs, R x H1) → H1 P = some (TabO P) → Inv X pins σ H1 s1 → Vals xs its → EltG X P scope x elt s1 its (fun i y => ∃ z, xs[i]? = some z ∧ ∃ t, y = .str (f z) t))
    (hs : ∀ v, genFold iter X.env v = pure v) (hbase : attributeBase o "join" X.env (eval o X.env) = eval o X.env := by rfl)
    (hfew : ((backTo cpos (starEach [.GeneratorExp elt [⟨.Name x px, iter, [], 0⟩] scope gpos] X.env)).all (fun x => !x.1) && (backToKw cpos (keywordEach [] X.env)).all (fun x => x.1.isSome)
      && decide (([.GeneratorExp elt [⟨.Name x px, iter, [], 0⟩] scope gpos] : List Expr).length + ([] : List Keyword).length + (if ([] : List Keyword).isEmpty then 0 else 1) < 30)) = true := by rfl)
    (hline : (apos.endLine == cpos.line) = true := by rfl)
    (he : starEach [.GeneratorExp elt [⟨.Name x px, iter, [], 0⟩] scope gpos] X.env = (false, eval (.GeneratorExp elt [⟨.Name x px, iter, [], 0⟩] scope gpos) X.env) :: starEach [] X.env := by rfl)
    (hplain : (backTo cpos (starEach [] X.env)).any (·.1) = false := by rfl) :
    PE X (.Call (.Attribute o "join" apos) [.GeneratorExp elt [⟨.Name x px, iter, [], 0⟩] scope gpos] [] cpos) (tJoinR X.K P f R to te) := by
  refine ⟨fun pins s σ H Q I h => ?_⟩
  refine wpAny_Call_method_late hbase hfew hline rfl (thn (ho.run pins s σ H _ I h) fun v s1 ⟨x', H1, I1, r1, sep, ex, q1⟩ => ?_)
  subst ex
  obtain ⟨tk, rfl⟩ := (show ∃ t, v = Value.str sep t from r1)
  refine ⟨"str", _, PySem.F.plainAttrs_str, PySem.F.slot_str_join, PySem.F.type_str_join, typeIs_str _ _ _, (fun _ e => nomatch e), ?_⟩
  rw [he]
  refine Calls.callWith_builtin (by show (false || (backTo cpos (starEach [] X.env)).any (·.1)) = false; rw [hplain] <;> rfl) (Calls.evalArgs_plain ?_)
  show wpAny _ _ (spliced ((false, eval (.GeneratorExp elt [⟨.Name x px, iter, [], 0⟩] scope gpos) X.env) :: backTo cpos (starEach [] X.env))) _ _ s1
  refine Calls.spliced_cons (gen_row (F := fun xs i y => ∃ z, xs[i]? = some z ∧ ∃ t, y = .str (f z) t) (R := fun xs H1 => (∀ x ∈ xs, R x H1) ∧ JoinOk sep (xs.map f) = true ∧ xs.length ≤ sizeLine ∧ Q (.str (Txt.join sep (xs.map f))) H1) hr TB hcode S hi (fun xs H1 s1 its q hP I1 rv => hel pins σ xs H1 s1 its q.1 hP I1 rv) hs I1 q1 fun xs H2 g s5 hR hG => ?_)
  refine Calls.spliced_nil ?_
  obtain ⟨fp, wr, G, F', St, _, W, hst, hfp, hg, hT, hF, hinv⟩ := hG
  obtain ⟨_, jok, jl, jq⟩ := hR
  refine PySem.SC.joinGen W hT hst hfp hg (fun i v hv => ?_) (fun s' l hm hio => ?_) jl
  · obtain ⟨z, _, t, e⟩ := hF i v hv
    exact ⟨_, _, e⟩
  · have hl0 : l.length = xs.length := by
      have e0 := hio.1
      rw [List.size_toArray] at e0
      unfold strValues at e0
      rw [List.length_map] at e0
      exact e0
    have e : l.map (·.1) = xs.map f := by
      refine List.ext_getElem? fun j => ?_
      rw [List.getElem?_map, List.getElem?_map]
      cases hj : l[j]? with
      | none =>
        have : xs[j]? = none := by rw [List.getElem?_eq_none_iff] at hj ⊢; omega
        rw [this]; rfl
      | some p =>
        have hv : (strValues l).toArray[j]? = some (.str p.1 p.2) := by
          unfold strValues
          rw [List.getElem?_toArray, List.getElem?_map, hj]
          rfl
        obtain ⟨z, hz, t, e⟩ := hF j _ (hio.2 j _ hv)
        have e1 : p.1 = f z := by injection e
        rw [hz]
        show some p.1 = some (f z)
        rw [e1]
    rw [e]
    exact ⟨jok, fun t' kk => ⟨.str _, H2, (hinv s' hm).tok _, ⟨_, rfl⟩, jq⟩⟩
end
end DpR
namespace PySem
open Builtin Builtin.Str Builtin.Int
/-! a text with the first few of a written text put otherwise -/
namespace Txt
def replaceN (x y z : Str) (k : Int) : Str :=
  if ((occurrences x y 0 x.length (limitOf x k)).isEmpty || (y.length == 0 && z.length == 0)) = true then x
  else glued z (partsBetween x (occurrences x y 0 x.length (limitOf x k)) y.length)
end Txt
theorem replace4_tree (x y z : Str) (k : Int) (t u v c : Tok) (hk : (decide (k < -(2 ^ 63 : Int)) || decide (k ≥ 2 ^ 63)) = false) : «str.replace» ⟨[.str x t, .str y u, .str z v, .int k c], []⟩ =
    (if ((occurrences x y 0 x.length (limitOf x k)).isEmpty || (y.length == 0 && z.length == 0)) = true then (do rule "str.replace.nothing"; ret (.str x t)) else
      (do let same ← isSame (.str y u) (.str z v)
          if same = true then (do rule "str.replace.old-is-new"; ret (.str x t)) else
          if tooLong (x.length + (occurrences x y 0 x.length (limitOf x k)).length * z.length) = true then unsupported "str.replace:memory" else
          retStr (glued z (partsBetween x (occurrences x y 0 x.length (limitOf x k)) y.length)))) := by
  show (do let limit ← countLimit "str.replace" (some (.int k c)) (x.length + 1); _) = _
  rw [countLimit_int "str.replace" k c (x.length + 1) hk]
  rfl
theorem gives_str_replace4 (x y z : Str) (k : Int) (t u v c : Tok) (hk : (decide (k < -(2 ^ 63 : Int)) || decide (k ≥ 2 ^ 63)) = false)
    (hf : (u == 0 || v == 0) = false ∧ (u == v) = false ∧ (y == z) = false ∧ tooLong (x.length + (occurrences x y 0 x.length (limitOf x k)).length * z.length) = false) :
    Gives («str.replace» ⟨[.str x t, .str y u, .str z v, .int k c], []⟩) (if ((occurrences x y 0 x.length (limitOf x k)).isEmpty || (y.length == 0 && z.length == 0)) = true then .val (.str x t) else .str (glued z (partsBetween x (occurrences x y 0 x.length (limitOf x k)) y.length))) := by
  rw [replace4_tree x y z k t u v c hk]
  cases hc : ((occurrences x y 0 x.length (limitOf x k)).isEmpty || (y.length == 0 && z.length == 0))
  · obtain ⟨h0, huv, hyz, hl⟩ := hf
    rw [isSame_str_other y z u v h0 huv hyz, hl]
    exact .of_eq rfl
  · exact .rule (.of_eq rfl)
theorem partsFrom_len (x : Str) (w : Nat) : ∀ (cuts : List Nat) (a : Nat), ∀ p ∈ StrLaws.partsFrom x w a cuts, (∀ c ∈ p.cps.toList, c ∈ x.cps.toList) ∧ p.length ≤ x.length
  | [], a, p, h => by
    have h' : p ∈ [strSub x a x.length] := h
    rw [List.mem_singleton] at h'
    subst h'
    have e := TL.tl_strSub x a x.length
    refine ⟨fun c hc => ?_, ?_⟩
    · have hc' : c ∈ TL.tl (strSub x a x.length) := hc
      rw [e] at hc'
      exact List.mem_of_mem_drop (List.mem_of_mem_take hc')
    · have e2 := congrArg List.length e
      rw [List.length_take, List.length_drop, ← TL.len_tl, ← TL.len_tl] at e2
      omega
  | b :: r, a, p, h => by
    have h' : p ∈ strSub x a b :: StrLaws.partsFrom x w (b + w) r := h
    rcases List.mem_cons.mp h' with h' | h'
    · subst h'
      have e := TL.tl_strSub x a b
      refine ⟨fun c hc => ?_, ?_⟩
      · have hc' : c ∈ TL.tl (strSub x a b) := hc
        rw [e] at hc'
        exact List.mem_of_mem_drop (List.mem_of_mem_take hc')
      · have e2 := congrArg List.length e
        rw [List.length_take, List.length_drop, ← TL.len_tl, ← TL.len_tl] at e2
        omega
    · exact partsFrom_len x w r _ p h'
theorem glued_mem (z : Str) : ∀ (ps : List Str) (c : Nat), c ∈ (glued z ps).cps.toList → c ∈ z.cps.toList ∨ ∃ p ∈ ps, c ∈ p.cps.toList := by
  intro ps
  have key : ∀ (l : List Str) (acc : Array Nat) (c : Nat), c ∈ (l.foldl (fun acc p => acc ++ z.cps ++ p.cps) acc).toList → c ∈ acc.toList ∨ c ∈ z.cps.toList ∨ ∃ p ∈ l, c ∈ p.cps.toList := by
    intro l
    induction l with
    | nil => intro acc c h; exact .inl h
    | cons p l ih =>
      intro acc c h
      rcases ih _ c h with h | h | ⟨q, hq, h⟩
      · rw [Array.toList_append, Array.toList_append] at h
        rcases List.mem_append.mp h with h | h
        · rcases List.mem_append.mp h with h | h
          · exact .inl h
          · exact .inr (.inl h)
        · exact .inr (.inr ⟨p, List.mem_cons_self, h⟩)
      · exact .inr (.inl h)
      · exact .inr (.inr ⟨q, List.mem_cons_of_mem _ hq, h⟩)
  intro c h
  cases ps with
  | nil => exact absurd (show c ∈ ([] : List Nat) from h) (by simp)
  | cons p l =>
    rcases key l p.cps c h with h | h | ⟨q, hq, h⟩
    · exact .inr ⟨p, List.mem_cons_self, h⟩
    · exact .inl h
    · exact .inr ⟨q, List.mem_cons_of_mem _ hq, h⟩
theorem replaceN_mem (x y z : Str) (k : Int) : ∀ c ∈ (Txt.replaceN x y z k).cps.toList, c ∈ x.cps.toList ∨ c ∈ z.cps.toList := by
  intro c h
  unfold Txt.replaceN at h
  split at h
  · exact .inl h
  · rcases glued_mem z _ c h with h | ⟨p, hp, h⟩
    · exact .inr h
    · rw [StrLaws.partsBetween_eq] at hp
      exact .inl ((partsFrom_len x _ _ _ p hp).1 c h)
theorem replaceN_len (x y z : Str) : (Txt.replaceN x y z 1).length ≤ 2 * x.length + z.length := by
  unfold Txt.replaceN
  split
  · omega
  · have h1 : (occurrences x y 0 x.length (limitOf x 1)).length ≤ 1 := StrLaws.occ_length_le x y 0 x.length (limitOf x 1)
    have hl : ∀ p ∈ partsBetween x (occurrences x y 0 x.length (limitOf x 1)) y.length, p.length ≤ x.length := fun p hp => by
      rw [StrLaws.partsBetween_eq] at hp
      exact (partsFrom_len x _ _ _ p hp).2
    have hn := length_partsBetween x (occurrences x y 0 x.length (limitOf x 1)) y.length
    rw [size_glued]
    obtain ⟨ps, eps⟩ : ∃ ps, ps = partsBetween x (occurrences x y 0 x.length (limitOf x 1)) y.length := ⟨_, rfl⟩
    rw [← eps] at hl hn ⊢
    match ps, hl, hn with
    | [], _, _ => simp
    | [a], hl, _ =>
      have := hl a List.mem_cons_self
      simp
      omega
    | [a, b], hl, _ =>
      have h1 := hl a List.mem_cons_self
      have h2 := hl b (List.mem_cons_of_mem _ List.mem_cons_self)
      simp
      omega
    | a :: b :: c :: r, _, hn => simp at hn; omega
namespace SC
section
variable {prog : Program} {w : World} {A : Around} {E : Value → Shared → Prop} {s : Shared} {x y z : Str} {t u v c : Tok} {Q : Value → Shared → Prop}
theorem replace1 (hu : u ≠ 0) (hv : v ≠ 0) (huv : u ≠ v) (hyz : (y == z) = false) (hb : 2 * x.length + z.length ≤ 16777216)
    (hq : ∀ t' k, Q (.str (Txt.replaceN x y z 1) t') { s with toks := k }) : wpAny (model prog w) A (call (.builtin "str.replace") [.str x t, .str y u, .str z v, .int 1 c]) Q E s := by
  have e : (2 : Nat) ^ 24 = 16777216 := by decide
  have h1 : (occurrences x y 0 x.length (limitOf x 1)).length ≤ 1 := StrLaws.occ_length_le x y 0 x.length (limitOf x 1)
  have hl : tooLong (x.length + (occurrences x y 0 x.length (limitOf x 1)).length * z.length) = false := by
    have h2 : (occurrences x y 0 x.length (limitOf x 1)).length * z.length ≤ 1 * z.length := Nat.mul_le_mul_right _ h1
    unfold tooLong sizeLine
    exact decide_eq_false (by omega)
  refine call_gives F.slot_str_replace (typeIs_str _ _ _) F.entry_str_replace (F.args_str_replace_4 _ _ _ _)
    (gives_str_replace4 x y z 1 t u v c (by decide) ⟨by simp [hu, hv], by simp [huv], hyz, hl⟩) ?_
  have hq' := hq
  have hln := replaceN_len x y z
  unfold Txt.replaceN at hq' hln
  cases hc : ((occurrences x y 0 x.length (limitOf x 1)).isEmpty || (y.length == 0 && z.length == 0))
  · rw [hc] at hq' hln
    simp only [Bool.false_eq_true, if_false] at hq' hln ⊢
    exact ⟨by rw [sizeLine_eq]; omega, hq' _ _⟩
  · rw [hc] at hq'
    simp only [if_true] at hq' ⊢
    exact hq' t s.toks
end
end SC
end PySem
namespace DpR
open PySem PySem.Spec PyProof.Rows L2
section
variable {X : Cx}
def tReplC1 (to : TE) (y z : Str) : TE := fun σ H Q => to σ H fun v H1 => ∃ x, v = .str x ∧ 2 * x.length + z.length ≤ 16777216 ∧ Q (.str (Txt.replaceN x y z 1)) H1
theorem Call_method3 {prog : Program} {w : World} {A : Around} {E : Value → Shared → Prop} {s : Shared} {env : Env} {o e₁ e₂ e₃ : Expr} {name : Str} {apos pos : Pos} {Q : Value → Shared → Prop}
    (hbase : attributeBase o name env (eval o env) = eval o env) (hs : starEach [e₁, e₂, e₃] env = [(false, eval e₁ env), (false, eval e₂ env), (false, eval e₃ env)]) (hline : (apos.endLine == pos.line) = true)
    (h : wpAny (model prog w) A (eval o env) (fun ov s₁ => MethodOnS prog w A E name ov pos [(false, eval e₁ env), (false, eval e₂ env), (false, eval e₃ env)] Q s₁) E s) :
    wpAny (model prog w) A (eval (.Call (.Attribute o name apos) [e₁, e₂, e₃] [] pos) env) Q E s := by
  refine wpAny_Call_method_lateS hbase (by rw [hs]; rfl) hline ?_
  rw [hs]; exact h
theorem pet_replC1 {o : Expr} {to : TE} {y z : Str} {j k l : Nat} {c0 c1 c2 apos pos : Pos} (ho : PE X o to) (hyz : (y == z) = false := by decide)
    (hst : starEach [.Constant (.str y) j c0, .Constant (.str z) k c1, .Constant (.int 1) l c2] X.env = [(false, eval (.Constant (.str y) j c0) X.env), (false, eval (.Constant (.str z) k c1) X.env), (false, eval (.Constant (.int 1) l c2) X.env)] := by rfl)
    (hbase : attributeBase o "replace" X.env (eval o X.env) = eval o X.env := by rfl) (hline : (apos.endLine == pos.line) = true := by rfl) :
    PET X (.Call (.Attribute o "replace" apos) [.Constant (.str y) j c0, .Constant (.str z) k c1, .Constant (.int 1) l c2] [] pos) (tReplC1 to y z) := by
  intro pins s σ H Q h0 I h
  refine Call_method3 hbase hst hline (wpAny_mono (PySem.wpAny_toks (ho.run pins s σ H _ I h)) (fun v s1 q => ?_) fun _ _ z => z.2)
  obtain ⟨hk, v', H1, I1, r1, x, e1, hb, q⟩ := q
  subst e1
  obtain ⟨tx, e2⟩ := r1
  subst e2
  refine ⟨"str", _, PySem.F.plainAttrs_str, PySem.F.slot_str_replace, PySem.F.type_str_replace, typeIs_str _ _ _, (fun _ e => nomatch e), Calls.callWith_builtin rfl (Calls.evalArgs_plain (Calls.spliced_cons ?_))⟩
  refine Calls.Constant_str (Calls.spliced_cons (Calls.Constant_str (Calls.spliced_cons (wpAny_Constant_int (Calls.spliced_nil ?_)))))
  exact PySem.SC.replace1 (by show s1.toks ≠ 0; omega) (by show s1.toks + 1 ≠ 0; omega) (by show s1.toks ≠ s1.toks + 1; omega) hyz hb fun t' k => ⟨.str (Txt.replaceN x y z 1), H1, I1.tok k, ⟨t', rfl⟩, q⟩
/-! a token is out behind it -/
def PEO (X : Cx) (e : Expr) (t : TE) : Prop :=
  ∀ (pins : List (Addr × Obj)) (s : Shared) (σ : L2.St) (H : Hp) (Q : VK), Inv X pins σ H s → t σ H Q → wpAny (model X.prog X.w) X.A (eval e X.env) (fun v s' => 1 ≤ s'.toks ∧ EP X pins σ Q v s') X.xe s
theorem peo_int {i : Int} {j : Nat} {pos : Pos} : PEO X (.Constant (.int i) j pos) (tC (.int i)) := fun _ s _ H _ I h => wpAny_Constant_int ⟨by show 1 ≤ s.toks + 1; omega, .int i, H, I.tok _, ⟨_, rfl⟩, h⟩
/-- one more word ahead of a rule: what is evaluated in the front keeps the token -/
theorem peo_op {a b : Expr} {ta tb : TE} {op : Operator} {r : R2} {pos : Pos} (ho : OpR X (binaryOp op) r) (ha : PE X a ta) (hb : PEO X b tb) : PEO X (.BinOp a op b pos) (tOp r ta tb) := by
  intro pins s σ H Q I h
  refine wpAny_BinOp (thn (ha.run pins s σ H _ I h) fun v s1 ⟨x, H1, I1, r1, q1⟩ => ?_)
  refine thn (hb pins s1 σ H1 _ I1 q1) fun u s2 q => ?_
  obtain ⟨hk, y, H2, I2, r2, q2⟩ := q
  refine wpAny_mono (PySem.wpAny_toks (ho pins s2 σ H2 x y v u Q I2 r1 r2 q2)) (fun _ _ z => ⟨Nat.le_trans hk z.1, z.2⟩) fun _ _ z => z.2
/-- the first token is out behind the first row -/
theorem pss_tok {i : Nat} {x : Str} {e : Expr} {te : TE} {pos' pos : Pos} {rest : List Stmt} {u : TS} (hN : X.N.Nodup) (hi : X.N[i]? = some x) (hx : Loc X.env.scope x) (he : PEO X e te) (h2 : PSsT X rest u)
    (hs : swapsWith e (some (.Name x pos')) pos.line X.env = pure false := by rfl) (hf : X.fn x = true ∨ X.env.scope.names.lookup x = some .local := by first | exact .inl rfl | exact .inr rfl | assumption) :
    PSs X (.Assign [.Name x pos'] e pos :: rest) (tSeq (tAsg te (gName i)) u) := by
  refine ⟨fun pins s σ H D I h => ?_⟩
  refine wpAny_execs_cons (wpAny_Assign_Name (thn (he pins s σ H _ I h) fun v s1 q => ?_) hs)
  obtain ⟨hk, y, H1, I1, r1, q1⟩ := q
  refine wpAny_mono (PySem.wpAny_toks (store_ok (v := y) (u := v) (Q := fun _ s2 => Inv X pins (σ.set i (some y)) H1 s2) I1 hN hi hx r1 (fun _ I2 => I2) hf)) (fun _ s2 q => ?_) fun _ _ z => z.2
  exact h2 pins s2 _ H1 D (Nat.le_trans hk q.1) q.2 q1
theorem pet_ix {a b : Expr} {ta tb : TE} {pos : Pos} {r : R2} (hr : IxR X r) (ha : PET X a ta) (hb : PE X b tb) (hs : PlainIx b) : PET X (.Subscript a b pos) (tOp r ta tb) := by
  intro pins s σ H Q h0 I h
  refine Subscript_ ?_
  refine thn (ha pins s σ H _ h0 I h) fun v s1 ⟨x, H1, I1, r1, q1⟩ => ?_
  exact thn (hb.run pins s1 σ H1 _ I1 q1) fun u s2 ⟨y, H2, I2, r2, q2⟩ => hr a b pins s2 σ H2 x y v u Q I2 r1 r2 q2 (hs _ _)
/-! the same as structures, so that nothing unfolds them -/
structure QSs (X : Cx) (st : List Stmt) (t : TS) : Prop where
  p : PSsT X st t
structure QS (X : Cx) (st : Stmt) (t : TS) : Prop where
  p : PST X st t
structure QE (X : Cx) (e : Expr) (t : TE) : Prop where
  p : PET X e t
structure QA (X : Cx) (es : List Expr) (t : TA) : Prop where
  p : PAT X es t
structure QO (X : Cx) (e : Expr) (t : TE) : Prop where
  p : PEO X e t
theorem QSs.of {rest : List Stmt} {t : TS} (h : PSs X rest t) : QSs X rest t := ⟨PSsT.of h⟩
theorem QS.of {st : Stmt} {t : TS} (h : PS X st t) : QS X st t := ⟨PST.of h⟩
theorem QE.of {e : Expr} {t : TE} (h : PE X e t) : QE X e t := ⟨CwR.PET.of h⟩
theorem qss_cons {st : Stmt} {rest : List Stmt} {t u : TS} (h1 : QS X st t) (h2 : QSs X rest u) : QSs X (st :: rest) (tSeq t u) := ⟨psst_cons h1.p h2.p⟩
theorem qss_one {st : Stmt} {t : TS} (h : QS X st t) : QSs X [st] t := ⟨CwR.psst_one h.p⟩
theorem qs_if {c : Expr} {a b : List Stmt} {pos : Pos} {tc : TT} {t u : TS} (hc : PT X c tc) (ha : QSs X a t) (hb : QSs X b u) : QS X (.If c a b pos) (tIfS tc t u) := ⟨CwR.pst_if hc ha.p hb.p⟩
theorem qs_ret {e : Expr} {te : TE} {pos : Pos} (he : QE X e te) : QS X (.Return (some e) pos) (tRet te) := ⟨CwR.pst_ret he.p⟩
theorem qe_lst {es : List Expr} {ta : TA} {pos : Pos} (h : QA X es ta) : QE X (.List es pos) (tLst ta) := ⟨pet_lst h.p⟩
theorem qe_ix {a b : Expr} {ta tb : TE} {pos : Pos} {r : R2} (hr : IxR X r) (ha : QE X a ta) (hb : PE X b tb) (hs : PlainIx b) : QE X (.Subscript a b pos) (tOp r ta tb) := ⟨pet_ix hr ha.p hb hs⟩
theorem qa_nil : QA X [] tNil := ⟨pat_nil⟩
theorem qa_cons {e : Expr} {es : List Expr} {te : TE} {ta : TA} (ha : QE X e te) (hr : QA X es ta) (hs : starEach (e :: es) X.env = (false, eval e X.env) :: starEach es X.env := by rfl) : QA X (e :: es) (tCons te ta) := ⟨pat_cons ha.p hr.p hs⟩
theorem qe_replC1 {o : Expr} {to : TE} {y z : Str} {j k l : Nat} {c0 c1 c2 apos pos : Pos} (ho : PE X o to) (hyz : (y == z) = false)
    (hst : starEach [.Constant (.str y) j c0, .Constant (.str z) k c1, .Constant (.int 1) l c2] X.env = [(false, eval (.Constant (.str y) j c0) X.env), (false, eval (.Constant (.str z) k c1) X.env), (false, eval (.Constant (.int 1) l c2) X.env)] := by rfl)
    (hbase : attributeBase o "replace" X.env (eval o X.env) = eval o X.env := by rfl) (hline : (apos.endLine == pos.line) = true := by rfl) :
    QE X (.Call (.Attribute o "replace" apos) [.Constant (.str y) j c0, .Constant (.str z) k c1, .Constant (.int 1) l c2] [] pos) (tReplC1 to y z) := ⟨pet_replC1 ho hyz hst hbase hline⟩
theorem qo_int {i : Int} {j : Nat} {pos : Pos} : QO X (.Constant (.int i) j pos) (tC (.int i)) := ⟨peo_int⟩
theorem qo_op {a b : Expr} {ta tb : TE} {op : Operator} {r : R2} {pos : Pos} (ho : OpR X (binaryOp op) r) (ha : PE X a ta) (hb : QO X b tb) : QO X (.BinOp a op b pos) (tOp r ta tb) := ⟨peo_op ho ha hb.p⟩
theorem qss_tok {i : Nat} {x : Str} {e : Expr} {te : TE} {pos' pos : Pos} {rest : List Stmt} {u : TS} (hN : X.N.Nodup) (hi : X.N[i]? = some x) (hx : Loc X.env.scope x) (he : QO X e te) (h2 : QSs X rest u)
    (hs : swapsWith e (some (.Name x pos')) pos.line X.env = pure false := by rfl) (hf : X.fn x = true ∨ X.env.scope.names.lookup x = some .local := by first | exact .inl rfl | exact .inr rfl | assumption) :
    PSs X (.Assign [.Name x pos'] e pos :: rest) (tSeq (tAsg te (gName i)) u) := pss_tok hN hi hx he.p h2.p hs hf
end
end DpR
namespace Dp
open PySem PySem.Spec PyProof.Rows L2 DpR
def top (i : Nat) : Stmt := PySem.Challenge.pw_doorpicks_k13_written_and_read.main.body.getD i (.Pass ⟨0, 0, 0, 0⟩)
abbrev s_wall : Stmt := top 1
abbrev s_is_whole : Stmt := top 4
abbrev s_is_rising : Stmt := top 5
abbrev s_written : Stmt := top 15
abbrev s_read : Stmt := top 16
abbrev s_Picks_init : Stmt := inClass (top 18) 0
abbrev s_Picks_many : Stmt := inClass (top 18) 1
abbrev s_Picks_number : Stmt := inClass (top 18) 2
abbrev s_Picks_at : Stmt := inClass (top 18) 3
abbrev s_Picks_step : Stmt := inClass (top 18) 4
abbrev s_Picks_change : Stmt := inClass (top 18) 5
abbrev s_Picks_compared : Stmt := inClass (top 18) 6
abbrev s_Sets_init : Stmt := inClass (top 20) 0
abbrev s_Sets_many : Stmt := inClass (top 20) 1
abbrev s_Sets_number : Stmt := inClass (top 20) 2
abbrev s_Sets_at : Stmt := inClass (top 20) 3
abbrev s_Sets_step : Stmt := inClass (top 20) 4
abbrev s_Sets_change : Stmt := inClass (top 20) 5
abbrev s_law_mixed : Stmt := top 22
abbrev s_law_cell_at : Stmt := top 23
abbrev s_law_wide : Stmt := top 24
abbrev s_law_size : Stmt := top 25
abbrev s_law_kind : Stmt := top 26
abbrev s_law_done : Stmt := top 27
abbrev s_law_number_of : Stmt := top 28
abbrev s_law_due : Stmt := top 29
abbrev s_law_spoilt : Stmt := top 30
abbrev s_law : Stmt := top 31
/-! ### what the top has written of the program -/
structure ExT (K : PySem.W.Frag) (mg : Str → Option Value) (x : Str) (C : Addr) : Prop where
  g : mg x = some (.ref C)
  x : PySem.W.excIn K C [.type "ValueError", .type "Exception", .type "BaseException", .type "object"] "ValueError.__new__" = true
  kp : PySem.W.keepIn K (.ref C) = true
  b : PySem.W.subIn K (.ref C) (.type "BaseException") = some true
  t : PySem.W.typeIn K (.ref C) = some (.type "type")
structure GlbW (mg : Str → Option Value) : Prop where
  type : mg "type" = none
  int : mg "int" = none
  isinstance : mg "isinstance" = none
  tuple : mg "tuple" = none
  list : mg "list" = none
structure LIT (mg : Str → Option Value) : Prop where
  isinstance : mg "isinstance" = none
  tuple : mg "tuple" = none
structure GD (K : PySem.W.Frag) (mg : Str → Option Value) (x : Str) (st : Stmt) (ps : List Str) (f : Addr) (fd : FuncData) : Prop where
  F : Fun K x x st f fd
  b : Binds K fd ps []
  g : mg x = some (.ref f)
def spLaw (K : PySem.W.Frag) : Sp := fun vs H Q _ => ∃ (a : Addr) (ns : List Int), vs = [.ref a] ∧ SqL K H a (ns.map V.int) ∧ ns.length ≤ 63 ∧ ∀ H', Q (.bl true) H'
/-- a method stands, its arguments bind, it keeps its promise -/
def MtOk (P : Program) (w : World) (K : PySem.W.Frag) (mg : Str → Option Value) (base : Heap) (C : Addr) (x : Str) (ps : List Str) (l : Nat) (sp : Sp) : Prop :=
  ∃ f fd, Meth K C x f ∧ Binds K fd ("self" :: ps) [] ∧ FnOk P w K mg base (L2.CX P w) l f fd ("self" :: ps) sp
def HasM (P : Program) (w : World) (K : PySem.W.Frag) (mg : Str → Option Value) (base : Heap) (C : Addr) (x : Str) (ps : List Str) (l : Nat) (sp : Sp) : Prop := ∃ k, k ≤ l ∧ MtOk P w K mg base C x ps k sp
theorem same_new {H : Hp} {p : Addr} {o : HO} (h : H p = none) : Same H (upd H p o) := fun b u e => by rw [upd_ne (ne_of_none e h)]; exact e
/-! ### the promises -/
def spWhole : Sp := fun vs H Q _ => ∃ (x : V) (lo hi : Int), vs = [x, .int lo, .int hi] ∧ Dt H x ∧ Q (.bl (wholeV x lo hi)) H
/-- what is_rising tells -/
def risB (H : Hp) (x : V) (n : Int) (r : Bool) : Prop := (isRow H x → ∀ a b xs, x = .ref a → H a = some (rowO b xs) → r = risV n 0 xs) ∧ (¬ isRow H x → r = false)
def DtIn (H : Hp) (x : V) : Prop := Dt H x ∧ ∀ a b xs, x = .ref a → H a = some (rowO b xs) → ∀ y ∈ xs, Dt H y
def spRising : Sp := fun vs H Q _ => ∃ (x : V) (n : Int), vs = [x, .int n] ∧ DtIn H x ∧ ∀ (r : Bool) H', Same H H' → risB H x n r → Q (.bl r) H'
theorem whole_nat {x : V} {hi : Nat} (h : wholeV x 0 hi = true) : ∃ n : Nat, x = nv n ∧ n ≤ hi := by
  cases x with
  | int i =>
    have h' : (decide (0 ≤ i) && decide (i ≤ (hi : Int))) = true := h
    rw [Bool.and_eq_true, decide_eq_true_eq, decide_eq_true_eq] at h'
    refine ⟨i.toNat, ?_, by omega⟩
    show V.int i = V.int (i.toNat : Int)
    congr 1
    omega
  | _ => exact absurd (show false = true from h) Bool.false_ne_true
theorem whole_nv (n hi : Nat) : wholeV (nv n) 0 hi = decide (n ≤ hi) := by
  show (decide ((0 : Int) ≤ (n : Int)) && decide ((n : Int) ≤ (hi : Int))) = decide (n ≤ hi)
  rw [decide_eq_true (by omega : (0 : Int) ≤ (n : Int)), Bool.true_and]
  by_cases h : n ≤ hi
  · rw [decide_eq_true h, decide_eq_true (by omega)]
  · rw [decide_eq_false h, decide_eq_false (by omega)]
theorem nv_inj {a b : Nat} (h : nv a = nv b) : a = b := by
  have := V.int.inj h
  omega
theorem drop_more {ds : List Nat} {i : Nat} (h : i < ds.length) : ∃ t, ds.drop (ds.length - (i + 1)) = t :: ds.drop (ds.length - i) ∧ (asc ds)[i]? = some (nv t) := by
  have h2 : ds.length - (i + 1) < ds.length := by omega
  refine ⟨ds[ds.length - (i + 1)], ?_, ?_⟩
  · rw [List.drop_eq_getElem_cons h2]
    congr 2
    omega
  · unfold asc
    rw [List.getElem?_map, List.getElem?_reverse h]
    have e : ds.length - 1 - i = ds.length - (i + 1) := by omega
    rw [e, List.getElem?_eq_getElem h2]
    rfl
theorem un_zero (n : Nat) (p : Int) : un n 0 p = [] := by cases n <;> rfl
structure PkC (K : PySem.W.Frag) (C : Addr) : Prop where
  cl : Cls K C
  nT : NoAttr K C "things"
  nS : NoAttr K C "size"
/-! ### a Picks object -/
def pkF (n m : Nat) : List (Str × V) := putF "size" (nv m) (putF "things" (nv n) [])
theorem ts_ne : ¬ (("things" : Str) = "size") := by decide +kernel
theorem pkF_things (n m : Nat) : (pkF n m).lookup ("things" : Str) = some (nv n) := by
  unfold pkF
  rw [lookup_putF, if_neg ts_ne, lookup_putF, if_pos rfl]
theorem pkF_size (n m : Nat) : (pkF n m).lookup ("size" : Str) = some (nv m) := by
  unfold pkF
  rw [lookup_putF, if_pos rfl]
theorem pkF_no (n m : Nat) {x : Str} (h1 : ¬ x = "size") (h2 : ¬ x = "things") : (pkF n m).lookup x = none := by
  unfold pkF
  rw [lookup_putF, if_neg h1, lookup_putF, if_neg h2]
  all_goals rfl
structure PkAt (C : Addr) (H : Hp) (p : Addr) (n m : Nat) : Prop where
  ob : ∃ dx, H p = some (.ins C dx (pkF n m))
  n200 : n ≤ 200
  mn : m ≤ n
theorem PkAt.mono {C : Addr} {H H' : Hp} {p : Addr} {n m : Nat} (h : PkAt C H p n m) (s : Same H H') : PkAt C H' p n m :=
  ⟨let ⟨dx, e⟩ := h.ob; ⟨dx, s _ _ e⟩, h.n200, h.mn⟩
/-- one is the pick ds of m things out of n -/
def IsPk (H : Hp) (one : V) (n m : Nat) (ds : List Nat) : Prop := ∃ a b, one = .ref a ∧ H a = some (rowO b (asc ds)) ∧ Desc n ds ∧ ds.length = m
theorem IsPk.mono {H H' : Hp} {one : V} {n m : Nat} {ds : List Nat} (h : IsPk H one n m ds) (s : Same H H') : IsPk H' one n m ds :=
  let ⟨a, b, e, q, r⟩ := h; ⟨a, b, e, s _ _ q, r⟩
theorem IsPk.inj {H : Hp} {one : V} {n m : Nat} {ds ds' : List Nat} (h : IsPk H one n m ds) (h' : IsPk H one n m ds') : ds = ds' := by
  obtain ⟨a, b, rfl, q, _⟩ := h
  obtain ⟨a', b', e, q', _⟩ := h'
  cases e
  rw [q] at q'
  cases b <;> cases b' <;> first | exact asc_inj (HO.lst.inj (Option.some.inj q')) | exact asc_inj (HO.tup.inj (Option.some.inj q')) | cases q'
def spInit (C CB : Addr) : Sp := fun vs H Q E => ∃ (p dx : Addr) (x y : V), vs = [.ref p, x, y] ∧ H p = some (.ins C dx []) ∧ Dt H x ∧ Dt H y ∧
  (∀ n m : Nat, x = nv n → y = nv m → n ≤ 200 → m ≤ n → Q .non (upd H p (.ins C dx (pkF n m)))) ∧
  ((¬ ∃ n m : Nat, x = nv n ∧ y = nv m ∧ n ≤ 200 ∧ m ≤ n) → E (.ref CB) none H)
def spMany (C : Addr) : Sp := fun vs H Q _ => ∃ (p : Addr) (n m : Nat), vs = [.ref p] ∧ PkAt C H p n m ∧ Q (nv (ch n m)) H
def spNumber (C CP : Addr) : Sp := fun vs H Q E => ∃ (p : Addr) (n m : Nat) (one : V), vs = [.ref p, one] ∧ PkAt C H p n m ∧ DtIn H one ∧
  (∀ ds H', IsPk H one n m ds → Same H H' → Q (.int (rk ds)) H') ∧ (∀ H', (¬ ∃ ds, IsPk H one n m ds) → Same H H' → E (.ref CP) none H')
def spAt (C CN : Addr) : Sp := fun vs H Q E => ∃ (p : Addr) (n m : Nat) (x : V), vs = [.ref p, x] ∧ PkAt C H p n m ∧ Dt H x ∧
  (∀ i q H', x = .int i → 0 ≤ i → i < ch n m → Same H H' → H q = none → H' q = some (.tup (asc (un n m i))) → Q (.ref q) H') ∧
  ((¬ ∃ i, x = .int i ∧ 0 ≤ i ∧ i < ch n m) → E (.ref CN) none H)
def spStep (C CP : Addr) : Sp := fun vs H Q E => ∃ (p : Addr) (n m : Nat) (one : V) (by_ : Int), vs = [.ref p, one, .int by_] ∧ PkAt C H p n m ∧ DtIn H one ∧
  (∀ ds q H', IsPk H one n m ds → Same H H' → H q = none → H' q = some (.tup (asc (un n m ((rk ds + by_) % (ch n m : Int))))) → Q (.ref q) H') ∧ (∀ H', (¬ ∃ ds, IsPk H one n m ds) → Same H H' → E (.ref CP) none H')
/-- the pick behind ds, round the end -/
def nxt (n m : Nat) (ds : List Nat) : List Nat := un n m ((rk ds + 1) % (ch n m : Int))
theorem nxt_ex {n m : Nat} {ds : List Nat} (hd : Desc n ds) (hl : ds.length = m) (h0 : 0 < m) (h1 : m < n) : ∃ o i, Ex ds (nxt n m ds) o i := by
  have hpos : 1 ≤ ch n m := ch_pos (Nat.le_of_lt h1)
  have d0 := Int.emod_nonneg (rk ds + 1) (b := (ch n m : Int)) (by omega)
  have d1 := Int.emod_lt_of_pos (rk ds + 1) (b := (ch n m : Int)) (by omega)
  have ⟨a, b, c⟩ := un_spec m n _ d0 d1
  exact ex_step hd a hl b h0 h1 c
def spChange (C CP CC : Addr) : Sp := fun vs H Q E => ∃ (p : Addr) (n m : Nat) (one : V), vs = [.ref p, one] ∧ PkAt C H p n m ∧ DtIn H one ∧
  (∀ ds o i q H', IsPk H one n m ds → 0 < m → m < n → Ex ds (nxt n m ds) o i → Same H H' → H q = none → H' q = some (.tup [nv o, nv i]) → Q (.ref q) H') ∧
  (∀ H', (∃ ds, IsPk H one n m ds) → (m = 0 ∨ m = n) → Same H H' → E (.ref CC) none H') ∧ (∀ H', (¬ ∃ ds, IsPk H one n m ds) → Same H H' → E (.ref CP) none H')
theorem ch_one {n m : Nat} (h : m ≤ n) : (ch n m : Int) = 1 ↔ (m = 0 ∨ m = n) := by
  constructor
  · intro e
    by_cases h0 : m = 0
    · exact .inl h0
    · by_cases h1 : m = n
      · exact .inr h1
      · have := ch_two (n := n) (k := m) (by omega) (by omega)
        omega
  · rintro (e | e)
    · rw [e, ch_zero]; rfl
    · rw [e, ch_self]; rfl
def cmpI (a b : Int) : Int := if a < b then -1 else if b < a then 1 else 0
def spCompared (C CP : Addr) : Sp := fun vs H Q E => ∃ (p : Addr) (n m : Nat) (one other : V), vs = [.ref p, one, other] ∧ PkAt C H p n m ∧ DtIn H one ∧ DtIn H other ∧
  (∀ ds ds' H', IsPk H one n m ds → IsPk H other n m ds' → Same H H' → Q (.int (cmpI (rk ds) (rk ds'))) H') ∧ (∀ H', ¬ ((∃ ds, IsPk H one n m ds) ∧ ∃ ds, IsPk H other n m ds) → Same H H' → E (.ref CP) none H')
theorem DtIn.mono {H H' : Hp} {x : V} (h : DtIn H x) (s : Same H H') : DtIn H' x := by
  refine ⟨h.1.mono s, fun a b xs e ha y hy => ?_⟩
  subst e
  cases h.1 with
  | row b' xs' h' =>
    have h2 := s _ _ h'
    rw [ha] at h2
    have hh : H a = some (rowO b xs) := by rw [h', ← Option.some.inj h2]
    exact (h.2 a b xs rfl hh y hy).mono s
  | dic kvs h' =>
    have h2 := s _ _ h'
    rw [ha] at h2
    cases b <;> cases h2
theorem pk_back {H H' : Hp} {x : V} {n m : Nat} {ds : List Nat} (h : DtIn H x) (s : Same H H') (k : IsPk H' x n m ds) : IsPk H x n m ds := by
  obtain ⟨a, b, rfl, ha, hd, hl⟩ := k
  cases h.1 with
  | row b' xs' h' =>
    have h2 := s _ _ h'
    rw [ha] at h2
    exact ⟨a, b, rfl, by rw [h', ← Option.some.inj h2], hd, hl⟩
  | dic kvs h' =>
    have h2 := s _ _ h'
    rw [ha] at h2
    cases b <;> cases h2
theorem dtIn_pk {H : Hp} {one : V} {n m : Nat} {ds : List Nat} (h : IsPk H one n m ds) : DtIn H one := by
  obtain ⟨a, b, rfl, ha, _⟩ := h
  refine ⟨.row b _ ha, fun a' b' xs e ha' y hy => ?_⟩
  cases e
  rw [ha] at ha'
  have e : asc ds = xs := by
    cases b <;> cases b' <;> first | exact HO.lst.inj (Option.some.inj ha') | exact HO.tup.inj (Option.some.inj ha') | cases ha'
  rw [← e] at hy
  unfold asc at hy
  obtain ⟨t, _, rfl⟩ := List.mem_map.mp hy
  exact .int _
theorem pk_un {H : Hp} {q : Addr} {n m : Nat} {i : Int} (h : H q = some (.tup (asc (un n m i)))) (h0 : 0 ≤ i) (h1 : i < ch n m) : IsPk H (.ref q) n m (un n m i) :=
  let ⟨a, b, _⟩ := un_spec m n i h0 h1
  ⟨q, true, rfl, h, a, b⟩
theorem pk_made {C x dx : Addr} {H : Hp} {n m : Nat} (h1 : n ≤ 200) (h2 : m ≤ n) : PkAt C (upd (upd (upd H dx (.own x)) x (.ins C dx [])) x (.ins C dx (pkF n m))) x n m := ⟨⟨dx, upd_same⟩, h1, h2⟩
theorem same_made {C x dx : Addr} {H : Hp} {n m : Nat} (hx : H x = none) (hd : H dx = none) : Same H (upd (upd (upd H dx (.own x)) x (.ins C dx [])) x (.ins C dx (pkF n m))) := fun b o e => by
  have n1 : b ≠ x := ne_of_none e hx
  have n2 : b ≠ dx := ne_of_none e hd
  rw [upd_ne n1, upd_ne n1, upd_ne n2]
  exact e
/-- the class Picks: it makes its objects -/
structure PicksB (P : Program) (w : World) (K : PySem.W.Frag) (mg : Str → Option Value) (base : Heap) (C CB : Addr) (l : Nat) : Prop where
  T : PkC K C
  g : mg "Picks" = some (.ref C)
  made : ∃ f fd, Mk K C f ∧ Binds K fd ["self", "things", "size"] [] ∧ ∃ k, k ≤ l ∧ FnOk P w K mg base (L2.CX P w) k f fd ["self", "things", "size"] (spInit C CB)
/-! ### a Sets object, and what its methods promise -/
structure SkC (K : PySem.W.Frag) (C : Addr) : Prop where
  cl : Cls K C
  nT : NoAttr K C "things"
def skF (n : Nat) : List (Str × V) := putF "things" (nv n) []
theorem skF_things (n : Nat) : (skF n).lookup ("things" : Str) = some (nv n) := by
  unfold skF
  rw [lookup_putF, if_pos rfl]
theorem skF_no (n : Nat) {x : Str} (h2 : ¬ x = "things") : (skF n).lookup x = none := by
  unfold skF
  rw [lookup_putF, if_neg h2]
  all_goals rfl
structure SkAt (C : Addr) (H : Hp) (p : Addr) (n : Nat) : Prop where
  ob : ∃ dx, H p = some (.ins C dx (skF n))
  n200 : n ≤ 200
theorem SkAt.mono {C : Addr} {H H' : Hp} {p : Addr} {n : Nat} (h : SkAt C H p n) (s : Same H H') : SkAt C H' p n :=
  ⟨let ⟨dx, e⟩ := h.ob; ⟨dx, s _ _ e⟩, h.n200⟩
/-- one is the set ds of n things -/
def IsSet (H : Hp) (one : V) (n : Nat) (ds : List Nat) : Prop := ∃ a b, one = .ref a ∧ H a = some (rowO b (asc ds)) ∧ Desc n ds
theorem IsSet.mono {H H' : Hp} {one : V} {n : Nat} {ds : List Nat} (h : IsSet H one n ds) (s : Same H H') : IsSet H' one n ds :=
  let ⟨a, b, e, q, r⟩ := h; ⟨a, b, e, s _ _ q, r⟩
theorem IsSet.inj {H : Hp} {one : V} {n : Nat} {ds ds' : List Nat} (h : IsSet H one n ds) (h' : IsSet H one n ds') : ds = ds' := by
  obtain ⟨a, b, rfl, q, _⟩ := h
  obtain ⟨a', b', e, q', _⟩ := h'
  cases e
  rw [q] at q'
  cases b <;> cases b' <;> first | exact asc_inj (HO.lst.inj (Option.some.inj q')) | exact asc_inj (HO.tup.inj (Option.some.inj q')) | cases q'
/-- how many sets there are -/
def sN (n : Nat) : Int := ((2 ^ n : Nat) : Int)
theorem sN_pos (n : Nat) : 0 < sN n := by have := p2_pos n; unfold sN; omega
/-- the set so many steps on -/
def gst (n : Nat) (ds : List Nat) (b : Int) : List Nat := gu n ((gr ds + b) % sN n)
theorem gst_spec (n : Nat) (ds : List Nat) (b : Int) : Desc n (gst n ds b) ∧ gr (gst n ds b) = (gr ds + b) % sN n :=
  gu_spec n _ (Int.emod_nonneg _ (by have := sN_pos n; omega)) (Int.emod_lt_of_pos _ (sN_pos n))
def spSInit (C CB : Addr) : Sp := fun vs H Q E => ∃ (p dx : Addr) (x : V), vs = [.ref p, x] ∧ H p = some (.ins C dx []) ∧ Dt H x ∧
  (∀ n : Nat, x = nv n → n ≤ 200 → Q .non (upd H p (.ins C dx (skF n)))) ∧ ((¬ ∃ n : Nat, x = nv n ∧ n ≤ 200) → E (.ref CB) none H)
def spSMany (C : Addr) : Sp := fun vs H Q _ => ∃ (p : Addr) (n : Nat), vs = [.ref p] ∧ SkAt C H p n ∧ ∀ H', Same H H' → Q (.int (sN n)) H'
def spSNumber (C CP : Addr) : Sp := fun vs H Q E => ∃ (p : Addr) (n : Nat) (one : V), vs = [.ref p, one] ∧ SkAt C H p n ∧ DtIn H one ∧
  (∀ ds H', IsSet H one n ds → Same H H' → Q (.int (gr ds)) H') ∧ (∀ H', (¬ ∃ ds, IsSet H one n ds) → Same H H' → E (.ref CP) none H')
def spSAt (C CN : Addr) : Sp := fun vs H Q E => ∃ (p : Addr) (n : Nat) (x : V), vs = [.ref p, x] ∧ SkAt C H p n ∧ Dt H x ∧
  (∀ i q H', x = .int i → 0 ≤ i → i < sN n → Same H H' → H q = none → H' q = some (.tup (asc (gu n i))) → Q (.ref q) H') ∧
  (∀ H', (¬ ∃ i, x = .int i ∧ 0 ≤ i ∧ i < sN n) → Same H H' → E (.ref CN) none H')
def spSStep (C CP : Addr) : Sp := fun vs H Q E => ∃ (p : Addr) (n : Nat) (one : V) (by_ : Int), vs = [.ref p, one, .int by_] ∧ SkAt C H p n ∧ DtIn H one ∧
  (∀ ds q H', IsSet H one n ds → Same H H' → H q = none → H' q = some (.tup (asc (gst n ds by_))) → Q (.ref q) H') ∧ (∀ H', (¬ ∃ ds, IsSet H one n ds) → Same H H' → E (.ref CP) none H')
def spSChange (C CP CC : Addr) : Sp := fun vs H Q E => ∃ (p : Addr) (n : Nat) (one : V), vs = [.ref p, one] ∧ SkAt C H p n ∧ DtIn H one ∧
  (∀ ds t H', IsSet H one n ds → 0 < n → t < n → Tg ds (gst n ds 1) t → Same H H' → Q (nv t) H') ∧
  (∀ H', (∃ ds, IsSet H one n ds) → n = 0 → Same H H' → E (.ref CC) none H') ∧ (∀ H', (¬ ∃ ds, IsSet H one n ds) → Same H H' → E (.ref CP) none H')
theorem set_gu {H : Hp} {q : Addr} {n : Nat} {i : Int} (h : H q = some (.tup (asc (gu n i)))) (h0 : 0 ≤ i) (h1 : i < sN n) : IsSet H (.ref q) n (gu n i) :=
  let ⟨a, _⟩ := gu_spec n i h0 h1
  ⟨q, true, rfl, h, a⟩
theorem dtIn_set {H : Hp} {one : V} {n : Nat} {ds : List Nat} (h : IsSet H one n ds) : DtIn H one := by
  obtain ⟨a, b, rfl, ha, _⟩ := h
  refine ⟨.row b _ ha, fun a' b' xs e ha' y hy => ?_⟩
  cases e
  rw [ha] at ha'
  have e : asc ds = xs := by
    cases b <;> cases b' <;> first | exact HO.lst.inj (Option.some.inj ha') | exact HO.tup.inj (Option.some.inj ha') | cases ha'
  rw [← e] at hy
  unfold asc at hy
  obtain ⟨t, _, rfl⟩ := List.mem_map.mp hy
  exact .int _
theorem sk_made {C x dx : Addr} {H : Hp} {n : Nat} (h1 : n ≤ 200) : SkAt C (upd (upd (upd H dx (.own x)) x (.ins C dx [])) x (.ins C dx (skF n))) x n := ⟨⟨dx, upd_same⟩, h1⟩
theorem same_mk {C x dx : Addr} {H : Hp} {fs : List (Str × V)} (hx : H x = none) (hd : H dx = none) : Same H (upd (upd (upd H dx (.own x)) x (.ins C dx [])) x (.ins C dx fs)) := fun b o e => by
  have n1 : b ≠ x := ne_of_none e hx
  have n2 : b ≠ dx := ne_of_none e hd
  rw [upd_ne n1, upd_ne n1, upd_ne n2]
  exact e
/-- the class Sets: it makes its objects -/
structure SetsB (P : Program) (w : World) (K : PySem.W.Frag) (mg : Str → Option Value) (base : Heap) (C CB : Addr) (l : Nat) : Prop where
  T : SkC K C
  g : mg "Sets" = some (.ref C)
  made : ∃ f fd, Mk K C f ∧ Binds K fd ["self", "things"] [] ∧ ∃ k, k ≤ l ∧ FnOk P w K mg base (L2.CX P w) k f fd ["self", "things"] (spSInit C CB)
/-! ### texts: what written and read promise -/
def spWritten (CP tb : Addr) : Sp := fun vs H Q E => ∃ x, vs = [x] ∧ DtIn H x ∧ H tb = some (TabO tb) ∧ (∀ ds H', IsSet H x 200 ds → Same H H' → Q (.str (txt ds)) H') ∧ (∀ H', (¬ ∃ ds, IsSet H x 200 ds) → Same H H' → E (.ref CP) none H')
def spRead (CT : Addr) : Sp := fun vs H Q E => ∃ t : Str, vs = [.str t] ∧ t.length ≤ 5000 ∧ (∀ ds q H', Tells t ds → Same H H' → H' q = some (.tup (asc ds)) → Q (.ref q) H') ∧ (∀ H', (¬ ∃ ds, Tells t ds) → Same H H' → E (.ref CT) none H')
end Dp
namespace Dp
open PySem PySem.Spec PyProof.Rows L2 DpR
/-! ### what the law's own small defs tell -/
structure LG (mg : Str → Option Value) : Prop where
  len : mg "len" = none
  range : mg "range" = none
  min : mg "min" = none
  max : mg "max" = none
def Drawn (c : Int) : Prop := 0 ≤ c ∧ c < 2147483399
def spMixed : Sp := fun vs H Q _ => ∃ c k : Int, vs = [.int c, .int k] ∧ ∀ d, Drawn d → Q (.int d) H
def spCellAt (K : PySem.W.Frag) : Sp := fun vs H Q _ => ∃ (a : Addr) (ns : List Int) (k : Nat), vs = [.ref a, nv k] ∧ SqL K H a (ns.map V.int) ∧ ∀ d, Drawn d → Q (.int d) H
def spWide : Sp := fun vs H Q _ => ∃ c b : Int, vs = [.int c, .int b] ∧ 0 < b ∧ ∀ r, 0 ≤ r → r < b → Q (.int r) H
def spSize : Sp := fun vs H Q _ => ∃ c : Int, vs = [.int c] ∧ 0 ≤ c ∧ ∀ (n m : Nat) (p : Addr) H', n ≤ 200 → m ≤ n → Same H H' → H p = none → H' p = some (.tup [nv n, nv m]) → Q (.ref p) H'
structure GX (K : PySem.W.Frag) (mg : Str → Option Value) (f : Addr) (fd : FuncData) : Prop where
  F : Fun K "_law_mixed" "_law_mixed" s_law_mixed f fd
  b : Binds K fd ["_law_cell", "_law_k"] []
  g : mg "_law_mixed" = some (.ref f)
section
variable {P : Program} {w : World} {K : PySem.W.Frag} {mg : Str → Option Value} {base : Heap}
theorem scMixed : FnScope ["_law_cell", "_law_k", "_law_mix"] ["_law_cell", "_law_k"] (defScope s_law_mixed) := ⟨rfl, rfl, rfl, by decide +kernel, rfl, by decide +kernel, by decide +kernel⟩
theorem ok_mixed {f : Addr} {fd : FuncData} (F : Fun K "_law_mixed" "_law_mixed" s_law_mixed f fd) : FnOk P w K mg base CX0 1 f fd ["_law_cell", "_law_k"] spMixed := by
  refine F.ok scMixed (fun vs H Q E h => ?_) (fun cdv A outer s H vs Q E hr h => ?_)
  · obtain ⟨c, k, rfl, _⟩ := h
    rfl
  · obtain ⟨c, k, rfl, q⟩ := h
    refine ⟨_, pss_cons (ps_set (i := 2) scMixed.nd rfl (Or.inl rfl) (pe_op op_mod (pe_op op_mul (pe_op op_add (pe_op op_add (pv 0) (pe_op op_mul pe_int (pv 1))) pe_int) pe_int) pe_int))
      (pss_one (ps_ret (pe_op op_mod (pe_op op_add (pe_op op_mul (pv 2) (pv 2)) (pe_op op_mul pe_int (pv 2))) pe_int))), ?_⟩
    have h1 := Int.emod_nonneg ((c + 7919 * k + 11) * 48271) (b := 2147483647) (by decide)
    have h2 := Int.emod_lt_of_pos ((c + 7919 * k + 11) * 48271) (b := 2147483647) (by decide)
    refine ⟨_, rfl, _, rfl, _, _, rfl, rfl, .inl ⟨by decide, by decide⟩, _, _, rfl, rfl, _, _, rfl, rfl, _, _, rfl, rfl, .inr ⟨by decide, by decide⟩, _, _, rfl, rfl, (by show (0 : Int) < 2147483647; decide), ?_⟩
    refine ⟨_, rfl, _, rfl, _, _, rfl, rfl, .inl ⟨by omega, by omega⟩, _, rfl, _, _, rfl, rfl, .inl ⟨by decide, by decide⟩, _, _, rfl, rfl, _, _, rfl, rfl, (by show (0 : Int) < 2147483399; decide), ?_⟩
    exact q _ ⟨Int.emod_nonneg _ (by decide), Int.emod_lt_of_pos _ (by decide)⟩
theorem scCellAt : FnScope ["_law_script", "_law_k", "_law_cell"] ["_law_script", "_law_k"] (defScope s_law_cell_at) := ⟨rfl, rfl, rfl, by decide +kernel, rfl, by decide +kernel, by decide +kernel⟩
theorem ok_cellAt {f fX : Addr} {fd fdX : FuncData} (F : Fun K "_law_cell_at" "_law_cell_at" s_law_cell_at f fd) (L : LG mg) (X : GX K mg fX fdX) : FnOk P w K mg base CX0 2 f fd ["_law_script", "_law_k"] (spCellAt K) := by
  have GXk : FnOk P w K mg base CX0 1 fX fdX ["_law_cell", "_law_k"] spMixed := ok_mixed X.F
  refine F.ok scCellAt (fun vs H Q E h => ?_) (fun cdv A outer s H vs Q E hr h => ?_)
  · obtain ⟨a, ns, k, rfl, _⟩ := h
    rfl
  · obtain ⟨a, ns, k, rfl, hS, q⟩ := h
    refine ⟨_, pss_cons (ps_set (i := 2) scCellAt.nd rfl (Or.inl rfl) pe_int)
      (pss_cons (ps_if (pt_cmpR op_lt (pv 1) (pe_callB call_len_seq (by rfl) L.len PySem.boot_len (pa_cons (pv 0) pa_nil)) (nomark _)) (pss_one (ps_set (i := 2) scCellAt.nd rfl (Or.inl rfl) (pe_ix ix_list (pv 0) (pv 1) (fun _ _ => rfl)))) pss_nil)
      (pss_one (ps_ret (pe_call GXk hr rfl X.g X.F.kp X.b .nil pass0 (pa_cons (pv 2) (pa_cons (pe_op op_add pe_int (pv 1)) pa_nil)))))), ?_⟩
    refine ⟨_, rfl, _, rfl, a, _, rfl, .inl hS, _, _, rfl, rfl, _, rfl, ?_⟩
    by_cases c : k < (ns.map V.int).length
    · refine if_true_of (decide_eq_true (by omega)) ?_
      obtain ⟨z, hz⟩ : ∃ z, ns[k]? = some z := ⟨ns[k]'(by simpa using c), by simp⟩
      refine ⟨_, rfl, _, rfl, a, _, _, V.int z, rfl, rfl, hS, atI_nat (by rw [List.getElem?_map, hz]; rfl), ?_⟩
      exact ⟨_, rfl, _, rfl, _, _, rfl, rfl, _, _, rfl, q⟩
    · refine if_false_of (decide_eq_false (by omega)) ?_
      exact ⟨_, rfl, _, rfl, _, _, rfl, rfl, _, _, rfl, q⟩
end
section
variable {P : Program} {w : World} {K : PySem.W.Frag} {mg : Str → Option Value} {base : Heap}
theorem scWide : FnScope ["_law_cell", "_law_bound", "_law_found", "_law_k"] ["_law_cell", "_law_bound"] (defScope s_law_wide) := ⟨rfl, rfl, rfl, by decide +kernel, rfl, by decide +kernel, by decide +kernel⟩
theorem ok_wide {f fX : Addr} {fd fdX : FuncData} (F : Fun K "_law_wide" "_law_wide" s_law_wide f fd) (L : LG mg) (X : GX K mg fX fdX) : FnOk P w K mg base CX0 2 f fd ["_law_cell", "_law_bound"] spWide := by
  have GXk : FnOk P w K mg base CX0 1 fX fdX ["_law_cell", "_law_k"] spMixed := ok_mixed X.F
  refine F.ok scWide (fun vs H Q E h => ?_) (fun cdv A outer s H vs Q E hr h => ?_)
  · obtain ⟨c, b, rfl, _⟩ := h
    rfl
  · obtain ⟨c, b, rfl, hb, q⟩ := h
    refine ⟨_, pss_cons (ps_if (PW.pt (pw_or (pt_cmpR op_lt (pv 1) pe_int (nomark _)) (pw_or1 (pt_cmpR op_eq (pe_op op_mod (pv 0) pe_int) pe_int (nomark _))))) (pss_one (ps_ret pe_int)) pss_nil)
      (pss_cons (ps_if (pt_cmpR op_eq (pe_op op_mod (pv 0) pe_int) pe_int (nomark _)) (pss_one (ps_ret (pe_op op_sub (pv 1) pe_int))) pss_nil)
      (pss_cons (ps_set (i := 2) scWide.nd rfl (Or.inl rfl) pe_int)
      (pss_cons (ps_for PassesOwn.never rfl (pi_range1 rfl L.range (pa_cons pe_int pa_nil)) (pg_name (i := 3) scWide.nd rfl (Or.inl rfl))
        (pss_one (ps_set (i := 2) scWide.nd rfl (Or.inl rfl) (pe_op op_add (pe_op op_mul (pv 2) pe_int) (pe_call GXk hr rfl X.g X.F.kp X.b .nil pass0 (pa_cons (pv 0) (pa_cons (pe_op op_add pe_int (pv 3)) pa_nil)))))))
      (pss_one (ps_ret (pe_op op_mod (pv 2) (pv 1))))))), ?_⟩
    refine ⟨_, rfl, _, _, rfl, rfl, _, rfl, ?_⟩
    by_cases c1 : b < 2
    · exact if_true_of (decide_eq_true c1) (iteT (q 0 (Int.le_refl _) hb))
    · refine if_false_of (decide_eq_false c1) ?_
      refine ⟨_, rfl, _, _, rfl, rfl, (by show (0 : Int) < 9; decide), rfl, _, rfl, ?_⟩
      refine ite2 (fun _ => q 0 (Int.le_refl _) hb) (fun _ => ?_)
      refine ⟨_, rfl, _, _, rfl, rfl, (by show (0 : Int) < 9; decide), rfl, _, rfl, ?_⟩
      refine ite2 (fun _ => ?_) (fun _ => ?_)
      · exact ⟨_, rfl, _, _, rfl, rfl, q _ (by omega) (by omega)⟩
      · refine ⟨8, rfl, by decide, by decide, for_range (n := 8) (fun i σ H' => ∃ z v, σ = [some (.int c), some (.int b), some (.int z), v] ∧ H' = H) ⟨0, none, rfl, rfl⟩ ?_ ?_⟩
        · rintro i σ H1 hi ⟨z, v, rfl, rfl⟩
          refine ⟨_, rfl, _, _, rfl, rfl, .inr ⟨by decide, by decide⟩, _, rfl, _, rfl, _, _, rfl, rfl, _, _, rfl, fun d hd => ?_⟩
          exact ⟨_, _, rfl, rfl, _, _, rfl, rfl⟩
        · rintro σ H1 ⟨z, v, rfl, rfl⟩
          exact ⟨_, rfl, _, rfl, _, _, rfl, rfl, hb, q _ (Int.emod_nonneg _ (by omega)) (Int.emod_lt_of_pos _ hb)⟩
end
section
variable {P : Program} {w : World} {K : PySem.W.Frag} {mg : Str → Option Value} {base : Heap}
theorem scSize : FnScope ["_law_cell", "_law_things", "_law_sizes"] ["_law_cell"] (defScope s_law_size) := ⟨rfl, rfl, rfl, by decide +kernel, rfl, by decide +kernel, by decide +kernel⟩
theorem ok_size {f fX : Addr} {fd fdX : FuncData} (F : Fun K "_law_size" "_law_size" s_law_size f fd) (L : LG mg) (X : GX K mg fX fdX) : FnOk P w K mg base CX0 2 f fd ["_law_cell"] spSize := by
  have GXk : FnOk P w K mg base CX0 1 fX fdX ["_law_cell", "_law_k"] spMixed := ok_mixed X.F
  refine F.ok scSize (fun vs H Q E h => ?_) (fun cdv A outer s H vs Q E hr h => ?_)
  · obtain ⟨c, rfl, _⟩ := h
    rfl
  · obtain ⟨c, rfl, hc, q⟩ := h
    refine ⟨_, pss_cons (ps_set (i := 1) scSize.nd rfl (Or.inl rfl) (pe_ix ix_list (pe_lst (pa_cons (pe_op op_mod (pe_op op_fdiv (pv 0) pe_int) pe_int) (pa_cons (pe_op op_mod (pe_op op_fdiv (pv 0) pe_int) pe_int) (pa_cons (pe_op op_mod (pe_op op_fdiv (pv 0) pe_int) pe_int) (pa_cons pe_int (pa_cons pe_int pa_nil)))))) (pe_op op_mod (pv 0) pe_int) (fun _ _ => rfl)))
      (pss_cons (ps_set (i := 2) scSize.nd rfl (Or.inl rfl) (pe_lst (pa_cons (pe_op op_mod (pe_call GXk hr rfl X.g X.F.kp X.b .nil pass0 (pa_cons (pv 0) (pa_cons pe_int pa_nil))) (pe_op op_add (pv 1) pe_int))
        (pa_cons (pe_callB (call_min2 rfl) (by rfl) L.min (by decide +kernel) (pa_cons (pv 1) (pa_cons (pe_op op_mod (pe_call GXk hr rfl X.g X.F.kp X.b .nil pass0 (pa_cons (pv 0) (pa_cons pe_int pa_nil))) pe_int) pa_nil))) pa_nil))))
      (pss_cons (ps_set (i := 2) scSize.nd rfl (Or.inl rfl) (pe_op op_cat (pv 2) (pe_lst (pa_cons (pe_op op_fdiv (pv 1) pe_int) (pa_cons (pe_op op_sub (pv 1) (pe_op op_fdiv (pv 1) pe_int)) pa_nil)))))
      (pss_one (ps_ret (pe_tup (pa_cons (pv 1) (pa_cons (pe_ix ix_list (pv 2) (pe_op op_mod (pe_op op_fdiv (pe_call GXk hr rfl X.g X.F.kp X.b .nil pass0 (pa_cons (pv 0) (pa_cons pe_int pa_nil))) pe_int) pe_int) (fun _ _ => rfl)) pa_nil))))))), ?_⟩
    -- things
    refine ⟨_, rfl, _, _, rfl, rfl, ⟨by decide, by decide⟩, _, _, rfl, rfl, (by show (0 : Int) < 9; decide), _, rfl, _, _, rfl, rfl, ⟨by decide, by decide⟩, _, _, rfl, rfl, (by show (0 : Int) < 40; decide), _, rfl, _, _, rfl, rfl, ⟨by decide, by decide⟩, _, _, rfl, rfl, (by show (0 : Int) < 201; decide), (by show 5 ≤ sizeLine; decide), fun l1 hl1 => ?_⟩
    have s1 : Same H (upd H l1 (.lst [.int (c / 5 % 9), .int (c / 5 % 40), .int (c / 5 % 201), .int 200, .int 199])) := same_new hl1
    obtain ⟨v1, hv1, mv1⟩ := at_drawn [.int (c / 5 % 9), .int (c / 5 % 40), .int (c / 5 % 201), .int 200, .int 199] (i := c % 5) (Int.emod_nonneg _ (by decide)) (Int.emod_lt_of_pos _ (by decide))
    obtain ⟨n, rfl, hn⟩ : ∃ n : Nat, v1 = nv n ∧ n ≤ 200 := by
      have a1 := Int.emod_nonneg (c / 5) (b := 9) (by decide)
      have a2 := Int.emod_lt_of_pos (c / 5) (b := 9) (by decide)
      have b1 := Int.emod_nonneg (c / 5) (b := 40) (by decide)
      have b2 := Int.emod_lt_of_pos (c / 5) (b := 40) (by decide)
      have c1 := Int.emod_nonneg (c / 5) (b := 201) (by decide)
      have c2 := Int.emod_lt_of_pos (c / 5) (b := 201) (by decide)
      have mk : ∀ z : Int, 0 ≤ z → z ≤ 200 → ∃ n : Nat, V.int z = nv n ∧ n ≤ 200 := fun z h0 h1 => ⟨z.toNat, by show V.int z = V.int (z.toNat : Int); congr 1; omega, by omega⟩
      simp only [List.mem_cons, List.not_mem_nil, or_false] at mv1
      rcases mv1 with e | e | e | e | e
      · rw [e]; exact mk _ a1 (by omega)
      · rw [e]; exact mk _ b1 (by omega)
      · rw [e]; exact mk _ c1 (by omega)
      · rw [e]; exact mk _ (by omega) (by omega)
      · rw [e]; exact mk _ (by omega) (by omega)
    refine ⟨_, rfl, _, _, rfl, rfl, (by show (0 : Int) < 5; decide), l1, _, _, _, rfl, rfl, SqL.of upd_same, hv1, ?_⟩
    -- sizes
    refine ⟨_, rfl, _, _, rfl, fun d1 hd1 => ⟨_, rfl, _, _, rfl, rfl, _, _, rfl, rfl, (by show (0 : Int) < (n : Int) + 1; omega), ?_⟩⟩
    refine ⟨_, rfl, _, rfl, _, _, rfl, fun d2 hd2 => ⟨_, _, rfl, rfl, (by show (0 : Int) < 5; decide), _, _, rfl, (by show 2 ≤ sizeLine; decide), fun l2 hl2 => ?_⟩⟩
    have s2 := s1.trans (same_new (o := .lst [.int (d1 % ((n : Int) + 1)), .int (if d2 % 5 < (n : Int) then d2 % 5 else (n : Int))]) hl2)
    refine ⟨_, rfl, _, rfl, _, _, rfl, rfl, ⟨by decide, by decide⟩, _, rfl, _, rfl, _, _, rfl, rfl, ⟨by decide, by decide⟩, _, _, rfl, rfl, (by show 2 ≤ sizeLine; decide), fun l3 hl3 => ?_⟩
    have s3 := s2.trans (same_new (o := .lst [.int ((n : Int) / 2), .int ((n : Int) - (n : Int) / 40)]) hl3)
    refine ⟨l2, l3, _, _, rfl, rfl, Eq.trans (upd_ne (ne_of_none upd_same hl3)) upd_same, upd_same, (by show 4 ≤ sizeLine; decide), fun l4 hl4 => ?_⟩
    have s4 := s3.trans (same_new (o := .lst ([.int (d1 % ((n : Int) + 1)), .int (if d2 % 5 < (n : Int) then d2 % 5 else (n : Int))] ++ [.int ((n : Int) / 2), .int ((n : Int) - (n : Int) / 40)])) hl4)
    refine ⟨_, rfl, _, rfl, _, rfl, _, _, rfl, fun d3 hd3 => ⟨_, _, rfl, rfl, ⟨by decide, by decide⟩, _, _, rfl, rfl, (by show (0 : Int) < 4; decide), ?_⟩⟩
    obtain ⟨v2, hv2, mv2⟩ := at_drawn ([.int (d1 % ((n : Int) + 1)), .int (if d2 % 5 < (n : Int) then d2 % 5 else (n : Int))] ++ [.int ((n : Int) / 2), .int ((n : Int) - (n : Int) / 40)]) (i := d3 / 3 % 4) (Int.emod_nonneg _ (by decide)) (Int.emod_lt_of_pos _ (by decide))
    obtain ⟨m, rfl, hm⟩ : ∃ m : Nat, v2 = nv m ∧ m ≤ n := by
      have a1 := Int.emod_nonneg d1 (b := (n : Int) + 1) (by omega)
      have a2 := Int.emod_lt_of_pos d1 (b := (n : Int) + 1) (by omega)
      have b1 := Int.emod_nonneg d2 (b := 5) (by decide)
      have mk : ∀ z : Int, 0 ≤ z → z ≤ n → ∃ m : Nat, V.int z = nv m ∧ m ≤ n := fun z h0 h1 => ⟨z.toNat, by show V.int z = V.int (z.toNat : Int); congr 1; omega, by omega⟩
      simp only [List.cons_append, List.nil_append, List.mem_cons, List.not_mem_nil, or_false] at mv2
      rcases mv2 with e | e | e | e
      · rw [e]; exact mk _ a1 (by omega)
      · rw [e]
        refine mk _ ?_ ?_
        · split <;> omega
        · split <;> omega
      · rw [e]; exact mk _ (by omega) (by omega)
      · rw [e]; exact mk _ (by omega) (by omega)
    refine ⟨l4, _, _, _, rfl, rfl, SqL.of upd_same, hv2, (by show 2 ≤ sizeLine; decide), fun p hp => ?_⟩
    exact q n m p _ hn hm (s4.trans (same_new hp)) (s4.free hp) upd_same
end
/-! ### the law's _law_kind: which refusal it was -/
structure KindX (K : PySem.W.Frag) (CB CP CN CC CT D : Addr) (j : Nat) : Prop where
  ex : ExcC K D
  b0 : PySem.W.kitOne K (.ref D) (.ref CB) = some (decide (j = 0))
  b1 : PySem.W.kitOne K (.ref D) (.ref CP) = some (decide (j = 1))
  b2 : PySem.W.kitOne K (.ref D) (.ref CN) = some (decide (j = 2))
  b3 : PySem.W.kitOne K (.ref D) (.ref CC) = some (decide (j = 3))
  b4 : PySem.W.kitOne K (.ref D) (.ref CT) = some (decide (j = 4))
  ve : PySem.W.kitOne K (.ref D) (.type "ValueError") = some true
def kname : Nat → Str
  | 0 => "bounds"
  | 1 => "pick"
  | 2 => "number"
  | 3 => "change"
  | _ => "text"
structure KG (mg : Str → Option Value) (CB CP CN CC CT : Addr) : Prop where
  isinstance : mg "isinstance" = none
  ve : mg "ValueError" = none
  gB : mg "NoBounds" = some (.ref CB)
  gP : mg "NoPick" = some (.ref CP)
  gN : mg "NoNumber" = some (.ref CN)
  gC : mg "NoChange" = some (.ref CC)
  gT : mg "NoText" = some (.ref CT)
def spKind (K : PySem.W.Frag) (CB CP CN CC CT : Addr) : Sp := fun vs H Q _ => ∃ (a D : Addr) (j : Nat), vs = [.ref a] ∧ H a = some (ExD (.ref D) none a) ∧ KindX K CB CP CN CC CT D j ∧ j < 5 ∧ ∀ H', Same H H' → Q (.str (kname j)) H'
def marks (j : Nat) : List V := [.bl (decide (j = 0)), .bl (decide (j = 1)), .bl (decide (j = 2)), .bl (decide (j = 3)), .bl (decide (j = 4))]
theorem marks_count {j : Nat} (h : j < 5) : ((marks j).countP fun z => eqV z (.bl true)) = 1 := by
  match j, h with
  | 0, _ => decide
  | 1, _ => decide
  | 2, _ => decide
  | 3, _ => decide
  | 4, _ => decide
theorem marks_flat (j : Nat) : (marks j).all flatV = true := rfl
theorem marks_at {j : Nat} (h : j < 5) : (marks j)[j]? = some (.bl true) ∧ ∀ (m : Nat) (z : V), m < j → (marks j)[m]? = some z → eqV z (.bl true) = false := by
  match j, h with
  | 0, _ => exact ⟨rfl, fun m z hm => absurd hm (Nat.not_lt_zero _)⟩
  | 1, _ => exact ⟨rfl, fun m z hm e => by match m, hm, e with | 0, _, e => cases e; rfl⟩
  | 2, _ => exact ⟨rfl, fun m z hm e => by match m, hm, e with | 0, _, e => cases e; rfl | 1, _, e => cases e; rfl⟩
  | 3, _ => exact ⟨rfl, fun m z hm e => by match m, hm, e with | 0, _, e => cases e; rfl | 1, _, e => cases e; rfl | 2, _, e => cases e; rfl⟩
  | 4, _ => exact ⟨rfl, fun m z hm e => by match m, hm, e with | 0, _, e => cases e; rfl | 1, _, e => cases e; rfl | 2, _, e => cases e; rfl | 3, _, e => cases e; rfl⟩
theorem kname_at {j : Nat} (h : j < 5) : ([.str "bounds", .str "pick", .str "number", .str "change", .str "text"] : List V)[j]? = some (.str (kname j)) := by
  match j, h with
  | 0, _ => rfl
  | 1, _ => rfl
  | 2, _ => rfl
  | 3, _ => rfl
  | 4, _ => rfl
section
variable {P : Program} {w : World} {K : PySem.W.Frag} {mg : Str → Option Value} {base : Heap}
theorem scKind : FnScope ["_law_e", "_law_marks"] ["_law_e"] (defScope s_law_kind) := ⟨rfl, rfl, rfl, by decide +kernel, rfl, by decide +kernel, by decide +kernel⟩
theorem ok_kind {f CB CP CN CC CT : Addr} {fd : FuncData} (F : Fun K "_law_kind" "_law_kind" s_law_kind f fd) (G : KG mg CB CP CN CC CT) : FnOk P w K mg base CX0 1 f fd ["_law_e"] (spKind K CB CP CN CC CT) := by
  refine F.ok scKind (fun vs H Q E h => ?_) (fun cdv A outer s H vs Q E hr h => ?_)
  · obtain ⟨a, D, j, rfl, _⟩ := h
    rfl
  · obtain ⟨a, D, j, rfl, ha, kx, hj, q⟩ := h
    refine ⟨_, pss_cons (ps_set (i := 1) scKind.nd rfl (Or.inl rfl) (pe_lst (pa_cons (pe_callB call_isX (by rfl) G.isinstance (by decide +kernel) (pa_cons (pv 0) (pa_cons (pe_glob (v := .ref CB) (by rfl) G.gB rfl) pa_nil)))
          (pa_cons (pe_callB call_isX (by rfl) G.isinstance (by decide +kernel) (pa_cons (pv 0) (pa_cons (pe_glob (v := .ref CP) (by rfl) G.gP rfl) pa_nil)))
          (pa_cons (pe_callB call_isX (by rfl) G.isinstance (by decide +kernel) (pa_cons (pv 0) (pa_cons (pe_glob (v := .ref CN) (by rfl) G.gN rfl) pa_nil)))
          (pa_cons (pe_callB call_isX (by rfl) G.isinstance (by decide +kernel) (pa_cons (pv 0) (pa_cons (pe_glob (v := .ref CC) (by rfl) G.gC rfl) pa_nil))) pa_nil))))))
      (pss_cons (ps_expr (pe_bm PySem.F.plainAttrs_list PySem.F.slot_list_append PySem.F.type_list_append mt_append (pv 1) (pa_cons (pe_callB call_isX (by rfl) G.isinstance (by decide +kernel) (pa_cons (pv 0) (pa_cons (pe_glob (v := .ref CT) (by rfl) G.gT rfl) pa_nil))) pa_nil)))
      (pss_cons (ps_if (PW.pt (pw_or (pt_cmpR op_ne (pe_bm PySem.F.plainAttrs_list PySem.F.slot_list_count PySem.F.type_list_count mt_countF (pv 1) (pa_cons pe_bl pa_nil)) pe_int (nomark _))
          (pw_or1 (pt_not (pt_val (pe_callB call_isX (by rfl) G.isinstance (by decide +kernel) (pa_cons (pv 0) (pa_cons (pe_bltn (v := .ty "ValueError") (by rfl) G.ve (by decide +kernel) rfl) pa_nil)))))))) (pss_one (ps_ret pe_str)) pss_nil)
      (pss_one (ps_ret (pe_ix ix_list (pe_lst (pa_cons pe_str (pa_cons pe_str (pa_cons pe_str (pa_cons pe_str (pa_cons pe_str pa_nil)))))) (pe_bm PySem.F.plainAttrs_list PySem.F.slot_list_index PySem.F.type_list_index mt_index (pv 1) (pa_cons pe_bl pa_nil)) (fun _ _ => rfl)))))), ?_⟩
    refine ⟨_, rfl, a, D, _, _, _, rfl, ha, kx.ex, .own CB, kx.b0, _, rfl, a, D, _, _, _, rfl, ha, kx.ex, .own CP, kx.b1, _, rfl, a, D, _, _, _, rfl, ha, kx.ex, .own CN, kx.b2, _, rfl, a, D, _, _, _, rfl, ha, kx.ex, .own CC, kx.b3, (by show 4 ≤ sizeLine; decide), fun l hl => ?_⟩
    have s1 : Same H (upd H l (.lst [.bl (decide (j = 0)), .bl (decide (j = 1)), .bl (decide (j = 2)), .bl (decide (j = 3))])) := same_new hl
    have nal : a ≠ l := ne_of_none ha hl
    refine ⟨_, rfl, .inl ⟨rfl, _, SqL.of upd_same⟩, _, rfl, a, D, _, _, _, rfl, s1 _ _ ha, kx.ex, .own CT, kx.b4, l, _, _, rfl, rfl, upd_same, (by show 4 < sizeLine; decide), ?_⟩
    have s2 : Same H (upd (upd H l (.lst [.bl (decide (j = 0)), .bl (decide (j = 1)), .bl (decide (j = 2)), .bl (decide (j = 3))])) l (.lst (marks j))) := fun b o e => by
      have nb : b ≠ l := ne_of_none e hl
      rw [upd_ne nb, upd_ne nb]; exact e
    obtain ⟨H2, e2⟩ : ∃ H2, H2 = upd (upd H l (.lst [.bl (decide (j = 0)), .bl (decide (j = 1)), .bl (decide (j = 2)), .bl (decide (j = 3))])) l (.lst (marks j)) := ⟨_, rfl⟩
    have hl2 : H2 l = some (.lst (marks j)) := by rw [e2]; exact upd_same
    rw [← e2] at s2
    have goalH : ∀ (X : Hp → Prop), X H2 → X (upd (upd H l (.lst [.bl (decide (j = 0)), .bl (decide (j = 1)), .bl (decide (j = 2)), .bl (decide (j = 3))])) l (.lst ([.bl (decide (j = 0)), .bl (decide (j = 1)), .bl (decide (j = 2)), .bl (decide (j = 3))] ++ [.bl (decide (j = 4))]))) := fun X h => by rw [e2] at h; exact h
    refine goalH (fun Hx => _) ?_
    refine ⟨_, rfl, .inl ⟨rfl, _, SqL.of hl2⟩, l, marks j, .bl true, rfl, rfl, SqL.of hl2, rfl, marks_flat j, ?_⟩
    rw [marks_count hj]
    refine ⟨rfl, _, rfl, ?_⟩
    refine iteNS rfl ?_
    refine ⟨_, rfl, a, D, _, _, _, rfl, s2 _ _ ha, kx.ex, .ty _, kx.ve, _, rfl, ?_⟩
    refine iteF ?_
    have ⟨at1, at2⟩ := marks_at hj
    refine ⟨(by show 5 ≤ sizeLine; decide), fun l5 hl5 => ?_⟩
    have s5 := s2.trans (same_new (o := .lst [.str "bounds", .str "pick", .str "number", .str "change", .str "text"]) hl5)
    refine ⟨_, rfl, .inl ⟨rfl, _, SqL.of ((upd_ne (ne_of_none hl2 hl5)).trans hl2)⟩, l, marks j, .bl true, j, .bl true, rfl, rfl, SqL.of ((upd_ne (ne_of_none hl2 hl5)).trans hl2), rfl, marks_flat j, at1, rfl, at2, ?_⟩
    exact ⟨l5, _, _, _, rfl, rfl, SqL.of upd_same, at_of (j := j) rfl (kname_at hj), q _ s5⟩
end
structure PeX (K : PySem.W.Frag) (mg : Str → Option Value) (PE : Addr) : Prop where
  g : mg "PickError" = some (.ref PE)
  b : PySem.W.subIn K (.ref PE) (.type "BaseException") = some true
  d : PySem.W.hasDictIn K PE = true
  t : PySem.W.typeIn K (.ref PE) = some (.type "type")
structure GK (K : PySem.W.Frag) (mg : Str → Option Value) (f : Addr) (fd : FuncData) : Prop where
  F : Fun K "_law_kind" "_law_kind" s_law_kind f fd
  b : Binds K fd ["_law_e"] []
  g : mg "_law_kind" = some (.ref f)
/-! ### a statement, and what holds behind it -/
def tCut (t : TS) : TS := fun D σ H => ∃ J : L2.St → Hp → Prop, t { nx := J, rt := D.rt, bk := D.bk, ct := D.ct } σ H ∧ ∀ σ' H', J σ' H' → D.nx σ' H'
theorem ps_cut {X : Cx} {st : Stmt} {t : TS} (h : PS X st t) : PS X st (tCut t) := by
  refine ⟨fun pins s σ H D I hh => ?_⟩
  obtain ⟨J, h1, h2⟩ := hh
  refine thn (h.run pins s σ H _ I h1) fun f s1 q => ?_
  cases f with
  | next => exact let ⟨σ', H', I', j⟩ := q; ⟨σ', H', I', h2 σ' H' j⟩
  | ret v => exact q
  | brk => exact q
  | cont => exact q
end Dp
namespace Dp
open PySem PySem.Spec PyProof.Rows L2 DpR
/-! ### written and read: the law's own tries, of a def that is held in a parameter -/
def tCallLE (i : Nat) (f : Addr) (sp : Sp) (E : L2.St → XK) (t : TA) : TE := fun σ H Q => σ[i]? = some (some (.ref f)) ∧ t σ H fun vs H1 => sp vs H1 Q (E σ)
theorem pe_callLE {X : Cx} {CX : CXT} {k i : Nat} {f : Addr} {fd : FuncData} {ps : List Str} {sp : Sp} {E : L2.St → XK} {x : Str} {p pos : Pos} {e : Expr} {es : List Expr} {t : TA} (F : FnOk X.prog X.w X.K X.mg X.base CX k f fd ps sp) (hr : Room k X.A) (hN : X.N[i]? = some x) (hv : Vis X.env.scope x)
    (hk : PySem.W.keepIn X.K (.ref f) = true) (hb : Binds X.K fd ps []) (hx : ∀ σ, PassesAt CX X σ (E σ)) (ha : PA X (e :: es) t)
    (hdb : (x == ("__debug__" : Str)) = false := by decide) (hcd : (x == ("__classdict__" : Str)) = false := by decide)
    (he : starEach (e :: es) X.env = (false, eval e X.env) :: starEach es X.env := by rfl) (hpl : (backTo pos (starEach es X.env)).any (·.1) = false := by rfl) : PE X (.Call (.Name x p) (e :: es) [] pos) (tCallLE i f sp E t) := by
  refine ⟨fun pins s σ H Q I h => ?_⟩
  obtain ⟨hs, ht⟩ := h
  refine wpAny_Call_Name_kw (thn ((pe_var (pos := p) hN hv hdb hcd).run pins s σ H (fun v H1 => v = .ref f ∧ H1 = H) I ⟨.ref f, hs, rfl, rfl⟩) fun u s1 ⟨v, H1, I1, r1, q1⟩ => ?_)
  obtain ⟨rfl, rfl⟩ := q1
  cases r1
  refine PySem.W.callWith_K (h₀ := X.base) I.ok.mod.kin hk (thn (ha.run pos pins s1 σ _ _ I1 ht) fun us s2 ⟨vs, H2, I2, r, q⟩ => ⟨I2.kIn, ?_⟩) he hpl
  exact run_fnS F hr hb (hx σ) I2 r q
/-- what _law_done tells: ("told", what the work told), or the name of its refusal -/
def spDone (K : PySem.W.Frag) (f CB CP CN CC CT PE : Addr) (sp : Sp) : Sp := fun vs H Q _ => ∃ arg : V, vs = [.ref f, arg] ∧
  ∀ (Q2 : VK) (E2 : XK), (∀ v H1, (∀ p H2, Same H1 H2 → H2 p = some (.tup [.str "told", v]) → Q (.ref p) H2) → Q2 v H1) → (∀ (D : Addr) (j : Nat) H1, KindX K CB CP CN CC CT D j → j < 5 → PySem.W.subIn K (.ref D) (.ref PE) = some true → (∀ H2, Same H1 H2 → Q (.str (kname j)) H2) → E2 (.ref D) none H1) → sp [arg] H Q2 E2
section
variable {P : Program} {w : World} {K : PySem.W.Frag} {mg : Str → Option Value} {base : Heap}
theorem scDone : FnScope ["_law_work", "_law_thing", "_law_found", "_law_error", "_law_e"] ["_law_work", "_law_thing"] (defScope s_law_done) := ⟨rfl, rfl, rfl, by decide +kernel, rfl, by decide +kernel, by decide +kernel⟩
theorem ok_done {f fK fA CB CP CN CC CT PE : Addr} {fd fdK fdA : FuncData} {l lA : Nat} {x : Str} {sp : Sp} (F : Fun K "_law_done" "_law_done" s_law_done f fd) (Kd : GK K mg fK fdK) (G : KG mg CB CP CN CC CT) (pe : PeX K mg PE)
    (kA : FnOk P w K mg base (L2.CX P w) lA fA fdA [x] sp) (kpA : PySem.W.keepIn K (.ref fA) = true) (bA : Binds K fdA [x] []) (hA : lA ≤ l) (h1 : 1 ≤ l) : FnOk P w K mg base CX0 (l + 1) f fd ["_law_work", "_law_thing"] (spDone K fA CB CP CN CC CT PE sp) := by
  have GKk : FnOk P w K mg base CX0 1 fK fdK ["_law_e"] (spKind K CB CP CN CC CT) := ok_kind Kd.F G
  refine F.ok scDone (fun vs H Q E h => ?_) (fun cdv A outer s H vs Q E hr h => ?_)
  · obtain ⟨y, rfl, _⟩ := h
    rfl
  · obtain ⟨y, rfl, k⟩ := h
    refine ⟨_, pss_cons (ps_set (i := 2) scDone.nd rfl (Or.inl rfl) pe_non)
      (pss_cons (ps_set (i := 3) scDone.nd rfl (Or.inl rfl) pe_non)
      (pss_cons (ps_tryT (i := 4) (tb := fun W => tAsg (tCallLE 0 fA sp (WE W) (tCons (tVar 1) tNil)) (gName 2)) (ts := fun _ => tAsg (tVar 4) (gName 3)) (Wout := fun _ _ _ _ => False) rfl rfl rfl scDone.nd rfl rfl ⟨rfl, by decide, .inl pe.g⟩ takes0
          (fun W pn xe tk _ => pss_one (ps_set (i := 2) scDone.nd rfl (Or.inl rfl) (by exact pe_callLE kA (hr.mono hA) rfl (.inl rfl) kpA bA (fun σ => passAt tk σ) (pa_cons (pv 1) pa_nil))))
          (fun a pn => pss_one (ps_set (i := 3) scDone.nd rfl (Or.inl rfl) (by exact pv 4))))
      (pss_cons (ps_if (pt_cmp (pc_notN (pv 3))) (pss_one (ps_ret (pe_call GKk (hr.mono h1) rfl Kd.g Kd.F.kp Kd.b .nil pass0 (pa_cons (pv 3) pa_nil)))) pss_nil)
      (pss_one (ps_ret (pe_tup (pa_cons pe_str (pa_cons (pv 2) pa_nil)))))))), ?_⟩
    refine ⟨rfl, _, rfl, k _ _ (fun v H1 q => ?_) (fun D j H1 kx hj sN q => ?_)⟩
    · refine ⟨_, rfl, _, rfl, ?_⟩
      refine iteNS rfl ?_
      exact ⟨_, rfl, (by show 2 ≤ sizeLine; decide), fun p hp => q p _ (same_new hp) upd_same⟩
    · refine ⟨true, PySem.W.exm_ref pe.b pe.d pe.t sN, fun _ a na => ?_, fun z => (nomatch z)⟩
      refine ⟨_, rfl, ?_⟩
      refine ⟨_, rfl, _, rfl, ?_⟩
      refine if_true_of rfl ?_
      exact ⟨_, rfl, a, D, j, rfl, upd_same, kx, hj, fun H2 s2 => q H2 ((same_new na).trans s2)⟩
end
end Dp
namespace Dp
open PySem PySem.Spec PyProof.Rows L2 DpR
/-! ### the number that a word writes -/
def Ascii (x : Str) : Prop := ∀ c ∈ TL.tl x, c < 128
def spNumOf : Sp := fun vs H Q _ => ∃ x : Str, vs = [.str x] ∧ x.length ≤ 5002 ∧ Ascii x ∧ ∀ H', Same H H' → Q (.int (numW x)) H'
def sgn (c : Nat) : V := .str ⟨#[c]⟩
theorem sgn_ok : ∀ c, c < 128 → PyData.canLay0 (.str ⟨#[c]⟩) = true := by decide +kernel
theorem sgn_dp {K : PySem.W.Frag} {H : Hp} : ∀ {l : List Nat}, (∀ c ∈ l, c < 128) → ∃ ds, L2.DpAll K H (l.map sgn) ds ∧ PyData.canLayAll0 ds = true ∧ PyData.depthAll ds = 0 ∧ ds.length = l.length
  | [], _ => ⟨[], .nil, rfl, rfl, rfl⟩
  | c :: l, h => by
    obtain ⟨ds, a, b, e, f⟩ := sgn_dp (l := l) fun x hx => h x (List.mem_cons_of_mem _ hx)
    refine ⟨.str ⟨#[c]⟩ :: ds, .cons (.str _) a, ?_, ?_, congrArg (· + 1) f⟩
    · show (PyData.canLay0 (.str ⟨#[c]⟩) && PyData.canLayAll0 ds) = true
      rw [sgn_ok c (h c List.mem_cons_self), b]; rfl
    · show max 0 (PyData.depthAll ds) = 0
      rw [e]; rfl
theorem list_shaped {ds : List PyData} (h : PyData.canLayAll0 ds = true) (h2 : PyData.depthAll ds ≤ 1) : SeqAt.shaped (.list ds) = true := by
  show (PyData.canLayAll0 ds && decide (PyData.depth (.list ds) ≤ 64)) = true
  rw [h, Bool.true_and]
  refine decide_eq_true ?_
  show PyData.depthAll ds + 1 ≤ 64
  omega
theorem eqv_empty (ds : List PyData) : PyData.eqv (.list ds) (.list []) = decide (ds.length = 0) := by cases ds <;> rfl
theorem figs_tl : TL.tl "0123456789" = [48, 49, 50, 51, 52, 53, 54, 55, 56, 57] := by decide +kernel
theorem figs_mem (c : Nat) : (decide (c ∈ TL.tl "0123456789")) = isDg c := by
  rw [figs_tl]
  unfold isDg
  by_cases h : 48 ≤ c ∧ c ≤ 57
  · rw [decide_eq_true h.1, decide_eq_true h.2]
    refine decide_eq_true ?_
    simp only [List.mem_cons, List.not_mem_nil, or_false]
    omega
  · have e : (decide (48 ≤ c) && decide (c ≤ 57)) = false := by
      rw [Bool.and_eq_false_iff, decide_eq_false_iff_not, decide_eq_false_iff_not]
      omega
    rw [e]
    refine decide_eq_false ?_
    simp only [List.mem_cons, List.not_mem_nil, or_false]
    omega
theorem figs_find : ∀ a, a < 10 → Txt.find "0123456789" ⟨#[48 + a]⟩ = (a : Int) := by decide +kernel
theorem at0 {x : Str} {c : Nat} {r : List Nat} (h : TL.tl x = c :: r) : atI x.cps.toList 0 = some c := by
  have h' : x.cps.toList = c :: r := h
  rw [h']
  exact atI_nat (j := 0) rfl
section
variable {P : Program} {w : World} {K : PySem.W.Frag} {mg : Str → Option Value} {base : Heap}
abbrev NNo : List Str := ["_law_word", "_law_sign", "_law_found"]
theorem scNumOf : FnScope NNo ["_law_word"] (defScope s_law_number_of) := ⟨rfl, rfl, rfl, by decide +kernel, rfl, by decide +kernel, by decide +kernel⟩
theorem ok_numOf {f : Addr} {fd : FuncData} (F : Fun K "_law_number_of" "_law_number_of" s_law_number_of f fd) (L : LG mg) : FnOk P w K mg base CX0 1 f fd ["_law_word"] spNumOf := by
  refine F.ok scNumOf (fun vs H Q E h => ?_) (fun cdv A outer s H vs Q E hr h => ?_)
  · obtain ⟨x, rfl, _⟩ := h
    rfl
  · obtain ⟨x, rfl, hl, ha, k⟩ := h
    refine ⟨_, pss_cons (ps_if (PW.pt (pw_or (pt_not (pt_chain op_le op_le pe_int (pe_callB call_len_str (by rfl) L.len PySem.boot_len (pa_cons (pv 0) pa_nil)) pe_int))
          (pw_or1 (pt_cmpR (op_neD hr.units) (pe_lc (own := [("_law_sign", 1)]) (g := gName 1) rfl scNumOf.nd (pi_str (pv 0)) (blkOk_by (N := NNo) (sc := defScope s_law_number_of) (by decide +kernel)) (fun _ _ _ _ _ => pg_name (i := 1) scNumOf.nd rfl (Or.inl rfl)) (fun _ _ _ _ _ => pts_one (pt_cmpR op_notIn_sign (pv 1) pe_str (by rfl))) (fun _ _ _ _ _ => pv 1)) (pe_lst pa_nil) (nomark _))))) (pss_one (ps_ret (pe_un un_neg pe_int))) pss_nil)
      (pss_cons (ps_cut (ps_if (PW.pt (pw_and (pt_cmpR op_eq (pe_ix ix_str (pv 0) pe_int (fun _ _ => rfl)) pe_str (nomark _)) (pw_and1 (pt_cmpR op_ne (pv 0) pe_str (nomark _))))) (pss_one (ps_ret (pe_un un_neg pe_int))) pss_nil))
      (pss_cons (ps_set (i := 2) scNumOf.nd rfl (Or.inl rfl) pe_int)
      (pss_cons (ps_for PassesOwn.never rfl (pi_str (pv 0)) (pg_name (i := 1) scNumOf.nd rfl (Or.inl rfl))
        (pss_one (ps_set (i := 2) scNumOf.nd rfl (Or.inl rfl) (pe_op op_add (pe_op op_mul pe_int (pv 2)) (pe_m1 PySem.F.slot_str_find PySem.F.type_str_find mt_find pe_str (pv 1))))))
      (pss_one (ps_ret (pv 2)))))), ?_⟩
    have lx := TL.len_tl x
    have bad : ∀ H', Same H H' → numW x = -1 → Q (.int (-1)) H' := fun H' e z => by rw [← z]; exact k H' e
    have small : x.length ≤ sizeLine := Nat.le_trans (by omega : x.length ≤ 10000) (by decide)
    refine ⟨_, rfl, x, rfl, small, 1, (x.length : Int), rfl, rfl, decide ((1 : Int) ≤ (x.length : Int)), rfl, ?_⟩
    by_cases c1 : (1 : Int) ≤ (x.length : Int)
    case neg =>
      refine if_false_of (decide_eq_false c1) ⟨_, rfl, iteT (iteT ⟨_, rfl, bad H (Same.refl _) ?_⟩)⟩
      exact if_pos (.inl (.inl (by rw [← lx]; omega)))
    refine if_true_of (decide_eq_true c1) ⟨_, _, rfl, rfl, _, rfl, ?_⟩
    by_cases c2 : (x.length : Int) ≤ 3
    case neg =>
      rw [decide_eq_false c2]
      refine iteT (iteT ⟨_, rfl, bad H (Same.refl _) ?_⟩)
      exact if_pos (.inl (.inr (by rw [← lx]; omega)))
    rw [decide_eq_true c2]
    refine iteF ⟨_, rfl, x, rfl, fun D hD => lc_it walk_str (fun j G => G D = some (.lst ((((TL.tl x).take j).filter (fun c => !isDg c)).map sgn)) ∧ Same H G) ⟨upd_same, same_new hD⟩ (fun _ _ _ _ => trivial) ?_ ?_⟩
    · rintro j y G G' hj ⟨hDG, g⟩ ⟨rfl, c, hc, rfl⟩
      have hc' : (TL.tl x)[j]? = some c := by rw [← hc]; exact Array.getElem?_toList
      have et : (TL.tl x).take (j + 1) = (TL.tl x).take j ++ [c] := by rw [List.take_add_one, hc']; rfl
      refine ⟨rfl, _, rfl, c, _, rfl, rfl, _, rfl, ?_⟩
      have em := figs_mem c
      cases hd : isDg c with
      | true =>
        rw [hd] at em
        refine if_false_of (by rw [em]; rfl) ⟨?_, g⟩
        rw [et, List.filter_append, List.filter_cons, hd]
        simpa using hDG
      | false =>
        rw [hd] at em
        refine if_true_of (by rw [em]; rfl) ⟨_, rfl, _, hDG, ?_, ?_, fun b o e => ?_⟩
        · rw [List.length_map]
          have := List.length_filter_le (fun c => !isDg c) ((TL.tl x).take j)
          rw [List.length_take] at this
          exact small1000 (by omega)
        · rw [upd_same, et, List.filter_append, List.filter_cons, hd]
          simp [sgn]
        · rw [upd_ne (ne_of_none e hD)]
          exact g _ _ e
    rintro G ⟨hDG, g⟩
    have efull : (TL.tl x).take x.cps.size = TL.tl x := List.take_of_length_le (by simp [TL.tl])
    rw [efull] at hDG
    obtain ⟨ws, ews⟩ : ∃ ws, ws = (TL.tl x).filter (fun c => !isDg c) := ⟨_, rfl⟩
    rw [← ews] at hDG
    have aws : ∀ c ∈ ws, c < 128 := fun c hc => by rw [ews] at hc; exact ha c (List.mem_filter.mp hc).1
    refine ⟨Nat.zero_le _, fun l hl2 => ?_⟩
    have sl := same_new (o := .lst []) hl2
    obtain ⟨ds, d1, d2, d3, d4⟩ := sgn_dp (K := K) (H := upd G l (.lst [])) aws
    refine ⟨.list ds, .list [], .lst (SqL.of (sl _ _ hDG)) d1, .lst (SqL.of upd_same) .nil, list_shaped d2 (by omega), rfl, _, rfl, ?_⟩
    rw [eqv_empty]
    by_cases wn : ws = []
    case neg =>
      have : ds.length ≠ 0 := fun z => wn (List.length_eq_zero_iff.mp (by omega))
      rw [decide_eq_false this]
      refine iteT ⟨_, rfl, bad _ (g.trans sl) (if_pos (.inr ?_))⟩
      cases e : (TL.tl x).all isDg with
      | false => rfl
      | true =>
        exfalso
        apply wn
        rw [ews, List.filter_eq_nil_iff]
        intro c hc
        rw [List.all_eq_true.mp e c hc]
        decide
    have ds0 : ds.length = 0 := by rw [d4, wn]; rfl
    rw [decide_eq_true ds0]
    have alld : ∀ c ∈ TL.tl x, isDg c = true := fun c hc => by
      cases e : isDg c with
      | true => rfl
      | false =>
        exfalso
        have : c ∈ ws := by rw [ews]; exact List.mem_filter.mpr ⟨hc, by rw [e]; rfl⟩
        rw [wn] at this
        cases this
    have ne1 : ¬ (((TL.tl x).length = 0 ∨ 3 < (TL.tl x).length) ∨ (TL.tl x).all isDg = false) := by
      rintro ((h | h) | h)
      · omega
      · omega
      · rw [List.all_eq_true.mpr alld] at h; cases h
    obtain ⟨c0, r0, e0⟩ : ∃ c0 r0, TL.tl x = c0 :: r0 := by
      cases e : TL.tl x with
      | nil => rw [e] at lx; simp at lx; omega
      | cons a l => exact ⟨a, l, rfl⟩
    have zt : ((("0" : Str))) = ⟨#[48]⟩ := by decide +kernel
    have ez : (x = "0") ↔ TL.tl x = [48] := by
      rw [zt]
      constructor
      · intro h; rw [h]
      · intro h; exact TL.ext_tl h
    have s0l := g.trans sl
    obtain ⟨HL, eHL⟩ : ∃ HL, HL = upd G l (.lst []) := ⟨_, rfl⟩
    rw [← eHL] at s0l
    rw [← eHL]
    refine iteF ⟨fun σ' G' => σ' = [some (.str x), none, none] ∧ G' = HL ∧ numW x = valL (TL.tl x), ?_, ?_⟩
    · refine ⟨_, rfl, x, 0, c0, rfl, rfl, small, at0 e0, rfl, _, rfl, ?_⟩
      have eq0 : (V.str ⟨#[c0]⟩ = V.str "0") ↔ c0 = 48 := by
        rw [zt]
        constructor
        · intro h
          have := V.str.inj h
          have := congrArg TL.tl this
          exact (List.cons.inj this).1
        · intro h; rw [h]
      by_cases h48 : c0 = 48
      case neg =>
        refine if_false_of (decide_eq_false fun z => h48 (eq0.mp z)) (iteF ⟨rfl, rfl, ?_⟩)
        unfold numW numL'
        rw [if_neg ne1, if_neg]
        rintro ⟨h, _⟩
        rw [e0] at h
        exact h48 (Option.some.inj h)
      refine if_true_of (decide_eq_true (eq0.mpr h48)) ⟨_, rfl, rfl, _, rfl, ?_⟩
      by_cases hz : x = "0"
      · refine if_false_of (by rw [decide_eq_true (congrArg V.str hz)]; rfl) ⟨rfl, rfl, ?_⟩
        unfold numW numL'
        rw [if_neg ne1, if_neg]
        rintro ⟨_, h⟩
        exact h (ez.mp hz)
      · refine if_true_of (by rw [decide_eq_false fun z => hz (V.str.inj z)]; rfl) ⟨_, rfl, bad _ s0l ?_⟩
        unfold numW numL'
        rw [if_neg ne1, if_pos]
        exact ⟨by rw [e0, h48]; rfl, fun z => hz (ez.mpr z)⟩
    rintro σ' G' ⟨rfl, rfl, en⟩
    refine ⟨_, rfl, x, rfl, for_it walk_str (fun j σ H2 => ∃ v1, σ = [some (.str x), v1, some (.int (valL ((TL.tl x).take j)))] ∧ H2 = G') ⟨none, rfl, rfl⟩ (fun _ _ _ _ _ => trivial) ?_ ?_⟩
    · rintro j y σ H2 H2' hj ⟨v1, rfl, rfl⟩ ⟨rfl, c, hc, rfl⟩
      have hc' : (TL.tl x)[j]? = some c := by rw [← hc]; exact Array.getElem?_toList
      obtain ⟨a, ha10, rfl⟩ := dg_ex (alld c (List.mem_of_getElem? hc'))
      refine ⟨_, rfl, _, _, rfl, rfl, .inl ⟨by decide, by decide⟩, ⟨_, rfl⟩, _, rfl, _, _, rfl, rfl, _, _, rfl, rfl, ?_⟩
      refine ⟨some (.str ⟨#[48 + a]⟩), ?_, rfl⟩
      have ev : valL ((TL.tl x).take (j + 1)) = 10 * valL ((TL.tl x).take j) + Txt.find "0123456789" ⟨#[48 + a]⟩ := by
        rw [List.take_add_one, hc', figs_find a ha10]
        show valL ((TL.tl x).take j ++ [48 + a]) = _
        unfold valL
        rw [List.foldl_append]
        show 10 * _ + (((48 + a : Nat) : Int) - 48) = _
        omega
      rw [ev]
      rfl
    · rintro σ H2 ⟨v1, rfl, rfl⟩
      have efull2 : (TL.tl x).take x.cps.size = TL.tl x := efull
      rw [efull2, ← en]
      exact ⟨_, rfl, k _ s0l⟩
end
end Dp
namespace Dp
open PySem PySem.Spec PyProof.Rows L2 DpR
/-! ### the law's own reading of a text -/
theorem numW_low (x : Str) (h : Ascii x) : -1 ≤ numW x := by
  unfold numW numL'
  split
  · omega
  split
  · omega
  · rename_i h1 _
    have all : ∀ c ∈ TL.tl x, isDg c = true := fun c hc => by
      cases e : isDg c with
      | true => rfl
      | false =>
        exfalso
        apply h1
        right
        cases e2 : (TL.tl x).all isDg with
        | false => rfl
        | true => rw [List.all_eq_true.mp e2 c hc] at e; cases e
    have q : ∀ (l : List Nat) (a : Int), 0 ≤ a → (∀ c ∈ l, isDg c = true) → 0 ≤ l.foldl (fun (a : Int) (c : Nat) => 10 * a + ((c : Int) - 48)) a := by
      intro l
      induction l with
      | nil => intro a h _; exact h
      | cons c l ih =>
        intro a h0 hd
        obtain ⟨d, _, rfl⟩ := dg_ex (hd c List.mem_cons_self)
        exact ih _ (by show (0 : Int) ≤ 10 * a + (((48 + d : Nat) : Int) - 48); omega) fun y hy => hd y (List.mem_cons_of_mem _ hy)
    have := q (TL.tl x) 0 (Int.le_refl _) all
    show -1 ≤ valL (TL.tl x)
    unfold valL
    omega
/-- numbers that rise below 200 are a pick -/
theorem rise_ris : ∀ (ns : List Int) (lo : Int), (∀ n ∈ ns, lo ≤ n ∧ n ≤ 199) → (∀ k a b, ns[k]? = some a → ns[k + 1]? = some b → a < b) → risV 200 lo (ns.map V.int) = true
  | [], _, _, _ => rfl
  | n :: ns, lo, h, hr => by
    have ⟨h1, h2⟩ := h n List.mem_cons_self
    have rest : ∀ (j : Nat) (b : Int), ns[j]? = some b → n + 1 ≤ b := by
      intro j
      induction j with
      | zero =>
        intro b hb
        have := hr 0 n b rfl (by simpa using hb)
        omega
      | succ j ih =>
        intro b hb
        have hl := (List.getElem?_eq_some_iff.mp hb).1
        have e : ns[j]? = some (ns[j]'(by omega)) := List.getElem?_eq_getElem (by omega)
        have a1 := ih _ e
        have a2 := hr (j + 1) _ b (by rw [List.getElem?_cons_succ]; exact e) (by rw [List.getElem?_cons_succ]; exact hb)
        omega
    show (decide (lo ≤ n) && decide (n ≤ 200 - 1) && risV 200 (n + 1) (ns.map V.int)) = true
    rw [decide_eq_true h1, decide_eq_true (by omega), Bool.true_and, Bool.true_and]
    refine rise_ris ns (n + 1) (fun b hb => ?_) fun k a b ha hb => hr (k + 1) a b (by simpa using ha) (by simpa using hb)
    obtain ⟨j, hj⟩ := List.mem_iff_getElem?.mp hb
    exact ⟨rest j b hj, (h b (List.mem_cons_of_mem _ hb)).2⟩
/-- what the law's reading looks at, and what a text tells -/
theorem tells_iff {t : Str} {ws : List Str} (hn : t ≠ "none") (e : Txt.split t " " = ws) (ha : ∀ w ∈ ws, Ascii w) : (∃ ds, Tells t ds) ↔ ((-1 : Int) ∉ ws.map numW ∧ (∀ n ∈ ws.map numW, ¬ 199 < n) ∧ ∀ k a b, (ws.map numW)[k]? = some a → (ws.map numW)[k + 1]? = some b → a < b) := by
  constructor
  · rintro ⟨ds, h | ⟨_, h, hd⟩⟩
    · exact absurd h.1 hn
    · rw [e] at h
      have each : ∀ (j : Nat) (w : Str), ws[j]? = some w → ∃ n : Nat, n < 200 ∧ (asc ds)[j]? = some (nv n) ∧ numW w = (n : Int) := by
        intro j w hw
        have h1 : (asc ds)[j]? = some (thingV w) := by rw [← h, List.getElem?_map, hw]; rfl
        have m := List.mem_of_getElem? h1
        unfold asc at m
        obtain ⟨n, hn', en⟩ := List.mem_map.mp m
        refine ⟨n, hd.mem n (List.mem_reverse.mp hn'), by rw [h1, en], ?_⟩
        unfold thingV at en
        split at en
        · exact (V.int.inj en).symm
        · cases en
      refine ⟨fun z => ?_, fun n hn' => ?_, fun k a b hk hk1 => ?_⟩
      · obtain ⟨w, hw, ew⟩ := List.mem_map.mp z
        obtain ⟨j, hj⟩ := List.mem_iff_getElem?.mp hw
        obtain ⟨n, _, _, en⟩ := each j w hj
        omega
      · obtain ⟨w, hw, ew⟩ := List.mem_map.mp hn'
        obtain ⟨j, hj⟩ := List.mem_iff_getElem?.mp hw
        obtain ⟨m, hm, _, en⟩ := each j w hj
        omega
      · rw [List.getElem?_map] at hk hk1
        obtain ⟨w, hw, ew⟩ := Option.map_eq_some_iff.mp hk
        obtain ⟨w1, hw1, ew1⟩ := Option.map_eq_some_iff.mp hk1
        obtain ⟨m, _, m2, m3⟩ := each k w hw
        obtain ⟨m', _, m2', m3'⟩ := each (k + 1) w1 hw1
        have hl : k + 1 < ds.length := by
          have := (List.getElem?_eq_some_iff.mp m2').1
          rw [asc_len] at this
          exact this
        obtain ⟨a', b', x1, x2, x3⟩ := asc_lt hd hl
        rw [m2] at x1
        rw [m2'] at x2
        have := nv_inj (Option.some.inj x1)
        have := nv_inj (Option.some.inj x2)
        omega
  · rintro ⟨h1, h2, h3⟩
    have low : ∀ w ∈ ws, 0 ≤ numW w ∧ numW w ≤ 199 := fun w hw => by
      have a := numW_low w (ha w hw)
      have b : numW w ≠ -1 := fun z => h1 (List.mem_map.mpr ⟨w, hw, z⟩)
      have c := h2 _ (List.mem_map.mpr ⟨w, hw, rfl⟩)
      omega
    have hr := rise_ris (ws.map numW) 0 (fun n hn' => by obtain ⟨w, hw, rfl⟩ := List.mem_map.mp hn'; exact low w hw) h3
    obtain ⟨ds, e1, e2, _⟩ := ris_desc (n := 200) ((ws.map numW).map V.int) [] 0 trivial (Nat.zero_le _) hr
    refine ⟨ds, .inr ⟨hn, ?_, e2⟩⟩
    have e1' : (ws.map numW).map V.int = asc ds := e1
    rw [e, ← e1', List.map_map]
    refine List.map_congr_left fun w hw => ?_
    show thingV w = V.int (numW w)
    unfold thingV
    rw [if_pos (low w hw)]
end Dp
namespace Dp
open PySem PySem.Spec PyProof.Rows L2 DpR
/-! ### the words of a text -/
theorem spl_sub (S : List Nat) : ∀ (l : List Nat) (k : Nat) (acc p : List Nat), p ∈ TL.spl S k acc l → (∀ c ∈ p, c ∈ acc ∨ c ∈ l) ∧ p.length ≤ acc.length + l.length
  | [], k, acc, p, h => by
    have h' : p ∈ [acc] := by cases k <;> exact h
    rw [List.mem_singleton] at h'
    subst h'
    exact ⟨fun c hc => .inl hc, Nat.le_add_right _ _⟩
  | a :: l, 0, acc, p, h => by
    unfold TL.spl at h
    split at h
    · rcases List.mem_cons.mp h with h | h
      · subst h
        exact ⟨fun c hc => .inl hc, Nat.le_add_right _ _⟩
      · have ⟨x, y⟩ := spl_sub S l _ _ p h
        refine ⟨fun c hc => ?_, by simp at y; simp; omega⟩
        rcases x c hc with z | z
        · cases z
        · exact .inr (List.mem_cons_of_mem _ z)
    · have ⟨x, y⟩ := spl_sub S l _ _ p h
      refine ⟨fun c hc => ?_, by simp at y; simp; omega⟩
      rcases x c hc with z | z
      · rcases List.mem_append.mp z with z | z
        · exact .inl z
        · rw [List.mem_singleton] at z; subst z; exact .inr List.mem_cons_self
      · exact .inr (List.mem_cons_of_mem _ z)
  | a :: l, k + 1, acc, p, h => by
    unfold TL.spl at h
    have ⟨x, y⟩ := spl_sub S l _ _ p h
    refine ⟨fun c hc => (x c hc).imp id (List.mem_cons_of_mem _), by simp; omega⟩
theorem words_ok {t : Str} (h : Ascii t) : ∀ w ∈ Txt.split t " ", Ascii w ∧ w.length ≤ t.length := fun w hw => by
  have e := TL.split_spl t " " (by decide +kernel) (TL.kind_ok (by decide +kernel))
  have hm : TL.tl w ∈ TL.spl (TL.tl " ") 0 [] (TL.tl t) := by rw [← e]; exact List.mem_map.mpr ⟨w, hw, rfl⟩
  have ⟨x, y⟩ := spl_sub _ _ _ _ _ hm
  refine ⟨fun c hc => ?_, ?_⟩
  · rcases x c hc with z | z
    · cases z
    · exact h c z
  · rw [TL.len_tl, TL.len_tl]
    simpa using y
def spDue : Sp := fun vs H Q _ => ∃ t : Str, vs = [.str t] ∧ t.length ≤ 5000 ∧ Ascii t ∧ (∀ ds p q H', Tells t ds → Same H H' → H' p = some (.tup [.str "told", .ref q]) → H' q = some (.tup (asc ds)) → Q (.ref p) H') ∧ (∀ H', (¬ ∃ ds, Tells t ds) → Same H H' → Q (.str "text") H')
structure LI13 (mg : Str → Option Value) : Prop where
  tuple : mg "tuple" = none
  list : mg "list" = none
  str : mg "str" = none
theorem inV_int (z : Int) : ∀ ns : List Int, inV (.int z) (ns.map V.int) = decide (z ∈ ns)
  | [] => rfl
  | n :: ns => by
    have ih := inV_int z ns
    unfold inV at ih ⊢
    rw [List.map_cons, List.any_cons, ih]
    show ((n == z) || decide (z ∈ ns)) = _
    by_cases h : n = z
    · subst h; simp
    · rw [beq_eq_false_iff_ne.mpr h, Bool.false_or]
      have : z ≠ n := fun e => h e.symm
      simp [this]
theorem ints_flat (ns : List Int) : (ns.map V.int).all flatV = true := by
  rw [List.all_eq_true]
  intro y hy
  obtain ⟨n, _, rfl⟩ := List.mem_map.mp hy
  rfl
theorem ltI_nil (l : List Int) : PyData.eqv (ltI l) (ltI []) = decide (l = []) := by cases l <;> rfl
theorem dp_ltI {K : PySem.W.Frag} {H : Hp} {p : Addr} {l : List Int} (h : H p = some (.lst (l.map V.int))) : L2.Dp K H (.ref p) (ltI l) := .lst (SqL.of h) (dpAll_int _)
theorem nvs_ints0 (l : List Nat) : l.map nv = (l.map Int.ofNat).map V.int := by rw [List.map_map]; rfl
/-- the places where the numbers don't rise -/
def fallAt (ns : List Int) (k : Nat) : Bool := match ns[k]?, ns[k + 1]? with
  | some a, some b => decide (b ≤ a)
  | _, _ => false
section
variable {P : Program} {w : World} {K : PySem.W.Frag} {mg : Str → Option Value} {base : Heap}
abbrev NDu : List Str := ["_law_text", "_law_numbers", "_law_word", "_law_one", "_law_k"]
theorem scDue : FnScope NDu ["_law_text"] (defScope s_law_due) := ⟨rfl, rfl, rfl, by decide +kernel, rfl, by decide +kernel, by decide +kernel⟩
theorem ok_due {f fN : Addr} {fd dN : FuncData} (F : Fun K "_law_due" "_law_due" s_law_due f fd) (L : LG mg) (I : LI13 mg) (No : GD K mg "_law_number_of" s_law_number_of ["_law_word"] fN dN) : FnOk P w K mg base CX0 2 f fd ["_law_text"] spDue := by
  have kN : FnOk P w K mg base CX0 1 fN dN ["_law_word"] spNumOf := ok_numOf No.F L
  refine F.ok scDue (fun vs H Q E h => ?_) (fun cdv A outer s H vs Q E hr h => ?_)
  · obtain ⟨t, rfl, _⟩ := h
    rfl
  · obtain ⟨t, rfl, hl, ha, kyes, kno⟩ := h
    refine ⟨_, pss_cons (ps_if (pt_cmpR op_eq (pv 0) pe_str (nomark _)) (pss_one (ps_ret (pe_tup (pa_cons pe_str (pa_cons (pe_tup pa_nil) pa_nil))))) pss_nil)
      (pss_cons (ps_set (i := 1) scDue.nd rfl (Or.inr rfl) (pe_lc (own := [("_law_word", 2)]) (g := gName 2) (tt := tYes) rfl scDue.nd (pi_list (pe_split (pv 0) pe_str)) (blkOk_by (N := NDu) (sc := defScope s_law_due) (by decide +kernel)) (fun _ _ _ _ _ => pg_name (i := 2) scDue.nd rfl (Or.inl rfl)) (fun _ _ _ _ _ => pts_nil)
          (fun _ _ _ _ _ => pe_call kN hr rfl No.g No.F.kp No.b .nil pass0 (pa_cons (pv 2) pa_nil))))
      (pss_cons (ps_if (PW.pt (pw_or (pt_cmpR (r := rIn K false) op_in_seq (pe_un un_neg pe_int) (pv 1) (by rfl)) (pw_or1 (pt_cmpR (op_neD hr.units) (pe_lc (own := [("_law_one", 3)]) (g := gName 3) rfl scDue.nd (pi_list (pv 1)) (blkOk_by (N := NDu) (sc := defScope s_law_due) (by decide +kernel)) (fun _ _ _ _ _ => pg_name (i := 3) scDue.nd rfl (Or.inl rfl)) (fun _ _ _ _ _ => pts_one (pt_cmpR op_gt (pv 3) pe_int (nomark _))) (fun _ _ _ _ _ => pv 3)) (pe_lst pa_nil) (nomark _))))) (pss_one (ps_ret pe_str)) pss_nil)
      (pss_cons (ps_if (pt_cmpR (op_neD hr.units) (pe_lc (own := [("_law_k", 4)]) (g := gName 4) rfl scDue.nd (pi_range1 rfl L.range (pa_cons (pe_op op_sub (pe_callB call_len_seq (by rfl) L.len PySem.boot_len (pa_cons (pv 1) pa_nil)) pe_int) pa_nil)) (blkOk_by (N := NDu) (sc := defScope s_law_due) (by decide +kernel)) (fun _ _ _ _ _ => pg_name (i := 4) scDue.nd rfl (Or.inl rfl))
          (fun _ _ _ _ _ => pts_one (pt_cmpR op_ge (pe_ix (r := rIxL K) ix_list (pv 1) (pv 4) (fun _ _ => rfl)) (pe_ix (r := rIxL K) ix_list (pv 1) (pe_op op_add (pv 4) pe_int) (fun _ _ => rfl)) (nomark _))) (fun _ _ _ _ _ => pv 4)) (pe_lst pa_nil) (nomark _)) (pss_one (ps_ret pe_str)) pss_nil)
      (pss_one (ps_ret (pe_tup (pa_cons pe_str (pa_cons (pe_callTy call_tuple_of (by rfl) I.tuple (by decide +kernel) (pa_cons (pv 1) pa_nil)) pa_nil)))))))), ?_⟩
    refine ⟨_, rfl, rfl, _, rfl, ?_⟩
    by_cases hn : t = "none"
    · refine if_true_of (decide_eq_true (congrArg V.str hn)) ⟨Nat.zero_le _, fun q hq => ⟨(by show 2 ≤ sizeLine; decide), fun p hp => ?_⟩⟩
      have e1 := same_new (o := .tup []) hq
      have e2 := same_new (o := .tup [.str "told", .ref q]) hp
      exact kyes [] p q _ (.inl ⟨hn, rfl⟩) (e1.trans e2) upd_same (e2 _ _ upd_same)
    refine if_false_of (decide_eq_false fun z => hn (V.str.inj z)) ?_
    obtain ⟨ws, ews⟩ : ∃ ws, ws = Txt.split t " " := ⟨_, rfl⟩
    have hw : ∀ w ∈ ws, Ascii w ∧ w.length ≤ t.length := by rw [ews]; exact words_ok ha
    have lws : ws.length ≤ 5002 := by rw [ews]; have := PyProof.Rows.split_le t " "; omega
    have ti := tells_iff hn ews.symm fun w h => (hw w h).1
    refine ⟨_, rfl, ⟨_, rfl⟩, t, _, rfl, rfl, (by decide +kernel), Nat.le_trans (by omega : t.length + 2 ≤ 10000) (by decide), fun p hp => ?_⟩
    rw [← ews]
    have sp := same_new (o := .lst (ws.map V.str)) hp
    refine ⟨p, rfl, ⟨_, SqL.of upd_same⟩, fun D hD => lc_it (walk_list (a := p) (xs := ws.map V.str)) (fun j G => G D = some (.lst (((ws.map numW).take j).map V.int)) ∧ Same (upd H p (.lst (ws.map V.str))) G) ⟨upd_same, same_new hD⟩ (fun j G _ ⟨_, g⟩ => SqL.of (g _ _ upd_same)) ?_ ?_⟩
    · rintro j y G G' hj ⟨hlG, g⟩ ⟨rfl, hy⟩
      rw [List.getElem?_map] at hy
      obtain ⟨x, hx, rfl⟩ : ∃ x, ws[j]? = some x ∧ y = V.str x := by
        cases e : ws[j]? with
        | none => rw [e] at hy; cases hy
        | some x => rw [e] at hy; exact ⟨x, rfl, (Option.some.inj hy).symm⟩
      have ⟨ax, lx⟩ := hw x (List.mem_of_getElem? hx)
      refine ⟨rfl, _, rfl, x, rfl, by omega, ax, fun G2 s2 => ⟨_, s2 _ _ hlG, ?_, ?_, fun b o e => ?_⟩⟩
      · rw [List.length_map, List.length_take, List.length_map]; exact Nat.lt_of_le_of_lt (by omega : _ ≤ 10000) (by decide)
      · rw [upd_same, List.take_add_one, List.getElem?_map, hx]; simp
      · rw [upd_ne (ne_of_none e hD)]
        exact s2 _ _ (g _ _ e)
    rintro G1 ⟨hlG, g1⟩
    obtain ⟨ns, ens⟩ : ∃ ns, ns = ws.map numW := ⟨_, rfl⟩
    rw [List.length_map, ← List.length_map (f := numW), List.take_length, ← ens] at hlG
    rw [← ens] at ti
    have s1 := sp.trans g1
    have lns : ns.length ≤ 5002 := by rw [ens, List.length_map]; exact lws
    refine ⟨_, rfl, _, rfl, D, ns.map V.int, rfl, .inl (SqL.of hlG), rfl, ints_flat ns, _, rfl, ?_⟩
    by_cases m1 : (-1 : Int) ∈ ns
    · refine if_true_of (by show inV (.int (-1)) (ns.map V.int) = true; rw [inV_int]; exact decide_eq_true m1) (iteT (kno _ (fun z => (ti.mp z).1 m1) s1))
    refine if_false_of (by show inV (.int (-1)) (ns.map V.int) = false; rw [inV_int]; exact decide_eq_false m1) ?_
    refine ⟨_, rfl, D, rfl, ⟨_, SqL.of hlG⟩, fun D2 hD2 => lc_it (walk_list (a := D) (xs := ns.map V.int)) (fun j G => G D2 = some (.lst (((ns.take j).filter (fun n => decide (199 < n))).map V.int)) ∧ Same G1 G) ⟨upd_same, same_new hD2⟩ (fun j G _ ⟨_, g⟩ => SqL.of (g _ _ hlG)) ?_ ?_⟩
    · rintro j y G G' hj ⟨hD, g⟩ ⟨rfl, hy⟩
      rw [List.getElem?_map] at hy
      obtain ⟨n, hn', rfl⟩ := Option.map_eq_some_iff.mp hy
      have et : ns.take (j + 1) = ns.take j ++ [n] := by rw [List.take_add_one, hn']; rfl
      refine ⟨rfl, _, rfl, _, _, rfl, rfl, _, rfl, ?_⟩
      by_cases c : 199 < n
      · refine if_true_of (decide_eq_true c) ⟨_, rfl, _, hD, ?_, ?_, fun b o e => ?_⟩
        · rw [List.length_map]
          have := List.length_filter_le (fun n => decide (199 < n)) (ns.take j)
          rw [List.length_take] at this
          exact Nat.lt_of_le_of_lt (by omega : _ ≤ 10000) (by decide)
        · rw [upd_same, et, List.filter_append, List.filter_cons, decide_eq_true c]; simp
        · rw [upd_ne (ne_of_none e hD2)]
          exact g _ _ e
      · refine if_false_of (decide_eq_false c) ⟨?_, g⟩
        rw [et, List.filter_append, List.filter_cons, decide_eq_false c]
        simpa using hD
    rintro G2 ⟨hD, g2⟩
    rw [List.length_map, List.take_length] at hD
    obtain ⟨big, ebig⟩ : ∃ big, big = ns.filter (fun n => decide (199 < n)) := ⟨_, rfl⟩
    rw [← ebig] at hD
    refine ⟨Nat.zero_le _, fun l hl2 => ?_⟩
    have sl := same_new (o := .lst []) hl2
    refine ⟨ltI big, ltI [], dp_ltI (sl _ _ hD), dp_ltI upd_same, ltI_shaped _, ltI_shaped _, _, rfl, ?_⟩
    rw [ltI_nil]
    have s2 := s1.trans (g2.trans sl)
    by_cases b0 : big = []
    case neg =>
      rw [decide_eq_false b0]
      refine iteT (kno _ (fun z => b0 ?_) s2)
      rw [ebig, List.filter_eq_nil_iff]
      intro n hn' q
      exact (ti.mp z).2.1 n hn' (of_decide_eq_true q)
    rw [decide_eq_true b0]
    have nobig : ∀ n ∈ ns, ¬ 199 < n := fun n hn' q => by
      have : n ∈ big := by rw [ebig]; exact List.mem_filter.mpr ⟨hn', decide_eq_true q⟩
      rw [b0] at this
      cases this
    have hlH := (g2.trans sl) _ _ hlG
    obtain ⟨H3, eH3⟩ : ∃ H3, H3 = upd G2 l (.lst []) := ⟨_, rfl⟩
    rw [← eH3] at hlH s2 ⊢
    have lnm : (ns.map V.int).length = ns.length := List.length_map _
    refine iteF ⟨_, rfl, D, _, rfl, .inl (SqL.of hlH), _, _, rfl, rfl, _, rfl, by omega, by omega, fun D3 hD3 => lc_it walk_range (n := (((ns.map V.int).length : Int) - 1).toNat) (fun j G => G D3 = some (.lst (((List.range j).filter (fallAt ns)).map nv)) ∧ Same H3 G) ⟨upd_same, same_new hD3⟩ (fun _ _ _ _ => trivial) ?_ ?_⟩
    · rintro j y G G' hj ⟨hD, g⟩ ⟨rfl, ey⟩
      have ey' : y = nv j := ey.trans (congrArg V.int (by omega))
      subst ey'
      have hj1 : j + 1 < ns.length := by omega
      obtain ⟨a, ea⟩ : ∃ a, ns[j]? = some a := ⟨ns[j]'(by omega), List.getElem?_eq_getElem (by omega)⟩
      obtain ⟨b, eb⟩ : ∃ b, ns[j + 1]? = some b := ⟨ns[j + 1]'hj1, List.getElem?_eq_getElem hj1⟩
      have ef : fallAt ns j = decide (b ≤ a) := by unfold fallAt; rw [ea, eb]
      have hlG' := g _ _ hlH
      refine ⟨rfl, _, rfl, _, rfl, D, _, _, .int a, rfl, rfl, SqL.of hlG', at_of (j := j) rfl (by rw [List.getElem?_map, ea]; rfl), _, rfl, _, rfl, _, _, rfl, rfl, D, _, _, .int b, rfl, rfl, SqL.of hlG', at_of (j := j + 1) (by omega) (by rw [List.getElem?_map, eb]; rfl), a, b, rfl, rfl, _, rfl, ?_⟩
      have er : List.range (j + 1) = List.range j ++ [j] := List.range_succ
      by_cases c : b ≤ a
      · refine if_true_of (decide_eq_true c) ⟨_, rfl, _, hD, ?_, ?_, fun b o e => ?_⟩
        · rw [List.length_map]
          have := List.length_filter_le (fallAt ns) (List.range j)
          rw [List.length_range] at this
          exact Nat.lt_of_le_of_lt (by omega : _ ≤ 10000) (by decide)
        · rw [upd_same, er, List.filter_append, List.filter_cons, ef, decide_eq_true c]; simp
        · rw [upd_ne (ne_of_none e hD3)]
          exact g _ _ e
      · refine if_false_of (decide_eq_false c) ⟨?_, g⟩
        rw [er, List.filter_append, List.filter_cons, ef, decide_eq_false c]
        simpa using hD
    rintro G4 ⟨hD, g4⟩
    obtain ⟨fl, efl⟩ : ∃ fl, fl = (List.range (((ns.map V.int).length : Int) - 1).toNat).filter (fallAt ns) := ⟨_, rfl⟩
    rw [← efl, nvs_ints0] at hD
    refine ⟨Nat.zero_le _, fun l3 hl3 => ?_⟩
    have sl3 := same_new (o := .lst []) hl3
    refine ⟨ltI (fl.map Int.ofNat), ltI [], dp_ltI (sl3 _ _ hD), dp_ltI upd_same, ltI_shaped _, ltI_shaped _, _, rfl, ?_⟩
    rw [ltI_nil]
    have s4 := s2.trans (g4.trans sl3)
    by_cases f0 : fl.map Int.ofNat = []
    case neg =>
      rw [decide_eq_false f0]
      refine iteT (kno _ (fun z => f0 ?_) s4)
      have : fl = [] := by
        rw [efl, List.filter_eq_nil_iff]
        intro k _ q
        unfold fallAt at q
        split at q
        · rename_i a b ea eb
          have := (ti.mp z).2.2 k a b ea eb
          have := of_decide_eq_true q
          omega
        · cases q
      rw [this]; rfl
    rw [decide_eq_true f0]
    have fl0 : fl = [] := List.map_eq_nil_iff.mp f0
    have rising : ∀ k a b, ns[k]? = some a → ns[k + 1]? = some b → a < b := fun k a b ea eb => by
      apply Classical.byContradiction
      intro q
      have hk := (List.getElem?_eq_some_iff.mp eb).1
      have : k ∈ fl := by
        rw [efl]
        refine List.mem_filter.mpr ⟨List.mem_range.mpr (by omega), ?_⟩
        unfold fallAt
        rw [ea, eb]
        exact decide_eq_true (by omega)
      rw [fl0] at this
      cases this
    obtain ⟨ds, td⟩ := ti.mpr ⟨m1, nobig, rising⟩
    have eds : ns.map V.int = asc ds := by
      rcases td with h | ⟨_, h, _⟩
      · exact absurd h.1 hn
      · rw [← ews] at h
        rw [← h, ens, List.map_map]
        refine List.map_congr_left fun w hw' => ?_
        have r1 := numW_low w (hw w hw').1
        have r2 := nobig (numW w) (by rw [ens]; exact List.mem_map.mpr ⟨w, hw', rfl⟩)
        have r3 : numW w ≠ -1 := fun z => m1 (by rw [ens]; exact List.mem_map.mpr ⟨w, hw', z⟩)
        show V.int (numW w) = thingV w
        unfold thingV
        rw [if_pos (by omega)]
    have hl4 := (g4.trans sl3) _ _ hlH
    refine iteF ⟨_, rfl, D, _, rfl, .inl ⟨SqL.of hl4, fun q hq => ⟨(by show 2 ≤ sizeLine; decide), fun p2 hp2 => ?_⟩⟩⟩
    have e1 := same_new (o := .tup (ns.map V.int)) hq
    have e2 := same_new (o := .tup [.str "told", .ref q]) hp2
    exact kyes ds p2 q _ td (s4.trans (e1.trans e2)) upd_same (by rw [e2 _ _ upd_same, eds])
end
end Dp
namespace Dp
open PySem PySem.Spec PyProof.Rows L2 DpR
/-! ### what is numbered, of either class: N of them, the i-th is c i -/
abbrev AtP := Hp → Addr → Int → (Int → List Nat) → Prop
structure ToldB (K : PySem.W.Frag) (C : Addr) (At : AtP) : Prop where
  cl : Cls K C
  mono : ∀ {H H' : Hp} {p : Addr} {N : Int} {c : Int → List Nat}, At H p N c → Same H H' → At H' p N c
  ob : ∀ {H : Hp} {p : Addr} {N : Int} {c : Int → List Nat}, At H p N c → ∃ dx fs, H p = some (.ins C dx fs) ∧ ∀ x : Str, ¬ x = "size" → ¬ x = "things" → fs.lookup x = none
  pos : ∀ {H : Hp} {p : Addr} {N : Int} {c : Int → List Nat}, At H p N c → 0 < N
  row : ∀ {H : Hp} {p : Addr} {N : Int} {c : Int → List Nat}, At H p N c → ∀ i, 0 ≤ i → i < N → Desc 200 (c i)
  inj : ∀ {H : Hp} {p : Addr} {N : Int} {c : Int → List Nat}, At H p N c → ∀ i j, 0 ≤ i → i < N → 0 ≤ j → j < N → c i = c j → i = j
def spTMany (At : AtP) : Sp := fun vs H Q _ => ∃ (p : Addr) (N : Int) (c : Int → List Nat), vs = [.ref p] ∧ At H p N c ∧ ∀ H', Same H H' → Q (.int N) H'
def spTAt (At : AtP) : Sp := fun vs H Q _ => ∃ (p : Addr) (N : Int) (c : Int → List Nat) (i : Int), vs = [.ref p, .int i] ∧ At H p N c ∧ 0 ≤ i ∧ i < N ∧
  ∀ q H', Same H H' → H q = none → H' q = some (.tup (asc (c i))) → Q (.ref q) H'
def spTNumber (At : AtP) : Sp := fun vs H Q _ => ∃ (p a : Addr) (b : Bool) (N : Int) (c : Int → List Nat) (i : Int), vs = [.ref p, .ref a] ∧ At H p N c ∧ 0 ≤ i ∧ i < N ∧ H a = some (rowO b (asc (c i))) ∧
  ∀ H', Same H H' → Q (.int i) H'
def spTStep (At : AtP) : Sp := fun vs H Q _ => ∃ (p a : Addr) (b : Bool) (N : Int) (c : Int → List Nat) (i by_ : Int), vs = [.ref p, .ref a, .int by_] ∧ At H p N c ∧ 0 ≤ i ∧ i < N ∧ H a = some (rowO b (asc (c i))) ∧
  ∀ q H', Same H H' → H q = none → H' q = some (.tup (asc (c ((i + by_) % N)))) → Q (.ref q) H'
def atP (C : Addr) : AtP := fun H p N c => ∃ n m, PkAt C H p n m ∧ N = (ch n m : Int) ∧ c = un n m
def atS (C : Addr) : AtP := fun H p N c => ∃ n, SkAt C H p n ∧ N = sN n ∧ c = gu n
theorem told_p {K : PySem.W.Frag} {C : Addr} (T : PkC K C) : ToldB K C (atP C) where
  cl := T.cl
  mono := fun ⟨n, m, h, e⟩ s => ⟨n, m, h.mono s, e⟩
  ob := fun ⟨n, m, h, _⟩ => let ⟨dx, e⟩ := h.ob; ⟨dx, _, e, fun x h1 h2 => pkF_no _ _ h1 h2⟩
  pos := fun ⟨n, m, h, e, _⟩ => by have := ch_pos h.mn; omega
  row := fun ⟨n, m, h, e, e2⟩ i h0 h1 => by
    subst e e2
    exact (un_spec m n i h0 h1).1.mono h.n200
  inj := fun ⟨n, m, h, e, e2⟩ i j h0 h1 h2 h3 hc => by
    subst e e2
    rw [← (un_spec m n i h0 h1).2.2, ← (un_spec m n j h2 h3).2.2, hc]
theorem told_s {K : PySem.W.Frag} {C : Addr} (T : SkC K C) : ToldB K C (atS C) where
  cl := T.cl
  mono := fun ⟨n, h, e⟩ s => ⟨n, h.mono s, e⟩
  ob := fun ⟨n, h, _⟩ => let ⟨dx, e⟩ := h.ob; ⟨dx, _, e, fun x h1 h2 => skF_no _ h2⟩
  pos := fun ⟨n, h, e, _⟩ => by rw [e]; exact sN_pos n
  row := fun ⟨n, h, e, e2⟩ i h0 h1 => by
    subst e e2
    exact (gu_spec n i h0 h1).1.mono h.n200
  inj := fun ⟨n, h, e, e2⟩ i j h0 h1 h2 h3 hc => by
    subst e e2
    rw [← (gu_spec n i h0 h1).2, ← (gu_spec n j h2 h3).2, hc]
section
variable {P : Program} {w : World} {K : PySem.W.Frag} {mg : Str → Option Value} {base : Heap}
theorem HasM.imp {C : Addr} {x : Str} {ps : List Str} {l : Nat} {sp sp' : Sp} (h : HasM P w K mg base C x ps l sp) (i : ∀ vs H Q E, sp' vs H Q E → sp vs H Q E) : HasM P w K mg base C x ps l sp' :=
  let ⟨k, hk, f, fd, m, b, ok⟩ := h; ⟨k, hk, f, fd, m, b, ok.imp i⟩
theorem tp_many {C : Addr} {l : Nat} (h : HasM P w K mg base C "many" [] l (spMany C)) : HasM P w K mg base C "many" [] l (spTMany (atP C)) := h.imp fun vs H Q E ⟨p, N, c, e, ⟨n, m, hp, eN, ec⟩, q⟩ => by
  subst eN ec
  exact ⟨p, n, m, e, hp, q _ (Same.refl _)⟩
theorem tp_at {C CN : Addr} {l : Nat} (h : HasM P w K mg base C "at" ["number"] l (spAt C CN)) : HasM P w K mg base C "at" ["number"] l (spTAt (atP C)) := h.imp fun vs H Q E ⟨p, N, c, i, e, ⟨n, m, hp, eN, ec⟩, h0, h1, q⟩ => by
  subst eN ec
  exact ⟨p, n, m, .int i, e, hp, .int _, fun i' z H' e' _ _ s hz hz' => by cases e'; exact q z H' s hz hz', fun no => (no ⟨i, rfl, h0, h1⟩).elim⟩
theorem tp_number {C CP : Addr} {l : Nat} (h : HasM P w K mg base C "number" ["one"] l (spNumber C CP)) : HasM P w K mg base C "number" ["one"] l (spTNumber (atP C)) := h.imp fun vs H Q E ⟨p, a, b, N, c, i, e, ⟨n, m, hp, eN, ec⟩, h0, h1, ha, q⟩ => by
  subst eN ec
  have ⟨u1, u2, u3⟩ := un_spec m n i h0 h1
  have pk : IsPk H (.ref a) n m (un n m i) := ⟨a, b, rfl, ha, u1, u2⟩
  refine ⟨p, n, m, .ref a, e, hp, dtIn_pk pk, fun ds H' k s => ?_, fun H' no _ => (no ⟨_, pk⟩).elim⟩
  cases IsPk.inj k pk
  rw [u3]
  exact q H' s
theorem tp_step {C CP : Addr} {l : Nat} (h : HasM P w K mg base C "step" ["one", "by"] l (spStep C CP)) : HasM P w K mg base C "step" ["one", "by"] l (spTStep (atP C)) := h.imp fun vs H Q E ⟨p, a, b, N, c, i, by_, e, ⟨n, m, hp, eN, ec⟩, h0, h1, ha, q⟩ => by
  subst eN ec
  have ⟨u1, u2, u3⟩ := un_spec m n i h0 h1
  have pk : IsPk H (.ref a) n m (un n m i) := ⟨a, b, rfl, ha, u1, u2⟩
  refine ⟨p, n, m, .ref a, by_, e, hp, dtIn_pk pk, fun ds z H' k s hz hz' => ?_, fun H' no _ => (no ⟨_, pk⟩).elim⟩
  cases IsPk.inj k pk
  rw [u3] at hz'
  exact q z H' s hz hz'
theorem ts_many {C : Addr} {l : Nat} (h : HasM P w K mg base C "many" [] l (spSMany C)) : HasM P w K mg base C "many" [] l (spTMany (atS C)) := h.imp fun vs H Q E ⟨p, N, c, e, ⟨n, hp, eN, ec⟩, q⟩ => by
  subst eN ec
  exact ⟨p, n, e, hp, q⟩
theorem ts_at {C CN : Addr} {l : Nat} (h : HasM P w K mg base C "at" ["number"] l (spSAt C CN)) : HasM P w K mg base C "at" ["number"] l (spTAt (atS C)) := h.imp fun vs H Q E ⟨p, N, c, i, e, ⟨n, hp, eN, ec⟩, h0, h1, q⟩ => by
  subst eN ec
  exact ⟨p, n, .int i, e, hp, .int _, fun i' z H' e' _ _ s hz hz' => by cases e'; exact q z H' s hz hz', fun H' no _ => (no ⟨i, rfl, h0, h1⟩).elim⟩
theorem ts_number {C CP : Addr} {l : Nat} (h : HasM P w K mg base C "number" ["one"] l (spSNumber C CP)) : HasM P w K mg base C "number" ["one"] l (spTNumber (atS C)) := h.imp fun vs H Q E ⟨p, a, b, N, c, i, e, ⟨n, hp, eN, ec⟩, h0, h1, ha, q⟩ => by
  subst eN ec
  have ⟨u1, u3⟩ := gu_spec n i h0 h1
  have pk : IsSet H (.ref a) n (gu n i) := ⟨a, b, rfl, ha, u1⟩
  refine ⟨p, n, .ref a, e, hp, dtIn_set pk, fun ds H' k s => ?_, fun H' no _ => (no ⟨_, pk⟩).elim⟩
  cases IsSet.inj k pk
  rw [u3]
  exact q H' s
theorem ts_step {C CP : Addr} {l : Nat} (h : HasM P w K mg base C "step" ["one", "by"] l (spSStep C CP)) : HasM P w K mg base C "step" ["one", "by"] l (spTStep (atS C)) := h.imp fun vs H Q E ⟨p, a, b, N, c, i, by_, e, ⟨n, hp, eN, ec⟩, h0, h1, ha, q⟩ => by
  subst eN ec
  have ⟨u1, u3⟩ := gu_spec n i h0 h1
  have pk : IsSet H (.ref a) n (gu n i) := ⟨a, b, rfl, ha, u1⟩
  refine ⟨p, n, .ref a, by_, e, hp, dtIn_set pk, fun ds z H' k s hz hz' => ?_, fun H' no _ => (no ⟨_, pk⟩).elim⟩
  cases IsSet.inj k pk
  unfold gst at hz'
  rw [u3] at hz'
  exact q z H' s hz hz'
end
/-! ### spoilt texts -/
def tCutT (t : TS) : TS := fun D σ H => ∃ J : L2.St → Hp → Prop, t { nx := J, rt := D.rt, bk := D.bk, ct := D.ct } σ H ∧ ∀ σ' H', J σ' H' → D.nx σ' H'
theorem pst_cut {X : Cx} {st : Stmt} {t : TS} (h : PST X st t) : PST X st (tCutT t) := by
  intro pins s σ H D h0 I hh
  obtain ⟨J, h1, h2⟩ := hh
  refine thn (h pins s σ H _ h0 I h1) fun f s1 q => ?_
  cases f with
  | next => exact let ⟨σ', H', I', j⟩ := q; ⟨σ', H', I', h2 σ' H' j⟩
  | ret v => exact q
  | brk => exact q
  | cont => exact q
theorem qs_cut {X : Cx} {st : Stmt} {t : TS} (h : QS X st t) : QS X st (tCutT t) := ⟨pst_cut h.p⟩
theorem asc_cat {a b : Str} (ha : Ascii a) (hb : Ascii b) : Ascii (a ++ b) := fun c hc => by
  rw [TL.tl_append] at hc
  rcases List.mem_append.mp hc with h | h
  · exact ha c h
  · exact hb c h
theorem len_cat (a b : Str) : (a ++ b).length = a.length + b.length := by
  rw [TL.len_tl, TL.len_tl a, TL.len_tl b, TL.tl_append, List.length_append]
theorem catl {a b : Str} {x y : Nat} (ha : a.length ≤ x) (hb : b.length ≤ y) : (a ++ b).length ≤ x + y := by rw [len_cat]; omega
theorem add2 {a b : Str} {x y : Nat} (ha : a.length ≤ x) (hb : b.length ≤ y) (h : x + y ≤ 10000) : a.length + b.length ≤ sizeLine := Nat.le_trans (by omega : a.length + b.length ≤ 10000) (by decide)
theorem asc_cut {z : Str} (h : Ascii z) (lo hi : Option Int) : Ascii (cutS z lo hi) := fun c hc => by
  have hc' : c ∈ (z.cps.toList.drop (HT.sIx z.length 0 lo)).take (HT.sIx z.length z.length hi - HT.sIx z.length 0 lo) := hc
  exact h c (List.mem_of_mem_drop (List.mem_of_mem_take hc'))
theorem asc_glued {z : Str} {ws : List Str} (hz : Ascii z) (h : ∀ w ∈ ws, Ascii w) : Ascii (Txt.join z ws) := fun c hc => by
  rcases PySem.glued_mem z ws c hc with h' | ⟨p, hp, h'⟩
  · exact hz c h'
  · exact h p hp c h'
theorem asc_repl {x y z : Str} {k : Int} (hx : Ascii x) (hz : Ascii z) : Ascii (Txt.replaceN x y z k) := fun c hc => by
  rcases PySem.replaceN_mem x y z k c hc with h | h
  · exact hx c h
  · exact hz c h
def asciiB (x : Str) : Bool := (TL.tl x).all fun c => decide (c < 128)
theorem asc_of {x : Str} (h : asciiB x = true) : Ascii x := fun c hc => of_decide_eq_true (List.all_eq_true.mp h c hc)
theorem words_sum : ∀ {l : List Str}, (∀ w ∈ l, w.length ≤ 4) → (l.map (·.length)).sum ≤ 4 * l.length
  | [], _ => Nat.le_refl _
  | a :: l, h => by
    have h1 := h a List.mem_cons_self
    have h2 := words_sum (l := l) fun w hw => h w (List.mem_cons_of_mem _ hw)
    rw [List.map_cons, List.sum_cons, List.length_cons]
    omega
/-- few short words -/
def Wds (ws : List Str) : Prop := ws.length ≤ 402 ∧ ∀ w ∈ ws, Ascii w ∧ w.length ≤ 4
theorem wds_sum {ws : List Str} (h : Wds ws) : (ws.map (·.length)).sum + ws.length * ((" " : Str)).length ≤ 2010 := by
  have := words_sum fun w hw => (h.2 w hw).2
  have := h.1
  rw [blank_len]
  omega
theorem wds_join {ws : List Str} (h : Wds ws) : (Txt.join " " ws).length ≤ 5000 ∧ Ascii (Txt.join " " ws) := by
  refine ⟨?_, asc_glued (asc_of (by decide +kernel)) fun w hw => (h.2 w hw).1⟩
  rw [TL.join_eq]
  exact Nat.le_trans (PySem.StrLaws.join_length_le _ _) (Nat.le_trans (wds_sum h) (by decide))
def spoilSigns : List Nat := TL.tl " 0123456789 -+n,_.a"
def others : List Str := ["00", "01", "200", "199", "1000", "", "none", "-1", "+1", "1_0", "1e1"]
theorem others_ok : ∀ w ∈ others, Ascii w ∧ w.length ≤ 4 := by
  have h : (others.all fun w => asciiB w && decide (w.length ≤ 4)) = true := by decide +kernel
  intro w hw
  have := List.all_eq_true.mp h w hw
  rw [Bool.and_eq_true, decide_eq_true_eq] at this
  exact ⟨asc_of this.1, this.2⟩
def spSpoilt : Sp := fun vs H Q _ => ∃ (t : Str) (m : Int) (ws : List Str), vs = [.str t, .int m] ∧ t.length ≤ 800 ∧ Ascii t ∧ Txt.split t " " = ws ∧ ws ≠ [] ∧ ws.length ≤ 200 ∧ (∀ w ∈ ws, Ascii w ∧ w.length ≤ 4) ∧
  ∀ (u : Str) H', u.length ≤ 5000 → Ascii u → Same H H' → Q (.str u) H'
theorem cutV_map (ws : List Str) (lo hi : Option Int) : cutV (ws.map V.str) lo hi = ((ws.drop (HT.sIx ws.length 0 lo)).take (HT.sIx ws.length ws.length hi - HT.sIx ws.length 0 lo)).map V.str := by
  unfold cutV
  rw [List.length_map, List.map_take, List.map_drop]
abbrev cutW (ws : List Str) (lo hi : Option Int) : List Str := (ws.drop (HT.sIx ws.length 0 lo)).take (HT.sIx ws.length ws.length hi - HT.sIx ws.length 0 lo)
theorem cutW_mem {ws : List Str} {lo hi : Option Int} {w : Str} (h : w ∈ cutW ws lo hi) : w ∈ ws := List.mem_of_mem_drop (List.mem_of_mem_take h)
theorem cutW_len (ws : List Str) (lo hi : Option Int) : (cutW ws lo hi).length ≤ ws.length := by
  rw [List.length_take, List.length_drop]; omega
section
variable {P : Program} {w : World} {K : PySem.W.Frag} {mg : Str → Option Value} {base : Heap}
abbrev NSp : List Str := ["_law_text", "_law_mix", "_law_place", "_law_sign", "_law_way", "_law_words", "_law_spot", "_law_other"]
theorem scSp : FnScope NSp ["_law_text", "_law_mix"] (defScope s_law_spoilt) := ⟨rfl, rfl, rfl, by decide +kernel, rfl, by decide +kernel, by decide +kernel⟩
theorem ok_spoilt {f : Addr} {fd : FuncData} (F : Fun K "_law_spoilt" "_law_spoilt" s_law_spoilt f fd) (L : LG mg) : FnOk P w K mg base CX0 1 f fd ["_law_text", "_law_mix"] spSpoilt := by
  refine F.ok scSp (fun vs H Q E h => ?_) (fun cdv A outer s H vs Q E hr h => ?_)
  · obtain ⟨t, m, ws, rfl, _⟩ := h
    rfl
  · obtain ⟨t, m, ws, rfl, hl, ha, hsp, hne, lws, hws, k⟩ := h
    refine ⟨_, qss_tok (i := 2) scSp.nd rfl (Or.inl rfl) (qo_op op_mod (pe_op op_fdiv (pv 1) pe_int) (qo_op op_add (pe_callB call_len_str (by rfl) L.len PySem.boot_len (pa_cons (pv 0) pa_nil)) qo_int))
      (qss_cons (QS.of (ps_set (i := 3) scSp.nd rfl (Or.inl rfl) (pe_ix ix_str pe_str (pe_op op_mod (pe_op op_fdiv (pv 1) pe_int) pe_int) (fun _ _ => rfl))))
      (qss_cons (QS.of (ps_set (i := 4) scSp.nd rfl (Or.inl rfl) (pe_op op_mod (pv 1) pe_int)))
      (qss_cons (QS.of (ps_if (pt_cmpR op_eq (pv 4) pe_int (nomark _)) (pss_one (ps_ret (pe_op op_add_str (pe_op op_add_str (pe_slice sl_str (pv 0) po_none (po_some (pv 2))) (pv 3)) (pe_slice sl_str (pv 0) (po_some (pv 2)) po_none)))) pss_nil))
      (qss_cons (QS.of (ps_if (pt_cmpR op_eq (pv 4) pe_int (nomark _)) (pss_one (ps_ret (pe_op op_add_str (pe_slice sl_str (pv 0) po_none (po_some (pv 2))) (pe_slice sl_str (pv 0) (po_some (pe_op op_add (pv 2) pe_int)) po_none)))) pss_nil))
      (qss_cons (QS.of (ps_if (pt_cmpR op_eq (pv 4) pe_int (nomark _)) (pss_one (ps_ret (pe_op op_add_str (pe_op op_add_str (pe_slice sl_str (pv 0) po_none (po_some (pv 2))) (pv 3)) (pe_slice sl_str (pv 0) (po_some (pe_op op_add (pv 2) pe_int)) po_none)))) pss_nil))
      (qss_cons (QS.of (ps_set (i := 5) scSp.nd rfl (Or.inl rfl) (pe_split (pv 0) pe_str)))
      (qss_cons (QS.of (ps_set (i := 6) scSp.nd rfl (Or.inl rfl) (pe_op op_mod (pe_op op_fdiv (pv 1) pe_int) (pe_callB call_len_seq (by rfl) L.len PySem.boot_len (pa_cons (pv 5) pa_nil)))))
      (qss_cons (QS.of (ps_set (i := 7) scSp.nd rfl (Or.inl rfl) (pe_ix ix_list (pe_lst (pa_cons pe_str (pa_cons pe_str (pa_cons pe_str (pa_cons pe_str (pa_cons pe_str (pa_cons pe_str (pa_cons pe_str (pa_cons pe_str (pa_cons pe_str (pa_cons pe_str (pa_cons pe_str pa_nil)))))))))))) (pe_op op_mod (pe_op op_fdiv (pv 1) pe_int) pe_int) (fun _ _ => rfl))))
      (qss_cons (qs_cut (qs_if (pt_cmpR op_eq (pv 4) pe_int (nomark _)) (QSs.of (pss_one (ps_set (i := 5) scSp.nd rfl (Or.inl rfl) (pe_op op_cat (pe_op op_cat (pe_slice sl_list (pv 5) po_none (po_some (pv 6))) (pe_lst (pa_cons (pv 7) pa_nil))) (pe_slice sl_list (pv 5) (po_some (pe_op op_add (pv 6) pe_int)) po_none)))))
        (qss_one (qs_if (pt_cmpR op_eq (pv 4) pe_int (nomark _)) (QSs.of (pss_one (ps_set (i := 5) scSp.nd rfl (Or.inl rfl) (pe_op op_cat (pe_op op_cat (pe_slice sl_list (pv 5) po_none (po_some (pv 6))) (pe_lst (pa_cons (pe_ix ix_list (pv 5) (pv 6) (fun _ _ => rfl)) pa_nil))) (pe_slice sl_list (pv 5) (po_some (pv 6)) po_none)))))
        (qss_one (qs_if (pt_cmpR op_eq (pv 4) pe_int (nomark _)) (QSs.of (pss_one (ps_set (i := 5) scSp.nd rfl (Or.inl rfl) (pe_revL (pv 5)))))
        (qss_one (qs_if (pt_cmpR op_eq (pv 4) pe_int (nomark _)) (qss_one (qs_ret (qe_ix ix_list (qe_lst (qa_cons (QE.of (pe_op op_add_str pe_str (pv 0))) (qa_cons (QE.of (pe_op op_add_str (pv 0) pe_str)) (qa_cons (QE.of (pe_op op_add_str (pv 0) pe_str)) (qa_cons (qe_replC1 (pv 0) (by decide +kernel)) (qa_cons (QE.of pe_str) qa_nil)))))) (pe_op op_mod (pe_op op_fdiv (pv 1) pe_int) pe_int) (fun _ _ => rfl))))
          (QSs.of (pss_one (ps_set (i := 5) scSp.nd rfl (Or.inl rfl) (pe_op op_cat (pv 5) (pe_lst (pa_cons (pv 7) pa_nil))))))))))))))
      (QSs.of (pss_one (ps_ret (pe_join pe_str (pv 5)))))))))))))), ?_⟩
    have big : ∀ n : Nat, n ≤ 10000 → n ≤ sizeLine := fun n h => Nat.le_trans h (by decide)
    have hz : t.length ≤ sizeLine := big _ (by omega)
    have cl : ∀ lo hi, (cutS t lo hi).length ≤ 800 := fun lo hi => Nat.le_trans (cutS_length t lo hi) hl
    have ca : ∀ lo hi, Ascii (cutS t lo hi) := fun lo hi => asc_cut ha lo hi
    -- place
    refine ⟨_, rfl, _, _, rfl, rfl, ⟨by decide, by decide⟩, _, rfl, t, rfl, hz, _, _, rfl, rfl, _, _, rfl, rfl, (by show (0 : Int) < (t.length : Int) + 1; omega), ?_⟩
    -- sign
    obtain ⟨c, hc, c128⟩ : ∃ c, atI (TL.tl " 0123456789 -+n,_.a") (m / 9000 % 19) = some c ∧ c < 128 := by
      obtain ⟨j, ej, hj⟩ : ∃ j : Nat, m / 9000 % 19 = (j : Int) ∧ j < 19 := by
        have h0 := Int.emod_nonneg (m / 9000) (b := 19) (by decide)
        have h1 := Int.emod_lt_of_pos (m / 9000) (b := 19) (by decide)
        exact ⟨(m / 9000 % 19).toNat, by omega, by omega⟩
      have e : TL.tl " 0123456789 -+n,_.a" = [32, 48, 49, 50, 51, 52, 53, 54, 55, 56, 57, 32, 45, 43, 110, 44, 95, 46, 97] := by decide +kernel
      rw [e, ej]
      have hl : j < ([32, 48, 49, 50, 51, 52, 53, 54, 55, 56, 57, 32, 45, 43, 110, 44, 95, 46, 97] : List Nat).length := hj
      refine ⟨_, atI_nat (List.getElem?_eq_getElem hl), ?_⟩
      have := List.getElem_mem hl
      generalize ([32, 48, 49, 50, 51, 52, 53, 54, 55, 56, 57, 32, 45, 43, 110, 44, 95, 46, 97] : List Nat)[j] = y at this
      simp only [List.mem_cons, List.not_mem_nil, or_false] at this
      omega
    refine ⟨_, rfl, _, _, rfl, rfl, ⟨by decide, by decide⟩, _, _, rfl, rfl, (by show (0 : Int) < 19; decide), _, _, c, rfl, rfl, (by decide +kernel), hc, ?_⟩
    have cg : Ascii ⟨#[c]⟩ := fun d hd => by
      have hd' : d ∈ [c] := hd
      rw [List.mem_singleton] at hd'
      omega
    have clen : ((⟨#[c]⟩ : Str)).length = 1 := rfl
    -- way
    refine ⟨_, rfl, _, _, rfl, rfl, (by show (0 : Int) < 9; decide), ?_⟩
    -- 0, 1, 2
    refine ⟨_, rfl, rfl, _, rfl, ite2 (fun _ => ?_) (fun _ => ?_)⟩
    · refine ⟨_, rfl, ?_⟩
      try unfold tNoPart
      refine ⟨_, rfl, _, rfl, t, rfl, hz, _, rfl, _, _, rfl, rfl, add2 (cl _ _) (Nat.le_of_eq clen) (by decide), _, rfl, _, rfl, _, rfl, ?_⟩
      try unfold tNoPart
      exact ⟨t, rfl, hz, _, _, rfl, rfl, add2 (catl (cl _ _) (Nat.le_of_eq clen)) (cl _ _) (by decide), k _ H (Nat.le_trans (catl (catl (cl _ _) (Nat.le_of_eq clen)) (cl _ _)) (by decide)) (asc_cat (asc_cat (ca _ _) cg) (ca _ _)) (Same.refl _)⟩
    refine ⟨_, rfl, rfl, _, rfl, ite2 (fun _ => ?_) (fun _ => ?_)⟩
    · refine ⟨_, rfl, ?_⟩
      try unfold tNoPart
      refine ⟨_, rfl, _, rfl, t, rfl, hz, _, rfl, _, rfl, _, _, rfl, rfl, _, rfl, ?_⟩
      try unfold tNoPart
      exact ⟨t, rfl, hz, _, _, rfl, rfl, add2 (cl _ _) (cl _ _) (by decide), k _ H (Nat.le_trans (catl (cl _ _) (cl _ _)) (by decide)) (asc_cat (ca _ _) (ca _ _)) (Same.refl _)⟩
    refine ⟨_, rfl, rfl, _, rfl, ite2 (fun _ => ?_) (fun _ => ?_)⟩
    · refine ⟨_, rfl, ?_⟩
      try unfold tNoPart
      refine ⟨_, rfl, _, rfl, t, rfl, hz, _, rfl, _, _, rfl, rfl, add2 (cl _ _) (Nat.le_of_eq clen) (by decide), _, rfl, _, rfl, _, _, rfl, rfl, _, rfl, ?_⟩
      try unfold tNoPart
      exact ⟨t, rfl, hz, _, _, rfl, rfl, add2 (catl (cl _ _) (Nat.le_of_eq clen)) (cl _ _) (by decide), k _ H (Nat.le_trans (catl (catl (cl _ _) (Nat.le_of_eq clen)) (cl _ _)) (by decide)) (asc_cat (asc_cat (ca _ _) cg) (ca _ _)) (Same.refl _)⟩
    -- words
    refine ⟨_, rfl, ⟨_, rfl⟩, t, _, rfl, rfl, (by decide +kernel), big _ (by omega), fun p hp => ?_⟩
    rw [hsp]
    have sp := same_new (o := .lst (ws.map V.str)) hp
    have hpw : upd H p (.lst (ws.map V.str)) p = some (.lst (ws.map V.str)) := upd_same
    have lm : (ws.map V.str).length = ws.length := List.length_map _
    have lpos : 0 < ws.length := List.length_pos_iff.mpr hne
    refine ⟨_, rfl, _, _, rfl, rfl, ⟨by decide, by decide⟩, _, rfl, p, _, rfl, .inl (SqL.of hpw), _, _, rfl, rfl, (by rw [lm]; omega), ?_⟩
    obtain ⟨H1, eH1⟩ : ∃ H1, H1 = upd H p (.lst (ws.map V.str)) := ⟨_, rfl⟩
    rw [← eH1] at sp hpw ⊢
    -- other
    refine ⟨(by show 11 ≤ sizeLine; decide), fun lo hlo => ?_⟩
    have so := same_new (o := .lst [.str "00", .str "01", .str "200", .str "199", .str "1000", .str "", .str "none", .str "-1", .str "+1", .str "1_0", .str "1e1"]) hlo
    obtain ⟨v, hv, mv⟩ := at_drawn [.str "00", .str "01", .str "200", .str "199", .str "1000", .str "", .str "none", .str "-1", .str "+1", .str "1_0", .str "1e1"] (i := m / 900 % 11) (Int.emod_nonneg _ (by decide)) (Int.emod_lt_of_pos _ (by decide))
    obtain ⟨o, rfl, oa, ol⟩ : ∃ o, v = V.str o ∧ Ascii o ∧ o.length ≤ 4 := by
      have mv' : v ∈ others.map V.str := mv
      obtain ⟨o, ho, e⟩ := List.mem_map.mp mv'
      exact ⟨o, e.symm, others_ok o ho⟩
    refine ⟨_, rfl, _, _, rfl, rfl, ⟨by decide, by decide⟩, _, _, rfl, rfl, (by show (0 : Int) < 11; decide), lo, _, _, _, rfl, rfl, SqL.of upd_same, hv, ?_⟩
    have s2 := sp.trans so
    have hpw2 := so _ _ hpw
    obtain ⟨H2, eH2⟩ : ∃ H2, H2 = upd H1 lo (.lst [.str "00", .str "01", .str "200", .str "199", .str "1000", .str "", .str "none", .str "-1", .str "+1", .str "1_0", .str "1e1"]) := ⟨_, rfl⟩
    rw [← eH2] at s2 hpw2 ⊢
    refine ⟨fun σ' G => ∃ v0 v1 v2 v3 v4 q v6 v7 us, σ' = [v0, v1, v2, v3, v4, some (.ref q), v6, v7] ∧ G q = some (.lst (us.map V.str)) ∧ Wds us ∧ Same H G, ?_, ?_⟩
    · have lc : ∀ lo hi, (cutV (ws.map V.str) lo hi).length ≤ 200 := fun lo hi => by
        rw [cutV_map, List.length_map]
        exact Nat.le_trans (cutW_len ws lo hi) lws
      refine ⟨_, rfl, rfl, _, rfl, ite2 (fun _ => ?_) (fun _ => ?_)⟩
      · refine ⟨_, rfl, ?_⟩
        try unfold tNoPart
        refine ⟨_, rfl, _, rfl, p, _, rfl, SqL.of hpw2, fun pa na => ⟨_, rfl, (by show 1 ≤ sizeLine; decide), fun pb nb => ⟨pa, pb, _, _, rfl, rfl, (same_new nb) _ _ upd_same, upd_same, ?_, fun pc nc => ?_⟩⟩⟩
        · have := lc none (some (m / 9 % ((ws.map V.str).length : Int)))
          exact Nat.le_trans (by show _ + 1 ≤ 10000; omega) (by decide : 10000 ≤ sizeLine)
        have g3 := ((same_new (o := .lst (cutV (ws.map V.str) none (some (m / 9 % ((ws.map V.str).length : Int))))) na).trans (same_new (o := .lst [.str o]) nb)).trans (same_new (o := .lst (cutV (ws.map V.str) none (some (m / 9 % ((ws.map V.str).length : Int))) ++ [.str o])) nc)
        refine ⟨_, rfl, _, rfl, _, _, rfl, rfl, _, rfl, ?_⟩
        try unfold tNoPart
        refine ⟨p, _, rfl, SqL.of (g3 _ _ hpw2), fun pd nd => ⟨pc, pd, _, _, rfl, rfl, (same_new nd) _ _ upd_same, upd_same, ?_, fun pe ne => ?_⟩⟩
        · have h1 := lc none (some (m / 9 % ((ws.map V.str).length : Int)))
          have h2 := lc (some (m / 9 % ((ws.map V.str).length : Int) + 1)) none
          rw [List.length_append]
          exact Nat.le_trans (by show _ + 1 + _ ≤ 10000; omega) (by decide : 10000 ≤ sizeLine)
        refine ⟨_, _, _, _, _, pe, _, _, cutW ws none (some (m / 9 % ((ws.map V.str).length : Int))) ++ [o] ++ cutW ws (some (m / 9 % ((ws.map V.str).length : Int) + 1)) none, rfl, ?_, ⟨?_, fun w hw => ?_⟩, s2.trans ((g3.trans (same_new nd)).trans (same_new ne))⟩
        · rw [upd_same, List.map_append, List.map_append, ← cutV_map, ← cutV_map]; rfl
        · have h1 := cutW_len ws none (some (m / 9 % ((ws.map V.str).length : Int)))
          have h2 := cutW_len ws (some (m / 9 % ((ws.map V.str).length : Int) + 1)) none
          rw [List.length_append, List.length_append]
          show _ + 1 + _ ≤ 402
          omega
        · rcases List.mem_append.mp hw with h | h
          · rcases List.mem_append.mp h with h | h
            · exact hws w (cutW_mem h)
            · rw [List.mem_singleton] at h; subst h; exact ⟨oa, ol⟩
          · exact hws w (cutW_mem h)
      refine ⟨_, rfl, rfl, _, rfl, ite2 (fun _ => ?_) (fun _ => ?_)⟩
      · obtain ⟨v4, hv4, mv4⟩ := at_drawn (ws.map V.str) (i := m / 9 % ((ws.map V.str).length : Int)) (Int.emod_nonneg _ (by rw [lm]; omega)) (Int.emod_lt_of_pos _ (by rw [lm]; omega))
        obtain ⟨x4, hx4, rfl⟩ := List.mem_map.mp mv4
        refine ⟨_, rfl, ?_⟩
        try unfold tNoPart
        refine ⟨_, rfl, _, rfl, p, _, rfl, SqL.of hpw2, fun pa na => ⟨_, rfl, _, rfl, p, _, _, _, rfl, rfl, SqL.of ((same_new na) _ _ hpw2), hv4, (by show 1 ≤ sizeLine; decide), fun pb nb => ⟨pa, pb, _, _, rfl, rfl, (same_new nb) _ _ upd_same, upd_same, ?_, fun pc nc => ?_⟩⟩⟩
        · have := lc none (some (m / 9 % ((ws.map V.str).length : Int)))
          exact Nat.le_trans (by show _ + 1 ≤ 10000; omega) (by decide : 10000 ≤ sizeLine)
        have g3 := ((same_new (o := .lst (cutV (ws.map V.str) none (some (m / 9 % ((ws.map V.str).length : Int))))) na).trans (same_new (o := .lst [.str x4]) nb)).trans (same_new (o := .lst (cutV (ws.map V.str) none (some (m / 9 % ((ws.map V.str).length : Int))) ++ [.str x4])) nc)
        refine ⟨_, rfl, _, rfl, _, rfl, ?_⟩
        try unfold tNoPart
        refine ⟨p, _, rfl, SqL.of (g3 _ _ hpw2), fun pd nd => ⟨pc, pd, _, _, rfl, rfl, (same_new nd) _ _ upd_same, upd_same, ?_, fun pe ne => ?_⟩⟩
        · have h1 := lc none (some (m / 9 % ((ws.map V.str).length : Int)))
          have h2 := lc (some (m / 9 % ((ws.map V.str).length : Int))) none
          rw [List.length_append]
          exact Nat.le_trans (by show _ + 1 + _ ≤ 10000; omega) (by decide : 10000 ≤ sizeLine)
        refine ⟨_, _, _, _, _, pe, _, _, cutW ws none (some (m / 9 % ((ws.map V.str).length : Int))) ++ [x4] ++ cutW ws (some (m / 9 % ((ws.map V.str).length : Int))) none, rfl, ?_, ⟨?_, fun w hw => ?_⟩, s2.trans ((g3.trans (same_new nd)).trans (same_new ne))⟩
        · rw [upd_same, List.map_append, List.map_append, ← cutV_map, ← cutV_map]; rfl
        · have h1 := cutW_len ws none (some (m / 9 % ((ws.map V.str).length : Int)))
          have h2 := cutW_len ws (some (m / 9 % ((ws.map V.str).length : Int))) none
          rw [List.length_append, List.length_append]
          show _ + 1 + _ ≤ 402
          omega
        · rcases List.mem_append.mp hw with h | h
          · rcases List.mem_append.mp h with h | h
            · exact hws w (cutW_mem h)
            · rw [List.mem_singleton] at h; subst h; exact hws w hx4
          · exact hws w (cutW_mem h)
      refine ⟨_, rfl, rfl, _, rfl, ite2 (fun _ => ?_) (fun _ => ?_)⟩
      · refine ⟨_, rfl, p, _, rfl, SqL.of hpw2, fun pa na => ?_⟩
        refine ⟨_, _, _, _, _, pa, _, _, ws.reverse, rfl, ?_, ⟨by rw [List.length_reverse]; omega, fun w hw => hws w (List.mem_reverse.mp hw)⟩, s2.trans (same_new na)⟩
        rw [upd_same, List.map_reverse]
      refine ⟨_, rfl, rfl, _, rfl, ite2 (fun _ => ?_) (fun _ => ?_)⟩
      · have b1 : ((" " : Str)).length ≤ 10 := by decide +kernel
        have b2 : (("\n" : Str)).length ≤ 10 := by decide +kernel
        have a1 : Ascii " " := asc_of (by decide +kernel)
        have a2 : Ascii "\n" := asc_of (by decide +kernel)
        have a3 : Ascii "  " := asc_of (by decide +kernel)
        have l3 : (("  " : Str)).length = 2 := by decide +kernel
        refine ⟨_, rfl, _, _, rfl, rfl, add2 b1 hl (by decide), _, rfl, _, _, rfl, rfl, add2 hl b1 (by decide), _, rfl, _, _, rfl, rfl, add2 hl b2 (by decide), _, rfl, t, rfl, (by rw [l3]; omega), (by show 5 ≤ sizeLine; decide), fun l nl => ?_⟩
        obtain ⟨v5, hv5, mv5⟩ := at_drawn [.str (" " ++ t), .str (t ++ " "), .str (t ++ "\n"), .str (Txt.replaceN t " " "  " 1), .str ""] (i := m / 9 % 5) (Int.emod_nonneg _ (by decide)) (Int.emod_lt_of_pos _ (by decide))
        refine ⟨_, rfl, _, _, rfl, rfl, ⟨by decide, by decide⟩, _, _, rfl, rfl, (by show (0 : Int) < 5; decide), l, _, _, _, rfl, rfl, SqL.of upd_same, hv5, ?_⟩
        have g := s2.trans (same_new (o := .lst [.str (" " ++ t), .str (t ++ " "), .str (t ++ "\n"), .str (Txt.replaceN t " " "  " 1), .str ""]) nl)
        simp only [List.mem_cons, List.not_mem_nil, or_false] at mv5
        rcases mv5 with e | e | e | e | e <;> subst e
        · exact k _ _ (Nat.le_trans (catl b1 hl) (by decide)) (asc_cat a1 ha) g
        · exact k _ _ (Nat.le_trans (catl hl b1) (by decide)) (asc_cat ha a1) g
        · exact k _ _ (Nat.le_trans (catl hl b2) (by decide)) (asc_cat ha a2) g
        · refine k _ _ (Nat.le_trans (PySem.replaceN_len t " " "  ") ?_) (asc_repl ha a3) g
          rw [l3]; omega
        · exact k _ _ (by decide +kernel) (asc_of (by decide +kernel)) g
      · refine ⟨_, rfl, _, rfl, (by show 1 ≤ sizeLine; decide), fun pb nb => ⟨p, pb, _, _, rfl, rfl, (same_new nb) _ _ hpw2, upd_same, ?_, fun pc nc => ?_⟩⟩
        · exact Nat.le_trans (by show _ + 1 ≤ 10000; omega) (by decide : 10000 ≤ sizeLine)
        refine ⟨_, _, _, _, _, pc, _, _, ws ++ [o], rfl, ?_, ⟨by rw [List.length_append]; show _ + 1 ≤ 402; omega, fun w hw => ?_⟩, s2.trans ((same_new nb).trans (same_new nc))⟩
        · rw [upd_same, List.map_append]; rfl
        · rcases List.mem_append.mp hw with h | h
          · exact hws w h
          · rw [List.mem_singleton] at h; subst h; exact ⟨oa, ol⟩
    · rintro σ' G ⟨v0, v1, v2, v3, v4, q, v6, v7, us, rfl, hq, hu, g⟩
      have ⟨j1, j2⟩ := wds_join hu
      refine ⟨⟨_, rfl⟩, _, rfl, " ", q, us, rfl, rfl, .inl (SqL.of hq), Nat.le_trans (wds_sum hu) (by decide), ?_⟩
      exact k _ G j1 j2 g
end
end Dp
namespace Dp
open PySem PySem.Spec PyProof.Rows L2 DpR
/-! ### the law -/
def spLawT (K : PySem.W.Frag) (tb : Addr) : Sp := fun vs H Q _ => ∃ (a : Addr) (ns : List Int), vs = [.ref a] ∧ SqL K H a (ns.map V.int) ∧ ns.length ≤ 63 ∧ H tb = some (TabO tb) ∧ ∀ H', H' tb = some (TabO tb) → Q (.bl true) H'
theorem eqv_self {d : PyData} (h : SeqAt.shaped d = true) : PyData.eqv d d = true := SeqAt.eqv_refl _ (SeqAt.canLay_of_shaped h)
theorem strOk_asc {t : Str} (h : Ascii t) : PyData.canLay0 (.str t) = true := by
  show t.cps.all (fun c => decide (c < 0x110000)) = true
  rw [← Array.all_toList, List.all_eq_true]
  intro c hc
  have := h c hc
  exact decide_eq_true (by omega)
theorem told_ok : PyData.canLay0 (.str "told") = true := by decide +kernel
theorem text_shaped : SeqAt.shaped (.str "text") = true := by decide +kernel
def tdT (t : Str) : PyData := .tuple [.str "told", .str t]
def tdP (ds : List Nat) : PyData := .tuple [.str "told", dtI (iasc ds)]
theorem tdT_shaped {t : Str} (h : Ascii t) : SeqAt.shaped (tdT t) = true := by
  show ((PyData.canLay0 (.str "told") && (PyData.canLay0 (.str t) && true)) && decide (PyData.depth (tdT t) ≤ 64)) = true
  rw [told_ok, strOk_asc h]
  rfl
theorem tdP_shaped (ds : List Nat) : SeqAt.shaped (tdP ds) = true := by
  have ⟨a, b⟩ := dtI_lay (iasc ds)
  show ((PyData.canLay0 (.str "told") && (PyData.canLayAll0 ((iasc ds).map PyData.int) && true)) && decide (PyData.depth (tdP ds) ≤ 64)) = true
  rw [told_ok, a, Bool.true_and, Bool.true_and, Bool.true_and]
  refine decide_eq_true ?_
  show max 0 (max (PyData.depthAll ((iasc ds).map PyData.int) + 1) 0) + 1 ≤ 64
  rw [b]; decide
theorem dp_tdT {K : PySem.W.Frag} {H : Hp} {p : Addr} {t : Str} (h : H p = some (.tup [.str "told", .str t])) : L2.Dp K H (.ref p) (tdT t) := .tup (SqT.of h) (.cons (.str _) (.cons (.str _) .nil))
theorem dp_tdP {K : PySem.W.Frag} {H : Hp} {p q : Addr} {ds : List Nat} (h : H p = some (.tup [.str "told", .ref q])) (h2 : H q = some (.tup (asc ds))) : L2.Dp K H (.ref p) (tdP ds) := .tup (SqT.of h) (.cons (.str _) (.cons (dp_tup h2) .nil))
/-- the text of a pick, its words -/
theorem wd_ascii {n : Nat} (h : n < 200) : Ascii (wd n) := fun c hc => by
  have := List.all_eq_true.mp (wd_dg n h).1 c hc
  obtain ⟨a, ha, rfl⟩ := dg_ex this
  omega
theorem none_words : Txt.split "none" " " = [("none" : Str)] := by decide +kernel
theorem txt_words {ds : List Nat} (h : Desc 200 ds) : ∃ ws, Txt.split (txt ds) " " = ws ∧ ws ≠ [] ∧ ws.length ≤ 200 ∧ ∀ w ∈ ws, Ascii w ∧ w.length ≤ 4 := by
  by_cases n : ds = []
  · subst n
    refine ⟨_, none_words, by simp, by decide, fun w hw => ?_⟩
    rw [List.mem_singleton] at hw
    subst hw
    exact ⟨asc_of (by decide +kernel), by decide +kernel⟩
  · have e : txt ds = Txt.join " " (ds.reverse.map wd) := if_neg n
    rw [e]
    refine ⟨_, txt_split h n, by simpa using n, ?_, fun w hw => ?_⟩
    · have := h.len
      rw [List.length_map, List.length_reverse]
      exact this
    · obtain ⟨t, ht, rfl⟩ := List.mem_map.mp hw
      have hn := h.mem t (List.mem_reverse.mp ht)
      exact ⟨wd_ascii hn, Nat.le_trans (wd_len t hn) (by decide)⟩
theorem txt_ascii {ds : List Nat} (h : Desc 200 ds) : Ascii (txt ds) := by
  unfold txt
  split
  · exact asc_of (by decide +kernel)
  · refine asc_glued (asc_of (by decide +kernel)) fun w hw => ?_
    obtain ⟨t, ht, rfl⟩ := List.mem_map.mp hw
    exact wd_ascii (h.mem t (List.mem_reverse.mp ht))
theorem empty_words : Txt.split "" " " = [("" : Str)] := by decide +kernel
theorem join_ne {ds : List Nat} (h : Desc 200 ds) (n : ds ≠ []) : (Txt.join " " (ds.reverse.map wd)).length ≠ 0 := fun e => by
  have e0 : Txt.join " " (ds.reverse.map wd) = "" := by
    refine TL.ext_tl ?_
    rw [TL.len_tl] at e
    rw [List.length_eq_zero_iff.mp e]
    decide +kernel
  have hs := txt_split h n
  rw [e0, empty_words] at hs
  cases hr : ds.reverse with
  | nil => exact n (by simpa using hr)
  | cons t l =>
    rw [hr] at hs
    have ht : t < 200 := h.mem t (by have : t ∈ ds.reverse := by rw [hr]; exact List.mem_cons_self
                                     exact List.mem_reverse.mp this)
    have e2 : ("" : Str) = wd t := (List.cons.inj hs).1
    have := (wd_dg t ht).2
    rw [← e2] at this
    exact this (by decide +kernel)
/-- what is no pick -/
def flatD : V → Bool
  | .non => true
  | .bl _ => true
  | .int _ => true
  | .str _ => true
  | _ => false
theorem flat_dt {H : Hp} {x : V} (h : flatD x = true) : Dt H x := by
  cases x <;> first | exact .non | exact .bl _ | exact .int _ | exact .str _ | exact absurd h (by decide) | exact absurd h Bool.false_ne_true
def NoPk (H : Hp) (x : V) : Prop := DtIn H x ∧ ¬ ∃ ds, IsSet H x 200 ds
theorem nopk_flat {H : Hp} {x : V} (h : flatD x = true) : NoPk H x := by
  refine ⟨⟨flat_dt h, fun a b xs e => ?_⟩, fun ⟨ds, a, b, e, _⟩ => ?_⟩
  · subst e; exact absurd h Bool.false_ne_true
  · subst e; exact absurd h Bool.false_ne_true
theorem nopk_tup {H : Hp} {p : Addr} {xs : List V} (h : H p = some (.tup xs)) (hf : xs.all flatD = true) (hr : risV 200 0 xs = false) : NoPk H (.ref p) := by
  have same : ∀ {a : Addr} {b : Bool} {ys : List V}, V.ref p = .ref a → H a = some (rowO b ys) → ys = xs := by
    intro a b ys e h'
    cases e
    rw [h] at h'
    cases b <;> first | exact (HO.tup.inj (Option.some.inj h')).symm | cases h'
  refine ⟨⟨.row true xs h, fun a b ys e h' y hy => ?_⟩, fun ⟨ds, a, b, e, h', hd⟩ => ?_⟩
  · rw [same e h'] at hy
    exact flat_dt (List.all_eq_true.mp hf y hy)
  · rw [← same e h'] at hr
    have := desc_ris hd
    rw [show ((200 : Nat) : Int) = 200 from rfl, hr] at this
    cases this
theorem NoPk.mono {H H' : Hp} {x : V} (h : NoPk H x) (s : Same H H') : NoPk H' x := by
  refine ⟨h.1.mono s, fun ⟨ds, a, b, e, h', hd⟩ => h.2 ?_⟩
  subst e
  cases h.1.1 with
  | row b' xs hx =>
    have h2 := s _ _ hx
    rw [h'] at h2
    exact ⟨ds, a, b, rfl, by rw [hx, ← h2], hd⟩
  | dic kvs hx =>
    have h2 := s _ _ hx
    rw [h'] at h2
    cases b <;> cases h2
section
variable {P : Program} {w : World} {K : PySem.W.Frag} {mg : Str → Option Value} {base : Heap}
abbrev N13 : List Str := ["_law_script", "_law_k", "_law_cell", "_law_things", "_law_size_here", "_law_told", "_law_pick", "_law_text", "_law_thing", "_law_handed", "_law_turn", "_law_other", "_law_wrong"]
theorem scLaw : FnScope N13 ["_law_script"] (defScope s_law) := ⟨rfl, rfl, rfl, by decide +kernel, rfl, by decide +kernel, by decide +kernel⟩
structure Law13 (K : PySem.W.Frag) (mg : Str → Option Value) (CB CP CN CC CT PE : Addr) (fX fK fV fS fQ fD fN fU fP : Addr) (dX dK dV dS dQ dD dN dU dP : FuncData) : Prop where
  L : LG mg
  I : LI13 mg
  KG : KG mg CB CP CN CC CT
  pe : PeX K mg PE
  kP : KindX K CB CP CN CC CT CP 1
  kT : KindX K CB CP CN CC CT CT 4
  sP : PySem.W.subIn K (.ref CP) (.ref PE) = some true
  sT : PySem.W.subIn K (.ref CT) (.ref PE) = some true
  X : GX K mg fX dX
  Ka : GD K mg "_law_cell_at" s_law_cell_at ["_law_script", "_law_k"] fK dK
  Vi : GD K mg "_law_wide" s_law_wide ["_law_cell", "_law_bound"] fV dV
  Si : GD K mg "_law_size" s_law_size ["_law_cell"] fS dS
  Kd : GK K mg fQ dQ
  Do : GD K mg "_law_done" s_law_done ["_law_work", "_law_thing"] fD dD
  No : GD K mg "_law_number_of" s_law_number_of ["_law_word"] fN dN
  Du : GD K mg "_law_due" s_law_due ["_law_text"] fU dU
  Sp : GD K mg "_law_spoilt" s_law_spoilt ["_law_text", "_law_mix"] fP dP
/-- the def written, the def read: where they stand, what they promise -/
structure TextsB (P : Program) (w : World) (K : PySem.W.Frag) (mg : Str → Option Value) (base : Heap) (CP CT tb fW fR : Addr) (dW dR : FuncData) : Prop where
  kW : FnOk P w K mg base (L2.CX P w) 4 fW dW ["pick"] (spWritten CP tb)
  gW : mg "written" = some (.ref fW)
  pW : PySem.W.keepIn K (.ref fW) = true
  bW : Binds K dW ["pick"] []
  kR : FnOk P w K mg base (L2.CX P w) 3 fR dR ["text"] (spRead CT)
  gR : mg "read" = some (.ref fR)
  pR : PySem.W.keepIn K (.ref fR) = true
  bR : Binds K dR ["text"] []
theorem ok_law {C D CB CP CN CC CT PE tb fW fR fX fK fV fS fQ fD fN fU fP : Addr} {dW dR dX dK dV dS dQ dD dN dU dP : FuncData} {f : Addr} {fd : FuncData} (F : Fun K "law" "law" s_law f fd)
    (Z : Law13 K mg CB CP CN CC CT PE fX fK fV fS fQ fD fN fU fP dX dK dV dS dQ dD dN dU dP) (T : TextsB P w K mg base CP CT tb fW fR dW dR) (Pk : PicksB P w K mg base C CB 7) (Sk : SetsB P w K mg base D CB 7)
    (Pm : HasM P w K mg base C "many" [] 7 (spMany C)) (Pa : HasM P w K mg base C "at" ["number"] 7 (spAt C CN)) (Sm : HasM P w K mg base D "many" [] 7 (spSMany D)) (Sa : HasM P w K mg base D "at" ["number"] 7 (spSAt D CN)) : FnOk P w K mg base CX0 10 f fd ["_law_script"] (spLawT K tb) := by
  have kX : FnOk P w K mg base CX0 1 fX dX ["_law_cell", "_law_k"] spMixed := ok_mixed Z.X.F
  have kK : FnOk P w K mg base CX0 2 fK dK ["_law_script", "_law_k"] (spCellAt K) := ok_cellAt Z.Ka.F Z.L Z.X
  have kV : FnOk P w K mg base CX0 2 fV dV ["_law_cell", "_law_bound"] spWide := ok_wide Z.Vi.F Z.L Z.X
  have kS : FnOk P w K mg base CX0 2 fS dS ["_law_cell"] spSize := ok_size Z.Si.F Z.L Z.X
  have kDW : FnOk P w K mg base CX0 5 fD dD ["_law_work", "_law_thing"] (spDone K fW CB CP CN CC CT PE (spWritten CP tb)) := ok_done Z.Do.F Z.Kd Z.KG Z.pe T.kW T.pW T.bW (by decide) (by decide)
  have kDR : FnOk P w K mg base CX0 5 fD dD ["_law_work", "_law_thing"] (spDone K fR CB CP CN CC CT PE (spRead CT)) := ok_done Z.Do.F Z.Kd Z.KG Z.pe T.kR T.pR T.bR (by decide) (by decide)
  have kU : FnOk P w K mg base CX0 2 fU dU ["_law_text"] spDue := ok_due Z.Du.F Z.L Z.I Z.No
  have kP : FnOk P w K mg base CX0 1 fP dP ["_law_text", "_law_mix"] spSpoilt := ok_spoilt Z.Sp.F Z.L
  obtain ⟨lM, hM, fM, fdM, eM, bM, kM⟩ := tp_many Pm
  obtain ⟨lN, hN, fN', fdN, eN, bN, kN⟩ := ts_many Sm
  obtain ⟨lA, hA, fA, fdA, eA, bA, kA⟩ := tp_at Pa
  obtain ⟨lB, hB, fB, fdB, eB, bB, kB⟩ := ts_at Sa
  obtain ⟨fI, dI, mI, bI, lI, hI, kI⟩ := Pk.made
  obtain ⟨fJ, dJ, mJ, bJ, lJ, hJ, kJ⟩ := Sk.made
  have Bp : ToldB K C (atP C) := told_p Pk.T
  have Bs : ToldB K D (atS D) := told_s Sk.T
  obtain ⟨At, eAt⟩ : ∃ At : AtP, At = fun H p N c => atP C H p N c ∨ atS D H p N c := ⟨_, rfl⟩
  have mono : ∀ {H H' : Hp} {p : Addr} {N : Int} {c : Int → List Nat}, At H p N c → Same H H' → At H' p N c := by
    subst eAt
    intro H H' p N c h s
    exact h.imp (fun q => Bp.mono q s) (fun q => Bs.mono q s)
  have pos : ∀ {H : Hp} {p : Addr} {N : Int} {c : Int → List Nat}, At H p N c → 0 < N := by
    subst eAt
    intro H p N c h
    exact h.elim (fun q => Bp.pos q) (fun q => Bs.pos q)
  have row : ∀ {H : Hp} {p : Addr} {N : Int} {c : Int → List Nat}, At H p N c → ∀ i, 0 ≤ i → i < N → Desc 200 (c i) := by
    subst eAt
    intro H p N c h
    exact h.elim (fun q => Bp.row q) (fun q => Bs.row q)
  refine F.ok scLaw (fun vs H Q E h => ?_) (fun cdv A outer s H vs Q E hr h => ?_)
  · obtain ⟨a, ns, rfl, _⟩ := h
    rfl
  · obtain ⟨a, ns, rfl, hS, hlen, hTb, k⟩ := h
    have r1 : Room 1 _ := hr.mono (by decide)
    have r2 : Room 2 _ := hr.mono (by decide)
    have r5 : Room 5 _ := hr.mono (by decide)
    have rM : Room lM _ := hr.mono (by omega)
    have rN : Room lN _ := hr.mono (by omega)
    have rA : Room lA _ := hr.mono (by omega)
    have rB : Room lB _ := hr.mono (by omega)
    have rI : Room (lI + 1) _ := hr.mono (by omega)
    have rJ : Room (lJ + 1) _ := hr.mono (by omega)
    refine ⟨_, pss_cons (ps_for PassesOwn.never rfl (pi_range1 rfl Z.L.range (pa_cons (pe_callB (call_max2 rfl) (by rfl) Z.L.max (by decide +kernel) (pa_cons pe_int (pa_cons (pe_callB (call_min2 rfl) (by rfl) Z.L.min (by decide +kernel) (pa_cons pe_int (pa_cons (pe_callB call_len_seq (by rfl) Z.L.len PySem.boot_len (pa_cons (pv 0) pa_nil)) pa_nil))) pa_nil))) pa_nil)) (pg_name (i := 1) scLaw.nd rfl (Or.inl rfl))
        (pss_cons (ps_set (i := 2) scLaw.nd rfl (Or.inl rfl) (pe_call kK r2 rfl Z.Ka.g Z.Ka.F.kp Z.Ka.b .nil pass0 (pa_cons (pv 0) (pa_cons (pv 1) pa_nil))))
        (pss_cons (ps_asg (pe_call kS r2 rfl Z.Si.g Z.Si.F.kp Z.Si.b .nil pass0 (pa_cons (pv 2) pa_nil)) (pg_tup rfl (pgs_cons (pg_name (i := 3) scLaw.nd rfl (Or.inl rfl)) (pgs_cons (pg_name (i := 4) scLaw.nd rfl (Or.inl rfl)) pgs_nil))))
        (pss_cons (ps_cut (ps_set (i := 5) scLaw.nd rfl (Or.inl rfl) (pe_ix ix_list (pe_lst (pa_cons (pe_make mI kI rI rfl Pk.g bI .nil passL (pa_cons (pv 3) (pa_cons (pe_callB (call_min2 rfl) (by rfl) Z.L.min (by decide +kernel) (pa_cons (pv 4) (pa_cons pe_int pa_nil))) pa_nil))) (pa_cons (pe_make mJ kJ rJ rfl Sk.g bJ .nil passL (pa_cons (pe_op op_mod (pv 3) pe_int) pa_nil)) pa_nil))) (pe_op op_mod (pe_op op_fdiv (pv 2) pe_int) pe_int) (fun _ _ => rfl))))
        (pss_cons (ps_set (i := 6) scLaw.nd rfl (Or.inl rfl) (pe_weak (t' := fun σ H Q => ∃ p N c z, σ[5]? = some (some (.ref p)) ∧ σ[2]? = some (some (.int z)) ∧ At H p N c ∧ ∀ i q H', 0 ≤ i → i < N → Same H H' → H' q = some (.tup (asc (c i))) → Q (.ref q) H')
          (pe_either (pe_meth (pv 5) Bp.cl eA kA rA bA .nil passL (pa_cons (pe_call kV r2 rfl Z.Vi.g Z.Vi.F.kp Z.Vi.b .nil pass0 (pa_cons (pe_call kX r1 rfl Z.X.g Z.X.F.kp Z.X.b .nil pass0 (pa_cons (pv 2) (pa_cons pe_int pa_nil))) (pa_cons (pe_meth0 (pv 5) Bp.cl eM kM rM bM .nil passL) pa_nil))) pa_nil))
            (pe_meth (pv 5) Bs.cl eB kB rB bB .nil passL (pa_cons (pe_call kV r2 rfl Z.Vi.g Z.Vi.F.kp Z.Vi.b .nil pass0 (pa_cons (pe_call kX r1 rfl Z.X.g Z.X.F.kp Z.X.b .nil pass0 (pa_cons (pv 2) (pa_cons pe_int pa_nil))) (pa_cons (pe_meth0 (pv 5) Bs.cl eN kN rN bN .nil passL) pa_nil))) pa_nil))) (by
            subst eAt
            rintro σ H Q ⟨p, N, c, z, e, e2, h | h, q⟩
            · obtain ⟨dx, fs, h1, h2⟩ := Bp.ob h
              refine .inl ⟨_, e, p, dx, fs, rfl, h1, h2 _ (by decide +kernel) (by decide +kernel), _, e2, _, _, rfl, fun d hd => ?_⟩
              refine ⟨_, e, p, dx, fs, rfl, h1, h2 _ (by decide +kernel) (by decide +kernel), p, N, c, rfl, h, fun H' s => ⟨d, N, rfl, Bp.pos h, fun r r0 r1 => ?_⟩⟩
              exact ⟨p, N, c, r, rfl, Bp.mono h s, r0, r1, fun q' H'' s2 _ hq => q r q' H'' r0 r1 (s.trans s2) hq⟩
            · obtain ⟨dx, fs, h1, h2⟩ := Bs.ob h
              refine .inr ⟨_, e, p, dx, fs, rfl, h1, h2 _ (by decide +kernel) (by decide +kernel), _, e2, _, _, rfl, fun d hd => ?_⟩
              refine ⟨_, e, p, dx, fs, rfl, h1, h2 _ (by decide +kernel) (by decide +kernel), p, N, c, rfl, h, fun H' s => ⟨d, N, rfl, Bs.pos h, fun r r0 r1 => ?_⟩⟩
              exact ⟨p, N, c, r, rfl, Bs.mono h s, r0, r1, fun q' H'' s2 _ hq => q r q' H'' r0 r1 (s.trans s2) hq⟩)))
        (pss_cons (ps_cut (ps_set (i := 7) scLaw.nd rfl (Or.inl rfl) (pe_orT (pe_join pe_str (pe_lc (own := [("_law_thing", 8)]) (g := gName 8) (tt := tYes) rfl scLaw.nd (pi_tup (pv 6)) (blkOk_by (N := N13) (sc := defScope s_law) (by decide +kernel)) (fun _ _ _ _ _ => pg_name (i := 8) scLaw.nd rfl (Or.inl rfl)) (fun _ _ _ _ _ => pts_nil)
            (fun _ _ _ _ _ => pe_callTy call_str_int (by rfl) Z.I.str (by decide +kernel) (pa_cons (pv 8) pa_nil)))) (pe_one pe_str))))
        (pss_cons (ps_set (i := 9) scLaw.nd rfl (Or.inl rfl) (pe_callTy call_list_of (by rfl) Z.I.list (by decide +kernel) (pa_cons (pv 6) pa_nil)))
        (pss_cons (ps_cut (ps_if (PW.pt (pw_or (pt_cmpR (op_neD hr.units) (pe_call kDW r5 rfl Z.Do.g Z.Do.F.kp Z.Do.b .nil pass0 (pa_cons (pe_glob (v := .ref fW) (by rfl) T.gW rfl) (pa_cons (pv 6) pa_nil))) (pe_tup (pa_cons pe_str (pa_cons (pv 7) pa_nil))) (nomark _))
            (pw_or1 (pt_cmpR (op_neD hr.units) (pe_call kDW r5 rfl Z.Do.g Z.Do.F.kp Z.Do.b .nil pass0 (pa_cons (pe_glob (v := .ref fW) (by rfl) T.gW rfl) (pa_cons (pv 9) pa_nil))) (pe_tup (pa_cons pe_str (pa_cons (pv 7) pa_nil))) (nomark _))))) (pss_one (ps_ret pe_bl)) pss_nil))
        (pss_cons (ps_cut (ps_if (pt_cmpR (op_neD hr.units) (pv 9) (pe_callTy call_list_of (by rfl) Z.I.list (by decide +kernel) (pa_cons (pv 6) pa_nil)) (nomark _)) (pss_one (ps_ret pe_bl)) pss_nil))
        (pss_cons (ps_cut (ps_if (pt_cmpR (op_neD hr.units) (pe_call kDR r5 rfl Z.Do.g Z.Do.F.kp Z.Do.b .nil pass0 (pa_cons (pe_glob (v := .ref fR) (by rfl) T.gR rfl) (pa_cons (pv 7) pa_nil))) (pe_tup (pa_cons pe_str (pa_cons (pv 6) pa_nil))) (nomark _)) (pss_one (ps_ret pe_bl)) pss_nil))
        (pss_cons (ps_cut (ps_for PassesOwn.never rfl (pi_range1 rfl Z.L.range (pa_cons pe_int pa_nil)) (pg_name (i := 10) scLaw.nd rfl (Or.inl rfl))
          (pss_cons (ps_set (i := 11) scLaw.nd rfl (Or.inl rfl) (pe_call kP r1 rfl Z.Sp.g Z.Sp.F.kp Z.Sp.b .nil pass0 (pa_cons (pv 7) (pa_cons (pe_op op_fdiv (pe_call kX r1 rfl Z.X.g Z.X.F.kp Z.X.b .nil pass0 (pa_cons (pv 2) (pa_cons (pe_op op_add pe_int (pv 10)) pa_nil))) pe_int) pa_nil))))
          (pss_one (ps_if (pt_cmpR (op_neD hr.units) (pe_call kDR r5 rfl Z.Do.g Z.Do.F.kp Z.Do.b .nil pass0 (pa_cons (pe_glob (v := .ref fR) (by rfl) T.gR rfl) (pa_cons (pv 11) pa_nil))) (pe_call kU r2 rfl Z.Du.g Z.Du.F.kp Z.Du.b .nil pass0 (pa_cons (pv 11) pa_nil)) (nomark _)) (pss_one (ps_ret pe_bl)) pss_nil)))))
        (pss_cons (ps_cut (ps_set (i := 12) scLaw.nd rfl (Or.inl rfl) (pe_ix ix_list (pe_lst (pa_cons (pe_tup (pa_cons pe_int pa_nil)) (pa_cons (pe_tup (pa_cons (pe_un un_neg pe_int) pa_nil)) (pa_cons (pe_tup (pa_cons pe_int (pa_cons pe_int pa_nil))) (pa_cons (pe_tup (pa_cons pe_int (pa_cons pe_int pa_nil))) (pa_cons pe_non (pa_cons pe_str (pa_cons pe_int (pa_cons (pe_tup (pa_cons pe_str pa_nil)) (pa_cons (pe_tup (pa_cons pe_bl pa_nil)) (pa_cons (pe_tup (pa_cons pe_non pa_nil)) pa_nil)))))))))))
            (pe_op op_mod (pe_call kX r1 rfl Z.X.g Z.X.F.kp Z.X.b .nil pass0 (pa_cons (pv 2) (pa_cons pe_int pa_nil))) pe_int) (fun _ _ => rfl))))
        (pss_one (ps_if (pt_cmpR op_ne (pe_call kDW r5 rfl Z.Do.g Z.Do.F.kp Z.Do.b .nil pass0 (pa_cons (pe_glob (v := .ref fW) (by rfl) T.gW rfl) (pa_cons (pv 12) pa_nil))) pe_str (nomark _)) (pss_one (ps_ret pe_bl)) pss_nil))))))))))))))
      (pss_one (ps_ret pe_bl)), ?_⟩
    refine ⟨_, rfl, a, _, rfl, .inl hS, _, _, rfl, _, _, rfl, _, rfl, by rw [List.length_map]; (split <;> (try split) <;> omega), by rw [List.length_map]; (split <;> (try split) <;> omega), ?_⟩
    refine for_range (fun i σ H' => ∃ v1 v2 v3 v4 v5 v6 v7 v8 v9 v10 v11 v12, σ = [some (.ref a), v1, v2, v3, v4, v5, v6, v7, v8, v9, v10, v11, v12] ∧ Same H H') ⟨none, none, none, none, none, none, none, none, none, none, none, none, rfl, Same.refl _⟩ ?_ ?_
    · rintro i σ H' hi ⟨v1, v2, v3, v4, v5, v6, v7, v8, v9, v10, v11, v12, rfl, sA⟩
      refine ⟨_, rfl, _, rfl, a, ns, i, (by show [V.ref a, V.int (0 + (i : Int))] = [V.ref a, V.int (i : Int)]; rw [Int.zero_add]), sA.seq hS, fun cc hc => ?_⟩
      refine ⟨_, rfl, cc, rfl, hc.1, fun n m p H1 hn hm s1 hp1 hp => ?_⟩
      refine ⟨p, _, rfl, SqT.of hp, rfl, _, _, rfl, _, _, rfl, rfl, ?_⟩
      have sB := sA.trans s1
      refine ⟨fun σ' G => ∃ p5 N c, σ' = [some (.ref a), some (.int (0 + (i : Int))), some (.int cc), some (nv n), some (nv m), some (.ref p5), v6, v7, v8, v9, v10, v11, v12] ∧ At G p5 N c ∧ Same H1 G, ?_, ?_⟩
      · -- told
        obtain ⟨m', em, hm'⟩ : ∃ m' : Nat, (if (30 : Int) < (m : Int) then (30 : Int) else (m : Int)) = (m' : Int) ∧ m' ≤ n := by
          split
          · exact ⟨30, rfl, by omega⟩
          · exact ⟨m, rfl, hm⟩
        obtain ⟨n', en, hn'⟩ : ∃ n' : Nat, (n : Int) % 40 = (n' : Int) ∧ n' ≤ 200 := ⟨n % 40, by omega, by omega⟩
        have em' : V.int (if (30 : Int) < (m : Int) then (30 : Int) else (m : Int)) = nv m' := congrArg V.int em
        have en' : V.int ((n : Int) % 40) = nv n' := congrArg V.int en
        refine ⟨_, rfl, _, rfl, _, _, rfl, fun x dx nx ndx nex => ⟨x, dx, nv n, V.int (if (30 : Int) < (m : Int) then (30 : Int) else (m : Int)), rfl, upd_same, .int _, .int _, fun n2 m2 e1 e2 _ _ => ⟨rfl, ?_⟩, fun no => (no ⟨n, m', rfl, em', hn, hm'⟩).elim⟩⟩
        cases nv_inj e1
        cases nv_inj (em'.symm.trans e2)
        have s3 : Same H1 _ := same_made (C := C) (n := n) (m := m') nx ndx
        have pk : PkAt C _ x n m' := pk_made (dx := dx) (H := H1) hn hm'
        obtain ⟨H3, eH3⟩ : ∃ H3, H3 = upd (upd (upd H1 dx (.own x)) x (.ins C dx [])) x (.ins C dx (pkF n m')) := ⟨_, rfl⟩
        rw [← eH3] at s3 pk ⊢
        refine ⟨_, rfl, _, _, rfl, rfl, (by show (0 : Int) < 40; decide), fun y dy ny ndy ney => ⟨y, dy, V.int ((n : Int) % 40), rfl, upd_same, .int _, fun n2 e1 _ => ⟨rfl, ?_⟩, fun no => (no ⟨n', en', hn'⟩).elim⟩⟩
        cases nv_inj (en'.symm.trans e1)
        have s4 : Same H3 _ := same_mk (C := D) (fs := skF n') ny ndy
        have sk : SkAt D _ y n' := sk_made (dx := dy) (H := H3) hn'
        obtain ⟨H4, eH4⟩ : ∃ H4, H4 = upd (upd (upd H3 dy (.own y)) y (.ins D dy [])) y (.ins D dy (skF n')) := ⟨_, rfl⟩
        rw [← eH4] at s4 sk ⊢
        refine ⟨(by show 2 ≤ sizeLine; decide), fun l hl => ?_⟩
        have s5 := same_new (o := .lst [.ref x, .ref y]) hl
        obtain ⟨v, hv, mv⟩ := at_drawn [.ref x, .ref y] (i := cc / 1000 % 2) (Int.emod_nonneg _ (by decide)) (Int.emod_lt_of_pos _ (by decide))
        refine ⟨_, rfl, _, _, rfl, rfl, ⟨by decide, by decide⟩, _, _, rfl, rfl, (by show (0 : Int) < 2; decide), l, _, _, _, rfl, rfl, SqL.of upd_same, hv, ?_⟩
        have sC := (s3.trans s4).trans s5
        simp only [List.mem_cons, List.not_mem_nil, or_false] at mv
        subst eAt
        rcases mv with e | e <;> subst e
        · exact ⟨x, _, _, rfl, .inl ⟨n, m', (pk.mono s4).mono s5, rfl, rfl⟩, sC⟩
        · exact ⟨y, _, _, rfl, .inr ⟨n', sk.mono s5, rfl, rfl⟩, sC⟩
      rintro σ' H5 ⟨p5, N, c, rfl, hAt, sC⟩
      -- pick
      refine ⟨p5, N, c, cc, rfl, rfl, hAt, fun i0 q H6 i00 i01 s6 hq => ?_⟩
      obtain ⟨ds, eds⟩ : ∃ ds, ds = c i0 := ⟨_, rfl⟩
      have hd : Desc 200 ds := by rw [eds]; exact row hAt i0 i00 i01
      rw [← eds] at hq
      have sD := (sB.trans sC).trans s6
      have tA := txt_ascii hd
      have tL := txt_len hd
      have tT := tells_txt hd
      -- text
      refine ⟨fun σ' G => ∃ v8, σ' = [some (.ref a), some (.int (0 + (i : Int))), some (.int cc), some (nv n), some (nv m), some (.ref p5), some (.ref q), some (.str (txt ds)), v8, v9, v10, v11, v12] ∧ Same H6 G, ?_, ?_⟩
      · refine ⟨⟨_, rfl⟩, _, rfl, q, rfl, ⟨_, SqT.of hq⟩, fun D1 hD1 => lc_it (walk_tup (a := q) (xs := asc ds)) (fun j G => G D1 = some (.lst (((ds.reverse.map wd).take j).map V.str)) ∧ Same H6 G) ⟨upd_same, same_new hD1⟩ (fun j G _ ⟨_, g⟩ => SqT.of (g _ _ hq)) ?_ ?_⟩
        · rintro j y G G' hj ⟨hlG, g⟩ ⟨rfl, hy⟩
          have hy' : (ds.reverse.map nv)[j]? = some y := hy
          rw [List.getElem?_map] at hy'
          obtain ⟨t, ht, rfl⟩ := Option.map_eq_some_iff.mp hy'
          have t200 := hd.mem t (List.mem_reverse.mp (List.mem_of_getElem? ht))
          refine ⟨rfl, _, rfl, _, rfl, (Nat.lt_of_le_of_lt (Nat.log2_le_self _) (by show (t : Int).natAbs < 1920; omega)), _, hlG, ?_, ?_, fun b o e => ?_⟩
          · have := hd.len
            rw [List.length_map, List.length_take, List.length_map, List.length_reverse]; exact small1000 (by omega)
          · rw [upd_same, List.take_add_one, List.getElem?_map, ht, List.map_append]; rfl
          · rw [upd_ne (ne_of_none e hD1)]
            exact g _ _ e
        rintro G2 ⟨hlG, g2⟩
        have elen : (asc ds).length = (ds.reverse.map wd).length := by rw [asc_len, List.length_map, List.length_reverse]
        rw [elen, List.take_length] at hlG
        refine ⟨_, D1, ds.reverse.map wd, rfl, rfl, .inl (SqL.of hlG), Nat.le_trans (wd_total hd) (by decide), ?_⟩
        by_cases dn : ds = []
        · subst dn
          refine ⟨false, ⟨by decide +kernel, by decide +kernel⟩, ?_⟩
          exact ⟨_, rfl, g2⟩
        · have jn := join_ne hd dn
          have e : txt ds = Txt.join " " (ds.reverse.map wd) := if_neg dn
          rw [e] at tL
          refine ⟨true, ⟨Nat.le_trans tL (by decide), ?_⟩, ?_⟩
          · symm
            rw [bne_iff_ne]
            omega
          · rw [e]
            exact ⟨_, rfl, g2⟩
      rintro σ' H7 ⟨v8', rfl, s7⟩
      have hq7 := s7 _ _ hq
      have sE := sD.trans s7
      -- handed
      refine ⟨_, rfl, q, _, rfl, .inr (SqT.of hq7), fun lh hlh => ?_⟩
      have s8 : Same H7 (upd H7 lh (.lst (asc ds))) := same_new hlh
      have hl8 : upd H7 lh (.lst (asc ds)) lh = some (.lst (asc ds)) := upd_same
      obtain ⟨H8, eH8⟩ : ∃ H8, H8 = upd H7 lh (.lst (asc ds)) := ⟨_, rfl⟩
      rw [← eH8] at s8 hl8 ⊢
      have hq8 := s8 _ _ hq7
      have sF := sE.trans s8
      have hT8 := sF _ _ hTb
      have isq : IsSet H8 (.ref q) 200 ds := ⟨q, true, rfl, hq8, hd⟩
      have isl : IsSet H8 (.ref lh) 200 ds := ⟨lh, false, rfl, hl8, hd⟩
      -- the same but for what may stand in the last slots
      obtain ⟨Keep, eK⟩ : ∃ Keep : L2.St → Hp → Prop, Keep = fun σ' G => ∃ v10 v11 v12, σ' = [some (.ref a), some (.int (0 + (i : Int))), some (.int cc), some (nv n), some (nv m), some (.ref p5), some (.ref q), some (.str (txt ds)), v8', some (.ref lh), v10, v11, v12] ∧ Same H8 G := ⟨_, rfl⟩
      have iK : ∀ σ' G, Keep σ' G ↔ ∃ v10 v11 v12, σ' = [some (.ref a), some (.int (0 + (i : Int))), some (.int cc), some (nv n), some (nv m), some (.ref p5), some (.ref q), some (.str (txt ds)), v8', some (.ref lh), v10, v11, v12] ∧ Same H8 G := fun σ' G => by rw [eK]
      refine ⟨Keep, ?_, ?_⟩
      · -- written, of the tuple, of the list
        refine ⟨_, rfl, _, rfl, fun Q2 E2 hq2 he2 => ⟨_, rfl, dtIn_set isq, hT8, fun ds' Ga is sa => hq2 _ _ fun pa Gb sb hpa => ?_, fun Ga no _ => (no ⟨ds, isq⟩).elim⟩⟩
        obtain rfl : ds = ds' := IsSet.inj isq is
        refine ⟨_, rfl, (by show 2 ≤ sizeLine; decide), fun pb hpb => ?_⟩
        refine ⟨tdT (txt ds), tdT (txt ds), dp_tdT ((same_new hpb) _ _ hpa), dp_tdT upd_same, tdT_shaped tA, tdT_shaped tA, _, rfl, ?_⟩
        rw [eqv_self (tdT_shaped tA)]
        refine iteF ?_
        have sg := (sa.trans sb).trans (same_new (o := .tup [.str "told", .str (txt ds)]) hpb)
        have isl2 := isl.mono sg
        refine ⟨_, rfl, _, rfl, fun Q3 E3 hq3 he3 => ⟨_, rfl, dtIn_set isl2, sg _ _ hT8, fun ds' Gc is2 sc => hq3 _ _ fun pc Gd sd hpc => ?_, fun Gc no _ => (no ⟨ds, isl2⟩).elim⟩⟩
        obtain rfl : ds = ds' := IsSet.inj isl2 is2
        refine ⟨_, rfl, (by show 2 ≤ sizeLine; decide), fun pd hpd => ?_⟩
        refine ⟨tdT (txt ds), tdT (txt ds), dp_tdT ((same_new hpd) _ _ hpc), dp_tdT upd_same, tdT_shaped tA, tdT_shaped tA, _, rfl, ?_⟩
        rw [eqv_self (tdT_shaped tA)]
        exact iteF ((iK _ _).mpr ⟨_, _, _, rfl, ((sg.trans sc).trans sd).trans (same_new hpd)⟩)
      intro σ' G9 kk
      obtain ⟨v10, v11, v12, rfl, s9⟩ := (iK _ _).mp kk
      refine ⟨Keep, ?_, ?_⟩
      · -- what was handed in stands
        refine ⟨_, rfl, _, rfl, q, _, rfl, .inr (SqT.of (s9 _ _ hq8)), fun lz hlz => ?_⟩
        refine ⟨ltI (iasc ds), ltI (iasc ds), dp_lst ((same_new hlz) _ _ (s9 _ _ hl8)), dp_lst upd_same, ltI_shaped _, ltI_shaped _, _, rfl, ?_⟩
        rw [ltI_eqv]
        exact iteF ((iK _ _).mpr ⟨_, _, _, rfl, s9.trans (same_new hlz)⟩)
      intro σ' G10 kk
      obtain ⟨v10, v11, v12, rfl, s10⟩ := (iK _ _).mp kk
      refine ⟨Keep, ?_, ?_⟩
      · -- read
        refine ⟨_, rfl, _, rfl, fun Q2 E2 hq2 he2 => ⟨_, rfl, Nat.le_trans tL (by decide), fun ds' qa Ga td sa hqa => hq2 _ _ fun pa Gb sb hpa => ?_, fun Ga no _ => (no ⟨ds, tT⟩).elim⟩⟩
        obtain rfl : ds = ds' := Tells.inj tT td
        refine ⟨_, rfl, (by show 2 ≤ sizeLine; decide), fun pb hpb => ?_⟩
        have sg := (sa.trans sb).trans (same_new (o := .tup [.str "told", .ref q]) hpb)
        refine ⟨tdP ds, tdP ds, dp_tdP ((same_new hpb) _ _ hpa) ((same_new hpb) _ _ (sb _ _ hqa)), dp_tdP upd_same (sg _ _ (s10 _ _ hq8)), tdP_shaped _, tdP_shaped _, _, rfl, ?_⟩
        rw [eqv_self (tdP_shaped ds)]
        exact iteF ((iK _ _).mpr ⟨_, _, _, rfl, s10.trans sg⟩)
      intro σ' G11 kk
      obtain ⟨v10, v11, v12, rfl, s11⟩ := (iK _ _).mp kk
      refine ⟨Keep, ?_, ?_⟩
      · -- spoilt texts
        obtain ⟨ws, hw1, hw2, hw3, hw4⟩ := txt_words hd
        refine ⟨4, rfl, by decide, by decide, for_range (n := 4) (fun _ σ' G => Keep σ' G) ((iK _ _).mpr ⟨_, _, _, rfl, s11⟩) ?_ ?_⟩
        · rintro j σ' G hj kk
          obtain ⟨v10, v11, v12, rfl, g⟩ := (iK _ _).mp kk
          refine ⟨_, rfl, _, rfl, _, rfl, _, _, rfl, rfl, _, _, rfl, fun d hdr => ⟨_, _, rfl, rfl, ⟨by decide, by decide⟩, txt ds, _, ws, rfl, tL, tA, hw1, hw2, hw3, hw4, fun u G1 ul ua s1 => ?_⟩⟩
          refine ⟨_, rfl, _, rfl, fun Q2 E2 hq2 he2 => ⟨u, rfl, ul, fun ds' qa Ga td sa hqa => hq2 _ _ fun pa Gb sb hpa => ?_, fun Ga no sa => he2 _ _ _ Z.kT (by decide) Z.sT fun Gb sb => ?_⟩⟩
          · refine ⟨_, rfl, u, rfl, ul, ua, fun ds2 pc qc Gc td2 sc hpc hqc => ?_, fun Gc no _ => (no ⟨ds', td⟩).elim⟩
            obtain rfl : ds' = ds2 := Tells.inj td td2
            refine ⟨tdP ds', tdP ds', dp_tdP (sc _ _ hpa) (sc _ _ (sb _ _ hqa)), dp_tdP hpc hqc, tdP_shaped _, tdP_shaped _, _, rfl, ?_⟩
            rw [eqv_self (tdP_shaped ds')]
            exact iteF ((iK _ _).mpr ⟨_, _, _, rfl, (((g.trans s1).trans sa).trans sb).trans sc⟩)
          · refine ⟨_, rfl, u, rfl, ul, ua, fun ds2 pc qc Gc td2 _ _ _ => (no ⟨ds2, td2⟩).elim, fun Gc _ sc => ?_⟩
            refine ⟨.str "text", .str "text", .str _, .str _, text_shaped, text_shaped, _, rfl, ?_⟩
            rw [eqv_self text_shaped]
            exact iteF ((iK _ _).mpr ⟨_, _, _, rfl, (((g.trans s1).trans sa).trans sb).trans sc⟩)
        · rintro σ' G kk
          exact kk
      intro σ' G12 kk
      obtain ⟨v10, v11, v12, rfl, s12⟩ := (iK _ _).mp kk
      refine ⟨fun σ' G => ∃ x, σ' = [some (.ref a), some (.int (0 + (i : Int))), some (.int cc), some (nv n), some (nv m), some (.ref p5), some (.ref q), some (.str (txt ds)), v8', some (.ref lh), v10, v11, some x] ∧ NoPk G x ∧ Same H8 G, ?_, ?_⟩
      · -- what is no pick
        refine ⟨(by show 1 ≤ sizeLine; decide), fun pA nA => ⟨_, rfl, (by show 1 ≤ sizeLine; decide), fun pB nB => ⟨(by show 2 ≤ sizeLine; decide), fun pC nC => ⟨(by show 2 ≤ sizeLine; decide), fun pD nD => ⟨(by show 1 ≤ sizeLine; decide), fun pE nE => ⟨(by show 1 ≤ sizeLine; decide), fun pF nF => ⟨(by show 1 ≤ sizeLine; decide), fun pG nG => ⟨(by show 10 ≤ sizeLine; decide), fun lw nw => ?_⟩⟩⟩⟩⟩⟩⟩⟩
        have cW := same_new (o := .lst [.ref pA, .ref pB, .ref pC, .ref pD, .non, .str "0", .int 5, .ref pE, .ref pF, .ref pG]) nw
        have cG := (same_new (o := .tup [.non]) nG).trans cW
        have cF := (same_new (o := .tup [.bl true]) nF).trans cG
        have cE := (same_new (o := .tup [.str "0"]) nE).trans cF
        have cD := (same_new (o := .tup [.int 2, .int 1]) nD).trans cE
        have cC := (same_new (o := .tup [.int 1, .int 1]) nC).trans cD
        have cB := (same_new (o := .tup [.int (-1)]) nB).trans cC
        have cA := (same_new (o := .tup [.int 200]) nA).trans cB
        have kA' := nopk_tup (cB _ _ upd_same) rfl rfl
        have kB' := nopk_tup (cC _ _ upd_same) rfl rfl
        have kC' := nopk_tup (cD _ _ upd_same) rfl rfl
        have kD' := nopk_tup (cE _ _ upd_same) rfl rfl
        have kE' := nopk_tup (cF _ _ upd_same) rfl rfl
        have kF' := nopk_tup (cG _ _ upd_same) rfl rfl
        have kG' := nopk_tup (cW _ _ upd_same) rfl rfl
        obtain ⟨HW, eHW⟩ : ∃ HW, HW = upd (upd (upd (upd (upd (upd (upd (upd G12 pA (.tup [.int 200])) pB (.tup [.int (-1)])) pC (.tup [.int 1, .int 1])) pD (.tup [.int 2, .int 1])) pE (.tup [.str "0"])) pF (.tup [.bl true])) pG (.tup [.non])) lw (.lst [.ref pA, .ref pB, .ref pC, .ref pD, .non, .str "0", .int 5, .ref pE, .ref pF, .ref pG]) := ⟨_, rfl⟩
        have hlw : HW lw = some (.lst [.ref pA, .ref pB, .ref pC, .ref pD, .non, .str "0", .int 5, .ref pE, .ref pF, .ref pG]) := by rw [eHW]; exact upd_same
        rw [← eHW] at cA kA' kB' kC' kD' kE' kF' kG' ⊢
        refine ⟨_, rfl, _, _, rfl, fun d hdr => ?_⟩
        obtain ⟨v, hv, mv⟩ := at_drawn [.ref pA, .ref pB, .ref pC, .ref pD, .non, .str "0", .int 5, .ref pE, .ref pF, .ref pG] (i := d % 10) (Int.emod_nonneg _ (by decide)) (Int.emod_lt_of_pos _ (by decide))
        refine ⟨_, _, rfl, rfl, (by show (0 : Int) < 10; decide), lw, _, _, _, rfl, rfl, SqL.of hlw, hv, ?_⟩
        have nov : NoPk HW v := by
          simp only [List.mem_cons, List.not_mem_nil, or_false] at mv
          rcases mv with e | e | e | e | e | e | e | e | e | e <;> subst e
          · exact kA'
          · exact kB'
          · exact kC'
          · exact kD'
          · exact nopk_flat rfl
          · exact nopk_flat rfl
          · exact nopk_flat rfl
          · exact kE'
          · exact kF'
          · exact kG'
        exact ⟨v, rfl, nov, s12.trans cA⟩
      rintro σ' G13 ⟨x, rfl, ⟨dx, nox⟩, s13⟩
      refine ⟨_, rfl, _, rfl, fun Q2 E2 hq2 he2 => ⟨_, rfl, dx, s13 _ _ hT8, fun ds' Ga is _ => (nox ⟨ds', is⟩).elim, fun Ga _ sa => he2 _ _ _ Z.kP (by decide) Z.sP fun Gb sb => ⟨rfl, _, rfl, ?_⟩⟩⟩
      exact iteNS rfl ⟨_, _, _, _, _, _, _, _, _, _, _, _, rfl, sF.trans (s13.trans (sa.trans sb))⟩
    · rintro σ H' ⟨v1, v2, v3, v4, v5, v6, v7, v8, v9, v10, v11, v12, rfl, sA⟩
      exact k H' (sA _ _ hTb)
end
end Dp
namespace Dp
open PySem PySem.Spec PyProof.Rows L2 DpR
section
variable {P : Program} {w : World} {K : PySem.W.Frag} {mg : Str → Option Value} {base : Heap}
/-! ### is_whole -/
theorem scWhole : FnScope ["asked", "low", "high"] ["asked", "low", "high"] (defScope s_is_whole) := ⟨rfl, rfl, rfl, by decide +kernel, rfl, by decide +kernel, by decide +kernel⟩
theorem ok_whole {f : Addr} {fd : FuncData} (F : Fun K "is_whole" "is_whole" s_is_whole f fd) (G : GlbW mg) : FnOk P w K mg base CX0 1 f fd ["asked", "low", "high"] spWhole := by
  refine F.ok scWhole (fun vs H Q E h => ?_) (fun cdv A outer s H vs Q E hr h => ?_)
  · obtain ⟨x, lo, hi, rfl, _⟩ := h
    rfl
  · obtain ⟨x, lo, hi, rfl, hx, q⟩ := h
    refine ⟨_, pss_one (ps_ret (pe_and (pe_cmpR op_eqTy (pe_callTy call_type1 (by rfl) G.type (by decide +kernel) (pa_cons (pv 0) pa_nil)) (pe_bltn (v := .ty "int") (by rfl) G.int (by decide +kernel) rfl) (nomark _))
      (pe_one (pe_chain op_le op_le (pv 1) (pv 0) (pv 2))))), ?_⟩
    obtain ⟨T, ty, hk, hT⟩ := hx.tyB (K := K)
    refine ⟨x, rfl, x, T, rfl, ty, T, "int", rfl, rfl, hk, by decide +kernel, decide (T = "int"), rfl, ?_⟩
    by_cases c : T = "int"
    · obtain ⟨i, rfl⟩ := hT.mp c
      refine if_true_of (decide_eq_true c) ?_
      refine ⟨_, rfl, _, rfl, lo, i, rfl, rfl, decide (lo ≤ i), rfl, ?_⟩
      by_cases c1 : lo ≤ i
      · refine if_true_of (decide_eq_true c1) ?_
        refine ⟨_, rfl, i, hi, rfl, rfl, ?_⟩
        have e : wholeV (.int i) lo hi = decide (i ≤ hi) := by
          show (decide (lo ≤ i) && decide (i ≤ hi)) = decide (i ≤ hi)
          rw [decide_eq_true c1, Bool.true_and]
        show Q (.bl (decide (i ≤ hi))) H
        rw [← e]
        exact q
      · refine if_false_of (decide_eq_false c1) ?_
        have e : wholeV (.int i) lo hi = false := by
          show (decide (lo ≤ i) && decide (i ≤ hi)) = false
          rw [decide_eq_false c1, Bool.false_and]
        rw [← e]
        exact q
    · refine if_false_of (decide_eq_false c) ?_
      have e : wholeV x lo hi = false := by
        cases x with
        | int i => exact absurd (hT.mpr ⟨i, rfl⟩) c
        | _ => rfl
      rw [← e]
      exact q
structure GW (K : PySem.W.Frag) (mg : Str → Option Value) (f : Addr) (fd : FuncData) : Prop where
  F : Fun K "is_whole" "is_whole" s_is_whole f fd
  b : Binds K fd ["asked", "low", "high"] []
  g : mg "is_whole" = some (.ref f)
end
section
variable {P : Program} {w : World} {K : PySem.W.Frag} {mg : Str → Option Value} {base : Heap}
/-! ### is_rising -/
theorem scRising : FnScope ["row", "things", "least", "thing"] ["row", "things"] (defScope s_is_rising) := ⟨rfl, rfl, rfl, by decide +kernel, rfl, by decide +kernel, by decide +kernel⟩
structure GR (K : PySem.W.Frag) (mg : Str → Option Value) (f : Addr) (fd : FuncData) : Prop where
  F : Fun K "is_rising" "is_rising" s_is_rising f fd
  b : Binds K fd ["row", "things"] []
  g : mg "is_rising" = some (.ref f)
theorem risV_drop {n : Int} : ∀ {xs : List V} {lo : Int} {i : Nat} {x : V}, xs[i]? = some x → risV n lo (xs.take i) = true → (∀ j, (xs.take i).getLast? = some (.int j) → True) → True := fun _ _ _ => trivial
/-- the least that the next thing may be, behind i of them -/
def leastAt (xs : List V) (i : Nat) : Int := match (xs.take i).getLast? with
  | some (.int j) => j + 1
  | _ => 0
theorem risV_step {n : Int} : ∀ (pre : List V) (lo : Int) (post : List V), risV n lo pre = true → risV n lo (pre ++ post) = risV n (match pre.getLast? with | some (.int j) => j + 1 | _ => lo) post
  | [], lo, post, _ => rfl
  | x :: r, lo, post, h => by
    cases x with
    | int i =>
      have h' : (decide (lo ≤ i) && decide (i ≤ n - 1) && risV n (i + 1) r) = true := h
      rw [Bool.and_eq_true] at h'
      obtain ⟨q1, q2⟩ := h'
      show (decide (lo ≤ i) && decide (i ≤ n - 1) && risV n (i + 1) (r ++ post)) = _
      rw [q1, Bool.true_and, risV_step r (i + 1) post q2]
      cases r with
      | nil => rfl
      | cons y r => rw [List.getLast?_cons_cons]; cases hy : (y :: r).getLast? with
        | none => simp at hy
        | some z =>
          cases z with
          | int j => rfl
          | _ =>
            exfalso
            have key : ∀ (l : List V) (lo : Int) (z : V), risV n lo l = true → l.getLast? = some z → ∃ j, z = .int j := by
              intro l
              induction l with
              | nil => intro lo z _ hz; simp at hz
              | cons a l ih =>
                intro lo z h1 h2
                cases a with
                | int j =>
                  have h1' : (decide (lo ≤ j) && decide (j ≤ n - 1) && risV n (j + 1) l) = true := h1
                  rw [Bool.and_eq_true] at h1'
                  cases l with
                  | nil => exact ⟨j, (Option.some.inj h2).symm⟩
                  | cons b l => exact ih (j + 1) z h1'.2 (by rw [List.getLast?_cons_cons] at h2; exact h2)
                | _ => exact absurd (show false = true from h1) Bool.false_ne_true
            obtain ⟨j, e⟩ := key _ _ _ q2 hy
            cases e
    | _ => exact absurd (show false = true from h) Bool.false_ne_true
theorem ok_rising {f fW : Addr} {fd fdW : FuncData} (F : Fun K "is_rising" "is_rising" s_is_rising f fd) (G : GlbW mg) (W : GW K mg fW fdW) : FnOk P w K mg base CX0 2 f fd ["row", "things"] spRising := by
  have GWk : FnOk P w K mg base CX0 1 fW fdW ["asked", "low", "high"] spWhole := ok_whole W.F G
  refine F.ok scRising (fun vs H Q E h => ?_) (fun cdv A outer s H vs Q E hr h => ?_)
  · obtain ⟨x, n, rfl, _⟩ := h
    rfl
  · obtain ⟨x, n, rfl, hx, q⟩ := h
    refine ⟨_, pss_cons (ps_if (pt_not (pt_val (pe_callB call_isiT (by rfl) G.isinstance (by decide +kernel) (pa_cons (pv 0) (pa_cons (pe_tup (pa_cons (pe_bltn (v := .ty "tuple") (by rfl) G.tuple (by decide +kernel) rfl) (pa_cons (pe_bltn (v := .ty "list") (by rfl) G.list (by decide +kernel) rfl) pa_nil))) pa_nil))))) (pss_one (ps_ret pe_bl)) pss_nil)
      (pss_cons (ps_set (i := 2) scRising.nd rfl (Or.inl rfl) pe_int)
      (pss_cons (ps_for PassesOwn.never rfl (pi_sq (pv 0)) (pg_name (i := 3) scRising.nd rfl (Or.inl rfl))
        (pss_cons (ps_if (pt_not (pt_val (pe_call GWk hr rfl W.g W.F.kp W.b .nil pass0 (pa_cons (pv 3) (pa_cons (pv 2) (pa_cons (pe_op op_sub (pv 1) pe_int) pa_nil)))))) (pss_one (ps_ret pe_bl)) pss_nil)
        (pss_one (ps_set (i := 2) scRising.nd rfl (Or.inl rfl) (pe_op op_add (pv 3) pe_int)))))
      (pss_one (ps_ret pe_bl)))), ?_⟩
    refine ⟨x, rfl, (by show 2 ≤ sizeLine; decide), fun tp htp => ?_⟩
    have s1 : Same H (upd H tp (.tup [.ty "tuple", .ty "list"])) := same_new htp
    obtain ⟨T, r, tx, hk, hrow⟩ := (hx.1.mono s1).tyX (K := K)
    have hrow' : isRow (upd H tp (.tup [.ty "tuple", .ty "list"])) x ↔ isRow H x := by
      constructor
      · rintro ⟨a, b, xs, rfl, h⟩
        cases hx.1 with
        | row b xs h' => exact ⟨a, b, xs, rfl, h'⟩
        | dic kvs h' =>
          have := s1 _ _ h'
          rw [h] at this
          cases b <;> cases this
      · rintro ⟨a, b, xs, e, h⟩
        exact ⟨a, b, xs, e, s1 _ _ h⟩
    rw [hrow'] at hrow
    refine ⟨x, tp, _, .type T, _, r, rfl, upd_same, .cons (.ty _) (.cons (.ty _) .nil), tx, hk, r, rfl, ?_⟩
    cases hr' : r with
    | false =>
      rw [hr'] at hrow
      have nr : ¬ isRow H x := fun z => absurd (hrow.mpr z) (by simp)
      exact iteT (q false _ s1 ⟨fun z => absurd z nr, fun _ => rfl⟩)
    | true =>
      rw [hr'] at hrow
      obtain ⟨a, b, xs, rfl, ha⟩ := hrow.mp rfl
      refine iteF ?_
      have ih : ∀ y ∈ xs, Dt H y := hx.2 a b xs rfl ha
      have only : ∀ b' xs', H a = some (rowO b' xs') → xs' = xs := fun b' xs' h' => by
        rw [ha] at h'
        cases b <;> cases b' <;> first | exact (HO.lst.inj (Option.some.inj h')).symm | exact (HO.tup.inj (Option.some.inj h')).symm | cases h'
      refine ⟨_, rfl, a, b, xs, rfl, row_sq (s1 _ _ ha), for_it (walk_itb (b := b) (a := a) (xs := xs)) (fun i σ H' => ∃ v, σ = [some (.ref a), some (.int n), some (.int (leastAt xs i)), v] ∧ Same H H' ∧ risV n 0 (xs.take i) = true) ⟨none, rfl, s1, rfl⟩
        (fun i σ H' _ ⟨_, _, s2, _⟩ => row_sq (s2 _ _ ha)) ?_ ?_⟩
      · rintro i y σ H1 H1' hi ⟨v, rfl, s2, hp⟩ ⟨rfl, hy⟩
        have dy : Dt H1' y := (ih y (List.mem_of_getElem? hy)).mono s2
        have et : xs.take (i + 1) = xs.take i ++ [y] := by
          rw [List.take_succ, hy]; rfl
        have est : risV n 0 (xs.take (i + 1)) = risV n (leastAt xs i) [y] := by
          rw [et, risV_step _ _ _ hp]
          rfl
        refine ⟨_, rfl, _, rfl, _, rfl, _, _, rfl, rfl, y, _, _, rfl, dy, _, rfl, ?_⟩
        cases hw : wholeV y (leastAt xs i) (n - 1) with
        | false =>
          refine iteT ?_
          refine q false _ s2 ⟨fun _ a' b' xs' e h' => ?_, fun _ => rfl⟩
          cases e
          rw [only b' xs' h']
          have e2 : xs = xs.take i ++ (y :: xs.drop (i + 1)) := by
            have hi' : i < xs.length := hi
            have : xs[i] = y := by
              have := (List.getElem?_eq_some_iff.mp hy).2
              exact this
            rw [← this, ← List.drop_eq_getElem_cons hi', List.take_append_drop]
          rw [e2, risV_step _ _ _ hp]
          cases y with
          | int j =>
            have hw' : (decide (leastAt xs i ≤ j) && decide (j ≤ n - 1)) = false := hw
            show false = (decide (leastAt xs i ≤ j) && decide (j ≤ n - 1) && _)
            rw [hw', Bool.false_and]
          | _ => rfl
        | true =>
          refine iteF ?_
          cases y with
          | int j =>
            refine ⟨_, rfl, _, _, rfl, rfl, some (.int j), ?_, s2, ?_⟩
            · have : leastAt xs (i + 1) = j + 1 := by
                unfold leastAt
                rw [et, List.getLast?_concat]
              rw [this]
              rfl
            · rw [est]
              have hw' : (decide (leastAt xs i ≤ j) && decide (j ≤ n - 1)) = true := hw
              show (decide (leastAt xs i ≤ j) && decide (j ≤ n - 1) && true) = true
              rw [hw', Bool.true_and]
          | _ => exact absurd (show false = true from hw) Bool.false_ne_true
      · rintro σ H1 ⟨v, rfl, s2, hp⟩
        rw [List.take_length] at hp
        refine q true _ s2 ⟨fun _ a' b' xs' e h' => ?_, fun z => absurd ⟨a, b, xs, rfl, ha⟩ z⟩
        cases e
        rw [only b' xs' h', hp]
end
structure Glb (mg : Str → Option Value) : Prop extends GlbW mg where
  len : mg "len" = none
  enumerate : mg "enumerate" = none
  range : mg "range" = none
  reversed : mg "reversed" = none
  comb : mg "comb" = some (.builtin "math.comb")
  most : ∃ t, mg "MOST_THINGS" = some (.int 200 t)
section
variable {P : Program} {w : World} {K : PySem.W.Frag} {mg : Str → Option Value} {base : Heap}
/-! ### Picks: made, many -/
theorem scInit : FnScope ["self", "things", "size"] ["self", "things", "size"] (defScope s_Picks_init) := ⟨rfl, rfl, rfl, by decide +kernel, rfl, by decide +kernel, by decide +kernel⟩
theorem ok_init {f fW C CB : Addr} {fd fdW : FuncData} (F : Fun K "__init__" "Picks.__init__" s_Picks_init f fd) (G : Glb mg) (W : GW K mg fW fdW) (T : PkC K C) (xB : ExT K mg "NoBounds" CB) :
    FnOk P w K mg base (L2.CX P w) 2 f fd ["self", "things", "size"] (spInit C CB) := by
  have GWk : FnOk P w K mg base CX0 1 fW fdW ["asked", "low", "high"] spWhole := ok_whole W.F G.toGlbW
  obtain ⟨tm, hmost⟩ := G.most
  refine F.okX scInit (fun vs H Q E h => ?_) (fun cdv A outer s H vs Q E hr h => ?_)
  · obtain ⟨p, dx, x, y, rfl, _⟩ := h
    rfl
  · obtain ⟨p, dx, x, y, rfl, hp, hx, hy, kok, kno⟩ := h
    refine ⟨_, pss_cons (ps_if (pt_not (pt_val (pe_call GWk hr rfl W.g W.F.kp W.b .nil pass0 (pa_cons (pv 1) (pa_cons pe_int (pa_cons (pe_glob (v := .int 200) (by rfl) hmost ⟨_, rfl⟩) pa_nil)))))) (pss_one (ps_raise rfl (takes_of rfl rfl rfl rfl) (pmk_own PySem.F.excBase_ValueError xB.x xB.g xB.kp (raises_own xB.b xB.t) (by rfl)))) pss_nil)
      (pss_cons (ps_if (pt_not (pt_val (pe_call GWk hr rfl W.g W.F.kp W.b .nil pass0 (pa_cons (pv 2) (pa_cons pe_int (pa_cons (pv 1) pa_nil)))))) (pss_one (ps_raise rfl (takes_of rfl rfl rfl rfl) (pmk_own PySem.F.excBase_ValueError xB.x xB.g xB.kp (raises_own xB.b xB.t) (by rfl)))) pss_nil)
      (PSs.nox (pss_cons (ps_fld (pv 0) (pv 1) rfl) (pss_one (ps_fld (pv 0) (pv 2) rfl))))), ?_⟩
    refine ⟨_, rfl, x, 0, 200, rfl, hx, _, rfl, ?_⟩
    cases c : wholeV x 0 200 with
    | false =>
      refine iteT (kno ?_)
      rintro ⟨n, m, rfl, rfl, h1, h2⟩
      have e := whole_nv n 200
      rw [show ((200 : Nat) : Int) = 200 from rfl, c, decide_eq_true h1] at e
      cases e
    | true =>
      refine iteF ?_
      obtain ⟨n, rfl, hn⟩ := whole_nat (hi := 200) c
      refine ⟨_, rfl, _, rfl, y, 0, n, rfl, hy, _, rfl, ?_⟩
      cases c2 : wholeV y 0 n with
      | false =>
        refine iteT (kno ?_)
        rintro ⟨n', m, e, rfl, h1, h2⟩
        have en := nv_inj e
        subst en
        have e := whole_nv m n
        rw [c2, decide_eq_true h2] at e
        cases e
      | true =>
        refine iteF ?_
        obtain ⟨m, rfl, hm⟩ := whole_nat c2
        refine ⟨_, rfl, _, rfl, p, C, dx, [], rfl, hp, T.cl, T.nT, (by show 0 < 1000; decide), _, rfl, _, rfl, p, C, dx, _, rfl, upd_same, T.cl, T.nS, (by show 1 < 1000; decide), ?_⟩
        have k := kok n m rfl rfl hn hm
        rw [upd_upd]
        exact k
theorem scMany : FnScope ["self"] ["self"] (defScope s_Picks_many) := ⟨rfl, rfl, rfl, by decide +kernel, rfl, by decide +kernel, by decide +kernel⟩
theorem ok_many {f C : Addr} {fd : FuncData} (F : Fun K "many" "Picks.many" s_Picks_many f fd) (G : Glb mg) (T : PkC K C) : FnOk P w K mg base CX0 1 f fd ["self"] (spMany C) := by
  refine F.ok scMany (fun vs H Q E h => ?_) (fun cdv A outer s H vs Q E hr h => ?_)
  · obtain ⟨p, n, m, rfl, _⟩ := h
    rfl
  · obtain ⟨p, n, m, rfl, hp, q⟩ := h
    obtain ⟨dx, hp'⟩ := hp.ob
    refine ⟨_, pss_one (ps_ret (pe_callBfun cr_comb (by rfl) G.comb (pa_cons (pe_fld (pv 0) rfl) (pa_cons (pe_fld (pv 0) rfl) pa_nil)))), ?_⟩
    exact ⟨_, rfl, p, C, dx, _, _, rfl, hp', T.cl, T.nT, pkF_things _ _, _, rfl, p, C, dx, _, _, rfl, hp', T.cl, T.nS, pkF_size _ _, n, m, rfl, Nat.le_trans hp.n200 (by decide), q⟩
/-! ### number -/
theorem scNumber : FnScope ["self", "one", "place", "size", "thing"] ["self", "one"] (defScope s_Picks_number) := ⟨rfl, rfl, rfl, by decide +kernel, rfl, by decide +kernel, by decide +kernel⟩
theorem ok_number {f fR fW C CP : Addr} {fd fdR fdW : FuncData} (F : Fun K "number" "Picks.number" s_Picks_number f fd) (G : Glb mg) (W : GW K mg fW fdW) (R : GR K mg fR fdR) (T : PkC K C) (xP : ExT K mg "NoPick" CP) :
    FnOk P w K mg base (L2.CX P w) 3 f fd ["self", "one"] (spNumber C CP) := by
  have GRk : FnOk P w K mg base CX0 2 fR fdR ["row", "things"] spRising := ok_rising R.F G.toGlbW W
  refine F.okX scNumber (fun vs H Q E h => ?_) (fun cdv A outer s H vs Q E hr h => ?_)
  · obtain ⟨p, n, m, one, rfl, _⟩ := h
    rfl
  · obtain ⟨p, n, m, one, rfl, hp, ho, kok, kno⟩ := h
    obtain ⟨dx, hp'⟩ := hp.ob
    refine ⟨_, pss_cons (ps_if (PW.pt (pw_or (pt_not (pt_val (pe_call GRk hr rfl R.g R.F.kp R.b .nil pass0 (pa_cons (pv 1) (pa_cons (pe_fld (pv 0) rfl) pa_nil))))) (pw_or1 (pt_cmpR op_ne (pe_callB call_len_seq (by rfl) G.len PySem.boot_len (pa_cons (pv 1) pa_nil)) (pe_fld (pv 0) rfl) (nomark _)))))
        (pss_one (ps_raise rfl (takes_of rfl rfl rfl rfl) (pmk_own PySem.F.excBase_ValueError xP.x xP.g xP.kp (raises_own xP.b xP.t) (by rfl)))) pss_nil)
      (PSs.nox (pss_cons (ps_set (i := 2) scNumber.nd rfl (Or.inl rfl) pe_int)
      (pss_cons (ps_for PassesOwn.never rfl (pi_enumS (by decide) (by decide) (by rfl) G.enumerate (pv 1)) (pg_tup rfl (pgs_cons (pg_name (i := 3) scNumber.nd rfl (Or.inl rfl)) (pgs_cons (pg_name (i := 4) scNumber.nd rfl (Or.inl rfl)) pgs_nil)))
        (pss_one (ps_set (i := 2) scNumber.nd rfl (Or.inl rfl) (pe_op op_sub (pe_op op_sub (pe_callBfun cr_comb (by rfl) G.comb (pa_cons (pe_op op_add (pv 4) pe_int) (pa_cons (pv 3) pa_nil))) pe_int) (pv 2)))))
      (pss_one (ps_ret (pv 2)))))), ?_⟩
    refine ⟨one, rfl, _, rfl, p, C, dx, _, _, rfl, hp', T.cl, T.nT, pkF_things _ _, one, n, rfl, ho, fun r H1 s1 hr1 => ⟨r, rfl, ?_⟩⟩
    have no : (∃ ds, IsPk H one n m ds) → r = true := by
      rintro ⟨ds, a, b, rfl, ha, hd, hl⟩
      rw [hr1.1 ⟨a, b, _, rfl, ha⟩ a b _ rfl ha]
      exact desc_ris hd
    cases hr' : r with
    | false => exact iteT (iteT (kno _ (fun z => by rw [no z] at hr'; cases hr') s1))
    | true =>
      refine iteF ?_
      obtain ⟨a, b, xs, rfl, ha⟩ : isRow H one := by
        apply Classical.byContradiction
        intro z
        rw [hr1.2 z] at hr'
        cases hr'
      have hris : risV n 0 xs = true := by rw [← hr1.1 ⟨a, b, _, rfl, ha⟩ a b xs rfl ha]; exact hr'
      obtain ⟨ds, e1, hd, hl⟩ := ris_desc xs [] 0 trivial (Nat.zero_le _) hris
      have e1' : xs = asc ds := e1
      subst e1'
      have hl' : ds.length = (asc ds).length := by rw [asc_len]
      have ha1 := s1 _ _ ha
      have sq : SqL K H1 a (asc ds) ∨ SqT K H1 a (asc ds) := by
        cases b with
        | false => exact .inl (SqL.of ha1)
        | true => exact .inr (SqT.of ha1)
      refine ⟨_, rfl, a, _, rfl, sq, _, rfl, p, C, dx, _, _, rfl, s1 _ _ hp', T.cl, T.nS, pkF_size _ _, rfl, _, rfl, ?_⟩
      have edec : decide (V.int ((asc ds).length : Int) = nv m) = decide (ds.length = m) := by
        rw [asc_len]
        by_cases c : ds.length = m
        · rw [decide_eq_true c, decide_eq_true (by rw [c]; rfl)]
        · rw [decide_eq_false c]; exact decide_eq_false fun z => c (nv_inj z)
      rw [edec]
      by_cases c : ds.length = m
      · rw [decide_eq_true c]
        refine iteF ?_
        have kk := kok ds
        -- place = 0; for ..
        refine ⟨_, rfl, a, b, asc ds, rfl, row_sq ha1, for_it (walk_ies (b := b) (k := 1) (a := a) (xs := asc ds)) (fun i σ H' => ∃ v3 v4, σ = [some (.ref p), some (.ref a), some (.int (rk (ds.drop (ds.length - i)))), v3, v4] ∧ Same H H')
          ⟨none, none, by rw [Nat.sub_zero, List.drop_length]; rfl, s1⟩ (fun i σ H' _ ⟨_, _, _, s2⟩ => row_sq (s2 _ _ ha)) ?_ ?_⟩
        · rintro i y σ H2 H2' hi ⟨v3, v4, rfl, s2⟩ ⟨tp, x1, x2, rfl, htp, rfl, e1, e2⟩
          cases e1
          have hi' : i < ds.length := by rw [← asc_len ds]; exact hi
          obtain ⟨t, hdr, hat⟩ := drop_more hi'
          have e3 : (asc ds)[i]? = some x2 := e2
          rw [hat] at e3
          have e4 := Option.some.inj e3
          subst e4
          have s3 : Same H (upd H2 tp (.tup [.int (1 + (i : Nat)), nv t])) := s2.trans (same_new htp)
          have ht : t < n := hd.mem t (by
            have : t ∈ ds.drop (ds.length - (i + 1)) := by rw [hdr]; exact List.mem_cons_self
            exact List.mem_of_mem_drop this)
          have hn := hp.n200
          have ldr : (ds.drop (ds.length - i)).length = i := by rw [List.length_drop]; omega
          refine ⟨tp, _, rfl, SqT.of upd_same, rfl, _, _, rfl, _, _, rfl, rfl, ?_⟩
          refine ⟨_, rfl, _, _, rfl, rfl, _, rfl, t + 1, i + 1, two_int (by show (t : Int) + 1 = _; omega) (by omega), by omega, _, _, rfl, rfl, _, rfl, _, _, rfl, rfl, ?_⟩
          refine ⟨some (.int (1 + (i : Nat))), some (nv t), ?_, s3⟩
          rw [hdr]
          show _ = [some (V.ref p), some (V.ref a), some (V.int ((ch (t + 1) ((ds.drop (ds.length - i)).length + 1) : Int) - 1 - rk (ds.drop (ds.length - i)))), some (V.int (1 + (i : Nat))), some (nv t)]
          rw [ldr]
          rfl
        · rintro σ H2 ⟨v3, v4, rfl, s2⟩
          rw [asc_len, Nat.sub_self, List.drop_zero]
          exact ⟨_, rfl, kk _ ⟨a, b, rfl, ha, hd, c⟩ s2⟩
      · rw [decide_eq_false c]
        refine iteT (kno _ ?_ s1)
        rintro ⟨ds', a', b', e, h1, h2, h3⟩
        cases e
        have : asc ds' = asc ds := by
          rw [ha] at h1
          cases b <;> cases b' <;> first | exact (HO.lst.inj (Option.some.inj h1)).symm | exact (HO.tup.inj (Option.some.inj h1)).symm | cases h1
        rw [asc_inj this] at h3
        exact c h3
/-! ### at -/
theorem scAt : FnScope ["self", "number", "picked", "place", "greatest", "size"] ["self", "number"] (defScope s_Picks_at) := ⟨rfl, rfl, rfl, by decide +kernel, rfl, by decide +kernel, by decide +kernel⟩
structure GM (K : PySem.W.Frag) (C : Addr) (f : Addr) (fd : FuncData) : Prop where
  F : Fun K "many" "Picks.many" s_Picks_many f fd
  b : Binds K fd ["self"] []
  m : Meth K C "many" f
def whileC : L2.St → Hp → Nat := fun σ' _ => match σ'[4]? with | some (some (V.int c)) => c.toNat | _ => 0
theorem dn_if (k : Nat) (p : Int) (g : Nat) (h : p < ch (g + 1) k) : dn k p (g + 1) = dn k p g := by
  show (if (ch (g + 1) k : Int) > p then dn k p g else g + 1) = dn k p g
  rw [if_pos h]
theorem dn_stop (k : Nat) (p : Int) (g : Nat) (h : ¬ p < ch g k) : dn k p g = g := by
  cases g with
  | zero => rfl
  | succ g =>
    show (if (ch (g + 1) k : Int) > p then dn k p g else g + 1) = g + 1
    rw [if_neg h]
theorem ok_at {f fW fM C CN : Addr} {fd fdW fdM : FuncData} (F : Fun K "at" "Picks.at" s_Picks_at f fd) (G : Glb mg) (W : GW K mg fW fdW) (M : GM K C fM fdM) (T : PkC K C) (xN : ExT K mg "NoNumber" CN) :
    FnOk P w K mg base (L2.CX P w) 2 f fd ["self", "number"] (spAt C CN) := by
  have GWk : FnOk P w K mg base CX0 1 fW fdW ["asked", "low", "high"] spWhole := ok_whole W.F G.toGlbW
  have GMk : FnOk P w K mg base CX0 1 fM fdM ["self"] (spMany C) := ok_many M.F G T
  refine F.okX scAt (fun vs H Q E h => ?_) (fun cdv A outer s H vs Q E hr h => ?_)
  · obtain ⟨p, n, m, x, rfl, _⟩ := h
    rfl
  · obtain ⟨p, n, m, x, rfl, hp, hx, kok, kno⟩ := h
    obtain ⟨dx, hp'⟩ := hp.ob
    have hn := hp.n200
    have hm := hp.mn
    refine ⟨_, pss_cons (ps_if (pt_not (pt_val (pe_call GWk hr rfl W.g W.F.kp W.b .nil pass0 (pa_cons (pv 1) (pa_cons pe_int (pa_cons (pe_op op_sub (pe_meth0 (pv 0) T.cl M.m GMk hr M.b .nil pass0) pe_int) pa_nil))))))
        (pss_one (ps_raise rfl (takes_of rfl rfl rfl rfl) (pmk_own PySem.F.excBase_ValueError xN.x xN.g xN.kp (raises_own xN.b xN.t) (by rfl)))) pss_nil)
      (PSs.nox (pss_cons (ps_set (i := 2) scAt.nd rfl (Or.inl rfl) (pe_lst pa_nil))
      (pss_cons (ps_set (i := 3) scAt.nd rfl (Or.inl rfl) (pv 1))
      (pss_cons (ps_set (i := 4) scAt.nd rfl (Or.inl rfl) (pe_fld (pv 0) rfl))
      (pss_cons (ps_for PassesOwn.never rfl (pi_range3 rfl G.range (pa_cons (pe_fld (pv 0) rfl) (pa_cons pe_int (pa_cons (pe_un un_neg pe_int) pa_nil)))) (pg_name (i := 5) scAt.nd rfl (Or.inl rfl))
        (pss_cons (ps_while PassesOwn.never (pt_cmpR op_gt (pe_callBfun cr_comb (by rfl) G.comb (pa_cons (pv 4) (pa_cons (pv 5) pa_nil))) (pv 3) (nomark _))
          (pss_one (ps_aug (i := 4) scAt.nd rfl (.inl rfl) pe_int ip_sub)))
        (pss_cons (ps_expr (pe_bm PySem.F.plainAttrs_list PySem.F.slot_list_append PySem.F.type_list_append mt_append (pv 2) (pa_cons (pv 4) pa_nil)))
        (pss_one (ps_set (i := 3) scAt.nd rfl (Or.inl rfl) (pe_op op_sub (pe_op op_sub (pe_callBfun cr_comb (by rfl) G.comb (pa_cons (pe_op op_add (pv 4) pe_int) (pa_cons (pv 5) pa_nil))) pe_int) (pv 3)))))))
      (pss_one (ps_ret (RT.pe_tupRev rfl (by rfl) G.tuple (by rfl) G.reversed (pv 2))))))))), ?_⟩
    refine ⟨_, rfl, _, rfl, p, dx, _, rfl, hp', pkF_no _ _ (by decide +kernel) (by decide +kernel), p, n, m, rfl, hp, _, _, rfl, rfl, x, 0, _, rfl, hx, _, rfl, ?_⟩
    cases c : wholeV x 0 ((ch n m : Int) - 1) with
    | false =>
      refine iteT (kno ?_)
      rintro ⟨i, rfl, h0, h1⟩
      have c' : (decide (0 ≤ i) && decide (i ≤ (ch n m : Int) - 1)) = false := c
      rw [decide_eq_true h0, decide_eq_true (by omega)] at c'
      cases c'
    | true =>
      refine iteF ?_
      obtain ⟨i, rfl, h0, h1⟩ : ∃ i, x = .int i ∧ 0 ≤ i ∧ i < ch n m := by
        cases x with
        | int i =>
          have c' : (decide (0 ≤ i) && decide (i ≤ (ch n m : Int) - 1)) = true := c
          rw [Bool.and_eq_true, decide_eq_true_eq, decide_eq_true_eq] at c'
          exact ⟨i, rfl, c'.1, by omega⟩
        | _ => exact absurd (show false = true from c) Bool.false_ne_true
      have kk := kok i
      refine ⟨Nat.zero_le _, fun l hl => ?_⟩
      have s1 : Same H (upd H l (.lst [])) := same_new hl
      refine ⟨_, rfl, _, rfl, p, C, dx, _, _, rfl, s1 _ _ hp', T.cl, T.nT, pkF_things _ _, ?_⟩
      refine ⟨_, rfl, p, C, dx, _, _, rfl, s1 _ _ hp', T.cl, T.nS, pkF_size _ _, _, rfl, m, 0, -1, m, rfl, RgC.neg (by omega) (by omega) (by decide) (by decide), ?_⟩
      refine for_rangeC (lo := m) (c := -1) (n := m) (fun j σ H' => ∃ (gs : List Nat) (g : Nat) (q : Int) (v5 : Option V), σ = [some (.ref p), some (.int i), some (.ref l), some (.int q), some (nv g), v5] ∧ gs.length = j ∧ j ≤ m ∧ g ≤ n ∧ 0 ≤ q ∧ q < ch g (m - j) ∧ un n m i = gs ++ un g (m - j) q ∧
        H' l = some (.lst (gs.map nv)) ∧ Same H H') ?_ ?_ ?_
      · exact ⟨[], n, i, none, rfl, rfl, Nat.zero_le _, Nat.le_refl _, h0, h1, rfl, upd_same, s1⟩
      · rintro j σ H1 hj ⟨gs, g, q, v5, rfl, hgs, _, hg, q0, q1, hun, hl1, s2⟩
        obtain ⟨k, hk⟩ : ∃ k, m - j = k + 1 := ⟨m - j - 1, by omega⟩
        rw [hk] at q1 hun
        have ek : (m : Int) + (j : Int) * -1 = ((k + 1 : Nat) : Int) := by omega
        rw [ek]
        -- while
        refine while_by (fun σ' H' => H' = H1 ∧ ∃ c : Nat, σ' = [some (.ref p), some (.int i), some (.ref l), some (.int q), some (nv c), some (.int ((k + 1 : Nat) : Int))] ∧ c ≤ g ∧ dn (k + 1) q c = dn (k + 1) q g) whileC ⟨rfl, g, rfl, Nat.le_refl _, rfl⟩ ?_ ?_
        · rintro σ' H' ⟨rfl, c, rfl, hc, hd⟩
          refine ⟨_, rfl, _, rfl, c, k + 1, rfl, by omega, _, rfl, _, _, rfl, rfl, _, rfl, ?_⟩
          by_cases cc : q < (ch c (k + 1) : Int)
          · refine if_true_of (decide_eq_true cc) ?_
            obtain ⟨c', rfl⟩ : ∃ c', c = c' + 1 := by
              cases c with
              | zero =>
                rw [ch_above (Nat.succ_pos k)] at cc
                omega
              | succ c' => exact ⟨c', rfl⟩
            have e1 : ((c' + 1 : Nat) : Int) - 1 = (c' : Int) := by omega
            refine ⟨_, rfl, _, _, rfl, rfl, ⟨rfl, c', ?_, by omega, ?_⟩, ?_⟩
            · show [_, _, _, _, some (V.int (((c' + 1 : Nat) : Int) - 1)), _] = _
              rw [e1]
              rfl
            · rw [← hd]
              exact (dn_if _ _ _ cc).symm
            · show (((c' + 1 : Nat) : Int) - 1).toNat < (((c' + 1 : Nat) : Int)).toNat
              omega
          · refine if_false_of (decide_eq_false cc) ?_
            rw [dn_stop _ _ _ cc] at hd
            subst hd
            have ⟨d1, d2, d3⟩ := dn_spec (k := k + 1) (Nat.succ_pos k) q0 g q1
            have e2 := ch_succ (dn (k + 1) q g) k
            refine ⟨_, rfl, .inl ⟨rfl, _, SqL.of hl1⟩, _, rfl, l, _, _, rfl, rfl, hl1, (by rw [List.length_map]; exact small1000 (by omega)), ?_⟩
            refine ⟨_, rfl, _, _, rfl, rfl, _, rfl, dn (k + 1) q g + 1, k + 1, two_int (by omega) rfl, by omega, _, _, rfl, rfl, _, rfl, _, _, rfl, rfl, ?_⟩
            refine ⟨gs ++ [dn (k + 1) q g], dn (k + 1) q g, _, _, rfl, ?_, by omega, by omega, ?_, ?_, ?_, ?_, fun b o e => ?_⟩
            · rw [List.length_append, hgs]; rfl
            · show 0 ≤ (ch (dn (k + 1) q g + 1) (k + 1) : Int) - 1 - q
              omega
            · have : m - (j + 1) = k := by omega
              rw [this]
              show (ch (dn (k + 1) q g + 1) (k + 1) : Int) - 1 - q < (ch (dn (k + 1) q g) k : Int)
              omega
            · have : m - (j + 1) = k := by omega
              rw [this, hun, List.append_assoc]
              rfl
            · rw [upd_same, List.map_append]
              rfl
            · rw [upd_ne (ne_of_none e hl)]
              exact s2 _ _ e
        · rintro σ' H' Q1 Q2 mono ⟨v1, e1, v2, e2, a, b, e3, e4, v3, e5, i1, j1, e6, e7, k1, e8, h⟩
          exact ⟨v1, e1, v2, e2, a, b, e3, e4, v3, e5, i1, j1, e6, e7, k1, e8, mono _ _ h⟩
      · rintro σ H1 ⟨gs, g, q, v5, rfl, hgs, _, hg, q0, q1, hun, hl1, s2⟩
        rw [Nat.sub_self, un_zero, List.append_nil] at hun
        refine ⟨_, rfl, l, _, rfl, SqL.of hl1, fun r hr1 => kk r _ rfl h0 h1 (s2.trans (same_new hr1)) (s2.free hr1) ?_⟩
        rw [upd_same, hun]
        unfold asc
        rw [List.map_reverse]
end
structure GlbS (mg : Str → Option Value) : Prop extends GlbW mg where
  range : mg "range" = none
  reversed : mg "reversed" = none
  most : ∃ t, mg "MOST_THINGS" = some (.int 200 t)
theorem two_shl (n : Nat) : (1 : Int) * 2 ^ (n : Int).toNat = sN n := by
  unfold sN
  rw [Int.toNat_natCast, Int.one_mul]
  norm_cast
theorem two_shl2 (n : Nat) : (2 : Int) * 2 ^ (n : Int).toNat = ((2 ^ (n + 1) : Nat) : Int) := by
  rw [Int.toNat_natCast, Nat.pow_succ]
  push_cast
  omega
section
variable {P : Program} {w : World} {K : PySem.W.Frag} {mg : Str → Option Value} {base : Heap}
/-! ### Sets: made, many -/
theorem scSInit : FnScope ["self", "things"] ["self", "things"] (defScope s_Sets_init) := ⟨rfl, rfl, rfl, by decide +kernel, rfl, by decide +kernel, by decide +kernel⟩
theorem ok_sinit {f fW C CB : Addr} {fd fdW : FuncData} (F : Fun K "__init__" "Sets.__init__" s_Sets_init f fd) (G : GlbS mg) (W : GW K mg fW fdW) (T : SkC K C) (xB : ExT K mg "NoBounds" CB) :
    FnOk P w K mg base (L2.CX P w) 2 f fd ["self", "things"] (spSInit C CB) := by
  have GWk : FnOk P w K mg base CX0 1 fW fdW ["asked", "low", "high"] spWhole := ok_whole W.F G.toGlbW
  obtain ⟨tm, hmost⟩ := G.most
  refine F.okX scSInit (fun vs H Q E h => ?_) (fun cdv A outer s H vs Q E hr h => ?_)
  · obtain ⟨p, dx, x, rfl, _⟩ := h
    rfl
  · obtain ⟨p, dx, x, rfl, hp, hx, kok, kno⟩ := h
    refine ⟨_, pss_cons (ps_if (pt_not (pt_val (pe_call GWk hr rfl W.g W.F.kp W.b .nil pass0 (pa_cons (pv 1) (pa_cons pe_int (pa_cons (pe_glob (v := .int 200) (by rfl) hmost ⟨_, rfl⟩) pa_nil)))))) (pss_one (ps_raise rfl (takes_of rfl rfl rfl rfl) (pmk_own PySem.F.excBase_ValueError xB.x xB.g xB.kp (raises_own xB.b xB.t) (by rfl)))) pss_nil)
      (PSs.nox (pss_one (ps_fld (pv 0) (pv 1) rfl))), ?_⟩
    refine ⟨_, rfl, x, 0, 200, rfl, hx, _, rfl, ?_⟩
    cases c : wholeV x 0 200 with
    | false =>
      refine iteT (kno ?_)
      rintro ⟨n, rfl, h1⟩
      have e := whole_nv n 200
      rw [show ((200 : Nat) : Int) = 200 from rfl, c, decide_eq_true h1] at e
      cases e
    | true =>
      refine iteF ?_
      obtain ⟨n, rfl, hn⟩ := whole_nat (hi := 200) c
      exact ⟨_, rfl, _, rfl, p, C, dx, [], rfl, hp, T.cl, T.nT, (by show 0 < 1000; decide), kok n rfl hn⟩
theorem scSMany : FnScope ["self"] ["self"] (defScope s_Sets_many) := ⟨rfl, rfl, rfl, by decide +kernel, rfl, by decide +kernel, by decide +kernel⟩
theorem ok_smany {f C : Addr} {fd : FuncData} (F : Fun K "many" "Sets.many" s_Sets_many f fd) (T : SkC K C) : FnOk P w K mg base CX0 1 f fd ["self"] (spSMany C) := by
  refine F.ok scSMany (fun vs H Q E h => ?_) (fun cdv A outer s H vs Q E hr h => ?_)
  · obtain ⟨p, n, rfl, _⟩ := h
    rfl
  · obtain ⟨p, n, rfl, hp, q⟩ := h
    obtain ⟨dx, hp'⟩ := hp.ob
    have hn := hp.n200
    refine ⟨_, pss_one (ps_ret (pe_op op_shl pe_int (pe_fld (pv 0) rfl))), ?_⟩
    refine ⟨_, rfl, p, C, dx, _, _, rfl, hp', T.cl, T.nT, skF_things _, 1, n, rfl, rfl, ⟨by omega, by omega, by decide⟩, ?_⟩
    show Q (V.int ((1 : Int) * 2 ^ (n : Int).toNat)) H
    rw [two_shl]
    exact q _ (Same.refl _)
/-! ### number -/
theorem scSNumber : FnScope ["self", "one", "place", "thing"] ["self", "one"] (defScope s_Sets_number) := ⟨rfl, rfl, rfl, by decide +kernel, rfl, by decide +kernel, by decide +kernel⟩
theorem ok_snumber {f fR fW C CP : Addr} {fd fdR fdW : FuncData} (F : Fun K "number" "Sets.number" s_Sets_number f fd) (G : GlbS mg) (W : GW K mg fW fdW) (R : GR K mg fR fdR) (T : SkC K C) (xP : ExT K mg "NoPick" CP) :
    FnOk P w K mg base (L2.CX P w) 3 f fd ["self", "one"] (spSNumber C CP) := by
  have GRk : FnOk P w K mg base CX0 2 fR fdR ["row", "things"] spRising := ok_rising R.F G.toGlbW W
  refine F.okX scSNumber (fun vs H Q E h => ?_) (fun cdv A outer s H vs Q E hr h => ?_)
  · obtain ⟨p, n, one, rfl, _⟩ := h
    rfl
  · obtain ⟨p, n, one, rfl, hp, ho, kok, kno⟩ := h
    obtain ⟨dx, hp'⟩ := hp.ob
    have hn := hp.n200
    refine ⟨_, pss_cons (ps_if (pt_not (pt_val (pe_call GRk hr rfl R.g R.F.kp R.b .nil pass0 (pa_cons (pv 1) (pa_cons (pe_fld (pv 0) rfl) pa_nil)))))
        (pss_one (ps_raise rfl (takes_of rfl rfl rfl rfl) (pmk_own PySem.F.excBase_ValueError xP.x xP.g xP.kp (raises_own xP.b xP.t) (by rfl)))) pss_nil)
      (PSs.nox (pss_cons (ps_set (i := 2) scSNumber.nd rfl (Or.inl rfl) pe_int)
      (pss_cons (ps_for PassesOwn.never rfl (pi_sq (pv 1)) (pg_name (i := 3) scSNumber.nd rfl (Or.inl rfl))
        (pss_one (ps_set (i := 2) scSNumber.nd rfl (Or.inl rfl) (pe_op op_sub (pe_op op_sub (pe_op op_shl pe_int (pv 3)) pe_int) (pv 2)))))
      (pss_one (ps_ret (pv 2)))))), ?_⟩
    refine ⟨_, rfl, _, rfl, p, C, dx, _, _, rfl, hp', T.cl, T.nT, skF_things _, one, n, rfl, ho, fun r H1 s1 hr1 => ⟨_, rfl, ?_⟩⟩
    have no : (∃ ds, IsSet H one n ds) → r = true := by
      rintro ⟨ds, a, b, rfl, ha, hd⟩
      rw [hr1.1 ⟨a, b, _, rfl, ha⟩ a b _ rfl ha]
      exact desc_ris hd
    cases hr' : r with
    | false => exact iteT (kno _ (fun z => by rw [no z] at hr'; cases hr') s1)
    | true =>
      refine iteF ?_
      obtain ⟨a, b, xs, rfl, ha⟩ : isRow H one := by
        apply Classical.byContradiction
        intro z
        rw [hr1.2 z] at hr'
        cases hr'
      have hris : risV n 0 xs = true := by rw [← hr1.1 ⟨a, b, _, rfl, ha⟩ a b xs rfl ha]; exact hr'
      obtain ⟨ds, e1, hd, hl⟩ := ris_desc xs [] 0 trivial (Nat.zero_le _) hris
      have e1' : xs = asc ds := e1
      subst e1'
      have ha1 := s1 _ _ ha
      refine ⟨_, rfl, a, b, asc ds, rfl, row_sq ha1, for_it (walk_itb (b := b) (a := a) (xs := asc ds)) (fun i σ H' => ∃ v3, σ = [some (.ref p), some (.ref a), some (.int (gr (ds.drop (ds.length - i)))), v3] ∧ Same H H')
          ⟨none, by rw [Nat.sub_zero, List.drop_length]; rfl, s1⟩ (fun i σ H' _ ⟨_, _, s2⟩ => row_sq (s2 _ _ ha)) ?_ ?_⟩
      · rintro i y σ H2 H2' hi ⟨v3, rfl, s2⟩ ⟨rfl, hy⟩
        have hi' : i < ds.length := by rw [← asc_len ds]; exact hi
        obtain ⟨t, hdr, hat⟩ := drop_more hi'
        rw [hat] at hy
        have e4 := Option.some.inj hy
        subst e4
        have ht : t < n := hd.mem t (by
          have : t ∈ ds.drop (ds.length - (i + 1)) := by rw [hdr]; exact List.mem_cons_self
          exact List.mem_of_mem_drop this)
        refine ⟨_, rfl, 2, t, rfl, rfl, ⟨by omega, by omega, by decide⟩, _, _, rfl, rfl, _, rfl, _, _, rfl, rfl, some (nv t), ?_, s2⟩
        show [_, _, some (V.int ((2 : Int) * 2 ^ (t : Int).toNat - 1 - gr (ds.drop (ds.length - i)))), _] = _
        rw [hdr, two_shl2]
        rfl
      · rintro σ H2 ⟨v3, rfl, s2⟩
        rw [asc_len, Nat.sub_self, List.drop_zero]
        exact ⟨_, rfl, kok ds _ ⟨a, b, rfl, ha, hd⟩ s2⟩
/-! ### at -/
structure GSM (K : PySem.W.Frag) (C : Addr) (f : Addr) (fd : FuncData) : Prop where
  F : Fun K "many" "Sets.many" s_Sets_many f fd
  b : Binds K fd ["self"] []
  m : Meth K C "many" f
theorem scSAt : FnScope ["self", "number", "told", "place", "thing"] ["self", "number"] (defScope s_Sets_at) := ⟨rfl, rfl, rfl, by decide +kernel, rfl, by decide +kernel, by decide +kernel⟩
theorem ok_sat {f fW fM C CN : Addr} {fd fdW fdM : FuncData} (F : Fun K "at" "Sets.at" s_Sets_at f fd) (G : GlbS mg) (W : GW K mg fW fdW) (M : GSM K C fM fdM) (T : SkC K C) (xN : ExT K mg "NoNumber" CN) :
    FnOk P w K mg base (L2.CX P w) 2 f fd ["self", "number"] (spSAt C CN) := by
  have GWk : FnOk P w K mg base CX0 1 fW fdW ["asked", "low", "high"] spWhole := ok_whole W.F G.toGlbW
  have GMk : FnOk P w K mg base CX0 1 fM fdM ["self"] (spSMany C) := ok_smany M.F T
  refine F.okX scSAt (fun vs H Q E h => ?_) (fun cdv A outer s H vs Q E hr h => ?_)
  · obtain ⟨p, n, x, rfl, _⟩ := h
    rfl
  · obtain ⟨p, n, x, rfl, hp, hx, kok, kno⟩ := h
    obtain ⟨dx, hp'⟩ := hp.ob
    have hn := hp.n200
    refine ⟨_, pss_cons (ps_if (pt_not (pt_val (pe_call GWk hr rfl W.g W.F.kp W.b .nil pass0 (pa_cons (pv 1) (pa_cons pe_int (pa_cons (pe_op op_sub (pe_meth0 (pv 0) T.cl M.m GMk hr M.b .nil pass0) pe_int) pa_nil))))))
        (pss_one (ps_raise rfl (takes_of rfl rfl rfl rfl) (pmk_own PySem.F.excBase_ValueError xN.x xN.g xN.kp (raises_own xN.b xN.t) (by rfl)))) pss_nil)
      (PSs.nox (pss_cons (ps_set (i := 2) scSAt.nd rfl (Or.inl rfl) (pe_lst pa_nil))
      (pss_cons (ps_set (i := 3) scSAt.nd rfl (Or.inl rfl) (pv 1))
      (pss_cons (ps_for PassesOwn.never rfl (pi_range3 rfl G.range (pa_cons (pe_op op_sub (pe_fld (pv 0) rfl) pe_int) (pa_cons (pe_un un_neg pe_int) (pa_cons (pe_un un_neg pe_int) pa_nil)))) (pg_name (i := 4) scSAt.nd rfl (Or.inl rfl))
        (pss_one (ps_if (pt_cmpR op_ge (pv 3) (pe_op op_shl pe_int (pv 4)) (nomark _))
          (pss_cons (ps_expr (pe_bm PySem.F.plainAttrs_list PySem.F.slot_list_append PySem.F.type_list_append mt_append (pv 2) (pa_cons (pv 4) pa_nil)))
          (pss_one (ps_set (i := 3) scSAt.nd rfl (Or.inl rfl) (pe_op op_sub (pe_op op_sub (pe_op op_shl pe_int (pv 4)) pe_int) (pv 3))))) pss_nil)))
      (pss_one (ps_ret (RT.pe_tupRev rfl (by rfl) G.tuple (by rfl) G.reversed (pv 2)))))))), ?_⟩
    refine ⟨_, rfl, _, rfl, p, dx, _, rfl, hp', skF_no _ (by decide +kernel), p, n, rfl, hp, fun H1 s1 => ?_⟩
    refine ⟨_, _, rfl, rfl, x, 0, _, rfl, hx.mono s1, _, rfl, ?_⟩
    cases c : wholeV x 0 (sN n - 1) with
    | false =>
      refine iteT (kno _ ?_ s1)
      rintro ⟨i, rfl, h0, h1⟩
      have c' : (decide (0 ≤ i) && decide (i ≤ sN n - 1)) = false := c
      rw [decide_eq_true h0, decide_eq_true (by omega)] at c'
      cases c'
    | true =>
      refine iteF ?_
      obtain ⟨i, rfl, h0, h1⟩ : ∃ i, x = .int i ∧ 0 ≤ i ∧ i < sN n := by
        cases x with
        | int i =>
          have c' : (decide (0 ≤ i) && decide (i ≤ sN n - 1)) = true := c
          rw [Bool.and_eq_true, decide_eq_true_eq, decide_eq_true_eq] at c'
          exact ⟨i, rfl, c'.1, by omega⟩
        | _ => exact absurd (show false = true from c) Bool.false_ne_true
      have kk := kok i
      refine ⟨Nat.zero_le _, fun l hl => ?_⟩
      have s2 : Same H (upd H1 l (.lst [])) := s1.trans (same_new hl)
      have hlH : H l = none := s1.free hl
      have rg : RgC ((n : Int) - 1) (-1) (-1) n := by
        have z := RgC.neg (i := (n : Int) - 1) (j := -1) (by omega) (by omega) (by omega) (by omega)
        have e : ((n : Int) - 1 - -1).toNat = n := by omega
        rw [e] at z
        exact z
      refine ⟨_, rfl, _, rfl, p, C, dx, _, _, rfl, s2 _ _ hp', T.cl, T.nT, skF_things _, _, _, rfl, rfl, _, rfl, _, rfl, (n : Int) - 1, -1, -1, n, rfl, rg, ?_⟩
      refine for_rangeC (lo := (n : Int) - 1) (c := -1) (n := n) (fun j σ H' => ∃ (gs : List Nat) (q : Int) (v4 : Option V), σ = [some (.ref p), some (.int i), some (.ref l), some (.int q), v4] ∧ j ≤ n ∧ gs.length ≤ j ∧ 0 ≤ q ∧ q < sN (n - j) ∧ gu n i = gs ++ gu (n - j) q ∧
        H' l = some (.lst (gs.map nv)) ∧ Same H H') ?_ ?_ ?_
      · exact ⟨[], i, none, rfl, Nat.zero_le _, Nat.le_refl _, h0, h1, rfl, upd_same, s2⟩
      · rintro j σ H2 hj ⟨gs, q, v4, rfl, _, hgs, q0, q1, hun, hl1, s3⟩
        obtain ⟨k, hk⟩ : ∃ k, n - j = k + 1 := ⟨n - j - 1, by omega⟩
        have hk2 : n - (j + 1) = k := by omega
        rw [hk] at q1 hun
        have ek : (n : Int) - 1 + (j : Int) * -1 = (k : Int) := by omega
        rw [ek]
        have e2 := p2_succ k
        have q1' : q < ((2 ^ (k + 1) : Nat) : Int) := q1
        refine ⟨_, rfl, _, rfl, 1, k, rfl, rfl, ⟨by omega, by omega, by decide⟩, _, _, rfl, rfl, _, rfl, ?_⟩
        by_cases cc : sN k ≤ q
        · have cc' : ((2 ^ k : Nat) : Int) ≤ q := cc
          refine if_true_of (decide_eq_true (show (1 : Int) * 2 ^ (k : Int).toNat ≤ q by rw [two_shl]; exact cc)) ?_
          refine ⟨_, rfl, .inl ⟨rfl, _, SqL.of hl1⟩, _, rfl, l, _, _, rfl, rfl, hl1, (by rw [List.length_map]; exact small1000 (by omega)), ?_⟩
          refine ⟨_, rfl, 2, k, rfl, rfl, ⟨by omega, by omega, by decide⟩, _, _, rfl, rfl, _, rfl, _, _, rfl, rfl, gs ++ [k], ((2 ^ (k + 1) : Nat) : Int) - 1 - q, some (nv k), ?_, by omega, ?_, ?_, ?_, ?_, ?_, fun b o e => ?_⟩
          · show [_, _, _, some (V.int ((2 : Int) * 2 ^ (k : Int).toNat - 1 - q)), _] = _
            rw [two_shl2]
            rfl
          · rw [List.length_append]
            show gs.length + 1 ≤ j + 1
            omega
          · omega
          · rw [hk2]
            show _ < ((2 ^ k : Nat) : Int)
            omega
          · rw [hk2, hun, List.append_assoc]
            congr 1
            show (if q < ((2 ^ k : Nat) : Int) then gu k q else k :: gu k (((2 ^ (k + 1) : Nat) : Int) - 1 - q)) = _
            rw [if_neg (by omega)]
            rfl
          · rw [upd_same, List.map_append]
            rfl
          · rw [upd_ne (ne_of_none e hlH)]
            exact s3 _ _ e
        · have cc' : q < ((2 ^ k : Nat) : Int) := by unfold sN at cc; omega
          refine if_false_of (decide_eq_false (show ¬ (1 : Int) * 2 ^ (k : Int).toNat ≤ q by rw [two_shl]; exact cc)) ?_
          refine ⟨gs, q, _, rfl, by omega, by omega, q0, ?_, ?_, hl1, s3⟩
          · rw [hk2]
            exact cc'
          · rw [hk2, hun]
            congr 1
            show (if q < ((2 ^ k : Nat) : Int) then gu k q else k :: gu k (((2 ^ (k + 1) : Nat) : Int) - 1 - q)) = _
            rw [if_pos cc']
      · rintro σ H2 ⟨gs, q, v4, rfl, _, _, q0, q1, hun, hl1, s3⟩
        rw [Nat.sub_self] at hun
        have hun' : gu n i = gs := by rw [hun]; exact List.append_nil _
        refine ⟨_, rfl, l, _, rfl, SqL.of hl1, fun r hr1 => kk r _ rfl h0 h1 (s3.trans (same_new hr1)) (s3.free hr1) ?_⟩
        rw [upd_same, hun']
        unfold asc
        rw [List.map_reverse]
/-! ### step -/
structure GSN (K : PySem.W.Frag) (C : Addr) (f : Addr) (fd : FuncData) : Prop where
  F : Fun K "number" "Sets.number" s_Sets_number f fd
  b : Binds K fd ["self", "one"] []
  m : Meth K C "number" f
structure GSA (K : PySem.W.Frag) (C : Addr) (f : Addr) (fd : FuncData) : Prop where
  F : Fun K "at" "Sets.at" s_Sets_at f fd
  b : Binds K fd ["self", "number"] []
  m : Meth K C "at" f
structure GSS (K : PySem.W.Frag) (C : Addr) (f : Addr) (fd : FuncData) : Prop where
  F : Fun K "step" "Sets.step" s_Sets_step f fd
  b : Binds K fd ["self", "one", "by"] []
  m : Meth K C "step" f
end
/-! ### a dict comprehension over any walk -/
theorem dc_it {J : It} {n : Nat} {G : Hp → Prop} {Y : Nat → Hp → V → Hp → Prop} (w : L2.Walk J n G Y) {g : TG} {tt : TT} {tk tv : TE} {vs : List Nat} {σ : L2.St} {H1 : Hp} {D : Addr} {Qd : Hp → Prop} (Pv : Nat → Hp → Prop) (h0 : Pv 0 (upd H1 D (.dK []))) (hG : ∀ i H, i ≤ n → Pv i H → G H)
    (hs : ∀ i x H H', i < n → Pv i H → Y i H x H' → g x (wipe σ vs) H' fun σ2 H2 => wipe σ2 vs = wipe σ vs ∧ tt σ2 H2 fun b H3 =>
      if b = true then tk σ2 H3 fun y H4 => tv σ2 H4 fun z H5 => ∃ kvs k, y = kV k ∧ H5 D = some (.dK kvs) ∧ kvs.length < sizeLine ∧ Pv (i + 1) (upd H5 D (.dK (putK kvs k z))) else Pv (i + 1) H3) (hd : ∀ H, Pv n H → Qd H) :
    ∃ W : Nat → Nat → Hp → Prop, (∃ m, W 0 m (upd H1 D (.dK []))) ∧ ∀ i m H, W i m H →
      (J.stop i H ∧ Qd H) ∨ (J.go i H ∧ ∃ Nx : Hp → Prop, (∀ H', Nx H' → ∃ m', m' < m ∧ W (i + 1) m' H') ∧ ∀ x H', J.yld i H x H' → g x (wipe σ vs) H' fun σ2 H2 => wipe σ2 vs = wipe σ vs ∧ tt σ2 H2 fun b H3 =>
        if b = true then tk σ2 H3 fun y H4 => tv σ2 H4 fun z H5 => ∃ kvs k, y = kV k ∧ H5 D = some (.dK kvs) ∧ kvs.length < sizeLine ∧ Nx (upd H5 D (.dK (putK kvs k z))) else Nx H3) := by
  refine ⟨fun i m H => i + m = n ∧ Pv i H, ⟨n, by omega, h0⟩, fun i m H ⟨hm, p⟩ => ?_⟩
  cases m with
  | zero =>
    have e : i = n := by omega
    subst e
    exact .inl ⟨w.stops H (hG i H (Nat.le_refl _) p), hd H p⟩
  | succ m =>
    have hlt : i < n := by omega
    exact .inr ⟨w.goes i H hlt (hG i H (by omega) p), Pv (i + 1), fun H' p' => ⟨m, by omega, by omega, p'⟩, fun x H' y => hs i x H H' hlt p (w.yields i H x H' hlt (hG i H (by omega) p) y)⟩
/-! ### texts: read -/
structure GlbT (mg : Str → Option Value) : Prop extends GlbW mg where
  range : mg "range" = none
  str : mg "str" = none
  len : mg "len" = none
  most : ∃ t, mg "MOST_THINGS" = some (.int 200 t)
  empty : ∃ t, mg "EMPTY" = some (.str "none" t)
theorem small10k {n : Nat} (h : n ≤ 10000) : n < sizeLine := Nat.lt_of_le_of_lt h (by decide)
/-- the table of the words after i of them -/
def wtab (i : Nat) : List (Key × V) := (List.range i).map fun n => ((Sum.inr (wd n) : Key), nv n)
theorem wtab_len (i : Nat) : (wtab i).length = i := by unfold wtab; rw [List.length_map, List.length_range]
theorem wd_inj {a b : Nat} (ha : a < 200) (hb : b < 200) (h : wd a = wd b) : a = b := by
  have e := congrArg numW h
  rw [num_wd a ha, num_wd b hb] at e
  omega
theorem wtab_val : ∀ (i : Nat), i ≤ 200 → ∀ x : Str, (∀ n, n < i → x = wd n → valV (wtab i) (Sum.inr x) = some (nv n)) ∧ ((∀ n, n < i → x ≠ wd n) → valV (wtab i) (Sum.inr x) = none)
  | 0, _, x => ⟨fun n h => absurd h (Nat.not_lt_zero _), fun _ => rfl⟩
  | i + 1, hi, x => by
    have e : wtab (i + 1) = wtab i ++ [((Sum.inr (wd i) : Key), nv i)] := by unfold wtab; rw [List.range_succ, List.map_append]; rfl
    have ⟨a, b⟩ := wtab_val i (by omega) x
    have no : valV (wtab i) (Sum.inr (wd i)) = none := (wtab_val i (by omega) (wd i)).2 fun n hn z => by
      have := wd_inj (by omega) (by omega) z
      omega
    rw [e, valV_snoc _ _ _ _ no]
    constructor
    · intro n hn hx
      by_cases c : n = i
      · subst c
        rw [if_pos (by rw [hx])]
      · rw [if_neg (fun z => c (wd_inj (by omega) (by omega) (hx.symm.trans (Sum.inr.inj z))))]
        exact a n (by omega) hx
    · intro h
      rw [if_neg (fun z => h i (Nat.lt_succ_self i) (Sum.inr.inj z))]
      exact b fun n hn => h n (by omega)
theorem wtab_put {i : Nat} (hi : i < 200) : putK (wtab i) (Sum.inr (wd i)) (nv i) = wtab (i + 1) := by
  have no : valV (wtab i) (Sum.inr (wd i)) = none := (wtab_val i (by omega) (wd i)).2 fun n hn z => by
    have := wd_inj (by omega) (by omega) z
    omega
  unfold putK
  rw [valV_any, no]
  unfold wtab
  rw [List.range_succ, List.map_append]
  rfl
theorem wtab_get (x : Str) : (valV (wtab 200) (Sum.inr x : Key)).getD .non = thingV x := by
  by_cases h : ∃ n, n < 200 ∧ x = wd n
  · obtain ⟨n, hn, e⟩ := h
    rw [(wtab_val 200 (by omega) x).1 n hn e, e, thing_wd hn]
    rfl
  · have no : ∀ n, n < 200 → x ≠ wd n := fun n hn e => h ⟨n, hn, e⟩
    rw [(wtab_val 200 (by omega) x).2 no, thing_no no]
    rfl
section
variable {P : Program} {w : World} {K : PySem.W.Frag} {mg : Str → Option Value} {base : Heap}
abbrev NRd : List Str := ["text", "thing_of", "told", "thing", "word"]
theorem scRead : FnScope NRd ["text"] (defScope s_read) := ⟨rfl, rfl, rfl, by decide +kernel, rfl, by decide +kernel, by decide +kernel⟩
theorem ok_read {f fW fR CT : Addr} {fd fdW fdR : FuncData} (F : Fun K "read" "read" s_read f fd) (G : GlbT mg) (W : GW K mg fW fdW) (R : GR K mg fR fdR) (xT : ExT K mg "NoText" CT) :
    FnOk P w K mg base (L2.CX P w) 3 f fd ["text"] (spRead CT) := by
  have GRk : FnOk P w K mg base CX0 2 fR fdR ["row", "things"] spRising := ok_rising R.F G.toGlbW W
  obtain ⟨tm, hmost⟩ := G.most
  obtain ⟨te, hempty⟩ := G.empty
  refine F.okX scRead (fun vs H Q E h => ?_) (fun cdv A outer s H vs Q E hr h => ?_)
  · obtain ⟨t, rfl, _⟩ := h
    rfl
  · obtain ⟨t, rfl, hl, kok, kno⟩ := h
    have hu : _ + 1 < cLine := Nat.lt_of_le_of_lt (Nat.add_le_add_left (by decide : 1 ≤ 64) _) hr.units
    refine ⟨_, pss_cons (ps_if (pt_cmpR op_eq (pv 0) (pe_glob (v := .str "none") (by rfl) hempty ⟨_, rfl⟩) (nomark _)) (pss_one (ps_ret (pe_tup pa_nil))) pss_nil)
      (pss_cons (ps_set (i := 1) scRead.nd rfl (Or.inr rfl) (pe_dc (own := [("thing", 3)]) (g := gName 3) (tt := tYes) rfl scRead.nd (pi_range1 rfl G.range (pa_cons (pe_glob (v := .int 200) (by rfl) hmost ⟨_, rfl⟩) pa_nil)) (blkOk_by (N := NRd) (sc := defScope s_read) (by decide +kernel)) (fun _ _ _ _ _ => pg_name (i := 3) scRead.nd rfl (Or.inl rfl)) (fun _ _ _ _ _ => pts_nil)
          (fun _ _ _ _ _ => pe_callTy call_str_int (by rfl) G.str (by decide +kernel) (pa_cons (pv 3) pa_nil)) (fun _ _ _ _ _ => pv 3)))
      (pss_cons (ps_setLc (i := 2) (own := [("word", 4)]) (g := gName 4) (tt := tYes) rfl scRead.nd rfl rfl (sw_true rfl rfl rfl (by decide +kernel)) (pi_list (pe_split (pv 0) pe_str)) (blkOk_by (N := NRd) (sc := defScope s_read) (by decide +kernel)) (fun _ _ _ _ _ => pg_name (i := 4) scRead.nd rfl (Or.inl rfl)) (fun _ _ _ _ _ => pts_nil)
          (fun _ _ _ _ _ => pe_dget1 hu (pv 1) (pv 4) ⟨by rfl, by rfl, by rfl, by rfl⟩))
      (pss_cons (ps_if (pt_not (pt_val (pe_call GRk hr rfl R.g R.F.kp R.b .nil pass0 (pa_cons (pv 2) (pa_cons (pe_glob (v := .int 200) (by rfl) hmost ⟨_, rfl⟩) pa_nil))))) (pss_one (ps_raise rfl (takes_of rfl rfl rfl rfl) (pmk_own PySem.F.excBase_ValueError xT.x xT.g xT.kp (raises_own xT.b xT.t) (by rfl)))) pss_nil)
      (PSs.nox (pss_one (ps_ret (pe_callTy call_tuple_of (by rfl) G.tuple (by decide +kernel) (pa_cons (pv 2) pa_nil)))))))), ?_⟩
    refine ⟨_, rfl, rfl, _, rfl, ?_⟩
    by_cases hnone : t = "none"
    · refine if_true_of (decide_eq_true (congrArg V.str hnone)) ?_
      exact ⟨Nat.zero_le _, fun q hq => kok [] q _ (.inl ⟨hnone, rfl⟩) (same_new hq) upd_same⟩
    refine if_false_of (decide_eq_false fun z => hnone (V.str.inj z)) ?_
    -- the table
    refine ⟨200, rfl, by decide, by decide, fun D hD => dc_it walk_range (fun j G => G D = some (.dK (wtab j)) ∧ Same H G) ⟨upd_same, same_new hD⟩ (fun _ _ _ _ => trivial) ?_ ?_⟩
    · rintro j y G G' hj ⟨hDG, g⟩ ⟨rfl, ey⟩
      have hj' : j < 200 := hj
      have ey' : y = nv j := ey.trans (congrArg V.int (by omega))
      subst ey'
      refine ⟨rfl, _, rfl, _, rfl, (Nat.lt_of_le_of_lt (Nat.log2_le_self _) (by show (j : Int).natAbs < 1920; omega)), _, rfl, wtab j, Sum.inr (wd j), rfl, hDG, (by rw [wtab_len]; exact small1000 (by omega)), ?_, fun b o e => ?_⟩
      · rw [upd_same, wtab_put hj']
      · rw [upd_ne (ne_of_none e hD)]
        exact g _ _ e
    rintro G1 ⟨hDG, g1⟩
    have hDG' : G1 D = some (.dK (wtab 200)) := hDG
    -- the words
    obtain ⟨ws, ews⟩ : ∃ ws, ws = Txt.split t " " := ⟨_, rfl⟩
    have lws : ws.length ≤ 5002 := by rw [ews]; have := PyProof.Rows.split_le t " "; omega
    refine ⟨_, rfl, ⟨_, rfl⟩, t, _, rfl, rfl, (by decide +kernel), Nat.le_trans (by omega : t.length + 2 ≤ 10000) (by decide), fun p hp => ?_⟩
    rw [← ews]
    have sp := same_new (o := .lst (ws.map V.str)) hp
    refine ⟨p, rfl, ⟨_, SqL.of upd_same⟩, fun D2 hD2 => lc_it (walk_list (a := p) (xs := ws.map V.str)) (fun j G => G D2 = some (.lst ((ws.map thingV).take j)) ∧ Same (upd G1 p (.lst (ws.map V.str))) G) ⟨upd_same, same_new hD2⟩ (fun j G _ ⟨_, g⟩ => SqL.of (g _ _ upd_same)) ?_ ?_⟩
    · rintro j y G G' hj ⟨hlG, g⟩ ⟨rfl, hy⟩
      rw [List.getElem?_map] at hy
      obtain ⟨x, hx, rfl⟩ : ∃ x, ws[j]? = some x ∧ y = V.str x := by
        cases e : ws[j]? with
        | none => rw [e] at hy; cases hy
        | some x => rw [e] at hy; exact ⟨x, rfl, (Option.some.inj hy).symm⟩
      have hDj := g _ _ (sp _ _ hDG')
      refine ⟨rfl, _, rfl, D, rfl, .inl ⟨_, .inl hDj⟩, _, rfl, _, DGet.k (k := Sum.inr x) hDj, _, hlG, ?_, ?_, fun b o e => ?_⟩
      · rw [List.length_take, List.length_map]; exact small10k (by omega)
      · rw [upd_same, wtab_get, List.take_add_one, List.getElem?_map, hx]; rfl
      · rw [upd_ne (ne_of_none e hD2)]
        exact g _ _ e
    rintro G2 ⟨hlG, g2⟩
    rw [List.length_map, ← List.length_map (f := thingV), List.take_length] at hlG
    have s02 : Same H G2 := g1.trans (sp.trans g2)
    have dt2 : DtIn G2 (.ref D2) := by
      refine ⟨.row false _ hlG, fun a' b' xs e h' y hy => ?_⟩
      cases e
      rw [hlG] at h'
      have e : ws.map thingV = xs := by cases b' <;> first | exact HO.lst.inj (Option.some.inj h') | cases h'
      rw [← e] at hy
      obtain ⟨z, _, rfl⟩ := List.mem_map.mp hy
      unfold thingV
      split
      · exact .int _
      · exact .non
    refine ⟨_, rfl, .ref D2, 200, rfl, dt2, fun r G3 s3 hr3 => ⟨_, rfl, ?_⟩⟩
    have er : r = risV 200 0 (ws.map thingV) := hr3.1 ⟨D2, false, _, rfl, hlG⟩ D2 false _ rfl hlG
    cases hr' : r with
    | true =>
      obtain ⟨ds, e1, e2, _⟩ := ris_desc (n := 200) (ws.map thingV) [] 0 trivial (Nat.zero_le _) (er.symm.trans hr')
      refine iteF ⟨_, rfl, D2, _, rfl, .inl ⟨SqL.of (s3 _ _ hlG), fun l hl => kok ds l _ (.inr ⟨hnone, ?_, e2⟩) ((s02.trans s3).trans (same_new hl)) ?_⟩⟩
      · rw [← ews]; exact e1
      · rw [upd_same]; exact congrArg (fun z => some (HO.tup z)) e1
    | false =>
      refine iteT (kno _ ?_ (s02.trans s3))
      rintro ⟨ds, h | ⟨_, h1, h2⟩⟩
      · exact hnone h.1
      · rw [← ews] at h1
        rw [h1] at er
        rw [hr'] at er
        have := desc_ris h2
        rw [show ((200 : Nat) : Int) = 200 from rfl, ← er] at this
        cases this
end
/-! ### texts: written -/
structure GWr (K : PySem.W.Frag) (mg : Str → Option Value) (base : Heap) (f : Addr) (fd : FuncData) (c tb : Addr) : Prop where
  F : Fun K "written" "written" s_written f fd
  cd : fd.code = .ref c
  b : Binds K fd ["pick"] []
  g : mg "written" = some (.ref f)
  tb : GxR.TabB base mg c tb
def wdV : V → Str
  | .int i => ((toString i : String) : Str)
  | _ => ""
/-- a thing, as the text is put together of it -/
def Thg (x : V) : Prop := ∃ n : Nat, x = nv n ∧ n < 200
section
variable {P : Program} {w : World} {K : PySem.W.Frag} {mg : Str → Option Value} {base : Heap}
theorem scWritten : FnScope ["pick"] ["pick"] (defScope s_written) := ⟨rfl, rfl, rfl, by decide +kernel, rfl, by decide +kernel, by decide +kernel⟩
theorem str_elt {X : Cx} {pins : List (Addr × Obj)} {σ : L2.St} {P : Addr} {scope : Scope} {p0 p1 p4 : Pos} {H1 : Hp} {s1 : Shared} {xs : List V} {its : List Value} (hs : X.mg "str" = none)
    (hP : H1 P = some (TabO P)) (sk : scope.kind = .function) (s1' : scope.names.lookup ("str" : Str) = some NameKind.globalImplicit) (s2 : scope.names.lookup ("thing" : Str) = some NameKind.local)
    (hx : ∀ x ∈ xs, Thg x) (I : Inv X pins σ H1 s1) (rv : Vals xs its) :
    EltG X P scope "thing" (.Call (.Name "str" p0) [.Name "thing" p1] [] p4) s1 its (fun i y => ∃ z, xs[i]? = some z ∧ ∃ t, y = .str (wdV z) t) := by
  intro cenv A' E' i v t m hsc hgl hbl hA hD hU hi hn hm hk
  have kd : cenv.scope.kind = .function := by rw [hsc]; exact sk
  have hbase : ∀ b o, X.base.get? b = some o → t.heap.get? b = some o := fun b o e => by
    have ⟨e1, e2⟩ := I.bs b o e
    exact hk b o (fun z => by rw [z, hP] at e2; cases e2) e1
  have ns : t.heap.Ns cenv.globals X.mg := by rw [hgl, I.ok.glob]; exact I.mod.glob.keeps hbase
  obtain ⟨z, hz, rz⟩ : ∃ z, xs[i]? = some z ∧ RelV z v := by
    have hi2 : i < its.length := (List.getElem?_eq_some_iff.mp hi).1
    have hl := rv.length
    obtain ⟨z, ez⟩ : ∃ z, xs[i]? = some z := ⟨xs[i]'(by omega), List.getElem?_eq_getElem _⟩
    obtain ⟨u, hu, ru⟩ := rv.get ez
    rw [hi] at hu
    cases hu
    exact ⟨z, ez, ru⟩
  obtain ⟨n, rfl, hn200⟩ := hx z (List.mem_of_getElem? hz)
  obtain ⟨tv, rfl⟩ := (show ∃ tv, v = Value.int (n : Int) tv from rz)
  obtain ⟨mb, bl1, bl2⟩ := I.mod.blt
  have b1 : bootBuiltins "str" = some (.type "str") := by decide +kernel
  refine wpAny_Call_Name_kw (Calls.Name_function_global kd (by show cenv.scope.names.lookup _ = _; rw [hsc]; exact s1') (Calls.loadGlobal_builtin ns hs (by rw [hbl]; exact bl1.keeps hbase) ((bl2 "str" (by decide)).trans b1) ?_) (by decide))
  refine PyProof.Rows.callWith_type1 (PyProof.Rows.args_cons (wpAny_Name (wpAny_loadName_local kd (by show cenv.scope.names.lookup _ = _; rw [hsc]; exact s2) hn hm ?_) (by decide)) rfl) rfl rfl
  refine PyProof.Rows.args_nil ?_
  refine PySem.P.str_of_int (Nat.lt_of_le_of_lt (Nat.log2_le_self _) (by show (n : Int).natAbs < 1920; omega)) ⟨⟨nv n, hz, _, rfl⟩, ?_⟩
  exact ⟨t.heap, _, rfl, fun _ _ e => e⟩
theorem ok_written {f fW fR CP : Addr} {fd fdW fdR : FuncData} {c tb : Addr} (A' : GWr K mg base f fd c tb) (G : GlbT mg) (W : GW K mg fW fdW) (R : GR K mg fR fdR) (xP : ExT K mg "NoPick" CP) :
    FnOk P w K mg base (L2.CX P w) 4 f fd ["pick"] (spWritten CP tb) := by
  have GRk : FnOk P w K mg base CX0 2 fR fdR ["row", "things"] spRising := ok_rising R.F G.toGlbW W
  obtain ⟨oc, od, kV, doc, pm, an, cdv, ct, osl, rfl, lk, hcd⟩ := A'.F.ex
  have ec : cdv = .ref c := A'.cd
  subst ec
  obtain ⟨tm, hmost⟩ := G.most
  obtain ⟨te, hempty⟩ := G.empty
  refine fn_of lk hcd scWritten (fun vs H Q E h => ?_) fun A outer s H vs Q E hr h => ?_
  · obtain ⟨x, rfl, _⟩ := h
    rfl
  · obtain ⟨x, rfl, hx, hP, kok, kno⟩ := h
    refine ⟨_, pss_cons (ps_if (pt_not (pt_val (pe_call GRk (hr.mono (by decide)) rfl R.g R.F.kp R.b .nil pass0 (pa_cons (pv 0) (pa_cons (pe_glob (v := .int 200) (by rfl) hmost ⟨_, rfl⟩) pa_nil))))) (pss_one (ps_raise rfl (takes_of rfl rfl rfl rfl) (pmk_own PySem.F.excBase_ValueError xP.x xP.g xP.kp (raises_own xP.b xP.t) (by rfl)))) pss_nil)
      (pss_cons (ps_if (pt_cmpR op_eq (pe_callB call_len_seq (by rfl) G.len PySem.boot_len (pa_cons (pv 0) pa_nil)) pe_int (nomark _)) (pss_one (ps_ret (pe_glob (v := .str "none") (by rfl) hempty ⟨_, rfl⟩))) pss_nil)
      (pss_one (ps_ret (pe_joinR (x := "thing") (P := tb) (c := c) (f := wdV) (R := fun x _ => Thg x) hr A'.tb rfl ?S pe_str (pv 0) ?hel (fun _ => rfl))))), ?_⟩
    case S =>
      exact ⟨rfl, rfl, by decide +kernel, rfl, rfl, fun y hy e => absurd e ((show ∀ y ∈ (_ : Scope).names, y.2 ≠ NameKind.free by decide +kernel) y hy)⟩
    case hel =>
      intro pins σ xs H1 s1 its hxs hP1 I rv
      exact str_elt G.str hP1 rfl (by decide +kernel) (by decide +kernel) hxs I rv
    refine ⟨_, rfl, x, 200, rfl, hx, fun r H1 s1 hr1 => ⟨_, rfl, ?_⟩⟩
    cases hr' : r with
    | false =>
      refine iteT (kno H1 ?_ s1)
      rintro ⟨ds, a, b, rfl, ha, hd⟩
      have e := hr1.1 ⟨a, b, _, rfl, ha⟩ a b _ rfl ha
      rw [hr', show (200 : Int) = ((200 : Nat) : Int) from rfl, desc_ris hd] at e
      cases e
    | true =>
      have row : isRow H x := Classical.byContradiction fun n => by
        have := hr1.2 n
        rw [hr'] at this
        cases this
      obtain ⟨a, b, xs, rfl, ha⟩ := row
      have e := hr1.1 ⟨a, b, _, rfl, ha⟩ a b _ rfl ha
      obtain ⟨ds, e1, e2, _⟩ := ris_desc (n := 200) xs [] 0 trivial (Nat.zero_le _) (e.symm.trans hr')
      have e1' : xs = asc ds := e1
      subst e1'
      have hset : IsSet H (.ref a) 200 ds := ⟨a, b, rfl, ha, e2⟩
      have ha1 := s1 _ _ ha
      have ld := e2.len
      have sq : SqL K H1 a (asc ds) ∨ SqT K H1 a (asc ds) := by
        cases b with
        | false => exact .inl (SqL.of ha1)
        | true => exact .inr (SqT.of ha1)
      refine iteF ⟨_, rfl, a, _, rfl, sq, rfl, _, rfl, ?_⟩
      have lasc := asc_len ds
      by_cases dn : ds = []
      · subst dn
        exact if_true_of (decide_eq_true rfl) (kok [] H1 hset s1)
      · have : ds.length ≠ 0 := fun z => dn (List.length_eq_zero_iff.mp z)
        refine if_false_of (decide_eq_false fun z => this (by have := V.int.inj z; omega)) ?_
        have em : (asc ds).map wdV = ds.reverse.map wd := by
          unfold asc
          rw [List.map_map]
          rfl
        have fin := kok ds H1 hset s1
        unfold txt at fin
        rw [if_neg dn] at fin
        refine ⟨" ", rfl, _, rfl, a, b, asc ds, rfl, row_sq ha1, s1 _ _ hP, fun y hy => ?_, ?_, ?_, ?_⟩
        · unfold asc at hy
          obtain ⟨t, ht, rfl⟩ := List.mem_map.mp hy
          exact ⟨t, rfl, e2.mem t (List.mem_reverse.mp ht)⟩
        · rw [em]
          exact join_ok e2
        · rw [lasc]; exact Nat.le_of_lt (small1000 (by omega))
        · rw [em]; exact fin
end
theorem fn_cx {P : Program} {w : World} {K : PySem.W.Frag} {mg : Str → Option Value} {base : Heap} {k : Nat} {f : Addr} {fd : FuncData} {ps : List Str} {sp : Sp} (F : FnOk P w K mg base CX0 k f fd ps sp) : FnOk P w K mg base (L2.CX P w) k f fd ps sp :=
  ⟨F.len, fun A outer s H args us vs Q E hr e0 hb r hsp => codeAny_mono (F.run A outer s H args us vs Q E hr e0 hb r hsp) fun r s' h => by
    cases r with
    | error e => exact h.elim
    | ok fl => cases fl <;> exact h⟩
theorem hasM {P : Program} {w : World} {K : PySem.W.Frag} {mg : Str → Option Value} {base : Heap} {C f : Addr} {fd : FuncData} {x : Str} {ps : List Str} {k l : Nat} {sp : Sp} (m : Meth K C x f) (b : Binds K fd ("self" :: ps) []) (F : FnOk P w K mg base (L2.CX P w) k f fd ("self" :: ps) sp) (h : k ≤ l) : HasM P w K mg base C x ps l sp :=
  ⟨k, h, f, fd, m, b, F⟩
theorem hasM0 {P : Program} {w : World} {K : PySem.W.Frag} {mg : Str → Option Value} {base : Heap} {C f : Addr} {fd : FuncData} {x : Str} {ps : List Str} {k l : Nat} {sp : Sp} (m : Meth K C x f) (b : Binds K fd ("self" :: ps) []) (F : FnOk P w K mg base CX0 k f fd ("self" :: ps) sp) (h : k ≤ l) : HasM P w K mg base C x ps l sp :=
  hasM m b (fn_cx F) h
end Dp
namespace Dp
open PySem PySem.Spec PyProof.Rows L2 DpR
/-! ### what the top has written -/
theorem all_mk {l : PySem.W.OpenLaw} {w : World} {K : PySem.W.Frag} {h : Heap} {mg : Str → Option Value} {fa C f1 f2 f3 D f4 f5 f6 CB CP CN CT f7 f8 f9 f10 f11 f12 f13 f14 f15 f16 f17 f18 f19 f20 PE CC cT tb : Addr} (X : K.In h) (G : h.Ns mainGlobals mg) (hfa : mg "law" = some (.ref fa)) (hTab : TabOf K mg "written" h)
    {od1 an1 od2 an2 od3 an3 od4 an4 od5 an5 od6 an6 od7 an7 od8 an8 od9 an9 od10 an10 od11 an11 od12 an12 od13 an13 od14 an14 od15 an15 od16 an16 od17 an17 od18 an18 od19 an19 od20 an20 : Option Addr} {sl1 sl2 sl3 sl4 sl5 sl6 sl7 sl8 sl9 sl10 sl11 sl12 sl13 sl14 sl15 sl16 sl17 sl18 sl19 sl20 : Array (Option Value)} {oc1 kV1 dc1 pm1 cd1 ct1 oc2 kV2 dc2 pm2 cd2 ct2 oc3 kV3 dc3 pm3 cd3 ct3 oc4 kV4 dc4 pm4 cd4 ct4 oc5 kV5 dc5 pm5 cd5 ct5 oc6 kV6 dc6 pm6 cd6 ct6 oc7 kV7 dc7 pm7 cd7 ct7 oc8 kV8 dc8 pm8 cd8 ct8 oc9 kV9 dc9 pm9 ct9 oc10 kV10 dc10 pm10 cd10 ct10 oc11 kV11 dc11 pm11 cd11 ct11 oc12 kV12 dc12 pm12 cd12 ct12 oc13 kV13 dc13 pm13 cd13 ct13 oc14 kV14 dc14 pm14 cd14 ct14 oc15 kV15 dc15 pm15 cd15 ct15 oc16 kV16 dc16 pm16 cd16 ct16 oc17 kV17 dc17 pm17 cd17 ct17 oc18 kV18 dc18 pm18 cd18 ct18 oc19 kV19 dc19 pm19 cd19 ct19 oc20 kV20 dc20 pm20 cd20 ct20 : Value} {tm te : Tok} {ce : Value} {cdd : Option Addr} {cvs : Array Value} {csl : Array (Option Value)}
    (aC : PySem.W.nsIn K mainGlobals "Picks" = some (some (.ref C)))
    (pgC : PySem.W.plainGet K C Str.empty = true)
    (hdC : PySem.W.hasDictIn K C = true)
    (poC : PySem.W.plainOver K C = true)
    (saC : PySem.W.findIn K (.ref C) "__setattr__" = some (some (.builtin "object.__setattr__")))
    (mkC : PySem.W.makesIn K C = true)
    (kpC : PySem.W.keepIn K (.ref C) = true)
    (nfC0 : PySem.W.findIn K (.ref C) "things" = some none)
    (nfC1 : PySem.W.findIn K (.ref C) "size" = some none)
    (a1 : PySem.W.findIn K (.ref C) "__init__" = some (some (.ref f1)))
    (i1 : PySem.W.isFn K (.ref f1) = true)
    (l1 : K.lookup f1 = some ⟨oc1, od1, .func (PySem.W.fnOf "__init__" "Picks.__init__" (defArgs s_Picks_init) (defBody s_Picks_init) (defScope s_Picks_init) .none kV1 dc1 pm1 an1 cd1 ct1), sl1⟩)
    (c1 : PySem.W.codeIn K cd1 "Picks.__init__" = true)
    (k1 : PySem.W.keepIn K (.ref f1) = true)
    (a2 : PySem.W.findIn K (.ref C) "many" = some (some (.ref f2)))
    (i2 : PySem.W.isFn K (.ref f2) = true)
    (l2 : K.lookup f2 = some ⟨oc2, od2, .func (PySem.W.fnOf "many" "Picks.many" (defArgs s_Picks_many) (defBody s_Picks_many) (defScope s_Picks_many) .none kV2 dc2 pm2 an2 cd2 ct2), sl2⟩)
    (c2 : PySem.W.codeIn K cd2 "Picks.many" = true)
    (k2 : PySem.W.keepIn K (.ref f2) = true)
    (a3 : PySem.W.findIn K (.ref C) "at" = some (some (.ref f3)))
    (i3 : PySem.W.isFn K (.ref f3) = true)
    (l3 : K.lookup f3 = some ⟨oc3, od3, .func (PySem.W.fnOf "at" "Picks.at" (defArgs s_Picks_at) (defBody s_Picks_at) (defScope s_Picks_at) .none kV3 dc3 pm3 an3 cd3 ct3), sl3⟩)
    (c3 : PySem.W.codeIn K cd3 "Picks.at" = true)
    (k3 : PySem.W.keepIn K (.ref f3) = true)
    (aD : PySem.W.nsIn K mainGlobals "Sets" = some (some (.ref D)))
    (pgD : PySem.W.plainGet K D Str.empty = true)
    (hdD : PySem.W.hasDictIn K D = true)
    (poD : PySem.W.plainOver K D = true)
    (saD : PySem.W.findIn K (.ref D) "__setattr__" = some (some (.builtin "object.__setattr__")))
    (mkD : PySem.W.makesIn K D = true)
    (kpD : PySem.W.keepIn K (.ref D) = true)
    (nfD0 : PySem.W.findIn K (.ref D) "things" = some none)
    (a4 : PySem.W.findIn K (.ref D) "__init__" = some (some (.ref f4)))
    (i4 : PySem.W.isFn K (.ref f4) = true)
    (l4 : K.lookup f4 = some ⟨oc4, od4, .func (PySem.W.fnOf "__init__" "Sets.__init__" (defArgs s_Sets_init) (defBody s_Sets_init) (defScope s_Sets_init) .none kV4 dc4 pm4 an4 cd4 ct4), sl4⟩)
    (c4 : PySem.W.codeIn K cd4 "Sets.__init__" = true)
    (k4 : PySem.W.keepIn K (.ref f4) = true)
    (a5 : PySem.W.findIn K (.ref D) "many" = some (some (.ref f5)))
    (i5 : PySem.W.isFn K (.ref f5) = true)
    (l5 : K.lookup f5 = some ⟨oc5, od5, .func (PySem.W.fnOf "many" "Sets.many" (defArgs s_Sets_many) (defBody s_Sets_many) (defScope s_Sets_many) .none kV5 dc5 pm5 an5 cd5 ct5), sl5⟩)
    (c5 : PySem.W.codeIn K cd5 "Sets.many" = true)
    (k5 : PySem.W.keepIn K (.ref f5) = true)
    (a6 : PySem.W.findIn K (.ref D) "at" = some (some (.ref f6)))
    (i6 : PySem.W.isFn K (.ref f6) = true)
    (l6 : K.lookup f6 = some ⟨oc6, od6, .func (PySem.W.fnOf "at" "Sets.at" (defArgs s_Sets_at) (defBody s_Sets_at) (defScope s_Sets_at) .none kV6 dc6 pm6 an6 cd6 ct6), sl6⟩)
    (c6 : PySem.W.codeIn K cd6 "Sets.at" = true)
    (k6 : PySem.W.keepIn K (.ref f6) = true)
    (aCB : PySem.W.nsIn K mainGlobals "NoBounds" = some (some (.ref CB)))
    (xCB : PySem.W.excIn K CB [.type "ValueError", .type "Exception", .type "BaseException", .type "object"] "ValueError.__new__" = true)
    (kpCB : PySem.W.keepIn K (.ref CB) = true)
    (bCB : PySem.W.subIn K (.ref CB) (.type "BaseException") = some true)
    (tCB : PySem.W.typeIn K (.ref CB) = some (.type "type"))
    (aCP : PySem.W.nsIn K mainGlobals "NoPick" = some (some (.ref CP)))
    (xCP : PySem.W.excIn K CP [.type "ValueError", .type "Exception", .type "BaseException", .type "object"] "ValueError.__new__" = true)
    (kpCP : PySem.W.keepIn K (.ref CP) = true)
    (bCP : PySem.W.subIn K (.ref CP) (.type "BaseException") = some true)
    (tCP : PySem.W.typeIn K (.ref CP) = some (.type "type"))
    (aCN : PySem.W.nsIn K mainGlobals "NoNumber" = some (some (.ref CN)))
    (xCN : PySem.W.excIn K CN [.type "ValueError", .type "Exception", .type "BaseException", .type "object"] "ValueError.__new__" = true)
    (kpCN : PySem.W.keepIn K (.ref CN) = true)
    (bCN : PySem.W.subIn K (.ref CN) (.type "BaseException") = some true)
    (tCN : PySem.W.typeIn K (.ref CN) = some (.type "type"))
    (aCT : PySem.W.nsIn K mainGlobals "NoText" = some (some (.ref CT)))
    (xCT : PySem.W.excIn K CT [.type "ValueError", .type "Exception", .type "BaseException", .type "object"] "ValueError.__new__" = true)
    (kpCT : PySem.W.keepIn K (.ref CT) = true)
    (bCT : PySem.W.subIn K (.ref CT) (.type "BaseException") = some true)
    (tCT : PySem.W.typeIn K (.ref CT) = some (.type "type"))
    (a7 : PySem.W.nsIn K mainGlobals "is_whole" = some (some (.ref f7)))
    (l7 : K.lookup f7 = some ⟨oc7, od7, .func (PySem.W.fnOf "is_whole" "is_whole" (defArgs s_is_whole) (defBody s_is_whole) (defScope s_is_whole) .none kV7 dc7 pm7 an7 cd7 ct7), sl7⟩)
    (c7 : PySem.W.codeIn K cd7 "is_whole" = true)
    (k7 : PySem.W.keepIn K (.ref f7) = true)
    (a8 : PySem.W.nsIn K mainGlobals "is_rising" = some (some (.ref f8)))
    (l8 : K.lookup f8 = some ⟨oc8, od8, .func (PySem.W.fnOf "is_rising" "is_rising" (defArgs s_is_rising) (defBody s_is_rising) (defScope s_is_rising) .none kV8 dc8 pm8 an8 cd8 ct8), sl8⟩)
    (c8 : PySem.W.codeIn K cd8 "is_rising" = true)
    (k8 : PySem.W.keepIn K (.ref f8) = true)
    (a9 : PySem.W.nsIn K mainGlobals "written" = some (some (.ref f9)))
    (l9 : K.lookup f9 = some ⟨oc9, od9, .func (PySem.W.fnOf "written" "written" (defArgs s_written) (defBody s_written) (defScope s_written) .none kV9 dc9 pm9 an9 (.ref cT) ct9), sl9⟩)
    (c9 : PySem.W.codeIn K (.ref cT) "written" = true)
    (lcT : K.lookup cT = some ⟨ce, cdd, .fields cvs, csl⟩)
    (vcT : cvs[11]? = some (.ref tb))
    (nTb : K.lookup tb = none)
    (hTb : PySem.W.codeHdIn K cT tb = true)
    (k9 : PySem.W.keepIn K (.ref f9) = true)
    (a10 : PySem.W.nsIn K mainGlobals "read" = some (some (.ref f10)))
    (l10 : K.lookup f10 = some ⟨oc10, od10, .func (PySem.W.fnOf "read" "read" (defArgs s_read) (defBody s_read) (defScope s_read) .none kV10 dc10 pm10 an10 cd10 ct10), sl10⟩)
    (c10 : PySem.W.codeIn K cd10 "read" = true)
    (k10 : PySem.W.keepIn K (.ref f10) = true)
    (a11 : PySem.W.nsIn K mainGlobals "_law_mixed" = some (some (.ref f11)))
    (l11 : K.lookup f11 = some ⟨oc11, od11, .func (PySem.W.fnOf "_law_mixed" "_law_mixed" (defArgs s_law_mixed) (defBody s_law_mixed) (defScope s_law_mixed) .none kV11 dc11 pm11 an11 cd11 ct11), sl11⟩)
    (c11 : PySem.W.codeIn K cd11 "_law_mixed" = true)
    (k11 : PySem.W.keepIn K (.ref f11) = true)
    (a12 : PySem.W.nsIn K mainGlobals "_law_cell_at" = some (some (.ref f12)))
    (l12 : K.lookup f12 = some ⟨oc12, od12, .func (PySem.W.fnOf "_law_cell_at" "_law_cell_at" (defArgs s_law_cell_at) (defBody s_law_cell_at) (defScope s_law_cell_at) .none kV12 dc12 pm12 an12 cd12 ct12), sl12⟩)
    (c12 : PySem.W.codeIn K cd12 "_law_cell_at" = true)
    (k12 : PySem.W.keepIn K (.ref f12) = true)
    (a13 : PySem.W.nsIn K mainGlobals "_law_wide" = some (some (.ref f13)))
    (l13 : K.lookup f13 = some ⟨oc13, od13, .func (PySem.W.fnOf "_law_wide" "_law_wide" (defArgs s_law_wide) (defBody s_law_wide) (defScope s_law_wide) .none kV13 dc13 pm13 an13 cd13 ct13), sl13⟩)
    (c13 : PySem.W.codeIn K cd13 "_law_wide" = true)
    (k13 : PySem.W.keepIn K (.ref f13) = true)
    (a14 : PySem.W.nsIn K mainGlobals "_law_size" = some (some (.ref f14)))
    (l14 : K.lookup f14 = some ⟨oc14, od14, .func (PySem.W.fnOf "_law_size" "_law_size" (defArgs s_law_size) (defBody s_law_size) (defScope s_law_size) .none kV14 dc14 pm14 an14 cd14 ct14), sl14⟩)
    (c14 : PySem.W.codeIn K cd14 "_law_size" = true)
    (k14 : PySem.W.keepIn K (.ref f14) = true)
    (a15 : PySem.W.nsIn K mainGlobals "_law_kind" = some (some (.ref f15)))
    (l15 : K.lookup f15 = some ⟨oc15, od15, .func (PySem.W.fnOf "_law_kind" "_law_kind" (defArgs s_law_kind) (defBody s_law_kind) (defScope s_law_kind) .none kV15 dc15 pm15 an15 cd15 ct15), sl15⟩)
    (c15 : PySem.W.codeIn K cd15 "_law_kind" = true)
    (k15 : PySem.W.keepIn K (.ref f15) = true)
    (a16 : PySem.W.nsIn K mainGlobals "_law_done" = some (some (.ref f16)))
    (l16 : K.lookup f16 = some ⟨oc16, od16, .func (PySem.W.fnOf "_law_done" "_law_done" (defArgs s_law_done) (defBody s_law_done) (defScope s_law_done) .none kV16 dc16 pm16 an16 cd16 ct16), sl16⟩)
    (c16 : PySem.W.codeIn K cd16 "_law_done" = true)
    (k16 : PySem.W.keepIn K (.ref f16) = true)
    (a17 : PySem.W.nsIn K mainGlobals "_law_number_of" = some (some (.ref f17)))
    (l17 : K.lookup f17 = some ⟨oc17, od17, .func (PySem.W.fnOf "_law_number_of" "_law_number_of" (defArgs s_law_number_of) (defBody s_law_number_of) (defScope s_law_number_of) .none kV17 dc17 pm17 an17 cd17 ct17), sl17⟩)
    (c17 : PySem.W.codeIn K cd17 "_law_number_of" = true)
    (k17 : PySem.W.keepIn K (.ref f17) = true)
    (a18 : PySem.W.nsIn K mainGlobals "_law_due" = some (some (.ref f18)))
    (l18 : K.lookup f18 = some ⟨oc18, od18, .func (PySem.W.fnOf "_law_due" "_law_due" (defArgs s_law_due) (defBody s_law_due) (defScope s_law_due) .none kV18 dc18 pm18 an18 cd18 ct18), sl18⟩)
    (c18 : PySem.W.codeIn K cd18 "_law_due" = true)
    (k18 : PySem.W.keepIn K (.ref f18) = true)
    (a19 : PySem.W.nsIn K mainGlobals "_law_spoilt" = some (some (.ref f19)))
    (l19 : K.lookup f19 = some ⟨oc19, od19, .func (PySem.W.fnOf "_law_spoilt" "_law_spoilt" (defArgs s_law_spoilt) (defBody s_law_spoilt) (defScope s_law_spoilt) .none kV19 dc19 pm19 an19 cd19 ct19), sl19⟩)
    (c19 : PySem.W.codeIn K cd19 "_law_spoilt" = true)
    (k19 : PySem.W.keepIn K (.ref f19) = true)
    (a20 : PySem.W.nsIn K mainGlobals "law" = some (some (.ref f20)))
    (l20 : K.lookup f20 = some ⟨oc20, od20, .func (PySem.W.fnOf "law" "law" (defArgs s_law) (defBody s_law) (defScope s_law) .none kV20 dc20 pm20 an20 cd20 ct20), sl20⟩)
    (c20 : PySem.W.codeIn K cd20 "law" = true)
    (k20 : PySem.W.keepIn K (.ref f20) = true)
    (z_type : PySem.W.nsIn K mainGlobals "type" = some none)
    (z_int : PySem.W.nsIn K mainGlobals "int" = some none)
    (z_isinstance : PySem.W.nsIn K mainGlobals "isinstance" = some none)
    (z_tuple : PySem.W.nsIn K mainGlobals "tuple" = some none)
    (z_list : PySem.W.nsIn K mainGlobals "list" = some none)
    (z_len : PySem.W.nsIn K mainGlobals "len" = some none)
    (z_enumerate : PySem.W.nsIn K mainGlobals "enumerate" = some none)
    (z_range : PySem.W.nsIn K mainGlobals "range" = some none)
    (z_reversed : PySem.W.nsIn K mainGlobals "reversed" = some none)
    (z_min : PySem.W.nsIn K mainGlobals "min" = some none)
    (z_max : PySem.W.nsIn K mainGlobals "max" = some none)
    (z_str : PySem.W.nsIn K mainGlobals "str" = some none)
    (z_ValueError : PySem.W.nsIn K mainGlobals "ValueError" = some none)
    (v_comb : PySem.W.nsIn K mainGlobals "comb" = some (some (.builtin "math.comb")))
    (v_MOST_THINGS : PySem.W.nsIn K mainGlobals "MOST_THINGS" = some (some (.int 200 tm)))
    (v_EMPTY : PySem.W.nsIn K mainGlobals "EMPTY" = some (some (.str "none" te)))
    (aPE : PySem.W.nsIn K mainGlobals "PickError" = some (some (.ref PE)))
    (bPE : PySem.W.subIn K (.ref PE) (.type "BaseException") = some true)
    (dPE : PySem.W.hasDictIn K PE = true)
    (tPE : PySem.W.typeIn K (.ref PE) = some (.type "type"))
    (aCC : PySem.W.nsIn K mainGlobals "NoChange" = some (some (.ref CC)))
    (sg : PySem.W.specialIn K (.builtin "object.__class__") "__get__" = some (some (.builtin "getset_descriptor.__get__")))
    (st : PySem.W.takesIn K (.builtin "object.__class__") = some true)
    (egCP : PySem.W.findIn K (.ref CP) "__getattribute__" = some (some (.builtin "BaseException.__getattribute__")))
    (ekCP : PySem.W.findIn K (.ref CP) "__getattr__" = some none)
    (edCP : PySem.W.hasDictIn K CP = true)
    (eaCP : PySem.W.findIn K (.ref CP) "__class__" = some (some (.builtin "object.__class__")))
    (emCP : PySem.W.mroIn K CP (.type "object") = some true)
    (ktCPCB : PySem.W.kitOne K (.ref CP) (.ref CB) = some false)
    (ktCPCP : PySem.W.kitOne K (.ref CP) (.ref CP) = some true)
    (ktCPCN : PySem.W.kitOne K (.ref CP) (.ref CN) = some false)
    (ktCPCC : PySem.W.kitOne K (.ref CP) (.ref CC) = some false)
    (ktCPCT : PySem.W.kitOne K (.ref CP) (.ref CT) = some false)
    (kvCP : PySem.W.kitOne K (.ref CP) (.type "ValueError") = some true)
    (sCP : PySem.W.subIn K (.ref CP) (.ref PE) = some true)
    (egCT : PySem.W.findIn K (.ref CT) "__getattribute__" = some (some (.builtin "BaseException.__getattribute__")))
    (ekCT : PySem.W.findIn K (.ref CT) "__getattr__" = some none)
    (edCT : PySem.W.hasDictIn K CT = true)
    (eaCT : PySem.W.findIn K (.ref CT) "__class__" = some (some (.builtin "object.__class__")))
    (emCT : PySem.W.mroIn K CT (.type "object") = some true)
    (ktCTCB : PySem.W.kitOne K (.ref CT) (.ref CB) = some false)
    (ktCTCP : PySem.W.kitOne K (.ref CT) (.ref CP) = some false)
    (ktCTCN : PySem.W.kitOne K (.ref CT) (.ref CN) = some false)
    (ktCTCC : PySem.W.kitOne K (.ref CT) (.ref CC) = some false)
    (ktCTCT : PySem.W.kitOne K (.ref CT) (.ref CT) = some true)
    (kvCT : PySem.W.kitOne K (.ref CT) (.type "ValueError") = some true)
    (sCT : PySem.W.subIn K (.ref CT) (.ref PE) = some true)
    : LawAtE l w K CX0 10 63 "_law_script" mg fa h := by
  have e := hfa.symm.trans (PySem.W.mg_of X G a20)
  cases e
  have F1 := fun_mk (st := s_Picks_init) l1 c1 k1
  have b1 := F1.binds (ps := ["self", "things", "size"]) fun _ _ _ _ _ _ us hl => match us, hl with | [_, _, _], _ => rfl
  have F2 := fun_mk (st := s_Picks_many) l2 c2 k2
  have b2 := F2.binds (ps := ["self"]) fun _ _ _ _ _ _ us hl => match us, hl with | [_], _ => rfl
  have F3 := fun_mk (st := s_Picks_at) l3 c3 k3
  have b3 := F3.binds (ps := ["self", "number"]) fun _ _ _ _ _ _ us hl => match us, hl with | [_, _], _ => rfl
  have F4 := fun_mk (st := s_Sets_init) l4 c4 k4
  have b4 := F4.binds (ps := ["self", "things"]) fun _ _ _ _ _ _ us hl => match us, hl with | [_, _], _ => rfl
  have F5 := fun_mk (st := s_Sets_many) l5 c5 k5
  have b5 := F5.binds (ps := ["self"]) fun _ _ _ _ _ _ us hl => match us, hl with | [_], _ => rfl
  have F6 := fun_mk (st := s_Sets_at) l6 c6 k6
  have b6 := F6.binds (ps := ["self", "number"]) fun _ _ _ _ _ _ us hl => match us, hl with | [_, _], _ => rfl
  have F7 := fun_mk (st := s_is_whole) l7 c7 k7
  have b7 := F7.binds (ps := ["asked", "low", "high"]) fun _ _ _ _ _ _ us hl => match us, hl with | [_, _, _], _ => rfl
  have F8 := fun_mk (st := s_is_rising) l8 c8 k8
  have b8 := F8.binds (ps := ["row", "things"]) fun _ _ _ _ _ _ us hl => match us, hl with | [_, _], _ => rfl
  have F9 := fun_mk (st := s_written) l9 c9 k9
  have b9 := F9.binds (ps := ["pick"]) fun _ _ _ _ _ _ us hl => match us, hl with | [_], _ => rfl
  have F10 := fun_mk (st := s_read) l10 c10 k10
  have b10 := F10.binds (ps := ["text"]) fun _ _ _ _ _ _ us hl => match us, hl with | [_], _ => rfl
  have F11 := fun_mk (st := s_law_mixed) l11 c11 k11
  have b11 := F11.binds (ps := ["_law_cell", "_law_k"]) fun _ _ _ _ _ _ us hl => match us, hl with | [_, _], _ => rfl
  have F12 := fun_mk (st := s_law_cell_at) l12 c12 k12
  have b12 := F12.binds (ps := ["_law_script", "_law_k"]) fun _ _ _ _ _ _ us hl => match us, hl with | [_, _], _ => rfl
  have F13 := fun_mk (st := s_law_wide) l13 c13 k13
  have b13 := F13.binds (ps := ["_law_cell", "_law_bound"]) fun _ _ _ _ _ _ us hl => match us, hl with | [_, _], _ => rfl
  have F14 := fun_mk (st := s_law_size) l14 c14 k14
  have b14 := F14.binds (ps := ["_law_cell"]) fun _ _ _ _ _ _ us hl => match us, hl with | [_], _ => rfl
  have F15 := fun_mk (st := s_law_kind) l15 c15 k15
  have b15 := F15.binds (ps := ["_law_e"]) fun _ _ _ _ _ _ us hl => match us, hl with | [_], _ => rfl
  have F16 := fun_mk (st := s_law_done) l16 c16 k16
  have b16 := F16.binds (ps := ["_law_work", "_law_thing"]) fun _ _ _ _ _ _ us hl => match us, hl with | [_, _], _ => rfl
  have F17 := fun_mk (st := s_law_number_of) l17 c17 k17
  have b17 := F17.binds (ps := ["_law_word"]) fun _ _ _ _ _ _ us hl => match us, hl with | [_], _ => rfl
  have F18 := fun_mk (st := s_law_due) l18 c18 k18
  have b18 := F18.binds (ps := ["_law_text"]) fun _ _ _ _ _ _ us hl => match us, hl with | [_], _ => rfl
  have F19 := fun_mk (st := s_law_spoilt) l19 c19 k19
  have b19 := F19.binds (ps := ["_law_text", "_law_mix"]) fun _ _ _ _ _ _ us hl => match us, hl with | [_, _], _ => rfl
  have F20 := fun_mk (st := s_law) l20 c20 k20
  have ECB : ExT K mg "NoBounds" CB := ⟨PySem.W.mg_of X G aCB, xCB, kpCB, bCB, tCB⟩
  have ECP : ExT K mg "NoPick" CP := ⟨PySem.W.mg_of X G aCP, xCP, kpCP, bCP, tCP⟩
  have ECN : ExT K mg "NoNumber" CN := ⟨PySem.W.mg_of X G aCN, xCN, kpCN, bCN, tCN⟩
  have ECT : ExT K mg "NoText" CT := ⟨PySem.W.mg_of X G aCT, xCT, kpCT, bCT, tCT⟩
  have n_type := PySem.W.mg_none_of X G z_type
  have n_int := PySem.W.mg_none_of X G z_int
  have n_isinstance := PySem.W.mg_none_of X G z_isinstance
  have n_tuple := PySem.W.mg_none_of X G z_tuple
  have n_list := PySem.W.mg_none_of X G z_list
  have n_len := PySem.W.mg_none_of X G z_len
  have n_enumerate := PySem.W.mg_none_of X G z_enumerate
  have n_range := PySem.W.mg_none_of X G z_range
  have n_reversed := PySem.W.mg_none_of X G z_reversed
  have n_min := PySem.W.mg_none_of X G z_min
  have n_max := PySem.W.mg_none_of X G z_max
  have n_str := PySem.W.mg_none_of X G z_str
  have n_ValueError := PySem.W.mg_none_of X G z_ValueError
  have w_comb := PySem.W.mg_of X G v_comb
  have w_MOST_THINGS := PySem.W.mg_of X G v_MOST_THINGS
  have w_EMPTY := PySem.W.mg_of X G v_EMPTY
  have hG : Glb mg := ⟨⟨n_type, n_int, n_isinstance, n_tuple, n_list⟩, n_len, n_enumerate, n_range, n_reversed, w_comb, ⟨tm, w_MOST_THINGS⟩⟩
  have hGS : GlbS mg := ⟨⟨n_type, n_int, n_isinstance, n_tuple, n_list⟩, n_range, n_reversed, ⟨tm, w_MOST_THINGS⟩⟩
  have hT : PkC K C := ⟨⟨pgC, hdC, poC, saC⟩, nfC0, nfC1⟩
  have hTS : SkC K D := ⟨⟨pgD, hdD, poD, saD⟩, nfD0⟩
  have hGT : GlbT mg := ⟨⟨n_type, n_int, n_isinstance, n_tuple, n_list⟩, n_range, n_str, n_len, ⟨tm, w_MOST_THINGS⟩, ⟨te, w_EMPTY⟩⟩
  have hKG : KG mg CB CP CN CC CT := ⟨n_isinstance, n_ValueError, ECB.g, ECP.g, ECN.g, (PySem.W.mg_of X G aCC), ECT.g⟩
  have hkCP : KindX K CB CP CN CC CT CP 1 := ⟨⟨egCP, ekCP, bCP, edCP, eaCP, sg, st, emCP⟩, ktCPCB, ktCPCP, ktCPCN, ktCPCC, ktCPCT, kvCP⟩
  have hkCT : KindX K CB CP CN CC CT CT 4 := ⟨⟨egCT, ekCT, bCT, edCT, eaCT, sg, st, emCT⟩, ktCTCB, ktCTCP, ktCTCN, ktCTCC, ktCTCT, kvCT⟩
  exact ⟨PySem.W.fnOf "law" "law" (defArgs s_law) (defBody s_law) (defScope s_law) .none kV20 dc20 pm20 an20 cd20 ct20, cT, tb, spLawT K tb, hTab _ _ _ _ _ _ _ _ _ (PySem.W.mg_of X G a9) l9 rfl rfl lcT vcT, nTb, hTb, fun s v => .of_eq rfl, fun H a ns hl hP hS => ⟨a, ns, rfl, hS, hl, hP, fun _ q => ⟨rfl, q⟩⟩, fun base _ _ hTB => ok_law F20 ⟨⟨n_len, n_range, n_min, n_max⟩, ⟨n_tuple, n_list, n_str⟩, hKG, ⟨PySem.W.mg_of X G aPE, bPE, dPE, tPE⟩, hkCP, hkCT, sCP, sCT, ⟨F11, b11, (PySem.W.mg_of X G a11)⟩, ⟨F12, b12, (PySem.W.mg_of X G a12)⟩, ⟨F13, b13, (PySem.W.mg_of X G a13)⟩, ⟨F14, b14, (PySem.W.mg_of X G a14)⟩, ⟨F15, b15, (PySem.W.mg_of X G a15)⟩, ⟨F16, b16, (PySem.W.mg_of X G a16)⟩, ⟨F17, b17, (PySem.W.mg_of X G a17)⟩, ⟨F18, b18, (PySem.W.mg_of X G a18)⟩, ⟨F19, b19, (PySem.W.mg_of X G a19)⟩⟩ ⟨ok_written ⟨F9, rfl, b9, (PySem.W.mg_of X G a9), hTB⟩ hGT ⟨F7, b7, (PySem.W.mg_of X G a7)⟩ ⟨F8, b8, (PySem.W.mg_of X G a8)⟩ ECP, (PySem.W.mg_of X G a9), F9.kp, b9, ok_read F10 hGT ⟨F7, b7, (PySem.W.mg_of X G a7)⟩ ⟨F8, b8, (PySem.W.mg_of X G a8)⟩ ECT, (PySem.W.mg_of X G a10), F10.kp, b10⟩ ⟨hT, PySem.W.mg_of X G aC, _, _, ⟨mkC, a1, i1, kpC⟩, b1, 2, by decide, ok_init F1 hG ⟨F7, b7, (PySem.W.mg_of X G a7)⟩ hT ECB⟩ ⟨hTS, PySem.W.mg_of X G aD, _, _, ⟨mkD, a4, i4, kpD⟩, b4, 2, by decide, ok_sinit F4 hGS ⟨F7, b7, (PySem.W.mg_of X G a7)⟩ hTS ECB⟩ (hasM0 ⟨a2, i2, k2⟩ b2 (ok_many F2 hG hT) (by decide)) (hasM ⟨a3, i3, k3⟩ b3 (ok_at F3 hG ⟨F7, b7, (PySem.W.mg_of X G a7)⟩ ⟨F2, b2, ⟨a2, i2, k2⟩⟩ hT ECN) (by decide)) (hasM0 ⟨a5, i5, k5⟩ b5 (ok_smany F5 hTS) (by decide)) (hasM ⟨a6, i6, k6⟩ b6 (ok_sat F6 hGS ⟨F7, b7, (PySem.W.mg_of X G a7)⟩ ⟨F5, b5, ⟨a5, i5, k5⟩⟩ hTS ECN) (by decide))⟩
theorem walk {l : PySem.W.OpenLaw} {q : Program} {loose : List Str} {XP : (Str → Option Value) → Heap → Prop} {YP : World → Heap → Prop} {d : DefRec} {K : Params → PySem.W.Frag} (hn : l.most = some 63) (hdf : d.params.defaults = []) (hrec : ((recsOf q).any fun e => e.name == ("written" : Str)) = true)
    (hY : ∀ (w : World) (h : Heap), YP w h → (K w.params).In h)
    (F : ∀ (w : World) (mg : Str → Option Value) (fa : Addr) (h : Heap), (K w.params).In h → h.Ns mainGlobals mg → mg d.name = some (.ref fa) → TabOf (K w.params) mg "written" h → LawAtE l w (K w.params) CX0 10 63 "_law_script" mg fa h) :
    PySem.W.WalkO q loose XP YP l.row.toRowW d [] (fun f vs => PySem.call f vs) :=
  walk_ofE (n := 63) (k := 10) (x := "_law_script") (CX := fun _ => CX0) "written" hn (by decide) hdf ⟨rfl, by decide, by decide⟩ hrec hY (fun w mg fa h _ X G e t => F w mg fa h X G e t) fun _ _ _ _ _ z => z
end Dp
open PySem PySem.W PyProof.Rows
set_option maxRecDepth 100000 in
set_option maxHeartbeats 0 in
theorem PySem.Challenge.cw_doorpicks_k13_written_and_read_holds : PySem.Challenge.rw_doorpicks_k13_written_and_read.Holds := by
  w_on; o_law; k_head; (case hw => w_witness2)
  k_fill
  refine Dp.walk (l := PySem.Challenge.rw_doorpicks_k13_written_and_read) rfl rfl (by decide +kernel) (fun w h Y => PySem.W.kIn_of Y) ?F
  case F =>
    intro w mg fa h KX G hmg hTab
    refine' Dp.all_mk KX G hmg hTab ?aC ?pgC ?hdC ?poC ?saC ?mkC ?kpC ?nfC0 ?nfC1 ?a1 ?i1 ?l1 ?c1 ?k1 ?a2 ?i2 ?l2 ?c2 ?k2 ?a3 ?i3 ?l3 ?c3 ?k3 ?aD ?pgD ?hdD ?poD ?saD ?mkD ?kpD ?nfD0 ?a4 ?i4 ?l4 ?c4 ?k4 ?a5 ?i5 ?l5 ?c5 ?k5 ?a6 ?i6 ?l6 ?c6 ?k6 ?aCB ?xCB ?kpCB ?bCB ?tCB ?aCP ?xCP ?kpCP ?bCP ?tCP ?aCN ?xCN ?kpCN ?bCN ?tCN ?aCT ?xCT ?kpCT ?bCT ?tCT ?a7 ?l7 ?c7 ?k7 ?a8 ?l8 ?c8 ?k8 ?a9 ?l9 ?c9 ?lcT ?vcT ?nTb ?hTb ?k9 ?a10 ?l10 ?c10 ?k10 ?a11 ?l11 ?c11 ?k11 ?a12 ?l12 ?c12 ?k12 ?a13 ?l13 ?c13 ?k13 ?a14 ?l14 ?c14 ?k14 ?a15 ?l15 ?c15 ?k15 ?a16 ?l16 ?c16 ?k16 ?a17 ?l17 ?c17 ?k17 ?a18 ?l18 ?c18 ?k18 ?a19 ?l19 ?c19 ?k19 ?a20 ?l20 ?c20 ?k20 ?z_type ?z_int ?z_isinstance ?z_tuple ?z_list ?z_len ?z_enumerate ?z_range ?z_reversed ?z_min ?z_max ?z_str ?z_ValueError ?v_comb ?v_MOST_THINGS ?v_EMPTY ?aPE ?bPE ?dPE ?tPE ?aCC ?sg ?st ?egCP ?ekCP ?edCP ?eaCP ?emCP ?ktCPCB ?ktCPCP ?ktCPCN ?ktCPCC ?ktCPCT ?kvCP ?sCP ?egCT ?ekCT ?edCT ?eaCT ?emCT ?ktCTCB ?ktCTCP ?ktCTCN ?ktCTCC ?ktCTCT ?kvCT ?sCT
    (case aC => first | rfl | k_is)
    (case pgC => first | rfl | k_is)
    (case hdC => first | rfl | k_is)
    (case poC => first | rfl | k_is)
    (case saC => first | rfl | k_is)
    (case mkC => first | rfl | k_is)
    (case kpC => first | rfl | k_is)
    (case nfC0 => first | rfl | k_is)
    (case nfC1 => first | rfl | k_is)
    (case a1 => first | rfl | k_is)
    (case i1 => first | rfl | k_is)
    (case l1 => first | rfl | k_is)
    (case c1 => first | rfl | k_is)
    (case k1 => first | rfl | k_is)
    (case a2 => first | rfl | k_is)
    (case i2 => first | rfl | k_is)
    (case l2 => first | rfl | k_is)
    (case c2 => first | rfl | k_is)
    (case k2 => first | rfl | k_is)
    (case a3 => first | rfl | k_is)
    (case i3 => first | rfl | k_is)
    (case l3 => first | rfl | k_is)
    (case c3 => first | rfl | k_is)
    (case k3 => first | rfl | k_is)
    (case aD => first | rfl | k_is)
    (case pgD => first | rfl | k_is)
    (case hdD => first | rfl | k_is)
    (case poD => first | rfl | k_is)
    (case saD => first | rfl | k_is)
    (case mkD => first | rfl | k_is)
    (case kpD => first | rfl | k_is)
    (case nfD0 => first | rfl | k_is)
    (case a4 => first | rfl | k_is)
    (case i4 => first | rfl | k_is)
    (case l4 => first | rfl | k_is)
    (case c4 => first | rfl | k_is)
    (case k4 => first | rfl | k_is)
    (case a5 => first | rfl | k_is)
    (case i5 => first | rfl | k_is)
    (case l5 => first | rfl | k_is)
    (case c5 => first | rfl | k_is)
    (case k5 => first | rfl | k_is)
    (case a6 => first | rfl | k_is)
    (case i6 => first | rfl | k_is)
    (case l6 => first | rfl | k_is)
    (case c6 => first | rfl | k_is)
    (case k6 => first | rfl | k_is)
    (case aCB => first | rfl | k_is)
    (case xCB => k_exc)
    (case kpCB => first | rfl | k_is)
    (case bCB => first | rfl | k_is)
    (case tCB => first | rfl | k_is)
    (case aCP => first | rfl | k_is)
    (case xCP => k_exc)
    (case kpCP => first | rfl | k_is)
    (case bCP => first | rfl | k_is)
    (case tCP => first | rfl | k_is)
    (case aCN => first | rfl | k_is)
    (case xCN => k_exc)
    (case kpCN => first | rfl | k_is)
    (case bCN => first | rfl | k_is)
    (case tCN => first | rfl | k_is)
    (case aCT => first | rfl | k_is)
    (case xCT => k_exc)
    (case kpCT => first | rfl | k_is)
    (case bCT => first | rfl | k_is)
    (case tCT => first | rfl | k_is)
    (case a7 => first | rfl | k_is)
    (case l7 => first | rfl | k_is)
    (case c7 => first | rfl | k_is)
    (case k7 => first | rfl | k_is)
    (case a8 => first | rfl | k_is)
    (case l8 => first | rfl | k_is)
    (case c8 => first | rfl | k_is)
    (case k8 => first | rfl | k_is)
    (case a9 => first | rfl | k_is)
    (case l9 => first | rfl | k_is)
    (case c9 => first | rfl | k_is)
    (case lcT => first | rfl | k_is)
    (case vcT => first | rfl | k_is)
    (case nTb => first | rfl | k_is)
    (case hTb => first | rfl | k_is)
    (case k9 => first | rfl | k_is)
    (case a10 => first | rfl | k_is)
    (case l10 => first | rfl | k_is)
    (case c10 => first | rfl | k_is)
    (case k10 => first | rfl | k_is)
    (case a11 => first | rfl | k_is)
    (case l11 => first | rfl | k_is)
    (case c11 => first | rfl | k_is)
    (case k11 => first | rfl | k_is)
    (case a12 => first | rfl | k_is)
    (case l12 => first | rfl | k_is)
    (case c12 => first | rfl | k_is)
    (case k12 => first | rfl | k_is)
    (case a13 => first | rfl | k_is)
    (case l13 => first | rfl | k_is)
    (case c13 => first | rfl | k_is)
    (case k13 => first | rfl | k_is)
    (case a14 => first | rfl | k_is)
    (case l14 => first | rfl | k_is)
    (case c14 => first | rfl | k_is)
    (case k14 => first | rfl | k_is)
    (case a15 => first | rfl | k_is)
    (case l15 => first | rfl | k_is)
    (case c15 => first | rfl | k_is)
    (case k15 => first | rfl | k_is)
    (case a16 => first | rfl | k_is)
    (case l16 => first | rfl | k_is)
    (case c16 => first | rfl | k_is)
    (case k16 => first | rfl | k_is)
    (case a17 => first | rfl | k_is)
    (case l17 => first | rfl | k_is)
    (case c17 => first | rfl | k_is)
    (case k17 => first | rfl | k_is)
    (case a18 => first | rfl | k_is)
    (case l18 => first | rfl | k_is)
    (case c18 => first | rfl | k_is)
    (case k18 => first | rfl | k_is)
    (case a19 => first | rfl | k_is)
    (case l19 => first | rfl | k_is)
    (case c19 => first | rfl | k_is)
    (case k19 => first | rfl | k_is)
    (case a20 => first | rfl | k_is)
    (case l20 => first | rfl | k_is)
    (case c20 => first | rfl | k_is)
    (case k20 => first | rfl | k_is)
    (case z_type => first | rfl | k_is)
    (case z_int => first | rfl | k_is)
    (case z_isinstance => first | rfl | k_is)
    (case z_tuple => first | rfl | k_is)
    (case z_list => first | rfl | k_is)
    (case z_len => first | rfl | k_is)
    (case z_enumerate => first | rfl | k_is)
    (case z_range => first | rfl | k_is)
    (case z_reversed => first | rfl | k_is)
    (case z_min => first | rfl | k_is)
    (case z_max => first | rfl | k_is)
    (case z_str => first | rfl | k_is)
    (case z_ValueError => first | rfl | k_is)
    (case v_comb => first | rfl | k_is)
    (case v_MOST_THINGS => first | rfl | k_is)
    (case v_EMPTY => first | rfl | k_is)
    (case aPE => first | rfl | k_is)
    (case bPE => first | rfl | k_is)
    (case dPE => first | rfl | k_is)
    (case tPE => first | rfl | k_is)
    (case aCC => first | rfl | k_is)
    (case sg => first | rfl | k_is)
    (case st => first | rfl | k_is)
    (case egCP => first | rfl | k_is)
    (case ekCP => first | rfl | k_is)
    (case edCP => first | rfl | k_is)
    (case eaCP => first | rfl | k_is)
    (case emCP => first | rfl | k_is)
    (case ktCPCB => first | rfl | k_is)
    (case ktCPCP => first | rfl | k_is)
    (case ktCPCN => first | rfl | k_is)
    (case ktCPCC => first | rfl | k_is)
    (case ktCPCT => first | rfl | k_is)
    (case kvCP => first | rfl | k_is)
    (case sCP => first | rfl | k_is)
    (case egCT => first | rfl | k_is)
    (case ekCT => first | rfl | k_is)
    (case edCT => first | rfl | k_is)
    (case eaCT => first | rfl | k_is)
    (case emCT => first | rfl | k_is)
    (case ktCTCB => first | rfl | k_is)
    (case ktCTCP => first | rfl | k_is)
    (case ktCTCN => first | rfl | k_is)
    (case ktCTCC => first | rfl | k_is)
    (case ktCTCT => first | rfl | k_is)
    (case kvCT => first | rfl | k_is)
    (case sCT => first | rfl | k_is)
#print axioms PySem.Challenge.cw_doorpicks_k13_written_and_read_holds
