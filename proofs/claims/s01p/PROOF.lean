import PyProof.Rows.All
import Kxd4Spec
import Kxd4Neutral
import PyKxd4
import Wide.All
import OpenK.AllK
import Wide.FinOn
import Open.SpecLaws
import KE.OsGo
import HandS.ForSpec
import HandS.Comp
import HandS.Dict
import HandS.Iter
import HandS.Walk
import HandS.Conv
import HandS.Wide
import HandS.CallLocal
import HandS.Style
import HandS.WideMore
import HandS.More
import HandS.Sort
import HandS.DictTup
import HandS.DictSubView
import KE.KDictList
import PyProof.DictMoreH
import PySem.Challenge.RW_linearfits_s01_answers
import HandS.Head4
import HandS.HeadHook2
import HandS.Spec
import Wide.Once
set_option Elab.async false
section
set_option Elab.async false
/-! Vectors of rationals (functions of the place), sums, spans, leads: plain linear algebra -/
namespace LA
abbrev Vec := Nat → Rat
/-- the sum over the places below n -/
def S : Nat → (Nat → Rat) → Rat
  | 0, _ => 0
  | n + 1, f => S n f + f n
theorem S_congr {f g : Nat → Rat} : ∀ {n : Nat}, (∀ j, j < n → f j = g j) → S n f = S n g
  | 0, _ => rfl
  | n + 1, h => by
    simp only [S]
    rw [S_congr (n := n) fun j hj => h j (by omega), h n (by omega)]
theorem S_zero : ∀ n : Nat, S n (fun _ => 0) = 0
  | 0 => rfl
  | n + 1 => by simp only [S, S_zero n]; grind
theorem S_add (f g : Nat → Rat) : ∀ n : Nat, S n (fun j => f j + g j) = S n f + S n g
  | 0 => by simp only [S]; grind
  | n + 1 => by simp only [S, S_add f g n]; grind
theorem S_mul (c : Rat) (f : Nat → Rat) : ∀ n : Nat, S n (fun j => c * f j) = c * S n f
  | 0 => by simp only [S]; grind
  | n + 1 => by simp only [S, S_mul c f n]; grind
theorem S_mulr (c : Rat) (f : Nat → Rat) (n : Nat) : S n (fun j => f j * c) = S n f * c := by
  rw [S_congr (g := fun j => c * f j) (fun j _ => by grind), S_mul]; grind
theorem S_sub (f g : Nat → Rat) : ∀ n : Nat, S n (fun j => f j - g j) = S n f - S n g
  | 0 => by simp only [S]; grind
  | n + 1 => by simp only [S, S_sub f g n]; grind
theorem S_comm (f : Nat → Nat → Rat) (m : Nat) : ∀ n : Nat, S n (fun i => S m (fun j => f i j)) = S m (fun j => S n (fun i => f i j))
  | 0 => by simp only [S, S_zero]
  | n + 1 => by simp only [S]; rw [S_comm f m n, ← S_add]
theorem S_zero_of {n : Nat} {f : Nat → Rat} (h : ∀ j, j < n → f j = 0) : S n f = 0 := by
  rw [S_congr (g := fun _ => 0) h, S_zero]
theorem S_single {f : Nat → Rat} {k : Nat} : ∀ {n : Nat}, k < n → (∀ j, j < n → j ≠ k → f j = 0) → S n f = f k
  | 0, h, _ => by omega
  | n + 1, h, z => by
    simp only [S]
    by_cases e : k = n
    · subst e
      rw [S_zero_of fun j hj => z j (by omega) (by omega)]
      grind
    · rw [S_single (n := n) (by omega) fun j hj => z j (by omega), z n (by omega) (by omega)]
      grind
theorem sq_nonneg (a : Rat) : 0 ≤ a * a := by
  rcases Rat.le_total (a := 0) (b := a) with h | h
  · exact Rat.mul_nonneg h h
  · have h2 : 0 ≤ -a := by grind
    have := Rat.mul_nonneg h2 h2
    grind
theorem sq_zero {a : Rat} (h : a * a = 0) : a = 0 := by
  rcases Rat.mul_eq_zero.mp h with h | h <;> exact h
theorem S_nonneg {f : Nat → Rat} : ∀ {n : Nat}, (∀ j, j < n → 0 ≤ f j) → 0 ≤ S n f
  | 0, _ => by simp only [S]; grind
  | n + 1, h => by
    simp only [S]
    have := S_nonneg (n := n) fun j hj => h j (by omega)
    have := h n (by omega)
    grind
/-- the sum over a list -/
def T {A : Type} : List A → (A → Rat) → Rat
  | [], _ => 0
  | a :: l, f => f a + T l f
variable {A : Type}
theorem T_congr {f g : A → Rat} : ∀ {l : List A}, (∀ a ∈ l, f a = g a) → T l f = T l g
  | [], _ => rfl
  | a :: l, h => by
    simp only [T]
    rw [h a (by simp), T_congr fun b hb => h b (by simp [hb])]
theorem T_zero : ∀ l : List A, T l (fun _ => 0) = 0
  | [] => rfl
  | a :: l => by simp only [T, T_zero l]; grind
theorem T_add (f g : A → Rat) : ∀ l : List A, T l (fun a => f a + g a) = T l f + T l g
  | [] => by simp only [T]; grind
  | a :: l => by simp only [T, T_add f g l]; grind
theorem T_sub (f g : A → Rat) : ∀ l : List A, T l (fun a => f a - g a) = T l f - T l g
  | [] => by simp only [T]; grind
  | a :: l => by simp only [T, T_sub f g l]; grind
theorem T_mul (c : Rat) (f : A → Rat) : ∀ l : List A, T l (fun a => c * f a) = c * T l f
  | [] => by simp only [T]; grind
  | a :: l => by simp only [T, T_mul c f l]; grind
theorem T_mulr (c : Rat) (f : A → Rat) (l : List A) : T l (fun a => f a * c) = T l f * c := by
  rw [T_congr (g := fun j => c * f j) (fun j _ => by grind), T_mul]; grind
theorem T_S (f : A → Nat → Rat) (n : Nat) : ∀ l : List A, T l (fun a => S n (f a)) = S n (fun j => T l (fun a => f a j))
  | [] => by simp only [T, S_zero]
  | a :: l => by simp only [T]; rw [T_S f n l, ← S_add]
theorem T_append (f : A → Rat) : ∀ l m : List A, T (l ++ m) f = T l f + T m f
  | [], m => by simp only [T, List.nil_append]; grind
  | a :: l, m => by simp only [T, List.cons_append, T_append f l m]; grind
theorem T_nonneg {f : A → Rat} : ∀ {l : List A}, (∀ a ∈ l, 0 ≤ f a) → 0 ≤ T l f
  | [], _ => by simp only [T]; grind
  | a :: l, h => by
    simp only [T]
    have := T_nonneg fun b (hb : b ∈ l) => h b (by simp [hb])
    have := h a (by simp)
    grind
theorem T_zero_all {f : A → Rat} : ∀ {l : List A}, (∀ a ∈ l, 0 ≤ f a) → T l f = 0 → ∀ a ∈ l, f a = 0
  | [], _, _, a, h => by cases h
  | b :: l, h, z, a, ha => by
    simp only [T] at z
    have h1 := T_nonneg fun b (hb : b ∈ l) => h b (by simp [hb])
    have h2 := h b (by simp)
    have z1 : f b = 0 := by grind
    have z2 : T l f = 0 := by grind
    rcases List.mem_cons.mp ha with e | e
    · rw [e]; exact z1
    · exact T_zero_all (fun b hb => h b (by simp [hb])) z2 a e
theorem T_map {B : Type} (g : B → A) (f : A → Rat) : ∀ l : List B, T (l.map g) f = T l (fun b => f (g b))
  | [] => rfl
  | a :: l => by simp only [List.map_cons, T, T_map g f l]

/-! ### spans -/
inductive Span (L : Vec → Prop) : Vec → Prop
  | zero : Span L (fun _ => 0)
  | step {v u : Vec} (c : Rat) : Span L v → L u → Span L (fun j => v j + c * u j)
theorem Span.of_eq {L : Vec → Prop} {u v : Vec} (h : Span L u) (e : ∀ j, u j = v j) : Span L v := by
  have : u = v := funext e
  rw [← this]; exact h
theorem Span.mem {L : Vec → Prop} {u : Vec} (h : L u) : Span L u :=
  (Span.step 1 .zero h).of_eq fun j => by grind
theorem Span.add {L : Vec → Prop} {u v : Vec} (a : Span L u) (b : Span L v) : Span L (fun j => u j + v j) := by
  induction b with
  | zero => exact a.of_eq fun j => by grind
  | step c b h ih => exact (Span.step c ih h).of_eq fun j => by grind
theorem Span.smul {L : Vec → Prop} {u : Vec} (k : Rat) (a : Span L u) : Span L (fun j => k * u j) := by
  induction a with
  | zero => exact Span.zero.of_eq fun j => by grind
  | step c b h ih => exact (Span.step (k * c) ih h).of_eq fun j => by grind
theorem Span.sub {L : Vec → Prop} {u v : Vec} (a : Span L u) (b : Span L v) : Span L (fun j => u j - v j) :=
  (a.add (b.smul (-1))).of_eq fun j => by grind
theorem Span.mono {L L' : Vec → Prop} {v : Vec} (a : Span L v) (h : ∀ u, L u → Span L' u) : Span L' v := by
  induction a with
  | zero => exact .zero
  | step c b hu ih => exact ih.add ((h _ hu).smul c)
theorem Span.sub_of {L L' : Vec → Prop} {v : Vec} (a : Span L v) (h : ∀ u, L u → L' u) : Span L' v :=
  a.mono fun u hu => .mem (h u hu)
/-- what is linear and 0 on the vectors is 0 on their span -/
theorem Span.kills {L : Vec → Prop} {v : Vec} (p : Vec → Rat) (p0 : p (fun _ => 0) = 0) (pa : ∀ (u w : Vec) (c : Rat), p (fun j => u j + c * w j) = p u + c * p w)
    (a : Span L v) (h : ∀ u, L u → p u = 0) : p v = 0 := by
  induction a with
  | zero => exact p0
  | step c b hu ih => rw [pa, ih, h _ hu]; grind
theorem Span.at_zero {L : Vec → Prop} {v : Vec} {k : Nat} (a : Span L v) (h : ∀ u, L u → u k = 0) : v k = 0 :=
  a.kills (fun v => v k) rfl (fun _ _ _ => rfl) h
theorem Span.empty {L : Vec → Prop} {v : Vec} (a : Span L v) (h : ∀ u, ¬ L u) : v = fun _ => 0 :=
  funext fun _ => a.at_zero fun u hu => absurd hu (h u)
/-- a member taken apart -/
theorem Span.split {L : Vec → Prop} {v f : Vec} (a : Span (fun u => u = f ∨ L u) v) : ∃ (c : Rat) (w : Vec), Span L w ∧ ∀ j, v j = c * f j + w j := by
  induction a with
  | zero => exact ⟨0, _, .zero, fun j => by grind⟩
  | step k b hu ih =>
    obtain ⟨c, w, hw, e⟩ := ih
    rcases hu with hu | hu
    · subst hu
      exact ⟨c + k, w, hw, fun j => by have := e j; grind⟩
    · exact ⟨c, _, .step k hw hu, fun j => by have := e j; grind⟩

/-! ### leads -/
def Lead (v : Vec) (k : Nat) : Prop := v k ≠ 0 ∧ ∀ j, j < k → v j = 0
theorem Lead.uniq {v : Vec} {a b : Nat} (h : Lead v a) (g : Lead v b) : a = b := by
  rcases Nat.lt_trichotomy a b with l | l | l
  · exact absurd (g.2 a l) h.1
  · exact l
  · exact absurd (h.2 b l) g.1
/-- vectors with their leads -/
structure IsB (F : List (Nat × Vec)) : Prop where
  lead : ∀ p ∈ F, Lead p.2 p.1
  nodup : (F.map (·.1)).Nodup
def In (F : List (Nat × Vec)) : Vec → Prop := fun u => ∃ k, (k, u) ∈ F
theorem lead_mem : ∀ {F : List (Nat × Vec)} {v : Vec}, IsB F → Span (In F) v → (∃ j, v j ≠ 0) → ∃ k, k ∈ F.map (·.1) ∧ Lead v k
  | [], v, _, s, n => by
    obtain ⟨j, n⟩ := n
    rw [s.empty (fun u ⟨k, h⟩ => by cases h)] at n
    exact absurd rfl n
  | (k, f) :: F, v, h, s, n => by
    have hF : IsB F := ⟨fun p hp => h.lead p (by simp [hp]), (List.nodup_cons.mp h.nodup).2⟩
    have hk : k ∉ F.map (·.1) := (List.nodup_cons.mp h.nodup).1
    have hf : Lead f k := h.lead (k, f) (by simp)
    have s' : Span (fun u => u = f ∨ In F u) v := s.sub_of fun u ⟨j, hu⟩ => by
      rcases List.mem_cons.mp hu with e | e
      · cases e; exact .inl rfl
      · exact .inr ⟨j, e⟩
    obtain ⟨c, w, hw, e⟩ := s'.split
    by_cases hz : ∃ j, w j ≠ 0
    · obtain ⟨l, hl, hlw⟩ := lead_mem hF hw hz
      by_cases hc : c = 0
      · refine ⟨l, by simp at hl ⊢; right; exact hl, ?_, fun j hj => ?_⟩
        · rw [e l, hc]; have := hlw.1; grind
        · rw [e j, hc, hlw.2 j hj]; grind
      · have hkl : k ≠ l := fun q => hk (q ▸ hl)
        rcases Nat.lt_or_gt_of_ne hkl with q | q
        · refine ⟨k, by simp, ?_, fun j hj => ?_⟩
          · rw [e k, hlw.2 k q]
            have := hf.1
            intro z
            have z2 : c * f k = 0 := by grind
            rcases Rat.mul_eq_zero.mp z2 with z | z
            · exact hc z
            · exact this z
          · rw [e j, hlw.2 j (by omega), hf.2 j hj]; grind
        · refine ⟨l, by simp at hl ⊢; right; exact hl, ?_, fun j hj => ?_⟩
          · rw [e l, hf.2 l q]; have := hlw.1; grind
          · rw [e j, hlw.2 j hj, hf.2 j (by omega)]; grind
    · have hw0 : ∀ j, w j = 0 := fun j => Classical.byContradiction fun q => hz ⟨j, q⟩
      have hc : c ≠ 0 := fun q => by
        obtain ⟨j, n⟩ := n
        rw [e j, hw0 j, q] at n
        grind
      refine ⟨k, by simp, ?_, fun j hj => ?_⟩
      · rw [e k, hw0 k]
        intro z
        have z2 : c * f k = 0 := by grind
        rcases Rat.mul_eq_zero.mp z2 with z | z
        · exact hc z
        · exact hf.1 z
      · rw [e j, hw0 j, hf.2 j hj]; grind
theorem nodup_le : ∀ {a b : List Nat}, a.Nodup → (∀ x ∈ a, x ∈ b) → a.length ≤ b.length
  | [], b, _, _ => by simp
  | x :: a, b, h, s => by
    have hx := s x (by simp)
    have h2 := List.nodup_cons.mp h
    have := nodup_le (b := b.erase x) h2.2 fun z hz => (List.mem_erase_of_ne (fun q => h2.1 (by rw [← q]; exact hz))).mpr (s z (by simp [hz]))
    rw [List.length_erase_of_mem hx] at this
    have : 0 < b.length := List.length_pos_of_mem hx
    simp only [List.length_cons]
    omega
theorem IsB.le {F G : List (Nat × Vec)} (hF : IsB F) (hG : IsB G) (h : ∀ u, In F u → Span (In G) u) : F.length ≤ G.length := by
  have := nodup_le (a := F.map (·.1)) (b := G.map (·.1)) hF.nodup fun k hk => by
    obtain ⟨p, hp, rfl⟩ := List.mem_map.mp hk
    obtain ⟨k, hk, hl⟩ := lead_mem hG (h p.2 ⟨p.1, hp⟩) ⟨p.1, (hF.lead p hp).1⟩
    rw [(hF.lead p hp).uniq hl]
    exact hk
  simpa using this
theorem IsB.same {F G : List (Nat × Vec)} (hF : IsB F) (hG : IsB G) (h : ∀ u, In F u → Span (In G) u) (g : ∀ u, In G u → Span (In F) u) : F.length = G.length :=
  Nat.le_antisymm (hF.le hG h) (hG.le hF g)
end LA
end
section
set_option Elab.async false
/-! The specification's fractions are rationals; its elimination over lists of rationals -/
namespace SP
open Kxd4 LA
def toF (q : Rat) : Fraction := ⟨q.num, q.den⟩
theorem toF_inj {a b : Rat} (h : toF a = toF b) : a = b := by
  injection h with h1 h2
  exact Rat.ext h1 h2
theorem toF_num {a : Rat} : (toF a).numerator = 0 ↔ a = 0 := Rat.num_eq_zero
theorem fraction_eq (n d : Int) : fraction n d = toF ((n : Rat) / (d : Rat)) := by
  rw [← Rat.divInt_eq_div]
  unfold fraction toF
  rw [Rat.num_divInt, Rat.den_divInt]
  by_cases h0 : d = 0
  · subst h0; simp
  · by_cases h1 : d < 0
    · have e1 : d.sign = -1 := Int.sign_eq_neg_one_of_neg h1
      simp only [h0, h1, if_false, if_true, e1, Int.gcd_comm n d, Fraction.mk.injEq]
      refine ⟨by rw [Int.neg_one_mul], ?_⟩
      have : -d = (d.natAbs : Int) := by omega
      rw [this]; norm_cast
    · have e1 : d.sign = 1 := Int.sign_eq_one_of_pos (by omega)
      simp only [h0, h1, if_false, e1, Int.gcd_comm n d, Fraction.mk.injEq]
      refine ⟨by rw [Int.one_mul], ?_⟩
      have : d = (d.natAbs : Int) := by omega
      rw [this]; norm_cast
theorem rat_eq (a : Rat) : a = (a.num : Rat) / ((a.den : Int) : Rat) := by
  have := Rat.mkRat_self a
  rw [Rat.mkRat_eq_div] at this
  exact this.symm
theorem den_ne (a : Rat) : ((a.den : Int) : Rat) ≠ 0 := by
  have := a.den_nz
  intro h
  rw [Rat.intCast_eq_zero_iff] at h
  omega
theorem plus_eq (a b : Rat) : plus (toF a) (toF b) = toF (a + b) := by
  unfold plus
  rw [fraction_eq]
  refine congrArg toF ?_
  have ha := rat_eq a; have hb := rat_eq b
  have na := den_ne a; have nb := den_ne b
  simp only [toF, Rat.intCast_add, Rat.intCast_mul]
  generalize ((a.den : Int) : Rat) = x at *
  generalize ((b.den : Int) : Rat) = y at *
  generalize (a.num : Rat) = u at *
  generalize (b.num : Rat) = v at *
  rw [ha, hb]
  grind
theorem negative_eq (a : Rat) : negative (toF a) = toF (-a) := rfl
theorem minus_eq (a b : Rat) : minus (toF a) (toF b) = toF (a - b) := by
  unfold minus
  rw [negative_eq, plus_eq]
  exact congrArg toF (by grind)
theorem times_eq (a b : Rat) : times (toF a) (toF b) = toF (a * b) := by
  unfold times
  rw [fraction_eq]
  refine congrArg toF ?_
  have ha := rat_eq a; have hb := rat_eq b
  have na := den_ne a; have nb := den_ne b
  simp only [toF, Rat.intCast_mul]
  generalize ((a.den : Int) : Rat) = x at *
  generalize ((b.den : Int) : Rat) = y at *
  generalize (a.num : Rat) = u at *
  generalize (b.num : Rat) = v at *
  rw [ha, hb]
  grind
theorem over_eq (a b : Rat) : over (toF a) (toF b) = toF (a / b) := by
  unfold over
  rw [fraction_eq]
  refine congrArg toF ?_
  have ha := rat_eq a; have hb := rat_eq b
  have na := den_ne a; have nb := den_ne b
  simp only [toF, Rat.intCast_mul]
  generalize ((a.den : Int) : Rat) = x at *
  generalize ((b.den : Int) : Rat) = y at *
  generalize (a.num : Rat) = u at *
  generalize (b.num : Rat) = v at *
  rw [ha, hb]
  by_cases hv : v = 0
  · subst hv
    have e1 : (0 : Rat) / y = 0 := by grind
    rw [e1]; grind
  · grind
theorem ofInt_eq (n : Int) : ofInt n = toF n := rfl
theorem ofNat_eq (n : Nat) : ofNat n = toF n := rfl
theorem zero_eq : (⟨0, 1⟩ : Fraction) = toF 0 := rfl
theorem one_eq : (⟨1, 1⟩ : Fraction) = toF 1 := rfl
/-! over lists -/
abbrev Row := List Rat
def mp (l : Row) : List Fraction := l.map toF
def mpp (l : List Row) : List (List Fraction) := l.map mp
/-- the row as a vector -/
def V (l : Row) : Vec := fun j => l.getD j 0
theorem getD_mp (l : Row) (j : Nat) (d : Rat) : (mp l).getD j (toF d) = toF (l.getD j d) := by
  unfold mp
  simp only [List.getD_eq_getElem?_getD, List.getElem?_map]
  cases l[j]? <;> rfl
theorem foldl_plus : ∀ (l : Row) (a : Rat), (mp l).foldl plus (toF a) = toF (l.foldl (· + ·) a)
  | [], _ => rfl
  | b :: l, a => by
    show (mp l).foldl plus (plus (toF a) (toF b)) = _
    rw [plus_eq, foldl_plus l]; rfl
theorem foldl_T : ∀ (l : Row) (a : Rat), l.foldl (· + ·) a = a + T l id
  | [], a => by simp only [List.foldl_nil, T]; grind
  | b :: l, a => by
    rw [List.foldl_cons, foldl_T l]; simp only [T, id]; grind
theorem total_eq (l : Row) : total (mp l) = toF (T l id) := by
  unfold total
  rw [zero_eq, foldl_plus, foldl_T]
  exact congrArg toF (by grind)
def qdot (a b : Row) : Rat := T (List.zipWith (· * ·) a b) id
theorem zipWith_mp (f : Fraction → Fraction → Fraction) (g : Rat → Rat → Rat) (h : ∀ a b, f (toF a) (toF b) = toF (g a b)) : ∀ a b : Row, List.zipWith f (mp a) (mp b) = mp (List.zipWith g a b)
  | [], _ => rfl
  | _ :: _, [] => rfl
  | x :: a, y :: b => by
    show f (toF x) (toF y) :: List.zipWith f (mp a) (mp b) = _
    rw [h, zipWith_mp f g h a b]; rfl
theorem dot_eq (a b : Row) : dot (mp a) (mp b) = toF (qdot a b) := by
  unfold dot
  rw [zipWith_mp times (· * ·) times_eq, total_eq]; rfl
def qlead (r : Row) : Option Nat := r.findIdx? fun x => x != 0
theorem lead_eq (r : Row) : leadOf (mp r) = qlead r := by
  unfold leadOf mp qlead
  rw [List.findIdx?_map]
  congr 1
  funext x
  show ((toF x).numerator != 0) = (x != 0)
  have := @toF_num x
  by_cases h : x = 0
  · subst h; rfl
  · have h2 : ¬ (toF x).numerator = 0 := fun q => h (this.mp q)
    rw [bne_iff_ne.mpr h, bne_iff_ne.mpr h2]
def qred (row other : Row) : Row := match qlead other with
  | none => row
  | some k => List.zipWith (fun x y => x - row.getD k 0 / other.getD k 1 * y) row other
theorem red_eq (row other : Row) : reduceBy (mp row) (mp other) = mp (qred row other) := by
  unfold reduceBy qred
  rw [lead_eq]
  cases qlead other with
  | none => rfl
  | some k =>
    show List.zipWith (fun x y => minus x (times (over ((mp row).getD k ⟨0, 1⟩) ((mp other).getD k ⟨1, 1⟩)) y)) (mp row) (mp other) = _
    rw [zero_eq, one_eq, getD_mp, getD_mp, over_eq]
    exact zipWith_mp _ (fun x y => x - row.getD k 0 / other.getD k 1 * y) (fun a b => by rw [times_eq, minus_eq]) row other
theorem foldl_red : ∀ (F : List Row) (row : Row), (mpp F).foldl reduceBy (mp row) = mp (F.foldl qred row)
  | [], _ => rfl
  | f :: F, row => by
    show (mpp F).foldl reduceBy (reduceBy (mp row) (mp f)) = _
    rw [red_eq, foldl_red F]; rfl
def qstep (found : List Row) (row : Row) : List Row :=
  let r := found.foldl qred row
  if (qlead r).isNone then found else found ++ [r]
def qech (rows : List Row) : List Row := rows.foldl qstep []
theorem ech_go : ∀ (rows F : List Row), (mpp rows).foldl (fun found row =>
    let r := found.foldl reduceBy row
    if (leadOf r).isNone then found else found ++ [r]) (mpp F) = mpp (rows.foldl qstep F)
  | [], _ => rfl
  | r :: rows, F => by
    show (mpp rows).foldl _ (if (leadOf ((mpp F).foldl reduceBy (mp r))).isNone then mpp F else mpp F ++ [(mpp F).foldl reduceBy (mp r)]) = mpp (rows.foldl qstep (qstep F r))
    have : (if (leadOf ((mpp F).foldl reduceBy (mp r))).isNone then mpp F else mpp F ++ [(mpp F).foldl reduceBy (mp r)]) = mpp (qstep F r) := by
      rw [foldl_red, lead_eq]
      unfold qstep
      simp only []
      split
      · rfl
      · simp [mpp]
    rw [this]
    exact ech_go rows (qstep F r)
theorem ech_eq (rows : List Row) : echelon (mpp rows) = mpp (qech rows) := ech_go rows []
def qrank (rows : List Row) : Nat := (qech rows).length
theorem rank_eq (rows : List Row) : rankOf (mpp rows) = qrank rows := by
  unfold rankOf qrank
  rw [ech_eq]; simp [mpp]
def qup (F : List Row) : List Row := F.foldr (fun row found => found.foldl qred row :: found) []
theorem up_eq : ∀ F : List Row, (mpp F).foldr (fun row found => found.foldl reduceBy row :: found) ([] : List (List Fraction)) = mpp (qup F)
  | [] => rfl
  | f :: F => by
    show (List.foldl reduceBy (mp f) ((mpp F).foldr (fun row found => found.foldl reduceBy row :: found) [])) :: (mpp F).foldr (fun row found => found.foldl reduceBy row :: found) [] = _
    rw [up_eq F, foldl_red]; rfl
def qval (width : Nat) (up : List Row) (j : Nat) : Rat := match up.find? fun r => qlead r == some j with
  | none => 0
  | some r => r.getD width 0 / r.getD j 1
def qsolve (width : Nat) (rows : List Row) : Row := (List.range width).map (qval width (qup (qech rows)))
theorem find_mpp (p : List Fraction → Bool) (q : Row → Bool) (h : ∀ r, p (mp r) = q r) : ∀ F : List Row, (mpp F).find? p = (F.find? q).map mp
  | [] => rfl
  | f :: F => by
    show (List.find? p (mp f :: mpp F)) = _
    rw [List.find?_cons, List.find?_cons, h, find_mpp p q h F]
    cases q f <;> rfl
theorem solve_eq (width : Nat) (rows : List Row) : solve width (mpp rows) = mp (qsolve width rows) := by
  unfold solve qsolve
  rw [ech_eq, up_eq]
  unfold mp
  rw [List.map_map]
  refine List.map_congr_left fun j _ => ?_
  simp only [Function.comp]
  rw [find_mpp _ (fun r => qlead r == some j) (fun r => by rw [lead_eq])]
  unfold qval
  cases (qup (qech rows)).find? fun r => qlead r == some j with
  | none => rfl
  | some r => 
    simp only [Option.map]
    rw [zero_eq, one_eq, getD_mp, getD_mp, over_eq]
end SP
end
section
set_option Elab.async false
/-! What the specification's elimination gives: a basis with leads; a solution where there is one -/
namespace EC
open LA SP
theorem V_ge {r : Row} {j : Nat} (h : r.length ≤ j) : V r j = 0 := by
  unfold V; rw [List.getD_eq_getElem?_getD, List.getElem?_eq_none h]; rfl
theorem V_lt {r : Row} {j : Nat} (h : j < r.length) : V r j = r[j] := by
  unfold V; rw [List.getD_eq_getElem?_getD, List.getElem?_eq_getElem h]; rfl
theorem lead_some {r : Row} {k : Nat} (h : qlead r = some k) : Lead (V r) k ∧ k < r.length := by
  unfold qlead at h
  rw [List.findIdx?_eq_some_iff_getElem] at h
  obtain ⟨hk, h1, h2⟩ := h
  refine ⟨⟨?_, fun j hj => ?_⟩, hk⟩
  · rw [V_lt hk]; simpa using h1
  · rw [V_lt (by omega)]
    have := h2 j hj
    simpa using this
theorem lead_none {r : Row} (h : qlead r = none) : V r = fun _ => 0 := by
  unfold qlead at h
  rw [List.findIdx?_eq_none_iff] at h
  funext j
  by_cases hj : j < r.length
  · rw [V_lt hj]
    have := h r[j] (List.getElem_mem hj)
    simpa using this
  · exact V_ge (by omega)
theorem lead_of {r : Row} {k : Nat} (h : Lead (V r) k) : qlead r = some k := by
  cases e : qlead r with
  | none => have := lead_none e; rw [this] at h; exact absurd rfl h.1
  | some l => rw [(lead_some e).1.uniq h]
theorem V_zip {f : Rat → Rat → Rat} {a b : Row} (h : a.length = b.length) (f0 : f 0 0 = 0) (j : Nat) : V (List.zipWith f a b) j = f (V a j) (V b j) := by
  by_cases hj : j < a.length
  · rw [V_lt (by simp; omega), V_lt hj, V_lt (by omega), List.getElem_zipWith]
  · rw [V_ge (by simp; omega), V_ge (by omega), V_ge (by omega), f0]
theorem V_red {row other : Row} {k : Nat} (hl : row.length = other.length) (h : qlead other = some k) (j : Nat) :
    V (qred row other) j = V row j - V row k / V other k * V other j := by
  unfold qred
  rw [h]
  simp only []
  rw [V_zip hl (by grind)]
  have := (lead_some h).2
  congr 3
  unfold V
  simp only [List.getD_eq_getElem?_getD, List.getElem?_eq_getElem this]; rfl
theorem red_none {row other : Row} (h : qlead other = none) : qred row other = row := by
  unfold qred; rw [h]
theorem len_red {row other : Row} (hl : row.length = other.length) : (qred row other).length = row.length := by
  cases h : qlead other with
  | none => rw [red_none h]
  | some k => unfold qred; rw [h]; simp; omega
def InR (F : List Row) : Vec → Prop := fun u => ∃ r ∈ F, u = V r
theorem red_span {row other : Row} (hl : row.length = other.length) : ∃ c : Rat, ∀ j, V row j = V (qred row other) j + c * V other j := by
  cases h : qlead other with
  | none => rw [red_none h]; exact ⟨0, fun j => by grind⟩
  | some k => exact ⟨V row k / V other k, fun j => by rw [V_red hl h]; grind⟩
theorem red_keeps {row other : Row} {k : Nat} (hl : row.length = other.length) (h1 : V row k = 0) (h2 : V other k = 0) : V (qred row other) k = 0 := by
  obtain ⟨c, e⟩ := red_span hl
  have := e k
  grind
theorem red_lead {row other : Row} {k : Nat} (hl : row.length = other.length) (h1 : Lead (V row) k) (h2 : V other k = 0) : Lead (V (qred row other)) k := by
  cases h : qlead other with
  | none => rw [red_none h]; exact h1
  | some l =>
    have hL := (lead_some h).1
    have ne : l ≠ k := fun e => by subst e; exact hL.1 h2
    rcases Nat.lt_or_gt_of_ne ne with q | q
    · have e : ∀ j, V (qred row other) j = V row j := fun j => by rw [V_red hl h, h1.2 l q]; grind
      exact ⟨by rw [e]; exact h1.1, fun j hj => by rw [e]; exact h1.2 j hj⟩
    · have e : ∀ j, j ≤ k → V (qred row other) j = V row j := fun j hj => by rw [V_red hl h, hL.2 j (by omega)]; grind
      exact ⟨by rw [e k (Nat.le_refl _)]; exact h1.1, fun j hj => by rw [e j (by omega)]; exact h1.2 j hj⟩
/-- each later one is 0 at each earlier one's lead -/
structure Tri (w : Nat) (F : List Row) : Prop where
  pw : F.Pairwise (fun a b => ∀ k, qlead a = some k → V b k = 0)
  ld : ∀ a ∈ F, ∃ k, qlead a = some k
  ln : ∀ a ∈ F, a.length = w
theorem Tri.tail {w : Nat} {f : Row} {F : List Row} (h : Tri w (f :: F)) : Tri w F :=
  ⟨(List.pairwise_cons.mp h.pw).2, fun a ha => h.ld a (by simp [ha]), fun a ha => h.ln a (by simp [ha])⟩
theorem fold_len {w : Nat} : ∀ {F : List Row} {row : Row}, (∀ a ∈ F, a.length = w) → row.length = w → (F.foldl qred row).length = w
  | [], _, _, h => h
  | f :: F, row, hF, h => fold_len (F := F) (fun a ha => hF a (by simp [ha])) (by rw [len_red (by rw [h, hF f (by simp)]), h])
theorem fold_keeps {w k : Nat} : ∀ {F : List Row} {row : Row}, (∀ a ∈ F, a.length = w) → row.length = w → (∀ a ∈ F, V a k = 0) → V row k = 0 → V (F.foldl qred row) k = 0
  | [], _, _, _, _, h => h
  | f :: F, row, hF, hl, hz, h => by
    have e : row.length = f.length := by rw [hl, hF f (by simp)]
    exact fold_keeps (F := F) (fun a ha => hF a (by simp [ha])) (by rw [len_red e, hl]) (fun a ha => hz a (by simp [ha])) (red_keeps e h (hz f (by simp)))
theorem fold_lead {w k : Nat} : ∀ {F : List Row} {row : Row}, (∀ a ∈ F, a.length = w) → row.length = w → (∀ a ∈ F, V a k = 0) → Lead (V row) k → Lead (V (F.foldl qred row)) k
  | [], _, _, _, _, h => h
  | f :: F, row, hF, hl, hz, h => by
    have e : row.length = f.length := by rw [hl, hF f (by simp)]
    exact fold_lead (F := F) (fun a ha => hF a (by simp [ha])) (by rw [len_red e, hl]) (fun a ha => hz a (by simp [ha])) (red_lead e h (hz f (by simp)))
theorem fold_span {w : Nat} : ∀ {F : List Row} {row : Row}, (∀ a ∈ F, a.length = w) → row.length = w → ∃ u, Span (InR F) u ∧ ∀ j, V row j = V (F.foldl qred row) j + u j
  | [], row, _, _ => ⟨_, .zero, fun j => by show V row j = V row j + 0; grind⟩
  | f :: F, row, hF, hl => by
    have e : row.length = f.length := by rw [hl, hF f (by simp)]
    obtain ⟨u, hu, h⟩ := fold_span (F := F) (row := qred row f) (fun a ha => hF a (by simp [ha])) (by rw [len_red e, hl])
    obtain ⟨c, hc⟩ := red_span e
    refine ⟨fun j => u j + c * V f j, .step c (hu.sub_of fun v ⟨r, hr, er⟩ => ⟨r, by simp [hr], er⟩) ⟨f, by simp, rfl⟩, fun j => ?_⟩
    show V row j = V (F.foldl qred (qred row f)) j + (u j + c * V f j)
    rw [hc j, h j]; grind
theorem fold_zero {w : Nat} : ∀ {F : List Row} {row : Row}, Tri w F → row.length = w → ∀ f ∈ F, ∀ k, qlead f = some k → V (F.foldl qred row) k = 0
  | [], _, _, _, f, hf => by cases hf
  | g :: F, row, h, hl, f, hf => by
    intro k hk
    have e : row.length = g.length := by rw [hl, h.ln g (by simp)]
    rcases List.mem_cons.mp hf with q | q
    · subst q
      refine fold_keeps (F := F) h.tail.ln (by rw [len_red e, hl]) (fun a ha => (List.pairwise_cons.mp h.pw).1 a ha k hk) ?_
      rw [V_red e hk]
      have := (lead_some hk).1.1
      grind
    · exact fold_zero h.tail (by rw [len_red e, hl]) f q k hk
/-- a member of the span that is 0 at all leads is 0 -/
theorem tri_zero {w : Nat} : ∀ {F : List Row} {v : Vec}, Tri w F → Span (InR F) v → (∀ f ∈ F, ∀ k, qlead f = some k → v k = 0) → ∀ j, v j = 0
  | [], v, _, s, _, j => by rw [s.empty fun u ⟨r, hr, _⟩ => by cases hr]
  | f :: F, v, h, s, z, j => by
    obtain ⟨c, u, hu, e⟩ := (s.sub_of (L' := fun u => u = V f ∨ InR F u) fun u ⟨r, hr, er⟩ => by
      rcases List.mem_cons.mp hr with q | q
      · subst q; exact .inl er
      · exact .inr ⟨r, q, er⟩).split
    obtain ⟨k, hk⟩ := h.ld f (by simp)
    have u0 : u k = 0 := hu.at_zero fun x ⟨r, hr, er⟩ => by rw [er]; exact (List.pairwise_cons.mp h.pw).1 r hr k hk
    have c0 : c = 0 := by
      have a := e k
      rw [z f (by simp) k hk, u0] at a
      have := (lead_some hk).1.1
      have b : c * V f k = 0 := by grind
      rcases Rat.mul_eq_zero.mp b with q | q
      · exact q
      · exact absurd q this
    have e2 : ∀ j, v j = u j := fun j => by rw [e j, c0]; grind
    rw [e2 j]
    exact tri_zero h.tail hu (fun g hg l hl => by rw [← e2 l]; exact z g (by simp [hg]) l hl) j
/-- the reduced row is 0 just if the row is in the span -/
theorem fold_in {w : Nat} {F : List Row} {row : Row} (h : Tri w F) (hl : row.length = w) : qlead (F.foldl qred row) = none ↔ Span (InR F) (V row) := by
  obtain ⟨u, hu, e⟩ := fold_span h.ln hl
  constructor
  · intro q
    have z := lead_none q
    exact hu.of_eq fun j => by rw [e j, z]; grind
  · intro s
    have s2 : Span (InR F) (V (F.foldl qred row)) := (s.sub hu).of_eq fun j => by rw [e j]; grind
    have z := tri_zero h s2 fun f hf k hk => fold_zero h hl f hf k hk
    cases q : qlead (F.foldl qred row) with
    | none => rfl
    | some k => exact absurd (z k) (lead_some q).1.1
theorem step_none {F : List Row} {row : Row} (h : qlead (F.foldl qred row) = none) : qstep F row = F := by
  unfold qstep; simp [h]
theorem step_some {F : List Row} {row : Row} {k : Nat} (h : qlead (F.foldl qred row) = some k) : qstep F row = F ++ [F.foldl qred row] := by
  unfold qstep; simp [h]
theorem Tri.step {w : Nat} {F : List Row} {row : Row} (h : Tri w F) (hl : row.length = w) : Tri w (qstep F row) := by
  cases q : qlead (F.foldl qred row) with
  | none => rw [step_none q]; exact h
  | some k =>
    rw [step_some q]
    refine ⟨List.pairwise_append.mpr ⟨h.pw, by simp, fun a ha b hb l hl2 => ?_⟩, fun a ha => ?_, fun a ha => ?_⟩
    · simp at hb; subst hb; exact fold_zero h hl a ha l hl2
    · rcases List.mem_append.mp ha with p | p
      · exact h.ld a p
      · simp at p; subst p; exact ⟨k, q⟩
    · rcases List.mem_append.mp ha with p | p
      · exact h.ln a p
      · simp at p; subst p; exact fold_len h.ln hl
/-- what both spans are -/
theorem step_span1 {w : Nat} {F : List Row} {row : Row} (h : Tri w F) (hl : row.length = w) : ∀ u, InR (qstep F row) u → Span (fun v => InR F v ∨ v = V row) u := by
  intro u hu
  cases q : qlead (F.foldl qred row) with
  | none => rw [step_none q] at hu; exact .mem (.inl hu)
  | some k =>
    rw [step_some q] at hu
    obtain ⟨r, hr, rfl⟩ := hu
    rcases List.mem_append.mp hr with p | p
    · exact .mem (.inl ⟨r, p, rfl⟩)
    · simp at p; subst p
      obtain ⟨x, hx, e⟩ := fold_span h.ln hl
      exact ((Span.mem (L := fun v => InR F v ∨ v = V row) (.inr rfl)).sub (hx.sub_of fun v hv => .inl hv)).of_eq fun j => by rw [e j]; grind
theorem step_span2 {w : Nat} {F : List Row} {row : Row} (h : Tri w F) (hl : row.length = w) : Span (InR (qstep F row)) (V row) := by
  cases q : qlead (F.foldl qred row) with
  | none => rw [step_none q]; exact (fold_in h hl).mp q
  | some k =>
    rw [step_some q]
    obtain ⟨x, hx, e⟩ := fold_span h.ln hl
    exact ((Span.mem (L := InR (F ++ [F.foldl qred row])) (u := V (F.foldl qred row)) ⟨F.foldl qred row, by simp, rfl⟩).add (hx.sub_of fun v ⟨r, hr, er⟩ => ⟨r, by simp [hr], er⟩)).of_eq fun j => by rw [e j]
theorem step_sub {F : List Row} {row : Row} : ∀ u, InR F u → InR (qstep F row) u := by
  intro u ⟨r, hr, e⟩
  refine ⟨r, ?_, e⟩
  cases q : qlead (F.foldl qred row) with
  | none => rw [step_none q]; exact hr
  | some k => rw [step_some q]; simp [hr]
theorem fold_ech {w : Nat} : ∀ {rows F : List Row}, Tri w F → (∀ r ∈ rows, r.length = w) →
    Tri w (rows.foldl qstep F) ∧ (∀ u, InR (rows.foldl qstep F) u → Span (fun v => InR F v ∨ InR rows v) u) ∧ (∀ r ∈ rows, Span (InR (rows.foldl qstep F)) (V r)) ∧ (∀ u, InR F u → InR (rows.foldl qstep F) u)
  | [], F, h, _ => ⟨h, (fun u hu => .mem (.inl hu)), (fun r hr => by cases hr), fun u hu => hu⟩
  | row :: rows, F, h, hl => by
    have hr := hl row (by simp)
    obtain ⟨a, b, c, d⟩ := fold_ech (rows := rows) (h.step hr) fun r hr => hl r (by simp [hr])
    refine ⟨a, fun u hu => (b u hu).mono fun v hv => ?_, fun r hr2 => ?_, fun u hu => d u (step_sub u hu)⟩
    · rcases hv with hv | ⟨r, hr, e⟩
      · refine (step_span1 h hr v hv).sub_of fun x hx => ?_
        rcases hx with hx | hx
        · exact .inl hx
        · exact .inr ⟨row, by simp, hx⟩
      · exact .mem (.inr ⟨r, by simp [hr], e⟩)
    · rcases List.mem_cons.mp hr2 with q | q
      · subst q
        exact (step_span2 h hr).sub_of d
      · exact c r q
theorem tri_nil (w : Nat) : Tri w [] := ⟨.nil, (fun a h => by cases h), fun a h => by cases h⟩
theorem ech_tri {w : Nat} {rows : List Row} (hl : ∀ r ∈ rows, r.length = w) : Tri w (qech rows) := (fold_ech (tri_nil w) hl).1
theorem ech_sub {w : Nat} {rows : List Row} (hl : ∀ r ∈ rows, r.length = w) : ∀ u, InR (qech rows) u → Span (InR rows) u := fun u hu =>
  ((fold_ech (tri_nil w) hl).2.1 u hu).sub_of fun v hv => by
    rcases hv with ⟨r, hr, _⟩ | hv
    · cases hr
    · exact hv
theorem ech_sup {w : Nat} {rows : List Row} (hl : ∀ r ∈ rows, r.length = w) : ∀ u, InR rows u → Span (InR (qech rows)) u := fun u ⟨r, hr, e⟩ => by
  rw [e]; exact (fold_ech (tri_nil w) hl).2.2.1 r hr
/-- with their leads -/
def LF (F : List Row) : List (Nat × Vec) := F.map fun r => ((qlead r).getD 0, V r)
theorem LF_in {F : List Row} {u : Vec} : In (LF F) u ↔ InR F u := by
  unfold In LF InR
  constructor
  · rintro ⟨k, h⟩
    obtain ⟨r, hr, e⟩ := List.mem_map.mp h
    cases e
    exact ⟨r, hr, rfl⟩
  · rintro ⟨r, hr, rfl⟩
    exact ⟨_, List.mem_map.mpr ⟨r, hr, rfl⟩⟩
theorem tri_isB {w : Nat} {F : List Row} (h : Tri w F) : IsB (LF F) := by
  refine ⟨fun p hp => ?_, ?_⟩
  · obtain ⟨r, hr, rfl⟩ := List.mem_map.mp hp
    obtain ⟨k, hk⟩ := h.ld r hr
    simp only [hk, Option.getD]
    exact (lead_some hk).1
  · unfold LF
    rw [List.map_map, List.Nodup, List.pairwise_map]
    refine (List.Pairwise.and_mem.mp h.pw).imp ?_
    rintro a b ⟨ha, hb, hab⟩
    obtain ⟨k, hk⟩ := h.ld a ha
    obtain ⟨l, hl⟩ := h.ld b hb
    simp only [Function.comp, hk, hl, Option.getD]
    intro e
    subst e
    exact (lead_some hl).1.1 (hab k hk)
/-- the rank is the number of any basis with leads -/
theorem rank_is {w : Nat} {rows : List Row} (hl : ∀ r ∈ rows, r.length = w) {B : List (Nat × Vec)} (hB : IsB B)
    (h1 : ∀ u, In B u → Span (InR rows) u) (h2 : ∀ u, InR rows u → Span (In B) u) : qrank rows = B.length := by
  have e : qrank rows = (LF (qech rows)).length := by simp [qrank, LF]
  rw [e]
  refine (tri_isB (ech_tri hl)).same hB (fun u hu => ?_) fun u hu => ?_
  · exact (ech_sub hl u (LF_in.mp hu)).mono h2
  · exact ((h1 u hu).mono (ech_sup hl)).sub_of fun v hv => LF_in.mpr hv
/-- the rank with one row more -/
theorem rank_more {w : Nat} {rows : List Row} {c : Row} (hl : ∀ r ∈ rows, r.length = w) (hc : c.length = w) : (qrank (rows ++ [c]) == qrank rows) = true ↔ Span (InR rows) (V c) := by
  have e : qech (rows ++ [c]) = qstep (qech rows) c := by
    unfold qech; rw [List.foldl_append]; rfl
  have h := ech_tri hl
  have key : Span (InR (qech rows)) (V c) ↔ Span (InR rows) (V c) := ⟨fun s => s.mono (ech_sub hl), fun s => s.mono (ech_sup hl)⟩
  unfold qrank
  rw [e, ← key, ← fold_in h hc]
  cases q : qlead ((qech rows).foldl qred c) with
  | none => rw [step_none q]; simp
  | some k => rw [step_some q]; simp

/-! ### back substitution -/
structure Full (w : Nat) (G : List Row) : Prop where
  pw : G.Pairwise (fun a b => (∀ k, qlead a = some k → V b k = 0) ∧ ∀ k, qlead b = some k → V a k = 0)
  ld : ∀ a ∈ G, ∃ k, qlead a = some k
  ln : ∀ a ∈ G, a.length = w
theorem Full.tri {w : Nat} {G : List Row} (h : Full w G) : Tri w G := ⟨h.pw.imp fun x => x.1, h.ld, h.ln⟩
theorem up_full {w : Nat} : ∀ {F : List Row}, Tri w F → Full w (qup F) ∧ (∀ u, InR (qup F) u → Span (InR F) u) ∧ (∀ u, InR F u → Span (InR (qup F)) u)
  | [], _ => ⟨⟨.nil, (fun a h => by cases h), fun a h => by cases h⟩, (fun u ⟨r, h, _⟩ => by cases h), fun u ⟨r, h, _⟩ => by cases h⟩
  | f :: F, h => by
    obtain ⟨a, b, c⟩ := up_full h.tail
    have hl := h.ln f (by simp)
    obtain ⟨k, hk⟩ := h.ld f (by simp)
    have z : ∀ g ∈ qup F, V g k = 0 := fun g hg => (b _ ⟨g, hg, rfl⟩).at_zero fun x ⟨r, hr, er⟩ => by rw [er]; exact (List.pairwise_cons.mp h.pw).1 r hr k hk
    have hk2 : qlead ((qup F).foldl qred f) = some k := lead_of (fold_lead a.ln hl z (lead_some hk).1)
    obtain ⟨x, hx, e⟩ := fold_span a.ln hl
    have e1 : qup (f :: F) = (qup F).foldl qred f :: qup F := rfl
    rw [e1]
    refine ⟨⟨List.pairwise_cons.mpr ⟨fun g hg => ⟨fun l hl2 => ?_, fun l hl2 => fold_zero a.tri hl g hg l hl2⟩, a.pw⟩, fun g hg => ?_, fun g hg => ?_⟩, fun u ⟨r, hr, er⟩ => ?_, fun u ⟨r, hr, er⟩ => ?_⟩
    · rw [hk2] at hl2; cases hl2; exact z g hg
    · rcases List.mem_cons.mp hg with q | q
      · subst q; exact ⟨k, hk2⟩
      · exact a.ld g q
    · rcases List.mem_cons.mp hg with q | q
      · subst q; exact fold_len a.ln hl
      · exact a.ln g q
    · rw [er]
      rcases List.mem_cons.mp hr with q | q
      · subst q
        have hx2 : Span (InR (f :: F)) x := hx.mono fun v hv => (b v hv).sub_of fun y ⟨r, hr, er⟩ => ⟨r, by simp [hr], er⟩
        exact ((Span.mem (L := InR (f :: F)) ⟨f, by simp, rfl⟩).sub hx2).of_eq fun j => by rw [e j]; grind
      · exact (b _ ⟨r, q, rfl⟩).sub_of fun y ⟨r, hr, er⟩ => ⟨r, by simp [hr], er⟩
    · rw [er]
      rcases List.mem_cons.mp hr with q | q
      · subst q
        exact ((Span.mem (L := InR ((qup F).foldl qred r :: qup F)) (u := V ((qup F).foldl qred r)) ⟨(qup F).foldl qred r, by simp, rfl⟩).add (hx.sub_of fun y ⟨r, hr, er⟩ => ⟨r, by simp [hr], er⟩)).of_eq fun j => by rw [e j]
      · exact (c _ ⟨r, q, rfl⟩).sub_of fun y ⟨r, hr, er⟩ => ⟨r, by simp [hr], er⟩
theorem pw_mem {R : Row → Row → Prop} (hs : ∀ a b, R a b → R b a) : ∀ {G : List Row}, G.Pairwise R → ∀ a ∈ G, ∀ b ∈ G, a = b ∨ R a b
  | [], _, a, ha => by cases ha
  | g :: G, h, a, ha => by
    intro b hb
    have h2 := List.pairwise_cons.mp h
    rcases List.mem_cons.mp ha with p | p <;> rcases List.mem_cons.mp hb with q | q
    · exact .inl (p.trans q.symm)
    · subst p; exact .inr (h2.1 b q)
    · subst q; exact .inr (hs _ _ (h2.1 a p))
    · exact pw_mem hs h2.2 a p b q
theorem full_pair {w : Nat} {G : List Row} (h : Full w G) {a b : Row} (ha : a ∈ G) (hb : b ∈ G) : a = b ∨ ∀ k, qlead b = some k → V a k = 0 := by
  rcases pw_mem (R := fun a b => (∀ k, qlead a = some k → V b k = 0) ∧ ∀ k, qlead b = some k → V a k = 0) (fun a b x => ⟨x.2, x.1⟩) h.pw a ha b hb with q | q
  · exact .inl q
  · exact .inr q.2
theorem val_lead {w n : Nat} {G : List Row} (h : Full n G) {g : Row} (hg : g ∈ G) {l : Nat} (hl : qlead g = some l) : qval w G l = V g w / V g l := by
  unfold qval
  cases e : G.find? fun r => qlead r == some l with
  | none =>
    rw [List.find?_eq_none] at e
    exact absurd hl (by simpa using e g hg)
  | some r =>
    have h1 := List.find?_some e
    have h2 := List.mem_of_find?_eq_some e
    have h3 : qlead r = some l := by simpa using h1
    have : g = r := by
      rcases full_pair h hg h2 with q | q
      · exact q
      · exact absurd (q l h3) (lead_some hl).1.1
    subst this
    simp only []
    congr 1
    unfold V
    simp only [List.getD_eq_getElem?_getD, List.getElem?_eq_getElem (lead_some hl).2]; rfl
theorem val_other {w n : Nat} {G : List Row} (h : Full n G) {g : Row} (hg : g ∈ G) {l : Nat} (hl : qlead g = some l) {k : Nat} (hk : k ≠ l) : V g k * qval w G k = 0 := by
  unfold qval
  cases e : G.find? fun r => qlead r == some k with
  | none => simp only []; grind
  | some r =>
    have h1 := List.find?_some e
    have h2 := List.mem_of_find?_eq_some e
    have h3 : qlead r = some k := by simpa using h1
    rcases full_pair h hg h2 with q | q
    · subst q; rw [hl] at h3; cases h3; exact absurd rfl hk
    · rw [q k h3]; grind
def qf (w : Nat) (x : Vec) : Vec → Rat := fun v => S w (fun k => v k * x k) - v w
theorem qf_zero (w : Nat) (x : Vec) : qf w x (fun _ => 0) = 0 := by
  unfold qf
  rw [S_zero_of fun j _ => by grind]; grind
theorem qf_lin (w : Nat) (x : Vec) (u v : Vec) (c : Rat) : qf w x (fun j => u j + c * v j) = qf w x u + c * qf w x v := by
  unfold qf
  rw [S_congr (g := fun k => u k * x k + c * (v k * x k)) (fun j _ => by grind), S_add, S_mul]; grind
theorem solve_V {w : Nat} {rows : List Row} {j : Nat} (h : j < w) : V (qsolve w rows) j = qval w (qup (qech rows)) j := by
  unfold qsolve
  rw [V_lt (by simpa using h)]
  simp
theorem solve_len (w : Nat) (rows : List Row) : (qsolve w rows).length = w := by simp [qsolve]
/-- where there is a solution, what the specification gives is one -/
theorem solve_ok {w : Nat} {rows : List Row} (hl : ∀ r ∈ rows, r.length = w + 1) {x : Vec} (hx : ∀ r ∈ rows, qf w x (V r) = 0) :
    ∀ r ∈ rows, qf w (V (qsolve w rows)) (V r) = 0 := by
  have ht := ech_tri hl
  obtain ⟨hf, s1, s2⟩ := up_full ht
  have all : ∀ g ∈ qup (qech rows), qf w (V (qsolve w rows)) (V g) = 0 := by
    intro g hg
    have sg : Span (InR rows) (V g) := (s1 _ ⟨g, hg, rfl⟩).mono (ech_sub hl)
    have xg : qf w x (V g) = 0 := sg.kills _ (qf_zero w x) (qf_lin w x) fun u ⟨r, hr, er⟩ => by rw [er]; exact hx r hr
    obtain ⟨l, hlg⟩ := hf.ld g hg
    have hL := lead_some hlg
    have lw : l < w := by
      rcases Nat.lt_or_ge l w with q | q
      · exact q
      · have : l = w := by have := hL.2; have := hf.ln g hg; omega
        subst this
        unfold qf at xg
        rw [S_zero_of fun j hj => by rw [hL.1.2 j hj]; grind] at xg
        have := hL.1.1
        grind
    unfold qf
    rw [S_congr (g := fun k => V g k * qval w (qup (qech rows)) k) (fun j hj => by rw [solve_V hj]), S_single lw fun j hj ne => val_other hf hg hlg ne, val_lead hf hg hlg]
    have := hL.1.1
    grind
  intro r hr
  have s : Span (InR (qup (qech rows))) (V r) := (ech_sup hl _ ⟨r, hr, rfl⟩).mono s2
  exact s.kills _ (qf_zero w _) (qf_lin w _) fun u ⟨g, hg, eg⟩ => by rw [eg]; exact all g hg
/-- where there is none, some combination of the rows is 0 but at the end -/
theorem solve_or {w : Nat} {rows : List Row} (hl : ∀ r ∈ rows, r.length = w + 1) :
    (∀ r ∈ rows, qf w (V (qsolve w rows)) (V r) = 0) ∨ ∃ v, Span (InR rows) v ∧ (∀ j, j < w → v j = 0) ∧ v w ≠ 0 := by
  have ht := ech_tri hl
  obtain ⟨hf, s1, s2⟩ := up_full ht
  by_cases c : ∃ g ∈ qup (qech rows), qlead g = some w
  · obtain ⟨g, hg, e⟩ := c
    exact .inr ⟨V g, (s1 _ ⟨g, hg, rfl⟩).mono (ech_sub hl), (lead_some e).1.2, (lead_some e).1.1⟩
  · refine .inl ?_
    have all : ∀ g ∈ qup (qech rows), qf w (V (qsolve w rows)) (V g) = 0 := by
      intro g hg
      obtain ⟨l, hlg⟩ := hf.ld g hg
      have hL := lead_some hlg
      have lw : l < w := by
        rcases Nat.lt_or_ge l w with q | q
        · exact q
        · have : l = w := by have := hL.2; have := hf.ln g hg; omega
          exact absurd ⟨g, hg, this ▸ hlg⟩ c
      unfold qf
      rw [S_congr (g := fun k => V g k * qval w (qup (qech rows)) k) (fun j hj => by rw [solve_V hj]), S_single lw fun j hj ne => val_other hf hg hlg ne, val_lead hf hg hlg]
      have := hL.1.1
      grind
    intro r hr
    have s : Span (InR (qup (qech rows))) (V r) := (ech_sup hl _ ⟨r, hr, rfl⟩).mono s2
    exact s.kills _ (qf_zero w _) (qf_lin w _) fun u ⟨g, hg, eg⟩ => by rw [eg]; exact all g hg
end EC
end
section
set_option Elab.async false
/-! Least squares: the normal equations, their solutions, estimates, residual sums -/
namespace LS
open Kxd4 LA SP EC
theorem S_front (f : Nat → Rat) : ∀ n : Nat, S (n + 1) f = f 0 + S n (fun j => f (j + 1))
  | 0 => by simp only [S]; grind
  | n + 1 => by
    have := S_front f n
    simp only [S] at this ⊢
    rw [this]; grind
theorem qdot_S : ∀ {w : Nat} {a b : Row}, a.length = w → b.length = w → qdot a b = S w (fun k => V a k * V b k)
  | 0, [], [], _, _ => rfl
  | w + 1, x :: a, y :: b, ha, hb => by
    have ih := qdot_S (w := w) (a := a) (b := b) (by simpa using ha) (by simpa using hb)
    rw [S_front]
    show x * y + qdot a b = _
    rw [ih]; rfl
/-- rows with their responses -/
abbrev Dat := List (Row × Rat)
def rowsOf (D : Dat) : List Row := D.map (·.1)
def ysOf (D : Dat) : Row := D.map (·.2)
def G (D : Dat) (i j : Nat) : Rat := T D fun p => V p.1 i * V p.1 j
def tt (D : Dat) (i : Nat) : Rat := T D fun p => V p.1 i * p.2
def Sol (D : Dat) (w : Nat) (c z : Vec) : Prop := ∀ i, i < w → S w (fun k => G D i k * z k) = c i
theorem G_symm (D : Dat) (i j : Nat) : G D i j = G D j i := T_congr fun p _ => by grind
def Wide (w : Nat) (D : Dat) : Prop := ∀ p ∈ D, p.1.length = w
theorem span_comb {w : Nat} {f : Nat → Vec} {v : Vec} (h : Span (fun u => ∃ i, i < w ∧ u = f i) v) : ∃ u : Nat → Rat, ∀ j, v j = S w (fun i => u i * f i j) := by
  induction h with
  | zero => exact ⟨fun _ => 0, fun j => by rw [S_zero_of fun i _ => by grind]⟩
  | step c hv hu ih =>
    obtain ⟨u, e⟩ := ih
    obtain ⟨i, hi, rfl⟩ := hu
    refine ⟨fun k => u k + (if k = i then c else 0), fun j => ?_⟩
    rw [S_congr (g := fun k => u k * f k j + (if k = i then c else 0) * f k j) (fun k _ => by grind), S_add, ← e j, S_single (k := i) hi (fun k _ ne => by simp [ne])]
    simp
theorem span_T {L : Vec → Prop} (a : Row × Rat → Rat) : ∀ {D : Dat}, (∀ p ∈ D, Span L (V p.1)) → Span L (fun j => T D fun p => a p * V p.1 j)
  | [], _ => .zero
  | p :: D, h => ((h p (by simp)).smul (a p)).add (span_T (D := D) a fun q hq => h q (by simp [hq]))
theorem sol_sum {D : Dat} {w : Nat} {c z : Vec} (h : Sol D w c z) {i : Nat} (hi : i < w) : c i = T D fun p => S w (fun k => V p.1 k * z k) * V p.1 i := by
  rw [← h i hi]
  unfold G
  rw [S_congr (g := fun k => T D fun p => V p.1 i * V p.1 k * z k) (fun k _ => by rw [T_mulr])]
  rw [← T_S (fun (p : Row × Rat) k => V p.1 i * V p.1 k * z k)]
  refine T_congr fun p _ => ?_
  rw [← S_mulr]
  exact S_congr fun k _ => by grind
theorem sol_span {D : Dat} {w : Nat} {c z : Vec} (hw : Wide w D) (hc : ∀ j, w ≤ j → c j = 0) (h : Sol D w c z) : Span (InR (rowsOf D)) c := by
  refine (span_T (L := InR (rowsOf D)) (fun p => S w (fun k => V p.1 k * z k)) (D := D) fun p hp => .mem ⟨p.1, List.mem_map.mpr ⟨p, hp, rfl⟩, rfl⟩).of_eq fun j => ?_
  by_cases hj : j < w
  · exact (sol_sum h hj).symm
  · rw [hc j (by omega), T_congr (g := fun _ => 0) (fun p hp => by rw [V_ge (by rw [hw p hp]; omega)]; grind), T_zero]
theorem tt_span (D : Dat) : Span (InR (rowsOf D)) (tt D) :=
  (span_T (L := InR (rowsOf D)) (fun p => p.2) (D := D) fun p hp => .mem ⟨p.1, List.mem_map.mpr ⟨p, hp, rfl⟩, rfl⟩).of_eq fun j => T_congr fun p _ => by grind
theorem tt_ge {D : Dat} {w : Nat} (hw : Wide w D) {j : Nat} (hj : w ≤ j) : tt D j = 0 := by
  unfold tt
  rw [T_congr (g := fun _ => 0) (fun p hp => by rw [V_ge (by rw [hw p hp]; omega)]; grind), T_zero]
theorem in_rows {D : Dat} {p : Row × Rat} (hp : p ∈ D) : Span (InR (rowsOf D)) (V p.1) := .mem ⟨p.1, List.mem_map.mpr ⟨p, hp, rfl⟩, rfl⟩
/-- estimates don't depend on the solution -/
theorem swap {D : Dat} {w : Nat} {c d z z' : Vec} (h : Sol D w c z) (h' : Sol D w d z') : S w (fun k => c k * z' k) = S w (fun k => d k * z k) := by
  have e1 : S w (fun k => c k * z' k) = S w (fun i => S w (fun k => G D i k * z k * z' i)) := S_congr fun i hi => by rw [← h i hi, S_mulr]
  have e2 : S w (fun k => d k * z k) = S w (fun k => S w (fun i => G D i k * z k * z' i)) := S_congr fun k hk => by
    rw [← h' k hk, ← S_mulr]
    exact S_congr fun i _ => by rw [G_symm D k i]; grind
  rw [e1, e2, S_comm]
theorem same_est {D : Dat} {w : Nat} {c d u z z' : Vec} (hc : Sol D w c u) (h : Sol D w d z) (h' : Sol D w d z') : S w (fun k => c k * z k) = S w (fun k => c k * z' k) := by
  rw [swap hc h, swap hc h']
/-- the residual sum -/
theorem res_sum {D : Dat} {w : Nat} {b : Vec} (h : Sol D w (tt D) b) :
    T D (fun p => (p.2 - S w (fun k => V p.1 k * b k)) * (p.2 - S w (fun k => V p.1 k * b k))) = T D (fun p => p.2 * p.2) - S w (fun k => tt D k * b k) := by
  have e1 : S w (fun k => tt D k * b k) = T D (fun p => p.2 * S w (fun k => V p.1 k * b k)) := by
    unfold tt
    rw [S_congr (g := fun k => T D fun p => V p.1 k * p.2 * b k) (fun k _ => by rw [T_mulr]), ← T_S (fun (p : Row × Rat) k => V p.1 k * p.2 * b k)]
    refine T_congr fun p _ => ?_
    rw [← S_mul]
    exact S_congr fun k _ => by grind
  have e2 : S w (fun k => tt D k * b k) = T D (fun p => S w (fun k => V p.1 k * b k) * S w (fun k => V p.1 k * b k)) := by
    rw [S_congr (g := fun i => T D fun p => S w (fun k => V p.1 k * b k) * V p.1 i * b i) (fun i hi => by rw [sol_sum h hi, T_mulr]), ← T_S (fun (p : Row × Rat) i => S w (fun k => V p.1 k * b k) * V p.1 i * b i)]
    refine T_congr fun p _ => ?_
    rw [← S_mul]
    exact S_congr fun k _ => by grind
  rw [T_congr (g := fun p => (p.2 * p.2 - p.2 * S w (fun k => V p.1 k * b k)) - (p.2 * S w (fun k => V p.1 k * b k) - S w (fun k => V p.1 k * b k) * S w (fun k => V p.1 k * b k))) (fun p _ => by grind), T_sub, T_sub, T_sub, ← e1, ← e2]
  grind
theorem gram_zero {D : Dat} {w : Nat} {u : Vec} (h : ∀ j, j < w → S w (fun i => u i * G D i j) = 0) : ∀ p ∈ D, S w (fun i => u i * V p.1 i) = 0 := by
  have z : T D (fun p => S w (fun i => u i * V p.1 i) * S w (fun i => u i * V p.1 i)) = 0 := by
    have e : T D (fun p => S w (fun i => u i * V p.1 i) * S w (fun i => u i * V p.1 i)) = S w (fun j => u j * S w (fun i => u i * G D i j)) := by
      rw [T_congr (g := fun p => S w (fun j => S w (fun i => u i * V p.1 i) * (u j * V p.1 j))) (fun p _ => by rw [S_mul]), T_S (fun (p : Row × Rat) j => S w (fun i => u i * V p.1 i) * (u j * V p.1 j))]
      refine S_congr fun j _ => ?_
      rw [← S_mul]
      unfold G
      rw [T_congr (g := fun p => S w (fun i => u i * V p.1 i * (u j * V p.1 j))) (fun p _ => by rw [S_mulr]), T_S (fun (p : Row × Rat) i => u i * V p.1 i * (u j * V p.1 j))]
      refine S_congr fun i _ => ?_
      rw [← T_mul, ← T_mul]
      exact T_congr fun p _ => by grind
    rw [e]
    exact S_zero_of fun j hj => by rw [h j hj]; grind
  intro p hp
  exact sq_zero (T_zero_all (fun p _ => sq_nonneg _) z p hp)
/-! the specification's normal equations -/
def qnormal (w : Nat) (D : Dat) (c : Vec) : List Row := (List.range w).map fun i => (List.range w).map (fun j => G D i j) ++ [c i]
theorem normal_len {w : Nat} {D : Dat} {c : Vec} : ∀ r ∈ qnormal w D c, r.length = w + 1 := by
  intro r hr
  obtain ⟨i, _, rfl⟩ := List.mem_map.mp hr
  simp
theorem normal_V {w : Nat} {D : Dat} {c : Vec} {i j : Nat} : V ((List.range w).map (fun j => G D i j) ++ [c i]) j = if j < w then G D i j else if j = w then c i else 0 := by
  by_cases h : j < w
  · rw [V_lt (by simp; omega)]
    simp [h]
  · by_cases e : j = w
    · subst e
      rw [V_lt (by simp)]
      simp
    · rw [V_ge (by simp; omega)]; simp [h, e]
theorem qf_normal {w : Nat} {D : Dat} {c x : Vec} {i : Nat} : qf w x (V ((List.range w).map (fun j => G D i j) ++ [c i])) = S w (fun k => G D i k * x k) - c i := by
  unfold qf
  rw [S_congr (g := fun k => G D i k * x k) (fun k hk => by rw [normal_V]; simp [hk]), normal_V]
  simp
theorem qf_sol {w : Nat} {D : Dat} {c x : Vec} : (∀ r ∈ qnormal w D c, qf w x (V r) = 0) ↔ Sol D w c x := by
  constructor
  · intro h i hi
    have := h _ (List.mem_map.mpr ⟨i, List.mem_range.mpr hi, rfl⟩)
    rw [qf_normal] at this
    grind
  · intro h r hr
    obtain ⟨i, hi, rfl⟩ := List.mem_map.mp hr
    rw [qf_normal, h i (List.mem_range.mp hi)]
    grind
/-- in the rows' span the normal equations have a solution, and the specification finds one -/
theorem solve_sol {w : Nat} {D : Dat} {c : Vec} (hc : Span (InR (rowsOf D)) c) : Sol D w c (V (qsolve w (qnormal w D c))) := by
  rcases solve_or (w := w) (rows := qnormal w D c) normal_len with h | ⟨v, hv, h0, hn⟩
  · exact qf_sol.mp h
  · exfalso
    have s : Span (fun u => ∃ i, i < w ∧ u = (fun i => V ((List.range w).map (fun j => G D i j) ++ [c i])) i) v := hv.sub_of fun u ⟨r, hr, er⟩ => by
      obtain ⟨i, hi, rfl⟩ := List.mem_map.mp hr
      exact ⟨i, List.mem_range.mp hi, er⟩
    obtain ⟨u, e⟩ := span_comb s
    have z : ∀ j, j < w → S w (fun i => u i * G D i j) = 0 := fun j hj => by
      rw [← h0 j hj, e j]
      refine S_congr fun i _ => ?_
      show u i * G D i j = u i * V _ j
      rw [normal_V]; simp [hj]
    have zr := gram_zero z
    have zc : S w (fun i => u i * c i) = 0 := hc.kills (fun c => S w (fun i => u i * c i)) (S_zero_of fun i _ => by grind) (fun a b k => by
        show S w (fun i => u i * (a i + k * b i)) = S w (fun i => u i * a i) + k * S w (fun i => u i * b i)
        rw [← S_mul, ← S_add]
        exact S_congr fun i _ => by grind) fun x ⟨r, hr, er⟩ => by
      obtain ⟨p, hp, rfl⟩ := List.mem_map.mp hr
      rw [er]; exact zr p hp
    apply hn
    rw [e w, ← zc]
    refine S_congr fun i _ => ?_
    show u i * V _ w = u i * c i
    rw [normal_V]; simp
theorem sol_iff {w : Nat} {D : Dat} {c : Vec} (hw : Wide w D) (hc : ∀ j, w ≤ j → c j = 0) : Span (InR (rowsOf D)) c ↔ ∃ z, Sol D w c z :=
  ⟨fun h => ⟨_, solve_sol h⟩, fun ⟨_, h⟩ => sol_span hw hc h⟩
/-! the specification's words -/
theorem col_eq (rows : List Row) (j : Nat) : columnOf (mpp rows) j = mp (rows.map fun r => V r j) := by
  unfold columnOf mpp mp
  rw [List.map_map, List.map_map]
  refine List.map_congr_left fun r _ => ?_
  show (mp r).getD j ⟨0, 1⟩ = toF (V r j)
  rw [zero_eq, getD_mp]; rfl
theorem zip_T (D : Dat) (f : Row → Rat) (g : Row → Rat) : qdot ((rowsOf D).map f) ((rowsOf D).map g) = T D fun p => f p.1 * g p.1 := by
  induction D with
  | nil => rfl
  | cons p D ih =>
    show f p.1 * g p.1 + qdot ((rowsOf D).map f) ((rowsOf D).map g) = _
    rw [ih]; rfl
theorem zip_Ty (D : Dat) (f : Row → Rat) : qdot ((rowsOf D).map f) (ysOf D) = T D fun p => f p.1 * p.2 := by
  induction D with
  | nil => rfl
  | cons p D ih =>
    show f p.1 * p.2 + qdot ((rowsOf D).map f) (ysOf D) = _
    rw [ih]; rfl
theorem colcol (D : Dat) (i j : Nat) : dot (columnOf (mpp (rowsOf D)) i) (columnOf (mpp (rowsOf D)) j) = toF (G D i j) := by
  rw [col_eq, col_eq, dot_eq, zip_T]; rfl
theorem coly (D : Dat) (i : Nat) : dot (columnOf (mpp (rowsOf D)) i) (mp (ysOf D)) = toF (tt D i) := by
  rw [col_eq, dot_eq, zip_Ty]; rfl
theorem normal_eq (w : Nat) (D : Dat) (right : Row) : normal w (mpp (rowsOf D)) (mp right) = mpp (qnormal w D (V right)) := by
  unfold normal qnormal mpp
  rw [List.map_map]
  refine List.map_congr_left fun i _ => ?_
  simp only [Function.comp]
  unfold mp
  rw [List.map_append, List.map_map]
  congr 1
  · refine List.map_congr_left fun j _ => ?_
    exact colcol D i j
  · show [(mp right).getD i ⟨0, 1⟩] = _
    rw [zero_eq, getD_mp]; rfl
theorem V_map_range {w : Nat} {f : Nat → Rat} {j : Nat} : V ((List.range w).map f) j = if j < w then f j else 0 := by
  by_cases h : j < w
  · rw [V_lt (by simpa using h)]; simp [h]
  · rw [V_ge (by simp; omega)]; simp [h]
theorem moments_eq (w : Nat) (D : Dat) : ((List.range w).map fun i => dot (columnOf (mpp (rowsOf D)) i) (mp (ysOf D))) = mp ((List.range w).map (tt D)) := by
  unfold mp
  rw [List.map_map]
  refine List.map_congr_left fun i _ => coly D i
/-- a least squares solution -/
def qb (w : Nat) (D : Dat) : Row := qsolve w (qnormal w D (V ((List.range w).map (tt D))))
theorem ls_eq (w : Nat) (D : Dat) : leastSquares w (mpp (rowsOf D)) (mp (ysOf D)) = mp (qb w D) := by
  unfold leastSquares
  rw [moments_eq, normal_eq, solve_eq]; rfl
theorem sol_congr {D : Dat} {w : Nat} {c d z : Vec} (h : Sol D w c z) (e : ∀ j, j < w → c j = d j) : Sol D w d z := fun i hi => by rw [h i hi, e i hi]
theorem qb_sol {w : Nat} {D : Dat} (hw : Wide w D) : Sol D w (tt D) (V (qb w D)) := by
  have e : V ((List.range w).map (tt D)) = tt D := funext fun j => by
    rw [V_map_range]
    split
    · rfl
    · exact (tt_ge hw (by omega)).symm
  unfold qb
  rw [e]
  exact solve_sol (tt_span D)
theorem qb_len (w : Nat) (D : Dat) : (qb w D).length = w := solve_len _ _
def rss (w : Nat) (D : Dat) : Rat := T D (fun p => p.2 * p.2) - S w (fun k => tt D k * V (qb w D) k)
theorem zipWith_T (F : Row → Rat → Rat) (f : List Fraction → Fraction → Fraction) (D : Dat) (h : ∀ p ∈ D, f (mp p.1) (toF p.2) = toF (F p.1 p.2)) :
    List.zipWith f (mpp (rowsOf D)) (mp (ysOf D)) = mp (D.map fun p => F p.1 p.2) := by
  induction D with
  | nil => rfl
  | cons p D ih =>
    show f (mp p.1) (toF p.2) :: List.zipWith f (mpp (rowsOf D)) (mp (ysOf D)) = _
    rw [h p (by simp), ih fun q hq => h q (by simp [hq])]; rfl
theorem T_id (l : List A) (f : A → Rat) : T (l.map f) id = T l f := by rw [T_map]; rfl
theorem rss_eq {w : Nat} {D : Dat} (hw : Wide w D) : residualSum w (mpp (rowsOf D)) (mp (ysOf D)) = toF (rss w D) := by
  unfold residualSum
  rw [ls_eq]
  simp only []
  rw [zipWith_T (fun r v => (v - S w (fun k => V r k * V (qb w D) k)) * (v - S w (fun k => V r k * V (qb w D) k))) _ D (fun p hp => by
    rw [dot_eq, minus_eq, times_eq, qdot_S (hw p hp) (qb_len w D)]), total_eq, T_id, res_sum (qb_sol hw)]
  rfl
/-- any solution serves -/
theorem rss_any {w : Nat} {D : Dat} {b : Vec} (hw : Wide w D) (h : Sol D w (tt D) b) : rss w D = T D (fun p => p.2 * p.2) - S w (fun k => tt D k * b k) := by
  unfold rss
  rw [same_est (qb_sol hw) (qb_sol hw) h]
end LS
end
section
set_option Elab.async false
/-! Determinants of lists of rows, by the first column; Cramer's rule for rows -/
namespace DT
open LA
def sh (v : Vec) : Vec := fun j => v (j + 1)
def altsum (f : List Vec → Rat) : Rat → List Vec → List Vec → Rat
  | _, _, [] => 0
  | s, pre, r :: post => s * (r 0 * f ((pre ++ post).map sh)) + altsum f (-s) (pre ++ [r]) post
def det : Nat → List Vec → Rat
  | 0, _ => 1
  | n + 1, rows => altsum (det n) 1 [] rows
def Lin (f : List Vec → Rat) (n : Nat) : Prop := ∀ (A B : List Vec) (u v : Vec) (c : Rat), A.length + B.length + 1 = n →
  f (A ++ (fun j => u j + c * v j) :: B) = f (A ++ u :: B) + c * f (A ++ v :: B)
def Alt (f : List Vec → Rat) (n : Nat) : Prop := ∀ (A B : List Vec) (u : Vec), A.length + B.length + 2 = n → f (A ++ u :: u :: B) = 0
theorem lin_pre {f : List Vec → Rat} {n : Nat} (hf : Lin f n) (A : List Vec) (u v : Vec) (c : Rat) : ∀ (rest B : List Vec) (s : Rat), A.length + B.length + rest.length = n →
    altsum f s (A ++ (fun j => u j + c * v j) :: B) rest = altsum f s (A ++ u :: B) rest + c * altsum f s (A ++ v :: B) rest
  | [], _, _, _ => by simp only [altsum]; grind
  | r :: post, B, s, h => by
    simp only [List.length_cons] at h
    have ih := lin_pre hf A u v c post (B ++ [r]) (-s) (by simp; omega)
    have e := hf (A.map sh) ((B ++ post).map sh) (sh u) (sh v) c (by simp; omega)
    simp only [altsum]
    simp only [List.append_assoc, List.cons_append, List.map_append, List.map_cons] at ih e ⊢
    have e0 : sh (fun j => u j + c * v j) = fun j => sh u j + c * sh v j := rfl
    rw [e0, e, ih]
    grind
theorem lin_rest {f : List Vec → Rat} {n : Nat} (hf : Lin f n) (B : List Vec) (u v : Vec) (c : Rat) : ∀ (A pre : List Vec) (s : Rat), pre.length + A.length + B.length = n →
    altsum f s pre (A ++ (fun j => u j + c * v j) :: B) = altsum f s pre (A ++ u :: B) + c * altsum f s pre (A ++ v :: B)
  | [], pre, s, h => by
    have ih := lin_pre hf pre u v c B [] (-s) (by simp at h ⊢; omega)
    simp only [List.nil_append, altsum]
    rw [ih]; grind
  | a :: A, pre, s, h => by
    simp only [List.length_cons] at h
    have ih := lin_rest hf B u v c A (pre ++ [a]) (-s) (by simp; omega)
    have e := hf ((pre ++ A).map sh) (B.map sh) (sh u) (sh v) c (by simp; omega)
    simp only [List.cons_append, altsum]
    simp only [List.append_assoc, List.cons_append, List.map_append, List.map_cons] at ih e ⊢
    have e0 : sh (fun j => u j + c * v j) = fun j => sh u j + c * sh v j := rfl
    rw [e0, e, ih]
    grind
theorem det_lin : ∀ n, Lin (det n) n
  | 0 => fun A B _ _ _ h => by omega
  | n + 1 => fun A B u v c h => lin_rest (det_lin n) B u v c A [] 1 (by simp; omega)
theorem alt_pre {f : List Vec → Rat} {n : Nat} (hf : Alt f n) (A : List Vec) (u : Vec) : ∀ (rest B : List Vec) (s : Rat), A.length + B.length + rest.length + 1 = n →
    altsum f s (A ++ u :: u :: B) rest = 0
  | [], _, _, _ => by simp only [altsum]
  | r :: post, B, s, h => by
    simp only [List.length_cons] at h
    have ih := alt_pre hf A u post (B ++ [r]) (-s) (by simp; omega)
    have e := hf (A.map sh) ((B ++ post).map sh) (sh u) (by simp; omega)
    simp only [altsum]
    simp only [List.append_assoc, List.cons_append, List.map_append, List.map_cons] at ih e ⊢
    rw [e, ih]; grind
theorem alt_rest {f : List Vec → Rat} {n : Nat} (hf : Alt f n) (B : List Vec) (u : Vec) : ∀ (A pre : List Vec) (s : Rat), pre.length + A.length + B.length + 1 = n →
    altsum f s pre (A ++ u :: u :: B) = 0
  | [], pre, s, h => by
    have ih := alt_pre hf pre u B [] (- -s) (by simp at h ⊢; omega)
    simp only [List.nil_append, altsum]
    simp only [List.append_assoc, List.cons_append, List.nil_append] at ih ⊢
    rw [ih]; grind
  | a :: A, pre, s, h => by
    simp only [List.length_cons] at h
    have ih := alt_rest hf B u A (pre ++ [a]) (-s) (by simp; omega)
    have e := hf ((pre ++ A).map sh) (B.map sh) (sh u) (by simp; omega)
    simp only [List.cons_append, altsum]
    simp only [List.append_assoc, List.cons_append, List.map_append, List.map_cons] at ih e ⊢
    rw [e, ih]; grind
theorem det_alt : ∀ n, Alt (det n) n
  | 0 => fun A B _ h => by omega
  | n + 1 => fun A B u h => alt_rest (det_alt n) B u A [] 1 (by simp; omega)
theorem det_zero {n : Nat} {A B : List Vec} (h : A.length + B.length + 1 = n) : det n (A ++ (fun _ => 0) :: B) = 0 := by
  have := det_lin n A B (fun _ => 0) (fun _ => 0) 1 h
  have e : (fun (j : Nat) => (0 : Rat) + 1 * 0) = fun _ => 0 := by funext j; grind
  simp only [e] at this
  grind
theorem det_add {n : Nat} {A B : List Vec} {u v : Vec} (h : A.length + B.length + 1 = n) : det n (A ++ (fun j => u j + v j) :: B) = det n (A ++ u :: B) + det n (A ++ v :: B) := by
  have := det_lin n A B u v 1 h
  have e : (fun j => u j + 1 * v j) = fun j => u j + v j := by funext j; grind
  rw [e] at this
  rw [this]; grind
theorem det_smul {n : Nat} {A B : List Vec} {u : Vec} {c : Rat} (h : A.length + B.length + 1 = n) : det n (A ++ (fun j => c * u j) :: B) = c * det n (A ++ u :: B) := by
  have := det_lin n A B (fun _ => 0) u c h
  have e : (fun j => (0 : Rat) + c * u j) = fun j => c * u j := by funext j; grind
  rw [e, det_zero h] at this
  rw [this]; grind
theorem det_swap {n : Nat} {A B : List Vec} {u v : Vec} (h : A.length + B.length + 2 = n) : det n (A ++ u :: v :: B) = - det n (A ++ v :: u :: B) := by
  have z := det_alt n A B (fun j => u j + v j) h
  rw [det_add (v := v) (B := (fun j => u j + v j) :: B) (by simp; omega)] at z
  have e1 : A ++ u :: (fun j => u j + v j) :: B = (A ++ [u]) ++ (fun j => u j + v j) :: B := by simp
  have e2 : A ++ v :: (fun j => u j + v j) :: B = (A ++ [v]) ++ (fun j => u j + v j) :: B := by simp
  rw [e1, e2, det_add (by simp; omega), det_add (by simp; omega)] at z
  simp only [List.append_assoc, List.cons_append, List.nil_append] at z
  have a1 := det_alt n A B u h
  have a2 := det_alt n A B v h
  grind
/-- two equal rows anywhere -/
theorem det_twice {n : Nat} {C : List Vec} {u : Vec} : ∀ {B A : List Vec}, A.length + B.length + C.length + 2 = n → det n (A ++ u :: (B ++ u :: C)) = 0
  | [], A, h => det_alt n A C u (by simp at h; omega)
  | b :: B, A, h => by
    simp only [List.length_cons] at h
    rw [List.cons_append, det_swap (by simp; omega)]
    have ih := det_twice (n := n) (C := C) (u := u) (B := B) (A := A ++ [b]) (by simp; omega)
    simp only [List.append_assoc, List.cons_append, List.nil_append] at ih
    rw [ih]; grind
theorem det_mem {n : Nat} {A B : List Vec} {u : Vec} (h : A.length + B.length + 1 = n) (hu : u ∈ A ++ B) : det n (A ++ u :: B) = 0 := by
  rcases List.mem_append.mp hu with q | q
  · obtain ⟨A1, A2, rfl⟩ := List.append_of_mem q
    have := det_twice (n := n) (A := A1) (B := A2) (C := B) (u := u) (by simp at h; omega)
    simpa using this
  · obtain ⟨B1, B2, rfl⟩ := List.append_of_mem q
    exact det_twice (by simp at h; omega)
/-- a combination -/
def comb : List Rat → List Vec → Vec
  | y :: ys, r :: rs => fun j => y * r j + comb ys rs j
  | _, _ => fun _ => 0
theorem det_comb {n : Nat} {A B : List Vec} (h : A.length + B.length + 1 = n) : ∀ {ys : List Rat} {L : List Vec}, (∀ u ∈ L, u ∈ A ++ B) → det n (A ++ comb ys L :: B) = 0
  | [], _, _ => by simp only [comb]; exact det_zero h
  | _ :: _, [], _ => by simp only [comb]; exact det_zero h
  | y :: ys, r :: rs, hL => by
    simp only [comb]
    rw [det_add h, det_smul h, det_mem h (hL r (by simp)), det_comb h fun u hu => hL u (by simp [hu])]
    grind
theorem comb_mid {y : Rat} {r : Vec} {yb : List Rat} {B : List Vec} : ∀ {ya : List Rat} {A : List Vec}, ya.length = A.length → ∀ j, comb (ya ++ y :: yb) (A ++ r :: B) j = y * r j + comb (ya ++ yb) (A ++ B) j
  | [], [], _, j => rfl
  | z :: ya, a :: A, h, j => by
    have ih := comb_mid (y := y) (r := r) (yb := yb) (B := B) (ya := ya) (A := A) (by simpa using h) j
    show z * a j + comb (ya ++ y :: yb) (A ++ r :: B) j = y * r j + (z * a j + comb (ya ++ yb) (A ++ B) j)
    rw [ih]; grind
/-- Cramer's rule for rows -/
theorem cramer {n : Nat} {ya yb : List Rat} {y : Rat} {A B : List Vec} {r : Vec} (h : A.length + B.length + 1 = n) (hy : ya.length = A.length) :
    det n (A ++ comb (ya ++ y :: yb) (A ++ r :: B) :: B) = y * det n (A ++ r :: B) := by
  have e : comb (ya ++ y :: yb) (A ++ r :: B) = fun j => y * r j + comb (ya ++ yb) (A ++ B) j := funext (comb_mid hy)
  rw [e, det_add (u := fun j => y * r j) h, det_smul h, det_comb h fun u hu => hu]
  grind
/-- whole numbers -/
def IsI (q : Rat) : Prop := ∃ z : Int, q = z
theorem IsI.add {a b : Rat} (h : IsI a) (g : IsI b) : IsI (a + b) := by
  obtain ⟨x, rfl⟩ := h; obtain ⟨y, rfl⟩ := g; exact ⟨x + y, by simp⟩
theorem IsI.mul {a b : Rat} (h : IsI a) (g : IsI b) : IsI (a * b) := by
  obtain ⟨x, rfl⟩ := h; obtain ⟨y, rfl⟩ := g; exact ⟨x * y, by simp⟩
theorem IsI.neg {a : Rat} (h : IsI a) : IsI (-a) := by
  obtain ⟨x, rfl⟩ := h; exact ⟨-x, by simp⟩
theorem IsI.zero : IsI 0 := ⟨0, rfl⟩
theorem IsI.one : IsI 1 := ⟨1, rfl⟩
theorem alt_int {f : List Vec → Rat} (hf : ∀ L : List Vec, (∀ r ∈ L, ∀ j, IsI (r j)) → IsI (f L)) : ∀ (rest pre : List Vec) (s : Rat), IsI s → (∀ r ∈ pre, ∀ j, IsI (r j)) → (∀ r ∈ rest, ∀ j, IsI (r j)) → IsI (altsum f s pre rest)
  | [], _, _, _, _, _ => .zero
  | r :: post, pre, s, hs, hp, hr => by
    simp only [altsum]
    refine .add (.mul hs (.mul (hr r (by simp) 0) (hf _ fun v hv => ?_))) (alt_int hf post (pre ++ [r]) (-s) hs.neg (fun v hv => ?_) fun v hv => hr v (by simp [hv]))
    · obtain ⟨u, hu, rfl⟩ := List.mem_map.mp hv
      intro j
      rcases List.mem_append.mp hu with q | q
      · exact hp u q _
      · exact hr u (by simp [q]) _
    · rcases List.mem_append.mp hv with q | q
      · exact hp v q
      · simp at q; subst q; exact hr v (by simp)
theorem det_int : ∀ (n : Nat) (L : List Vec), (∀ r ∈ L, ∀ j, IsI (r j)) → IsI (det n L)
  | 0, _, _ => .one
  | n + 1, L, h => alt_int (det_int n) L [] 1 .one (fun r hr => by cases hr) h
/-- a first row with its lead alone -/
theorem alt_zero {n : Nat} {z : Vec} (hz : ∀ j, sh z j = 0) : ∀ (rest pre : List Vec) (s : Rat), pre.length + rest.length = n → altsum (det n) s (z :: pre) rest = 0
  | [], _, _, _ => rfl
  | r :: post, pre, s, h => by
    simp only [altsum, List.cons_append, List.map_cons]
    have e : sh z = fun _ => 0 := funext hz
    have := det_zero (n := n) (A := []) (B := (pre ++ post).map sh) (by simp at h ⊢; omega)
    rw [List.nil_append] at this
    rw [e, this, alt_zero hz post (pre ++ [r]) (-s) (by simp at h ⊢; omega)]
    grind
theorem det_first {n : Nat} {z : Vec} {L : List Vec} (hz : ∀ j, sh z j = 0) (hL : L.length = n) : det (n + 1) (z :: L) = z 0 * det n (L.map sh) := by
  show altsum (det n) 1 [] (z :: L) = _
  simp only [altsum, List.nil_append]
  rw [alt_zero hz L [] (-1) (by simpa using hL)]
  grind
/-- rows at some columns -/
def res (cs : List Nat) (v : Vec) : Vec := fun j => match cs[j]? with
  | some c => v c
  | none => 0
theorem comb_res (cs : List Nat) : ∀ (ys : List Rat) (L : List Vec), comb ys (L.map (res cs)) = res cs (comb ys L)
  | [], L => by funext j; simp only [comb, res]; cases cs[j]? <;> rfl
  | y :: ys, [] => by funext j; simp only [List.map_nil, comb, res]; cases cs[j]? <;> rfl
  | y :: ys, r :: rs => by
    funext j
    have := congrFun (comb_res cs ys rs) j
    simp only [List.map_cons, comb, this]
    simp only [res]
    cases cs[j]? with
    | none => grind
    | some c => rfl
theorem comb_smul (c : Rat) : ∀ (ys : List Rat) (L : List Vec) (j : Nat), comb (ys.map (c * ·)) L j = c * comb ys L j
  | [], L, j => by simp only [List.map_nil, comb]; grind
  | y :: ys, [], j => by simp only [List.map_cons, comb]; grind
  | y :: ys, r :: rs, j => by
    show c * y * r j + comb (ys.map (c * ·)) rs j = c * (y * r j + comb ys rs j)
    rw [comb_smul c ys rs j]; grind
theorem comb_add : ∀ (xs ys : List Rat) (L : List Vec) (j : Nat), xs.length = L.length → ys.length = L.length → comb (List.zipWith (· + ·) xs ys) L j = comb xs L j + comb ys L j
  | _, _, [], j, h, g => by
    obtain rfl := List.length_eq_zero_iff.mp h
    obtain rfl := List.length_eq_zero_iff.mp g
    show (0 : Rat) = 0 + 0; grind
  | x :: xs, y :: ys, r :: L, j, h, g => by
    show (x + y) * r j + comb (List.zipWith (· + ·) xs ys) L j = x * r j + comb xs L j + (y * r j + comb ys L j)
    rw [comb_add xs ys L j (by simpa using h) (by simpa using g)]; grind
theorem comb_int : ∀ {ys : List Rat} {L : List Vec}, (∀ y ∈ ys, IsI y) → (∀ r ∈ L, ∀ j, IsI (r j)) → ∀ j, IsI (comb ys L j)
  | [], _, _, _, _ => .zero
  | _ :: _, [], _, _, _ => .zero
  | y :: ys, r :: L, h, g, j => .add (.mul (h y (by simp)) (g r (by simp) j)) (comb_int (fun z hz => h z (by simp [hz])) (fun z hz => g z (by simp [hz])) j)
/-- a combination that is the determinant's multiple of whole numbers at the columns is one of whole factors -/
theorem whole_comb {cs : List Nat} {L : List Vec} {ys : List Rat} {b : Vec} (hL : ∀ r ∈ L, ∀ j, IsI (r j)) (hb : ∀ j, IsI (b j)) (hy : ys.length = L.length)
    (hd : det L.length (L.map (res cs)) ≠ 0) (h : ∀ j, res cs (comb ys L) j = det L.length (L.map (res cs)) * b j) : ∀ y ∈ ys, IsI y := by
  intro y hm
  obtain ⟨ya, yb, rfl⟩ := List.append_of_mem hm
  have hlen : ya.length < L.length := by simp at hy; omega
  obtain ⟨A, r, B, rfl, hA⟩ : ∃ A r B, L = A ++ r :: B ∧ A.length = ya.length := by
    refine ⟨L.take ya.length, L[ya.length], L.drop (ya.length + 1), ?_, by simp; omega⟩
    rw [← List.drop_eq_getElem_cons hlen, List.take_append_drop]
  generalize hD : det (A ++ r :: B).length ((A ++ r :: B).map (res cs)) = d at *
  have c := cramer (n := (A ++ r :: B).length) (ya := ya) (yb := yb) (y := y) (A := A.map (res cs)) (B := B.map (res cs)) (r := res cs r) (by simp; omega) (by simp [hA])
  have e : A.map (res cs) ++ res cs r :: B.map (res cs) = (A ++ r :: B).map (res cs) := by simp
  rw [e, comb_res, hD] at c
  have e2 : res cs (comb (ya ++ y :: yb) (A ++ r :: B)) = fun j => d * b j := funext h
  rw [e2, det_smul (by simp; omega)] at c
  have i : IsI (det (A ++ r :: B).length (A.map (res cs) ++ b :: B.map (res cs))) := det_int _ _ fun v hv => by
    have rr : ∀ u : Vec, (∀ j, IsI (u j)) → ∀ j, IsI (res cs u j) := fun u hu j => by
      simp only [res]
      cases cs[j]? with
      | none => exact .zero
      | some c => exact hu c
    rcases List.mem_append.mp hv with q | q
    · obtain ⟨u, hu, rfl⟩ := List.mem_map.mp q
      exact rr u (hL u (by simp [hu]))
    · rcases List.mem_cons.mp q with q | q
      · subst q; exact hb
      · obtain ⟨u, hu, rfl⟩ := List.mem_map.mp q
        exact rr u (hL u (by simp [hu]))
  have : det (A ++ r :: B).length (A.map (res cs) ++ b :: B.map (res cs)) = y := by
    have : d * (det (A ++ r :: B).length (A.map (res cs) ++ b :: B.map (res cs)) - y) = 0 := by grind
    rcases Rat.mul_eq_zero.mp this with q | q
    · exact absurd q hd
    · grind
  rw [← this]; exact i
end DT
end
section
set_option Elab.async false
/-! The program's elimination over whole numbers: every division leaves no rest -/
namespace BA
open LA DT
def cell (r : List Int) (c : Nat) : Int := r.getD c 0
def iv (r : List Int) : Vec := fun j => ((r.getD j 0 : Int) : Rat)
theorem iv_cell (r : List Int) (c : Nat) : iv r c = (cell r c : Rat) := rfl
theorem iv_int (r : List Int) (j : Nat) : IsI (iv r j) := ⟨r.getD j 0, rfl⟩
theorem iv_ge {r : List Int} {j : Nat} (h : r.length ≤ j) : iv r j = 0 := by
  unfold iv; rw [List.getD_eq_getElem?_getD, List.getElem?_eq_none h]; rfl
def sweptRow (d : Int) (pr : List Int) (c : Nat) (row : List Int) : List Int := List.zipWith (fun own other => (cell pr c * own - cell row c * other).fdiv d) row pr
structure Sw where
  table : List (List Int)
  pivots : List Nat
  divisor : Int
def place (T : List (List Int)) (k c : Nat) : Option Nat := (List.range' k (T.length - k)).find? fun p => cell (T.getD p []) c != 0
def col (s : Sw) (c : Nat) : Sw := match place s.table s.pivots.length c with
  | none => s
  | some f => ⟨((s.table.set f (s.table.getD s.pivots.length [])).map (sweptRow s.divisor (s.table.getD f []) c)).set s.pivots.length (s.table.getD f []),
      s.pivots ++ [c], cell (s.table.getD f []) c⟩
def start (A : List (List Int)) : Sw := ⟨A, [], 1⟩
def sweep (A : List (List Int)) (w : Nat) : Sw := (List.range w).foldl col (start A)
theorem place_none {T : List (List Int)} {k c : Nat} (h : place T k c = none) : ∀ i, k ≤ i → i < T.length → iv (T.getD i []) c = 0 := by
  intro i h1 h2
  unfold place at h
  rw [List.find?_eq_none] at h
  have := h i (by rw [List.mem_range']; exact ⟨i - k, by omega, by omega⟩)
  rw [iv_cell]
  have e : cell (T.getD i []) c = 0 := by simpa using this
  rw [e]; rfl
theorem place_some {T : List (List Int)} {k c f : Nat} (h : place T k c = some f) : k ≤ f ∧ f < T.length ∧ iv (T.getD f []) c ≠ 0 := by
  unfold place at h
  have h1 := List.find?_some h
  have h2 := List.mem_of_find?_eq_some h
  obtain ⟨x, hx, e⟩ := List.mem_range'.mp h2
  refine ⟨by omega, by omega, ?_⟩
  rw [iv_cell]
  intro q
  rw [Rat.intCast_eq_zero_iff] at q
  rw [q] at h1
  exact absurd h1 (by decide)
theorem row_new {T : List (List Int)} {k f i : Nat} {F : List Int → List Int} {P : List Int} (hi : i < T.length) :
    (((T.set f (T.getD k [])).map F).set k P).getD i [] = if i = k then P else F (T.getD (if i = f then k else i) []) := by
  simp only [List.getD_eq_getElem?_getD, List.getElem?_set, List.getElem?_map, List.length_map, List.length_set]
  by_cases h1 : k = i
  · subst h1; simp [hi]
  · have h1' : ¬ i = k := fun e => h1 e.symm
    simp only [h1, h1', if_false]
    by_cases h2 : f = i
    · subst h2; simp [hi]
    · have h2' : ¬ i = f := fun e => h2 e.symm
      simp [h2, h2', List.getElem?_eq_getElem hi]
theorem swept_len {d : Int} {pr : List Int} {c : Nat} {row : List Int} (h : row.length = pr.length) : (sweptRow d pr c row).length = pr.length := by
  unfold sweptRow; simp; omega
theorem swept_iv {d : Int} {pr : List Int} {c : Nat} {row : List Int} (h : row.length = pr.length) (hd : d ≠ 0)
    (hi : ∀ j, IsI ((iv pr c * iv row j - iv row c * iv pr j) / (d : Rat))) (j : Nat) : iv (sweptRow d pr c row) j = (iv pr c * iv row j - iv row c * iv pr j) / (d : Rat) := by
  have hd' : (d : Rat) ≠ 0 := by intro q; rw [Rat.intCast_eq_zero_iff] at q; exact hd q
  by_cases hj : j < row.length
  · have e : iv (sweptRow d pr c row) j = (((cell pr c * cell row j - cell row c * cell pr j).fdiv d : Int) : Rat) := by
      show (((sweptRow d pr c row).getD j 0 : Int) : Rat) = _
      have a : row[j]? = some row[j] := List.getElem?_eq_getElem hj
      have b : pr[j]? = some (pr[j]'(by omega)) := List.getElem?_eq_getElem (by omega)
      unfold sweptRow cell
      simp only [List.getD_eq_getElem?_getD, List.getElem?_zipWith, a, b, Option.getD]
    rw [e]
    obtain ⟨z, hz⟩ := hi j
    rw [hz]
    simp only [iv_cell] at hz
    have e2 : cell pr c * cell row j - cell row c * cell pr j = z * d := by
      have : ((cell pr c * cell row j - cell row c * cell pr j : Int) : Rat) = ((z * d : Int) : Rat) := by
        rw [Rat.intCast_sub, Rat.intCast_mul, Rat.intCast_mul, Rat.intCast_mul, ← hz]; grind
      exact Rat.intCast_inj.mp this
    rw [e2, Int.mul_fdiv_cancel _ hd]
  · rw [iv_ge (by rw [swept_len h]; omega), iv_ge (r := row) (j := j) (by omega), iv_ge (r := pr) (j := j) (by omega)]
    grind
def InI (T : List (List Int)) : Vec → Prop := fun u => ∃ i, i < T.length ∧ u = iv (T.getD i [])
theorem InI.int {T : List (List Int)} {r : Vec} (h : InI T r) (j : Nat) : IsI (r j) := by
  obtain ⟨i, _, rfl⟩ := h
  exact iv_int _ _
structure Core (A : List (List Int)) (s : Sw) (R : List Vec) : Prop where
  len : R.length = s.pivots.length
  int : ∀ r ∈ R, InI A r
  det : det R.length (R.map (res s.pivots.reverse)) = (s.divisor : Rat)
  low : ∀ i, i < s.pivots.length → ∃ ys : List Rat, ys.length = R.length ∧ (∀ j, iv (s.table.getD i []) j = comb ys R j)
  high : ∀ i, s.pivots.length ≤ i → i < s.table.length → ∃ (r : Vec) (ys : List Rat), InI A r ∧ ys.length = R.length ∧ ∀ j, iv (s.table.getD i []) j = s.divisor * r j + comb ys R j
structure Inv (A : List (List Int)) (L m : Nat) (s : Sw) : Prop where
  ln : s.table.length = A.length
  wd : ∀ i, i < s.table.length → (s.table.getD i []).length = L
  pk : s.pivots.length ≤ s.table.length
  pm : ∀ c ∈ s.pivots, c < m
  inc : s.pivots.Pairwise (· < ·)
  d0 : s.divisor ≠ 0
  core : ∃ R, Core A s R
  lowc : ∀ i, i < s.pivots.length → ∀ c ∈ s.pivots, iv (s.table.getD i []) c = if c = s.pivots.getD i 0 then (s.divisor : Rat) else 0
  lead : ∀ i, i < s.pivots.length → ∀ j, j < s.pivots.getD i 0 → iv (s.table.getD i []) j = 0
  zero : ∀ i, s.pivots.length ≤ i → i < s.table.length → ∀ j, j < m → iv (s.table.getD i []) j = 0
  sub : ∀ u, InI s.table u → Span (InI A) u
  sup : ∀ u, InI A u → Span (InI s.table) u
theorem inv_start {A : List (List Int)} {L : Nat} (h : ∀ r ∈ A, r.length = L) : Inv A L 0 (start A) where
  ln := rfl
  wd := fun i hi => by
    have hi' : i < A.length := hi
    show (A.getD i []).length = L
    rw [List.getD_eq_getElem?_getD, List.getElem?_eq_getElem hi']
    exact h _ (List.getElem_mem hi')
  pk := Nat.zero_le _
  pm := fun c hc => by cases hc
  inc := .nil
  d0 := by show (1 : Int) ≠ 0; decide
  core := ⟨[], rfl, (fun r hr => by cases hr), rfl, (fun i hi => by cases hi), fun i _ hi => ⟨iv (A.getD i []), [], ⟨i, hi, rfl⟩, rfl, fun j => by
    show iv (A.getD i []) j = ((1 : Int) : Rat) * iv (A.getD i []) j + 0
    have : ((1 : Int) : Rat) = 1 := rfl
    rw [this]; grind⟩⟩
  lowc := fun i hi => by cases hi
  lead := fun i hi => by cases hi
  zero := fun i _ _ j hj => by omega
  sub := fun u hu => .mem hu
  sup := fun u hu => .mem hu
theorem mixed (z a b : Rat) (r : Vec) (R : List Vec) (xs ys : List Rat) (hx : xs.length = R.length) (hy : ys.length = R.length) (j : Nat) :
    comb (z :: List.zipWith (· + ·) (xs.map (a * ·)) (ys.map (b * ·))) (r :: R) j = z * r j + (a * comb xs R j + b * comb ys R j) := by
  show z * r j + comb _ R j = _
  rw [comb_add _ _ _ _ (by simpa using hx) (by simpa using hy), comb_smul, comb_smul]
theorem inv_step {A : List (List Int)} {L m : Nat} {s : Sw} (I : Inv A L m s) : Inv A L (m + 1) (col s m) := by
  cases hp : place s.table s.pivots.length m with
  | none =>
    have e : col s m = s := by unfold col; rw [hp]
    rw [e]
    exact { I with
      pm := fun c hc => by have := I.pm c hc; omega
      zero := fun i h1 h2 j hj => by
        by_cases q : j = m
        · subst q; exact place_none hp i h1 h2
        · exact I.zero i h1 h2 j (by omega) }
  | some f =>
    obtain ⟨hkf, hfn, hpne⟩ := place_some hp
    have e : col s m = ⟨((s.table.set f (s.table.getD s.pivots.length [])).map (sweptRow s.divisor (s.table.getD f []) m)).set s.pivots.length (s.table.getD f []),
      s.pivots ++ [m], cell (s.table.getD f []) m⟩ := by unfold col; rw [hp]
    rw [e]
    obtain ⟨R, C⟩ := I.core
    have I' := I
    obtain ⟨T, pv, d⟩ := s
    simp only at *
    generalize hk : pv.length = k at *
    generalize hpr : T.getD f [] = pr at *
    have hd : (d : Rat) ≠ 0 := by intro q; rw [Rat.intCast_eq_zero_iff] at q; exact I.d0 q
    have Iz : ∀ i, k ≤ i → i < T.length → ∀ j, j < m → iv (T.getD i []) j = 0 := fun i h => I.zero i (by show pv.length ≤ i; omega)
    have Ilow : ∀ i, i < k → ∀ c ∈ pv, iv (T.getD i []) c = if c = pv.getD i 0 then (d : Rat) else 0 := fun i h => I.lowc i (by show i < pv.length; omega)
    have Ilead : ∀ i, i < k → ∀ j, j < pv.getD i 0 → iv (T.getD i []) j = 0 := fun i h => I.lead i (by show i < pv.length; omega)
    have Clow : ∀ i, i < k → ∃ ys : List Rat, ys.length = R.length ∧ (∀ j, iv (T.getD i []) j = comb ys R j) := fun i h => C.low i (by show i < pv.length; omega)
    have Chigh : ∀ i, k ≤ i → i < T.length → ∃ (r : Vec) (ys : List Rat), InI A r ∧ ys.length = R.length ∧ ∀ j, iv (T.getD i []) j = d * r j + comb ys R j := fun i h => C.high i (by show pv.length ≤ i; omega)
    have hm : m ∉ pv := fun q => by have := I.pm m q; omega
    have hprL : pr.length = L := by rw [← hpr]; exact I.wd f hfn
    have hpc : ∀ c ∈ pv, iv pr c = 0 := fun c hc => by rw [← hpr]; exact Iz f hkf hfn c (I.pm c hc)
    have hpz : ∀ c, c < m → iv pr c = 0 := fun c hc => by rw [← hpr]; exact Iz f hkf hfn c hc
    obtain ⟨r0, yf, hr0, hyf, ef⟩ := Chigh f hkf hfn
    simp only [hpr] at ef
    have hRk : R.length = k := by rw [C.len]; exact hk
    -- the new determinant
    have hrev : (pv ++ [m]).reverse = m :: pv.reverse := by simp
    have hdet : det (r0 :: R).length ((r0 :: R).map (res (pv ++ [m]).reverse)) = iv pr m := by
      rw [hrev]
      have a1 : det (R.length + 1) (res (m :: pv.reverse) (iv pr) :: R.map (res (m :: pv.reverse))) = iv pr m * det R.length ((R.map (res (m :: pv.reverse))).map sh) := by
        rw [det_first (n := R.length) (fun j => ?_) (by simp)]
        · rfl
        · show (match pv.reverse[j]? with | some c => iv pr c | none => 0) = 0
          cases q : pv.reverse[j]? with
          | none => rfl
          | some c =>
            have : c ∈ pv := by have := List.mem_of_getElem? q; simpa using this
            exact hpc c this
      have a2 : (R.map (res (m :: pv.reverse))).map sh = R.map (res pv.reverse) := by
        rw [List.map_map]; rfl
      rw [a2, C.det] at a1
      have a3 : res (m :: pv.reverse) (iv pr) = fun j => (fun j => (d : Rat) * res (m :: pv.reverse) r0 j) j + comb yf (R.map (res (m :: pv.reverse))) j := by
        funext j
        rw [comb_res]
        simp only [res]
        cases (m :: pv.reverse)[j]? with
        | none => simp only []; grind
        | some c => simp only []; exact ef c
      have a4 := det_add (n := R.length + 1) (A := []) (B := R.map (res (m :: pv.reverse))) (u := fun j => (d : Rat) * res (m :: pv.reverse) r0 j) (v := comb yf (R.map (res (m :: pv.reverse)))) (by simp)
      have a5 := det_smul (n := R.length + 1) (A := []) (B := R.map (res (m :: pv.reverse))) (u := res (m :: pv.reverse) r0) (c := (d : Rat)) (by simp)
      have a6 := det_comb (n := R.length + 1) (A := []) (B := R.map (res (m :: pv.reverse))) (by simp) (ys := yf) (L := R.map (res (m :: pv.reverse))) (fun u hu => by simpa using hu)
      simp only [List.nil_append] at a4 a5 a6
      rw [a3, a4, a5, a6] at a1
      show det (R.length + 1) (res (m :: pv.reverse) r0 :: R.map (res (m :: pv.reverse))) = iv pr m
      have : (d : Rat) * (det (R.length + 1) (res (m :: pv.reverse) r0 :: R.map (res (m :: pv.reverse))) - iv pr m) = 0 := by grind
      rcases Rat.mul_eq_zero.mp this with q | q
      · exact absurd q hd
      · grind
    have hint : ∀ r ∈ r0 :: R, ∀ j, IsI (r j) := fun r hr j => by
      rcases List.mem_cons.mp hr with q | q
      · rw [q]; exact hr0.int j
      · exact (C.int r q).int j
    -- the whole factors
    have whole : ∀ (ws : List Rat) (b : Vec), ws.length = (r0 :: R).length → (∀ j, IsI (b j)) → (∀ c ∈ pv ++ [m], comb ws (r0 :: R) c = iv pr m * b c) → ∀ j, IsI (comb ws (r0 :: R) j) := by
      intro ws b hw hb h
      refine comb_int (whole_comb (cs := (pv ++ [m]).reverse) (b := res (pv ++ [m]).reverse b) hint (fun j => ?_) hw (by rw [hdet]; exact hpne) fun j => ?_) hint
      · simp only [res]
        cases (pv ++ [m]).reverse[j]? with
        | none => exact .zero
        | some c => exact hb c
      · rw [hdet]
        simp only [res]
        cases q : (pv ++ [m]).reverse[j]? with
        | none => simp only []; grind
        | some c =>
          have : c ∈ pv ++ [m] := by have := List.mem_of_getElem? q; rw [List.mem_reverse] at this; exact this
          exact h c this
    -- the swept rows, by their old places
    have old : ∀ o, o < T.length → o ≠ f → (T.getD o []).length = pr.length ∧ ∃ (t : Rat) (ws : List Rat), ws.length = (r0 :: R).length ∧
        (∀ j, iv (sweptRow d pr m (T.getD o [])) j = (iv pr m * iv (T.getD o []) j - iv (T.getD o []) m * iv pr j) / (d : Rat)) ∧
        ((o < k ∧ ∀ j, iv (sweptRow d pr m (T.getD o [])) j = comb ws (r0 :: R) j) ∨ (k ≤ o ∧ ∃ r : Vec, InI A r ∧ ∀ j, iv (sweptRow d pr m (T.getD o [])) j = iv pr m * r j + comb ws (r0 :: R) j)) := by
      intro o ho hof
      have hl : (T.getD o []).length = pr.length := by rw [I.wd o ho, hprL]
      refine ⟨hl, 0, ?_⟩
      generalize hrow : T.getD o [] = row at *
      generalize hx : iv row m = x
      by_cases hok : o < k
      · obtain ⟨ys, hys, ey⟩ := Clow o hok
        simp only [hrow] at ey
        have cc : ∀ c ∈ pv, iv row c = if c = pv.getD o 0 then (d : Rat) else 0 := fun c hc => by rw [← hrow]; exact Ilow o hok c hc
        let ws := (-x) :: List.zipWith (· + ·) (ys.map (iv pr m / d * ·)) (yf.map (-x / d * ·))
        have hws : ws.length = (r0 :: R).length := by simp [ws, hys, hyf]
        have ew : ∀ j, comb ws (r0 :: R) j = (iv pr m * iv row j - x * iv pr j) / (d : Rat) := fun j => by
          rw [mixed _ _ _ _ _ _ _ hys hyf, ey j, ef j]; grind
        have hi := whole ws (fun c => if c = pv.getD o 0 then 1 else 0) hws (fun j => by split; exact .one; exact .zero) fun c hc => by
          rw [ew c]
          rcases List.mem_append.mp hc with q | q
          · rw [hpc c q, cc c q]
            split <;> grind
          · simp at q; subst q
            have : c ≠ pv.getD o 0 := fun q => hm (by
              rw [q, List.getD_eq_getElem?_getD, List.getElem?_eq_getElem (by omega)]
              exact List.getElem_mem _)
            rw [if_neg this, hx]; grind
        have es := swept_iv (d := d) (pr := pr) (c := m) (row := row) hl I.d0 (fun j => by rw [hx, ← ew j]; exact hi j)
        rw [hx] at es
        exact ⟨ws, hws, es, .inl ⟨hok, fun j => by rw [es j, ew j]⟩⟩
      · obtain ⟨r, ys, hr, hys, ey⟩ := Chigh o (by omega) ho
        simp only [hrow] at ey
        have cc : ∀ c ∈ pv, iv row c = 0 := fun c hc => by rw [← hrow]; exact Iz o (by omega) ho c (I.pm c hc)
        let ws := (-x) :: List.zipWith (· + ·) (ys.map (iv pr m / d * ·)) (yf.map (-x / d * ·))
        have hws : ws.length = (r0 :: R).length := by simp [ws, hys, hyf]
        have ew : ∀ j, iv pr m * r j + comb ws (r0 :: R) j = (iv pr m * iv row j - x * iv pr j) / (d : Rat) := fun j => by
          rw [mixed _ _ _ _ _ _ _ hys hyf, ey j, ef j]; grind
        have hi := whole ws (fun c => - r c) hws (fun j => (hr.int j).neg) fun c hc => by
          have := ew c
          rcases List.mem_append.mp hc with q | q
          · rw [hpc c q, cc c q] at this; grind
          · simp at q; subst q
            rw [hx] at this; grind
        have es := swept_iv (d := d) (pr := pr) (c := m) (row := row) hl I.d0 (fun j => by
          rw [hx, ← ew j]; exact .add (.mul (iv_int _ _) (hr.int j)) (hi j))
        rw [hx] at es
        exact ⟨ws, hws, es, .inr ⟨by omega, r, hr, fun j => by rw [es j, ew j]⟩⟩
    -- the new table by its places
    have hkn : k < T.length := by omega
    have newrow : ∀ i, i < T.length → i ≠ k → ∃ o, o < T.length ∧ o ≠ f ∧ (k < i → k ≤ o) ∧ (i < k → o = i) ∧
        (((T.set f (T.getD k [])).map (sweptRow d pr m)).set k pr).getD i [] = sweptRow d pr m (T.getD o []) := by
      intro i hi hik
      by_cases q : i = f
      · refine ⟨k, hkn, fun z => ?_, fun _ => Nat.le_refl _, fun z => by omega, ?_⟩
        · omega
        · rw [row_new hi, if_neg hik, if_pos q]
      · refine ⟨i, hi, q, fun z => by omega, fun _ => rfl, ?_⟩
        rw [row_new hi, if_neg hik, if_neg q]
    have newk : (((T.set f (T.getD k [])).map (sweptRow d pr m)).set k pr).getD k [] = pr := by
      rw [row_new hkn, if_pos rfl]
    generalize hT : ((T.set f (T.getD k [])).map (sweptRow d pr m)).set k pr = T' at *
    have hTl : T'.length = T.length := by rw [← hT]; simp
    have hpl : (pv ++ [m]).length = k + 1 := by simp [hk]
    have getk : (pv ++ [m]).getD k 0 = m := by
      rw [List.getD_eq_getElem?_getD, List.getElem?_append_right (by omega)]; simp [hk]
    have getlow : ∀ i, i < k → (pv ++ [m]).getD i 0 = pv.getD i 0 := fun i hi => by
      rw [List.getD_eq_getElem?_getD, List.getElem?_append_left (by omega), ← List.getD_eq_getElem?_getD]
    have lowmem : ∀ i, i < k → pv.getD i 0 ∈ pv := fun i hi => by
      rw [List.getD_eq_getElem?_getD, List.getElem?_eq_getElem (by omega)]; exact List.getElem_mem _
    refine ⟨?_, ?_, ?_, ?_, ?_, ?_, ⟨r0 :: R, ?_, fun r hr => by
      rcases List.mem_cons.mp hr with q | q
      · rw [q]; exact hr0
      · exact C.int r q, hdet, ?_, ?_⟩, ?_, ?_, ?_, ?_, ?_⟩
    · simp only []; rw [hTl]; exact I.ln
    · intro i hi
      simp only [] at hi ⊢
      rw [hTl] at hi
      by_cases q : i = k
      · rw [q, newk]; exact hprL
      · obtain ⟨o, ho, hof, _, _, eo⟩ := newrow i hi q
        rw [eo, swept_len (old o ho hof).1, hprL]
    · simp only [hpl, hTl]; omega
    · intro c hc
      rcases List.mem_append.mp hc with q | q
      · have := I.pm c q; omega
      · simp at q; omega
    · exact List.pairwise_append.mpr ⟨I.inc, by simp, fun a ha b hb => by simp at hb; subst hb; exact I.pm a ha⟩
    · simp only []
      intro q
      exact hpne (by rw [iv_cell, q]; rfl)
    · simp [hRk, hk]
    · intro i hi
      simp only [hpl] at hi ⊢
      by_cases q : i = k
      · rw [q, newk]
        refine ⟨(d : Rat) :: yf, by simp [hyf], fun j => ?_⟩
        rw [ef j]; rfl
      · obtain ⟨o, ho, hof, _, ho2, eo⟩ := newrow i (by omega) q
        have oi := ho2 (by omega)
        subst oi
        obtain ⟨_, _, ws, hws, _, h⟩ := old o ho hof
        rcases h with h | h
        · exact ⟨ws, hws, fun j => by rw [eo]; exact h.2 j⟩
        · omega
    · intro i hi hi2
      simp only [hpl, hTl] at hi hi2 ⊢
      obtain ⟨o, ho, hof, ho1, _, eo⟩ := newrow i hi2 (by omega)
      have := ho1 (by omega)
      obtain ⟨_, _, ws, hws, _, h⟩ := old o ho hof
      rcases h with h | ⟨_, r, hr, h⟩
      · omega
      · exact ⟨r, ws, hr, hws, fun j => by rw [eo]; exact h j⟩
    · intro i hi c hc
      simp only [hpl] at hi hc ⊢
      by_cases q : i = k
      · subst q
        rw [newk, getk]
        rcases List.mem_append.mp hc with p | p
        · rw [hpc c p, if_neg]; intro z; subst z; exact hm p
        · simp at p; subst p; rw [if_pos rfl]; rfl
      · obtain ⟨o, ho, hof, _, ho2, eo⟩ := newrow i (by omega) q
        have oi := ho2 (by omega)
        subst oi
        obtain ⟨_, _, ws, hws, es, _⟩ := old o ho hof
        rw [eo, es c, getlow o (by omega)]
        rcases List.mem_append.mp hc with p | p
        · rw [hpc c p, Ilow o (by omega) c p]
          split
          · rw [iv_cell]; grind
          · grind
        · simp at p; subst p
          rw [if_neg]
          · grind
          · intro z; exact hm (by rw [z]; exact lowmem o (by omega))
    · intro i hi j hj
      simp only [hpl] at hi hj ⊢
      by_cases q : i = k
      · subst q
        rw [getk] at hj
        rw [newk]; exact hpz j hj
      · obtain ⟨o, ho, hof, _, ho2, eo⟩ := newrow i (by omega) q
        have oi := ho2 (by omega)
        subst oi
        rw [getlow o (by omega)] at hj
        obtain ⟨_, _, ws, hws, es, _⟩ := old o ho hof
        have := I.pm _ (lowmem o (by omega))
        rw [eo, es j, Ilead o (by omega) j hj, hpz j (by omega)]
        grind
    · intro i hi hi2 j hj
      simp only [hpl, hTl] at hi hi2 ⊢
      obtain ⟨o, ho, hof, ho1, _, eo⟩ := newrow i hi2 (by omega)
      have hko := ho1 (by omega)
      obtain ⟨_, _, ws, hws, es, _⟩ := old o ho hof
      rw [eo, es j]
      by_cases q : j = m
      · subst q; grind
      · rw [Iz o hko ho j (by omega), hpz j (by omega)]; grind
    · rintro u ⟨i, hi, rfl⟩
      simp only [hTl] at hi ⊢
      have sf : Span (InI A) (iv pr) := I.sub _ ⟨f, hfn, by rw [hpr]⟩
      by_cases q : i = k
      · rw [q, newk]; exact sf
      · obtain ⟨o, ho, hof, _, _, eo⟩ := newrow i hi q
        obtain ⟨_, _, ws, hws, es, _⟩ := old o ho hof
        have so : Span (InI A) (iv (T.getD o [])) := I.sub _ ⟨o, ho, rfl⟩
        rw [eo]
        exact ((so.smul (iv pr m / d)).add (sf.smul (-(iv (T.getD o []) m) / d))).of_eq fun j => by rw [es j]; grind
    · intro u hu
      refine (I.sup u hu).mono ?_
      rintro v ⟨o, ho, rfl⟩
      simp only [] at ho ⊢
      have sk : Span (InI T') (iv pr) := .mem ⟨k, by rw [hTl]; exact hkn, by rw [newk]⟩
      by_cases q : o = f
      · rw [q, hpr]; exact sk
      · obtain ⟨_, _, ws, hws, es, _⟩ := old o ho q
        have sn : Span (InI T') (iv (sweptRow d pr m (T.getD o []))) := by
          by_cases p : o = k
          · refine .mem ⟨f, by rw [hTl]; exact hfn, ?_⟩
            rw [← hT, row_new hfn, if_neg (by omega), if_pos rfl, p]
          · refine .mem ⟨o, by rw [hTl]; exact ho, ?_⟩
            rw [← hT, row_new ho, if_neg p, if_neg q]
        exact ((sn.smul (d / iv pr m)).add (sk.smul (iv (T.getD o []) m / iv pr m))).of_eq fun j => by rw [es j]; grind
theorem inv_fold {A : List (List Int)} {L : Nat} (h : ∀ r ∈ A, r.length = L) : ∀ w, Inv A L w (sweep A w)
  | 0 => inv_start h
  | w + 1 => by
    have e : sweep A (w + 1) = col (sweep A w) w := by
      unfold sweep
      rw [List.range_succ, List.foldl_append]; rfl
    rw [e]
    exact inv_step (inv_fold h w)
end BA
end
section
set_option Elab.async false
/-! The specification's model, by its data -/
namespace MD
open Kxd4 LA SP EC LS
open BA (iv)
def ir (l : List Int) : Row := l.map fun (z : Int) => (z : Rat)
theorem V_ir (l : List Int) : V (ir l) = iv l := by
  funext j
  unfold V ir
  show _ = ((l.getD j 0 : Int) : Rat)
  simp only [List.getD_eq_getElem?_getD, List.getElem?_map]
  cases l[j]? <;> rfl
theorem ir_len (l : List Int) : (ir l).length = l.length := by simp [ir]
theorem fr_eq (l : List Int) : fractions l = mp (ir l) := by
  unfold fractions mp ir
  rw [List.map_map]; rfl
def dat (l : List Observation) : Dat := l.map fun o => (ir o.row, (o.response : Rat))
theorem design_eq (m : Model) : design m = mpp (rowsOf (dat m.data)) := by
  unfold design mpp rowsOf dat
  rw [List.map_map, List.map_map]
  exact List.map_congr_left fun o _ => fr_eq o.row
theorem resp_eq (m : Model) : responses m = mp (ysOf (dat m.data)) := by
  unfold responses mp ysOf dat
  rw [List.map_map, List.map_map]; rfl
structure WF (m : Model) : Prop where
  len : ∀ o ∈ m.data, o.row.length = m.columns
theorem WF.wide {m : Model} (h : WF m) : Wide m.columns (dat m.data) := fun p hp => by
  obtain ⟨o, ho, rfl⟩ := List.mem_map.mp hp
  show (ir o.row).length = _
  rw [ir_len, h.len o ho]
theorem rows_len {w : Nat} {D : Dat} (h : Wide w D) : ∀ r ∈ rowsOf D, r.length = w := fun r hr => by
  obtain ⟨p, hp, rfl⟩ := List.mem_map.mp hr
  exact h p hp
/-- estimable -/
def Est (D : Dat) (c : Vec) : Prop := Span (InR (rowsOf D)) c
theorem rank_q (m : Model) : Kxd4.rank m = qrank (rowsOf (dat m.data)) := by
  unfold Kxd4.rank
  rw [design_eq, rank_eq]
theorem est_iff {m : Model} (h : WF m) {c : List Int} (hc : c.length = m.columns) : isEstimable m (fractions c) = true ↔ Est (dat m.data) (iv c) := by
  unfold isEstimable Kxd4.rank
  have e : design m ++ [fractions c] = mpp (rowsOf (dat m.data) ++ [ir c]) := by
    rw [design_eq, fr_eq]; simp [mpp]
  rw [e, design_eq, rank_eq, rank_eq]
  have := rank_more (w := m.columns) (rows := rowsOf (dat m.data)) (c := ir c) (rows_len h.wide) (by rw [ir_len, hc])
  rw [this, V_ir]; rfl
theorem solution_eq (m : Model) : solution m = mp (qb m.columns (dat m.data)) := by
  unfold solution
  rw [design_eq, resp_eq, ls_eq]
theorem dot_S {w : Nat} {c : List Int} {b : Row} (hc : c.length = w) (hb : b.length = w) : dot (fractions c) (mp b) = toF (S w fun k => iv c k * V b k) := by
  rw [fr_eq, dot_eq, qdot_S (by rw [ir_len, hc]) hb, V_ir]
/-- the estimate, by any solution -/
theorem estimate_eq {m : Model} (h : WF m) {c : List Int} (hc : c.length = m.columns) (he : Est (dat m.data) (iv c)) {b : Vec} (hb : Sol (dat m.data) m.columns (tt (dat m.data)) b) :
    dot (fractions c) (solution m) = toF (S m.columns fun k => iv c k * b k) := by
  rw [solution_eq, dot_S hc (qb_len _ _)]
  have : Sol (dat m.data) m.columns (iv c) (V (qsolve m.columns (qnormal m.columns (dat m.data) (iv c)))) := solve_sol he
  rw [same_est this (qb_sol h.wide) hb]
theorem cov_eq {m : Model} {c d : List Int} (hc : c.length = m.columns) (hec : Est (dat m.data) (iv c)) (hed : Est (dat m.data) (iv d))
    {z : Vec} (hz : Sol (dat m.data) m.columns (iv d) z) : Kxd4.covariance m (fractions c) (fractions d) = toF (S m.columns fun k => iv c k * z k) := by
  unfold Kxd4.covariance
  rw [design_eq, fr_eq d, normal_eq, solve_eq, dot_S hc (solve_len _ _)]
  have h1 : Sol (dat m.data) m.columns (iv d) (V (qsolve m.columns (qnormal m.columns (dat m.data) (V (ir d))))) := by rw [V_ir]; exact solve_sol hed
  have h2 : Sol (dat m.data) m.columns (iv c) (V (qsolve m.columns (qnormal m.columns (dat m.data) (iv c)))) := solve_sol hec
  rw [same_est h2 h1 hz]
theorem resid_eq {m : Model} (h : WF m) : residualOf m = toF (rss m.columns (dat m.data)) := by
  unfold residualOf
  rw [design_eq, resp_eq, rss_eq h.wide]
theorem row_est {m : Model} {o : Observation} (ho : o ∈ m.data) : Est (dat m.data) (iv o.row) := by
  have := in_rows (D := dat m.data) (p := (ir o.row, (o.response : Rat))) (List.mem_map.mpr ⟨o, ho, rfl⟩)
  rw [V_ir] at this; exact this
/-- enough vectors for the span: where the rank is that of all columns, every vector is estimable -/
theorem fields_eq (q : Rat) : fields (toF q) = [q.num, (q.den : Int)] := rfl
end MD
end
section
set_option Elab.async false
/-! What the program's elimination answers: rank, a solution or none -/
namespace SV
open LA DT BA SP EC LS MD
def numers (T : List (List Int)) (pv : List Nat) (w : Nat) : List Int := (List.range pv.length).foldl (fun acc i => acc.set (pv.getD i 0) (cell (T.getD i []) w)) (List.replicate w 0)
def ext (M : List (List Int)) (t : List Int) : List (List Int) := List.zipWith (fun row v => row ++ [v]) M t
def solved (M : List (List Int)) (t : List Int) : Option (List Int × Int) :=
  let s := sweep (ext M t) t.length
  if (s.table.drop s.pivots.length).any (fun row => cell row t.length != 0) then none
  else some (numers s.table s.pivots t.length, s.divisor)
def rankI (M : List (List Int)) (w : Nat) : Nat := (sweep M w).pivots.length
structure Prods (M : List (List Int)) (w : Nat) (D : Dat) : Prop where
  len : M.length = w
  wd : ∀ r ∈ M, r.length = w
  val : ∀ i j, i < w → j < w → iv (M.getD i []) j = G D i j
theorem getD_lt {A : Type} {l : List A} {i : Nat} {d : A} (h : i < l.length) : l.getD i d = l[i] := by
  rw [List.getD_eq_getElem?_getD, List.getElem?_eq_getElem h]; rfl
theorem getD_in {A : Type} {l : List A} {i : Nat} {d : A} (h : i < l.length) : l.getD i d ∈ l := by
  rw [getD_lt h]; exact List.getElem_mem _
theorem numers_go {T : List (List Int)} {pv : List Nat} {w : Nat} (hp : pv.Pairwise (· < ·)) (hw : ∀ c ∈ pv, c < w) : ∀ n, n ≤ pv.length →
    let l := (List.range n).foldl (fun acc i => acc.set (pv.getD i 0) (cell (T.getD i []) w)) (List.replicate w 0)
    l.length = w ∧ (∀ i, i < n → l.getD (pv.getD i 0) 0 = cell (T.getD i []) w) ∧ ∀ j, (∀ i, i < n → pv.getD i 0 ≠ j) → l.getD j 0 = 0
  | 0, _ => by
    refine ⟨by simp, fun i hi => by omega, fun j _ => ?_⟩
    simp only [List.range_zero, List.foldl_nil, List.getD_eq_getElem?_getD, List.getElem?_replicate]
    split <;> rfl
  | n + 1, h => by
    obtain ⟨a, b, c⟩ := numers_go (T := T) hp hw n (by omega)
    rw [List.range_succ, List.foldl_append]
    simp only [List.foldl_cons, List.foldl_nil]
    generalize (List.range n).foldl (fun acc i => acc.set (pv.getD i 0) (cell (T.getD i []) w)) (List.replicate w 0) = l at *
    have hn : pv.getD n 0 < w := hw _ (getD_in (by omega))
    refine ⟨by simpa using a, fun i hi => ?_, fun j hj => ?_⟩
    · rw [List.getD_eq_getElem?_getD, List.getElem?_set]
      by_cases q : i = n
      · subst q; rw [if_pos rfl, if_pos (by omega)]; rfl
      · have ne : pv.getD n 0 ≠ pv.getD i 0 := by
          have h1 : i < n := by omega
          have := List.pairwise_iff_getElem.mp hp i n (by omega) (by omega) h1
          rw [getD_lt (by omega), getD_lt (by omega)]
          omega
        rw [if_neg ne, ← List.getD_eq_getElem?_getD]
        exact b i (by omega)
    · rw [List.getD_eq_getElem?_getD, List.getElem?_set, if_neg (hj n (by omega)), ← List.getD_eq_getElem?_getD]
      exact c j fun i hi => hj i (by omega)
theorem numers_ok {T : List (List Int)} {pv : List Nat} {w : Nat} (hp : pv.Pairwise (· < ·)) (hw : ∀ c ∈ pv, c < w) :
    (numers T pv w).length = w ∧ (∀ i, i < pv.length → (numers T pv w).getD (pv.getD i 0) 0 = cell (T.getD i []) w) ∧ ∀ j, j ∉ pv → (numers T pv w).getD j 0 = 0 := by
  obtain ⟨a, b, c⟩ := numers_go (T := T) hp hw pv.length (Nat.le_refl _)
  refine ⟨a, b, fun j hj => c j fun i hi e => hj ?_⟩
  rw [← e]
  exact getD_in hi
theorem ext_len {M : List (List Int)} {t : List Int} {w : Nat} (h : ∀ r ∈ M, r.length = w) : ∀ r ∈ ext M t, r.length = w + 1 := by
  intro r hr
  unfold ext at hr
  obtain ⟨i, hi, rfl⟩ := List.mem_iff_getElem.mp hr
  rw [List.getElem_zipWith]
  simp [h _ (List.getElem_mem _)]
theorem ext_V {M : List (List Int)} {t : List Int} {w : Nat} {D : Dat} (P : Prods M w D) (ht : t.length = w) {i : Nat} (hi : i < w) (x : Vec) :
    qf w x (iv ((ext M t).getD i [])) = S w (fun k => G D i k * x k) - iv t i := by
  have hM : i < M.length := by rw [P.len]; exact hi
  have e : (ext M t).getD i [] = M.getD i [] ++ [t.getD i 0] := by
    unfold ext
    rw [List.getD_eq_getElem?_getD, List.getElem?_zipWith, List.getElem?_eq_getElem hM, List.getElem?_eq_getElem (by omega), getD_lt hM, getD_lt (by omega)]
    rfl
  have hl : (M.getD i []).length = w := P.wd _ (getD_in hM)
  have e1 : ∀ j, j < w → iv (M.getD i [] ++ [t.getD i 0]) j = G D i j := fun j hj => by
    rw [← P.val i j hi hj]
    show (((M.getD i [] ++ [t.getD i 0]).getD j 0 : Int) : Rat) = _
    rw [List.getD_eq_getElem?_getD, List.getElem?_append_left (by omega), ← List.getD_eq_getElem?_getD]; rfl
  have e2 : iv (M.getD i [] ++ [t.getD i 0]) w = iv t i := by
    show (((M.getD i [] ++ [t.getD i 0]).getD w 0 : Int) : Rat) = _
    have : (M.getD i [] ++ [t.getD i 0]).getD w 0 = t.getD i 0 := by
      rw [List.getD_eq_getElem?_getD, List.getElem?_append_right (by omega), hl]; simp
    rw [this]; rfl
  unfold qf
  rw [e, e2, S_congr (g := fun k => G D i k * x k) fun k hk => by rw [e1 k hk]]
theorem ext_sol {M : List (List Int)} {t : List Int} {w : Nat} {D : Dat} (P : Prods M w D) (ht : t.length = w) {x : Vec} :
    (∀ u, InI (ext M t) u → qf w x u = 0) ↔ Sol D w (iv t) x := by
  have hl : (ext M t).length = w := by unfold ext; simp [P.len, ht]
  constructor
  · intro h i hi
    have := h _ ⟨i, by omega, rfl⟩
    rw [ext_V P ht hi] at this
    grind
  · rintro h u ⟨i, hi, rfl⟩
    rw [ext_V P ht (by omega), h i (by omega)]; grind
theorem solved_noneG {M : List (List Int)} {t : List Int} {w : Nat} (hr : ∀ r ∈ M, r.length = w) (ht : t.length = w) (h : solved M t = none) : ∀ z, ¬ ∀ u, InI (ext M t) u → qf w z u = 0 := by
  intro z hz
  have I := inv_fold (ext_len (t := t) hr) w
  unfold solved at h
  rw [ht] at h
  simp only [] at h
  split at h
  · rename_i c
    obtain ⟨row, hrow, hne⟩ := List.any_eq_true.mp c
    obtain ⟨i, hi, rfl⟩ := List.mem_iff_getElem.mp hrow
    rw [List.getElem_drop] at hne
    have hk : (sweep (ext M t) w).pivots.length + i < (sweep (ext M t) w).table.length := by simp at hi; omega
    rw [← getD_lt (d := []) hk] at hne
    have s := (I.sub _ ⟨_, hk, rfl⟩).kills (qf w z) (qf_zero w z) (qf_lin w z) hz
    unfold qf at s
    rw [S_zero_of fun j hj => by rw [I.zero _ (by omega) hk j hj]; grind, iv_cell] at s
    have s2 : ((cell ((sweep (ext M t) w).table.getD ((sweep (ext M t) w).pivots.length + i) []) w : Int) : Rat) = 0 := by grind
    rw [Rat.intCast_eq_zero_iff] at s2
    rw [s2] at hne
    exact absurd hne (by decide)
  · cases h
theorem solved_none {M : List (List Int)} {t : List Int} {w : Nat} {D : Dat} (P : Prods M w D) (ht : t.length = w) (h : solved M t = none) : ∀ z, ¬ Sol D w (iv t) z :=
  fun z hz => solved_noneG P.wd ht h z ((ext_sol P ht).mpr hz)
theorem solved_someG {M : List (List Int)} {t nums : List Int} {d : Int} {w : Nat} (hr : ∀ r ∈ M, r.length = w) (ht : t.length = w) (h : solved M t = some (nums, d)) :
    d ≠ 0 ∧ nums.length = w ∧ ∀ u, InI (ext M t) u → qf w (fun j => iv nums j / (d : Rat)) u = 0 := by
  have I := inv_fold (ext_len (t := t) hr) w
  unfold solved at h
  rw [ht] at h
  simp only [] at h
  split at h
  · cases h
  · rename_i c
    obtain ⟨rfl, rfl⟩ := Prod.mk.inj (Option.some.inj h)
    generalize sweep (ext M t) w = s at *
    obtain ⟨a, b, z⟩ := numers_ok (T := s.table) I.inc I.pm
    have hd : (s.divisor : Rat) ≠ 0 := by intro q; rw [Rat.intCast_eq_zero_iff] at q; exact I.d0 q
    refine ⟨I.d0, a, fun u hu => (I.sup u hu).kills _ (qf_zero w _) (qf_lin w _) ?_⟩
    rintro v ⟨i, hi, rfl⟩
    unfold qf
    by_cases hk : i < s.pivots.length
    · have pm : s.pivots.getD i 0 ∈ s.pivots := getD_in hk
      rw [S_single (k := s.pivots.getD i 0) (I.pm _ pm) fun j hj ne => ?_]
      · rw [I.lowc i hk _ pm, if_pos rfl]
        have : iv (numers s.table s.pivots w) (s.pivots.getD i 0) = iv (s.table.getD i []) w := by
          show ((numers s.table s.pivots w).getD (s.pivots.getD i 0) 0 : Rat) = _
          rw [b i hk]; rfl
        simp only []
        rw [this]; grind
      · by_cases q : j ∈ s.pivots
        · rw [I.lowc i hk _ q, if_neg ne]; grind
        · have : iv (numers s.table s.pivots w) j = 0 := by
            show ((numers s.table s.pivots w).getD j 0 : Rat) = _
            rw [z j q]; rfl
          simp only []
          rw [this]; grind
    · rw [S_zero_of fun j hj => by rw [I.zero i (by omega) hi j hj]; grind]
      have : iv (s.table.getD i []) w = 0 := by
        rw [iv_cell, Rat.intCast_eq_zero_iff]
        have c2 : ¬ (s.table.drop s.pivots.length).any (fun row => cell row w != 0) = true := c
        rw [List.any_eq_true] at c2
        have c3 := fun h => c2 ⟨s.table.getD i [], h⟩
        refine Classical.byContradiction fun ne => c3 ⟨?_, by simpa using ne⟩
        rw [getD_lt hi]
        refine List.mem_iff_getElem.mpr ⟨i - s.pivots.length, by simp; omega, ?_⟩
        rw [List.getElem_drop]
        congr 1; omega
      rw [this]; grind
theorem solved_some {M : List (List Int)} {t nums : List Int} {d : Int} {w : Nat} {D : Dat} (P : Prods M w D) (ht : t.length = w) (h : solved M t = some (nums, d)) :
    d ≠ 0 ∧ nums.length = w ∧ Sol D w (iv t) (fun j => iv nums j / (d : Rat)) := by
  obtain ⟨h1, h2, h3⟩ := solved_someG P.wd ht h
  exact ⟨h1, h2, (ext_sol P ht).mp h3⟩
theorem solved_iff {M : List (List Int)} {t : List Int} {w : Nat} {D : Dat} (P : Prods M w D) (ht : t.length = w) : (∃ z, Sol D w (iv t) z) ↔ ∃ p, solved M t = some p := by
  constructor
  · rintro ⟨z, hz⟩
    cases h : solved M t with
    | none => exact absurd hz (solved_none P ht h z)
    | some p => exact ⟨p, rfl⟩
  · rintro ⟨⟨nums, d⟩, h⟩
    exact ⟨_, (solved_some P ht h).2.2⟩
/-- the normal equations' rank is the rows' -/
theorem rank_ok {M : List (List Int)} {w : Nat} {D : Dat} (hw : Wide w D) (P : Prods M w D) : rankI M w = qrank (rowsOf D) := by
  have I := inv_fold P.wd w
  unfold rankI
  generalize sweep M w = s at *
  let B : List (Nat × Vec) := (List.range s.pivots.length).map fun i => (s.pivots.getD i 0, iv (s.table.getD i []))
  have hB : IsB B := by
    refine ⟨fun p hp => ?_, ?_⟩
    · obtain ⟨i, hi, rfl⟩ := List.mem_map.mp hp
      have hi := List.mem_range.mp hi
      have pm : s.pivots.getD i 0 ∈ s.pivots := getD_in hi
      refine ⟨?_, I.lead i hi⟩
      show iv (s.table.getD i []) (s.pivots.getD i 0) ≠ 0
      rw [I.lowc i hi _ pm, if_pos rfl]
      intro q; rw [Rat.intCast_eq_zero_iff] at q; exact I.d0 q
    · have : B.map (·.1) = s.pivots := by
        simp only [B, List.map_map]
        refine List.ext_getElem (by simp) fun i h1 h2 => ?_
        simp [List.getElem?_eq_getElem h2]
      rw [this]
      exact I.inc.imp fun h => by omega
  have lenB : B.length = s.pivots.length := by simp [B]
  have zeroes : ∀ i, s.pivots.length ≤ i → i < s.table.length → iv (s.table.getD i []) = fun _ => 0 := fun i h1 h2 => by
    funext j
    by_cases hj : j < w
    · exact I.zero i h1 h2 j hj
    · exact iv_ge (by rw [I.wd i h2]; omega)
  have wdM : ∀ i, i < w → (M.getD i []).length = w := fun i hi => P.wd _ (getD_in (by rw [P.len]; exact hi))
  have gram : ∀ i, i < w → iv (M.getD i []) = fun j => T D fun p => V p.1 i * V p.1 j := fun i hi => by
    funext j
    by_cases hj : j < w
    · exact P.val i j hi hj
    · rw [iv_ge (by rw [wdM i hi]; omega), T_congr (g := fun _ => 0) (fun p hp => by rw [V_ge (r := p.1) (j := j) (by rw [hw p hp]; omega)]; grind), T_zero]
  have m1 : ∀ u, InI M u → Span (InR (rowsOf D)) u := by
    rintro u ⟨i, hi, rfl⟩
    rw [gram i (by rw [← P.len]; exact hi)]
    exact span_T (fun p => V p.1 i) fun p hp => in_rows hp
  have m2 : ∀ u, InR (rowsOf D) u → Span (InI M) u := by
    rintro u ⟨r, hr, rfl⟩
    obtain ⟨p, hp, rfl⟩ := List.mem_map.mp hr
    have hz := solve_sol (w := w) (in_rows (D := D) hp)
    generalize V (qsolve w (qnormal w D (V p.1))) = z at hz
    have key : ∀ n, n ≤ w → Span (InI M) (fun j => S n (fun i => z i * iv (M.getD i []) j)) := by
      intro n
      induction n with
      | zero => intro _; exact .zero
      | succ n ih =>
        intro hn
        exact .step (z n) (ih (by omega)) ⟨n, by rw [P.len]; omega, rfl⟩
    refine (key w (Nat.le_refl _)).of_eq fun j => ?_
    by_cases hj : j < w
    · rw [← hz j hj]
      refine S_congr fun i hi => ?_
      rw [P.val i j hi hj, G_symm D i j]; grind
    · rw [V_ge (by rw [hw p hp]; omega)]
      refine S_zero_of fun i hi => ?_
      rw [iv_ge (by rw [wdM i hi]; omega)]
      grind
  have t1 : ∀ u, In B u → InI s.table u := by
    rintro u ⟨k, hk⟩
    obtain ⟨i, hi, e⟩ := List.mem_map.mp hk
    cases e
    exact ⟨i, by have := List.mem_range.mp hi; have := I.pk; omega, rfl⟩
  have t2 : ∀ u, InI s.table u → Span (In B) u := by
    rintro u ⟨i, hi, rfl⟩
    by_cases hk : i < s.pivots.length
    · exact .mem ⟨_, List.mem_map.mpr ⟨i, List.mem_range.mpr hk, rfl⟩⟩
    · rw [zeroes i (by omega) hi]; exact .zero
  have := rank_is (w := w) (rows := rowsOf D) (rows_len hw) hB (fun u hu => (I.sub u (t1 u hu)).mono m1) fun u hu => ((m2 u hu).mono I.sup).mono t2
  rw [this, lenB]
end SV
end
section
set_option Elab.async false
/-! The specification's determinant is the determinant -/
namespace DS
open Kxd4 LA DT SP EC
/-- how many of l are below a -/
def below (a : Nat) : List Nat → Nat
  | [] => 0
  | b :: l => (if b < a then 1 else 0) + below a l
def inv : List Nat → Nat
  | [] => 0
  | a :: l => below a l + inv l
theorem filter_zip (a i : Nat) : ∀ (l : List Nat) (n : Nat), i < n → ((l.zipIdx n).filter fun y => decide (i < y.2) && decide (y.1 < a)).length = below a l
  | [], _, _ => rfl
  | b :: l, n, h => by
    rw [List.zipIdx_cons, List.filter_cons]
    have ih := filter_zip a i l (n + 1) (by omega)
    by_cases q : b < a
    · simp only [h, q, decide_true, Bool.and_self, if_true, List.length_cons, ih, below]; omega
    · simp only [h, q, decide_true, decide_false, Bool.and_false, below]; simp [ih]
theorem filter_pre (a i : Nat) (n : Nat) : ∀ (l : List Nat) (m : Nat), m + l.length ≤ i + 1 → ((l.zipIdx m).filter fun y => decide (i < y.2) && decide (y.1 < a)).length = 0
  | [], _, _ => rfl
  | b :: l, m, h => by
    rw [List.zipIdx_cons, List.filter_cons]
    simp only [List.length_cons] at h
    have ih := filter_pre a i n l (m + 1) (by omega)
    have : ¬ i < m := by omega
    simp only [this, decide_false, Bool.false_and]
    simpa using ih
theorem inv_go (l : List Nat) : ∀ (post pre : List Nat), l = pre ++ post →
    ((post.zipIdx pre.length).flatMap fun x => l.zipIdx.filter fun y => decide (x.2 < y.2) && decide (y.1 < x.1)).length = inv post
  | [], _, _ => rfl
  | a :: post, pre, h => by
    rw [List.zipIdx_cons, List.flatMap_cons, List.length_append]
    have ih := inv_go l post (pre ++ [a]) (by simp [h])
    simp only [List.length_append, List.length_cons, List.length_nil] at ih
    rw [ih]
    show (List.filter (fun y => decide (pre.length < y.2) && decide (y.1 < a)) l.zipIdx).length + inv post = below a post + inv post
    congr 1
    have e : l.zipIdx = (pre ++ [a]).zipIdx 0 ++ post.zipIdx (pre.length + 1) := by
      rw [h]
      have : pre ++ a :: post = (pre ++ [a]) ++ post := by simp
      rw [this, List.zipIdx_append]; simp
    rw [e, List.filter_append, List.length_append, filter_zip a pre.length post (pre.length + 1) (by omega), filter_pre a pre.length 0 (pre ++ [a]) 0 (by simp)]
    omega
theorem inversions_eq (l : List Nat) : inversions l = inv l := by
  unfold inversions
  have := inv_go l l [] rfl
  simpa using this
theorem below_append (a : Nat) (B : List Nat) : ∀ A : List Nat, below a (A ++ B) = below a A + below a B
  | [] => by simp [below]
  | x :: A => by simp only [List.cons_append, below, below_append a B A]; omega
theorem below_zero : ∀ l : List Nat, below 0 l = 0
  | [] => rfl
  | x :: l => by simp [below, below_zero l]
theorem inv_cut (B : List Nat) : ∀ A : List Nat, (∀ a ∈ A, 0 < a) → inv (A ++ 0 :: B) = A.length + inv (A ++ B)
  | [], _ => by simp [inv, below_zero]
  | a :: A, h => by
    have ih := inv_cut B A fun b hb => h b (by simp [hb])
    have ha := h a (by simp)
    simp only [List.cons_append, inv, ih, below_append, below, List.length_cons, if_pos ha]
    omega
theorem below_pred (a : Nat) : ∀ l : List Nat, (∀ b ∈ l, 0 < b) → 0 < a → below (a - 1) (l.map (· - 1)) = below a l
  | [], _, _ => rfl
  | b :: l, h, ha => by
    have hb := h b (by simp)
    simp only [List.map_cons, below, below_pred a l (fun c hc => h c (by simp [hc])) ha]
    congr 1
    by_cases q : b < a
    · rw [if_pos q, if_pos (by omega)]
    · rw [if_neg q, if_neg (by omega)]
theorem inv_pred : ∀ l : List Nat, (∀ b ∈ l, 0 < b) → inv (l.map (· - 1)) = inv l
  | [], _ => rfl
  | a :: l, h => by
    simp only [List.map_cons, inv]
    rw [below_pred a l (fun c hc => h c (by simp [hc])) (h a (by simp)), inv_pred l fun c hc => h c (by simp [hc])]
def sgn (n : Nat) : Rat := if n % 2 = 0 then 1 else -1
theorem sgn_add (a b : Nat) : sgn (a + b) = sgn a * sgn b := by
  unfold sgn
  rcases Nat.mod_two_eq_zero_or_one a with h | h <;> rcases Nat.mod_two_eq_zero_or_one b with g | g
  · have e : (a + b) % 2 = 0 := by omega
    simp only [h, g, e]; grind
  · have e : (a + b) % 2 = 1 := by omega
    simp only [h, g, e]; grind
  · have e : (a + b) % 2 = 1 := by omega
    simp only [h, g, e]; grind
  · have e : (a + b) % 2 = 0 := by omega
    simp only [h, g, e]; grind
def prod : List Rat → Rat
  | [] => 1
  | x :: l => x * prod l
theorem prod_mid (x : Rat) (B : List Rat) : ∀ A : List Rat, prod (A ++ x :: B) = x * prod (A ++ B)
  | [] => rfl
  | a :: A => by simp only [List.cons_append, prod, prod_mid x B A]; grind
/-- rows with leads, each later one 0 at the earlier ones' leads -/
structure TriV (F : List (Nat × Vec)) : Prop where
  pw : F.Pairwise (fun a b => b.2 a.1 = 0)
  ld : ∀ a ∈ F, Lead a.2 a.1
theorem alt_skip (f : List Vec → Rat) (x : Vec) (B : List Vec) : ∀ (A : List Vec) (pre : List Vec) (s : Rat), (∀ a ∈ A, a 0 = 0) → (∀ b ∈ B, b 0 = 0) →
    altsum f s pre (A ++ x :: B) = s * sgn A.length * (x 0 * f ((pre ++ A ++ B).map sh))
  | [], pre, s, _, hB => by
    have z : ∀ (B pre : List Vec) (s : Rat), (∀ b ∈ B, b 0 = 0) → altsum f s pre B = 0 := by
      intro B
      induction B with
      | nil => intros; rfl
      | cons b B ih =>
        intro pre s h
        simp only [altsum]
        rw [h b (by simp), ih _ _ fun c hc => h c (by simp [hc])]; grind
    simp only [List.nil_append, altsum]
    rw [z B _ _ hB]
    simp only [List.length_nil, List.append_nil]
    have : sgn 0 = 1 := rfl
    rw [this]; grind
  | a :: A, pre, s, hA, hB => by
    simp only [List.cons_append, altsum]
    rw [hA a (by simp), alt_skip f x B A (pre ++ [a]) (-s) (fun c hc => hA c (by simp [hc])) hB]
    have e : sgn (a :: A).length = - sgn A.length := by
      rw [List.length_cons, sgn_add]
      have : sgn 1 = -1 := rfl
      rw [this]; grind
    rw [e]
    simp only [List.append_assoc, List.cons_append, List.nil_append]
    grind
/-- all of 0 .. n - 1 are leads -/
theorem det_tri : ∀ (n : Nat) (F : List (Nat × Vec)), TriV F → F.length = n → (∀ p ∈ F, p.1 < n) →
    det n (F.map (·.2)) = sgn (inv (F.map (·.1))) * prod (F.map fun p => p.2 p.1)
  | 0, F, _, hl, _ => by
    obtain rfl := List.length_eq_zero_iff.mp hl
    show (1 : Rat) = 1 * 1
    grind
  | n + 1, F, h, hl, hn => by
    have nd : (F.map (·.1)).Nodup := by
      rw [List.Nodup, List.pairwise_map]
      refine (List.Pairwise.and_mem.mp h.pw).imp ?_
      rintro a b ⟨ha, hb, hab⟩ e
      have := (h.ld b hb).1
      rw [← e] at this
      exact this hab
    have h0 : 0 ∈ F.map (·.1) := by
      refine Classical.byContradiction fun q => ?_
      have : (F.map (·.1)).length ≤ ((List.range n).map (· + 1)).length := nodup_le nd fun x hx => by
        obtain ⟨p, hp, rfl⟩ := List.mem_map.mp hx
        have := hn p hp
        have : p.1 ≠ 0 := fun e => q (List.mem_map.mpr ⟨p, hp, e⟩)
        exact List.mem_map.mpr ⟨p.1 - 1, List.mem_range.mpr (by omega), by omega⟩
      simp at this
      omega
    obtain ⟨⟨p0, x⟩, hp, e0⟩ := List.mem_map.mp h0
    simp only at e0
    subst e0
    obtain ⟨A, B, rfl⟩ := List.append_of_mem hp
    rw [List.map_append, List.map_cons] at nd
    have pos : ∀ p ∈ A ++ B, 0 < p.1 := fun p hp => by
      have : p.1 ≠ 0 := fun e => by
        have h1 := List.nodup_append.mp nd
        have h2 := List.nodup_cons.mp h1.2.1
        rcases List.mem_append.mp hp with q | q
        · exact h1.2.2 0 (List.mem_map.mpr ⟨p, q, e⟩) 0 (by simp) rfl
        · exact h2.1 (List.mem_map.mpr ⟨p, q, e⟩)
      omega
    have pwA := List.pairwise_append.mp h.pw
    have pwB := List.pairwise_cons.mp pwA.2.1
    have zA : ∀ a ∈ A, a.2 0 = 0 := fun a ha => (h.ld a (by simp [ha])).2 0 (pos a (by simp [ha]))
    have zB : ∀ b ∈ B, b.2 0 = 0 := fun b hb => pwB.1 b hb
    let G : List (Nat × Vec) := (A ++ B).map fun p => (p.1 - 1, sh p.2)
    have hG : TriV G := by
      refine ⟨?_, fun a ha => ?_⟩
      · rw [List.pairwise_map]
        have : (A ++ B).Pairwise (fun a b => b.2 a.1 = 0) := List.pairwise_append.mpr ⟨pwA.1, pwB.2, fun a ha b hb => pwA.2.2 a ha b (by simp [hb])⟩
        refine (List.Pairwise.and_mem.mp this).imp ?_
        rintro a b ⟨ha, hb, hab⟩
        have := pos a ha
        show b.2 (a.1 - 1 + 1) = 0
        rw [show a.1 - 1 + 1 = a.1 by omega]; exact hab
      · obtain ⟨p, hp, rfl⟩ := List.mem_map.mp ha
        have h1 := pos p hp
        have h2 := h.ld p (by rcases List.mem_append.mp hp with q | q <;> simp [q])
        refine ⟨?_, fun j hj => ?_⟩
        · show p.2 (p.1 - 1 + 1) ≠ 0
          rw [show p.1 - 1 + 1 = p.1 by omega]; exact h2.1
        · exact h2.2 (j + 1) (by simp only at hj; omega)
    have ih := det_tri n G hG (by simp [G] at hl ⊢; omega) (fun p hp => by
      obtain ⟨q, hq, rfl⟩ := List.mem_map.mp hp
      have h1 := pos q hq
      have h2 := hn q (by rcases List.mem_append.mp hq with z | z <;> simp [z])
      simp only; omega)
    have e1 : G.map (·.2) = (A.map (·.2) ++ B.map (·.2)).map sh := by simp [G, Function.comp_def]
    have e2 : inv (G.map (·.1)) = inv (A.map (·.1) ++ B.map (·.1)) := by
      have : G.map (·.1) = (A.map (·.1) ++ B.map (·.1)).map (· - 1) := by simp [G, Function.comp_def]
      rw [this, inv_pred]
      intro b hb
      rw [← List.map_append] at hb
      obtain ⟨p, hp, rfl⟩ := List.mem_map.mp hb
      exact pos p hp
    have e3 : G.map (fun p => p.2 p.1) = A.map (fun p => p.2 p.1) ++ B.map (fun p => p.2 p.1) := by
      simp only [G, List.map_map]
      rw [← List.map_append]
      refine List.map_congr_left fun p hp => ?_
      have := pos p hp
      show p.2 (p.1 - 1 + 1) = p.2 p.1
      rw [show p.1 - 1 + 1 = p.1 by omega]
    rw [e1, e2, e3] at ih
    simp only [List.map_append, List.map_cons]
    show altsum (det n) 1 [] _ = _
    rw [alt_skip (det n) x (B.map (·.2)) (A.map (·.2)) [] 1 (fun a ha => by obtain ⟨p, hp, rfl⟩ := List.mem_map.mp ha; exact zA p hp) (fun a ha => by obtain ⟨p, hp, rfl⟩ := List.mem_map.mp ha; exact zB p hp)]
    rw [List.nil_append, ih, inv_cut _ _ (fun a ha => by obtain ⟨p, hp, rfl⟩ := List.mem_map.mp ha; exact pos p (by simp [hp])), sgn_add, prod_mid]
    simp only [List.length_map]
    grind
/-! elimination keeps the determinant -/
theorem det_span {n : Nat} {A B : List Vec} (h : A.length + B.length + 1 = n) {u : Vec} (hu : Span (fun v => v ∈ A ++ B) u) : det n (A ++ u :: B) = 0 := by
  induction hu with
  | zero => exact det_zero h
  | step c hv hm ih => rw [det_lin n A B _ _ c h, ih, det_mem h hm]; grind
theorem ech_det {w : Nat} : ∀ {rest F : List Row}, Tri w F → (∀ r ∈ rest, r.length = w) →
    ((rest.foldl qstep F).length = F.length + rest.length ∧ det (F.length + rest.length) ((F ++ rest).map V) = det (F.length + rest.length) ((rest.foldl qstep F).map V)) ∨
    ((rest.foldl qstep F).length < F.length + rest.length ∧ det (F.length + rest.length) ((F ++ rest).map V) = 0)
  | [], F, _, _ => .inl ⟨rfl, by simp⟩
  | row :: rest, F, h, hl => by
    have hr := hl row (by simp)
    have hrest : ∀ r ∈ rest, r.length = w := fun r hr => hl r (by simp [hr])
    have grow : ∀ (rest F : List Row), (rest.foldl qstep F).length ≤ F.length + rest.length := by
      intro rest
      induction rest with
      | nil => intro F; simp
      | cons r rest ih =>
        intro F
        have := ih (qstep F r)
        have : (qstep F r).length ≤ F.length + 1 := by
          cases q : qlead (F.foldl qred r) with
          | none => rw [step_none q]; omega
          | some k => rw [step_some q]; simp
        simp only [List.foldl_cons, List.length_cons]; omega
    cases q : qlead (F.foldl qred row) with
    | none =>
      refine .inr ⟨?_, ?_⟩
      · have := grow rest F
        rw [List.foldl_cons, step_none q, List.length_cons]; omega
      · rw [List.map_append, List.map_cons]
        refine det_span (by simp; omega) (((fold_in h hr).mp q).sub_of ?_)
        rintro v ⟨r, hr, rfl⟩
        simp; exact .inl ⟨r, hr, rfl⟩
    | some k =>
      have e : (F ++ [F.foldl qred row]).length = F.length + 1 := by simp
      have key : det (F.length + (rest.length + 1)) ((F ++ row :: rest).map V) = det (F.length + (rest.length + 1)) (((F ++ [F.foldl qred row]) ++ rest).map V) := by
        obtain ⟨u, hu, eu⟩ := fold_span h.ln hr
        have ev : V row = fun j => V (F.foldl qred row) j + u j := funext eu
        rw [List.map_append, List.map_cons, ev, det_add (by simp; omega), det_span (u := u) (by simp; omega) (hu.sub_of fun v ⟨r, hr, er⟩ => by simp; exact .inl ⟨r, hr, er.symm⟩)]
        simp only [List.map_append, List.map_cons, List.map_nil, List.append_assoc, List.cons_append, List.nil_append]
        grind
      have ih := ech_det (rest := rest) (F := F ++ [F.foldl qred row]) (by rw [← step_some q]; exact h.step hr) hrest
      rw [e] at ih
      rw [List.foldl_cons, step_some q, List.length_cons, key]
      rw [show F.length + (rest.length + 1) = F.length + 1 + rest.length by omega]
      exact ih
theorem foldl_times : ∀ (l : List Rat) (a : Rat), (l.map toF).foldl times (toF a) = toF (a * prod l)
  | [], a => by simp only [List.map_nil, List.foldl_nil, prod]; exact congrArg toF (by grind)
  | x :: l, a => by
    show (l.map toF).foldl times (times (toF a) (toF x)) = _
    rw [times_eq, foldl_times l]
    exact congrArg toF (by simp only [prod]; grind)
theorem determinant_eq {n : Nat} {m : List Row} (hn : m.length = n) (hl : ∀ r ∈ m, r.length = n) : determinant (mpp m) = toF (det n (m.map V)) := by
  have e0 : (mpp (qech m)).length = (qech m).length := by simp [mpp]
  have e1 : (mpp m).length = m.length := by simp [mpp]
  have key := ech_det (w := n) (F := []) (tri_nil n) hl
  simp only [List.nil_append, List.length_nil, Nat.zero_add] at key
  unfold determinant
  rw [ech_eq]
  simp only []
  rw [e0, e1]
  rcases key with ⟨h1, h2⟩ | ⟨h1, h2⟩
  · have h1 : (qech m).length = m.length := h1
    rw [if_neg (by omega)]
    have ht := ech_tri hl
    let F : List (Nat × Vec) := LF (qech m)
    have hF : TriV F := by
      refine ⟨?_, (tri_isB ht).lead⟩
      simp only [F, LF]
      rw [List.pairwise_map]
      refine (List.Pairwise.and_mem.mp ht.pw).imp ?_
      rintro a b ⟨ha, hb, hab⟩
      obtain ⟨k, hk⟩ := ht.ld a ha
      simp only [hk, Option.getD]
      exact hab k hk
    have d := det_tri n F hF (by simp [F, LF]; omega) (fun p hp => by
      obtain ⟨r, hr, rfl⟩ := List.mem_map.mp hp
      obtain ⟨k, hk⟩ := ht.ld r hr
      simp only [hk, Option.getD]
      have := (lead_some hk).2
      rw [ht.ln r hr] at this; exact this)
    have f1 : F.map (·.2) = (qech m).map V := by simp [F, LF, Function.comp_def]
    have f2 : F.map (·.1) = (mpp (qech m)).map fun r => (leadOf r).getD 0 := by
      simp only [F, LF, mpp, List.map_map]
      refine List.map_congr_left fun r _ => ?_
      simp only [Function.comp, lead_eq]
    have f3 : (F.map fun p => p.2 p.1).map toF = (mpp (qech m)).map fun r => r.getD ((leadOf r).getD 0) ⟨0, 1⟩ := by
      simp only [F, LF, mpp, List.map_map]
      refine List.map_congr_left fun r _ => ?_
      simp only [Function.comp, lead_eq]
      rw [zero_eq, getD_mp]; rfl
    rw [← f2, ← f3, one_eq, foldl_times, inversions_eq, ofInt_eq, times_eq]
    have h2 : det m.length (m.map V) = det m.length ((qech m).map V) := h2
    rw [hn] at h2
    rw [h2, ← f1, d]
    refine congrArg toF ?_
    unfold sgn
    split <;> (show _ = _; simp only [Rat.intCast_one, Rat.intCast_neg]; grind)
  · have h1 : (qech m).length < m.length := h1
    rw [if_pos h1, zero_eq, ← hn, h2]
end DS
end
section
set_option Elab.async false
set_option linter.all false
/-! Fractions in lowest terms, their sizes -/
namespace NB
open Kxd4 SP
/-- below so many bits -/
def Bn (k x : Nat) : Prop := x < 2 ^ k
def Sz (k : Nat) (q : Rat) : Prop := Bn k q.num.natAbs ∧ Bn k q.den
theorem gcd_pos {a b : Int} (hb : b ≠ 0) : 0 < Nat.gcd a.natAbs b.natAbs := Nat.gcd_pos_of_pos_right _ (by omega)
theorem low_pos {a b : Int} (hb : 0 < b) : a.fdiv (Nat.gcd a.natAbs b.natAbs : Nat) = ((a : Rat) / (b : Rat)).num ∧ b.fdiv (Nat.gcd a.natAbs b.natAbs : Nat) = (((a : Rat) / (b : Rat)).den : Nat) := by
  have h := fraction_eq a b
  unfold fraction toF at h
  simp only [show ¬ b = 0 by omega, show ¬ b < 0 by omega, if_false, Fraction.mk.injEq] at h
  obtain ⟨h1, h2⟩ := h
  have g := gcd_pos (a := a) (b := b) (by omega)
  have e : (Int.gcd a b : Int) = ((Nat.gcd a.natAbs b.natAbs : Nat) : Int) := rfl
  rw [e] at h1 h2
  constructor
  · rw [Int.fdiv_eq_ediv_of_nonneg _ (by omega), h1]
  · rw [Int.fdiv_eq_ediv_of_nonneg _ (by omega), ← h2]
    have : 0 ≤ b / ((Nat.gcd a.natAbs b.natAbs : Nat) : Int) := Int.ediv_nonneg (by omega) (by omega)
    omega
theorem low_neg {a b : Int} (hb : b < 0) : a.fdiv (-(Nat.gcd a.natAbs b.natAbs : Nat)) = ((a : Rat) / (b : Rat)).num ∧ b.fdiv (-(Nat.gcd a.natAbs b.natAbs : Nat)) = (((a : Rat) / (b : Rat)).den : Nat) := by
  have h := fraction_eq a b
  unfold fraction toF at h
  simp only [show ¬ b = 0 by omega, hb, if_false, if_true, Fraction.mk.injEq] at h
  obtain ⟨h1, h2⟩ := h
  have g := gcd_pos (a := a) (b := b) (by omega)
  have e : (Int.gcd a b : Int) = ((Nat.gcd a.natAbs b.natAbs : Nat) : Int) := rfl
  rw [e] at h1 h2
  have key : ∀ z : Int, z.fdiv (-((Nat.gcd a.natAbs b.natAbs : Nat) : Int)) = (-z) / ((Nat.gcd a.natAbs b.natAbs : Nat) : Int) := fun z => by
    have : z.fdiv (-((Nat.gcd a.natAbs b.natAbs : Nat) : Int)) = (-z).fdiv ((Nat.gcd a.natAbs b.natAbs : Nat) : Int) := by
      have := Int.neg_fdiv_neg (-z) ((Nat.gcd a.natAbs b.natAbs : Nat) : Int)
      rw [Int.neg_neg] at this; exact this
    rw [this, Int.fdiv_eq_ediv_of_nonneg _ (by omega)]
  constructor
  · rw [key, h1]
  · rw [key, ← h2]
    have : 0 ≤ -b / ((Nat.gcd a.natAbs b.natAbs : Nat) : Int) := Int.ediv_nonneg (by omega) (by omega)
    omega
theorem natAbs_ediv_le (a : Int) (g : Nat) (hg : 0 < g) (hd : (g : Int) ∣ a) : (a / (g : Int)).natAbs ≤ a.natAbs := by
  obtain ⟨c, rfl⟩ := hd
  rw [Int.mul_ediv_cancel_left _ (by omega), Int.natAbs_mul]
  exact Nat.le_mul_of_pos_left _ (by omega)
theorem sz_div {a b : Int} {k : Nat} (hb : b ≠ 0) (h1 : Bn k a.natAbs) (h2 : Bn k b.natAbs) : Sz k ((a : Rat) / (b : Rat)) := by
  have hg := gcd_pos (a := a) hb
  have da : ((Nat.gcd a.natAbs b.natAbs : Nat) : Int) ∣ a := Int.ofNat_dvd_left.mpr (Nat.gcd_dvd_left _ _)
  have db : ((Nat.gcd a.natAbs b.natAbs : Nat) : Int) ∣ b := Int.ofNat_dvd_left.mpr (Nat.gcd_dvd_right _ _)
  have la := natAbs_ediv_le a _ hg da
  have lb := natAbs_ediv_le b _ hg db
  have la' := natAbs_ediv_le (-a) _ hg (Int.dvd_neg.mpr da)
  have lb' := natAbs_ediv_le (-b) _ hg (Int.dvd_neg.mpr db)
  have h := fraction_eq a b
  unfold fraction toF at h
  have e : (Int.gcd a b : Int) = ((Nat.gcd a.natAbs b.natAbs : Nat) : Int) := rfl
  by_cases c : b < 0
  · simp only [hb, c, if_false, if_true, Fraction.mk.injEq] at h
    rw [e] at h
    unfold Bn at h1 h2
    constructor
    · unfold Bn; rw [← h.1]; omega
    · unfold Bn; rw [← h.2]; omega
  · simp only [hb, c, if_false, Fraction.mk.injEq] at h
    rw [e] at h
    unfold Bn at h1 h2
    constructor
    · unfold Bn; rw [← h.1]; omega
    · unfold Bn; rw [← h.2]; omega
theorem Sz.mono {k l : Nat} {q : Rat} (h : Sz k q) (e : k ≤ l) : Sz l q := ⟨Nat.lt_of_lt_of_le h.1 (Nat.pow_le_pow_right (by decide) e), Nat.lt_of_lt_of_le (show q.den < 2 ^ k from h.2) (Nat.pow_le_pow_right (by decide) e)⟩
theorem lt_mono {x k l : Nat} (h : Bn k x) (e : k ≤ l) : Bn l x := Nat.lt_of_lt_of_le h (Nat.pow_le_pow_right (by decide) e)
theorem lt_mul {x y : Int} {k l : Nat} (h : Bn k x.natAbs) (g : Bn l y.natAbs) : Bn (k + l) (x * y).natAbs := by
  unfold Bn
  rw [Int.natAbs_mul, Nat.pow_add]; exact Nat.mul_lt_mul'' h g
theorem lt_add {x y : Int} {k : Nat} (h : Bn k x.natAbs) (g : Bn k y.natAbs) : Bn (k + 1) (x + y).natAbs := by
  unfold Bn at *
  rw [Nat.pow_succ]; omega
theorem lt_sub {x y : Int} {k : Nat} (h : Bn k x.natAbs) (g : Bn k y.natAbs) : Bn (k + 1) (x - y).natAbs := by
  unfold Bn at *
  rw [Nat.pow_succ]; omega
theorem den_ne0 (q : Rat) : (q.den : Int) ≠ 0 := by have := q.den_nz; omega
theorem den_abs (q : Rat) : (q.den : Int).natAbs = q.den := rfl
/-- the program's difference, quotient of pairs -/
theorem diff_eq (a b c d : Int) (hb : b ≠ 0) (hd : d ≠ 0) : ((a * d - c * b : Int) : Rat) / ((b * d : Int) : Rat) = (a : Rat) / (b : Rat) - (c : Rat) / (d : Rat) := by
  have h1 : (b : Rat) ≠ 0 := fun q => hb (Rat.intCast_eq_zero_iff.mp q)
  have h2 : (d : Rat) ≠ 0 := fun q => hd (Rat.intCast_eq_zero_iff.mp q)
  rw [Rat.intCast_sub, Rat.intCast_mul, Rat.intCast_mul, Rat.intCast_mul]
  grind
theorem quot_eq (a b c d : Int) (hb : b ≠ 0) (hc : c ≠ 0) (hd : d ≠ 0) : ((a * d : Int) : Rat) / ((b * c : Int) : Rat) = ((a : Rat) / (b : Rat)) / ((c : Rat) / (d : Rat)) := by
  have h1 : (b : Rat) ≠ 0 := fun q => hb (Rat.intCast_eq_zero_iff.mp q)
  have h2 : (d : Rat) ≠ 0 := fun q => hd (Rat.intCast_eq_zero_iff.mp q)
  have h3 : (c : Rat) ≠ 0 := fun q => hc (Rat.intCast_eq_zero_iff.mp q)
  rw [Rat.intCast_mul, Rat.intCast_mul]
  grind
theorem self_eq (q : Rat) : (q.num : Rat) / ((q.den : Int) : Rat) = q := (rat_eq q).symm
/-- dot products -/
def dotI (a b : List Int) : Int := (List.zipWith (· * ·) a b).sum
def Bd (k : Nat) (l : List Int) : Prop := ∀ z ∈ l, Bn k z.natAbs
theorem sum_bd {k : Nat} : ∀ {l : List Int} {m : Nat}, Bd k l → l.length ≤ 2 ^ m → l.sum.natAbs < 2 ^ (k + m) := by
  intro l m h hm
  have : ∀ l : List Int, Bd k l → l.sum.natAbs ≤ l.length * (2 ^ k - 1) := by
    intro l
    induction l with
    | nil => intro _; simp
    | cons x l ih =>
      intro h
      have h1 : x.natAbs < 2 ^ k := h x (by simp)
      have h2 := ih fun z hz => h z (by simp [hz])
      rw [List.sum_cons, List.length_cons, Nat.add_mul, Nat.one_mul]
      have := Int.natAbs_add_le x l.sum
      omega
  have h1 := this l h
  have h2 : l.length * (2 ^ k - 1) ≤ 2 ^ m * (2 ^ k - 1) := Nat.mul_le_mul_right _ hm
  have h3 : 2 ^ m * (2 ^ k - 1) < 2 ^ (k + m) := by
    rw [Nat.mul_comm, Nat.pow_add]
    exact (Nat.mul_lt_mul_right (Nat.two_pow_pos m)).mpr (by have := Nat.two_pow_pos k; omega)
  omega
theorem dot_bd {a b : List Int} {k l m : Nat} (ha : Bd k a) (hb : Bd l b) (hl : a.length ≤ 2 ^ m) : Bn (k + l + m) (dotI a b).natAbs := by
  refine sum_bd (fun z hz => ?_) (by rw [List.length_zipWith]; omega)
  obtain ⟨i, hi, rfl⟩ := List.mem_iff_getElem.mp hz
  rw [List.getElem_zipWith]
  exact lt_mul (ha _ (List.getElem_mem _)) (hb _ (List.getElem_mem _))
end NB
end
section
set_option Elab.async false
set_option linter.all false
/-! How large the sweep's numbers are -/
namespace BB
open LA DT BA NB
def IsB (B : Nat) (q : Rat) : Prop := ∃ z : Int, q = z ∧ z.natAbs ≤ B
theorem IsB.add {a b : Rat} {x y : Nat} (h : IsB x a) (g : IsB y b) : IsB (x + y) (a + b) := by
  obtain ⟨m, rfl, hm⟩ := h; obtain ⟨n, rfl, hn⟩ := g
  exact ⟨m + n, by simp, by omega⟩
theorem IsB.mul {a b : Rat} {x y : Nat} (h : IsB x a) (g : IsB y b) : IsB (x * y) (a * b) := by
  obtain ⟨m, rfl, hm⟩ := h; obtain ⟨n, rfl, hn⟩ := g
  exact ⟨m * n, by simp, by rw [Int.natAbs_mul]; exact Nat.mul_le_mul hm hn⟩
theorem IsB.neg {a : Rat} {x : Nat} (h : IsB x a) : IsB x (-a) := by
  obtain ⟨m, rfl, hm⟩ := h
  exact ⟨-m, by simp, by omega⟩
theorem IsB.mono {a : Rat} {x y : Nat} (h : IsB x a) (g : x ≤ y) : IsB y a := by
  obtain ⟨m, e, hm⟩ := h
  exact ⟨m, e, by omega⟩
theorem IsB.zero {x : Nat} : IsB x 0 := ⟨0, rfl, Nat.zero_le _⟩
theorem IsB.one {x : Nat} (h : 1 ≤ x) : IsB x 1 := ⟨1, rfl, h⟩
theorem IsB.int {a : Rat} {x : Nat} (h : IsB x a) : IsI a := by
  obtain ⟨m, e, _⟩ := h
  exact ⟨m, e⟩
theorem IsB.abs {z : Int} {x : Nat} (h : IsB x (z : Rat)) : z.natAbs ≤ x := by
  obtain ⟨m, e, hm⟩ := h
  have : z = m := Rat.intCast_inj.mp e
  omega
theorem alt_bnd {f : List Vec → Rat} {b M n : Nat} (hf : ∀ L : List Vec, L.length ≤ n → (∀ r ∈ L, ∀ j, IsB M (r j)) → IsB b (f L)) : ∀ (rest pre : List Vec) (s : Rat), IsB 1 s → (∀ r ∈ pre, ∀ j, IsB M (r j)) → (∀ r ∈ rest, ∀ j, IsB M (r j)) → pre.length + rest.length ≤ n + 1 → IsB (rest.length * (M * b)) (altsum f s pre rest)
  | [], _, _, _, _, _, _ => .zero
  | r :: post, pre, s, hs, hp, hr, hl => by
    simp only [altsum]
    simp only [List.length_cons] at hl ⊢
    have h1 : IsB (M * b) (s * (r 0 * f ((pre ++ post).map sh))) := by
      have := IsB.mul hs (.mul (hr r (by simp) 0) (hf ((pre ++ post).map sh) (by simp; omega) fun v hv => ?_))
      · rw [Nat.one_mul] at this; exact this
      · obtain ⟨u, hu, rfl⟩ := List.mem_map.mp hv
        intro j
        rcases List.mem_append.mp hu with q | q
        · exact hp u q _
        · exact hr u (by simp [q]) _
    have h2 := alt_bnd hf post (pre ++ [r]) (-s) hs.neg (fun v hv => ?_) (fun v hv => hr v (by simp [hv])) (by simp; omega)
    · exact (h1.add h2).mono (by rw [Nat.add_mul, Nat.one_mul]; omega)
    · rcases List.mem_append.mp hv with q | q
      · exact hp v q
      · simp at q; subst q; exact hr v (by simp)
def db (M : Nat) : Nat → Nat
  | 0 => 1
  | n + 1 => (n + 1) * (M * db M n)
theorem det_bnd {M : Nat} : ∀ (n : Nat) (L : List Vec), L.length ≤ n → (∀ r ∈ L, ∀ j, IsB M (r j)) → IsB (db M n) (det n L)
  | 0, _, _, _ => .one (Nat.le_refl _)
  | n + 1, L, hl, h => (alt_bnd (det_bnd n) L [] 1 (.one (Nat.le_refl _)) (fun r hr => by cases hr) h (by simp; omega)).mono (Nat.mul_le_mul_right _ hl)
theorem bnd_comb {M : Nat} {cs : List Nat} {L : List Vec} {ys : List Rat} {b : Vec} (hL : ∀ r ∈ L, ∀ j, IsB M (r j)) (hb : ∀ j, IsB M (b j)) (hy : ys.length = L.length)
    (hd : det L.length (L.map (res cs)) ≠ 0) (h : ∀ j, res cs (comb ys L) j = det L.length (L.map (res cs)) * b j) : ∀ y ∈ ys, IsB (db M L.length) y := by
  intro y hm
  obtain ⟨ya, yb, rfl⟩ := List.append_of_mem hm
  have hlen : ya.length < L.length := by simp at hy; omega
  obtain ⟨A, r, B, rfl, hA⟩ : ∃ A r B, L = A ++ r :: B ∧ A.length = ya.length := by
    refine ⟨L.take ya.length, L[ya.length], L.drop (ya.length + 1), ?_, by simp; omega⟩
    rw [← List.drop_eq_getElem_cons hlen, List.take_append_drop]
  generalize hD : det (A ++ r :: B).length ((A ++ r :: B).map (res cs)) = d at *
  have c := cramer (n := (A ++ r :: B).length) (ya := ya) (yb := yb) (y := y) (A := A.map (res cs)) (B := B.map (res cs)) (r := res cs r) (by simp; omega) (by simp [hA])
  have e : A.map (res cs) ++ res cs r :: B.map (res cs) = (A ++ r :: B).map (res cs) := by simp
  rw [e, comb_res, hD] at c
  have e2 : res cs (comb (ya ++ y :: yb) (A ++ r :: B)) = fun j => d * b j := funext h
  rw [e2, det_smul (by simp; omega)] at c
  have i : IsB (db M (A ++ r :: B).length) (det (A ++ r :: B).length (A.map (res cs) ++ b :: B.map (res cs))) := det_bnd _ _ (by simp) fun v hv => by
    have rr : ∀ u : Vec, (∀ j, IsB M (u j)) → ∀ j, IsB M (res cs u j) := fun u hu j => by
      simp only [res]
      cases cs[j]? with
      | none => exact .zero
      | some c => exact hu c
    rcases List.mem_append.mp hv with q | q
    · obtain ⟨u, hu, rfl⟩ := List.mem_map.mp q
      exact rr u (hL u (by simp [hu]))
    · rcases List.mem_cons.mp q with q | q
      · subst q; exact hb
      · obtain ⟨u, hu, rfl⟩ := List.mem_map.mp q
        exact rr u (hL u (by simp [hu]))
  have : det (A ++ r :: B).length (A.map (res cs) ++ b :: B.map (res cs)) = y := by
    have : d * (det (A ++ r :: B).length (A.map (res cs) ++ b :: B.map (res cs)) - y) = 0 := by grind
    rcases Rat.mul_eq_zero.mp this with q | q
    · exact absurd q hd
    · grind
  rw [← this]; exact i
theorem comb_bnd {Y M : Nat} : ∀ {ys : List Rat} {L : List Vec}, (∀ y ∈ ys, IsB Y y) → (∀ r ∈ L, ∀ j, IsB M (r j)) → ∀ j, IsB (L.length * (Y * M)) (comb ys L j)
  | [], _, _, _, _ => .zero
  | _ :: _, [], _, _, _ => .zero
  | y :: ys, r :: L, h, g, j => ((IsB.mul (h y (by simp)) (g r (by simp) j)).add (comb_bnd (fun z hz => h z (by simp [hz])) (fun z hz => g z (by simp [hz])) j)).mono (by
    rw [List.length_cons, Nat.add_mul, Nat.one_mul]; omega)
/-- the sweep's numbers -/
theorem inv_bnd {A : List (List Int)} {L m M : Nat} {s : Sw} (I : Inv A L m s) (h1 : 1 ≤ M) (hA : ∀ r ∈ A, ∀ z ∈ r, z.natAbs ≤ M) :
    s.divisor.natAbs ≤ db M s.pivots.length ∧ ∀ i, i < s.table.length → ∀ j, IsB ((s.pivots.length + 1) * (db M s.pivots.length * M)) (iv (s.table.getD i []) j) := by
  obtain ⟨R, C⟩ := I.core
  have hin : ∀ r, InI A r → ∀ j, IsB M (r j) := by
    rintro r ⟨i, hi, rfl⟩ j
    refine ⟨(A.getD i []).getD j 0, rfl, ?_⟩
    by_cases hj : j < (A.getD i []).length
    · have a1 : A.getD i [] ∈ A := SV.getD_in hi
      have a2 : (A.getD i []).getD j 0 ∈ A.getD i [] := SV.getD_in hj
      exact hA _ a1 _ a2
    · have : (A.getD i []).getD j 0 = 0 := by
        rw [List.getD_eq_getElem?_getD (l := A.getD i []), List.getElem?_eq_none (by omega)]; rfl
      rw [this]; exact Nat.zero_le _
  have hR : ∀ r ∈ R, ∀ j, IsB M (r j) := fun r hr => hin r (C.int r hr)
  have hk := C.len
  have hdB : IsB (db M s.pivots.length) (s.divisor : Rat) := by
    rw [← C.det, ← hk]
    refine det_bnd _ _ (by simp) fun v hv => ?_
    obtain ⟨u, hu, rfl⟩ := List.mem_map.mp hv
    intro j
    simp only [res]
    cases s.pivots.reverse[j]? with
    | none => exact .zero
    | some c => exact hR u hu c
  have hd : (s.divisor : Rat) ≠ 0 := by intro q; rw [Rat.intCast_eq_zero_iff] at q; exact I.d0 q
  have hd2 : det R.length (R.map (res s.pivots.reverse)) ≠ 0 := by rw [C.det]; exact hd
  refine ⟨hdB.abs, fun i hi j => ?_⟩
  by_cases hik : i < s.pivots.length
  · obtain ⟨ys, hys, ey⟩ := C.low i hik
    have hy := bnd_comb (M := M) (cs := s.pivots.reverse) (b := res s.pivots.reverse fun c => if c = s.pivots.getD i 0 then 1 else 0) hR (fun j => by
      simp only [res]
      cases s.pivots.reverse[j]? with
      | none => exact .zero
      | some c =>
        show IsB M (if _ then _ else _)
        split
        · exact .one h1
        · exact .zero) hys hd2 fun j => by
        rw [C.det]
        simp only [res]
        cases q : s.pivots.reverse[j]? with
        | none => simp only []; grind
        | some c =>
          have hc : c ∈ s.pivots := by have := List.mem_of_getElem? q; rwa [List.mem_reverse] at this
          have := I.lowc i hik c hc
          show comb ys R c = _ * (if _ then _ else _)
          rw [← ey c, this]
          split <;> grind
    have := comb_bnd hy hR j
    rw [← ey j, hk] at this
    exact this.mono (Nat.mul_le_mul_right _ (by omega))
  · obtain ⟨r, ys, hr, hys, ey⟩ := C.high i (by omega) hi
    have hy := bnd_comb (M := M) (cs := s.pivots.reverse) (b := res s.pivots.reverse fun c => - r c) hR (fun j => by
      simp only [res]
      cases s.pivots.reverse[j]? with
      | none => exact .zero
      | some c => exact (hin r hr c).neg) hys hd2 fun j => by
        rw [C.det]
        simp only [res]
        cases q : s.pivots.reverse[j]? with
        | none => simp only []; grind
        | some c =>
          have hc : c ∈ s.pivots := by have := List.mem_of_getElem? q; rwa [List.mem_reverse] at this
          have h0 := I.zero i (by omega) hi c (I.pm c hc)
          have := ey c
          show comb ys R c = _
          rw [h0] at this
          grind
    have h2 := comb_bnd hy hR j
    have h3 := (IsB.mul hdB (hin r hr j)).add h2
    rw [← ey j, hk] at h3
    exact h3.mono (by rw [Nat.add_mul, Nat.one_mul]; omega)
theorem piv_le {A : List (List Int)} {L m : Nat} {s : Sw} (I : Inv A L m s) : s.pivots.length ≤ m := by
  have := LA.nodup_le (a := s.pivots) (b := List.range m) (I.inc.imp fun h => Nat.ne_of_lt h) fun x hx => List.mem_range.mpr (I.pm x hx)
  simpa using this
theorem db_small : ∀ k, k < 9 → (k + 1) * (db (2 ^ 36) k * 2 ^ 36) < 2 ^ 400 := by decide +kernel
theorem db_small2 : ∀ k, k < 9 → db (2 ^ 36) k < 2 ^ 400 := by decide +kernel
/-- what the sweep leaves, of numbers below 36 bits, up to 8 columns -/
theorem inv_bits {A : List (List Int)} {L m : Nat} {s : Sw} (I : Inv A L m s) (hm : m ≤ 8) (hA : ∀ r ∈ A, Bd 36 r) : Bn 400 s.divisor.natAbs ∧ ∀ r ∈ s.table, Bd 400 r := by
  obtain ⟨h1, h2⟩ := inv_bnd (M := 2 ^ 36) I (by decide) fun r hr z hz => Nat.le_of_lt (hA r hr z hz)
  have hp := piv_le I
  refine ⟨Nat.lt_of_le_of_lt h1 (db_small2 _ (by omega)), fun r hr z hz => ?_⟩
  obtain ⟨i, hi, rfl⟩ := List.mem_iff_getElem.mp hr
  obtain ⟨j, hj, rfl⟩ := List.mem_iff_getElem.mp hz
  have := h2 i hi j
  have e : iv (s.table.getD i []) j = ((s.table[i][j] : Int) : Rat) := by
    show (((s.table.getD i []).getD j 0 : Int) : Rat) = _
    have a1 : s.table.getD i [] = s.table[i] := SV.getD_lt hi
    rw [a1, SV.getD_lt hj]
  rw [e] at this
  exact Nat.lt_of_le_of_lt this.abs (db_small _ (by omega))
end BB
end
section
set_option Elab.async false
set_option linter.all false
/-! The program's data in plain Lean: what a fit holds, what a model holds; sizes; and what they are by the specification's data -/
namespace Lf
open NB
structure SolOk (x : List Int × Int) : Prop where
  d0 : x.2 ≠ 0
  bd : Bd 1000 x.1
  bn : Bn 1000 x.2.natAbs
structure GoodSw (s : BA.Sw) (c : Nat) : Prop where
  ln : s.table.length ≤ 100
  wd : ∀ r ∈ s.table, c < r.length ∧ r.length ≤ 100 ∧ Bd 1000 r
  d0 : s.divisor ≠ 0
  bd : Bn 1000 s.divisor.natAbs
  pk : s.pivots.length ≤ s.table.length
/-- the sweep of the equations can be walked -/
structure SolvOk (M : List (List Int)) (t : List Int) : Prop where
  hl : M.length ≤ 100
  ht : t.length ≤ 100
  hm : ∀ r ∈ M, r.length ≤ 100
  hs : ∀ m, m ≤ t.length → GoodSw (BA.sweep (SV.ext M t) m) m
  hp : ∀ c ∈ (BA.sweep (SV.ext M t) t.length).pivots, c < t.length
structure FitD where
  prods : List (List Int)
  mom : List Int
  sq : Int
  rows : Nat
  sol : List Int × Int
def FitD.rank (x : FitD) : Nat := SV.rankI x.prods x.prods.length
def FitD.free (x : FitD) : Int := (x.rows : Int) - (x.rank : Int)
structure FitOk (x : FitD) : Prop where
  sol : SV.solved x.prods x.mom = some x.sol
  so : SolvOk x.prods x.mom
  rk : x.prods.length ≤ 100 ∧ x.prods.length ≤ 100 ∧ ∀ m, m < x.prods.length → GoodSw (BA.sweep x.prods m) m
  sk : SolOk x.sol
  bm : Bd 200 x.mom
  bs : Bn 200 x.sq.natAbs
  br : x.rows ≤ 100
def FitD.est (x : FitD) (v : List Int) : Rat := (dotI v x.sol.1 : Rat) / (x.sol.2 : Rat)
def FitD.rss (x : FitD) : Rat := (x.sq : Rat) - x.est x.mom
def colsOf (wd : Nat) (R : List (List Int)) : List (List Int) := (List.range wd).map fun j => R.map fun r => r.getD j 0
def prodsOf (C : List (List Int)) : List (List Int) := C.map fun l => C.map fun r => dotI l r
def momOf (C : List (List Int)) (y : List Int) : List Int := C.map fun c => dotI c y
def fitD (wd : Nat) (R : List (List Int)) (y : List Int) (sol : List Int × Int) : FitD := ⟨prodsOf (colsOf wd R), momOf (colsOf wd R) y, dotI y y, R.length, sol⟩
def subD (x : FitD) (cols : List Nat) (sol : List Int × Int) : FitD := ⟨cols.map fun l => cols.map fun r => BA.cell (x.prods.getD l []) r, cols.map fun l => BA.cell x.mom l, x.sq, x.rows, sol⟩
/-- what fit_of is handed -/
structure FitOfOk (wd : Nat) (R : List (List Int)) (y : List Int) (sol : List Int × Int) : Prop where
  ok : FitOk (fitD wd R y sol)
  hw : wd ≤ 100
  hr : R.length ≤ 100
  ly : y.length ≤ 100
  wr : ∀ r ∈ R, wd ≤ r.length
  br : ∀ r ∈ R, Bd 200 r
  by_ : Bd 200 y
structure ModD where
  cc : Nat
  terms : List Nat
  rows : List (List Int)
  resp : List Int
def withinB (l : List Int) (k : Int) : Bool := l.all fun z => decide ((z.natAbs : Int) ≤ k)
def fitsC (m : ModD) (v : List Int) : Bool := decide ((v.length : Int) = (m.cc : Int)) && withinB v 1000
def ModD.tc (m : ModD) : Nat := m.terms.getLastD 0 + 1
def ModD.hasRow (m : ModD) (i : Int) : Bool := decide (0 ≤ i) && decide (i < (m.rows.length : Int))
structure OkM (m : ModD) : Prop where
  c0 : 0 < m.cc
  c8 : m.cc ≤ 8
  rl : m.rows.length = m.resp.length
  r24 : m.rows.length ≤ 24
  wd : ∀ r ∈ m.rows, r.length = m.cc ∧ Bd 10 r
  by_ : Bd 20 m.resp
  tl : m.terms.length = m.cc
  tz : m.terms.getD 0 1 = 0
  ts : ∀ i, i + 1 < m.terms.length → m.terms.getD (i + 1) 0 = m.terms.getD i 0 ∨ m.terms.getD (i + 1) 0 = m.terms.getD i 0 + 1
def prodsM (m : ModD) : List (List Int) := prodsOf (colsOf m.cc m.rows)
def momM (m : ModD) : List Int := momOf (colsOf m.cc m.rows) m.resp
def solM (m : ModD) : List Int × Int := (SV.solved (prodsM m) (momM m)).getD ([], 1)
def fitM (m : ModD) : FitD := fitD m.cc m.rows m.resp (solM m)
def ModD.without (m : ModD) (i : Nat) : ModD := { m with rows := m.rows.eraseIdx i, resp := m.resp.eraseIdx i }
theorem okWithout {m : ModD} (h : OkM m) (i : Nat) : OkM (m.without i) where
  c0 := h.c0
  c8 := h.c8
  rl := by
    have := h.rl
    show (m.rows.eraseIdx i).length = (m.resp.eraseIdx i).length
    rw [List.length_eraseIdx, List.length_eraseIdx, this]
  r24 := Nat.le_trans (List.length_eraseIdx_le _ _) h.r24
  wd := fun r hr => h.wd r (List.mem_of_mem_eraseIdx hr)
  by_ := fun z hz => h.by_ z (List.mem_of_mem_eraseIdx hz)
  tl := h.tl
  tz := h.tz
  ts := h.ts
theorem fitsC_bd {m : ModD} {v : List Int} (h : fitsC m v = true) : v.length = m.cc ∧ Bd 10 v := by
  unfold fitsC at h
  rw [Bool.and_eq_true] at h
  refine ⟨by have := of_decide_eq_true h.1; omega, fun z hz => ?_⟩
  have := List.all_eq_true.mp h.2 z hz
  have := of_decide_eq_true this
  unfold Bn
  omega
/-! sizes -/
theorem goodSw {A : List (List Int)} {L m : Nat} (hA : ∀ r ∈ A, r.length = L ∧ Bd 36 r) (hl : A.length ≤ 100) (hm : m < L) (h8 : m ≤ 8) (h100 : L ≤ 100) : GoodSw (BA.sweep A m) m := by
  have I := BA.inv_fold (A := A) (L := L) (fun r hr => (hA r hr).1) m
  obtain ⟨b1, b2⟩ := BB.inv_bits I h8 fun r hr => (hA r hr).2
  refine ⟨by rw [I.ln]; exact hl, fun r hr => ?_, I.d0, lt_mono b1 (by decide), I.pk⟩
  obtain ⟨i, hi, rfl⟩ := List.mem_iff_getElem.mp hr
  have := I.wd i hi
  rw [SV.getD_lt hi] at this
  exact ⟨by omega, by omega, fun z hz => lt_mono (b2 _ hr z hz) (by decide)⟩
theorem ext_ok {M : List (List Int)} {t : List Int} {w : Nat} (h : ∀ r ∈ M, r.length = w ∧ Bd 36 r) (ht : Bd 36 t) : ∀ r ∈ SV.ext M t, r.length = w + 1 ∧ Bd 36 r := by
  intro r hr
  refine ⟨SV.ext_len (fun r hr => (h r hr).1) r hr, ?_⟩
  unfold SV.ext at hr
  obtain ⟨i, hi, rfl⟩ := List.mem_iff_getElem.mp hr
  rw [List.getElem_zipWith]
  intro z hz
  rcases List.mem_append.mp hz with q | q
  · exact (h _ (List.getElem_mem _)).2 z q
  · rw [List.mem_singleton.mp q]; exact ht _ (List.getElem_mem _)
theorem solvOk {M : List (List Int)} {t : List Int} {w : Nat} (hM : M.length = w) (h : ∀ r ∈ M, r.length = w ∧ Bd 36 r) (hl : t.length = w) (ht : Bd 36 t) (hw : w ≤ 8) : SolvOk M t := by
  have he := ext_ok h ht
  have hel : (SV.ext M t).length ≤ 100 := by unfold SV.ext; rw [List.length_zipWith]; omega
  refine ⟨by omega, by omega, fun r hr => by rw [(h r hr).1]; omega, fun m hm => goodSw he hel (by omega) (by omega) (by omega), ?_⟩
  rw [hl]
  exact (BA.inv_fold (fun r hr => (he r hr).1) w).pm
theorem numers_bd {T : List (List Int)} {pv : List Nat} {w k : Nat} (hp : pv.Pairwise (· < ·)) (hw : ∀ c ∈ pv, c < w) (hk : pv.length ≤ T.length) (hT : ∀ r ∈ T, w < r.length ∧ Bd k r) : Bd k (SV.numers T pv w) := by
  obtain ⟨h1, h2, h3⟩ := SV.numers_ok (T := T) hp hw
  intro z hz
  obtain ⟨j, hj, rfl⟩ := List.mem_iff_getElem.mp hz
  rw [← SV.getD_lt (d := 0) hj]
  by_cases c : j ∈ pv
  · obtain ⟨i, hi, rfl⟩ := List.mem_iff_getElem.mp c
    have := h2 i hi
    rw [SV.getD_lt hi] at this
    rw [this]
    have a := hT (T.getD i []) (SV.getD_in (by omega))
    exact a.2 _ (SV.getD_in a.1)
  · rw [h3 j c]
    exact Nat.two_pow_pos k
theorem solOk {M : List (List Int)} {t : List Int} {w : Nat} {z : List Int × Int} (hM : M.length = w) (h : ∀ r ∈ M, r.length = w ∧ Bd 36 r) (hl : t.length = w) (ht : Bd 36 t) (hw : w ≤ 8) (hz : SV.solved M t = some z) : SolOk z := by
  have he := ext_ok h ht
  have I := BA.inv_fold (fun r hr => (he r hr).1) w
  have so := solvOk hM h hl ht hw
  have g := so.hs w (by omega)
  unfold SV.solved at hz
  rw [hl] at hz
  simp only [] at hz
  split at hz
  · cases hz
  · cases hz
    exact ⟨g.d0, numers_bd I.inc I.pm g.pk fun r hr => ⟨(g.wd r hr).1, (g.wd r hr).2.2⟩, g.bd⟩
theorem solved_len {M : List (List Int)} {t : List Int} {w : Nat} {z : List Int × Int} (h : ∀ r ∈ M, r.length = w ∧ Bd 36 r) (hl : t.length = w) (ht : Bd 36 t) (hz : SV.solved M t = some z) : z.1.length = w := by
  have he := ext_ok h ht
  have I := BA.inv_fold (fun r hr => (he r hr).1) w
  unfold SV.solved at hz
  rw [hl] at hz
  simp only [] at hz
  split at hz
  · cases hz
  · cases hz
    exact (SV.numers_ok I.inc I.pm).1
/-! the specification's data -/
open LA SP EC LS
open BA (iv)
def obs : List (List Int) → List Int → List Kxd4.Observation
  | r :: R, v :: y => ⟨r, v⟩ :: obs R y
  | _, _ => []
def datM (m : ModD) : Dat := MD.dat (obs m.rows m.resp)
theorem obs_len : ∀ {R : List (List Int)} {y : List Int}, R.length = y.length → (obs R y).length = R.length
  | [], [], _ => rfl
  | r :: R, v :: y, h => by simp only [obs, List.length_cons]; rw [obs_len (by simpa using h)]
  | [], _ :: _, h => by simp at h
  | _ :: _, [], h => by simp at h
theorem obs_mem : ∀ {R : List (List Int)} {y : List Int} {o : Kxd4.Observation}, o ∈ obs R y → o.row ∈ R
  | r :: R, v :: y, o, h => by
    rcases List.mem_cons.mp h with e | e
    · subst e; simp
    · exact List.mem_cons_of_mem _ (obs_mem e)
  | [], _, _, h => by cases h
  | _ :: _, [], _, h => by cases h
theorem dotI_cons (a b : Int) (l m : List Int) : dotI (a :: l) (b :: m) = a * b + dotI l m := by
  unfold dotI
  rw [List.zipWith_cons_cons, List.sum_cons]
theorem dot_rows (f g : List Int → Int) : ∀ {R : List (List Int)} {y : List Int}, R.length = y.length → ((dotI (R.map f) (R.map g) : Int) : Rat) = T (obs R y) (fun o => (f o.row : Rat) * (g o.row : Rat))
  | [], [], _ => rfl
  | r :: R, v :: y, h => by
    rw [List.map_cons, List.map_cons, dotI_cons, Rat.intCast_add, Rat.intCast_mul, dot_rows f g (R := R) (y := y) (by simpa using h)]; rfl
  | [], _ :: _, h => by simp at h
  | _ :: _, [], h => by simp at h
theorem dot_resp (f : List Int → Int) : ∀ {R : List (List Int)} {y : List Int}, R.length = y.length → ((dotI (R.map f) y : Int) : Rat) = T (obs R y) (fun o => (f o.row : Rat) * (o.response : Rat))
  | [], [], _ => rfl
  | r :: R, v :: y, h => by
    rw [List.map_cons, dotI_cons, Rat.intCast_add, Rat.intCast_mul, dot_resp f (R := R) (y := y) (by simpa using h)]; rfl
  | [], _ :: _, h => by simp at h
  | _ :: _, [], h => by simp at h
theorem dot_sq : ∀ {R : List (List Int)} {y : List Int}, R.length = y.length → ((dotI y y : Int) : Rat) = T (obs R y) (fun o => (o.response : Rat) * (o.response : Rat))
  | [], [], _ => rfl
  | r :: R, v :: y, h => by
    rw [dotI_cons, Rat.intCast_add, Rat.intCast_mul, dot_sq (R := R) (y := y) (by simpa using h)]; rfl
  | [], _ :: _, h => by simp at h
  | _ :: _, [], h => by simp at h
theorem T_dat (l : List Kxd4.Observation) (F : Row × Rat → Rat) : T (MD.dat l) F = T l fun o => F (MD.ir o.row, (o.response : Rat)) := by unfold MD.dat; rw [T_map]
theorem cols_get {w : Nat} {R : List (List Int)} {i : Nat} (h : i < w) : (colsOf w R).getD i [] = R.map fun r => r.getD i 0 := by
  unfold colsOf
  rw [List.getD_eq_getElem?_getD, List.getElem?_map, List.getElem?_range h]; rfl
theorem colsOf_len {wd : Nat} {R : List (List Int)} : (colsOf wd R).length = wd := by simp [colsOf]
theorem map_getD {A B : Type} {f : A → B} {l : List A} {i : Nat} {d : A} {e : B} (h : i < l.length) : (l.map f).getD i e = f (l.getD i d) := by
  rw [List.getD_eq_getElem?_getD, List.getElem?_map, List.getD_eq_getElem?_getD, List.getElem?_eq_getElem h]; rfl
theorem prods_ok {w : Nat} {R : List (List Int)} {y : List Int} (h : R.length = y.length) : SV.Prods (prodsOf (colsOf w R)) w (MD.dat (obs R y)) where
  len := by unfold prodsOf; rw [List.length_map, colsOf_len]
  wd := fun r hr => by
    obtain ⟨l, _, rfl⟩ := List.mem_map.mp hr
    rw [List.length_map, colsOf_len]
  val := fun i j hi hj => by
    show ((((prodsOf (colsOf w R)).getD i []).getD j 0 : Int) : Rat) = _
    unfold prodsOf
    rw [map_getD (d := []) (by rw [colsOf_len]; exact hi), map_getD (d := []) (by rw [colsOf_len]; exact hj), cols_get hi, cols_get hj, dot_rows (fun r => r.getD i 0) (fun r => r.getD j 0) h]
    unfold G
    rw [T_dat]
    refine T_congr fun o _ => ?_
    show _ = V (MD.ir o.row) i * V (MD.ir o.row) j
    rw [MD.V_ir]; rfl
theorem mom_ok {w : Nat} {R : List (List Int)} {y : List Int} (h : R.length = y.length) {i : Nat} (hi : i < w) : iv (momOf (colsOf w R) y) i = tt (MD.dat (obs R y)) i := by
  show (((momOf (colsOf w R) y).getD i 0 : Int) : Rat) = _
  unfold momOf
  rw [map_getD (d := []) (by rw [colsOf_len]; exact hi), cols_get hi, dot_resp (fun r => r.getD i 0) h]
  unfold tt
  rw [T_dat]
  refine T_congr fun o _ => ?_
  show _ = V (MD.ir o.row) i * (o.response : Rat)
  rw [MD.V_ir]; rfl
theorem dot_iv {w : Nat} : ∀ {a b : List Int}, a.length = w → b.length = w → ((dotI a b : Int) : Rat) = S w fun k => iv a k * iv b k := by
  intro a b ha hb
  have := qdot_S (a := MD.ir a) (b := MD.ir b) (w := w) (by rw [MD.ir_len, ha]) (by rw [MD.ir_len, hb])
  rw [MD.V_ir, MD.V_ir] at this
  rw [← this]
  clear this ha hb w
  induction a generalizing b with
  | nil => rfl
  | cons x a ih =>
    cases b with
    | nil => rfl
    | cons v b =>
      rw [dotI_cons, Rat.intCast_add, Rat.intCast_mul, ih]
      show _ = T (List.zipWith (· * ·) ((x : Rat) :: MD.ir a) ((v : Rat) :: MD.ir b)) id
      rw [List.zipWith_cons_cons]; rfl
/-- a fit over such data -/
structure FitFor (x : FitD) (w : Nat) (D : Dat) : Prop where
  P : SV.Prods x.prods w D
  wide : Wide w D
  ml : x.mom.length = w
  mv : ∀ i, i < w → iv x.mom i = tt D i
  sq : (x.sq : Rat) = T D fun p => p.2 * p.2
  rows : x.rows = D.length
  sol : x.sol = (SV.solved x.prods x.mom).getD ([], 1)
theorem FitFor.has {x : FitD} {w : Nat} {D : Dat} (F : FitFor x w D) : SV.solved x.prods x.mom = some x.sol := by
  have h1 : Sol D w (tt D) (V (qb w D)) := qb_sol F.wide
  obtain ⟨p, hp⟩ := (SV.solved_iff F.P F.ml).mp ⟨_, sol_congr h1 fun j hj => (F.mv j hj).symm⟩
  rw [F.sol, hp]; rfl
theorem FitFor.ok {x : FitD} {w : Nat} {D : Dat} (F : FitFor x w D) (h8 : w ≤ 8) (hb : ∀ r ∈ x.prods, Bd 36 r) (hm : Bd 36 x.mom) (hs : Bn 200 x.sq.natAbs) (hr : x.rows ≤ 100) : FitOk x := by
  have hA : ∀ r ∈ x.prods, r.length = w ∧ Bd 36 r := fun r hr => ⟨F.P.wd r hr, hb r hr⟩
  have hl := F.P.len
  exact ⟨F.has, solvOk hl hA F.ml hm h8, ⟨by omega, by omega, fun m hm => goodSw hA (by omega) (by omega) (by omega) (by omega)⟩, solOk hl hA F.ml hm h8 F.has, fun z hz => lt_mono (hm z hz) (by decide), hs, hr⟩
theorem FitFor.rank {x : FitD} {w : Nat} {D : Dat} (F : FitFor x w D) : x.rank = qrank (rowsOf D) := by
  unfold FitD.rank
  rw [F.P.len]
  exact SV.rank_ok F.wide F.P
/-- the solution that the fit holds -/
def FitD.b (x : FitD) : Vec := fun j => iv x.sol.1 j / (x.sol.2 : Rat)
theorem FitFor.isSol {x : FitD} {w : Nat} {D : Dat} (F : FitFor x w D) : Sol D w (tt D) x.b := by
  obtain ⟨h1, h2, h3⟩ := SV.solved_some (nums := x.sol.1) (d := x.sol.2) F.P F.ml F.has
  exact sol_congr h3 F.mv
theorem FitFor.sl {x : FitD} {w : Nat} {D : Dat} (F : FitFor x w D) : x.sol.1.length = w := (SV.solved_some (nums := x.sol.1) (d := x.sol.2) F.P F.ml F.has).2.1
theorem div_S {w : Nat} {v n : List Int} {d : Int} (h1 : v.length = w) (h2 : n.length = w) : ((dotI v n : Int) : Rat) / (d : Rat) = S w fun k => iv v k * (iv n k / (d : Rat)) := by
  rw [dot_iv h1 h2]
  have e : (fun k => iv v k * (iv n k / (d : Rat))) = fun k => iv v k * iv n k * (1 / (d : Rat)) := by funext k; grind
  rw [e, S_mulr]; grind
theorem FitFor.est {x : FitD} {w : Nat} {D : Dat} (F : FitFor x w D) {v : List Int} (hv : v.length = w) : x.est v = S w fun k => iv v k * x.b k := div_S hv F.sl
theorem FitFor.rss {x : FitD} {w : Nat} {D : Dat} (F : FitFor x w D) : x.rss = LS.rss w D := by
  rw [rss_any F.wide F.isSol]
  unfold FitD.rss
  rw [F.est F.ml, F.sq, S_congr (fun k hk => by rw [F.mv k hk])]
theorem fitFor {m : ModD} (h : OkM m) : FitFor (fitM m) m.cc (datM m) where
  P := prods_ok h.rl
  wide := fun p hp => by
    obtain ⟨o, ho, rfl⟩ := List.mem_map.mp hp
    show (MD.ir o.row).length = _
    rw [MD.ir_len, (h.wd _ (obs_mem ho)).1]
  ml := by show (momOf _ _).length = _; unfold momOf; rw [List.length_map, colsOf_len]
  mv := fun i hi => mom_ok h.rl hi
  sq := by
    show ((dotI m.resp m.resp : Int) : Rat) = _
    rw [dot_sq h.rl]
    unfold datM
    rw [T_dat]
  rows := by
    show m.rows.length = (MD.dat _).length
    unfold MD.dat
    rw [List.length_map, obs_len h.rl]
  sol := rfl
theorem OkM.pb {m : ModD} (h : OkM m) : ∀ r ∈ prodsM m, Bd 36 r := by
  intro r hr z hz
  obtain ⟨l, hl, rfl⟩ := List.mem_map.mp hr
  obtain ⟨k, hk, rfl⟩ := List.mem_map.mp hz
  obtain ⟨i, hi, rfl⟩ := List.mem_map.mp hl
  obtain ⟨j, hj, rfl⟩ := List.mem_map.mp hk
  have hi := List.mem_range.mp hi
  have hj := List.mem_range.mp hj
  have a : ∀ i, i < m.cc → Bd 10 (m.rows.map fun r => r.getD i 0) := fun i hi z hz => by
    obtain ⟨r, hr, rfl⟩ := List.mem_map.mp hz
    have := h.wd r hr
    exact this.2 _ (SV.getD_in (by omega))
  have h24 := h.r24
  exact lt_mono (dot_bd (m := 5) (a i hi) (a j hj) (by rw [List.length_map]; omega)) (by decide)
theorem OkM.mb {m : ModD} (h : OkM m) : Bd 36 (momM m) := by
  intro z hz
  obtain ⟨l, hl, rfl⟩ := List.mem_map.mp hz
  obtain ⟨i, hi, rfl⟩ := List.mem_map.mp hl
  have hi := List.mem_range.mp hi
  have a : ∀ i, i < m.cc → Bd 10 (m.rows.map fun r => r.getD i 0) := fun i hi z hz => by
    obtain ⟨r, hr, rfl⟩ := List.mem_map.mp hz
    have := h.wd r hr
    exact this.2 _ (SV.getD_in (by omega))
  have h24 := h.r24
  exact lt_mono (dot_bd (m := 5) (a i hi) h.by_ (by rw [List.length_map]; omega)) (by decide)
theorem OkM.sqb {m : ModD} (h : OkM m) : Bn 200 (dotI m.resp m.resp).natAbs := by
  have h24 := h.r24
  exact lt_mono (dot_bd (m := 5) h.by_ h.by_ (by rw [← h.rl]; omega)) (by decide)
theorem okFit {m : ModD} (h : OkM m) : FitOfOk m.cc m.rows m.resp (solM m) where
  ok := (fitFor h).ok h.c8 h.pb h.mb h.sqb (Nat.le_trans h.r24 (by decide))
  hw := Nat.le_trans h.c8 (by decide)
  hr := Nat.le_trans h.r24 (by decide)
  ly := by rw [← h.rl]; exact Nat.le_trans h.r24 (by decide)
  wr := fun r hr => by rw [(h.wd r hr).1]; exact Nat.le_refl _
  br := fun r hr z hz => lt_mono ((h.wd r hr).2 z hz) (by decide)
  by_ := fun z hz => lt_mono (h.by_ z hz) (by decide)
theorem okW {m : ModD} (h : OkM m) {v : List Int} (hl : v.length = m.cc) (hv : Bd 10 v) : SolvOk (prodsM m) v :=
  solvOk (fitFor h).P.len (fun r hr => ⟨(fitFor h).P.wd r hr, h.pb r hr⟩) hl (fun z hz => lt_mono (hv z hz) (by decide)) h.c8
theorem okZ {m : ModD} (h : OkM m) {v : List Int} {z : List Int × Int} (hl : v.length = m.cc) (hv : Bd 10 v) (hz : SV.solved (prodsM m) v = some z) : SolOk z :=
  solOk (fitFor h).P.len (fun r hr => ⟨(fitFor h).P.wd r hr, h.pb r hr⟩) hl (fun z hz => lt_mono (hv z hz) (by decide)) h.c8 hz
theorem solM_len {m : ModD} (h : OkM m) : (solM m).1.length = m.cc := (fitFor h).sl
theorem sweep_le (A : List (List Int)) : ∀ w, (BA.sweep A w).pivots.length ≤ w
  | 0 => Nat.le_refl _
  | w + 1 => by
    have ih := sweep_le A w
    have e : BA.sweep A (w + 1) = BA.col (BA.sweep A w) w := by
      unfold BA.sweep
      rw [List.range_succ, List.foldl_append]; rfl
    rw [e]
    unfold BA.col
    split
    · exact Nat.le_succ_of_le ih
    · show ((BA.sweep A w).pivots ++ [w]).length ≤ w + 1
      rw [List.length_append]; exact Nat.succ_le_succ ih
theorem rank_le (x : FitD) : x.rank ≤ x.prods.length := sweep_le _ _
theorem okFree {m : ModD} (h : OkM m) : Bn 200 (fitM m).free.natAbs := by
  have h1 := rank_le (fitM m)
  have h2 : (fitM m).prods.length = m.cc := (fitFor h).P.len
  have h3 := h.c8
  have h4 := h.r24
  have h5 : (fitM m).free = (m.rows.length : Int) - ((fitM m).rank : Int) := rfl
  have h6 : (fitM m).free.natAbs < 2 ^ 10 := by omega
  exact lt_mono (k := 10) h6 (by decide)
def wts (m : ModD) (v : List Int) : Option (List Int × Int) := SV.solved (prodsM m) v
theorem iv_ge {l : List Int} {j : Nat} (h : l.length ≤ j) : iv l j = 0 := BA.iv_ge h
theorem wts_iff {m : ModD} (h : OkM m) {v : List Int} (hl : v.length = m.cc) : MD.Est (datM m) (iv v) ↔ ∃ z, wts m v = some z := by
  have F := fitFor h
  unfold MD.Est
  rw [sol_iff F.wide fun j hj => iv_ge (by omega)]
  exact SV.solved_iff F.P hl
theorem wts_sol {m : ModD} (h : OkM m) {v : List Int} {z : List Int × Int} (hl : v.length = m.cc) (hz : wts m v = some z) : z.2 ≠ 0 ∧ z.1.length = m.cc ∧ Sol (datM m) m.cc (iv v) (fun j => iv z.1 j / (z.2 : Rat)) :=
  SV.solved_some (nums := z.1) (d := z.2) (fitFor h).P hl hz
def rowAt (m : ModD) (i : Nat) : List Int := m.rows.getD i []
def wtsR (m : ModD) (i : Nat) : List Int × Int := (wts m (rowAt m i)).getD ([], 1)
theorem obs_get : ∀ {R : List (List Int)} {y : List Int} {i : Nat}, R.length = y.length → i < R.length → (obs R y)[i]? = some ⟨R.getD i [], y.getD i 0⟩
  | r :: R, v :: y, 0, _, _ => rfl
  | r :: R, v :: y, i + 1, h, hi => by
    have := obs_get (R := R) (y := y) (i := i) (by simpa using h) (by simpa using hi)
    simpa [obs] using this
  | [], _, _, _, hi => by simp at hi
  | _ :: _, [], _, h, _ => by simp at h
theorem row_est {m : ModD} (h : OkM m) {i : Nat} (hi : i < m.rows.length) : MD.Est (datM m) (iv (rowAt m i)) := by
  have := List.mem_of_getElem? (obs_get h.rl hi)
  exact MD.row_est (m := ⟨m.cc, m.terms, obs m.rows m.resp⟩) this
theorem okRow {m : ModD} (h : OkM m) {i : Nat} (hi : i < m.rows.length) : wts m (rowAt m i) = some (wtsR m i) := by
  have hl : (rowAt m i).length = m.cc := (h.wd _ (SV.getD_in hi)).1
  obtain ⟨z, hz⟩ := (wts_iff h hl).mp (row_est h hi)
  unfold wtsR
  rw [hz]; rfl
/-! some columns -/
def pickC (m : ModD) (p : Nat → Bool) : List Nat := (List.range m.terms.length).filter fun i => p (m.terms.getD i 0)
def partS (m : ModD) (cols : List Nat) : List Int × Int := (SV.solved (cols.map fun l => cols.map fun r => BA.cell ((prodsM m).getD l []) r) (cols.map fun l => BA.cell (momM m) l)).getD ([], 1)
def partM (m : ModD) (cols : List Nat) : FitD := subD (fitM m) cols (partS m cols)
def datP (cols : List Nat) (D : Dat) : Dat := D.map fun p => (cols.map fun j => V p.1 j, p.2)
theorem V_pick {cols : List Nat} {f : Nat → Rat} {i : Nat} (h : i < cols.length) : V (cols.map f) i = f (cols.getD i 0) := map_getD h
theorem pickC_lt {m : ModD} (h : OkM m) {p : Nat → Bool} : ∀ c ∈ pickC m p, c < m.cc := fun c hc => by
  have := List.mem_range.mp (List.mem_filter.mp hc).1
  rw [h.tl] at this; exact this
theorem pickC_len {m : ModD} (h : OkM m) {p : Nat → Bool} : (pickC m p).length ≤ 8 := by
  have e : (pickC m p).length ≤ m.terms.length := Nat.le_trans (List.length_filter_le _ _) (by rw [List.length_range]; exact Nat.le_refl _)
  have := h.tl
  have := h.c8
  omega
theorem fitPart {m : ModD} (h : OkM m) {cols : List Nat} (hc : ∀ c ∈ cols, c < m.cc) : FitFor (partM m cols) cols.length (datP cols (datM m)) where
  P := {
    len := by show (cols.map _).length = _; rw [List.length_map]
    wd := fun r hr => by
      obtain ⟨l, _, rfl⟩ := List.mem_map.mp hr
      rw [List.length_map]
    val := fun i j hi hj => by
      show (((List.map (fun l => cols.map fun r => BA.cell ((prodsM m).getD l []) r) cols).getD i []).getD j 0 : Rat) = _
      rw [map_getD (d := 0) hi, map_getD (d := 0) hj]
      have := (fitFor h).P.val (cols.getD i 0) (cols.getD j 0) (hc _ (SV.getD_in hi)) (hc _ (SV.getD_in hj))
      show iv ((prodsM m).getD (cols.getD i 0) []) (cols.getD j 0) = _
      rw [show (prodsM m) = (fitM m).prods from rfl, this]
      unfold G datP
      rw [T_map]
      exact T_congr fun p _ => by simp only [V_pick hi, V_pick hj] }
  wide := fun p hp => by
    obtain ⟨q, _, rfl⟩ := List.mem_map.mp hp
    show (List.map _ _).length = _
    rw [List.length_map]
  ml := by show (cols.map _).length = _; rw [List.length_map]
  mv := fun i hi => by
    show ((cols.map fun l => BA.cell (momM m) l).getD i 0 : Rat) = _
    rw [map_getD (d := 0) hi]
    have := (fitFor h).mv (cols.getD i 0) (hc _ (SV.getD_in hi))
    show iv (fitM m).mom (cols.getD i 0) = _
    rw [this]
    unfold tt datP
    rw [T_map]
    exact T_congr fun p _ => by simp only [V_pick hi]
  sq := by
    show ((fitM m).sq : Rat) = _
    rw [(fitFor h).sq]
    unfold datP
    rw [T_map]
  rows := by
    show (fitM m).rows = _
    rw [(fitFor h).rows]
    unfold datP
    rw [List.length_map]
  sol := rfl
theorem okPart {m : ModD} (h : OkM m) (p : Nat → Bool) : FitOk (partM m (pickC m p)) := by
  have hc := pickC_lt h (p := p)
  refine (fitPart h hc).ok (pickC_len h) (fun r hr z hz => ?_) (fun z hz => ?_) h.sqb (Nat.le_trans h.r24 (by decide))
  · obtain ⟨l, hl, rfl⟩ := List.mem_map.mp hr
    obtain ⟨k, hk, rfl⟩ := List.mem_map.mp hz
    have a : l < (prodsM m).length := by rw [show (prodsM m).length = m.cc from (fitFor h).P.len]; exact hc l hl
    have b : (prodsM m).getD l [] ∈ prodsM m := SV.getD_in a
    exact h.pb _ b _ (SV.getD_in (by rw [(fitFor h).P.wd _ b]; exact hc k hk))
  · obtain ⟨l, hl, rfl⟩ := List.mem_map.mp hz
    exact h.mb _ (SV.getD_in (by rw [show (momM m).length = m.cc from (fitFor h).ml]; exact hc l hl))
end Lf
end
section
set_option Elab.async false
set_option linter.all false
/-! Quadratic surfaces: the Hessian, its minors, the stationary point -/
namespace Ty
def evens {α : Type} : List α → List α
  | [] => []
  | [a] => [a]
  | a :: _ :: r => a :: evens r
def stp {α : Type} (lo : Option Int) (xs : List α) : List α := if lo = none then evens xs else evens xs.tail
end Ty
namespace Lf
open NB Ty
def sg : Nat → Int
  | 0 => 1
  | i + 1 => - sg i
def restM (M : List (List Int)) (i : Nat) : List (List Int) := (M.drop 1).map fun row => row.eraseIdx i
def detS (f : List (List Int) → Int) (M : List (List Int)) : Nat → Int
  | 0 => 0
  | i + 1 => detS f M i + sg i * (M.getD 0 []).getD i 0 * f (restM M i)
def detI : Nat → List (List Int) → Int
  | 0, _ => 1
  | n + 1, M => detS (detI n) M (n + 1)
def SqB (n : Nat) (M : List (List Int)) : Prop := M.length = n ∧ ∀ r ∈ M, r.length = n ∧ Bd 30 r
def minorM (M : List (List Int)) (s : Nat) : List (List Int) := (M.take s).map fun row => row.take s
def minorsI (M : List (List Int)) : List Int := (List.range M.length).map fun i => detI (i + 1) (minorM M (i + 1))
def kindI (ms : List Int) : Int := if ms.all (fun z => decide (0 < z)) = true then 0 else if ((stp (some 1) ms).all (fun z => decide (0 < z)) && (stp none ms).all (fun z => decide (z < 0))) = true then 1 else 2
def isSurf (k : Nat) (c : Int) (l q : List Int) : Bool := if (decide ((k : Int) < 1) || decide ((3 : Int) < (k : Int))) = true then false else if (!decide ((l.length : Int) = (k : Int)) || !decide ((q.length : Int) = ((k : Int) * ((k : Int) + 1)).fdiv 2)) = true then false else withinB (c :: l ++ q) 1000000
/-! the Hessian -/
def addAt (M : List (List Int)) (i j : Nat) (v : Int) : List (List Int) := M.set i ((M.getD i []).set j ((M.getD i []).getD j 0 + v))
def hStep (q : List Int) (f : Nat) (st : List (List Int) × Nat) (s : Nat) : List (List Int) × Nat := (addAt (addAt st.1 f s (q.getD st.2 0)) s f (q.getD st.2 0), st.2 + 1)
def hIn (k : Nat) (q : List Int) (f : Nat) (st : List (List Int) × Nat) (n : Nat) : List (List Int) × Nat := (List.range n).foldl (fun st j => hStep q f st (f + j)) st
def hOut (k : Nat) (q : List Int) (n : Nat) : List (List Int) × Nat := (List.range n).foldl (fun st f => hIn k q f st (k - f)) (List.replicate k (List.replicate k 0), 0)
def hessI (k : Nat) (q : List Int) : List (List Int) := (hOut k q k).1
theorem hIn_succ (k : Nat) (q : List Int) (f : Nat) (st : List (List Int) × Nat) (n : Nat) : hIn k q f st (n + 1) = hStep q f (hIn k q f st n) (f + n) := by
  unfold hIn
  rw [List.range_succ, List.foldl_append]; rfl
theorem hOut_succ (k : Nat) (q : List Int) (n : Nat) : hOut k q (n + 1) = hIn k q n (hOut k q n) (k - n) := by
  unfold hOut
  rw [List.range_succ, List.foldl_append]; rfl
theorem hIn_place (k : Nat) (q : List Int) (f : Nat) (st : List (List Int) × Nat) : ∀ n, (hIn k q f st n).2 = st.2 + n
  | 0 => rfl
  | n + 1 => by
    rw [hIn_succ]
    show (hIn k q f st n).2 + 1 = _
    rw [hIn_place k q f st n]; omega
def place3 (k f : Nat) : Nat := ((List.range f).map fun a => k - a).sum
theorem hOut_place (k : Nat) (q : List Int) : ∀ n, (hOut k q n).2 = place3 k n
  | 0 => rfl
  | n + 1 => by
    rw [hOut_succ, hIn_place, hOut_place k q n]
    unfold place3
    rw [List.range_succ, List.map_append, List.sum_append]; simp
theorem place_lt : ∀ k, k < 4 → ∀ f, f < k → ∀ j, j < k - f → place3 k f + j < k * (k + 1) / 2 := by decide
/-- so many rows of so many numbers -/
def Sqr (k : Nat) (M : List (List Int)) : Prop := M.length = k ∧ ∀ r ∈ M, r.length = k
theorem addAt_sqr {k : Nat} {M : List (List Int)} (h : Sqr k M) {i j : Nat} (hi : i < k) {v : Int} : Sqr k (addAt M i j v) := by
  refine ⟨by unfold addAt; rw [List.length_set]; exact h.1, fun r hr => ?_⟩
  unfold addAt at hr
  rcases List.mem_or_eq_of_mem_set hr with q | q
  · exact h.2 r q
  · rw [q, List.length_set]
    exact h.2 _ (SV.getD_in (by rw [h.1]; exact hi))
theorem hIn_sqr {k : Nat} {q : List Int} {f : Nat} {st : List (List Int) × Nat} (h : Sqr k st.1) (hf : f < k) : ∀ n, n ≤ k - f → Sqr k (hIn k q f st n).1
  | 0, _ => h
  | n + 1, hn => by
    rw [hIn_succ]
    exact addAt_sqr (addAt_sqr (hIn_sqr h hf n (by omega)) hf) (by omega)
theorem hOut_sqr {k : Nat} {q : List Int} : ∀ n, n ≤ k → Sqr k (hOut k q n).1
  | 0, _ => ⟨by simp [hOut], fun r hr => by
      have : r ∈ List.replicate k (List.replicate k (0 : Int)) := hr
      rw [(List.mem_replicate.mp this).2]; simp⟩
  | n + 1, hn => by
    rw [hOut_succ]
    exact hIn_sqr (hOut_sqr n (by omega)) (by omega) _ (Nat.le_refl _)
theorem h1 (a : Int) : hessI 1 [a] = [[2 * a]] := by
  have : 0 + a + a = 2 * a := by omega
  show [[0 + a + a]] = _
  rw [this]
theorem h2 (a b c : Int) : hessI 2 [a, b, c] = [[2 * a, b], [b, 2 * c]] := by
  show [[0 + a + a, 0 + b], [0 + b, 0 + c + c]] = _
  rw [show 0 + a + a = 2 * a by omega, show 0 + b = b by omega, show 0 + c + c = 2 * c by omega]
theorem h3 (a b c d e f : Int) : hessI 3 [a, b, c, d, e, f] = [[2 * a, b, c], [b, 2 * d, e], [c, e, 2 * f]] := by
  show [[0 + a + a, 0 + b, 0 + c], [0 + b, 0 + d + d, 0 + e], [0 + c, 0 + e, 0 + f + f]] = _
  rw [show 0 + a + a = 2 * a by omega, show 0 + b = b by omega, show 0 + c = c by omega, show 0 + d + d = 2 * d by omega, show 0 + e = e by omega, show 0 + f + f = 2 * f by omega]
open Kxd4 SP LA DT EC
theorem s1 (a : Int) : hessian 1 [a] = mpp [[((2 * a : Int) : Rat)]] := rfl
theorem s2 (a b c : Int) : hessian 2 [a, b, c] = mpp [[((2 * a : Int) : Rat), (b : Rat)], [(b : Rat), ((2 * c : Int) : Rat)]] := rfl
theorem s3 (a b c d e f : Int) : hessian 3 [a, b, c, d, e, f] = mpp [[((2 * a : Int) : Rat), (b : Rat), (c : Rat)], [(b : Rat), ((2 * d : Int) : Rat), (e : Rat)], [(c : Rat), (e : Rat), ((2 * f : Int) : Rat)]] := rfl
end Lf
end
section
set_option Elab.async false
set_option linter.all false
namespace Lf
open NB Ty
theorem di1 (a : Int) : detI 1 [[a]] = a := by
  show (0 : Int) + 1 * a * 1 = a
  omega
theorem di2 (a b c d : Int) : detI 2 [[a, b], [c, d]] = a * d - b * c := by
  show (0 : Int) + 1 * a * (0 + 1 * d * 1) + (-1) * b * (0 + 1 * c * 1) = _
  grind
theorem di3 (a b c d e f g h i : Int) : detI 3 [[a, b, c], [d, e, f], [g, h, i]] = a * (e * i - f * h) - b * (d * i - f * g) + c * (d * h - e * g) := by
  show (0 : Int) + 1 * a * detI 2 [[e, f], [h, i]] + (-1) * b * detI 2 [[d, f], [g, i]] + - -1 * c * detI 2 [[d, e], [g, h]] = _
  rw [di2, di2, di2]
  grind
open Kxd4 SP LA DT EC
theorem dt1 (a : Rat) : det 1 ([[a]].map V) = a := by
  show (1 : Rat) * (a * 1) + 0 = a
  grind
theorem dt2 (a b c d : Rat) : det 2 ([[a, b], [c, d]].map V) = a * d - b * c := by
  show (1 : Rat) * (a * (1 * (d * 1) + 0)) + (-1 * (c * (1 * (b * 1) + 0)) + 0) = _
  grind
theorem dt3 (a b c d e f g h i : Rat) : det 3 ([[a, b, c], [d, e, f], [g, h, i]].map V) = a * (e * i - f * h) - b * (d * i - f * g) + c * (d * h - e * g) := by
  show (1 : Rat) * (a * (1 * (e * (1 * (i * 1) + 0)) + (-1 * (h * (1 * (f * 1) + 0)) + 0))) + (-1 * (d * (1 * (b * (1 * (i * 1) + 0)) + (-1 * (h * (1 * (c * 1) + 0)) + 0))) + (- -1 * (g * (1 * (b * (1 * (f * 1) + 0)) + (-1 * (e * (1 * (c * 1) + 0)) + 0))) + 0)) = _
  grind
theorem m1 (a : Int) : minorsI [[a]] = [a] := by
  show [detI 1 [[a]]] = _
  rw [di1]
theorem m2 (a b c : Int) : minorsI [[a, b], [b, c]] = [a, a * c - b * b] := by
  show [detI 1 [[a]], detI 2 [[a, b], [b, c]]] = _
  rw [di1, di2]
theorem m3 (a b c d e f : Int) : minorsI [[a, b, c], [b, d, e], [c, e, f]] = [a, a * d - b * b, a * (d * f - e * e) - b * (b * f - e * c) + c * (b * e - d * c)] := by
  show [detI 1 [[a]], detI 2 [[a, b], [b, d]], detI 3 [[a, b, c], [b, d, e], [c, e, f]]] = _
  rw [di1, di2, di3]
/-- the specification's minors -/
theorem sm1 (a : Rat) : minor (mpp [[a]]) 1 = toF a := by
  show determinant (mpp [[a]]) = _
  rw [DS.determinant_eq (n := 1) rfl (by simp), dt1]
theorem sm2 (a b c d : Rat) : minor (mpp [[a, b], [c, d]]) 1 = toF a ∧ minor (mpp [[a, b], [c, d]]) 2 = toF (a * d - b * c) := by
  constructor
  · show determinant (mpp [[a]]) = _
    rw [DS.determinant_eq (n := 1) rfl (by simp), dt1]
  · show determinant (mpp [[a, b], [c, d]]) = _
    rw [DS.determinant_eq (n := 2) rfl (by simp), dt2]
theorem sm3 (a b c d e f g h i : Rat) : minor (mpp [[a, b, c], [d, e, f], [g, h, i]]) 1 = toF a ∧ minor (mpp [[a, b, c], [d, e, f], [g, h, i]]) 2 = toF (a * e - b * d) ∧ minor (mpp [[a, b, c], [d, e, f], [g, h, i]]) 3 = toF (a * (e * i - f * h) - b * (d * i - f * g) + c * (d * h - e * g)) := by
  refine ⟨?_, ?_, ?_⟩
  · show determinant (mpp [[a]]) = _
    rw [DS.determinant_eq (n := 1) rfl (by simp), dt1]
  · show determinant (mpp [[a, b], [d, e]]) = _
    rw [DS.determinant_eq (n := 2) rfl (by simp), dt2]
  · show determinant (mpp [[a, b, c], [d, e, f], [g, h, i]]) = _
    rw [DS.determinant_eq (n := 3) rfl (by simp), dt3]
/-- the kind -/
def kindS (ms : List Int) : Nat := if ms.getLastD 0 = 0 then 3 else (kindI ms).toNat
theorem num_z : (toF 0).numerator = 0 := rfl
theorem num_int (z : Int) : (toF (z : Rat)).numerator = z := Rat.num_intCast z
theorem kind1 (a : Int) : kindOf 1 (mpp [[(a : Rat)]]) = kindS [a] := by
  unfold kindOf
  have e : ((List.range 1).map fun n => minor (mpp [[(a : Rat)]]) (n + 1)) = [toF (a : Rat)] := by
    show [minor (mpp [[(a : Rat)]]) 1] = _
    rw [sm1]
  rw [e]
  simp only [List.getLastD, List.getLast?, List.all_cons, List.all_nil, List.zipIdx, num_int, kindS, kindI, stp, evens, List.tail]
  by_cases h : a = 0
  · simp [num_int, num_z, h]
  · rcases Int.lt_or_gt_of_ne h with q | q
    · have : ¬ 0 < a := by omega
      simp [num_int, num_z, h, q, this]
    · have : ¬ a < 0 := by omega
      simp [num_int, num_z, h, q, this]
theorem kind2 (a b c : Int) : kindOf 2 (mpp [[(a : Rat), (b : Rat)], [(b : Rat), (c : Rat)]]) = kindS [a, a * c - b * b] := by
  unfold kindOf
  have e : ((List.range 2).map fun n => minor (mpp [[(a : Rat), (b : Rat)], [(b : Rat), (c : Rat)]]) (n + 1)) = [toF (a : Rat), toF ((a * c - b * b : Int) : Rat)] := by
    show [minor _ 1, minor _ 2] = _
    obtain ⟨e1, e2⟩ := sm2 (a : Rat) b b c
    rw [e1, e2, Rat.intCast_sub, Rat.intCast_mul, Rat.intCast_mul]
  rw [e]
  generalize a * c - b * b = d
  simp only [List.getLastD, List.getLast?, List.all_cons, List.all_nil, List.zipIdx, num_int, kindS, kindI, stp, evens, List.tail]
  by_cases h : d = 0
  · simp [num_int, num_z, h]
  · rcases Int.lt_or_gt_of_ne h with q | q
    · have : ¬ 0 < d := by omega
      simp [num_int, num_z, h, q, this]
    · have : ¬ d < 0 := by omega
      by_cases h1 : 0 < a
      · simp [num_int, num_z, h, q, this, h1]
      · by_cases h2 : a < 0
        · simp [num_int, num_z, h, q, this, h1, h2]
        · simp [num_int, num_z, h, q, this, h1, h2]
theorem kind3 (a b c d e f : Int) : kindOf 3 (mpp [[(a : Rat), (b : Rat), (c : Rat)], [(b : Rat), (d : Rat), (e : Rat)], [(c : Rat), (e : Rat), (f : Rat)]]) = kindS [a, a * d - b * b, a * (d * f - e * e) - b * (b * f - e * c) + c * (b * e - d * c)] := by
  unfold kindOf
  have em : ((List.range 3).map fun n => minor (mpp [[(a : Rat), (b : Rat), (c : Rat)], [(b : Rat), (d : Rat), (e : Rat)], [(c : Rat), (e : Rat), (f : Rat)]]) (n + 1)) = [toF (a : Rat), toF ((a * d - b * b : Int) : Rat), toF ((a * (d * f - e * e) - b * (b * f - e * c) + c * (b * e - d * c) : Int) : Rat)] := by
    show [minor _ 1, minor _ 2, minor _ 3] = _
    obtain ⟨e1, e2, e3⟩ := sm3 (a : Rat) b c b d e c e f
    rw [e1, e2, e3]
    simp only [Rat.intCast_sub, Rat.intCast_mul, Rat.intCast_add]
  rw [em]
  generalize a * d - b * b = m
  generalize a * (d * f - e * e) - b * (b * f - e * c) + c * (b * e - d * c) = n
  simp only [List.getLastD, List.getLast?, List.all_cons, List.all_nil, List.zipIdx, num_int, kindS, kindI, stp, evens, List.tail]
  by_cases h : n = 0
  · simp [num_int, num_z, h]
  · by_cases h1 : 0 < a <;> by_cases h2 : a < 0 <;> by_cases h3 : 0 < m <;> by_cases h4 : n < 0 <;> by_cases h5 : 0 < n <;> first | omega | simp [num_int, num_z, h, h1, h2, h3, h4, h5]
end Lf
end
section
set_option Elab.async false
set_option linter.all false
namespace Lf
open NB Ty Kxd4 SP LA DT EC LS
open BA (iv InI)
def frL (q : Rat) : List Int := [q.num, (q.den : Nat)]
def fac (v : List Int) (z : List Int × Int) : Rat := (dotI v z.1 : Rat) / (z.2 : Rat)
def negL (l : List Int) : List Int := l.map fun z => -z
def ptI (k : Nat) (l q : List Int) : Option (List Int × Int) := SV.solved (hessI k q) (negL l)
def aStat (k : Nat) (c : Int) (l q : List Int) : List Int := if isSurf k c l q = false then [-22] else if (minorsI (hessI k q)).getLastD 0 = 0 then [-33] else match ptI k l q with
  | none => [-33]
  | some z => kindI (minorsI (hessI k q)) :: ((z.1.flatMap fun (n : Int) => frL ((n : Rat) / (z.2 : Rat))) ++ frL ((c : Rat) + fac l z / 2))
/-- x solves M x = t -/
def SolG (k : Nat) (M : List (List Int)) (t : List Int) (x : Vec) : Prop := ∀ u, InI (SV.ext M t) u → qf k x u = 0
structure Reg (k : Nat) (M : List (List Int)) (t : List Int) : Prop where
  sq : Sqr k M
  tl : t.length = k
  ex : ∃ x, SolG k M t x
  un : ∀ x y, SolG k M t x → SolG k M t y → ∀ j, j < k → x j = y j
def xsOf (z : List Int × Int) : Row := z.1.map fun (n : Int) => (n : Rat) / (z.2 : Rat)
theorem xs_V {z : List Int × Int} (j : Nat) : V (xsOf z) j = iv z.1 j / (z.2 : Rat) := by
  show (z.1.map _).getD j 0 = _
  by_cases h : j < z.1.length
  · rw [map_getD (d := 0) h]; rfl
  · rw [List.getD_eq_getElem?_getD, List.getElem?_eq_none (by simp; omega), iv_ge (by omega)]
    show (0 : Rat) = 0 / _
    grind
theorem reg_solved {k : Nat} {M : List (List Int)} {t : List Int} (R : Reg k M t) : ∃ z, SV.solved M t = some z ∧ z.1.length = k ∧ z.2 ≠ 0 ∧ SolG k M t fun j => iv z.1 j / (z.2 : Rat) := by
  cases h : SV.solved M t with
  | none =>
    obtain ⟨x, hx⟩ := R.ex
    exact absurd hx (SV.solved_noneG R.sq.2 R.tl h x)
  | some z =>
    obtain ⟨a, b, c⟩ := SV.solved_someG (nums := z.1) (d := z.2) R.sq.2 R.tl h
    exact ⟨z, rfl, b, a, c⟩
theorem ir_append (a b : List Int) : MD.ir (a ++ b) = MD.ir a ++ MD.ir b := by unfold MD.ir; rw [List.map_append]
theorem spec_rows : ∀ (M : List (List Int)) (l : List Int), List.zipWith (fun r b => r ++ [negative (ofInt b)]) (mpp (M.map MD.ir)) l = mpp ((SV.ext M (negL l)).map MD.ir)
  | [], _ => rfl
  | _ :: _, [] => rfl
  | m :: M, b :: l => by
    have ih := spec_rows M l
    show (mp (MD.ir m) ++ [negative (ofInt b)]) :: List.zipWith _ (mpp (M.map MD.ir)) l = mp (MD.ir (m ++ [-b])) :: mpp ((SV.ext M (negL l)).map MD.ir)
    rw [ih, ir_append]
    congr 1
    unfold mp
    rw [List.map_append]
    congr 1
theorem reg_spec {k : Nat} {M : List (List Int)} {l : List Int} {z : List Int × Int} (R : Reg k M (negL l)) (hz : SolG k M (negL l) fun j => iv z.1 j / (z.2 : Rat)) (hl : z.1.length = k) :
    solve k (List.zipWith (fun r b => r ++ [negative (ofInt b)]) (mpp (M.map MD.ir)) l) = mp (xsOf z) := by
  rw [spec_rows, solve_eq]
  congr 1
  have hw : ∀ r ∈ (SV.ext M (negL l)).map MD.ir, r.length = k + 1 := fun r hr => by
    obtain ⟨m, hm, rfl⟩ := List.mem_map.mp hr
    rw [MD.ir_len]; exact SV.ext_len R.sq.2 m hm
  have key := solve_ok hw (x := fun j => iv z.1 j / (z.2 : Rat)) fun r hr => by
    obtain ⟨m, hm, rfl⟩ := List.mem_map.mp hr
    obtain ⟨i, hi, e⟩ := List.mem_iff_getElem.mp hm
    rw [MD.V_ir]
    exact hz _ ⟨i, hi, by rw [SV.getD_lt hi, e]⟩
  have un := R.un _ _ (fun u ⟨i, hi, e⟩ => by
    have := key (MD.ir ((SV.ext M (negL l)).getD i [])) (List.mem_map.mpr ⟨_, SV.getD_in hi, rfl⟩)
    rw [MD.V_ir] at this
    rw [e]; exact this) hz
  refine List.ext_getElem (by rw [solve_len]; unfold xsOf; rw [List.length_map, hl]) fun j h1 h2 => ?_
  have hj : j < k := by rw [solve_len] at h1; exact h1
  have := un j hj
  rw [← xs_V, V_lt h1, V_lt h2] at this
  exact this
theorem half_go (X : Row) : ∀ (M : List (List Int)) (l : List Int) (Y : Row), (∀ i, i < M.length → qdot (MD.ir (M.getD i [])) X = -((l.getD i 0 : Int) : Rat)) → M.length = l.length →
    List.zipWith (fun r v => times v (over (dot r (mp X)) (ofInt 2))) (mpp (M.map MD.ir)) (mp Y) = mp (List.zipWith (fun (b v : Rat) => v * (-b / 2)) (MD.ir l) Y)
  | [], [], _, _, _ => rfl
  | m :: M, b :: l, [], _, _ => rfl
  | m :: M, b :: l, y :: Y, h, hl => by
    have ih := half_go X M l Y (fun i hi => by have := h (i + 1) (by simpa using hi); simpa using this) (by simpa using hl)
    show times (toF y) (over (dot (mp (MD.ir m)) (mp X)) (ofInt 2)) :: List.zipWith _ (mpp (M.map MD.ir)) (mp Y) = toF (y * (-(b : Rat) / 2)) :: mp (List.zipWith _ (MD.ir l) Y)
    rw [ih, dot_eq, ofInt_eq, over_eq, times_eq]
    have e := h 0 (by simp)
    have e : qdot (MD.ir m) X = -(b : Rat) := by simpa using e
    rw [e]; rfl
  | [], _ :: _, _, _, h => by simp at h
  | _ :: _, [], _, _, h => by simp at h
theorem half_sum : ∀ (a Y : Row), T (List.zipWith (fun (b v : Rat) => v * (-b / 2)) a Y) id = -(T (List.zipWith (· * ·) a Y) id) / 2
  | [], _ => by show (0 : Rat) = -0 / 2; grind
  | _ :: _, [] => by show (0 : Rat) = -0 / 2; grind
  | b :: a, v :: Y => by
    have := half_sum a Y
    show v * (-b / 2) + T (List.zipWith _ a Y) id = -(b * v + T (List.zipWith _ a Y) id) / 2
    rw [this]; grind
theorem reg_value {k : Nat} {M : List (List Int)} {l : List Int} {z : List Int × Int} {c : Int} (R : Reg k M (negL l)) (hz : SolG k M (negL l) fun j => iv z.1 j / (z.2 : Rat)) (hl : z.1.length = k) :
    plus (plus (ofInt c) (dot (fractions l) (mp (xsOf z)))) (total (List.zipWith (fun r v => times v (over (dot r (mp (xsOf z))) (ofInt 2))) (mpp (M.map MD.ir)) (mp (xsOf z)))) = toF ((c : Rat) + fac l z / 2) := by
  have hll : l.length = k := by have := R.tl; unfold negL at this; simpa using this
  have hx : (xsOf z).length = k := by unfold xsOf; rw [List.length_map, hl]
  have hM := R.sq.1
  have heq : ∀ i, i < M.length → qdot (MD.ir (M.getD i [])) (xsOf z) = -((l.getD i 0 : Int) : Rat) := fun i hi => by
    have hMi : (M.getD i []).length = k := R.sq.2 _ (SV.getD_in hi)
    rw [qdot_S (w := k) (by rw [MD.ir_len, hMi]) hx, MD.V_ir]
    have he : i < (SV.ext M (negL l)).length := by unfold SV.ext; rw [List.length_zipWith, R.tl]; omega
    have e := hz _ ⟨i, he, rfl⟩
    have ee : (SV.ext M (negL l)).getD i [] = M.getD i [] ++ [-(l.getD i 0)] := by
      have hb : (negL l).getD i 0 = -(l.getD i 0) := map_getD (d := 0) (by omega)
      have hn : i < (negL l).length := by rw [R.tl]; omega
      unfold SV.ext
      rw [List.getD_eq_getElem?_getD, List.getElem?_zipWith, List.getElem?_eq_getElem hi, List.getElem?_eq_getElem hn, SV.getD_lt hi, ← hb, SV.getD_lt hn]
      rfl
    rw [ee] at e
    unfold qf at e
    have e1 : iv (M.getD i [] ++ [-(l.getD i 0)]) k = ((-(l.getD i 0) : Int) : Rat) := by
      show (((M.getD i [] ++ [-(l.getD i 0)]).getD k 0 : Int) : Rat) = _
      have : (M.getD i [] ++ [-(l.getD i 0)]).getD k 0 = -(l.getD i 0) := by
        rw [List.getD_eq_getElem?_getD, List.getElem?_append_right (by omega), hMi]; simp
      rw [this]
    have e2 : S k (fun j => iv (M.getD i [] ++ [-(l.getD i 0)]) j * (iv z.1 j / (z.2 : Rat))) = S k fun j => iv (M.getD i []) j * V (xsOf z) j := S_congr fun j hj => by
      rw [xs_V]
      have : iv (M.getD i [] ++ [-(l.getD i 0)]) j = iv (M.getD i []) j := by
        show (((M.getD i [] ++ [-(l.getD i 0)]).getD j 0 : Int) : Rat) = (((M.getD i []).getD j 0 : Int) : Rat)
        rw [List.getD_eq_getElem?_getD, List.getElem?_append_left (by omega), ← List.getD_eq_getElem?_getD]
      rw [this]
    simp only [e2, e1, Rat.intCast_neg] at e
    grind
  rw [half_go (xsOf z) M l (xsOf z) heq (by omega), total_eq, half_sum, MD.fr_eq, dot_eq, ofInt_eq, plus_eq, plus_eq]
  congr 1
  have ef : fac l z = qdot (MD.ir l) (xsOf z) := by
    unfold fac
    rw [div_S hll hl, qdot_S (w := k) (by rw [MD.ir_len, hll]) hx, MD.V_ir]
    exact S_congr fun j hj => by rw [xs_V]
  rw [ef]
  show _ + T (List.zipWith (· * ·) (MD.ir l) (xsOf z)) id + _ = _ + T (List.zipWith (· * ·) (MD.ir l) (xsOf z)) id / 2
  grind
/-! regular ones -/
theorem solg {k : Nat} {M : List (List Int)} {t : List Int} {x : Vec} (h : ∀ i, i < (SV.ext M t).length → qf k x (iv ((SV.ext M t).getD i [])) = 0) : SolG k M t x := fun u ⟨i, hi, e⟩ => by rw [e]; exact h i hi
theorem cast_ne {z : Int} (h : z ≠ 0) : (z : Rat) ≠ 0 := fun q => h (Rat.intCast_eq_zero_iff.mp q)
theorem solg1 {a s : Int} {x : Vec} : SolG 1 [[a]] [s] x ↔ (a : Rat) * x 0 = s := by
  have e : qf 1 x (iv [a, s]) = (0 + (a : Rat) * x 0) - s := rfl
  constructor
  · intro h
    have := h _ ⟨0, by show 0 < 1; decide, rfl⟩
    have h1 : qf 1 x (iv [a, s]) = 0 := this
    rw [e] at h1; grind
  · intro h
    refine solg fun i hi => ?_
    have hi : i < 1 := hi
    obtain rfl : i = 0 := by omega
    show qf 1 x (iv [a, s]) = 0
    rw [e]; grind
theorem reg1 {a s : Int} (h : a ≠ 0) : Reg 1 [[a]] [s] where
  sq := ⟨rfl, by simp⟩
  tl := rfl
  ex := ⟨fun _ => (s : Rat) / a, solg1.mpr (by have := cast_ne h; grind)⟩
  un := fun x y hx hy j hj => by
    obtain rfl : j = 0 := by omega
    have := cast_ne h
    have h1 := solg1.mp hx
    have h2 := solg1.mp hy
    have : (a : Rat) * (x 0 - y 0) = 0 := by grind
    rcases Rat.mul_eq_zero.mp this with q | q
    · contradiction
    · grind
theorem solg2 {a b c d s t : Int} {x : Vec} : SolG 2 [[a, b], [c, d]] [s, t] x ↔ (a : Rat) * x 0 + b * x 1 = s ∧ (c : Rat) * x 0 + d * x 1 = t := by
  have e1 : qf 2 x (iv [a, b, s]) = (0 + (a : Rat) * x 0 + b * x 1) - s := rfl
  have e2 : qf 2 x (iv [c, d, t]) = (0 + (c : Rat) * x 0 + d * x 1) - t := rfl
  constructor
  · intro h
    have h1 : qf 2 x (iv [a, b, s]) = 0 := h _ ⟨0, by show 0 < 2; decide, rfl⟩
    have h2 : qf 2 x (iv [c, d, t]) = 0 := h _ ⟨1, by show 1 < 2; decide, rfl⟩
    rw [e1] at h1; rw [e2] at h2
    constructor <;> grind
  · rintro ⟨h1, h2⟩
    refine solg fun i hi => ?_
    have hi : i < 2 := hi
    match i, hi with
    | 0, _ => show qf 2 x (iv [a, b, s]) = 0; rw [e1]; grind
    | 1, _ => show qf 2 x (iv [c, d, t]) = 0; rw [e2]; grind
theorem reg2 {a b c d s t : Int} (h : a * d - b * c ≠ 0) : Reg 2 [[a, b], [c, d]] [s, t] where
  sq := ⟨rfl, by simp⟩
  tl := rfl
  ex := by
    have hd := cast_ne h
    rw [Rat.intCast_sub, Rat.intCast_mul, Rat.intCast_mul] at hd
    refine ⟨fun j => if j = 0 then ((s : Rat) * d - t * b) / ((a : Rat) * d - b * c) else ((a : Rat) * t - c * s) / ((a : Rat) * d - b * c), solg2.mpr ?_⟩
    simp only [if_true, if_neg (show ¬ (1 = 0) by decide)]
    constructor <;> grind
  un := fun x y hx hy j hj => by
    have hd := cast_ne h
    rw [Rat.intCast_sub, Rat.intCast_mul, Rat.intCast_mul] at hd
    obtain ⟨h1, h2⟩ := solg2.mp hx
    obtain ⟨h3, h4⟩ := solg2.mp hy
    match j, hj with
    | 0, _ =>
      have : ((a : Rat) * d - b * c) * (x 0 - y 0) = 0 := by grind
      rcases Rat.mul_eq_zero.mp this with q | q
      · contradiction
      · grind
    | 1, _ =>
      have : ((a : Rat) * d - b * c) * (x 1 - y 1) = 0 := by grind
      rcases Rat.mul_eq_zero.mp this with q | q
      · contradiction
      · grind
theorem solg3 {a b c d e f g h i r s t : Int} {x : Vec} : SolG 3 [[a, b, c], [d, e, f], [g, h, i]] [r, s, t] x ↔ (a : Rat) * x 0 + b * x 1 + c * x 2 = r ∧ (d : Rat) * x 0 + e * x 1 + f * x 2 = s ∧ (g : Rat) * x 0 + h * x 1 + i * x 2 = t := by
  have e1 : qf 3 x (iv [a, b, c, r]) = (0 + (a : Rat) * x 0 + b * x 1 + c * x 2) - r := rfl
  have e2 : qf 3 x (iv [d, e, f, s]) = (0 + (d : Rat) * x 0 + e * x 1 + f * x 2) - s := rfl
  have e3 : qf 3 x (iv [g, h, i, t]) = (0 + (g : Rat) * x 0 + h * x 1 + i * x 2) - t := rfl
  constructor
  · intro q
    have h1 : qf 3 x (iv [a, b, c, r]) = 0 := q _ ⟨0, by show 0 < 3; decide, rfl⟩
    have h2 : qf 3 x (iv [d, e, f, s]) = 0 := q _ ⟨1, by show 1 < 3; decide, rfl⟩
    have h3 : qf 3 x (iv [g, h, i, t]) = 0 := q _ ⟨2, by show 2 < 3; decide, rfl⟩
    rw [e1] at h1; rw [e2] at h2; rw [e3] at h3
    refine ⟨?_, ?_, ?_⟩ <;> grind
  · rintro ⟨h1, h2, h3⟩
    refine solg fun j hj => ?_
    have hj : j < 3 := hj
    match j, hj with
    | 0, _ => show qf 3 x (iv [a, b, c, r]) = 0; rw [e1]; grind
    | 1, _ => show qf 3 x (iv [d, e, f, s]) = 0; rw [e2]; grind
    | 2, _ => show qf 3 x (iv [g, h, i, t]) = 0; rw [e3]; grind
theorem div_of {D x y : Rat} (h : D ≠ 0) (e : D * x = y) : x = y / D := by grind
theorem reg3 {a b c d e f g h i r s t : Int} (hD : a * (e * i - f * h) - b * (d * i - f * g) + c * (d * h - e * g) ≠ 0) : Reg 3 [[a, b, c], [d, e, f], [g, h, i]] [r, s, t] where
  sq := ⟨rfl, by simp⟩
  tl := rfl
  ex := by
    have hd := cast_ne hD
    simp only [Rat.intCast_sub, Rat.intCast_mul, Rat.intCast_add] at hd
    generalize hE : (a : Rat) * (e * i - f * h) - b * (d * i - f * g) + c * (d * h - e * g) = D at hd
    refine ⟨fun j => if j = 0 then ((r : Rat) * (e * i - f * h) - b * (s * i - f * t) + c * (s * h - e * t)) / D else if j = 1 then ((a : Rat) * (s * i - f * t) - r * (d * i - f * g) + c * (d * t - s * g)) / D else ((a : Rat) * (e * t - s * h) - b * (d * t - s * g) + r * (d * h - e * g)) / D, solg3.mpr ?_⟩
    simp only [if_true, if_neg (show ¬ (1 = 0) by decide), if_neg (show ¬ (2 = 0) by decide), if_neg (show ¬ (2 = 1) by decide)]
    have k : ∀ u v w x y z q : Rat, u * x + v * y + w * z = q * D → u * (x / D) + v * (y / D) + w * (z / D) = q := fun u v w x y z q hh => by
      have : u * (x / D) + v * (y / D) + w * (z / D) = (u * x + v * y + w * z) / D := by grind
      rw [this, hh]; grind
    refine ⟨k _ _ _ _ _ _ _ ?_, k _ _ _ _ _ _ _ ?_, k _ _ _ _ _ _ _ ?_⟩ <;> rw [← hE] <;> grind
  un := fun x y hx hy j hj => by
    have hd := cast_ne hD
    simp only [Rat.intCast_sub, Rat.intCast_mul, Rat.intCast_add] at hd
    obtain ⟨h1, h2, h3⟩ := solg3.mp hx
    obtain ⟨h4, h5, h6⟩ := solg3.mp hy
    generalize hE : (a : Rat) * (e * i - f * h) - b * (d * i - f * g) + c * (d * h - e * g) = D at hd
    have z : ∀ u : Rat, D * u = 0 → u = 0 := fun u q => by
      rcases Rat.mul_eq_zero.mp q with p | p
      · contradiction
      · exact p
    generalize hu : x 0 - y 0 = u
    generalize hv : x 1 - y 1 = v
    generalize hw : x 2 - y 2 = w
    have k1 : (a : Rat) * u + b * v + c * w = 0 := by grind
    have k2 : (d : Rat) * u + e * v + f * w = 0 := by grind
    have k3 : (g : Rat) * u + h * v + i * w = 0 := by grind
    match j, hj with
    | 0, _ =>
      have q : D * u = (e * i - f * h) * ((a : Rat) * u + b * v + c * w) - (b * i - c * h) * ((d : Rat) * u + e * v + f * w) + (b * f - c * e) * ((g : Rat) * u + h * v + i * w) := by rw [← hE]; grind
      rw [k1, k2, k3] at q
      have := z u (by grind)
      grind
    | 1, _ =>
      have q : D * v = -(d * i - f * g) * ((a : Rat) * u + b * v + c * w) + (a * i - c * g) * ((d : Rat) * u + e * v + f * w) - (a * f - c * d) * ((g : Rat) * u + h * v + i * w) := by rw [← hE]; grind
      rw [k1, k2, k3] at q
      have := z v (by grind)
      grind
    | 2, _ =>
      have q : D * w = (d * h - e * g) * ((a : Rat) * u + b * v + c * w) - (a * h - b * g) * ((d : Rat) * u + e * v + f * w) + (a * e - b * d) * ((g : Rat) * u + h * v + i * w) := by rw [← hE]; grind
      rw [k1, k2, k3] at q
      have := z w (by grind)
      grind
/-- every call of stationary -/
theorem within_resp (l : List Int) : withinB l 1000000 = !(l.any fun z => !isResponse z) := by
  unfold withinB
  rw [List.any_eq_not_all_not, Bool.not_not]
  congr 1
  funext z
  unfold isResponse
  have : maxResponse = 1000000 := rfl
  rw [this, Bool.not_not, ← Bool.decide_and]
  congr 1
  exact propext ⟨fun h => by omega, fun h => by omega⟩
theorem surf_iff (k : Nat) (c : Int) (l q : List Int) : isSurf k c l q = true ↔ ¬ (k = 0 ∨ 3 < k ∨ l.length ≠ k ∨ q.length ≠ k * (k + 1) / 2 ∨ (c :: l ++ q).any (fun z => !isResponse z) = true) := by
  have e : ((k : Int) * ((k : Int) + 1)).fdiv 2 = ((k * (k + 1) / 2 : Nat) : Int) := by
    rw [Int.fdiv_eq_ediv_of_nonneg _ (by decide)]
    rw [Int.natCast_ediv, Int.natCast_mul]; rfl
  unfold isSurf
  rw [e, within_resp]
  generalize (c :: l ++ q).any (fun z => !isResponse z) = b
  by_cases h1 : k = 0
  · simp [h1]
  by_cases h2 : 3 < k
  · have : (3 : Int) < (k : Int) := by omega
    simp [h2, this]
  have h3 : ¬ (k : Int) < 1 := by omega
  have h4 : ¬ (3 : Int) < (k : Int) := by omega
  by_cases h5 : l.length = k
  · by_cases h6 : q.length = k * (k + 1) / 2
    · have h7 : (q.length : Int) = ((k * (k + 1) / 2 : Nat) : Int) := by omega
      have h8 : (l.length : Int) = (k : Int) := by omega
      simp only [h1, h2, h3, h4, h5, h6, decide_false, decide_true, Bool.or_self, Bool.not_true, Bool.false_eq_true, if_false, ne_eq, not_true_eq_false, false_or]
      cases b <;> simp
    · have h7 : ¬ (q.length : Int) = ((k * (k + 1) / 2 : Nat) : Int) := by omega
      rw [decide_eq_false h3, decide_eq_false h4, decide_eq_false h7]
      simp [h6]
  · have h7 : ¬ (l.length : Int) = (k : Int) := by omega
    simp [h3, h4, h5, h7]
theorem stat_go {k : Nat} {c : Int} {l q : List Int} {R : List (List Int)} (hR : hessI k q = R) (hS : hessian k q = mpp (R.map MD.ir)) (hK : kindOf k (mpp (R.map MD.ir)) = kindS (minorsI R)) (hG : (minorsI R).getLastD 0 ≠ 0 → Reg k R (negL l)) (hs : isSurf k c l q = true) (m : Model) :
    Kxd4Neutral.fields (query m (.stationary k c l q)) = aStat k c l q := by
  have h := (surf_iff k c l q).mp hs
  have e : query m (.stationary k c l q) = (let kind := kindOf k (hessian k q)
    if kind = 3 then .value (-33)
    else
      let x := Kxd4.stationary k l q
      .values kind (x.flatMap fields ++ fields (valueAt c k l q x))) := by
    show (if _ then _ else _) = _
    rw [if_neg h]
  rw [e]
  simp only []
  rw [hS, hK]
  have ea : aStat k c l q = (if (minorsI R).getLastD 0 = 0 then [-33] else match SV.solved R (negL l) with
    | none => [-33]
    | some z => kindI (minorsI R) :: ((z.1.flatMap fun (n : Int) => frL ((n : Rat) / (z.2 : Rat))) ++ frL ((c : Rat) + fac l z / 2))) := by
    unfold aStat ptI
    rw [hR, if_neg (show ¬ isSurf k c l q = false by rw [hs]; simp)]
  rw [ea]
  by_cases h0 : (minorsI R).getLastD 0 = 0
  · have ks : kindS (minorsI R) = 3 := by unfold kindS; rw [if_pos h0]
    rw [if_pos ks, if_pos h0]; rfl
  · have kr : kindI (minorsI R) = 0 ∨ kindI (minorsI R) = 1 ∨ kindI (minorsI R) = 2 := by
      unfold kindI
      split
      · exact .inl rfl
      · split
        · exact .inr (.inl rfl)
        · exact .inr (.inr rfl)
    have ks : kindS (minorsI R) = (kindI (minorsI R)).toNat := by unfold kindS; rw [if_neg h0]
    rw [if_neg (by omega : ¬ kindS (minorsI R) = 3), if_neg h0, ks]
    have G := hG h0
    obtain ⟨z, h1, h2, h3, h4⟩ := reg_solved G
    have sp := reg_spec G h4 h2
    have vl := reg_value (c := c) G h4 h2
    have e1 : Kxd4.stationary k l q = mp (xsOf z) := by
      unfold Kxd4.stationary
      rw [hS]; exact sp
    have e2 : valueAt c k l q (mp (xsOf z)) = toF ((c : Rat) + fac l z / 2) := by
      unfold valueAt
      rw [hS]; exact vl
    rw [e1, e2, h1]
    have e3 : (mp (xsOf z)).flatMap fields = z.1.flatMap fun (n : Int) => frL ((n : Rat) / (z.2 : Rat)) := by
      unfold mp xsOf
      rw [List.flatMap_map, List.flatMap_map]; rfl
    rw [e3]
    show ((kindI (minorsI R)).toNat : Int) :: _ = kindI (minorsI R) :: _
    rw [show (((kindI (minorsI R)).toNat : Nat) : Int) = kindI (minorsI R) by omega]; rfl
theorem stat_eq (k : Nat) (c : Int) (l q : List Int) (m : Model) : Kxd4Neutral.fields (query m (.stationary k c l q)) = aStat k c l q := by
  by_cases hs : isSurf k c l q = true
  · have h := (surf_iff k c l q).mp hs
    rw [not_or, not_or, not_or, not_or] at h
    obtain ⟨k0, k3, hl, hq, _⟩ := h
    have hl : l.length = k := by omega
    have hq : q.length = k * (k + 1) / 2 := by omega
    rcases (by omega : k = 1 ∨ k = 2 ∨ k = 3) with e | e | e
    · subst e
      have hq : q.length = 1 := hq
      match q, hq, l, hl with
      | [a], _, [s], _ =>
        refine stat_go (h1 a) (s1 a) ?_ (fun g => reg1 ?_) hs m
        · rw [m1]; exact kind1 (2 * a)
        · rw [m1] at g; exact g
    · subst e
      have hq : q.length = 3 := hq
      match q, hq, l, hl with
      | [a, b, c'], _, [s, t], _ =>
        refine stat_go (h2 a b c') (s2 a b c') ?_ (fun g => reg2 ?_) hs m
        · rw [m2]; exact kind2 (2 * a) b (2 * c')
        · rw [m2] at g; exact g
    · subst e
      have hq : q.length = 6 := hq
      match q, hq, l, hl with
      | [a, b, c', d, e, f], _, [r, s, t], _ =>
        refine stat_go (h3 a b c' d e f) (s3 a b c' d e f) ?_ (fun g => reg3 ?_) hs m
        · rw [m3]; exact kind3 (2 * a) b c' (2 * d) e (2 * f)
        · rw [m3] at g
          intro z; apply g
          show _ = _
          rw [← z]
          show 2 * a * (2 * d * (2 * f) - e * e) - b * (b * (2 * f) - e * c') + c' * (b * e - 2 * d * c') = _
          grind
  · have h : k = 0 ∨ 3 < k ∨ l.length ≠ k ∨ q.length ≠ k * (k + 1) / 2 ∨ (c :: l ++ q).any (fun z => !isResponse z) = true := Classical.byContradiction fun z => hs ((surf_iff k c l q).mpr z)
    have e : query m (.stationary k c l q) = .value (-22) := by
      show (if _ then _ else _) = _
      rw [if_pos h]
    rw [e]
    unfold aStat
    rw [if_pos (by simpa using hs)]; rfl
end Lf
end
section
set_option Elab.async false
set_option linter.all false
/-! The answers in plain Lean, and that they are the specification's -/
namespace Lf
open NB Ty Kxd4 SP LA DT EC LS
open BA (iv InI)
def aRank (m : ModD) : List Int := [((fitM m).rank : Nat), (fitM m).free]
def aCoef (m : ModD) : List Int := if ((fitM m).rank : Int) < (m.cc : Int) then [-33] else (m.cc : Int) :: (solM m).1.flatMap fun (z : Int) => frL ((z : Rat) / ((solM m).2 : Rat))
def aTold (m : ModD) (v : List Int) (a : Int) : List Int := if fitsC m v = false then [-22] else match wts m v with
  | none => [-33]
  | some z => 0 :: (frL ((fitM m).est v) ++ frL (fac v z + (a : Rat)))
def aCov (m : ModD) (c d : List Int) : List Int := if fitsC m c = false ∨ fitsC m d = false then [-22] else match wts m d, wts m c with
  | some z, some _ => 0 :: frL (fac c z)
  | _, _ => [-33]
def aSq (m : ModD) (v : List Int) : List Int := if fitsC m v = false then [-22] else match wts m v with
  | none => [-33]
  | some z => if (fitM m).free = 0 then [-33] else if ((fitM m).rss / ((fitM m).free : Rat)).num = 0 then [-33] else if (fac v z).num = 0 then [-33]
    else 0 :: frL ((fitM m).est v * (fitM m).est v / ((fitM m).rss / ((fitM m).free : Rat)) / fac v z)
def resAt (m : ModD) (i : Nat) : Rat := ((m.resp.getD i 0 : Int) : Rat) - (fitM m).est (rowAt m i)
def aFit (m : ModD) (i : Nat) : List Int := if m.hasRow i = false then [-2] else 0 :: (frL ((fitM m).est (rowAt m i)) ++ frL (resAt m i))
def levAt (m : ModD) (i : Nat) : Rat := fac (rowAt m i) (wtsR m i)
def aLev (m : ModD) (i : Nat) : List Int := if m.hasRow i = false then [-2] else 0 :: frL (levAt m i)
def aDel (m : ModD) (i : Nat) : List Int := if m.hasRow i = false then [-2] else if (1 - levAt m i).num = 0 then [-33] else 0 :: frL (resAt m i / (1 - levAt m i))
def aLost (m : ModD) (i : Nat) : List Int := if m.hasRow i = false then [-2] else match wts (m.without i) (rowAt m i) with
  | none => [-33]
  | some _ => 0 :: frL ((fitM (m.without i)).est (rowAt m i))
def aRss (m : ModD) : List Int := (fitM m).free :: frL (fitM m).rss
def aVar (m : ModD) : List Int := if (fitM m).free = 0 then [-33] else 0 :: frL ((fitM m).rss / ((fitM m).free : Rat))
def aNorm (m : ModD) : List Int := (m.cc : Int) :: (List.zipWith (fun (p : List Int) (z : Int) => p ++ [z]) (prodsM m) (momM m)).flatten
/-! the specification's model -/
def sM (m : ModD) : Model := ⟨m.cc, m.terms, obs m.rows m.resp⟩
def ans (m : ModD) (q : Request) : List Int := Kxd4Neutral.fields (query (sM m) q)
theorem wfM {m : ModD} (h : OkM m) : MD.WF (sM m) := ⟨fun o ho => (h.wd _ (obs_mem ho)).1⟩
theorem frF (q : Rat) : fields (toF q) = frL q := rfl
theorem frR (q : Rat) : Kxd4Neutral.fields (fractionResult (toF q)) = 0 :: frL q := rfl
theorem fits_isRow (m : ModD) (v : List Int) : fitsC m v = isRow (sM m) v := by
  unfold fitsC isRow withinB
  have : maxEntry = 1000 := rfl
  rw [this]
  congr 1
  · show decide ((v.length : Int) = (m.cc : Int)) = (v.length == m.cc)
    rw [Bool.eq_iff_iff, beq_iff_eq, decide_eq_true_iff]
    omega
  · congr 1
    funext z
    rw [← Bool.decide_and]
    congr 1
    exact propext ⟨fun h => by omega, fun h => by omega⟩
theorem wts_est {m : ModD} (h : OkM m) {v : List Int} (hl : v.length = m.cc) : isEstimable (sM m) (fractions v) = (wts m v).isSome := by
  rw [Bool.eq_iff_iff, MD.est_iff (wfM h) (c := v) hl, Option.isSome_iff_exists]
  exact wts_iff h hl
theorem est_spec {m : ModD} (h : OkM m) {v : List Int} (hl : v.length = m.cc) (he : ∃ z, wts m v = some z) : dot (fractions v) (solution (sM m)) = toF ((fitM m).est v) := by
  have F := fitFor h
  rw [MD.estimate_eq (wfM h) (c := v) hl ((wts_iff h hl).mpr he) F.isSol, F.est hl]; rfl
theorem cov_spec {m : ModD} (h : OkM m) {c d : List Int} {z : List Int × Int} (hc : c.length = m.cc) (hd : d.length = m.cc) (he : ∃ y, wts m c = some y) (hz : wts m d = some z) : Kxd4.covariance (sM m) (fractions c) (fractions d) = toF (fac c z) := by
  obtain ⟨z0, zl, zs⟩ := wts_sol h hd hz
  rw [MD.cov_eq (m := sM m) (c := c) (d := d) hc ((wts_iff h hc).mpr he) ((wts_iff h hd).mpr ⟨z, hz⟩) zs]
  unfold fac
  rw [div_S hc zl]; rfl
theorem rss_spec {m : ModD} (h : OkM m) : residualOf (sM m) = toF (fitM m).rss := by
  rw [MD.resid_eq (wfM h), (fitFor h).rss]; rfl
theorem rank_spec {m : ModD} (h : OkM m) : Kxd4.rank (sM m) = (fitM m).rank := by
  rw [MD.rank_q, (fitFor h).rank]; rfl
/-! ranks -/
theorem qrank_snoc {w : Nat} {rows : List Row} {c : Row} (hl : ∀ r ∈ rows, r.length = w) (hc : c.length = w) : (Span (InR rows) (V c) ∧ qrank (rows ++ [c]) = qrank rows) ∨ (¬ Span (InR rows) (V c) ∧ qrank (rows ++ [c]) = qrank rows + 1) := by
  have e : qech (rows ++ [c]) = qstep (qech rows) c := by
    unfold qech; rw [List.foldl_append]; rfl
  have h := rank_more hl hc
  unfold qrank at h ⊢
  rw [e] at h ⊢
  cases q : qlead ((qech rows).foldl qred c) with
  | none =>
    rw [step_none q] at h ⊢
    exact .inl ⟨h.mp (by simp), rfl⟩
  | some k =>
    rw [step_some q] at h ⊢
    refine .inr ⟨fun s => ?_, by simp⟩
    have := h.mpr s
    simp at this
theorem qrank_le {w : Nat} : ∀ (n : Nat) {rows : List Row}, rows.length = n → (∀ r ∈ rows, r.length = w) → qrank rows ≤ n
  | 0, rows, h, _ => by
    rw [List.length_eq_zero_iff.mp h]; exact Nat.le_refl _
  | n + 1, rows, h, hl => by
    have ne : rows ≠ [] := by intro q; rw [q] at h; simp at h
    obtain ⟨pre, c, rfl⟩ : ∃ pre c, rows = pre ++ [c] := ⟨rows.dropLast, rows.getLast ne, (List.dropLast_concat_getLast ne).symm⟩
    have ih := qrank_le (w := w) n (rows := pre) (by simpa using h) fun r hr => hl r (by simp [hr])
    rcases qrank_snoc (w := w) (rows := pre) (c := c) (fun r hr => hl r (by simp [hr])) (hl c (by simp)) with ⟨_, e⟩ | ⟨_, e⟩ <;> omega
theorem rows_len {m : ModD} (h : OkM m) : (rowsOf (datM m)).length = m.rows.length := by
  unfold rowsOf datM MD.dat
  rw [List.length_map, List.length_map, obs_len h.rl]
theorem rank_rows {m : ModD} (h : OkM m) : (fitM m).rank ≤ m.rows.length := by
  rw [(fitFor h).rank]
  exact qrank_le (w := m.cc) _ (rows_len h) (MD.rows_len (fitFor h).wide)
theorem free_spec {m : ModD} (h : OkM m) : ((freedom (sM m) : Nat) : Int) = (fitM m).free := by
  unfold freedom
  rw [rank_spec h]
  have := rank_rows h
  show (((obs m.rows m.resp).length - (fitM m).rank : Nat) : Int) = (m.rows.length : Int) - ((fitM m).rank : Int)
  rw [obs_len h.rl]; omega
theorem free0 {m : ModD} (h : OkM m) : freedom (sM m) = 0 ↔ (fitM m).free = 0 := by
  have := free_spec h
  omega
theorem ofN (n : Nat) : ofNat n = toF ((n : Int) : Rat) := rfl
theorem freeR {m : ModD} (h : OkM m) : ofNat (freedom (sM m)) = toF ((fitM m).free : Rat) := by rw [ofN, free_spec h]
/-! each operation -/
theorem x_rank {m : ModD} (h : OkM m) : ans m .rank = aRank m := by
  show [((Kxd4.rank (sM m) : Nat) : Int), ((freedom (sM m) : Nat) : Int)] = _
  rw [free_spec h, rank_spec h]; rfl
theorem x_rss {m : ModD} (h : OkM m) : ans m .residualSum = aRss m := by
  show ((freedom (sM m) : Nat) : Int) :: fields (residualOf (sM m)) = _
  rw [free_spec h, rss_spec h]; rfl
theorem x_var {m : ModD} (h : OkM m) : ans m .varianceEstimate = aVar m := by
  show Kxd4Neutral.fields (if _ then _ else _) = _
  unfold aVar
  by_cases c : (fitM m).free = 0
  · rw [if_pos ((free0 h).mpr c), if_pos c]; rfl
  · rw [if_neg fun q => c ((free0 h).mp q), if_neg c, rss_spec h, freeR h, over_eq, frR]
theorem withE (m : ModD) (v : List Int) (f : List Fraction → Result) : Kxd4Neutral.fields (withEstimable (sM m) v f) = if fitsC m v = false then [-22] else if isEstimable (sM m) (fractions v) = false then [-33] else Kxd4Neutral.fields (f (fractions v)) := by
  unfold withEstimable
  rw [← fits_isRow]
  split
  · rfl
  · split <;> rfl
theorem x_told {m : ModD} (h : OkM m) (v : List Int) (a : Int) (g : Fraction → Fraction) (hg : ∀ q : Rat, g (toF q) = toF (q + (a : Rat))) :
    Kxd4Neutral.fields (withEstimable (sM m) v fun v => .values 0 (fields (dot v (solution (sM m))) ++ fields (g (Kxd4.covariance (sM m) v v)))) = aTold m v a := by
  rw [withE]
  unfold aTold
  by_cases c : fitsC m v = false
  · rw [if_pos c, if_pos c]
  · rw [if_neg c, if_neg c]
    have hl := (fitsC_bd (m := m) (v := v) (by simpa using c)).1
    rw [wts_est h hl]
    cases hw : wts m v with
    | none => rfl
    | some z =>
      rw [est_spec h hl ⟨z, hw⟩, cov_spec h hl hl ⟨z, hw⟩ hw, hg]; rfl
theorem x_estimate {m : ModD} (h : OkM m) (v : List Int) : ans m (.estimate v) = aTold m v 0 :=
  x_told h v 0 (fun q => q) fun q => by
    have : q + ((0 : Int) : Rat) = q := by have : ((0 : Int) : Rat) = 0 := rfl; rw [this]; grind
    rw [this]
theorem x_predict {m : ModD} (h : OkM m) (v : List Int) : ans m (.predict v) = aTold m v 1 :=
  x_told h v 1 (fun q => plus (ofInt 1) q) fun q => by
    rw [ofInt_eq, plus_eq]
    congr 1
    grind
theorem x_cov {m : ModD} (h : OkM m) (c d : List Int) : ans m (.covariance c d) = aCov m c d := by
  show Kxd4Neutral.fields (if _ then _ else _) = _
  unfold aCov
  rw [← fits_isRow, ← fits_isRow]
  by_cases q : fitsC m c = false ∨ fitsC m d = false
  · rw [if_pos q, if_pos q]; rfl
  · rw [if_neg q, if_neg q]
    rw [not_or] at q
    have h1 := (fitsC_bd (m := m) (v := c) (by simpa using q.1)).1
    have h2 := (fitsC_bd (m := m) (v := d) (by simpa using q.2)).1
    rw [wts_est h h1, wts_est h h2]
    cases hc : wts m c with
    | none =>
      rw [if_pos (.inl rfl)]
      cases wts m d <;> rfl
    | some y =>
      cases hd : wts m d with
      | none => rw [if_pos (.inr rfl)]; rfl
      | some z =>
        rw [if_neg (by simp), cov_spec h h1 h2 ⟨y, hc⟩ hd, frR]
theorem num0 (q : Rat) : q.num = 0 ↔ q = 0 := Rat.num_eq_zero
theorem freeQ {m : ModD} (c : ¬ (fitM m).free = 0) : ((fitM m).free : Rat) ≠ 0 := cast_ne c
theorem x_sq {m : ModD} (h : OkM m) (v : List Int) : ans m (.squaredRatio v) = aSq m v := by
  refine (withE m v fun v => let s := residualOf (sM m)
    if freedom (sM m) = 0 ∨ s.numerator = 0 ∨ (Kxd4.covariance (sM m) v v).numerator = 0 then .value (-33)
    else fractionResult (over (times (dot v (solution (sM m))) (dot v (solution (sM m)))) (times (over s (ofNat (freedom (sM m)))) (Kxd4.covariance (sM m) v v)))).trans ?_
  unfold aSq
  by_cases c : fitsC m v = false
  · rw [if_pos c, if_pos c]
  · rw [if_neg c, if_neg c]
    have hl := (fitsC_bd (m := m) (v := v) (by simpa using c)).1
    rw [wts_est h hl]
    cases hw : wts m v with
    | none => rfl
    | some z =>
      simp only [Option.isSome_some, Bool.true_eq_false, if_false]
      rw [rss_spec h, est_spec h hl ⟨z, hw⟩, cov_spec h hl hl ⟨z, hw⟩ hw, freeR h]
      by_cases f : (fitM m).free = 0
      · rw [if_pos (.inl ((free0 h).mpr f)), if_pos f]; rfl
      · have f2 := freeQ f
        rw [if_neg f]
        have e1 : ((fitM m).rss / ((fitM m).free : Rat)).num = 0 ↔ (toF (fitM m).rss).numerator = 0 := by
          rw [num0, toF_num]
          constructor
          · intro q
            have : (fitM m).rss = (fitM m).rss / ((fitM m).free : Rat) * ((fitM m).free : Rat) := by grind
            rw [this, q]; grind
          · intro q; rw [q]; grind
        by_cases g : ((fitM m).rss / ((fitM m).free : Rat)).num = 0
        · rw [if_pos g, if_pos (.inr (.inl (e1.mp g)))]; rfl
        · rw [if_neg g]
          by_cases k : (fac v z).num = 0
          · rw [if_pos k, if_pos (.inr (.inr k))]; rfl
          · rw [if_neg k, if_neg (by
              rintro (q | q | q)
              · exact f ((free0 h).mp q)
              · exact g (e1.mpr q)
              · exact k q), times_eq, over_eq, times_eq, over_eq, frR]
            congr 2
            have g2 : (fitM m).rss / ((fitM m).free : Rat) ≠ 0 := fun q => g ((num0 _).mpr q)
            have k2 : fac v z ≠ 0 := fun q => k ((num0 _).mpr q)
            generalize (fitM m).rss / ((fitM m).free : Rat) = s at *
            generalize fac v z = t at *
            generalize (fitM m).est v = u at *
            grind
theorem hasRow_iff (m : ModD) (i : Nat) : m.hasRow i = true ↔ i < m.rows.length := by
  unfold ModD.hasRow
  rw [Bool.and_eq_true, decide_eq_true_iff, decide_eq_true_iff]
  omega
theorem withO {m : ModD} (h : OkM m) (i : Nat) (f : Observation → Result) : Kxd4Neutral.fields (withObservation (sM m) i f) = if m.hasRow i = false then [-2] else Kxd4Neutral.fields (f ⟨rowAt m i, m.resp.getD i 0⟩) := by
  unfold withObservation
  by_cases c : i < m.rows.length
  · have e : (sM m).data[i]? = some ⟨rowAt m i, m.resp.getD i 0⟩ := obs_get h.rl c
    rw [e, if_neg (by rw [(hasRow_iff m i).mpr c]; simp)]
  · have e : (sM m).data[i]? = none := List.getElem?_eq_none (by show (obs m.rows m.resp).length ≤ i; rw [obs_len h.rl]; omega)
    rw [e, if_pos (by
      cases q : m.hasRow i with
      | false => rfl
      | true => exact absurd ((hasRow_iff m i).mp q) c)]; rfl
theorem rowLen {m : ModD} (h : OkM m) {i : Nat} (hi : i < m.rows.length) : (rowAt m i).length = m.cc := (h.wd _ (SV.getD_in hi)).1
theorem x_get {m : ModD} (h : OkM m) (i : Nat) : ans m (.getRow i) = if m.hasRow i = false then [-2] else m.resp.getD i 0 :: rowAt m i := by
  show Kxd4Neutral.fields (withObservation (sM m) i _) = _
  rw [withO h]; rfl
theorem res_spec {m : ModD} (h : OkM m) {i : Nat} (hi : i < m.rows.length) : residual (sM m) ⟨rowAt m i, m.resp.getD i 0⟩ = toF (resAt m i) := by
  unfold residual
  show minus (toF ((m.resp.getD i 0 : Int) : Rat)) (dot (fractions (rowAt m i)) (solution (sM m))) = _
  rw [est_spec h (rowLen h hi) ⟨_, okRow h hi⟩, minus_eq]; rfl
theorem lev_spec {m : ModD} (h : OkM m) {i : Nat} (hi : i < m.rows.length) : Kxd4.leverage (sM m) ⟨rowAt m i, m.resp.getD i 0⟩ = toF (levAt m i) := by
  unfold Kxd4.leverage
  exact cov_spec h (rowLen h hi) (rowLen h hi) ⟨_, okRow h hi⟩ (okRow h hi)
theorem x_fit {m : ModD} (h : OkM m) (i : Nat) : ans m (.fitted i) = aFit m i := by
  show Kxd4Neutral.fields (withObservation (sM m) i _) = _
  rw [withO h]
  unfold aFit
  by_cases c : m.hasRow i = true
  · have hi := (hasRow_iff m i).mp c
    have nc : ¬ m.hasRow i = false := by rw [c]; simp
    rw [if_neg nc, if_neg nc, res_spec h hi]
    show 0 :: (fields (dot (fractions (rowAt m i)) (solution (sM m))) ++ _) = _
    rw [est_spec h (rowLen h hi) ⟨_, okRow h hi⟩]; rfl
  · have c : m.hasRow i = false := by simpa using c
    rw [if_pos c, if_pos c]
theorem x_lev {m : ModD} (h : OkM m) (i : Nat) : ans m (.leverage i) = aLev m i := by
  show Kxd4Neutral.fields (withObservation (sM m) i _) = _
  rw [withO h]
  unfold aLev
  by_cases c : m.hasRow i = true
  · have hi := (hasRow_iff m i).mp c
    have nc : ¬ m.hasRow i = false := by rw [c]; simp
    rw [if_neg nc, if_neg nc, lev_spec h hi]; rfl
  · have c : m.hasRow i = false := by simpa using c
    rw [if_pos c, if_pos c]
theorem x_del {m : ModD} (h : OkM m) (i : Nat) : ans m (.deleted i) = aDel m i := by
  show Kxd4Neutral.fields (withObservation (sM m) i _) = _
  rw [withO h]
  unfold aDel
  by_cases c : m.hasRow i = true
  · have hi := (hasRow_iff m i).mp c
    have nc : ¬ m.hasRow i = false := by rw [c]; simp
    rw [if_neg nc, if_neg nc, lev_spec h hi, res_spec h hi, one_eq]
    by_cases d : (1 - levAt m i).num = 0
    · have e : levAt m i = 1 := by have := (num0 _).mp d; grind
      rw [if_pos d, if_pos (by rw [e])]; rfl
    · rw [if_neg d, if_neg (fun q => d (by rw [toF_inj q, num0]; grind)), ofInt_eq, minus_eq, over_eq, frR]; rfl
  · have c : m.hasRow i = false := by simpa using c
    rw [if_pos c, if_pos c]
theorem obs_erase : ∀ {R : List (List Int)} {y : List Int} (i : Nat), R.length = y.length → obs (R.eraseIdx i) (y.eraseIdx i) = (obs R y).eraseIdx i
  | [], [], _, _ => rfl
  | _ :: _, _ :: _, 0, _ => rfl
  | r :: R, v :: y, i + 1, h => by
    have := obs_erase (R := R) (y := y) i (by simpa using h)
    simp only [List.eraseIdx_cons_succ, obs, this]
  | [], _ :: _, _, h => by simp at h
  | _ :: _, [], _, h => by simp at h
theorem without_spec {m : ModD} (h : OkM m) (i : Nat) : Kxd4.without (sM m) i = sM (m.without i) := by
  unfold Kxd4.without sM ModD.without
  simp only []
  rw [obs_erase i h.rl]
theorem x_lost {m : ModD} (h : OkM m) (i : Nat) : ans m (.lostValue i) = aLost m i := by
  show Kxd4Neutral.fields (withObservation (sM m) i _) = _
  rw [withO h]
  unfold aLost
  by_cases c : m.hasRow i = true
  · have hi := (hasRow_iff m i).mp c
    have h2 := okWithout h i
    have hl : (rowAt m i).length = (m.without i).cc := rowLen h hi
    have nc : ¬ m.hasRow i = false := by rw [c]; simp
    rw [if_neg nc, if_neg nc, without_spec h]
    show Kxd4Neutral.fields (if isEstimable (sM (m.without i)) (fractions (rowAt m i)) = false then _ else fractionResult (dot (fractions (rowAt m i)) (solution (sM (m.without i))))) = _
    rw [wts_est h2 hl]
    cases hw : wts (m.without i) (rowAt m i) with
    | none => rfl
    | some z =>
      rw [est_spec h2 hl ⟨z, hw⟩]; rfl
  · have c : m.hasRow i = false := by simpa using c
    rw [if_pos c, if_pos c]
/-! coefficients -/
theorem full_all {l : List Nat} {w : Nat} (hp : l.Pairwise (· < ·)) (hw : ∀ c ∈ l, c < w) (hl : l.length = w) {j : Nat} (hj : j < w) : j ∈ l := by
  refine Classical.byContradiction fun h => ?_
  have := LA.nodup_le (a := j :: l) (b := List.range w) (List.nodup_cons.mpr ⟨h, hp.imp fun q => Nat.ne_of_lt q⟩) fun x hx => by
    rcases List.mem_cons.mp hx with q | q
    · rw [q]; exact List.mem_range.mpr hj
    · exact List.mem_range.mpr (hw x q)
  simp at this
  omega
theorem uniq {x : FitD} {w : Nat} {D : Dat} (F : FitFor x w D) (hr : x.rank = w) {c z z' : Vec} (h : Sol D w c z) (h' : Sol D w c z') {j : Nat} (hj : j < w) : z j = z' j := by
  have I := BA.inv_fold (A := x.prods) (L := w) F.P.wd w
  unfold FitD.rank SV.rankI at hr
  rw [F.P.len] at hr
  generalize BA.sweep x.prods w = s at *
  obtain ⟨i, hi, ei⟩ := List.mem_iff_getElem.mp (full_all I.inc I.pm hr hj)
  have hpk := I.pk
  have key := (I.sub _ ⟨i, by omega, rfl⟩).kills (fun v => S w fun k => v k * (z k - z' k)) (S_zero_of fun k _ => by grind) (fun u v a => by
      show S w (fun k => (u k + a * v k) * (z k - z' k)) = _
      rw [← S_mul, ← S_add]
      exact S_congr fun k _ => by grind) fun u ⟨n, hn, e⟩ => by
    have hn : n < w := by rw [← F.P.len]; exact hn
    rw [e]
    have e1 : S w (fun k => iv (x.prods.getD n []) k * (z k - z' k)) = S w (fun k => G D n k * z k) - S w (fun k => G D n k * z' k) := by
      rw [← S_sub]
      exact S_congr fun k hk => by rw [F.P.val n k hn hk]; grind
    show S w _ = 0
    rw [e1, h n hn, h' n hn]; grind
  have e2 : (fun v : Vec => S w fun k => v k * (z k - z' k)) (iv (s.table.getD i [])) = (s.divisor : Rat) * (z j - z' j) := by
    show S w _ = _
    have hc : ∀ k, k < w → iv (s.table.getD i []) k = if k = j then (s.divisor : Rat) else 0 := fun k hk => by
      rw [I.lowc i hi k (full_all I.inc I.pm hr hk), SV.getD_lt hi, ei]
    rw [S_single hj fun k hk ne => by rw [hc k hk, if_neg ne]; grind, hc j hj, if_pos rfl]
  have key := e2.symm.trans key
  rcases Rat.mul_eq_zero.mp key with q | q
  · exact absurd (Rat.intCast_eq_zero_iff.mp q) I.d0
  · grind
theorem x_coef {m : ModD} (h : OkM m) : ans m .coefficients = aCoef m := by
  have F := fitFor h
  show Kxd4Neutral.fields (if Kxd4.rank (sM m) < m.cc then _ else _) = _
  unfold aCoef
  rw [rank_spec h]
  by_cases c : (fitM m).rank < m.cc
  · rw [if_pos c, if_pos (by omega)]; rfl
  · rw [if_neg c, if_neg (by omega)]
    have hr : (fitM m).rank = m.cc := by
      have := rank_le (fitM m)
      rw [F.P.len] at this
      omega
    show (m.cc : Int) :: (solution (sM m)).flatMap fields = _
    rw [MD.solution_eq]
    have e : qb m.cc (datM m) = xsOf (solM m) := by
      refine List.ext_getElem (by rw [qb_len]; unfold xsOf; rw [List.length_map, solM_len h]) fun j h1 h2 => ?_
      have hj : j < m.cc := by rw [qb_len] at h1; exact h1
      rw [← V_lt h1, ← V_lt h2, xs_V]
      exact uniq F hr (qb_sol F.wide) F.isSol hj
    have e2 : qb (sM m).columns (MD.dat (sM m).data) = xsOf (solM m) := e
    rw [e2]
    unfold mp xsOf
    rw [List.flatMap_map, List.flatMap_map]; rfl
/-! the normal equations -/
theorem num_iv {l : List Int} {j : Nat} : (iv l j).num = l.getD j 0 := Rat.num_intCast _
theorem x_norm {m : ModD} (h : OkM m) : ans m .normalEquations = aNorm m := by
  have F := fitFor h
  show (m.cc : Int) :: (((normal m.cc (design (sM m)) ((List.range m.cc).map fun i => dot (columnOf (design (sM m)) i) (responses (sM m)))).flatten).map (·.numerator)) = _
  unfold aNorm
  congr 1
  rw [MD.design_eq, MD.resp_eq, moments_eq, normal_eq, List.map_flatten]
  congr 1
  unfold mpp qnormal
  rw [List.map_map, List.map_map]
  refine List.ext_getElem (by rw [List.length_map, List.length_range, List.length_zipWith, show (prodsM m).length = m.cc from F.P.len, show (momM m).length = m.cc from F.ml, Nat.min_self]) fun i h1 h2 => ?_
  have hi : i < m.cc := by simpa using h1
  have hp : i < (prodsM m).length := by rw [show (prodsM m).length = m.cc from F.P.len]; exact hi
  have hm : i < (momM m).length := by rw [show (momM m).length = m.cc from F.ml]; exact hi
  rw [List.getElem_map, List.getElem_range, List.getElem_zipWith]
  show ((mp ((List.range m.cc).map (fun j => G (MD.dat (sM m).data) i j) ++ [V ((List.range m.cc).map (tt (MD.dat (sM m).data))) i])).map (·.numerator)) = _
  unfold mp
  rw [List.map_map, List.map_append]
  congr 1
  · rw [List.map_map]
    refine List.ext_getElem (by rw [List.length_map, List.length_range, F.P.wd _ (List.getElem_mem hp)]) fun j g1 g2 => ?_
    have hj : j < m.cc := by simpa using g1
    rw [List.getElem_map, List.getElem_range]
    show (G (datM m) i j).num = _
    rw [← F.P.val i j hi hj, num_iv]
    show ((prodsM m).getD i []).getD j 0 = _
    rw [SV.getD_lt hp, SV.getD_lt (by rw [F.P.wd _ (List.getElem_mem hp)]; exact hj)]
  · show [(V ((List.range m.cc).map (tt (datM m))) i).num] = _
    rw [V_map_range, if_pos hi, ← F.mv i hi, num_iv]
    show [(momM m).getD i 0] = _
    rw [SV.getD_lt hm]
end Lf
end
section
set_option Elab.async false
set_option linter.all false
/-! The answers in plain Lean, further: terms, groups -/
namespace Lf
open NB Ty Kxd4 SP LA DT EC LS
open BA (iv InI)
def pB (t : Nat) : Nat → Bool := fun s => decide ((s : Int) < (t : Int))
def pW (t : Nat) : Nat → Bool := fun s => !decide ((s : Int) = (t : Int))
def colsB (m : ModD) (t : Nat) : List Nat := pickC m (pB t)
def colsW (m : ModD) (t : Nat) : List Nat := pickC m (pW t)
def gain (x y : FitD) : List Int := ((y.rank : Int) - (x.rank : Int)) :: frL (x.rss - y.rss)
def seqUp (m : ModD) (i : Nat) : List Int := (m.tc : Int) :: (List.range i).flatMap fun t => gain (partM m (colsB m t)) (partM m (colsB m (t + 1)))
def marUp (m : ModD) (i : Nat) : List Int := (m.tc : Int) :: (List.range i).flatMap fun t => gain (partM m (colsW m t)) (fitM m)
def aSeq (m : ModD) : List Int := seqUp m m.tc
def aMar (m : ModD) : List Int := marUp m m.tc
def gRss (m : ModD) (t : Nat) : Rat := (partM m (colsW m t)).rss - (fitM m).rss
def gDeg (m : ModD) (t : Nat) : Int := ((fitM m).rank : Int) - ((partM m (colsW m t)).rank : Int)
def aF (m : ModD) (t : Nat) : List Int := if (m.tc : Int) ≤ (t : Int) then [-2] else if gDeg m t = 0 then [-33] else if (fitM m).free = 0 then [-33] else if ((fitM m).rss / ((fitM m).free : Rat)).num = 0 then [-33]
  else 0 :: frL (gRss m t / (gDeg m t : Rat) / ((fitM m).rss / ((fitM m).free : Rat)))
/-! some columns -/
theorem pick_mp (cols : List Nat) (r : Row) : pick cols (mp r) = mp (cols.map fun j => V r j) := by
  unfold pick
  show cols.map (fun j => (mp r).getD j (toF 0)) = (cols.map fun j => V r j).map toF
  rw [List.map_map]
  exact List.map_congr_left fun j _ => getD_mp r j 0
theorem with_spec {m : ModD} (h : OkM m) {cols : List Nat} (hc : ∀ c ∈ cols, c < m.cc) : withColumns (sM m) cols = ((partM m cols).rank, toF (partM m cols).rss) := by
  have F := fitPart h hc
  unfold withColumns
  have e : (design (sM m)).map (pick cols) = mpp (rowsOf (datP cols (datM m))) := by
    rw [MD.design_eq]
    unfold mpp rowsOf datP
    rw [List.map_map, List.map_map, List.map_map, List.map_map]
    exact List.map_congr_left fun p _ => pick_mp cols p.1
  have e2 : responses (sM m) = mp (ysOf (datP cols (datM m))) := by
    rw [MD.resp_eq]
    unfold ysOf datP
    rw [List.map_map]; rfl
  simp only []
  rw [e, e2, rank_eq, rss_eq F.wide, F.rank, F.rss]
theorem cols_spec {m : ModD} (h : OkM m) (f p : Nat → Bool) (e : ∀ s, f s = p s) : columnsOf (sM m) f = pickC m p := by
  have : f = p := funext e
  unfold columnsOf pickC
  rw [this, h.tl]; rfl
theorem pick_all {m : ModD} (h : OkM m) : (partM m (pickC m fun _ => true)).rank = (fitM m).rank ∧ (partM m (pickC m fun _ => true)).rss = (fitM m).rss := by
  have hc := pickC_lt h (p := fun _ => true)
  have F := fitPart h hc
  have F0 := fitFor h
  have ec : pickC m (fun _ => true) = List.range m.cc := by
    unfold pickC
    rw [List.filter_eq_self.mpr fun _ _ => rfl, h.tl]
  rw [ec] at F ⊢
  have ed : datP (List.range m.cc) (datM m) = datM m := by
    unfold datP
    conv => rhs; rw [← List.map_id (datM m)]
    refine List.map_congr_left fun p hp => ?_
    obtain ⟨r, y⟩ := p
    have hr : r.length = m.cc := F0.wide _ hp
    show (_, y) = (r, y)
    congr 1
    refine List.ext_getElem (by rw [List.length_map, List.length_range, hr]) fun j h1 h2 => ?_
    rw [List.getElem_map, List.getElem_range]
    show V r j = _
    rw [V_lt h2]
  rw [ed, List.length_range] at F
  exact ⟨by rw [F.rank, F0.rank], by rw [F.rss, F0.rss]⟩
/-! fewer columns, a smaller rank -/
theorem Span.image {L L' : Vec → Prop} {v : Vec} (p : Vec → Vec) (p0 : ∀ j, p (fun _ => 0) j = 0) (pa : ∀ (u w : Vec) (c : Rat) (j : Nat), p (fun j => u j + c * w j) j = p u j + c * p w j) (a : Span L v) (h : ∀ u, L u → Span L' (p u)) : Span L' (p v) := by
  induction a with
  | zero => exact Span.zero.of_eq fun j => (p0 j).symm
  | step c b hu ih => exact (ih.add ((h _ hu).smul c)).of_eq fun j => (pa _ _ c j).symm
theorem rank_map {w1 w2 : Nat} (p : Vec → Vec) (p0 : ∀ j, p (fun _ => 0) j = 0) (pa : ∀ (u w : Vec) (c : Rat) (j : Nat), p (fun j => u j + c * w j) j = p u j + c * p w j) (f g : Row → Row) (hf : ∀ r, (f r).length = w1) (hg : ∀ r, (g r).length = w2) (hfg : ∀ r, V (f r) = p (V (g r))) :
    ∀ (n : Nat) {rows : List Row}, rows.length = n → qrank (rows.map f) ≤ qrank (rows.map g)
  | 0, rows, h => by
    rw [List.length_eq_zero_iff.mp h]; exact Nat.le_refl _
  | n + 1, rows, h => by
    have ne : rows ≠ [] := by intro q; rw [q] at h; simp at h
    obtain ⟨pre, c, rfl⟩ : ∃ pre c, rows = pre ++ [c] := ⟨rows.dropLast, rows.getLast ne, (List.dropLast_concat_getLast ne).symm⟩
    have ih := rank_map p p0 pa f g hf hg hfg n (rows := pre) (by simpa using h)
    rw [List.map_append, List.map_append]
    have af : ∀ r ∈ pre.map f, r.length = w1 := fun r hr => by obtain ⟨q, _, rfl⟩ := List.mem_map.mp hr; exact hf q
    have ag : ∀ r ∈ pre.map g, r.length = w2 := fun r hr => by obtain ⟨q, _, rfl⟩ := List.mem_map.mp hr; exact hg q
    show qrank (pre.map f ++ [f c]) ≤ qrank (pre.map g ++ [g c])
    rcases qrank_snoc ag (hg c) with ⟨s, e⟩ | ⟨_, e⟩
    · have s2 : Span (InR (pre.map f)) (V (f c)) := by
        rw [hfg]
        refine Span.image p p0 pa s fun u ⟨r, hr, er⟩ => ?_
        obtain ⟨q, hq, rfl⟩ := List.mem_map.mp hr
        rw [er, ← hfg]
        exact .mem ⟨_, List.mem_map.mpr ⟨q, hq, rfl⟩, rfl⟩
      rcases qrank_snoc af (hf c) with ⟨_, e'⟩ | ⟨s', _⟩
      · omega
      · exact absurd s2 s'
    · rcases qrank_snoc af (hf c) with ⟨_, e'⟩ | ⟨_, e'⟩ <;> omega
theorem rank_cols {m : ModD} (h : OkM m) {p q : Nat → Bool} (hpq : ∀ s, p s = true → q s = true) : (partM m (pickC m p)).rank ≤ (partM m (pickC m q)).rank := by
  have sub : ∀ c ∈ pickC m p, c ∈ pickC m q := fun c hc => by
    obtain ⟨h1, h2⟩ := List.mem_filter.mp hc
    exact List.mem_filter.mpr ⟨h1, hpq _ h2⟩
  rw [(fitPart h (pickC_lt h (p := p))).rank, (fitPart h (pickC_lt h (p := q))).rank]
  generalize pickC m p = A at *
  generalize pickC m q = B at *
  have e : ∀ C : List Nat, rowsOf (datP C (datM m)) = (rowsOf (datM m)).map fun r => C.map fun j => V r j := fun C => by
    unfold rowsOf datP
    rw [List.map_map, List.map_map]; rfl
  rw [e, e]
  refine rank_map (w1 := A.length) (w2 := B.length) (fun v j => if j < A.length then v (B.idxOf (A.getD j 0)) else 0) (fun j => by simp) (fun u w c j => ?_) _ _ (fun r => by simp) (fun r => by simp) (fun r => funext fun j => ?_) _ rfl
  · show (if _ then _ else _) = (if _ then _ else _) + c * (if _ then _ else _)
    split
    · rfl
    · grind
  · show _ = if _ then _ else _
    split
    · rename_i hj
      have hm := sub _ (SV.getD_in (d := 0) hj)
      have hi : B.idxOf (A.getD j 0) < B.length := List.idxOf_lt_length_of_mem hm
      rw [V_pick hj, V_pick hi, SV.getD_lt hi, List.getElem_idxOf]
    · rename_i hj
      exact V_ge (by simp; omega)
/-! the terms -/
theorem tc_spec (m : ModD) : termCount (sM m) = m.tc := rfl
theorem seq_spec {m : ModD} (h : OkM m) (t : Nat) : (((Kxd4.sequential (sM m) t).1 : Int)) :: fields (Kxd4.sequential (sM m) t).2 = gain (partM m (colsB m t)) (partM m (colsB m (t + 1))) := by
  unfold Kxd4.sequential
  simp only []
  rw [cols_spec h (fun s => decide (s < t)) (pB t) (fun s => by unfold pB; congr 1; exact propext ⟨fun q => by omega, fun q => by omega⟩), cols_spec h (fun s => decide (s ≤ t)) (pB (t + 1)) (fun s => by unfold pB; congr 1; exact propext ⟨fun q => by omega, fun q => by omega⟩),
    with_spec h (pickC_lt h), with_spec h (pickC_lt h), minus_eq, frF]
  have hr : (partM m (pickC m (pB t))).rank ≤ (partM m (pickC m (pB (t + 1)))).rank := rank_cols h fun s hs => by
    unfold pB at *
    rw [decide_eq_true_iff] at *
    omega
  unfold gain colsB
  congr 1
  omega
theorem mar_spec {m : ModD} (h : OkM m) (t : Nat) : (((Kxd4.marginal (sM m) t).1 : Nat) : Int) = gDeg m t ∧ (Kxd4.marginal (sM m) t).2 = toF (gRss m t) := by
  obtain ⟨e1, e2⟩ := pick_all h
  unfold Kxd4.marginal
  simp only []
  rw [cols_spec h (fun s => s != t) (pW t) (fun s => by
      unfold pW
      rw [Bool.eq_iff_iff, bne_iff_ne, Bool.not_eq_true', decide_eq_false_iff_not]
      omega), cols_spec h (fun _ => true) (fun _ => true) (fun _ => rfl), with_spec h (pickC_lt h), with_spec h (pickC_lt h), minus_eq, e1, e2]
  have hr : (partM m (pickC m (pW t))).rank ≤ (partM m (pickC m fun _ => true)).rank := rank_cols h fun _ _ => rfl
  rw [e1] at hr
  refine ⟨?_, rfl⟩
  unfold gDeg colsW
  simp only []
  omega
theorem x_seq {m : ModD} (h : OkM m) : ans m .sequential = aSeq m := by
  show ((termCount (sM m) : Nat) : Int) :: (List.range (termCount (sM m))).flatMap (fun t => ((Kxd4.sequential (sM m) t).1 : Int) :: fields (Kxd4.sequential (sM m) t).2) = _
  rw [tc_spec]
  unfold aSeq seqUp
  congr 2
  funext t
  exact seq_spec h t
theorem x_mar {m : ModD} (h : OkM m) : ans m .marginal = aMar m := by
  show ((termCount (sM m) : Nat) : Int) :: (List.range (termCount (sM m))).flatMap (fun t => ((Kxd4.marginal (sM m) t).1 : Int) :: fields (Kxd4.marginal (sM m) t).2) = _
  rw [tc_spec]
  unfold aMar marUp
  congr 2
  funext t
  obtain ⟨e1, e2⟩ := mar_spec h t
  rw [e1, e2, frF]; rfl
theorem x_f {m : ModD} (h : OkM m) (t : Nat) : ans m (.fRatio t) = aF m t := by
  obtain ⟨e1, e2⟩ := mar_spec h t
  have e : ans m (.fRatio t) = Kxd4Neutral.fields (if m.tc ≤ t then .value (-2) else
    if (Kxd4.marginal (sM m) t).1 = 0 ∨ freedom (sM m) = 0 ∨ (residualOf (sM m)).numerator = 0 then .value (-33)
    else fractionResult (over (over (Kxd4.marginal (sM m) t).2 (ofNat (Kxd4.marginal (sM m) t).1)) (over (residualOf (sM m)) (ofNat (freedom (sM m)))))) := rfl
  rw [e]
  unfold aF
  by_cases c : m.tc ≤ t
  · rw [if_pos c, if_pos (by omega)]; rfl
  · rw [if_neg c, if_neg (by omega : ¬ (m.tc : Int) ≤ (t : Int)), e2, rss_spec h, freeR h, ofN, e1]
    by_cases g : gDeg m t = 0
    · rw [if_pos g, if_pos (.inl (by omega))]; rfl
    · rw [if_neg g]
      by_cases f : (fitM m).free = 0
      · rw [if_pos f, if_pos (.inr (.inl ((free0 h).mpr f)))]; rfl
      · have f2 := freeQ f
        rw [if_neg f]
        have k1 : ((fitM m).rss / ((fitM m).free : Rat)).num = 0 ↔ (toF (fitM m).rss).numerator = 0 := by
          rw [num0, toF_num]
          constructor
          · intro q
            have : (fitM m).rss = (fitM m).rss / ((fitM m).free : Rat) * ((fitM m).free : Rat) := by grind
            rw [this, q]; grind
          · intro q; rw [q]; grind
        by_cases k : ((fitM m).rss / ((fitM m).free : Rat)).num = 0
        · rw [if_pos k, if_pos (.inr (.inr (k1.mp k)))]; rfl
        · rw [if_neg k, if_neg (by
            rintro (q | q | q)
            · omega
            · exact f ((free0 h).mp q)
            · exact k (k1.mpr q)), over_eq, over_eq, over_eq, frR]
/-! groups of equal rows -/
def addG : List (List Int × List Int) → List Int → Int → List (List Int × List Int)
  | [], k, y => [(k, [y])]
  | (j, ys) :: r, k, y => if j = k then (j, ys ++ [y]) :: r else (j, ys) :: addG r k y
def groupsUp (a : List (List Int)) (b : List Int) (i : Nat) : List (List Int × List Int) := ((a.zip b).take i).foldl (fun gs p => addG gs p.1 p.2) []
def groupsM (m : ModD) : List (List Int × List Int) := groupsUp m.rows m.resp m.rows.length
def pureF (r : Rat) (ys : List Int) : Rat := r - ((ys.sum * ys.sum : Int) : Rat) / ((ys.length : Int) : Rat)
def pureQ (gs : List (List Int)) (sq : Int) : Rat := gs.foldl pureF (sq : Rat)
def pureM (m : ModD) : Rat := pureQ ((groupsM m).map Prod.snd) (dotI m.resp m.resp)
def pureD (m : ModD) : Int := (m.rows.length : Int) - ((groupsM m).length : Int)
def aLack (m : ModD) : List Int := ((fitM m).free - pureD m) :: (frL ((fitM m).rss - pureM m) ++ (pureD m :: frL (pureM m)))
def grpOf (l : List Observation) : List (List Int × List Int) := l.foldl (fun gs o => addG gs o.row o.response) []
def sel (l : List Observation) (g : List Int) : List Int := (l.filter fun o => o.row == g).map (·.response)
theorem addG_new {gs : List (List Int × List Int)} {k : List Int} {y : Int} (h : k ∉ gs.map Prod.fst) : addG gs k y = gs ++ [(k, [y])] := by
  induction gs with
  | nil => rfl
  | cons g gs ih =>
    obtain ⟨j, ys⟩ := g
    rw [List.map_cons, List.mem_cons, not_or] at h
    show (if j = k then _ else _) = _
    rw [if_neg (fun q => h.1 q.symm), ih h.2]; rfl
theorem addG_keys {gs : List (List Int × List Int)} {k : List Int} {y : Int} (h : k ∈ gs.map Prod.fst) : (addG gs k y).map Prod.fst = gs.map Prod.fst := by
  induction gs with
  | nil => simp at h
  | cons g gs ih =>
    obtain ⟨j, ys⟩ := g
    unfold addG
    split
    · rfl
    · rename_i ne
      rw [List.map_cons, List.mem_cons] at h
      rcases h with q | q
      · exact absurd q.symm ne
      · rw [List.map_cons, ih q]; rfl
theorem sel_snoc (l : List Observation) (o : Observation) (g : List Int) : sel (l ++ [o]) g = if o.row = g then sel l g ++ [o.response] else sel l g := by
  unfold sel
  rw [List.filter_append, List.map_append]
  by_cases h : o.row = g
  · rw [if_pos h]
    simp [h]
  · rw [if_neg h]
    simp [h]
theorem addG_map {ks : List (List Int)} {f : List Int → List Int} {k : List Int} {y : Int} (hn : ks.Nodup) (h : k ∈ ks) : addG (ks.map fun g => (g, f g)) k y = ks.map fun g => (g, if k = g then f g ++ [y] else f g) := by
  induction ks with
  | nil => simp at h
  | cons g ks ih =>
    rw [List.map_cons, List.map_cons]
    show (if g = k then (g, f g ++ [y]) :: _ else (g, f g) :: addG _ k y) = _
    rw [List.nodup_cons] at hn
    by_cases e : g = k
    · rw [if_pos e, if_pos e.symm]
      congr 1
      refine List.map_congr_left fun x hx => ?_
      have : k ≠ x := fun q => hn.1 (by rw [e, q]; exact hx)
      rw [if_neg this]
    · rw [if_neg e, if_neg (fun q => e q.symm), ih hn.2 ((List.mem_cons.mp h).resolve_left fun q => e q.symm)]
theorem dups_snoc (l : List (List Int)) (x : List Int) : (l ++ [x]).eraseDups = if x ∈ l then l.eraseDups else l.eraseDups ++ [x] := by
  rw [List.eraseDups_append]
  by_cases h : x ∈ l
  · rw [if_pos h]
    have : [x].removeAll l = [] := by
      unfold List.removeAll
      simp [h]
    rw [this]; simp
  · rw [if_neg h]
    have : [x].removeAll l = [x] := by
      unfold List.removeAll
      simp [h]
    rw [this]
    congr 1
theorem dups_mem {l : List (List Int)} {x : List Int} : x ∈ l.eraseDups ↔ x ∈ l := by
  exact List.mem_eraseDups
theorem dups_nodup : ∀ (n : Nat) {l : List (List Int)}, l.length = n → l.eraseDups.Nodup
  | 0, l, h => by
    rw [List.length_eq_zero_iff.mp h]; simp
  | n + 1, l, h => by
    have ne : l ≠ [] := by intro q; rw [q] at h; simp at h
    obtain ⟨pre, c, rfl⟩ : ∃ pre c, l = pre ++ [c] := ⟨l.dropLast, l.getLast ne, (List.dropLast_concat_getLast ne).symm⟩
    have ih := dups_nodup n (l := pre) (by simpa using h)
    rw [dups_snoc]
    split
    · exact ih
    · rename_i hc
      rw [List.nodup_append]
      refine ⟨ih, by simp, fun a ha b hb => ?_⟩
      rw [List.mem_singleton.mp hb]
      intro q
      exact hc (by rw [← q]; exact dups_mem.mp ha)
theorem grp_eq : ∀ (n : Nat) {l : List Observation}, l.length = n → grpOf l = (l.map (·.row)).eraseDups.map fun g => (g, sel l g)
  | 0, l, h => by
    rw [List.length_eq_zero_iff.mp h]; rfl
  | n + 1, l, h => by
    have ne : l ≠ [] := by intro q; rw [q] at h; simp at h
    obtain ⟨pre, o, rfl⟩ : ∃ pre c, l = pre ++ [c] := ⟨l.dropLast, l.getLast ne, (List.dropLast_concat_getLast ne).symm⟩
    have ih := grp_eq n (l := pre) (by simpa using h)
    have e : grpOf (pre ++ [o]) = addG (grpOf pre) o.row o.response := by
      unfold grpOf
      rw [List.foldl_append]; rfl
    have nd := dups_nodup _ (l := pre.map (·.row)) rfl
    rw [e, ih, List.map_append, List.map_cons, List.map_nil, dups_snoc]
    by_cases c : o.row ∈ pre.map (·.row)
    · rw [if_pos c, addG_map nd (dups_mem.mpr c)]
      exact List.map_congr_left fun g _ => by rw [sel_snoc]
    · rw [if_neg c, addG_new (by
        rw [List.map_map]
        intro q
        obtain ⟨g, hg, eg⟩ := List.mem_map.mp q
        have eg : g = o.row := eg
        exact c (by rw [← eg]; exact dups_mem.mp hg)), List.map_append]
      congr 1
      · refine List.map_congr_left fun g hg => ?_
        have : o.row ≠ g := fun q => c (by rw [q]; exact dups_mem.mp hg)
        rw [sel_snoc, if_neg this]
      · rw [List.map_cons, List.map_nil, sel_snoc, if_pos rfl]
        have : sel pre o.row = [] := by
          unfold sel
          rw [List.filter_eq_nil_iff.mpr fun x hx => ?_]
          · rfl
          · intro q
            exact c (List.mem_map.mpr ⟨x, hx, by simpa using q⟩)
        rw [this]; rfl
theorem zip_obs : ∀ {R : List (List Int)} {y : List Int}, R.zip y = (obs R y).map fun o => (o.row, o.response)
  | [], y => by cases y <;> rfl
  | _ :: _, [] => rfl
  | r :: R, v :: y => by
    rw [List.zip_cons_cons, zip_obs (R := R) (y := y)]; rfl
theorem groups_spec {m : ModD} (h : OkM m) : groupsM m = ((obs m.rows m.resp).map (·.row)).eraseDups.map fun g => (g, sel (obs m.rows m.resp) g) := by
  rw [← grp_eq _ rfl]
  unfold groupsM groupsUp grpOf
  rw [zip_obs, List.take_of_length_le (by rw [List.length_map, obs_len h.rl]; exact Nat.le_refl _), List.foldl_map]
/-! the sums of squares -/
theorem T_sum (l : List Int) : T (l.map fun (z : Int) => (z : Rat)) id = ((l.sum : Int) : Rat) := by
  induction l with
  | nil => rfl
  | cons x l ih =>
    show (x : Rat) + T _ id = _
    rw [ih, List.sum_cons, Rat.intCast_add]
def sqs (l : List Int) : Rat := T l fun z => (z : Rat) * (z : Rat)
theorem dev_sum (μ : Rat) : ∀ l : List Int, T l (fun z => ((z : Rat) - μ) * ((z : Rat) - μ)) = sqs l - 2 * μ * ((l.sum : Int) : Rat) + ((l.length : Int) : Rat) * (μ * μ)
  | [] => by
    show (0 : Rat) = 0 - 2 * μ * ((0 : Int) : Rat) + ((0 : Int) : Rat) * (μ * μ)
    have : ((0 : Int) : Rat) = 0 := rfl
    rw [this]; grind
  | x :: l => by
    have ih := dev_sum μ l
    show ((x : Rat) - μ) * ((x : Rat) - μ) + T l _ = ((x : Rat) * (x : Rat) + sqs l) - 2 * μ * (((x :: l).sum : Int) : Rat) + (((x :: l).length : Int) : Rat) * (μ * μ)
    rw [ih, List.sum_cons, List.length_cons, Rat.intCast_add, Int.natCast_add, Rat.intCast_add]
    have : (((1 : Nat) : Int) : Rat) = 1 := rfl
    rw [this]; grind
def mp1 (l : List Int) : List Fraction := l.map ofInt
theorem mp1_eq (l : List Int) : mp1 l = mp (l.map fun (z : Int) => (z : Rat)) := by
  unfold mp1 mp
  rw [List.map_map]; rfl
theorem part_spec {l : List Int} (h : l ≠ []) : (let mean := over (total (mp1 l)) (ofNat (mp1 l).length)
    total ((mp1 l).map fun v => times (minus v mean) (minus v mean))) = toF (sqs l - ((l.sum * l.sum : Int) : Rat) / ((l.length : Int) : Rat)) := by
  have hl : ((l.length : Int) : Rat) ≠ 0 := cast_ne (by have := List.length_pos_iff.mpr h; omega)
  have e1 : (mp1 l).length = l.length := by unfold mp1; rw [List.length_map]
  simp only []
  rw [e1, mp1_eq, total_eq, T_sum, ofN, over_eq]
  generalize hμ : ((l.sum : Int) : Rat) / ((l.length : Int) : Rat) = μ
  have e2 : (mp (l.map fun (z : Int) => (z : Rat))).map (fun v => times (minus v (toF μ)) (minus v (toF μ))) = mp (l.map fun (z : Int) => ((z : Rat) - μ) * ((z : Rat) - μ)) := by
    unfold mp
    rw [List.map_map, List.map_map, List.map_map]
    exact List.map_congr_left fun z _ => by
      show times (minus (toF z) (toF μ)) (minus (toF z) (toF μ)) = toF _
      rw [minus_eq, times_eq]
  rw [e2, total_eq, T_id, dev_sum, Rat.intCast_mul]
  congr 1
  rw [← hμ]
  grind
theorem pure_fold : ∀ (gs : List (List Int)) (r : Rat), gs.foldl pureF r = r - T gs fun ys => ((ys.sum * ys.sum : Int) : Rat) / ((ys.length : Int) : Rat)
  | [], r => by
    show r = r - 0
    grind
  | g :: gs, r => by
    rw [List.foldl_cons, pure_fold gs]
    show pureF r g - _ = r - (_ + _)
    unfold pureF
    grind
theorem sqs_snoc (l : List Int) (z : Int) : sqs (l ++ [z]) = sqs l + (z : Rat) * z := by
  unfold sqs
  rw [T_append]
  show _ + ((z : Rat) * z + 0) = _
  grind
theorem T_sel {ks : List (List Int)} (hn : ks.Nodup) (l : List Observation) (o : Observation) (h : o.row ∈ ks) : T ks (fun g => sqs (sel (l ++ [o]) g)) = T ks (fun g => sqs (sel l g)) + (o.response : Rat) * o.response := by
  induction ks with
  | nil => cases h
  | cons g ks ih =>
    rw [List.nodup_cons] at hn
    show sqs (sel (l ++ [o]) g) + T ks _ = sqs (sel l g) + T ks _ + _
    by_cases e : o.row = g
    · have e2 : T ks (fun g => sqs (sel (l ++ [o]) g)) = T ks (fun g => sqs (sel l g)) := T_congr fun x hx => by
        have : o.row ≠ x := fun q => hn.1 (by rw [← e, q]; exact hx)
        rw [sel_snoc, if_neg this]
      rw [e2, sel_snoc, if_pos e, sqs_snoc]; grind
    · rw [ih hn.2 ((List.mem_cons.mp h).resolve_left e), sel_snoc, if_neg e]; grind
theorem sq_groups : ∀ (n : Nat) {l : List Observation}, l.length = n → T (l.map (·.row)).eraseDups (fun g => sqs (sel l g)) = T l fun o => (o.response : Rat) * o.response
  | 0, l, h => by
    rw [List.length_eq_zero_iff.mp h]; rfl
  | n + 1, l, h => by
    have ne : l ≠ [] := by intro q; rw [q] at h; simp at h
    obtain ⟨pre, o, rfl⟩ : ∃ pre c, l = pre ++ [c] := ⟨l.dropLast, l.getLast ne, (List.dropLast_concat_getLast ne).symm⟩
    have ih := sq_groups n (l := pre) (by simpa using h)
    have nd := dups_nodup _ (l := pre.map (·.row)) rfl
    have er : T [o] (fun o => (o.response : Rat) * o.response) = (o.response : Rat) * o.response := by
      show (o.response : Rat) * o.response + 0 = _
      grind
    rw [T_append, ← ih, er, List.map_append, List.map_cons, List.map_nil, dups_snoc]
    by_cases c : o.row ∈ pre.map (·.row)
    · rw [if_pos c, T_sel nd _ _ (dups_mem.mpr c)]
    · rw [if_neg c, T_append]
      have e2 : T (pre.map (·.row)).eraseDups (fun g => sqs (sel (pre ++ [o]) g)) = T (pre.map (·.row)).eraseDups (fun g => sqs (sel pre g)) := T_congr fun x hx => by
        have : o.row ≠ x := fun q => c (by rw [q]; exact dups_mem.mp hx)
        rw [sel_snoc, if_neg this]
      have e3 : sel pre o.row = [] := by
        unfold sel
        rw [List.filter_eq_nil_iff.mpr fun x hx => ?_]
        · rfl
        · intro q
          exact c (List.mem_map.mpr ⟨x, hx, by simpa using q⟩)
      rw [e2]
      congr 1
      show sqs (sel (pre ++ [o]) o.row) + 0 = _
      rw [sel_snoc, if_pos rfl, e3]
      show ((o.response : Rat) * o.response + 0) + 0 = _
      grind
theorem sel_ne {l : List Observation} {g : List Int} (h : g ∈ (l.map (·.row)).eraseDups) : sel l g ≠ [] := by
  obtain ⟨o, ho, e⟩ := List.mem_map.mp (dups_mem.mp h)
  intro q
  have : o.response ∈ sel l g := List.mem_map.mpr ⟨o, List.mem_filter.mpr ⟨ho, by simpa using e⟩, rfl⟩
  rw [q] at this; cases this
theorem pure_spec {m : ModD} (h : OkM m) : (pureError (sM m)).2 = toF (pureM m) := by
  unfold pureError
  simp only []
  have e : (((sM m).data.map (·.row)).eraseDups.map fun g =>
      let y := ((sM m).data.filter fun o => o.row == g).map fun o => ofInt o.response
      let mean := over (total y) (ofNat y.length)
      total (y.map fun v => times (minus v mean) (minus v mean))) = mp (((obs m.rows m.resp).map (·.row)).eraseDups.map fun g => sqs (sel (obs m.rows m.resp) g) - (((sel (obs m.rows m.resp) g).sum * (sel (obs m.rows m.resp) g).sum : Int) : Rat) / (((sel (obs m.rows m.resp) g).length : Int) : Rat)) := by
    unfold mp
    rw [List.map_map]
    refine List.map_congr_left fun g hg => ?_
    have := part_spec (sel_ne hg)
    have e2 : mp1 (sel (sM m).data g) = ((sM m).data.filter fun o => o.row == g).map fun o => ofInt o.response := by
      unfold mp1 sel
      rw [List.map_map]; rfl
    rw [e2] at this
    exact this
  simp only [] at e
  rw [e, total_eq, T_id, T_sub]
  congr 1
  unfold pureM pureQ
  rw [pure_fold, groups_spec h, sq_groups _ rfl, dot_sq h.rl, List.map_map]
  congr 1
  rw [T_map]
  rfl
theorem grp_rank {w : Nat} : ∀ (n : Nat) {l : List Observation}, l.length = n → (∀ o ∈ l, o.row.length = w) → qrank (rowsOf (MD.dat l)) ≤ (l.map (·.row)).eraseDups.length
  | 0, l, h, _ => by
    rw [List.length_eq_zero_iff.mp h]; exact Nat.le_refl _
  | n + 1, l, h, hw => by
    have ne : l ≠ [] := by intro q; rw [q] at h; simp at h
    obtain ⟨pre, o, rfl⟩ : ∃ pre c, l = pre ++ [c] := ⟨l.dropLast, l.getLast ne, (List.dropLast_concat_getLast ne).symm⟩
    have hp : ∀ o ∈ pre, o.row.length = w := fun x hx => hw x (by simp [hx])
    have ih := grp_rank n (l := pre) (by simpa using h) hp
    have er : rowsOf (MD.dat (pre ++ [o])) = rowsOf (MD.dat pre) ++ [MD.ir o.row] := by
      unfold rowsOf MD.dat
      simp
    rw [er, List.map_append, List.map_cons, List.map_nil, dups_snoc]
    have hl : ∀ r ∈ rowsOf (MD.dat pre), r.length = w := fun r hr => by
      unfold rowsOf MD.dat at hr
      rw [List.map_map] at hr
      obtain ⟨x, hx, rfl⟩ := List.mem_map.mp hr
      show (MD.ir x.row).length = w
      rw [MD.ir_len, hp x hx]
    rcases qrank_snoc (c := MD.ir o.row) hl (by rw [MD.ir_len, hw o (by simp)]) with ⟨_, e⟩ | ⟨s, e⟩
    · rw [e]
      split
      · exact ih
      · rw [List.length_append]; omega
    · rw [if_neg (fun c => s (by
        obtain ⟨x, hx, ex⟩ := List.mem_map.mp c
        refine .mem ⟨MD.ir x.row, ?_, by rw [ex]⟩
        unfold rowsOf MD.dat
        rw [List.map_map]
        exact List.mem_map.mpr ⟨x, hx, rfl⟩)), e, List.length_append]
      simp; omega
theorem dups_le : ∀ (n : Nat) {l : List (List Int)}, l.length = n → l.eraseDups.length ≤ n
  | 0, l, h => by
    rw [List.length_eq_zero_iff.mp h]; simp
  | n + 1, l, h => by
    have ne : l ≠ [] := by intro q; rw [q] at h; simp at h
    obtain ⟨pre, c, rfl⟩ : ∃ pre c, l = pre ++ [c] := ⟨l.dropLast, l.getLast ne, (List.dropLast_concat_getLast ne).symm⟩
    have ih := dups_le n (l := pre) (by simpa using h)
    rw [dups_snoc]
    split
    · omega
    · rw [List.length_append]; simp; omega
theorem x_lack {m : ModD} (h : OkM m) : ans m .lackOfFit = aLack m := by
  have e : ans m .lackOfFit = ((freedom (sM m) - (pureError (sM m)).1 : Nat) : Int) :: (fields (minus (residualOf (sM m)) (pureError (sM m)).2) ++ (((pureError (sM m)).1 : Int) :: fields (pureError (sM m)).2)) := rfl
  have g := groups_spec h
  have gl : (groupsM m).length = ((obs m.rows m.resp).map (·.row)).eraseDups.length := by rw [g, List.length_map]
  have e1 : (pureError (sM m)).1 = m.rows.length - (groupsM m).length := by
    show (obs m.rows m.resp).length - ((obs m.rows m.resp).map (·.row)).eraseDups.length = _
    rw [obs_len h.rl, gl]
  have hg : (groupsM m).length ≤ m.rows.length := by
    rw [gl]
    exact dups_le _ (by rw [List.length_map, obs_len h.rl])
  have hr : (fitM m).rank ≤ (groupsM m).length := by
    rw [(fitFor h).rank, gl]
    exact grp_rank (w := m.cc) _ rfl fun o ho => (h.wd _ (obs_mem ho)).1
  have fs := free_spec h
  have hf : (fitM m).free = (m.rows.length : Int) - ((fitM m).rank : Int) := rfl
  rw [e, e1, rss_spec h, pure_spec h, minus_eq]
  unfold aLack pureD
  have k1 : ((freedom (sM m) - (m.rows.length - (groupsM m).length) : Nat) : Int) = (fitM m).free - ((m.rows.length : Int) - ((groupsM m).length : Int)) := by omega
  have k2 : ((m.rows.length - (groupsM m).length : Nat) : Int) = (m.rows.length : Int) - ((groupsM m).length : Int) := by omega
  rw [k1, k2]; rfl
end Lf
end
section
set_option Elab.async false
set_option linter.all false
/-! Surfaces that are handed in rightly: their Hessian is small, its equations are solved -/
namespace Lf
open NB Ty
theorem surf_parts {k : Nat} {c : Int} {l q : List Int} (hs : isSurf k c l q = true) : 0 < k ∧ k < 4 ∧ l.length = k ∧ q.length = k * (k + 1) / 2 ∧ Bn 20 c.natAbs ∧ Bd 20 l ∧ Bd 20 q := by
  have h := (surf_iff k c l q).mp hs
  rw [not_or, not_or, not_or, not_or] at h
  obtain ⟨k0, k3, hl, hq, hb⟩ := h
  have hb : ∀ z ∈ c :: l ++ q, Bn 20 z.natAbs := fun z hz => by
    have : ¬ (!Kxd4.isResponse z) = true := fun q => hb (List.any_eq_true.mpr ⟨z, hz, q⟩)
    have : Kxd4.isResponse z = true := by simpa using this
    unfold Kxd4.isResponse at this
    have e : Kxd4.maxResponse = 1000000 := rfl
    rw [e, Bool.and_eq_true, decide_eq_true_iff, decide_eq_true_iff] at this
    unfold Bn
    omega
  exact ⟨by omega, by omega, by omega, by omega, hb c (by simp), fun z hz => hb z (by simp [hz]), fun z hz => hb z (by simp [hz])⟩
theorem two_bn {z : Int} (h : Bn 20 z.natAbs) : Bn 30 (2 * z).natAbs := by unfold Bn at *; omega
theorem reg_of {k : Nat} {c : Int} {l q : List Int} (hs : isSurf k c l q = true) : SqB k (hessI k q) ∧ ((minorsI (hessI k q)).getLastD 0 ≠ 0 → Reg k (hessI k q) (negL l)) := by
  obtain ⟨k0, k4, hl, hq, _, _, bq⟩ := surf_parts hs
  have b30 : ∀ z, Bn 20 z → Bn 30 z := fun z h => lt_mono h (by decide)
  rcases (by omega : k = 1 ∨ k = 2 ∨ k = 3) with e | e | e
  · subst e
    have hq : q.length = 1 := hq
    match q, hq, l, hl with
    | [a], _, [s], _ =>
      rw [h1]
      have ba := bq a (by simp)
      refine ⟨⟨rfl, fun r hr => ?_⟩, fun g => reg1 (by rw [m1] at g; exact g)⟩
      simp at hr; subst hr
      exact ⟨rfl, fun z hz => by simp at hz; subst hz; exact two_bn ba⟩
  · subst e
    have hq : q.length = 3 := hq
    match q, hq, l, hl with
    | [a, b, c'], _, [s, t], _ =>
      rw [h2]
      have ba := bq a (by simp)
      have bb := bq b (by simp)
      have bc := bq c' (by simp)
      refine ⟨⟨rfl, fun r hr => ?_⟩, fun g => reg2 (by rw [m2] at g; exact g)⟩
      simp at hr
      rcases hr with e | e <;> subst e <;> refine ⟨rfl, fun z hz => ?_⟩ <;> simp at hz <;> rcases hz with e | e <;> subst e
      · exact two_bn ba
      · exact b30 _ bb
      · exact b30 _ bb
      · exact two_bn bc
  · subst e
    have hq : q.length = 6 := hq
    match q, hq, l, hl with
    | [a, b, c', d, e, f], _, [r, s, t], _ =>
      rw [h3]
      have ba := bq a (by simp)
      have bb := bq b (by simp)
      have bc := bq c' (by simp)
      have bd := bq d (by simp)
      have be := bq e (by simp)
      have bf := bq f (by simp)
      refine ⟨⟨rfl, fun r hr => ?_⟩, fun g => reg3 (by
        rw [m3] at g
        intro z; apply g
        show _ = _
        rw [← z]
        show 2 * a * (2 * d * (2 * f) - e * e) - b * (b * (2 * f) - e * c') + c' * (b * e - 2 * d * c') = _
        grind)⟩
      simp at hr
      rcases hr with e | e | e <;> subst e <;> refine ⟨rfl, fun z hz => ?_⟩ <;> simp at hz <;> rcases hz with e | e | e <;> subst e
      · exact two_bn ba
      · exact b30 _ bb
      · exact b30 _ bc
      · exact b30 _ bb
      · exact two_bn bd
      · exact b30 _ be
      · exact b30 _ bc
      · exact b30 _ be
      · exact two_bn bf
theorem neg_len (l : List Int) : (negL l).length = l.length := by simp [negL]
theorem neg_bd {l : List Int} {k : Nat} (h : Bd k l) : Bd k (negL l) := fun z hz => by
  obtain ⟨x, hx, rfl⟩ := List.mem_map.mp hz
  rw [Int.natAbs_neg]; exact h x hx
theorem bd_mono {l : List Int} {k j : Nat} (h : Bd k l) (e : k ≤ j) : Bd j l := fun z hz => lt_mono (h z hz) e
theorem pt_ok {k : Nat} {c : Int} {l q : List Int} (hs : isSurf k c l q = true) : SolvOk (hessI k q) (negL l) ∧ ((minorsI (hessI k q)).getLastD 0 ≠ 0 → ∃ z, ptI k l q = some z ∧ z.1.length = k ∧ SolOk z) := by
  obtain ⟨k0, k4, hl, hq, _, bl, _⟩ := surf_parts hs
  obtain ⟨sq, rg⟩ := reg_of hs
  have hA : ∀ r ∈ hessI k q, r.length = k ∧ Bd 36 r := fun r hr => ⟨(sq.2 r hr).1, bd_mono (sq.2 r hr).2 (by decide)⟩
  have nl : (negL l).length = k := by rw [neg_len, hl]
  have nb : Bd 36 (negL l) := neg_bd (bd_mono bl (by decide))
  refine ⟨solvOk sq.1 hA nl nb (by omega), fun h => ?_⟩
  obtain ⟨z, hz, zl, _, _⟩ := reg_solved (rg h)
  exact ⟨z, hz, zl, solOk sq.1 hA nl nb (by omega) hz⟩
theorem minors_len {M : List (List Int)} : (minorsI M).length = M.length := by simp [minorsI]
theorem val_eq (c : Int) (f : Rat) : (((2 * c * (f.den : Nat) + f.num : Int) : Int) : Rat) / ((2 * (f.den : Nat) : Int) : Rat) = (c : Rat) + f / 2 := by
  have h2 : (((f.den : Nat) : Int) : Rat) ≠ 0 := SP.den_ne f
  rw [Rat.intCast_add, Rat.intCast_mul, Rat.intCast_mul, Rat.intCast_mul]
  have := SP.rat_eq f
  have e : ((2 : Int) : Rat) = 2 := rfl
  rw [e]
  generalize ((f.den : Nat) : Int) = d at *
  generalize f.num = m at *
  rw [this]
  grind
end Lf
end
section
set_option Elab.async false
set_option linter.all false
/-! Reading the list of calls, in plain Lean -/
namespace Lf
/-- what is left behind i rows -/
def rrem (l : List Int) : Nat → List Int
  | 0 => l
  | i + 1 => match PyFlat.row (rrem l i) with
    | some (_, s) => s
    | none => []
theorem rrem_front {l x s : List Int} (h : PyFlat.row l = some (x, s)) : ∀ i, rrem l (i + 1) = rrem s i
  | 0 => by
    show (match PyFlat.row l with | some (_, s) => s | none => []) = s
    rw [h]
  | i + 1 => by
    show (match PyFlat.row (rrem l (i + 1)) with | some (_, s) => s | none => []) = _
    rw [rrem_front h i]; rfl
theorem rows_rem : ∀ {k : Nat} {l : List Int} {xs : List (List Int)} {t : List Int}, PyFlat.rows k l = some (xs, t) → xs.length = k ∧ rrem l k = t ∧ ∀ i, i < k → PyFlat.row (rrem l i) = some (xs.getD i [], rrem l (i + 1))
  | 0, l, xs, t, h => by
    have : some (([] : List (List Int)), l) = some (xs, t) := h
    cases this
    exact ⟨rfl, rfl, fun i hi => absurd hi (Nat.not_lt_zero _)⟩
  | k + 1, l, xs, t, h => by
    have h : (match PyFlat.row l with
      | none => none
      | some (x, s) => match PyFlat.rows k s with
        | none => none
        | some (xs, t) => some (x :: xs, t)) = some (xs, t) := h
    cases hr : PyFlat.row l with
    | none => rw [hr] at h; cases h
    | some q =>
      obtain ⟨x, s⟩ := q
      rw [hr] at h
      simp only [] at h
      cases hs : PyFlat.rows k s with
      | none => rw [hs] at h; cases h
      | some q =>
        obtain ⟨ys, u⟩ := q
        rw [hs] at h
        cases h
        obtain ⟨h1, h2, h3⟩ := rows_rem hs
        refine ⟨by simp [h1], by rw [rrem_front hr]; exact h2, fun i hi => ?_⟩
        cases i with
        | zero =>
          rw [rrem_front hr 0]
          exact hr
        | succ i =>
          rw [rrem_front hr, rrem_front hr, h3 i (by omega)]; rfl
theorem row_parts {l x s : List Int} (h : PyFlat.row l = some (x, s)) : ∃ n r, l = n :: r ∧ 0 ≤ n ∧ n.toNat ≤ r.length ∧ x = r.take n.toNat ∧ s = r.drop n.toNat := by
  cases l with
  | nil => cases h
  | cons n r =>
    have h : (if 0 ≤ n ∧ n.toNat ≤ r.length then some (r.take n.toNat, r.drop n.toNat) else none) = some (x, s) := h
    split at h
    · rename_i c
      cases h
      exact ⟨n, r, rfl, c.1, c.2, rfl, rfl⟩
    · cases h
/-- suffixes of a list -/
theorem suf_drop {ns l : List Int} (h : ∃ p, ns = p ++ l) : l = ns.drop (ns.length - l.length) := by
  obtain ⟨p, rfl⟩ := h
  rw [List.length_append, Nat.add_sub_cancel, List.drop_left]
theorem suf_row {ns l x s : List Int} (h : ∃ p, ns = p ++ l) (hr : PyFlat.row l = some (x, s)) : ∃ p, ns = p ++ s := by
  obtain ⟨p, rfl⟩ := h
  obtain ⟨n, r, rfl, _, _, _, rfl⟩ := row_parts hr
  exact ⟨p ++ (n :: r.take n.toNat), by simp⟩
theorem suf_rrem {ns l : List Int} {k : Nat} {xs : List (List Int)} {t : List Int} (h : ∃ p, ns = p ++ l) (hr : PyFlat.rows k l = some (xs, t)) : ∀ i, i ≤ k → ∃ p, ns = p ++ rrem l i
  | 0, _ => h
  | i + 1, hi => suf_row (suf_rrem h hr i (by omega)) ((rows_rem hr).2.2 i (by omega))
def shapesL' : List (Nat × Nat) := [(1, 0), (1, 1), (1, 0), (2, 0), (0, 1), (0, 0), (1, 0), (0, 0), (0, 0), (0, 1), (0, 2), (0, 1), (1, 0), (1, 0), (1, 0), (0, 0), (0, 0), (0, 0), (0, 0), (1, 0), (0, 0), (0, 1), (1, 0), (0, 0), (2, 2), (0, 0)]
theorem shape_get {p : Int} {x : Nat × Nat} (h : PyKxd4.shape p = some x) : 0 ≤ p ∧ p < 26 ∧ shapesL'[p.toNat]? = some x := by
  unfold PyKxd4.shape at h
  by_cases e0 : p = 0
  · subst e0
    exact ⟨by decide, by decide, h⟩
  rw [if_neg e0] at h
  by_cases e1 : p = 1
  · subst e1
    exact ⟨by decide, by decide, h⟩
  rw [if_neg e1] at h
  by_cases e2 : p = 2
  · subst e2
    exact ⟨by decide, by decide, h⟩
  rw [if_neg e2] at h
  by_cases e3 : p = 3
  · subst e3
    exact ⟨by decide, by decide, h⟩
  rw [if_neg e3] at h
  by_cases e4 : p = 4
  · subst e4
    exact ⟨by decide, by decide, h⟩
  rw [if_neg e4] at h
  by_cases e5 : p = 5
  · subst e5
    exact ⟨by decide, by decide, h⟩
  rw [if_neg e5] at h
  by_cases e6 : p = 6
  · subst e6
    exact ⟨by decide, by decide, h⟩
  rw [if_neg e6] at h
  by_cases e7 : p = 7
  · subst e7
    exact ⟨by decide, by decide, h⟩
  rw [if_neg e7] at h
  by_cases e8 : p = 8
  · subst e8
    exact ⟨by decide, by decide, h⟩
  rw [if_neg e8] at h
  by_cases e9 : p = 9
  · subst e9
    exact ⟨by decide, by decide, h⟩
  rw [if_neg e9] at h
  by_cases e10 : p = 10
  · subst e10
    exact ⟨by decide, by decide, h⟩
  rw [if_neg e10] at h
  by_cases e11 : p = 11
  · subst e11
    exact ⟨by decide, by decide, h⟩
  rw [if_neg e11] at h
  by_cases e12 : p = 12
  · subst e12
    exact ⟨by decide, by decide, h⟩
  rw [if_neg e12] at h
  by_cases e13 : p = 13
  · subst e13
    exact ⟨by decide, by decide, h⟩
  rw [if_neg e13] at h
  by_cases e14 : p = 14
  · subst e14
    exact ⟨by decide, by decide, h⟩
  rw [if_neg e14] at h
  by_cases e15 : p = 15
  · subst e15
    exact ⟨by decide, by decide, h⟩
  rw [if_neg e15] at h
  by_cases e16 : p = 16
  · subst e16
    exact ⟨by decide, by decide, h⟩
  rw [if_neg e16] at h
  by_cases e17 : p = 17
  · subst e17
    exact ⟨by decide, by decide, h⟩
  rw [if_neg e17] at h
  by_cases e18 : p = 18
  · subst e18
    exact ⟨by decide, by decide, h⟩
  rw [if_neg e18] at h
  by_cases e19 : p = 19
  · subst e19
    exact ⟨by decide, by decide, h⟩
  rw [if_neg e19] at h
  by_cases e20 : p = 20
  · subst e20
    exact ⟨by decide, by decide, h⟩
  rw [if_neg e20] at h
  by_cases e21 : p = 21
  · subst e21
    exact ⟨by decide, by decide, h⟩
  rw [if_neg e21] at h
  by_cases e22 : p = 22
  · subst e22
    exact ⟨by decide, by decide, h⟩
  rw [if_neg e22] at h
  by_cases e23 : p = 23
  · subst e23
    exact ⟨by decide, by decide, h⟩
  rw [if_neg e23] at h
  by_cases e24 : p = 24
  · subst e24
    exact ⟨by decide, by decide, h⟩
  rw [if_neg e24] at h
  by_cases e25 : p = 25
  · subst e25
    exact ⟨by decide, by decide, h⟩
  rw [if_neg e25] at h
  cases h
structure CallP (l : List Int) (p : Int) (nums : List Int) (rows : List (List Int)) (t : List Int) : Prop where
  ex : ∃ (n k : Nat) (r : List Int), l = p :: r ∧ PyKxd4.shape p = some (n, k) ∧ n ≤ r.length ∧ nums = r.take n ∧ PyFlat.rows k (r.drop n) = some (rows, t)
theorem call_parts {l : List Int} {c : List (List Int)} {t : List Int} (h : PyFlat.call PyKxd4.shape l = some (c, t)) : ∃ p nums rows, c = (p :: nums) :: rows ∧ CallP l p nums rows t := by
  cases l with
  | nil => cases h
  | cons p r =>
    have h : (match PyKxd4.shape p with
      | none => none
      | some (n, k) => if r.length < n then none else match PyFlat.rows k (r.drop n) with
        | none => none
        | some (xs, t) => some ((p :: r.take n) :: xs, t)) = some (c, t) := h
    cases hs : PyKxd4.shape p with
    | none => rw [hs] at h; cases h
    | some q =>
      obtain ⟨n, k⟩ := q
      rw [hs] at h
      simp only [] at h
      split at h
      · cases h
      · cases hr : PyFlat.rows k (r.drop n) with
        | none => rw [hr] at h; cases h
        | some q =>
          obtain ⟨xs, u⟩ := q
          rw [hr] at h
          cases h
          exact ⟨p, r.take n, xs, rfl, ⟨n, k, r, rfl, hs, by omega, rfl, hr⟩⟩
theorem call_suf {ns l : List Int} {p : Int} {nums : List Int} {rows : List (List Int)} {t : List Int} (h : ∃ q, ns = q ++ l) (C : CallP l p nums rows t) : ∃ q, ns = q ++ t := by
  obtain ⟨n, k, r, rfl, _, hn, _, hr⟩ := C.ex
  obtain ⟨q, rfl⟩ := h
  have := suf_rrem (ns := q ++ p :: r) (l := r.drop n) ⟨q ++ p :: r.take n, by simp⟩ hr k (Nat.le_refl _)
  rw [(rows_rem hr).2.1] at this
  exact this
/-- what is left behind i calls -/
def crem (l : List Int) : Nat → List Int
  | 0 => l
  | i + 1 => match PyFlat.call PyKxd4.shape (crem l i) with
    | some (_, s) => s
    | none => []
theorem crem_front {l s : List Int} {c : List (List Int)} (h : PyFlat.call PyKxd4.shape l = some (c, s)) : ∀ i, crem l (i + 1) = crem s i
  | 0 => by
    show (match PyFlat.call PyKxd4.shape l with | some (_, s) => s | none => []) = s
    rw [h]
  | i + 1 => by
    show (match PyFlat.call PyKxd4.shape (crem l (i + 1)) with | some (_, s) => s | none => []) = _
    rw [crem_front h i]; rfl
theorem calls_rem : ∀ {f : Nat} {l : List Int} {cs : List (List (List Int))}, PyFlat.calls PyKxd4.shape f l = some cs → crem l cs.length = [] ∧ ∀ i, i < cs.length → PyFlat.call PyKxd4.shape (crem l i) = some (cs.getD i [], crem l (i + 1))
  | f, [], cs, h => by
    have h : some ([] : List (List (List Int))) = some cs := by cases f <;> exact h
    cases h
    exact ⟨rfl, fun i hi => absurd hi (Nat.not_lt_zero _)⟩
  | 0, _ :: _, cs, h => by cases h
  | f + 1, p :: r, cs, h => by
    have h : (match PyFlat.call PyKxd4.shape (p :: r) with
      | none => none
      | some (c, t) => match PyFlat.calls PyKxd4.shape f t with
        | none => none
        | some cs => some (c :: cs)) = some cs := h
    cases hc : PyFlat.call PyKxd4.shape (p :: r) with
    | none => rw [hc] at h; cases h
    | some q =>
      obtain ⟨c, t⟩ := q
      rw [hc] at h
      simp only [] at h
      cases hs : PyFlat.calls PyKxd4.shape f t with
      | none => rw [hs] at h; cases h
      | some ds =>
        rw [hs] at h
        cases h
        obtain ⟨h1, h2⟩ := calls_rem hs
        refine ⟨by rw [List.length_cons, crem_front hc]; exact h1, fun i hi => ?_⟩
        cases i with
        | zero =>
          rw [crem_front hc 0]
          exact hc
        | succ i =>
          rw [crem_front hc, crem_front hc, h2 i (by simpa using hi)]; rfl
theorem crem_suf {l : List Int} {cs : List (List (List Int))} {f : Nat} (h : PyFlat.calls PyKxd4.shape f l = some cs) : ∀ i, i ≤ cs.length → ∃ p, l = p ++ crem l i
  | 0, _ => ⟨[], rfl⟩
  | i + 1, hi => by
    obtain ⟨p, nums, rows, _, C⟩ := call_parts ((calls_rem h).2 i (by omega))
    exact call_suf (crem_suf h i (by omega)) C
end Lf
end
section
set_option Elab.async false
set_option linter.all false
/-! The calls in plain Lean: a step, and that it is the specification's -/
namespace Lf
open NB Kxd4
def newM (c : Nat) : ModD := ⟨c, List.range c, [], []⟩
def isResp (y : Int) : Bool := decide ((y.natAbs : Int) ≤ 1000000)
def fitsP (m : ModD) (t : List Int) : Bool := decide (t.length = m.cc) && (decide (t.getD 0 1 = 0) && (List.zip t (t.drop 1)).all fun z => decide (z.2 = z.1) || decide (z.2 = z.1 + 1))
def aGet (m : ModD) (i : Nat) : List Int := if m.hasRow i = false then [-2] else m.resp.getD i 0 :: rowAt m i
def aSum (m : ModD) : List Int := [(m.cc : Nat), (m.rows.length : Nat), (m.tc : Nat)]
def opI : Nat → ModD → List Int → List (List Int) → ModD × List Int
  | 0, m, [c], [] => if c < 1 ∨ 8 < c then (m, [-22]) else (newM c.toNat, [0])
  | 1, m, [y], [r] => if isResp y = false ∨ fitsC m r = false then (m, [-22]) else if 24 ≤ m.rows.length then (m, [-28]) else ({ m with rows := m.rows ++ [r], resp := m.resp ++ [y] }, [((m.rows.length + 1 : Nat) : Int)])
  | 2, m, [i], [] => if m.hasRow i = false then (m, [-2]) else (m.without i.toNat, [(((m.without i.toNat).rows.length : Nat) : Int)])
  | 3, m, [i, y], [] => if m.hasRow i = false then (m, [-2]) else if isResp y = false then (m, [-22]) else ({ m with resp := m.resp.set i.toNat y }, [m.resp.getD i.toNat 0])
  | 4, m, [], [t] => if fitsP m t = false then (m, [-22]) else ({ m with terms := t.map Int.toNat }, [((({ m with terms := t.map Int.toNat } : ModD).tc : Nat) : Int)])
  | 5, m, [], [] => ({ m with rows := [], resp := [] }, [((m.rows.length : Nat) : Int)])
  | 6, m, [i], [] => (m, aGet m i.toNat)
  | 7, m, [], [] => (m, aRank m)
  | 8, m, [], [] => (m, aCoef m)
  | 9, m, [], [v] => (m, aTold m v 0)
  | 10, m, [], [c, d] => (m, aCov m c d)
  | 11, m, [], [v] => (m, aSq m v)
  | 12, m, [i], [] => (m, aFit m i.toNat)
  | 13, m, [i], [] => (m, aLev m i.toNat)
  | 14, m, [i], [] => (m, aDel m i.toNat)
  | 15, m, [], [] => (m, aRss m)
  | 16, m, [], [] => (m, aVar m)
  | 17, m, [], [] => (m, aSeq m)
  | 18, m, [], [] => (m, aMar m)
  | 19, m, [i], [] => (m, aF m i.toNat)
  | 20, m, [], [] => (m, aLack m)
  | 21, m, [], [v] => (m, aTold m v 1)
  | 22, m, [i], [] => (m, aLost m i.toNat)
  | 23, m, [], [] => (m, aNorm m)
  | 24, m, [k, c], [l, q] => (m, aStat k.toNat c l q)
  | 25, m, [], [] => (m, aSum m)
  | _, m, _, _ => (m, [])
def stepI (m : ModD) (op : Nat) (ns : List Int) (ls : List (List Int)) : ModD × List Int := if op ≠ 0 ∧ m.cc = 0 then (m, [-11]) else opI op m ns ls
/-- what calls hand in -/
def ArgOk : Nat → List Int → List (List Int) → Prop
  | 0, ns, ls => (∃ c, ns = [c] ∧ 0 ≤ c) ∧ ls = []
  | 1, ns, ls => (∃ y, ns = [y]) ∧ ∃ r, ls = [r] ∧ r.length ≤ 60
  | 2, ns, ls => (∃ i, ns = [i] ∧ 0 ≤ i) ∧ ls = []
  | 3, ns, ls => (∃ i y, ns = [i, y] ∧ 0 ≤ i) ∧ ls = []
  | 4, ns, ls => ns = [] ∧ ∃ t, ls = [t] ∧ t.length ≤ 60 ∧ ∀ z ∈ t, 0 ≤ z
  | 6, ns, ls => (∃ i, ns = [i] ∧ 0 ≤ i) ∧ ls = []
  | 9, ns, ls => ns = [] ∧ ∃ r, ls = [r] ∧ r.length ≤ 60
  | 10, ns, ls => ns = [] ∧ ∃ c d, ls = [c, d] ∧ c.length ≤ 60 ∧ d.length ≤ 60
  | 11, ns, ls => ns = [] ∧ ∃ r, ls = [r] ∧ r.length ≤ 60
  | 12, ns, ls => (∃ i, ns = [i] ∧ 0 ≤ i) ∧ ls = []
  | 13, ns, ls => (∃ i, ns = [i] ∧ 0 ≤ i) ∧ ls = []
  | 14, ns, ls => (∃ i, ns = [i] ∧ 0 ≤ i) ∧ ls = []
  | 19, ns, ls => (∃ i, ns = [i] ∧ 0 ≤ i) ∧ ls = []
  | 21, ns, ls => ns = [] ∧ ∃ r, ls = [r] ∧ r.length ≤ 60
  | 22, ns, ls => (∃ i, ns = [i] ∧ 0 ≤ i) ∧ ls = []
  | 24, ns, ls => (∃ k c, ns = [k, c] ∧ 0 ≤ k) ∧ ∃ l q, ls = [l, q] ∧ l.length ≤ 60 ∧ q.length ≤ 60
  | _, ns, ls => ns = [] ∧ ls = []
def OkS (m : ModD) : Prop := m.cc = 0 ∨ OkM m
def stOf (m : ModD) : State := if m.cc = 0 then none else some (sM m)
theorem stOf_ok {m : ModD} (h : OkM m) : stOf m = some (sM m) := by
  unfold stOf
  rw [if_neg (by have := h.c0; omega)]
/-! what the steps leave -/
theorem okNew {c : Nat} (h1 : 0 < c) (h2 : c ≤ 8) : OkM (newM c) where
  c0 := h1
  c8 := h2
  rl := rfl
  r24 := Nat.zero_le _
  wd := fun r hr => by cases hr
  by_ := fun z hz => by cases hz
  tl := by show (List.range c).length = c; simp
  tz := by
    show (List.range c).getD 0 1 = 0
    rw [List.getD_eq_getElem?_getD, List.getElem?_range h1]; rfl
  ts := fun i hi => by
    have hi : i + 1 < (List.range c).length := hi
    rw [List.length_range] at hi
    right
    show (List.range c).getD (i + 1) 0 = (List.range c).getD i 0 + 1
    rw [List.getD_eq_getElem?_getD, List.getD_eq_getElem?_getD, List.getElem?_range hi, List.getElem?_range (by omega)]; rfl
theorem resp_bn {y : Int} (h : isResp y = true) : Bn 20 y.natAbs := by
  have := of_decide_eq_true h
  unfold Bn
  omega
theorem okAdd {m : ModD} (h : OkM m) {y : Int} {r : List Int} (hy : isResp y = true) (hr : fitsC m r = true) (hl : m.rows.length < 24) : OkM { m with rows := m.rows ++ [r], resp := m.resp ++ [y] } where
  c0 := h.c0
  c8 := h.c8
  rl := by simp [h.rl]
  r24 := by
    show (m.rows ++ [r]).length ≤ 24
    rw [List.length_append]; show m.rows.length + 1 ≤ 24; omega
  wd := fun x hx => by
    rcases List.mem_append.mp hx with q | q
    · exact h.wd x q
    · rw [List.mem_singleton.mp q]; exact fitsC_bd hr
  by_ := fun z hz => by
    rcases List.mem_append.mp hz with q | q
    · exact h.by_ z q
    · rw [List.mem_singleton.mp q]; exact resp_bn hy
  tl := h.tl
  tz := h.tz
  ts := h.ts
theorem okSet {m : ModD} (h : OkM m) {i : Nat} {y : Int} (hy : isResp y = true) : OkM { m with resp := m.resp.set i y } where
  c0 := h.c0
  c8 := h.c8
  rl := by simp [h.rl]
  r24 := h.r24
  wd := h.wd
  by_ := fun z hz => by
    rcases List.mem_or_eq_of_mem_set hz with q | q
    · exact h.by_ z q
    · rw [q]; exact resp_bn hy
  tl := h.tl
  tz := h.tz
  ts := h.ts
theorem okClear {m : ModD} (h : OkM m) : OkM { m with rows := [], resp := [] } where
  c0 := h.c0
  c8 := h.c8
  rl := rfl
  r24 := Nat.zero_le _
  wd := fun r hr => by cases hr
  by_ := fun z hz => by cases hz
  tl := h.tl
  tz := h.tz
  ts := h.ts
theorem zip_next {t : List Int} {i : Nat} (h : i + 1 < t.length) : (t.getD i 0, t.getD (i + 1) 0) ∈ List.zip t (t.drop 1) := by
  have e : (List.zip t (t.drop 1))[i]? = some (t.getD i 0, t.getD (i + 1) 0) := by
    rw [List.getElem?_zip_eq_some]
    refine ⟨?_, ?_⟩
    · rw [List.getD_eq_getElem?_getD, List.getElem?_eq_getElem (by omega)]; rfl
    · rw [List.getElem?_drop, Nat.add_comm]
      show t[i + 1]? = some (t.getD (i + 1) 0)
      rw [List.getD_eq_getElem?_getD, List.getElem?_eq_getElem h]; rfl
  exact List.mem_of_getElem? e
theorem okTerms {m : ModD} (h : OkM m) {t : List Int} (hp : ∀ z ∈ t, 0 ≤ z) (ht : fitsP m t = true) : OkM { m with terms := t.map Int.toNat } := by
  unfold fitsP at ht
  rw [Bool.and_eq_true, Bool.and_eq_true] at ht
  obtain ⟨t1, t2, t3⟩ := ht
  have t1 : t.length = m.cc := of_decide_eq_true t1
  have t2 : t.getD 0 1 = 0 := of_decide_eq_true t2
  have hc := h.c0
  have g : ∀ i, i < t.length → (t.map Int.toNat).getD i 0 = (t.getD i 0).toNat := fun i hi => map_getD hi
  exact {
    c0 := h.c0
    c8 := h.c8
    rl := h.rl
    r24 := h.r24
    wd := h.wd
    by_ := h.by_
    tl := by show (t.map Int.toNat).length = m.cc; rw [List.length_map]; exact t1
    tz := by
      show (t.map Int.toNat).getD 0 1 = 0
      rw [map_getD (d := 1) (by omega), t2]; rfl
    ts := fun i hi => by
      have hi : i + 1 < (t.map Int.toNat).length := hi
      rw [List.length_map] at hi
      show (t.map Int.toNat).getD (i + 1) 0 = (t.map Int.toNat).getD i 0 ∨ (t.map Int.toNat).getD (i + 1) 0 = (t.map Int.toNat).getD i 0 + 1
      rw [g i (by omega), g (i + 1) hi]
      have z := List.all_eq_true.mp t3 _ (zip_next hi)
      have p := hp _ (SV.getD_in (d := 0) (show i < t.length by omega))
      simp only [Bool.or_eq_true, decide_eq_true_eq] at z
      rcases z with z | z
      · left; rw [z]
      · right; rw [z]; omega }
theorem hasRow_nat (m : ModD) {i : Int} (h : 0 ≤ i) : m.hasRow i = m.hasRow ((i.toNat : Nat) : Int) := by
  have : ((i.toNat : Nat) : Int) = i := by omega
  rw [this]
theorem opI_ok {op : Nat} {m : ModD} {ns : List Int} {ls : List (List Int)} (h : OkM m) (ha : ArgOk op ns ls) : OkM (opI op m ns ls).1 := by
  unfold opI
  split
  · rename_i c
    split
    · exact h
    · rename_i q
      rw [not_or] at q
      exact okNew (by omega) (by omega)
  · rename_i y r
    split
    · exact h
    · rename_i q
      rw [not_or] at q
      split
      · exact h
      · exact okAdd h (by simpa using q.1) (by simpa using q.2) (by omega)
  · split
    · exact h
    · exact okWithout h _
  · split
    · exact h
    · split
      · exact h
      · rename_i q
        exact okSet h (by simpa using q)
  · rename_i t
    split
    · exact h
    · rename_i q
      obtain ⟨_, t', e, _, hp⟩ := ha
      injection e with e _
      subst e
      exact okTerms h hp (by simpa using q)
  · exact okClear h
  all_goals exact h
theorem stepI_ok {op : Nat} {m : ModD} {ns : List Int} {ls : List (List Int)} (h : OkS m) (ha : ArgOk op ns ls) : OkS (stepI m op ns ls).1 := by
  unfold stepI
  split
  · exact h
  · rename_i q
    rcases h with h | h
    · have hop : op = 0 := Classical.byContradiction fun z => q ⟨z, h⟩
      subst hop
      obtain ⟨⟨c, rfl, hc⟩, rfl⟩ := ha
      show OkS (if c < 1 ∨ 8 < c then (m, [-22]) else (newM c.toNat, [0])).1
      split
      · exact .inl h
      · rename_i q
        rw [not_or] at q
        exact .inr (okNew (by omega) (by omega))
    · exact .inr (opI_ok h ha)
/-! the specification's step -/
def reqI : Nat → List Int → List (List Int) → Option Request
  | op, ns, ls => Kxd4Neutral.requestOf (((op : Int) :: ns) :: ls)
theorem resp_is (y : Int) : isResp y = isResponse y := by
  unfold isResp isResponse
  have : maxResponse = 1000000 := rfl
  rw [this, ← Bool.decide_and]
  congr 1
  exact propext ⟨fun h => by omega, fun h => by omega⟩
theorem all_zip (l : List Int) (hp : ∀ z ∈ l, 0 ≤ z) : ∀ (k : List Int), (∀ z ∈ k, 0 ≤ z) → ((l.map Int.toNat).zip (k.map Int.toNat)).all (fun z => z.2 == z.1 || z.2 == z.1 + 1) = (l.zip k).all fun z => decide (z.2 = z.1) || decide (z.2 = z.1 + 1) := by
  induction l with
  | nil => intro k _; rfl
  | cons x l ih =>
    intro k hk
    cases k with
    | nil => rfl
    | cons y k =>
      have hx := hp x (by simp)
      have hy := hk y (by simp)
      rw [List.map_cons, List.map_cons, List.zip_cons_cons, List.zip_cons_cons, List.all_cons, List.all_cons, ih (fun z hz => hp z (by simp [hz])) k fun z hz => hk z (by simp [hz])]
      congr 1
      rw [Bool.eq_iff_iff]
      simp only [Bool.or_eq_true, beq_iff_eq, decide_eq_true_eq]
      omega
theorem terms_is {m : ModD} {t : List Int} (hc : 0 < m.cc) (hp : ∀ z ∈ t, 0 ≤ z) : fitsP m t = areTerms (sM m) (t.map Int.toNat) := by
  unfold fitsP areTerms
  rw [Bool.and_assoc, ← List.map_drop, all_zip t hp (t.drop 1) fun z hz => hp z (List.mem_of_mem_drop hz), List.length_map]
  have a : decide (t.length = m.cc) = (t.length == (sM m).columns) := by
    show decide (t.length = m.cc) = (t.length == m.cc)
    rw [Bool.eq_iff_iff]
    simp
  have b : decide (t.getD 0 1 = 0) = ((t.map Int.toNat).headD 1 == 0) := by
    cases t with
    | nil => rfl
    | cons x t =>
      have := hp x (by simp)
      show decide (x = 0) = (x.toNat == 0)
      rw [Bool.eq_iff_iff]
      simp
      omega
  rw [a, b]
theorem obs_append : ∀ {R : List (List Int)} {y : List Int} {r : List Int} {v : Int}, R.length = y.length → obs (R ++ [r]) (y ++ [v]) = obs R y ++ [⟨r, v⟩]
  | [], [], _, _, _ => rfl
  | a :: R, b :: y, r, v, h => by
    have := obs_append (R := R) (y := y) (r := r) (v := v) (by simpa using h)
    simp only [List.cons_append, obs, this]
  | [], _ :: _, _, _, h => by simp at h
  | _ :: _, [], _, _, h => by simp at h
theorem obs_set : ∀ {R : List (List Int)} {y : List Int} (i : Nat) (v : Int), R.length = y.length → obs R (y.set i v) = (obs R y).set i ⟨R.getD i [], v⟩
  | [], [], _, _, _ => rfl
  | a :: R, b :: y, 0, v, h => rfl
  | a :: R, b :: y, i + 1, v, h => by
    have := obs_set (R := R) (y := y) i v (by simpa using h)
    simp only [List.set_cons_succ, obs, this, List.getD_cons_succ]
  | [], _ :: _, _, _, h => by simp at h
  | _ :: _, [], _, _, h => by simp at h
theorem rows_obs {m : ModD} (h : OkM m) : (sM m).data.length = m.rows.length := obs_len h.rl
theorem st_fix {m : ModD} (h : OkM m) (l : List Int) (q : Request) (e : ans m q = l) (hs : Kxd4.step (some (sM m)) q = (some (sM m), query (sM m) q)) : (fun x : State × Result => (x.1, Kxd4Neutral.fields x.2)) (Kxd4.step (some (sM m)) q) = (stOf m, l) := by
  rw [hs, stOf_ok h, ← e]; rfl
def stepS (s : State) (q : Request) : State × List Int := ((Kxd4.step s q).1, Kxd4Neutral.fields (Kxd4.step s q).2)
theorem stepS_q {m : ModD} (h : OkM m) {l : List Int} {q : Request} (hs : Kxd4.step (some (sM m)) q = (some (sM m), query (sM m) q)) (e : ans m q = l) : stepS (some (sM m)) q = (stOf m, l) := by
  unfold stepS
  rw [hs, stOf_ok h, ← e]; rfl
theorem step_new {s : State} {c : Int} (h0 : 0 ≤ c) (m : ModD) (hm : s = stOf m) : stepS s (.create c.toNat) = (stOf (opI 0 m [c] []).1, (opI 0 m [c] []).2) := by
  subst hm
  unfold stepS
  have e : Kxd4.step (stOf m) (.create c.toNat) = if c.toNat = 0 ∨ maxColumns < c.toNat then (stOf m, .value (-22)) else (some ⟨c.toNat, List.range c.toNat, []⟩, .value 0) := by
    unfold Kxd4.step
    rfl
  have hmax : maxColumns = 8 := rfl
  rw [e, hmax]
  show _ = (stOf (if c < 1 ∨ 8 < c then (m, [-22]) else (newM c.toNat, [0])).1, (if c < 1 ∨ 8 < c then (m, [-22]) else (newM c.toNat, [0])).2)
  by_cases q : c < 1 ∨ 8 < c
  · rw [if_pos q, if_pos (by omega)]; rfl
  · rw [if_neg q, if_neg (by omega)]
    have : stOf (newM c.toNat) = some (sM (newM c.toNat)) := stOf_ok (okNew (by omega) (by omega))
    show (some _, _) = (stOf (newM c.toNat), _)
    rw [this]; rfl
theorem step_none {q : Request} (h : ∀ c, q ≠ .create c) : stepS none q = (none, [-11]) := by
  cases q <;> first | rfl | exact absurd rfl (h _)
theorem toN {i : Int} (h : 0 ≤ i) : ((i.toNat : Nat) : Int) = i := by omega
theorem step_eq {op : Nat} {m : ModD} {ns : List Int} {ls : List (List Int)} (hop : op < 26) (h : OkS m) (ha : ArgOk op ns ls) : Kxd4Neutral.step (stOf m) (((op : Int) :: ns) :: ls) = (stOf (stepI m op ns ls).1, (stepI m op ns ls).2) := by
  have main : ∀ q : Request, Kxd4Neutral.requestOf (((op : Int) :: ns) :: ls) = some q → Kxd4Neutral.step (stOf m) (((op : Int) :: ns) :: ls) = stepS (stOf m) q := fun q e => by
    unfold Kxd4Neutral.step
    rw [e]; rfl
  have low : ∀ q : Request, Kxd4Neutral.requestOf (((op : Int) :: ns) :: ls) = some q → op ≠ 0 → (∀ c, q ≠ .create c) → (OkM m → stepS (some (sM m)) q = (stOf (opI op m ns ls).1, (opI op m ns ls).2)) → Kxd4Neutral.step (stOf m) (((op : Int) :: ns) :: ls) = (stOf (stepI m op ns ls).1, (stepI m op ns ls).2) := fun q e h0 hc k => by
    rw [main q e]
    unfold stepI
    by_cases c : m.cc = 0
    · rw [if_pos ⟨h0, c⟩]
      have : stOf m = none := by unfold stOf; rw [if_pos c]
      rw [this, step_none hc]
    · rw [if_neg fun z => c z.2]
      have hm := h.resolve_left c
      rw [stOf_ok hm]
      exact k hm
  match op, hop, ha with
  | 0, _, ha =>
    obtain ⟨⟨c, rfl, hc⟩, rfl⟩ := ha
    rw [main _ rfl]
    unfold stepI
    rw [if_neg fun z => z.1 rfl]
    exact step_new hc m rfl
  | 1, _, ha =>
    obtain ⟨⟨y, rfl⟩, r, rfl, _⟩ := ha
    refine low (.addRow y r) rfl (by decide) (fun c z => by cases z) fun hm => ?_
    show stepS (some (sM m)) (.addRow y r) = (stOf (if isResp y = false ∨ fitsC m r = false then (m, [-22]) else if 24 ≤ m.rows.length then (m, [-28]) else ({ m with rows := m.rows ++ [r], resp := m.resp ++ [y] }, [((m.rows.length + 1 : Nat) : Int)])).1, (if isResp y = false ∨ fitsC m r = false then (m, [-22]) else if 24 ≤ m.rows.length then (m, [-28]) else ({ m with rows := m.rows ++ [r], resp := m.resp ++ [y] }, [((m.rows.length + 1 : Nat) : Int)])).2)
    have e : Kxd4.step (some (sM m)) (.addRow y r) = if isRow (sM m) r = false ∨ isResponse y = false then (some (sM m), .value (-22))
      else if maxRows ≤ (sM m).data.length then (some (sM m), .value (-28))
      else (some { sM m with data := (sM m).data ++ [⟨r, y⟩] }, .value ((sM m).data.length + 1 : Nat)) := rfl
    have hmax : maxRows = 24 := rfl
    unfold stepS
    rw [e, ← fits_isRow, ← resp_is, rows_obs hm, hmax]
    by_cases q : isResp y = false ∨ fitsC m r = false
    · rw [if_pos q, if_pos (Or.comm.mp q), stOf_ok hm]; rfl
    · rw [if_neg q, if_neg fun z => q (Or.comm.mp z)]
      by_cases q2 : 24 ≤ m.rows.length
      · rw [if_pos q2, if_pos q2, stOf_ok hm]; rfl
      · rw [if_neg q2, if_neg q2]
        rw [not_or] at q
        have hk := okAdd hm (y := y) (r := r) (by simpa using q.1) (by simpa using q.2) (by omega)
        show (some _, _) = (stOf { m with rows := m.rows ++ [r], resp := m.resp ++ [y] }, _)
        rw [stOf_ok hk]
        congr 2
        show (⟨m.cc, m.terms, obs m.rows m.resp ++ [⟨r, y⟩]⟩ : Model) = ⟨m.cc, m.terms, obs (m.rows ++ [r]) (m.resp ++ [y])⟩
        rw [obs_append hm.rl]
  | 2, _, ha =>
    obtain ⟨⟨i, rfl, hi⟩, rfl⟩ := ha
    refine low (.removeRow i.toNat) rfl (by decide) (fun c z => by cases z) fun hm => ?_
    show stepS (some (sM m)) (.removeRow i.toNat) = (stOf (if m.hasRow i = false then (m, [-2]) else (m.without i.toNat, [(((m.without i.toNat).rows.length : Nat) : Int)])).1, (if m.hasRow i = false then (m, [-2]) else (m.without i.toNat, [(((m.without i.toNat).rows.length : Nat) : Int)])).2)
    have e : Kxd4.step (some (sM m)) (.removeRow i.toNat) = if (sM m).data.length ≤ i.toNat then (some (sM m), .value (-2)) else (some (without (sM m) i.toNat), .value ((sM m).data.length - 1 : Nat)) := rfl
    unfold stepS
    rw [e, rows_obs hm, without_spec hm]
    have hr := hasRow_iff m i.toNat
    rw [toN hi] at hr
    by_cases q : m.hasRow i = true
    · have q1 := hr.mp q
      have nq : ¬ m.hasRow i = false := by rw [q]; simp
      rw [if_neg nq, if_neg (by omega)]
      show (some _, _) = (stOf (m.without i.toNat), _)
      rw [stOf_ok (okWithout hm i.toNat)]
      have : (m.without i.toNat).rows.length = m.rows.length - 1 := by
        show (m.rows.eraseIdx i.toNat).length = _
        rw [List.length_eraseIdx, if_pos q1]
      rw [this]; rfl
    · have q1 : ¬ i.toNat < m.rows.length := fun z => q (hr.mpr z)
      have nq : m.hasRow i = false := by simpa using q
      rw [if_pos nq, if_pos (by omega), stOf_ok hm]; rfl
  | 3, _, ha =>
    obtain ⟨⟨i, y, rfl, hi⟩, rfl⟩ := ha
    refine low (.setResponse i.toNat y) rfl (by decide) (fun c z => by cases z) fun hm => ?_
    show stepS (some (sM m)) (.setResponse i.toNat y) = (stOf (if m.hasRow i = false then (m, [-2]) else if isResp y = false then (m, [-22]) else ({ m with resp := m.resp.set i.toNat y }, [m.resp.getD i.toNat 0])).1, (if m.hasRow i = false then (m, [-2]) else if isResp y = false then (m, [-22]) else ({ m with resp := m.resp.set i.toNat y }, [m.resp.getD i.toNat 0])).2)
    have e : Kxd4.step (some (sM m)) (.setResponse i.toNat y) = match (sM m).data[i.toNat]? with
      | none => (some (sM m), .value (-2))
      | some o => if isResponse y = false then (some (sM m), .value (-22)) else (some { sM m with data := (sM m).data.set i.toNat { o with response := y } }, .value o.response) := rfl
    unfold stepS
    rw [e, ← resp_is]
    have hr := hasRow_iff m i.toNat
    rw [toN hi] at hr
    by_cases q : m.hasRow i = true
    · have q1 := hr.mp q
      have nq : ¬ m.hasRow i = false := by rw [q]; simp
      have eo : (sM m).data[i.toNat]? = some ⟨rowAt m i.toNat, m.resp.getD i.toNat 0⟩ := obs_get hm.rl q1
      rw [if_neg nq, eo]
      simp only []
      by_cases q2 : isResp y = false
      · rw [if_pos q2, if_pos q2, stOf_ok hm]; rfl
      · rw [if_neg q2, if_neg q2]
        show (some _, _) = (stOf { m with resp := m.resp.set i.toNat y }, _)
        rw [stOf_ok (okSet hm (by simpa using q2))]
        congr 2
        show (⟨m.cc, m.terms, (obs m.rows m.resp).set i.toNat ⟨rowAt m i.toNat, y⟩⟩ : Model) = ⟨m.cc, m.terms, obs m.rows (m.resp.set i.toNat y)⟩
        rw [obs_set _ _ hm.rl]; rfl
    · have q1 : ¬ i.toNat < m.rows.length := fun z => q (hr.mpr z)
      have nq : m.hasRow i = false := by simpa using q
      have eo : (sM m).data[i.toNat]? = none := List.getElem?_eq_none (by rw [rows_obs hm]; omega)
      rw [if_pos nq, eo, stOf_ok hm]; rfl
  | 4, _, ha =>
    obtain ⟨rfl, t, rfl, _, hp⟩ := ha
    refine low (.setTerms (t.map Kxd4Neutral.nat)) rfl (by decide) (fun c z => by cases z) fun hm => ?_
    have en : t.map Kxd4Neutral.nat = t.map Int.toNat := rfl
    rw [en]
    show stepS (some (sM m)) (.setTerms (t.map Int.toNat)) = (stOf (if fitsP m t = false then (m, [-22]) else ({ m with terms := t.map Int.toNat }, [((({ m with terms := t.map Int.toNat } : ModD).tc : Nat) : Int)])).1, (if fitsP m t = false then (m, [-22]) else ({ m with terms := t.map Int.toNat }, [((({ m with terms := t.map Int.toNat } : ModD).tc : Nat) : Int)])).2)
    have e : Kxd4.step (some (sM m)) (.setTerms (t.map Int.toNat)) = if areTerms (sM m) (t.map Int.toNat) = false then (some (sM m), .value (-22)) else (some { sM m with terms := t.map Int.toNat }, .value (termCount { sM m with terms := t.map Int.toNat })) := rfl
    unfold stepS
    rw [e, ← terms_is hm.c0 hp]
    by_cases q : fitsP m t = false
    · rw [if_pos q, if_pos q, stOf_ok hm]; rfl
    · rw [if_neg q, if_neg q]
      show (some _, _) = (stOf { m with terms := t.map Int.toNat }, _)
      rw [stOf_ok (okTerms hm hp (by simpa using q))]; rfl
  | 5, _, ha =>
    obtain ⟨rfl, rfl⟩ := ha
    refine low .clear rfl (by decide) (fun c z => by cases z) fun hm => ?_
    show stepS (some (sM m)) .clear = (stOf { m with rows := [], resp := [] }, [((m.rows.length : Nat) : Int)])
    rw [stOf_ok (okClear hm), ← rows_obs hm]; rfl
  | 6, _, ha =>
    obtain ⟨⟨i, rfl, hi⟩, rfl⟩ := ha
    refine low (.getRow i.toNat) rfl (by decide) (fun c z => by cases z) fun hm => ?_
    exact stepS_q hm rfl (x_get hm i.toNat)
  | 7, _, ha =>
    obtain ⟨rfl, rfl⟩ := ha
    exact low .rank rfl (by decide) (fun c z => by cases z) fun hm => stepS_q hm rfl (x_rank hm)
  | 8, _, ha =>
    obtain ⟨rfl, rfl⟩ := ha
    exact low .coefficients rfl (by decide) (fun c z => by cases z) fun hm => stepS_q hm rfl (x_coef hm)
  | 9, _, ha =>
    obtain ⟨rfl, v, rfl, _⟩ := ha
    exact low (.estimate v) rfl (by decide) (fun c z => by cases z) fun hm => stepS_q hm rfl (x_estimate hm v)
  | 10, _, ha =>
    obtain ⟨rfl, c, d, rfl, _⟩ := ha
    exact low (.covariance c d) rfl (by decide) (fun c z => by cases z) fun hm => stepS_q hm rfl (x_cov hm c d)
  | 11, _, ha =>
    obtain ⟨rfl, v, rfl, _⟩ := ha
    exact low (.squaredRatio v) rfl (by decide) (fun c z => by cases z) fun hm => stepS_q hm rfl (x_sq hm v)
  | 12, _, ha =>
    obtain ⟨⟨i, rfl, hi⟩, rfl⟩ := ha
    exact low (.fitted i.toNat) rfl (by decide) (fun c z => by cases z) fun hm => stepS_q hm rfl (x_fit hm i.toNat)
  | 13, _, ha =>
    obtain ⟨⟨i, rfl, hi⟩, rfl⟩ := ha
    exact low (.leverage i.toNat) rfl (by decide) (fun c z => by cases z) fun hm => stepS_q hm rfl (x_lev hm i.toNat)
  | 14, _, ha =>
    obtain ⟨⟨i, rfl, hi⟩, rfl⟩ := ha
    exact low (.deleted i.toNat) rfl (by decide) (fun c z => by cases z) fun hm => stepS_q hm rfl (x_del hm i.toNat)
  | 15, _, ha =>
    obtain ⟨rfl, rfl⟩ := ha
    exact low .residualSum rfl (by decide) (fun c z => by cases z) fun hm => stepS_q hm rfl (x_rss hm)
  | 16, _, ha =>
    obtain ⟨rfl, rfl⟩ := ha
    exact low .varianceEstimate rfl (by decide) (fun c z => by cases z) fun hm => stepS_q hm rfl (x_var hm)
  | 17, _, ha =>
    obtain ⟨rfl, rfl⟩ := ha
    exact low .sequential rfl (by decide) (fun c z => by cases z) fun hm => stepS_q hm rfl (x_seq hm)
  | 18, _, ha =>
    obtain ⟨rfl, rfl⟩ := ha
    exact low .marginal rfl (by decide) (fun c z => by cases z) fun hm => stepS_q hm rfl (x_mar hm)
  | 19, _, ha =>
    obtain ⟨⟨i, rfl, hi⟩, rfl⟩ := ha
    exact low (.fRatio i.toNat) rfl (by decide) (fun c z => by cases z) fun hm => stepS_q hm rfl (x_f hm i.toNat)
  | 20, _, ha =>
    obtain ⟨rfl, rfl⟩ := ha
    exact low .lackOfFit rfl (by decide) (fun c z => by cases z) fun hm => stepS_q hm rfl (x_lack hm)
  | 21, _, ha =>
    obtain ⟨rfl, v, rfl, _⟩ := ha
    exact low (.predict v) rfl (by decide) (fun c z => by cases z) fun hm => stepS_q hm rfl (x_predict hm v)
  | 22, _, ha =>
    obtain ⟨⟨i, rfl, hi⟩, rfl⟩ := ha
    exact low (.lostValue i.toNat) rfl (by decide) (fun c z => by cases z) fun hm => stepS_q hm rfl (x_lost hm i.toNat)
  | 23, _, ha =>
    obtain ⟨rfl, rfl⟩ := ha
    exact low .normalEquations rfl (by decide) (fun c z => by cases z) fun hm => stepS_q hm rfl (x_norm hm)
  | 24, _, ha =>
    obtain ⟨⟨k, c, rfl, hk⟩, l, q, rfl, _, _⟩ := ha
    exact low (.stationary k.toNat c l q) rfl (by decide) (fun c z => by cases z) fun hm => stepS_q hm rfl (stat_eq k.toNat c l q (sM m))
  | 25, _, ha =>
    obtain ⟨rfl, rfl⟩ := ha
    refine low .summary rfl (by decide) (fun c z => by cases z) fun hm => stepS_q hm rfl ?_
    show [((m.cc : Nat) : Int), ((sM m).data.length : Nat), ((termCount (sM m) : Nat) : Int)] = aSum m
    rw [rows_obs hm]; rfl
  | k + 26, hop, _ => omega
end Lf
end
section
set_option Elab.async false
set_option linter.all false
/-! All calls, in plain Lean: what is answered, and that it is the specification's -/
namespace Lf
open NB Kxd4
def stepC (m : ModD) : List (List Int) → ModD × List Int
  | (p :: nums) :: rows => stepI m p.toNat nums rows
  | _ => (m, [])
def mAt (cs : List (List (List Int))) (i : Nat) : ModD := (cs.take i).foldl (fun m c => (stepC m c).1) (newM 0)
def tell (l : List Int) : List Int := (l.length : Int) :: l
def tAt (cs : List (List (List Int))) : Nat → List Int
  | 0 => []
  | i + 1 => tAt cs i ++ tell (stepC (mAt cs i) (cs.getD i [])).2
theorem mAt_succ {cs : List (List (List Int))} {i : Nat} {c : List (List Int)} (h : cs[i]? = some c) : mAt cs (i + 1) = (stepC (mAt cs i) c).1 := by
  unfold mAt
  rw [List.take_add_one, h, List.foldl_append]; rfl
/-- a call as the document lets it be -/
def CallOk (c : List (List Int)) : Prop := ∃ p nums rows, c = (p :: nums) :: rows ∧ 0 ≤ p ∧ p < 26 ∧ ArgOk p.toNat nums rows
theorem whole_id (c : List (List Int)) : PyKxd4.whole c = c := by
  unfold PyKxd4.whole
  split <;> rfl
theorem nat32_pos {a : Int} (h : Kxd4Neutral.nat32 a = true) : 0 ≤ a := by
  unfold Kxd4Neutral.nat32 at h
  rw [Bool.and_eq_true] at h
  exact of_decide_eq_true h.1
theorem l32_len {f : Int → Bool} {l : List Int} (h : Kxd4Neutral.list32 f l = true) : l.length ≤ 60 ∧ ∀ z ∈ l, f z = true := by
  unfold Kxd4Neutral.list32 at h
  rw [Bool.and_eq_true] at h
  exact ⟨of_decide_eq_true h.2, List.all_eq_true.mp h.1⟩
theorem call_ok {c : List (List Int)} (h : Kxd4Neutral.asked1 c = true) : CallOk c := by
  unfold Kxd4Neutral.asked1 at h
  split at h
  · exact ⟨0, _, _, rfl, by decide, by decide, ⟨_, rfl, nat32_pos h⟩, rfl⟩
  · rw [Bool.and_eq_true] at h
    exact ⟨1, _, _, rfl, by decide, by decide, ⟨_, rfl⟩, _, rfl, (l32_len h.2).1⟩
  · exact ⟨2, _, _, rfl, by decide, by decide, ⟨_, rfl, nat32_pos h⟩, rfl⟩
  · rw [Bool.and_eq_true] at h
    exact ⟨3, _, _, rfl, by decide, by decide, ⟨_, _, rfl, nat32_pos h.1⟩, rfl⟩
  · exact ⟨4, _, _, rfl, by decide, by decide, rfl, _, rfl, (l32_len h).1, fun z hz => nat32_pos ((l32_len h).2 z hz)⟩
  · exact ⟨5, _, _, rfl, by decide, by decide, rfl, rfl⟩
  · exact ⟨6, _, _, rfl, by decide, by decide, ⟨_, rfl, nat32_pos h⟩, rfl⟩
  · exact ⟨7, _, _, rfl, by decide, by decide, rfl, rfl⟩
  · exact ⟨8, _, _, rfl, by decide, by decide, rfl, rfl⟩
  · exact ⟨9, _, _, rfl, by decide, by decide, rfl, _, rfl, (l32_len h).1⟩
  · rw [Bool.and_eq_true] at h
    exact ⟨10, _, _, rfl, by decide, by decide, rfl, _, _, rfl, (l32_len h.1).1, (l32_len h.2).1⟩
  · exact ⟨11, _, _, rfl, by decide, by decide, rfl, _, rfl, (l32_len h).1⟩
  · exact ⟨12, _, _, rfl, by decide, by decide, ⟨_, rfl, nat32_pos h⟩, rfl⟩
  · exact ⟨13, _, _, rfl, by decide, by decide, ⟨_, rfl, nat32_pos h⟩, rfl⟩
  · exact ⟨14, _, _, rfl, by decide, by decide, ⟨_, rfl, nat32_pos h⟩, rfl⟩
  · exact ⟨15, _, _, rfl, by decide, by decide, rfl, rfl⟩
  · exact ⟨16, _, _, rfl, by decide, by decide, rfl, rfl⟩
  · exact ⟨17, _, _, rfl, by decide, by decide, rfl, rfl⟩
  · exact ⟨18, _, _, rfl, by decide, by decide, rfl, rfl⟩
  · exact ⟨19, _, _, rfl, by decide, by decide, ⟨_, rfl, nat32_pos h⟩, rfl⟩
  · exact ⟨20, _, _, rfl, by decide, by decide, rfl, rfl⟩
  · exact ⟨21, _, _, rfl, by decide, by decide, rfl, _, rfl, (l32_len h).1⟩
  · exact ⟨22, _, _, rfl, by decide, by decide, ⟨_, rfl, nat32_pos h⟩, rfl⟩
  · exact ⟨23, _, _, rfl, by decide, by decide, rfl, rfl⟩
  · rw [Bool.and_eq_true, Bool.and_eq_true, Bool.and_eq_true] at h
    exact ⟨24, _, _, rfl, by decide, by decide, ⟨_, _, rfl, nat32_pos h.1.1.1⟩, _, _, rfl, (l32_len h.1.2).1, (l32_len h.2).1⟩
  · exact ⟨25, _, _, rfl, by decide, by decide, rfl, rfl⟩
  · cases h
/-! what is asked of the list -/
structure Asked (ns : List Int) (cs : List (List (List Int))) : Prop where
  rd : PyFlat.calls PyKxd4.shape ns.length ns = some cs
  n200 : cs.length ≤ 200
  ok : ∀ c ∈ cs, CallOk c
theorem asked_of {ns : List Int} (h : PyKxd4.answers_asked ns = true) : ∃ cs, Asked ns cs := by
  unfold PyKxd4.answers_asked at h
  split at h
  · cases h
  · rename_i raw hr
    rw [Bool.and_eq_true, Bool.and_eq_true, Bool.and_eq_true, Bool.and_eq_true] at h
    obtain ⟨⟨⟨⟨_, h2⟩, _⟩, h4⟩, _⟩ := h
    refine ⟨raw, hr, of_decide_eq_true h2, fun c hc => ?_⟩
    unfold Kxd4Neutral.asked at h4
    rw [Bool.and_eq_true, Bool.and_eq_true, Bool.and_eq_true] at h4
    have := List.all_eq_true.mp h4.1.2.1 (PyKxd4.whole c) (List.mem_map.mpr ⟨c, hc, rfl⟩)
    rw [whole_id] at this
    exact call_ok this
theorem okC {m : ModD} (h : OkS m) {c : List (List Int)} (hc : CallOk c) : OkS (stepC m c).1 := by
  obtain ⟨p, nums, rows, rfl, _, _, ha⟩ := hc
  exact stepI_ok h ha
theorem okAt {cs : List (List (List Int))} (h : ∀ c ∈ cs, CallOk c) : ∀ i, OkS (mAt cs i)
  | 0 => .inl rfl
  | i + 1 => by
    cases e : cs[i]? with
    | none =>
      have : mAt cs (i + 1) = mAt cs i := by
        unfold mAt
        rw [List.take_add_one, e]; simp
      rw [this]; exact okAt h i
    | some c =>
      rw [mAt_succ e]
      exact okC (okAt h i) (h c (List.mem_of_getElem? e))
theorem step_one {m : ModD} (h : OkS m) {c : List (List Int)} (hc : CallOk c) : Kxd4Neutral.step (stOf m) c = (stOf (stepC m c).1, (stepC m c).2) := by
  obtain ⟨p, nums, rows, rfl, h0, h26, ha⟩ := hc
  have := step_eq (op := p.toNat) (by omega) h ha
  rw [show ((p.toNat : Nat) : Int) = p by omega] at this
  exact this
def playL : ModD → List (List (List Int)) → List Int
  | _, [] => []
  | m, c :: cs => tell (stepC m c).2 ++ playL (stepC m c).1 cs
theorem play_spec : ∀ {cs : List (List (List Int))} {m : ModD}, OkS m → (∀ c ∈ cs, CallOk c) → PyFlat.told (PyFlat.played Kxd4Neutral.step (stOf m) cs) = playL m cs
  | [], _, _, _ => rfl
  | c :: cs, m, h, hc => by
    have h1 := hc c (by simp)
    have e := step_one h h1
    show PyFlat.told ((Kxd4Neutral.step (stOf m) c).2 :: PyFlat.played Kxd4Neutral.step (Kxd4Neutral.step (stOf m) c).1 cs) = _
    rw [e]
    have ih := play_spec (cs := cs) (m := (stepC m c).1) (okC h h1) fun x hx => hc x (by simp [hx])
    unfold PyFlat.told at ih ⊢
    rw [List.flatMap_cons, ih]; rfl
theorem tAt_play : ∀ (n : Nat) {cs : List (List (List Int))}, cs.length = n → tAt cs n = playL (newM 0) cs := by
  have app : ∀ (cs : List (List (List Int))) (c : List (List Int)) (m : ModD), playL m (cs ++ [c]) = playL m cs ++ tell (stepC (cs.foldl (fun m c => (stepC m c).1) m) c).2 := by
    intro cs
    induction cs with
    | nil => intro c m; simp [playL]
    | cons d cs ih =>
      intro c m
      show tell (stepC m d).2 ++ playL (stepC m d).1 (cs ++ [c]) = _
      rw [ih, ← List.append_assoc]; rfl
  have pre : ∀ (i : Nat) (cs : List (List (List Int))), i ≤ cs.length → tAt cs i = playL (newM 0) (cs.take i) := by
    intro i
    induction i with
    | zero => intro cs _; rfl
    | succ i ih =>
      intro cs h
      show tAt cs i ++ tell (stepC (mAt cs i) (cs.getD i [])).2 = _
      have e : cs[i]? = some (cs.getD i []) := by
        rw [List.getD_eq_getElem?_getD, List.getElem?_eq_getElem (by omega)]; rfl
      rw [ih cs (by omega), List.take_add_one, e]
      show _ = playL (newM 0) (cs.take i ++ [cs.getD i []])
      rw [app]; rfl
  intro n cs h
  subst h
  have := pre cs.length cs (Nat.le_refl _)
  rw [List.take_length] at this
  exact this
theorem told_spec {ns : List Int} {cs : List (List (List Int))} (h : Asked ns cs) : PyKxd4.answers ns = tAt cs cs.length := by
  unfold PyKxd4.answers PyKxd4.calls
  rw [h.rd]
  simp only []
  have e : cs.map PyKxd4.whole = cs := by
    conv => rhs; rw [← List.map_id cs]
    exact List.map_congr_left fun c _ => whole_id c
  rw [e, tAt_play _ rfl]
  exact play_spec (m := newM 0) (.inl rfl) h.ok
end Lf
end
section
set_option Elab.async false
set_option linter.all false
set_option maxRecDepth 100000
set_option maxHeartbeats 2000000
/-! Judgements with what a value is (VP), over two heaps: F, what stands still, within H, what is -/
namespace Ty
open PySem PySem.Spec PyProof.Rows L2

structure VP where
  h : V → Hp → Prop
  mono : ∀ {v F F'}, Same F F' → h v F → h v F'
def AllP : List VP → List V → Hp → Prop
  | [], [], _ => True
  | P :: ps, v :: vs, F => P.h v F ∧ AllP ps vs F
  | _, _, _ => False
theorem AllP.mono : ∀ {ps : List VP} {vs : List V} {F F' : Hp}, Same F F' → AllP ps vs F → AllP ps vs F'
  | [], [], _, _, _, _ => trivial
  | P :: ps, v :: vs, _, _, s, h => ⟨P.mono s h.1, AllP.mono s h.2⟩
  | [], _ :: _, _, _, _, h => h.elim
  | _ :: _, [], _, _, _, h => h.elim
theorem AllP.length : ∀ {ps : List VP} {vs : List V} {F : Hp}, AllP ps vs F → ps.length = vs.length
  | [], [], _, _ => rfl
  | P :: ps, v :: vs, _, h => by simp only [List.length_cons]; rw [AllP.length h.2]
  | [], _ :: _, _, h => h.elim
  | _ :: _, [], _, h => h.elim
theorem AllP.get : ∀ {ps : List VP} {vs : List V} {F : Hp} {i : Nat} {P : VP}, AllP ps vs F → ps[i]? = some P → ∃ v, vs[i]? = some v ∧ P.h v F
  | P :: ps, v :: vs, _, 0, _, h, e => by simp at e; subst e; exact ⟨v, rfl, h.1⟩
  | P :: ps, v :: vs, _, i + 1, _, h, e => by
    obtain ⟨w, h1, h2⟩ := AllP.get (i := i) h.2 (by simpa using e)
    exact ⟨w, by simpa using h1, h2⟩
  | [], _, _, _, _, _, e => by simp at e
  | _ :: _, [], _, _, _, h, _ => h.elim
theorem AllP.append : ∀ {ps qs : List VP} {vs ws : List V} {F : Hp}, AllP ps vs F → AllP qs ws F → AllP (ps ++ qs) (vs ++ ws) F
  | [], _, [], _, _, _, g => g
  | P :: ps, _, v :: vs, _, _, h, g => ⟨h.1, AllP.append h.2 g⟩
  | [], _, _ :: _, _, _, h, _ => h.elim
  | _ :: _, _, [], _, _, h, _ => h.elim
theorem AllP.set : ∀ {ps : List VP} {vs : List V} {F : Hp} {P : VP} {v : V} (i : Nat), AllP ps vs F → P.h v F → AllP (ps.set i P) (vs.set i v) F
  | [], [], _, _, _, _, _, _ => trivial
  | _ :: _, _ :: _, _, _, _, 0, h, g => ⟨g, h.2⟩
  | _ :: _, _ :: _, _, _, _, i + 1, h, g => ⟨h.1, AllP.set i h.2 g⟩
  | [], _ :: _, _, _, _, _, h, _ => h.elim
  | _ :: _, [], _, _, _, _, h, _ => h.elim
theorem AllP.take : ∀ {ps : List VP} {vs : List V} {F : Hp} (n : Nat), AllP ps vs F → AllP (ps.take n) (vs.take n) F
  | [], [], _, 0, _ => trivial
  | [], [], _, _ + 1, _ => trivial
  | _ :: _, _ :: _, _, 0, _ => trivial
  | _ :: _, _ :: _, _, n + 1, h => ⟨h.1, AllP.take n h.2⟩
  | [], _ :: _, _, _, h => h.elim
  | _ :: _, [], _, _, h => h.elim
theorem AllP.drop : ∀ {ps : List VP} {vs : List V} {F : Hp} (n : Nat), AllP ps vs F → AllP (ps.drop n) (vs.drop n) F
  | [], [], _, 0, _ => trivial
  | [], [], _, _ + 1, _ => trivial
  | _ :: _, _ :: _, _, 0, h => h
  | _ :: _, _ :: _, _, n + 1, h => AllP.drop n h.2
  | [], _ :: _, _, _, h => h.elim
  | _ :: _, [], _, _, h => h.elim

def Any : VP := ⟨fun _ _ => True, fun _ h => h⟩
def Iv (n : Int) : VP := ⟨fun v _ => v = .int n, fun _ h => h⟩
def Bv (b : Bool) : VP := ⟨fun v _ => v = .bl b, fun _ h => h⟩
def Nv : VP := ⟨fun v _ => v = .non, fun _ h => h⟩
/-- a list whose items are so -/
def Lv (ps : List VP) : VP := ⟨fun v F => ∃ p xs, v = .ref p ∧ F p = some (.lst xs) ∧ AllP ps xs F, fun s ⟨p, xs, e, h, a⟩ => ⟨p, xs, e, s _ _ h, a.mono s⟩⟩
def Tv (ps : List VP) : VP := ⟨fun v F => ∃ p xs, v = .ref p ∧ F p = some (.tup xs) ∧ AllP ps xs F, fun s ⟨p, xs, e, h, a⟩ => ⟨p, xs, e, s _ _ h, a.mono s⟩⟩
def FldP : List (Str × VP) → List (Str × V) → Hp → Prop
  | [], [], _ => True
  | (n, P) :: fs, (m, v) :: gs, F => n = m ∧ P.h v F ∧ FldP fs gs F
  | _, _, _ => False
theorem FldP.mono : ∀ {fs : List (Str × VP)} {gs : List (Str × V)} {F F' : Hp}, Same F F' → FldP fs gs F → FldP fs gs F'
  | [], [], _, _, _, _ => trivial
  | (_, P) :: _, (_, _) :: _, _, _, s, h => ⟨h.1, P.mono s h.2.1, FldP.mono s h.2.2⟩
  | [], _ :: _, _, _, _, h => h.elim
  | _ :: _, [], _, _, _, h => h.elim
theorem FldP.length : ∀ {fs : List (Str × VP)} {gs : List (Str × V)} {F : Hp}, FldP fs gs F → fs.length = gs.length
  | [], [], _, _ => rfl
  | (_, P) :: _, (_, _) :: _, _, h => by simp only [List.length_cons]; rw [FldP.length h.2.2]
  | [], _ :: _, _, h => h.elim
  | _ :: _, [], _, h => h.elim
theorem FldP.get : ∀ {fs : List (Str × VP)} {gs : List (Str × V)} {F : Hp} {f : Str} {P : VP}, FldP fs gs F → fs.lookup f = some P → ∃ v, gs.lookup f = some v ∧ P.h v F
  | (n, P) :: fs, (m, v) :: gs, F, f, R, h, e => by
    obtain ⟨rfl, h1, h2⟩ := h
    rw [List.lookup_cons] at e ⊢
    cases q : f == n with
    | true => rw [q] at e; cases e; exact ⟨v, rfl, h1⟩
    | false => rw [q] at e; exact FldP.get h2 e
  | [], [], _, _, _, _, e => by simp at e
  | [], _ :: _, _, _, _, h, _ => h.elim
  | _ :: _, [], _, _, _, h, _ => h.elim
theorem FldP.none : ∀ {fs : List (Str × VP)} {gs : List (Str × V)} {F : Hp} {f : Str}, FldP fs gs F → fs.lookup f = none → gs.lookup f = none
  | (n, P) :: fs, (m, v) :: gs, F, f, h, e => by
    obtain ⟨rfl, h1, h2⟩ := h
    rw [List.lookup_cons] at e ⊢
    cases q : f == n with
    | true => rw [q] at e; cases e
    | false => rw [q] at e; exact FldP.none h2 e
  | [], [], _, _, _, _ => rfl
  | [], _ :: _, _, _, h, _ => h.elim
  | _ :: _, [], _, _, h, _ => h.elim
def putP (f : Str) (P : VP) : List (Str × VP) → List (Str × VP)
  | [] => [(f, P)]
  | (g, Q) :: r => if g = f then (f, P) :: r else (g, Q) :: putP f P r
theorem FldP.put : ∀ {fs : List (Str × VP)} {gs : List (Str × V)} {F : Hp} {f : Str} {P : VP} {v : V}, FldP fs gs F → P.h v F → FldP (putP f P fs) (putF f v gs) F
  | [], [], _, _, _, _, _, h => by
    unfold putP putF
    exact ⟨rfl, h, trivial⟩
  | (n, Q) :: fs, (m, w) :: gs, F, f, P, v, h, g => by
    obtain ⟨rfl, h1, h2⟩ := h
    unfold putP putF
    by_cases e : n = f
    · rw [if_pos e, if_pos e]; exact ⟨by first | rfl | exact e.symm | exact e, g, h2⟩
    · rw [if_neg e, if_neg e]; exact ⟨rfl, h1, FldP.put h2 g⟩
  | [], _ :: _, _, _, _, _, h, _ => h.elim
  | _ :: _, [], _, _, _, _, h, _ => h.elim
/-- an instance of the class at C with such attributes -/
def Ov (C : Addr) (fs : List (Str × VP)) : VP := ⟨fun v F => ∃ p dx gs, v = .ref p ∧ F p = some (.ins C dx gs) ∧ FldP fs gs F, fun s ⟨p, dx, gs, e, h, a⟩ => ⟨p, dx, gs, e, s _ _ h, a.mono s⟩⟩

/-! ### worlds -/
structure Gr (F H F' H' : Hp) : Prop where
  f : Same F F'
  h : Same H H'
  i : Same F' H'
  o : ∀ a, H a ≠ none → F' a = F a
theorem Gr.refl {F H : Hp} (i : Same F H) : Gr F H F H := ⟨Same.refl _, Same.refl _, i, fun _ _ => rfl⟩
theorem ne_none {H : Hp} {a : Addr} {o : HO} (h : H a = some o) : H a ≠ none := by rw [h]; exact fun z => by cases z
theorem Same.some {H H' : Hp} (s : Same H H') {a : Addr} (h : H a ≠ none) : H' a ≠ none := by
  cases e : H a with
  | none => exact absurd e h
  | some o => exact ne_none (s a o e)
theorem Gr.trans {F H F1 H1 F2 H2 : Hp} (a : Gr F H F1 H1) (b : Gr F1 H1 F2 H2) : Gr F H F2 H2 :=
  ⟨a.f.trans b.f, a.h.trans b.h, b.i, fun x n => (b.o x (Same.some a.h n)).trans (a.o x n)⟩
/-- the actual heap moves where nothing stands still and nothing was at the start -/
theorem Gr.move {F H F1 H1 : Hp} (a : Gr F H F1 H1) {p : Addr} {o : HO} (h0 : H p = none) (hF : F1 p = none) : Gr F H F1 (upd H1 p o) :=
  ⟨a.f, fun x u e => by rw [upd_ne (ne_of_none e h0)]; exact a.h x u e, fun x u e => by rw [upd_ne (ne_of_none e hF)]; exact a.i x u e, a.o⟩
/-- what was made is fixed -/
theorem Gr.fix {F H F1 H1 : Hp} (a : Gr F H F1 H1) {p : Addr} {o : HO} (h0 : H p = none) (hF : F1 p = none) (hp : H1 p = some o) : Gr F H (upd F1 p o) H1 :=
  ⟨fun x u e => by
      have e1 := a.f x u e
      rw [upd_ne (ne_of_none e1 hF)]; exact e1,
    a.h, fun x u e => by
      by_cases q : x = p
      · subst q; rw [upd_same] at e; cases e; exact hp
      · rw [upd_ne q] at e; exact a.i x u e,
    fun x n => by
      have : x ≠ p := fun q => n (by rw [q]; exact h0)
      rw [upd_ne this]; exact a.o x n⟩
theorem fixS {F : Hp} {p : Addr} {o : HO} (hF : F p = none) : Same F (upd F p o) := fun x u e => by rw [upd_ne (ne_of_none e hF)]; exact e

/-! ### slots -/
structure SP where
  h : Hp → Option V → Hp → Hp → Prop
  mono : ∀ {H0 v F H F' H'}, Gr F H F' H' → h H0 v F H → h H0 v F' H'
def any : SP := ⟨fun _ _ _ _ => True, fun _ h => h⟩
def bot : SP := ⟨fun _ _ _ _ => False, fun _ h => h⟩
def im (P : VP) : SP := ⟨fun _ o F _ => ∃ v, o = some v ∧ P.h v F, fun g ⟨v, e, h⟩ => ⟨v, e, P.mono g.f h⟩⟩
/-- a list of the def's own, that may change -/
def own (ps : List VP) : SP := ⟨fun H0 o F H => ∃ p xs, o = some (.ref p) ∧ H0 p = none ∧ F p = none ∧ H p = some (.lst xs) ∧ AllP ps xs F,
  fun g ⟨p, xs, e, h0, hF, hp, a⟩ => ⟨p, xs, e, h0, (g.o p (ne_none hp)).trans hF, g.h _ _ hp, a.mono g.f⟩⟩
/-- an instance of the def's own -/
def obj (C p dx : Addr) (fs : List (Str × VP)) : SP := ⟨fun H0 o F H => ∃ gs, o = some (.ref p) ∧ H0 p = none ∧ F p = none ∧ H p = some (.ins C dx gs) ∧ FldP fs gs F,
  fun g ⟨gs, e, h0, hF, hp, a⟩ => ⟨gs, e, h0, (g.o p (ne_none hp)).trans hF, g.h _ _ hp, a.mono g.f⟩⟩
def Sl (H0 : Hp) : List SP → L2.St → Hp → Hp → Prop
  | [], [], _, _ => True
  | P :: ps, v :: vs, F, H => P.h H0 v F H ∧ Sl H0 ps vs F H
  | _, _, _, _ => False
theorem Sl.mono {H0 : Hp} : ∀ {ps : List SP} {vs : L2.St} {F H F' H' : Hp}, Gr F H F' H' → Sl H0 ps vs F H → Sl H0 ps vs F' H'
  | [], [], _, _, _, _, _, _ => trivial
  | P :: ps, v :: vs, _, _, _, _, s, h => ⟨P.mono s h.1, Sl.mono s h.2⟩
  | [], _ :: _, _, _, _, _, _, h => h.elim
  | _ :: _, [], _, _, _, _, _, h => h.elim
theorem Sl.get {H0 : Hp} : ∀ {ps : List SP} {vs : L2.St} {F H : Hp} {i : Nat} {P : SP}, Sl H0 ps vs F H → ps[i]? = some P → ∃ v, vs[i]? = some v ∧ P.h H0 v F H
  | P :: ps, v :: vs, _, _, 0, _, h, e => by simp at e; subst e; exact ⟨v, rfl, h.1⟩
  | P :: ps, v :: vs, _, _, i + 1, _, h, e => by
    obtain ⟨w, h1, h2⟩ := Sl.get (i := i) h.2 (by simpa using e)
    exact ⟨w, by simpa using h1, h2⟩
  | [], _, _, _, _, _, _, e => by simp at e
  | _ :: _, [], _, _, _, _, h, _ => h.elim
theorem Sl.set {H0 : Hp} : ∀ {ps : List SP} {vs : L2.St} {F H : Hp} {P : SP} {v : Option V} (i : Nat), Sl H0 ps vs F H → P.h H0 v F H → Sl H0 (ps.set i P) (vs.set i v) F H
  | [], [], _, _, _, _, _, _, _ => trivial
  | _ :: _, _ :: _, _, _, _, _, 0, h, g => ⟨g, h.2⟩
  | _ :: _, _ :: _, _, _, _, _, i + 1, h, g => ⟨h.1, Sl.set i h.2 g⟩
  | [], _ :: _, _, _, _, _, _, h, _ => h.elim
  | _ :: _, [], _, _, _, _, _, h, _ => h.elim
structure At (F0 H0 : Hp) (G : List SP) (s : L2.St) (F H : Hp) : Prop where
  g : Gr F0 H0 F H
  s : Sl H0 G s F H
theorem At.grow {F0 H0 F H F' H' : Hp} {G : List SP} {s : L2.St} (a : At F0 H0 G s F H) (g : Gr F H F' H') : At F0 H0 G s F' H' := ⟨a.g.trans g, a.s.mono g⟩
theorem At.set {F0 H0 F H : Hp} {G : List SP} {s : L2.St} (a : At F0 H0 G s F H) {P : SP} {v : Option V} (i : Nat) (h : P.h H0 v F H) : At F0 H0 (G.set i P) (s.set i v) F H := ⟨a.g, a.s.set i h⟩

/-! ### judgements -/
def E (G : List SP) (te : TE) (P : VP) : Prop := ∀ F0 H0 s F H, At F0 H0 G s F H → ∀ Q : VK, (∀ v F' H', Gr F H F' H' → P.h v F' → Q v H') → te s H Q
/-- a new list -/
def EL (G : List SP) (te : TE) (ps : List VP) : Prop := ∀ F0 H0 s F H, At F0 H0 G s F H → ∀ Q : VK, (∀ p xs F' H', Gr F H F' H' → H p = none → F' p = none → H' p = some (.lst xs) → AllP ps xs F' → Q (.ref p) H') → te s H Q
def T (G : List SP) (tt : TT) (b : Bool) : Prop := ∀ F0 H0 s F H, At F0 H0 G s F H → ∀ Q : Bool → Hp → Prop, (∀ F' H', Gr F H F' H' → Q b H') → tt s H Q
def A (G : List SP) (ta : TA) (ps : List VP) : Prop := ∀ F0 H0 s F H, At F0 H0 G s F H → ∀ Q : List V → Hp → Prop, (∀ vs F' H', Gr F H F' H' → AllP ps vs F' → Q vs H') → ta s H Q
def S (G : List SP) (ts : TS) (G' : List SP) (R : VP) : Prop := ∀ F0 H0 (D : Ends) s F H, At F0 H0 G s F H → (∀ s' F' H', At F0 H0 G' s' F' H' → D.nx s' H') → (∀ v F' H', Gr F0 H0 F' H' → R.h v F' → D.rt v H') → ts D s H
section
variable {G G1 G2 : List SP} {te ta tb : TE} {tt tu : TT} {P P1 P2 R : VP} {ps qs : List VP} {K : PySem.W.Frag} {ts tw tz : TS} {C : Addr} {fs : List (Str × VP)} {i j : Nat} {b c : Bool}
theorem E.of (h : EL G te ps) : E G te (Lv ps) := fun F0 H0 s F H a Q q => h F0 H0 s F H a Q fun p xs F' H' g n hF hp al =>
  q _ _ _ (g.fix n hF hp) ⟨p, xs, rfl, upd_same, al.mono (fixS hF)⟩
theorem E.imp (h : E G te P) (k : ∀ v F, P.h v F → P1.h v F) : E G te P1 := fun F0 H0 s F H a Q q => h F0 H0 s F H a Q fun v F' H' g r => q v F' H' g (k v F' r)
theorem E.eq (h : E G te P) (k : P = P1) : E G te P1 := k ▸ h
theorem EL.eq (h : EL G te ps) (k : ps = qs) : EL G te qs := k ▸ h
theorem T.eq (h : T G tt b) (k : b = c) : T G tt c := k ▸ h
theorem e_var (h : G[i]? = some (im P)) : E G (tVar i) P := fun F0 H0 s F H a Q q => by
  obtain ⟨o, h1, v, rfl, h2⟩ := a.s.get h
  exact ⟨v, h1, q v F H (Gr.refl a.g.i) h2⟩
theorem e_int (n : Int) : E G (tC (.int n)) (Iv n) := fun F0 H0 s F H a Q q => q _ F H (Gr.refl a.g.i) rfl
theorem e_bl (n : Bool) : E G (tC (.bl n)) (Bv n) := fun F0 H0 s F H a Q q => q _ F H (Gr.refl a.g.i) rfl
theorem e_non : E G (tC .non) Nv := fun F0 H0 s F H a Q q => q _ F H (Gr.refl a.g.i) rfl
/-- two operands, then what the operator makes of them -/
theorem e_op2 {r : R2} (ha : E G ta P1) (hb : E G tb P2) (hr : ∀ x y F H Q, Same F H → P1.h x F → P2.h y F → (∀ v F' H', Gr F H F' H' → P.h v F' → Q v H') → r x y H Q) : E G (tOp r ta tb) P :=
  fun F0 H0 s F H a Q q => ha F0 H0 s F H a _ fun x F1 H1 g1 h1 => hb F0 H0 s F1 H1 (a.grow g1) _ fun y F2 H2 g2 h2 =>
    hr x y F2 H2 Q g2.i (P1.mono g2.f h1) h2 fun v F3 H3 g3 h3 => q v F3 H3 (g1.trans (g2.trans g3)) h3
theorem el_op2 {r : R2} (ha : E G ta P1) (hb : E G tb P2) (hr : ∀ x y F H Q, Same F H → P1.h x F → P2.h y F → (∀ p xs F' H', Gr F H F' H' → H p = none → F' p = none → H' p = some (.lst xs) → AllP ps xs F' → Q (.ref p) H') → r x y H Q) : EL G (tOp r ta tb) ps :=
  fun F0 H0 s F H a Q q => ha F0 H0 s F H a _ fun x F1 H1 g1 h1 => hb F0 H0 s F1 H1 (a.grow g1) _ fun y F2 H2 g2 h2 =>
    hr x y F2 H2 Q g2.i (P1.mono g2.f h1) h2 fun p xs F3 H3 g3 n hF hp al => q p xs F3 H3 (g1.trans (g2.trans g3)) ((g1.trans g2).h.free n) hF hp al
theorem e_I0 {g : Int → Int → V} {m n : Int} (ha : E G ta (Iv m)) (hb : E G tb (Iv n)) (hP : ∀ F, P.h (g m n) F) : E G (tOp (rI0 g) ta tb) P :=
  e_op2 ha hb fun x y F H Q i hx hy q => ⟨m, n, hx, hy, q _ F H (Gr.refl i) (hP F)⟩
theorem e_I {Cn : Int → Int → Prop} {g : Int → Int → V} {m n : Int} (ha : E G ta (Iv m)) (hb : E G tb (Iv n)) (hc : Cn m n) (hP : ∀ F, P.h (g m n) F) : E G (tOp (rI Cn g) ta tb) P :=
  e_op2 ha hb fun x y F H Q i hx hy q => ⟨m, n, hx, hy, hc, q _ F H (Gr.refl i) (hP F)⟩
theorem e_add {m n : Int} (ha : E G ta (Iv m)) (hb : E G tb (Iv n)) : E G (tOp (rI0 fun i j => .int (i + j)) ta tb) (Iv (m + n)) := e_I0 ha hb fun _ => rfl
theorem e_sub {m n : Int} (ha : E G ta (Iv m)) (hb : E G tb (Iv n)) : E G (tOp (rI0 fun i j => .int (i - j)) ta tb) (Iv (m - n)) := e_I0 ha hb fun _ => rfl
theorem e_mul {Cn : Int → Int → Prop} {m n : Int} (hc : Cn m n) (ha : E G ta (Iv m)) (hb : E G tb (Iv n)) : E G (tOp (rI Cn fun i j => .int (i * j)) ta tb) (Iv (m * n)) := e_I ha hb hc fun _ => rfl
theorem e_neg {m : Int} (ha : E G ta (Iv m)) : E G (tUn (rU fun i => .int (-i)) ta) (Iv (-m)) := fun F0 H0 s F H a Q q => ha F0 H0 s F H a _ fun x F1 H1 g1 h1 => ⟨m, h1, q _ F1 H1 g1 rfl⟩
theorem e_eq {m n : Int} (ha : E G ta (Iv m)) (hb : E G tb (Iv n)) : E G (tOp rEq ta tb) (Bv (decide (m = n))) :=
  e_op2 ha hb fun x y F H Q i hx hy q => by
    have hx : x = .int m := hx
    have hy : y = .int n := hy
    subst hx hy
    exact ⟨rfl, q _ F H (Gr.refl i) (by show V.bl _ = V.bl _; rw [dec_int, Bool.beq_eq_decide_eq])⟩
theorem e_ne {m n : Int} (ha : E G ta (Iv m)) (hb : E G tb (Iv n)) : E G (tOp rNe ta tb) (Bv (!decide (m = n))) :=
  e_op2 ha hb fun x y F H Q i hx hy q => by
    have hx : x = .int m := hx
    have hy : y = .int n := hy
    subst hx hy
    exact ⟨rfl, q _ F H (Gr.refl i) (by show V.bl _ = V.bl _; rw [dec_int, Bool.beq_eq_decide_eq])⟩
/-- e.f -/
theorem e_fld {f : Str} (hc : Cls K C) (hn : NoAttr K C f) (ha : E G ta (Ov C fs)) (hl : fs.lookup f = some P) : E G (tFld K ta f) P :=
  fun F0 H0 s F H a Q q => ha F0 H0 s F H a _ fun x F1 H1 g1 ⟨p, dx, gs, ex, hp, hf⟩ => by
    obtain ⟨v, h1, h2⟩ := hf.get hl
    exact ⟨p, C, dx, gs, v, ex, g1.i _ _ hp, hc, hn, h1, q v F1 H1 g1 h2⟩
theorem e_fldO {f : Str} {p dx : Addr} (hc : Cls K C) (hn : NoAttr K C f) (hi : G[i]? = some (obj C p dx fs)) (hl : fs.lookup f = some P) : E G (tFld K (tVar i) f) P :=
  fun F0 H0 s F H a Q q => by
    obtain ⟨o, h1, gs, rfl, h0, hF, hp, hf⟩ := a.s.get hi
    obtain ⟨v, h2, h3⟩ := hf.get hl
    exact ⟨.ref p, h1, p, C, dx, gs, v, rfl, hp, hc, hn, h2, q v F H (Gr.refl a.g.i) h3⟩
theorem a_nil : A G tNil [] := fun F0 H0 s F H a Q q => q [] F H (Gr.refl a.g.i) trivial
theorem a_cons {tr : TA} (ha : E G ta P) (hr : A G tr ps) : A G (tCons ta tr) (P :: ps) := fun F0 H0 s F H a Q q => ha F0 H0 s F H a _ fun x F1 H1 g1 h1 =>
  hr F0 H0 s F1 H1 (a.grow g1) _ fun vs F2 H2 g2 h2 => q (x :: vs) F2 H2 (g1.trans g2) ⟨P.mono g2.f h1, h2⟩
theorem el_lst {t : TA} (h : A G t ps) (hl : ps.length ≤ sizeLine := by exact Nat.le_trans (Nat.le_of_ble_eq_true (m := 100) rfl) (by decide)) : EL G (tLst t) ps := fun F0 H0 s F H a Q q => h F0 H0 s F H a _ fun vs F1 H1 g1 h1 =>
  ⟨by rw [← h1.length]; exact hl, fun p hp => q p vs F1 (upd H1 p (.lst vs)) (g1.trans ((Gr.refl g1.i).move hp (g1.i.free hp))) (g1.h.free hp) (g1.i.free hp) upd_same h1⟩
theorem e_tup {t : TA} (h : A G t ps) (hl : ps.length ≤ sizeLine := by exact Nat.le_trans (Nat.le_of_ble_eq_true (m := 100) rfl) (by decide)) : E G (tTup t) (Tv ps) := fun F0 H0 s F H a Q q => h F0 H0 s F H a _ fun vs F1 H1 g1 h1 =>
  ⟨by rw [← h1.length]; exact hl, fun p hp => q (.ref p) (upd F1 p (.tup vs)) (upd H1 p (.tup vs)) ((g1.trans ((Gr.refl g1.i).move hp (g1.i.free hp))).fix (g1.h.free hp) (g1.i.free hp) upd_same) ⟨p, vs, rfl, upd_same, h1.mono (fixS (g1.i.free hp))⟩⟩

/-! tests -/
theorem t_val (h : E G te (Bv b)) : T G (tB te) b := fun F0 H0 s F H a Q q => h F0 H0 s F H a _ fun v F1 H1 g1 h1 => ⟨b, h1, q F1 H1 g1⟩
theorem t_test (h : E G te (Bv b)) : T G (tTest te) b := fun F0 H0 s F H a Q q => h F0 H0 s F H a _ fun v F1 H1 g1 h1 => ⟨b, h1, q F1 H1 g1⟩
theorem t_not (h : T G tt b) : T G (tNot tt) (!b) := fun F0 H0 s F H a Q q => h F0 H0 s F H a _ fun F1 H1 g1 => q F1 H1 g1
theorem t_and (h : T G tt b) (h2 : b = true → T G tu c) : T G (tAnd tt tu) (b && c) := fun F0 H0 s F H a Q q => h F0 H0 s F H a _ fun F1 H1 g1 => by
  cases b with
  | true => exact iteT (h2 rfl F0 H0 s F1 H1 (a.grow g1) Q fun F2 H2 g2 => q F2 H2 (g1.trans g2))
  | false => exact iteF (q F1 H1 g1)
theorem t_or (h : T G tt b) (h2 : b = false → T G tu c) : T G (tOr tt tu) (b || c) := fun F0 H0 s F H a Q q => h F0 H0 s F H a _ fun F1 H1 g1 => by
  cases b with
  | true => exact iteT (q F1 H1 g1)
  | false => exact iteF (h2 rfl F0 H0 s F1 H1 (a.grow g1) Q fun F2 H2 g2 => q F2 H2 (g1.trans g2))
theorem e_andV (h : E G ta (Bv b)) (h2 : b = true → E G tb (Bv c)) : E G (tAndV ta tb) (Bv (b && c)) := fun F0 H0 s F H a Q q => h F0 H0 s F H a _ fun v F1 H1 g1 h1 => ⟨b, h1, by
  cases b with
  | true => exact iteT (h2 rfl F0 H0 s F1 H1 (a.grow g1) Q fun v F2 H2 g2 r => q v F2 H2 (g1.trans g2) r)
  | false => exact iteF (q _ F1 H1 g1 rfl)⟩
theorem e_isN (h : E G te P) (k : ∀ v F, P.h v F → decide (v = .non) = b) : E G (tOp (fun x y H Q => y = .non ∧ Q (.bl (decide (x = .non))) H) te (tC .non)) (Bv b) :=
  e_op2 h e_non fun x y F H Q i hx hy q => ⟨hy, q _ F H (Gr.refl i) (congrArg V.bl (k x F hx))⟩

/-! statements -/
theorem s_seq (h : S G ts G1 R) (k : S G1 tw G2 R) : S G (tSeq ts tw) G2 R := fun F0 H0 D s F H a n r => h F0 H0 { D with nx := tw D } s F H a (fun s' F' H' a' => k F0 H0 D s' F' H' a' n r) r
theorem s_next : S G tNext G R := fun F0 H0 D s F H a n r => n s F H a
theorem q_next (k : S G tw G2 R) : S G (tSeq tNext tw) G2 R := s_seq s_next k
theorem s_ret (h : E G te R) : S G (tRet te) G2 R := fun F0 H0 D s F H a n r => h F0 H0 s F H a _ fun v F' H' g q => r v F' H' (a.g.trans g) q
theorem q_ret (h : E G te R) : S G (tSeq (tRet te) tw) G2 R := fun F0 H0 D s F H a n r => h F0 H0 s F H a _ fun v F' H' g q => r v F' H' (a.g.trans g) q
theorem s_retN (h : ∀ F, R.h .non F) : S G tRetN G2 R := fun F0 H0 D s F H a n r => r .non F H a.g (h F)
theorem q_retN (h : ∀ F, R.h .non F) : S G (tSeq tRetN tw) G2 R := fun F0 H0 D s F H a n r => r .non F H a.g (h F)
/-- an if, what follows shown on both ways -/
theorem q_if (h : T G tt b) (h1 : b = true → S G (tSeq ts tz) G2 R) (h2 : b = false → S G (tSeq tw tz) G2 R) : S G (tSeq (tIfS tt ts tw) tz) G2 R := fun F0 H0 D s F H a n r => h F0 H0 s F H a _ fun F1 H1 g1 => by
  cases b with
  | true => exact iteT (h1 rfl F0 H0 D s F1 H1 (a.grow g1) n r)
  | false => exact iteF (h2 rfl F0 H0 D s F1 H1 (a.grow g1) n r)
theorem s_if (h : T G tt b) (h1 : b = true → S G ts G2 R) (h2 : b = false → S G tw G2 R) : S G (tIfS tt ts tw) G2 R := fun F0 H0 D s F H a n r => h F0 H0 s F H a _ fun F1 H1 g1 => by
  cases b with
  | true => exact iteT (h1 rfl F0 H0 D s F1 H1 (a.grow g1) n r)
  | false => exact iteF (h2 rfl F0 H0 D s F1 H1 (a.grow g1) n r)
theorem s_asg (h : E G te P) : S G (tAsg te (gName i)) (G.set i (im P)) R := fun F0 H0 D s F H a n r => h F0 H0 s F H a _ fun v F1 H1 g1 h1 => n _ F1 H1 ((a.grow g1).set i ⟨v, rfl, h1⟩)
theorem s_asgL (h : EL G te ps) : S G (tAsg te (gName i)) (G.set i (own ps)) R := fun F0 H0 D s F H a n r => h F0 H0 s F H a _ fun p xs F1 H1 g1 hn hF hp al =>
  n _ F1 H1 ((a.grow g1).set i ⟨p, xs, rfl, a.g.h.free hn, hF, hp, al⟩)
theorem q_asg (h : E G te P) (k : S (G.set i (im P)) tw G2 R) : S G (tSeq (tAsg te (gName i)) tw) G2 R := s_seq (s_asg h) k
theorem q_asgL (h : EL G te ps) (k : S (G.set i (own ps)) tw G2 R) : S G (tSeq (tAsg te (gName i)) tw) G2 R := s_seq (s_asgL h) k
/-- x op= e -/
theorem s_aug {f : Int → Int → Int} {m n : Int} (hi : G[i]? = some (im (Iv m))) (h : E G te (Iv n)) : S G (tAug i te (ipI f)) (G.set i (im (Iv (f m n)))) R := fun F0 H0 D s F H a k r => by
  obtain ⟨o, h1, v, rfl, h2⟩ := a.s.get hi
  exact ⟨v, h1, h F0 H0 s F H a _ fun y F1 H1 g1 hy => ⟨m, n, h2, hy, k _ F1 H1 ((a.grow g1).set i ⟨_, rfl, rfl⟩)⟩⟩
theorem q_aug {f : Int → Int → Int} {m n : Int} (hi : G[i]? = some (im (Iv m))) (h : E G te (Iv n)) (k : S (G.set i (im (Iv (f m n)))) tw G2 R) : S G (tSeq (tAug i te (ipI f)) tw) G2 R := s_seq (s_aug hi h) k
/-- what is known less -/
def Sub (G G' : List SP) : Prop := ∀ H0 s F H, Sl H0 G s F H → Sl H0 G' s F H
theorem sub_refl : Sub G G := fun _ _ _ _ h => h
theorem sub_nil : Sub [] [] := sub_refl
theorem sub_cons {P : SP} (h : Sub G G1) : Sub (P :: G) (P :: G1) := fun H0 s F H a => match s, a with
  | _ :: s, a => ⟨a.1, h H0 s F H a.2⟩
theorem sub_any {P : SP} (h : Sub G G1) : Sub (P :: G) (any :: G1) := fun H0 s F H a => match s, a with
  | _ :: s, a => ⟨trivial, h H0 s F H a.2⟩
theorem s_sub (h : S G ts G1 R) (k : Sub G1 G2) : S G ts G2 R := fun F0 H0 D s F H a n r => h F0 H0 D s F H a (fun s' F' H' a' => n s' F' H' ⟨a'.g, k _ _ _ _ a'.s⟩) r
theorem s_pre (k : Sub G G1) (h : S G1 ts G2 R) : S G ts G2 R := fun F0 H0 D s F H a n r => h F0 H0 D s F H ⟨a.g, k _ _ _ _ a.s⟩ n r
/-- the def's own list is fixed from now on -/
def pure1 : SP → Prop := fun P => ∀ H0 v F H p o, F p = none → P.h H0 v F H → P.h H0 v (upd F p o) H
theorem pure_any : pure1 any := fun _ _ _ _ _ _ _ _ => trivial
theorem pure_im : pure1 (im P) := fun _ _ _ _ _ _ hF ⟨v, e, h⟩ => ⟨v, e, P.mono (fixS hF) h⟩
def PureE (i : Nat) : List SP → Prop
  | [] => True
  | P :: G => (match i with | 0 => True | _ + 1 => pure1 P) ∧ (match i with | 0 => ∀ Q ∈ G, pure1 Q | i + 1 => PureE i G)
theorem sl_fix {H0 F H : Hp} {p : Addr} {o : HO} (hF : F p = none) : ∀ {G : List SP} {s : L2.St}, (∀ Q ∈ G, pure1 Q) → Sl H0 G s F H → Sl H0 G s (upd F p o) H
  | [], [], _, _ => trivial
  | P :: G, v :: s, k, h => ⟨k P (by simp) _ _ _ _ _ _ hF h.1, sl_fix hF (fun Q hQ => k Q (by simp [hQ])) h.2⟩
  | [], _ :: _, _, h => h.elim
  | _ :: _, [], _, h => h.elim
theorem sl_fixE {H0 F H : Hp} {p : Addr} {o : HO} {P : SP} (hF : F p = none) : ∀ {G : List SP} {s : L2.St} {i : Nat}, PureE i G → Sl H0 G s F H → (∀ v, s[i]? = some v → P.h H0 v (upd F p o) H) → Sl H0 (G.set i P) s (upd F p o) H
  | [], [], _, _, _, _ => trivial
  | _ :: G, v :: s, 0, k, h, z => ⟨z v rfl, sl_fix hF k.2 h.2⟩
  | _ :: G, v :: s, i + 1, k, h, z => ⟨k.1 _ _ _ _ _ _ hF h.1, sl_fixE hF k.2 h.2 fun w e => z w (by simpa using e)⟩
  | [], _ :: _, _, _, h, _ => h.elim
  | _ :: _, [], _, _, h, _ => h.elim
theorem s_fix (i : Nat) (hi : G[i]? = some (own ps)) (hp : PureE i G) (k : S (G.set i (im (Lv ps))) ts G2 R) : S G ts G2 R := fun F0 H0 D s F H a n r => by
  obtain ⟨o, h1, p, xs, rfl, h0, hF, hl, al⟩ := a.s.get hi
  exact k F0 H0 D s (upd F p (.lst xs)) H ⟨a.g.fix h0 hF hl, sl_fixE hF hp a.s fun v e => by
    rw [h1] at e; cases e
    exact ⟨_, rfl, p, xs, rfl, upd_same, al.mono (fixS hF)⟩⟩ n r
/-- append, extend, a store: on the def's own list; the other slots are fixed values -/
theorem sl_move {H0 F H : Hp} {p : Addr} {o : HO} {P : SP} (hm : ∀ Q ∈ ([] : List SP), pure1 Q) : True := trivial
def still (P : SP) : Prop := ∀ H0 v F H H', P.h H0 v F H → P.h H0 v F H'
theorem still_any : still any := fun _ _ _ _ _ _ => trivial
theorem still_im : still (im P) := fun _ _ _ _ _ ⟨v, e, h⟩ => ⟨v, e, h⟩
def StillE (i : Nat) : List SP → Prop
  | [] => True
  | P :: G => match i with | 0 => ∀ Q ∈ G, still Q | i + 1 => still P ∧ StillE i G
theorem sl_still {H0 F H H' : Hp} : ∀ {G : List SP} {s : L2.St}, (∀ Q ∈ G, still Q) → Sl H0 G s F H → Sl H0 G s F H'
  | [], [], _, _ => trivial
  | P :: G, v :: s, k, h => ⟨k P (by simp) _ _ _ _ _ h.1, sl_still (fun Q hQ => k Q (by simp [hQ])) h.2⟩
  | [], _ :: _, _, h => h.elim
  | _ :: _, [], _, h => h.elim
theorem sl_stillE {H0 F H H' : Hp} {P : SP} : ∀ {G : List SP} {s : L2.St} {i : Nat}, StillE i G → Sl H0 G s F H → (∀ v, s[i]? = some v → P.h H0 v F H') → Sl H0 (G.set i P) s F H'
  | [], [], _, _, _, _ => trivial
  | _ :: G, v :: s, 0, k, h, z => ⟨z v rfl, sl_still k h.2⟩
  | _ :: G, v :: s, i + 1, k, h, z => ⟨k.1 _ _ _ _ _ h.1, sl_stillE k.2 h.2 fun w e => z w (by simpa using e)⟩
  | [], _ :: _, _, _, h, _ => h.elim
  | _ :: _, [], _, _, h, _ => h.elim
theorem st_nil : ∀ Q ∈ ([] : List SP), still Q := fun _ h => by cases h
theorem st_im {P : VP} {G : List SP} (h : ∀ Q ∈ G, still Q) : ∀ Q ∈ im P :: G, still Q := fun Q hQ => by
  rcases List.mem_cons.mp hQ with e | e
  · subst e; exact still_im
  · exact h Q e
theorem st_any {G : List SP} (h : ∀ Q ∈ G, still Q) : ∀ Q ∈ any :: G, still Q := fun Q hQ => by
  rcases List.mem_cons.mp hQ with e | e
  · subst e; exact still_any
  · exact h Q e
theorem se_0 {P : SP} {G : List SP} (h : ∀ Q ∈ G, still Q) : StillE 0 (P :: G) := h
theorem se_im {P : VP} {G : List SP} {i : Nat} (h : StillE i G) : StillE (i + 1) (im P :: G) := ⟨still_im, h⟩
theorem se_any {G : List SP} {i : Nat} (h : StillE i G) : StillE (i + 1) (any :: G) := ⟨still_any, h⟩
theorem pu_nil : ∀ Q ∈ ([] : List SP), pure1 Q := fun _ h => by cases h
theorem pu_im {P : VP} {G : List SP} (h : ∀ Q ∈ G, pure1 Q) : ∀ Q ∈ im P :: G, pure1 Q := fun Q hQ => by
  rcases List.mem_cons.mp hQ with e | e
  · subst e; exact pure_im
  · exact h Q e
theorem pu_any {G : List SP} (h : ∀ Q ∈ G, pure1 Q) : ∀ Q ∈ any :: G, pure1 Q := fun Q hQ => by
  rcases List.mem_cons.mp hQ with e | e
  · subst e; exact pure_any
  · exact h Q e
theorem pe_0 {P : SP} {G : List SP} (h : ∀ Q ∈ G, pure1 Q) : PureE 0 (P :: G) := ⟨trivial, h⟩
theorem pe_imE {P : VP} {G : List SP} {i : Nat} (h : PureE i G) : PureE (i + 1) (im P :: G) := ⟨pure_im, h⟩
theorem pe_anyE {G : List SP} {i : Nat} (h : PureE i G) : PureE (i + 1) (any :: G) := ⟨pure_any, h⟩
theorem s_app (hi : G[i]? = some (own ps)) (hs : StillE i G) (h : E G te P) (hz : ps.length < sizeLine) : S G (tDrop (tBM K "list" rAppend (tVar i) (tCons te tNil))) (G.set i (own (ps ++ [P]))) R := fun F0 H0 D s F H a n r => by
  obtain ⟨o, h1, p, xs, rfl, h0, hF, hl, al⟩ := a.s.get hi
  refine ⟨.ref p, h1, .inl ⟨rfl, _, SqL.of hl⟩, h F0 H0 s F H a _ fun v F1 H1 g1 hv => ?_⟩
  have hF1 : F1 p = none := (g1.o p (ne_none hl)).trans hF
  refine ⟨p, xs, v, rfl, rfl, g1.h _ _ hl, by rw [← al.length]; exact hz, n _ F1 _ ⟨(a.g.trans g1).move h0 hF1, sl_stillE hs (a.s.mono g1) fun w e => ?_⟩⟩
  rw [h1] at e; cases e
  exact ⟨p, _, rfl, h0, hF1, upd_same, (al.mono g1.f).append ⟨hv, trivial⟩⟩
theorem s_ext (hi : G[i]? = some (own ps)) (hs : StillE i G) (h : E G te (Lv qs)) (hz : ps.length + qs.length ≤ sizeLine) : S G (tDrop (tBM K "list" rExtend (tVar i) (tCons te tNil))) (G.set i (own (ps ++ qs))) R := fun F0 H0 D s F H a n r => by
  obtain ⟨o, h1, p, xs, rfl, h0, hF, hl, al⟩ := a.s.get hi
  refine ⟨.ref p, h1, .inl ⟨rfl, _, SqL.of hl⟩, h F0 H0 s F H a _ fun v F1 H1 g1 ⟨b, ys, ev, hb, bl⟩ => ?_⟩
  subst ev
  have hF1 : F1 p = none := (g1.o p (ne_none hl)).trans hF
  refine ⟨p, b, xs, ys, rfl, rfl, g1.h _ _ hl, g1.i _ _ hb, by rw [← al.length, ← bl.length]; exact hz, n _ F1 _ ⟨(a.g.trans g1).move h0 hF1, sl_stillE hs (a.s.mono g1) fun w e => ?_⟩⟩
  rw [h1] at e; cases e
  exact ⟨p, _, rfl, h0, hF1, upd_same, (al.mono g1.f).append bl⟩
theorem ixN_nat {n j : Nat} (h : j < n) : ixN n (j : Int) = some j := by
  unfold ixN
  rw [if_pos (by omega), if_pos (by omega)]; simp
theorem s_put {k : Nat} (hi : G[i]? = some (own ps)) (hs : StillE i G) (h : E G te P) (hj : E G tb (Iv (k : Int))) (hk : k < ps.length) : S G (tAsg te (gSub (tVar i) tb rSetL)) (G.set i (own (ps.set k P))) R := fun F0 H0 D s F H a n r => by
  obtain ⟨o, h1, p, xs, rfl, h0, hF, hl, al⟩ := a.s.get hi
  refine h F0 H0 s F H a _ fun v F1 H1 g1 hv => ⟨.ref p, h1, hj F0 H0 s F1 H1 (a.grow g1) _ fun y F2 H2 g2 hy => ?_⟩
  have g := g1.trans g2
  have hF2 : F2 p = none := (g.o p (ne_none hl)).trans hF
  refine ⟨p, xs, (k : Int), k, rfl, hy, g.h _ _ hl, ixN_nat (by rw [← al.length]; exact hk), n _ F2 _ ⟨(a.g.trans g).move h0 hF2, sl_stillE hs (a.s.mono g) fun w e => ?_⟩⟩
  rw [h1] at e; cases e
  exact ⟨p, _, rfl, h0, hF2, upd_same, (al.mono g.f).set k (P.mono g2.f hv)⟩
/-- self.f = e -/
theorem s_fld {f : Str} {p dx : Addr} (hc : Cls K C) (hn : NoAttr K C f) (hi : G[i]? = some (obj C p dx fs)) (hs : StillE i G) (h : E G te P) (hz : Nat.ble (fs.length + 1) 1000 = true) : S G (sFld K (tVar i) te f) (G.set i (obj C p dx (putP f P fs))) R := fun F0 H0 D s F H a n r => by
  obtain ⟨o, h1, gs, rfl, h0, hF, hl, al⟩ := a.s.get hi
  refine h F0 H0 s F H a _ fun v F1 H1 g1 hv => ⟨.ref p, h1, p, C, dx, gs, rfl, g1.h _ _ hl, hc, hn, by rw [← al.length]; exact Nat.le_of_ble_eq_true hz, ?_⟩
  have hF1 : F1 p = none := (g1.o p (ne_none hl)).trans hF
  refine n _ F1 _ ⟨(a.g.trans g1).move h0 hF1, sl_stillE hs (a.s.mono g1) fun w e => ?_⟩
  rw [h1] at e; cases e
  exact ⟨_, rfl, h0, hF1, upd_same, (al.mono g1.f).put hv⟩
end

theorem q_fld {G G2 : List SP} {te : TE} {P R : VP} {K : PySem.W.Frag} {C p dx : Addr} {fs : List (Str × VP)} {i : Nat} {tw : TS} {f : Str} (hc : Cls K C) (hn : NoAttr K C f) (hi : G[i]? = some (obj C p dx fs)) (hs : StillE i G) (h : E G te P) (hz : Nat.ble (fs.length + 1) 1000 = true) (k : S (G.set i (obj C p dx (putP f P fs))) tw G2 R) : S G (tSeq (sFld K (tVar i) te f) tw) G2 R := s_seq (s_fld hc hn hi hs h hz) k
theorem q_app {G G2 : List SP} {te : TE} {P R : VP} {ps : List VP} {K : PySem.W.Frag} {i : Nat} {tw : TS} (hi : G[i]? = some (own ps)) (hs : StillE i G) (h : E G te P) (hz : ps.length < sizeLine) (k : S (G.set i (own (ps ++ [P]))) tw G2 R) : S G (tSeq (tDrop (tBM K "list" rAppend (tVar i) (tCons te tNil))) tw) G2 R := s_seq (s_app hi hs h hz) k
theorem q_ext {G G2 : List SP} {te : TE} {R : VP} {ps qs : List VP} {K : PySem.W.Frag} {i : Nat} {tw : TS} (hi : G[i]? = some (own ps)) (hs : StillE i G) (h : E G te (Lv qs)) (hz : ps.length + qs.length ≤ sizeLine) (k : S (G.set i (own (ps ++ qs))) tw G2 R) : S G (tSeq (tDrop (tBM K "list" rExtend (tVar i) (tCons te tNil))) tw) G2 R := s_seq (s_ext hi hs h hz) k
theorem q_put {G G2 : List SP} {te tb : TE} {P R : VP} {ps : List VP} {i k : Nat} {tw : TS} (hi : G[i]? = some (own ps)) (hs : StillE i G) (h : E G te P) (hj : E G tb (Iv (k : Int))) (hk : k < ps.length) (kk : S (G.set i (own (ps.set k P))) tw G2 R) : S G (tSeq (tAsg te (gSub (tVar i) tb rSetL)) tw) G2 R := s_seq (s_put hi hs h hj hk) kk
/-! what is known besides, at a slot -/
def wf (p : Prop) (P : SP) : SP := ⟨fun H0 o F H => p ∧ P.h H0 o F H, fun g h => ⟨h.1, P.mono g h.2⟩⟩
theorem s_wf {G G2 : List SP} {ts : TS} {R : VP} {p : Prop} {P : SP} (h : p → S (P :: G) ts G2 R) : S (wf p P :: G) ts G2 R := fun F0 H0 D s F H a n r => by
  match s, a with
  | v :: s, a => exact h a.s.1.1 F0 H0 D (v :: s) F H ⟨a.g, a.s.1.2, a.s.2⟩ n r
  | [], a => exact a.s.elim
theorem sub_wf {G G1 : List SP} {p : Prop} {P : SP} (hp : p) (h : Sub G G1) : Sub (P :: G) (wf p P :: G1) := fun H0 s F H a => match s, a with
  | _ :: s, a => ⟨⟨hp, a.1⟩, h H0 s F H a.2⟩
theorem sub_fw {G G1 : List SP} {p : Prop} {P : SP} (h : Sub G G1) : Sub (wf p P :: G) (P :: G1) := fun H0 s F H a => match s, a with
  | _ :: s, a => ⟨a.1.2, h H0 s F H a.2⟩
/-! ### what is walked -/
structure WalkF (J : It) (n : Nat) (F1 : Hp) (Ps : Nat → VP) : Prop where
  goes : ∀ i F H, i < n → Same F1 F → Same F H → J.go i H
  stops : ∀ F H, Same F1 F → Same F H → J.stop n H
  yields : ∀ i F H x H', i < n → Same F1 F → Same F H → J.yld i H x H' → ∃ F', Gr F H F' H' ∧ (Ps i).h x F'
def W (G : List SP) (wi : TI) (n : Nat) (Ps : Nat → VP) : Prop := ∀ F0 H0 s F H, At F0 H0 G s F H → ∀ R : It → Hp → Prop, (∀ J F' H', Gr F H F' H' → WalkF J n F' Ps → R J H') → wi s H R
section
variable {G G1 G2 : List SP} {te ta tb : TE} {P P1 P2 R : VP} {ps qs : List VP} {K : PySem.W.Frag} {ts : TS} {i j : Nat}
def nth (ps : List VP) (i : Nat) : VP := ps.getD i Any
theorem nth_of {ps : List VP} {i : Nat} (h : i < ps.length) : ps[i]? = some (nth ps i) := by
  unfold nth
  rw [List.getD_eq_getElem?_getD, List.getElem?_eq_getElem h]; rfl
theorem AllP.nth {ps : List VP} {xs : List V} {F : Hp} {i : Nat} {x : V} (a : AllP ps xs F) (h : i < ps.length) (e : xs[i]? = some x) : (nth ps i).h x F := by
  obtain ⟨v, h1, h2⟩ := a.get (nth_of h)
  rw [e] at h1; cases h1; exact h2
theorem w_list (h : E G te (Lv ps)) : W G (iList K te) ps.length (nth ps) := fun F0 H0 s F H a R r => h F0 H0 s F H a _ fun v F1 H1 g1 ⟨p, xs, ev, hp, al⟩ => by
  have sq : ∀ {F H : Hp}, Same F1 F → Same F H → SqL K H p xs := fun s1 s2 => SqL.of (s2 _ _ (s1 _ _ hp))
  have el := al.length
  refine ⟨p, ev, ⟨xs, SqL.of (g1.i _ _ hp)⟩, r _ F1 H1 g1 ⟨fun i F H hi s1 s2 => ⟨xs, xs[i]'(by omega), sq s1 s2, List.getElem?_eq_getElem _⟩, fun F H s1 s2 => ⟨xs, sq s1 s2, by omega⟩, fun i F H x H' hi s1 s2 y => ?_⟩⟩
  obtain ⟨rfl, y⟩ := y
  exact ⟨F, Gr.refl s2, (nth ps i).mono s1 (al.nth hi (y xs (sq s1 s2)))⟩
end
end Ty
end
section
set_option Elab.async false
set_option linter.all false
set_option maxRecDepth 100000
set_option maxHeartbeats 2000000
/-! Judgements, further: what is walked, comprehensions, loops, calls, slices, built-ins; the def's promise -/
namespace Ty
open PySem PySem.Spec PyProof.Rows L2
section
variable {G G1 G2 : List SP} {te ta tb tl th : TE} {tt : TT} {t : TA} {P P1 P2 R : VP} {ps qs : List VP} {K : PySem.W.Frag} {ts tz : TS} {i j : Nat}
theorem getD_some {α : Type} {l : List α} {i : Nat} (h : i < l.length) : l[i]? = some (l[i]'h) := List.getElem?_eq_getElem h
theorem all2 {P1 P2 : VP} {vs : List V} {F : Hp} (h : AllP [P1, P2] vs F) : ∃ x y, vs = [x, y] ∧ P1.h x F ∧ P2.h y F := by
  match vs, h with
  | [x, y], h => exact ⟨x, y, rfl, h.1, h.2.1⟩
  | [], h => exact h.elim
  | [_], h => exact h.2.elim
  | _ :: _ :: _ :: _, h => exact h.2.2.elim
theorem all1 {P1 : VP} {vs : List V} {F : Hp} (h : AllP [P1] vs F) : ∃ x, vs = [x] ∧ P1.h x F := by
  match vs, h with
  | [x], h => exact ⟨x, rfl, h.1⟩
  | [], h => exact h.elim
  | _ :: _ :: _, h => exact h.2.elim
theorem all3 {P1 P2 P3 : VP} {vs : List V} {F : Hp} (h : AllP [P1, P2, P3] vs F) : ∃ x y z, vs = [x, y, z] ∧ P1.h x F ∧ P2.h y F ∧ P3.h z F := by
  match vs, h with
  | [x, y, z], h => exact ⟨x, y, z, rfl, h.1, h.2.1, h.2.2.1⟩
  | [], h => exact h.elim
  | [_], h => exact h.2.elim
  | [_, _], h => exact h.2.2.elim
  | _ :: _ :: _ :: _ :: _, h => exact h.2.2.2.elim
/-- a new tuple of two -/
theorem pair_new {F H H' : Hp} {Tt : Addr} {x y : V} (i : Same F H) (hT : H Tt = none) (e : H' = upd H Tt (.tup [x, y])) (h1 : P1.h x F) (h2 : P2.h y F) : ∃ F', Gr F H F' H' ∧ (Tv [P1, P2]).h (.ref Tt) F' := by
  subst e
  have hF := i.free hT
  exact ⟨upd F Tt (.tup [x, y]), ((Gr.refl i).move hT hF).fix hT hF upd_same, Tt, _, rfl, upd_same, P1.mono (fixS hF) h1, P2.mono (fixS hF) h2, trivial⟩
theorem w_zip (h : A G t [Lv ps, Lv qs]) : W G (iZip K t) (min ps.length qs.length) (fun i => Tv [nth ps i, nth qs i]) := fun F0 H0 s F H a R r => h F0 H0 s F H a _ fun vs F1 H1 g1 al => by
  obtain ⟨x, y, rfl, ⟨p, xs, rfl, hp, ax⟩, ⟨q, ys, rfl, hq, ay⟩⟩ := all2 al
  have sx : ∀ {F H : Hp}, Same F1 F → Same F H → SqL K H p xs := fun s1 s2 => SqL.of (s2 _ _ (s1 _ _ hp))
  have sy : ∀ {F H : Hp}, Same F1 F → Same F H → SqL K H q ys := fun s1 s2 => SqL.of (s2 _ _ (s1 _ _ hq))
  have lx := ax.length
  have ly := ay.length
  refine ⟨p, q, xs, ys, rfl, SqL.of (g1.i _ _ hp), SqL.of (g1.i _ _ hq), r _ F1 H1 g1 ⟨fun i F H hi s1 s2 => ?_, fun F H s1 s2 => ⟨xs, ys, sx s1 s2, sy s1 s2, by omega⟩, fun i F H v H' hi s1 s2 y => ?_⟩⟩
  · exact ⟨xs, ys, xs[i]'(by omega), ys[i]'(by omega), sx s1 s2, sy s1 s2, getD_some _, getD_some _⟩
  · obtain ⟨Tt, x, z, rfl, hT, e, h1, h2⟩ := y
    exact pair_new s2 hT e ((nth ps i).mono s1 (ax.nth (by omega) (h1 xs (sx s1 s2)))) ((nth qs i).mono s1 (ay.nth (by omega) (h2 ys (sy s1 s2))))
theorem w_enum (h : A G t [Lv ps]) : W G (iEnum K t) ps.length (fun i => Tv [Iv (i : Nat), nth ps i]) := fun F0 H0 s F H a R r => h F0 H0 s F H a _ fun vs F1 H1 g1 al => by
  obtain ⟨x, rfl, ⟨p, xs, rfl, hp, ax⟩⟩ := all1 al
  have sx : ∀ {F H : Hp}, Same F1 F → Same F H → SqL K H p xs := fun s1 s2 => SqL.of (s2 _ _ (s1 _ _ hp))
  have lx := ax.length
  refine ⟨p, xs, rfl, SqL.of (g1.i _ _ hp), r _ F1 H1 g1 ⟨fun i F H hi s1 s2 => ?_, fun F H s1 s2 => ⟨xs, sx s1 s2, by omega⟩, fun i F H v H' hi s1 s2 y => ?_⟩⟩
  · exact ⟨xs, xs[i]'(by omega), sx s1 s2, getD_some _⟩
  · obtain ⟨Tt, x, rfl, hT, e, h1⟩ := y
    exact pair_new s2 hT e rfl ((nth ps i).mono s1 (ax.nth (by omega) (h1 xs (sx s1 s2))))
theorem w_rng1 {n : Int} (h : A G t [Iv n]) (hn : -1000000 ≤ n ∧ n ≤ 1000000) : W G (iRng1 t) n.toNat (fun i => Iv (i : Nat)) := fun F0 H0 s F H a R r => h F0 H0 s F H a _ fun vs F1 H1 g1 al => by
  obtain ⟨x, rfl, hx⟩ := all1 al
  have hx : x = .int n := hx
  subst hx
  refine ⟨n, rfl, by omega, by omega, r _ F1 H1 g1 ⟨fun i F H hi _ _ => hi, fun F H _ _ => Nat.le_refl _, fun i F H v H' hi s1 s2 y => ?_⟩⟩
  obtain ⟨rfl, rfl⟩ := y
  exact ⟨F, Gr.refl s2, by show V.int _ = V.int _; rw [Int.zero_add]⟩
theorem w_rng2 {m n : Int} (h : A G t [Iv m, Iv n]) (hn : -1000000 ≤ m ∧ m ≤ 1000000 ∧ -1000000 ≤ n ∧ n ≤ 1000000) : W G (iRng2 t) (n - m).toNat (fun i => Iv (m + (i : Nat))) := fun F0 H0 s F H a R r => h F0 H0 s F H a _ fun vs F1 H1 g1 al => by
  obtain ⟨x, y, rfl, hx, hy⟩ := all2 al
  have hx : x = .int m := hx
  have hy : y = .int n := hy
  subst hx hy
  refine ⟨m, n, rfl, by omega, r _ F1 H1 g1 ⟨fun i F H hi _ _ => hi, fun F H _ _ => Nat.le_refl _, fun i F H v H' hi s1 s2 y => ?_⟩⟩
  obtain ⟨rfl, rfl⟩ := y
  exact ⟨F, Gr.refl s2, rfl⟩

/-! targets -/
/-- a target takes a value: the slots behind it; vs: the slots that it may write -/
def Tg (g : TG) (vs : List Nat) (G : List SP) (P : VP) (G' : List SP) : Prop := ∀ F0 H0 s F H v, At F0 H0 G s F H → P.h v F → ∀ Q : L2.St → Hp → Prop, (∀ s', At F0 H0 G' s' F H → wipe s' vs = wipe s vs → Q s' H) → g v s H Q
theorem wipe_get {s : L2.St} {k : Nat} : ∀ {vs : List Nat}, (wipe s vs)[k]? = if k ∈ vs ∧ k < s.length then some none else s[k]?
  | [] => by simp [wipe]
  | v :: vs => by
    unfold wipe
    rw [List.getElem?_set, wipe_get (s := s) (k := k) (vs := vs), wipe_length]
    by_cases e : v = k
    · subst e
      by_cases hl : v < s.length
      · simp [hl]
      · simp [hl]
    · have : k ≠ v := fun q => e q.symm
      simp [e, this]
theorem wipe_eq {s s' : L2.St} {vs : List Nat} (hl : s'.length = s.length) (h : ∀ k, k ∉ vs → s'[k]? = s[k]?) : wipe s' vs = wipe s vs := by
  refine List.ext_getElem? fun k => ?_
  rw [wipe_get, wipe_get, hl]
  by_cases c : k ∈ vs
  · by_cases d : k < s.length
    · simp [c, d]
    · have d2 : ¬ k < s'.length := by omega
      simp only [c, d, true_and, if_false]
      rw [List.getElem?_eq_none (by omega), List.getElem?_eq_none (by omega)]
  · simp [c, h k c]
theorem wipe_set {s : L2.St} {vs : List Nat} {j : Nat} {x : Option V} (hj : j ∈ vs) : wipe (s.set j x) vs = wipe s vs :=
  wipe_eq (by simp) fun k hk => by rw [List.getElem?_set_ne]; intro e; exact hk (e ▸ hj)
theorem wipe_wipe {s : L2.St} {vs : List Nat} : wipe (wipe s vs) vs = wipe s vs :=
  wipe_eq (wipe_length _ _) fun k hk => by rw [wipe_get]; simp [hk]
def wipeG (G : List SP) : List Nat → List SP
  | [] => G
  | v :: vs => (wipeG G vs).set v any
theorem sl_wipe {H0 F H : Hp} {s : L2.St} (h : Sl H0 G s F H) : ∀ vs, Sl H0 (wipeG G vs) (wipe s vs) F H
  | [] => h
  | v :: vs => (sl_wipe h vs).set v trivial
theorem tg_name {vs : List Nat} (hj : j ∈ vs) : Tg (gName j) vs G P (G.set j (im P)) := fun F0 H0 s F H v a hv Q q => q _ (a.set (P := im P) j ⟨v, rfl, hv⟩) (wipe_set hj)
theorem tg_pair {vs : List Nat} {k : Nat} (hj : j ∈ vs) (hk : k ∈ vs) : Tg (gTup K 2 (gCons (gName j) (gCons (gName k) gNil))) vs G (Tv [P1, P2]) ((G.set j (im P1)).set k (im P2)) := fun F0 H0 s F H v a ⟨p, xs, ev, hp, al⟩ Q q => by
  obtain ⟨x, y, rfl, hx, hy⟩ := all2 al
  exact ⟨p, _, ev, SqT.of (a.g.i _ _ hp), rfl, x, _, rfl, y, _, rfl, rfl, q _ ((a.set (P := im P1) j ⟨x, rfl, hx⟩).set (P := im P2) k ⟨y, rfl, hy⟩) (by rw [wipe_set hk, wipe_set hj])⟩

/-! comprehensions -/
theorem el_lc {wi : TI} {n : Nat} {Ps Qs : Nat → VP} {g : TG} {vs : List Nat} {Gi : Nat → List SP} (bs : Nat → Bool) (hw : W G wi n Ps) (hz : n ≤ 1000000) (hg : ∀ i, i < n → Tg g vs (wipeG G vs) (Ps i) (Gi i)) (ht : ∀ i, i < n → T (Gi i) tt (bs i)) (he : ∀ i, i < n → bs i = true → E (Gi i) te (Qs i)) :
    EL G (tLc wi g tt te vs) (((List.range n).filter bs).map Qs) := fun F0 H0 s F H a Q q => hw F0 H0 s F H a _ fun J F1 H1 g1 wk => fun D hD => by
  have hF1 : F1 D = none := g1.i.free hD
  refine ⟨fun i m Hc => m = n - i ∧ i ≤ n ∧ ∃ Fc acc, Gr F1 H1 Fc Hc ∧ Fc D = none ∧ Hc D = some (.lst acc) ∧ AllP (((List.range i).filter bs).map Qs) acc Fc,
    ⟨n, by simp, Nat.zero_le _, F1, [], (Gr.refl g1.i).move hD hF1, hF1, upd_same, trivial⟩, ?_⟩
  rintro i m Hc ⟨rfl, hi, Fc, acc, gc, hFc, hc, al⟩
  by_cases hlt : i < n
  · refine .inr ⟨wk.goes i Fc Hc hlt gc.f gc.i, fun Hn => i + 1 ≤ n ∧ ∃ Fn acc, Gr F1 H1 Fn Hn ∧ Fn D = none ∧ Hn D = some (.lst acc) ∧ AllP (((List.range (i + 1)).filter bs).map Qs) acc Fn, fun H' k => ⟨n - (i + 1), by omega, rfl, k⟩, fun x H2 y => ?_⟩
    obtain ⟨F2, g2, hx⟩ := wk.yields i Fc Hc x H2 hlt gc.f gc.i y
    have gg : Gr F H F2 H2 := g1.trans (gc.trans g2)
    have hF2 : F2 D = none := (g2.o D (ne_none hc)).trans hFc
    have hH2 : H2 D = some (.lst acc) := g2.h _ _ hc
    have a2 : At F0 H0 (wipeG G vs) (wipe s vs) F2 H2 := ⟨(a.grow gg).g, sl_wipe (a.grow gg).s vs⟩
    refine hg i hlt F0 H0 _ F2 H2 x a2 hx _ fun s3 a3 ew => ⟨ew.trans wipe_wipe, ht i hlt F0 H0 s3 F2 H2 a3 _ fun F3 H3 g3 => ?_⟩
    have hF3 : F3 D = none := (g3.o D (ne_none hH2)).trans hF2
    have hH3 : H3 D = some (.lst acc) := g3.h _ _ hH2
    have zl : acc.length ≤ i := by
      have := al.length
      rw [List.length_map] at this
      have h2 := List.length_filter_le bs (List.range i)
      rw [List.length_range] at h2
      omega
    cases hb : bs i with
    | true =>
      refine iteT (he i hlt hb F0 H0 s3 F3 H3 (a3.grow g3) _ fun y F4 H4 g4 hy => ?_)
      have hF4 : F4 D = none := (g4.o D (ne_none hH3)).trans hF3
      refine ⟨acc, g4.h _ _ hH3, Nat.lt_of_le_of_lt zl (Nat.lt_of_lt_of_le (Nat.lt_of_lt_of_le hlt hz) (by decide)), hlt, F4, _, ?_, hF4, upd_same, ?_⟩
      · exact (gc.trans (g2.trans (g3.trans g4))).move hD hF4
      · rw [List.range_succ, List.filter_append, List.map_append]
        refine (al.mono (g2.f.trans (g3.f.trans g4.f))).append ?_
        simp only [List.filter_cons, hb, if_true, List.filter_nil, List.map_cons, List.map_nil]
        exact ⟨hy, trivial⟩
    | false =>
      refine iteF ⟨hlt, F3, acc, gc.trans (g2.trans g3), hF3, hH3, ?_⟩
      rw [List.range_succ, List.filter_append, List.map_append]
      have e0 : List.filter bs [i] = [] := by simp [hb]
      rw [e0, List.map_nil, List.append_nil]
      exact al.mono (g2.f.trans g3.f)
  · have e : i = n := by omega
    subst e
    exact .inl ⟨wk.stops Fc Hc gc.f gc.i, q D acc Fc Hc (g1.trans gc) (g1.h.free hD) hFc hc al⟩
theorem t_yes : T G tYes true := fun F0 H0 s F H a Q q => q F H (Gr.refl a.g.i)
theorem filter_all {n : Nat} : (List.range n).filter (fun _ => true) = List.range n := List.filter_eq_self.mpr fun _ _ => rfl
/-- without a test -/
theorem el_map {wi : TI} {n : Nat} {Ps Qs : Nat → VP} {g : TG} {vs : List Nat} {Gi : Nat → List SP} (hw : W G wi n Ps) (hz : n ≤ 1000000) (hg : ∀ i, i < n → Tg g vs (wipeG G vs) (Ps i) (Gi i)) (he : ∀ i, i < n → E (Gi i) te (Qs i)) :
    EL G (tLc wi g tYes te vs) ((List.range n).map Qs) := by
  have := el_lc (te := te) (Qs := Qs) (fun _ => true) hw hz hg (fun i _ => t_yes) fun i hi _ => he i hi
  rw [filter_all] at this
  exact this
/-! loops -/
theorem s_for {wi : TI} {n : Nat} {Ps : Nat → VP} {g : TG} {Gi : Nat → List SP} (inv : Nat → List SP) (hw : W G wi n Ps) (h0 : Sub G (inv 0)) (hg : ∀ i, i < n → Tg g [] (inv i) (Ps i) (Gi i) ∨ ∃ vs, Tg g vs (inv i) (Ps i) (Gi i))
    (hb : ∀ i, i < n → S (Gi i) ts (inv (i + 1)) R) : S G (tFor wi g ts) (inv n) R := fun F0 H0 D s F H a k r => hw F0 H0 s F H a _ fun J F1 H1 g1 wk => by
  refine ⟨fun i m s' Hc => m = n - i ∧ i ≤ n ∧ ∃ Fc, At F0 H0 (inv i) s' Fc Hc ∧ Same F1 Fc, ⟨n, by simp, Nat.zero_le _, F1, ⟨(a.grow g1).g, h0 _ _ _ _ (a.grow g1).s⟩, Same.refl _⟩, ?_⟩
  rintro i m s' Hc ⟨rfl, hi, Fc, ac, sf⟩
  by_cases hlt : i < n
  · refine .inr ⟨wk.goes i Fc Hc hlt sf ac.g.i, fun s2 Hn => i + 1 ≤ n ∧ ∃ Fn, At F0 H0 (inv (i + 1)) s2 Fn Hn ∧ Same F1 Fn, fun s2 H' k => ⟨n - (i + 1), by omega, rfl, k⟩, fun x H2 y => ?_⟩
    obtain ⟨F2, g2, hx⟩ := wk.yields i Fc Hc x H2 hlt sf ac.g.i y
    have a2 := ac.grow g2
    have body : ∀ s3, At F0 H0 (Gi i) s3 F2 H2 → ts { D with nx := fun s2 Hn => i + 1 ≤ n ∧ ∃ Fn, At F0 H0 (inv (i + 1)) s2 Fn Hn ∧ Same F1 Fn, ct := fun s2 Hn => i + 1 ≤ n ∧ ∃ Fn, At F0 H0 (inv (i + 1)) s2 Fn Hn ∧ Same F1 Fn, bk := D.nx } s3 H2 := fun s3 a3 => by
      have b3 : At F2 H0 (Gi i) s3 F2 H2 := ⟨⟨Same.refl _, a3.g.h, a3.g.i, fun _ _ => rfl⟩, a3.s⟩
      refine hb i hlt F2 H0 _ s3 F2 H2 b3 (fun s4 F4 H4 a4 => ⟨hlt, F4, ⟨⟨a3.g.f.trans a4.g.f, a4.g.h, a4.g.i, fun z hz => (a4.g.o z hz).trans (a3.g.o z hz)⟩, a4.s⟩, sf.trans (g2.f.trans a4.g.f)⟩) fun v F4 H4 g4 hv => ?_
      exact r v F4 H4 ⟨a3.g.f.trans g4.f, g4.h, g4.i, fun z hz => (g4.o z hz).trans (a3.g.o z hz)⟩ hv
    rcases hg i hlt with tg | ⟨vs, tg⟩
    · exact tg F0 H0 s' F2 H2 x a2 hx _ fun s3 a3 _ => body s3 a3
    · exact tg F0 H0 s' F2 H2 x a2 hx _ fun s3 a3 _ => body s3 a3
  · have e : i = n := by omega
    subst e
    exact .inl ⟨wk.stops Fc Hc sf ac.g.i, k s' Fc Hc ac⟩
/-- a while: the slots by a state z, a measure -/
theorem s_while {Z : Type} (inv : Z → List SP) (m : Z → Nat) (z0 : Z) (h0 : Sub G (inv z0)) (b : Z → Bool) (ht : ∀ z, T (inv z) tt (b z)) (hb : ∀ z, b z = true → ∃ z', m z' < m z ∧ S (inv z) ts (inv z') R) (hd : ∀ z, b z = false → Sub (inv z) G2) :
    S G (tWhile tt ts) G2 R := fun F0 H0 D s F H a k r => by
  refine ⟨fun c s' Hc => ∃ z Fc, c = m z ∧ At F0 H0 (inv z) s' Fc Hc, ⟨m z0, z0, F, rfl, a.g, h0 _ _ _ _ a.s⟩, ?_⟩
  rintro c s' Hc ⟨z, Fc, rfl, ac⟩
  refine ht z F0 H0 s' Fc Hc ac _ fun F1 H1 g1 => ?_
  have a1 := ac.grow g1
  cases hz : b z with
  | true =>
    obtain ⟨z', hm, hs⟩ := hb z hz
    refine iteT ⟨fun s2 Hn => ∃ Fn, At F0 H0 (inv z') s2 Fn Hn, fun s2 H2 ⟨Fn, an⟩ => ⟨m z', hm, z', Fn, rfl, an⟩, ?_⟩
    exact hs F0 H0 _ s' F1 H1 a1 (fun s2 F2 H2 a2 => ⟨F2, a2⟩) r
  | false => exact iteF (k s' F1 H1 ⟨a1.g, hd z hz _ _ _ _ a1.s⟩)

/-! built-ins -/
theorem e_len (h : A G t [Lv ps]) : E G (tCB (fun xs H Q => ∃ p ys, xs = [.ref p] ∧ (SqL K H p ys ∨ SqT K H p ys) ∧ Q (.int ys.length) H) t) (Iv ps.length) := fun F0 H0 s F H a Q q => h F0 H0 s F H a _ fun vs F1 H1 g1 al => by
  obtain ⟨x, rfl, ⟨p, xs, rfl, hp, ax⟩⟩ := all1 al
  exact ⟨p, xs, rfl, .inl (SqL.of (g1.i _ _ hp)), q _ F1 H1 g1 (by show V.int _ = V.int _; rw [ax.length])⟩
theorem e_abs {n : Int} (h : A G t [Iv n]) : E G (tCB (fun xs H Q => ∃ i, xs = [.int i] ∧ Q (.int (if i < 0 then -i else i)) H) t) (Iv (n.natAbs : Nat)) := fun F0 H0 s F H a Q q => h F0 H0 s F H a _ fun vs F1 H1 g1 al => by
  obtain ⟨x, rfl, hx⟩ := all1 al
  have hx : x = .int n := hx
  subst hx
  exact ⟨n, rfl, q _ F1 H1 g1 (by show V.int _ = V.int _; congr 1; split <;> omega)⟩
theorem vals_int : ∀ {ns : List Int} {xs : List V} {F : Hp}, AllP (ns.map Iv) xs F → xs = ns.map V.int
  | [], [], _, _ => rfl
  | n :: ns, x :: xs, _, h => by
    have e : x = .int n := h.1
    rw [e, vals_int h.2]; rfl
  | [], _ :: _, _, h => h.elim
  | _ :: _, [], _, h => h.elim
theorem int_vals : ∀ {ns : List Int} {F : Hp}, AllP (ns.map Iv) (ns.map V.int) F
  | [], _ => trivial
  | _ :: _, _ => ⟨rfl, int_vals⟩
theorem vals_bl : ∀ {ns : List Bool} {xs : List V} {F : Hp}, AllP (ns.map Bv) xs F → xs = ns.map V.bl
  | [], [], _, _ => rfl
  | n :: ns, x :: xs, _, h => by
    have e : x = .bl n := h.1
    rw [e, vals_bl h.2]; rfl
  | [], _ :: _, _, h => h.elim
  | _ :: _, [], _, h => h.elim
theorem e_sum {ns : List Int} (h : A G t [Lv (ns.map Iv)]) : E G (tCB (rSum K) t) (Iv ns.sum) := fun F0 H0 s F H a Q q => h F0 H0 s F H a _ fun vs F1 H1 g1 al => by
  obtain ⟨x, rfl, ⟨p, xs, rfl, hp, ax⟩⟩ := all1 al
  have e := vals_int ax
  subst e
  exact ⟨p, ns, rfl, SqL.of (g1.i _ _ hp), q _ F1 H1 g1 rfl⟩
theorem e_any {ns : List Bool} (h : A G t [Lv (ns.map Bv)]) : E G (tCB (rAny K) t) (Bv (ns.any id)) := fun F0 H0 s F H a Q q => h F0 H0 s F H a _ fun vs F1 H1 g1 al => by
  obtain ⟨x, rfl, ⟨p, xs, rfl, hp, ax⟩⟩ := all1 al
  have e := vals_bl ax
  subst e
  exact ⟨p, ns, rfl, SqL.of (g1.i _ _ hp), q _ F1 H1 g1 rfl⟩
theorem e_all {ns : List Bool} (h : A G t [Lv (ns.map Bv)]) : E G (tCB (rAll K) t) (Bv (ns.all id)) := fun F0 H0 s F H a Q q => h F0 H0 s F H a _ fun vs F1 H1 g1 al => by
  obtain ⟨x, rfl, ⟨p, xs, rfl, hp, ax⟩⟩ := all1 al
  have e := vals_bl ax
  subst e
  exact ⟨p, ns, rfl, SqL.of (g1.i _ _ hp), q _ F1 H1 g1 rfl⟩
theorem el_list (h : A G t [Lv ps]) : EL G (tCB (fun xs H Q => ∃ p ys, xs = [.ref p] ∧ (SqL K H p ys ∨ SqT K H p ys) ∧ ∀ l, H l = none → Q (.ref l) (upd H l (.lst ys))) t) ps := fun F0 H0 s F H a Q q => h F0 H0 s F H a _ fun vs F1 H1 g1 al => by
  obtain ⟨x, rfl, ⟨p, xs, rfl, hp, ax⟩⟩ := all1 al
  exact ⟨p, xs, rfl, .inl (SqL.of (g1.i _ _ hp)), fun l hl => q l xs F1 _ (g1.trans ((Gr.refl g1.i).move hl (g1.i.free hl))) (g1.h.free hl) (g1.i.free hl) upd_same ax⟩
/-- list + list -/
theorem el_cat (ha : E G ta (Lv ps)) (hb : E G tb (Lv qs)) (hz : ps.length + qs.length ≤ 1000000) : EL G (tOp rCat ta tb) (ps ++ qs) := el_op2 ha hb fun x y F H Q i ⟨p, xs, ex, hp, ax⟩ ⟨b, ys, ey, hb, ay⟩ q =>
  ⟨p, b, xs, ys, ex, ey, i _ _ hp, i _ _ hb, by have h1 := ax.length; have h2 := ay.length; exact Nat.le_trans (by omega) (show 1000000 ≤ sizeLine by decide), fun l hl => q l _ F _ ((Gr.refl i).move hl (i.free hl)) hl (i.free hl) upd_same (ax.append ay)⟩
theorem flat_rep {α : Type} (x : α) : ∀ n : Nat, (List.replicate n [x]).flatten = List.replicate n x
  | 0 => rfl
  | n + 1 => by rw [List.replicate_succ, List.flatten_cons, flat_rep x n]; rfl
theorem all_rep {P : VP} {v : V} {F : Hp} (h : P.h v F) : ∀ n : Nat, AllP (List.replicate n P) (List.replicate n v) F
  | 0 => trivial
  | n + 1 => ⟨h, all_rep h n⟩
/-- [x] * n -/
theorem el_rep {n : Int} (ha : E G ta (Lv [P])) (hb : E G tb (Iv n)) (hn : n ≤ 1000000 ∧ -1000000 ≤ n) : EL G (tOp rRep ta tb) (List.replicate n.toNat P) := el_op2 ha hb fun x y F H Q i ⟨p, xs, ex, hp, ax⟩ hy q => by
  obtain ⟨z, rfl, hz⟩ := all1 ax
  refine ⟨p, n, [z], ex, hy, i _ _ hp, by omega, by omega, by
    have : (1000000 : Nat) ≤ sizeLine := by decide
    simp only [List.length_singleton, Nat.one_mul]; omega, fun l hl => q l (List.replicate n.toNat z) F _ ((Gr.refl i).move hl (i.free hl)) hl (i.free hl) ?_ (all_rep hz _)⟩
  rw [upd_same, flat_rep]
/-- xs[i] -/
theorem e_ixL {k : Nat} (ha : E G ta (Lv ps)) (hb : E G tb (Iv (k : Int))) (hk : ps[k]? = some P) : E G (tOp (rIxL K) ta tb) P := e_op2 ha hb fun x y F H Q i ⟨p, xs, ex, hp, ax⟩ hy q => by
  obtain ⟨v, h1, h2⟩ := ax.get hk
  exact ⟨p, xs, _, v, ex, hy, SqL.of (i _ _ hp), atI_nat h1, q v F H (Gr.refl i) h2⟩
theorem e_ixT {k : Nat} (ha : E G ta (Tv ps)) (hb : E G tb (Iv (k : Int))) (hk : ps[k]? = some P) : E G (tOp (rIxT K) ta tb) P := e_op2 ha hb fun x y F H Q i ⟨p, xs, ex, hp, ax⟩ hy q => by
  obtain ⟨v, h1, h2⟩ := ax.get hk
  exact ⟨p, xs, _, v, ex, hy, SqT.of (i _ _ hp), atI_nat h1, q v F H (Gr.refl i) h2⟩
/-- xs[-1] -/
theorem e_last (ha : E G ta (Lv ps)) (hb : E G tb (Iv (-1))) (hk : ps[ps.length - 1]? = some P) (h0 : 0 < ps.length) : E G (tOp (rIxL K) ta tb) P := e_op2 ha hb fun x y F H Q i ⟨p, xs, ex, hp, ax⟩ hy q => by
  obtain ⟨v, h1, h2⟩ := ax.get hk
  refine ⟨p, xs, _, v, ex, hy, SqL.of (i _ _ hp), ?_, q v F H (Gr.refl i) h2⟩
  have e := ax.length
  have e2 : ixN xs.length (-1) = some (xs.length - 1) := by
    unfold ixN
    rw [if_neg (by omega), if_pos (by omega)]
    congr 1; omega
  show (ixN xs.length (-1)).bind (fun j => xs[j]?) = some v
  rw [e2, ← e]; exact h1
/-- slices: lo, hi as the places in the list -/
def PartO (G : List SP) (to : TO) (o : Option Int) : Prop := ∀ F0 H0 s F H, At F0 H0 G s F H → ∀ Q : Option Int → Hp → Prop, (∀ F' H', Gr F H F' H' → Q o H') → to s H Q
theorem po_no : PartO G tNoPart none := fun F0 H0 s F H a Q q => q F H (Gr.refl a.g.i)
theorem po_so {n : Int} (h : E G te (Iv n)) : PartO G (tPart te) (some n) := fun F0 H0 s F H a Q q => h F0 H0 s F H a _ fun v F1 H1 g1 hv => ⟨n, hv, q F1 H1 g1⟩
theorem cut_all {ps : List VP} {xs : List V} {F : Hp} (h : AllP ps xs F) (lo hi : Option Int) : AllP ((ps.drop (HT.sIx ps.length 0 lo)).take (HT.sIx ps.length ps.length hi - HT.sIx ps.length 0 lo)) (cutV xs lo hi) F := by
  unfold cutV
  rw [← h.length]
  exact (h.drop _).take _
theorem el_slice {lo hi : Option Int} {tlo thi : TO} (h : E G te (Lv ps)) (hl : PartO G tlo lo) (hh : PartO G thi hi) : EL G (tSl (rSlL K) te tlo thi) ((ps.drop (HT.sIx ps.length 0 lo)).take (HT.sIx ps.length ps.length hi - HT.sIx ps.length 0 lo)) := fun F0 H0 s F H a Q q =>
  h F0 H0 s F H a _ fun v F1 H1 g1 ⟨p, xs, ex, hp, ax⟩ => hl F0 H0 s F1 H1 (a.grow g1) _ fun F2 H2 g2 => hh F0 H0 s F2 H2 (a.grow (g1.trans g2)) _ fun F3 H3 g3 =>
    have g := g1.trans (g2.trans g3)
    have s13 : Same F1 F3 := g2.f.trans g3.f
    ⟨p, xs, ex, SqL.of (g.i _ _ (s13 _ _ hp)), fun l hl => q l _ F3 _ (g.trans ((Gr.refl g.i).move hl (g.i.free hl))) (g.h.free hl) (g.i.free hl) upd_same (cut_all (ax.mono s13) lo hi)⟩
/-- x in (a, b) -/
theorem e_inT {x : Int} {ns : List Int} (ha : E G ta (Iv x)) (hb : E G tb (Tv (ns.map Iv))) : E G (tOp (rIn K false) ta tb) (Bv (inV (.int x) (ns.map V.int))) := e_op2 ha hb fun y z F H Q i hy ⟨p, xs, ez, hp, ax⟩ q => by
  have e := vals_int ax
  have hy : y = .int x := hy
  subst e hy
  exact ⟨p, _, ez, .inr (SqT.of (i _ _ hp)), rfl, by simp [flatV], q _ F H (Gr.refl i) rfl⟩
/-- list(range(n)) -/
theorem el_lrg {n : Int} (h : E G ta (Iv n)) (hn : -1000000 ≤ n ∧ n ≤ 1000000) : EL G (tLstRg (tRg1 ta)) ((List.range n.toNat).map fun i => Iv (i : Nat)) := fun F0 H0 s F H a Q q => h F0 H0 s F H a _ fun v F1 H1 g1 hv => by
  refine ⟨n, hv, ?_, fun l hl => q l _ F1 _ (g1.trans ((Gr.refl g1.i).move hl (g1.i.free hl))) (g1.h.free hl) (g1.i.free hl) upd_same ?_⟩
  · unfold RgOk
    refine ⟨by omega, by omega, by omega, by omega, ?_⟩
    exact Nat.le_trans (show (n - 0).toNat ≤ 1000000 by omega) (by decide)
  · have : rgV 0 n = ((List.range n.toNat).map fun i => V.int (i : Nat)) := by
      unfold rgV
      simp
    rw [this]
    generalize List.range n.toNat = l
    induction l with
    | nil => trivial
    | cons x l ih => exact ⟨rfl, ih⟩
/-- a <= b < c -/
theorem e_chain {f1 f2 : Int → Int → Bool} {m n k : Int} (ha : E G ta (Iv m)) (hb : E G tb (Iv n)) (hc : E G tl (Iv k)) : E G (tChain (rI0 fun i j => .bl (f1 i j)) (rI0 fun i j => .bl (f2 i j)) ta tb tl) (Bv (f1 m n && f2 n k)) := fun F0 H0 s F H a Q q =>
  ha F0 H0 s F H a _ fun x F1 H1 g1 hx => hb F0 H0 s F1 H1 (a.grow g1) _ fun y F2 H2 g2 hy => ⟨m, n, hx, hy, f1 m n, rfl, by
    cases e : f1 m n with
    | true => exact iteT (hc F0 H0 s F2 H2 (a.grow (g1.trans g2)) _ fun z F3 H3 g3 hz => ⟨n, k, hy, hz, q _ F3 H3 (g1.trans (g2.trans g3)) (by show V.bl _ = V.bl _; rw [e, Bool.true_and])⟩)
    | false => exact iteF (q _ F2 H2 (g1.trans g2) (by show V.bl _ = V.bl _; rw [e, Bool.false_and]))⟩
end

/-! ### promises -/
/-- a def that gives back what is so, and changes nothing -/
def spF {X : Type} (ps : X → List VP) (pre : X → Prop) (R : X → VP) : Sp := fun vs H Q _ => ∃ x F, pre x ∧ Same F H ∧ AllP (ps x) vs F ∧ ∀ v F' H', Gr F H F' H' → (R x).h v F' → Q v H'
def del (H : Hp) (p : Addr) : Hp := fun a => if a = p then none else H a
theorem del_same {H : Hp} {p : Addr} : del H p p = none := if_pos rfl
theorem del_ne {H : Hp} {p a : Addr} (h : a ≠ p) : del H p a = H a := if_neg h
theorem del_sub {H : Hp} {p : Addr} : Same (del H p) H := fun a o e => by
  unfold del at e
  split at e
  · cases e
  · exact e
/-- an __init__: the new instance gets such attributes -/
def spI {X : Type} (C : Addr) (ps : X → List VP) (pre : X → Prop) (fs : X → List (Str × VP)) : Sp := fun vs H Q _ => ∃ x F p dx args, pre x ∧ vs = .ref p :: args ∧ H p = some (.ins C dx []) ∧ F p = none ∧ Same F H ∧ AllP (ps x) args F ∧
  ∀ F' H' gs, Gr F (del H p) F' H' → F' p = none → H' p = some (.ins C dx gs) → FldP (fs x) gs F' → Q .non H'
section
variable {G : List SP} {te ta tb : TE} {t : TA} {P R : VP} {ps qs : List VP} {K : PySem.W.Frag} {C : Addr} {fs : List (Str × VP)}
theorem e_call {X : Type} {pf : X → List VP} {pre : X → Prop} {Rf : X → VP} (x : X) (hp : pre x) (h : A G t (pf x)) : E G (tCall (spF pf pre Rf) [] E0 t) (Rf x) := fun F0 H0 s F H a Q q => h F0 H0 s F H a _ fun vs F1 H1 g1 al =>
  ⟨x, F1, hp, g1.i, by rw [List.append_nil]; exact al, fun v F2 H2 g2 hv => q v F2 H2 (g1.trans g2) hv⟩
theorem e_meth {X : Type} {pf : X → List VP} {pre : X → Prop} {Rf : X → VP} {m : Str} (x : X) (hp : pre x) (ho : E G ta (Ov C fs)) (hm : fs.lookup m = none) (h : A G t qs) (e : pf x = Ov C fs :: qs) : E G (tMeth C m (spF pf pre Rf) [] E0 ta t) (Rf x) := fun F0 H0 s F H a Q q =>
  ho F0 H0 s F H a _ fun v F1 H1 g1 ⟨p, dx, gs, ev, hp1, hf⟩ => ⟨p, dx, gs, ev, g1.i _ _ hp1, hf.none hm, h F0 H0 s F1 H1 (a.grow g1) _ fun vs F2 H2 g2 al =>
    ⟨x, F2, hp, g2.i, by rw [List.append_nil, e]; exact ⟨⟨p, dx, gs, ev, g2.f _ _ hp1, hf.mono g2.f⟩, al⟩, fun v F3 H3 g3 hv => q v F3 H3 (g1.trans (g2.trans g3)) hv⟩⟩
theorem e_make {X : Type} {pf : X → List VP} {pre : X → Prop} {ff : X → List (Str × VP)} (x : X) (hp : pre x) (h : A G t (pf x)) : E G (tMake C (spI C pf pre ff) [] E0 t) (Ov C (ff x)) := fun F0 H0 s F H a Q q => h F0 H0 s F H a _ fun vs F1 H1 g1 al => by
  intro y dx hy hd ne
  have hF : F1 y = none := g1.i.free hy
  have s1 : Same H1 (del (upd (upd H1 dx (.own y)) y (.ins C dx [])) y) := fun b o e => by
    have nb := ne_of_none e hy
    rw [del_ne nb, upd_ne nb, upd_ne (ne_of_none e hd)]; exact e
  refine ⟨x, F1, y, dx, vs, hp, by rw [List.append_nil], upd_same, hF, ?_, al, fun F2 H2 gs g2 hF2 hy2 hf => ⟨rfl, ?_⟩⟩
  · exact fun b o e => del_sub _ _ (s1 b o (g1.i b o e))
  · have g3 : Gr F1 H1 F2 H2 := ⟨g2.f, s1.trans g2.h, g2.i, fun b n => g2.o b (Same.some s1 n)⟩
    exact q (.ref y) _ H2 (g1.trans (g3.fix hy hF2 hy2)) ⟨y, dx, gs, rfl, upd_same, hf.mono (fixS hF2)⟩
end
section
variable {Pg : Program} {w : World} {K : PySem.W.Frag} {mg : Str → Option Value} {base : Heap}
theorem sl_start {H0 F H : Hp} : ∀ {ps : List VP} {vs : List V} (n : Nat), AllP ps vs F → Sl H0 (ps.map im ++ List.replicate n any) (vs.map some ++ List.replicate n none) F H
  | [], [], 0, _ => trivial
  | [], [], n + 1, _ => ⟨trivial, sl_start (ps := []) (vs := []) n trivial⟩
  | P :: ps, v :: vs, n, h => ⟨⟨v, rfl, h.1⟩, sl_start n h.2⟩
  | [], _ :: _, _, h => h.elim
  | _ :: _, [], _, h => h.elim
theorem bot_no {H0 F H : Hp} {s : L2.St} (h : Sl H0 [bot] s F H) : False := by
  match s, h with
  | [_], h => exact h.1
  | [], h => exact h
  | _ :: _ :: _, h => exact h.1
/-- a def's promise from its body's -/
theorem fn_ty {X : Type} {pf : X → List VP} {pre : X → Prop} {Rf : X → VP} {x qual : Str} {st : Stmt} {f : Addr} {fd : FuncData} {N pn : List Str} {k : Nat} (Fn : Fun K x qual st f fd) (Sc : FnScope N pn (defScope st)) (hl : ∀ x, (pf x).length = pn.length)
    (hb : ∀ (cdv : Value) (Ar : Around) (outer : List Env) (s : Shared) (H : Hp) (E' : XK), Room k (Ar.deeper (envOfC qual (defScope st) s.heap.objs.size f cdv)) →
      ∃ t, PSs (cxOf CX0 Pg w K mg base N qual (defScope st) f cdv Ar outer s H E').nox (defBody st) t ∧ ∀ x, pre x → S ((pf x).map im ++ List.replicate (N.length - pn.length) any) t [bot] (Rf x)) : FnOk Pg w K mg base CX0 (k + 1) f fd pn (spF pf pre Rf) := by
  refine Fn.ok Sc (fun vs H Q E' h => ?_) fun cdv Ar outer s H vs Q E' hr h => ?_
  · obtain ⟨x, F, _, _, al, _⟩ := h
    rw [← al.length, hl]
  · obtain ⟨x, F, hp, sf, al, q⟩ := h
    obtain ⟨t, h1, h2⟩ := hb cdv Ar outer s H E' hr
    refine ⟨t, h1, ?_⟩
    refine h2 x hp F H _ _ F H ⟨Gr.refl sf, ?_⟩ (fun s' F' H' a => (bot_no a.s).elim) fun v F' H' g r => q v F' H' g r
    unfold L2.start
    rw [← al.length, hl]
    exact sl_start _ al
def Never : VP := ⟨fun _ _ => False, fun _ h => h⟩
/-- an __init__'s -/
theorem init_ty {X : Type} {C : Addr} {pf : X → List VP} {pre : X → Prop} {ff : X → List (Str × VP)} {x qual : Str} {st : Stmt} {f : Addr} {fd : FuncData} {N pn : List Str} {k : Nat} (Ge : Addr → Addr → X → List SP) (Fn : Fun K x qual st f fd) (Sc : FnScope N pn (defScope st)) (hl : ∀ x, (pf x).length + 1 = pn.length)
    (hge : ∀ p dx x, (Ge p dx x)[0]? = some (obj C p dx (ff x)))
    (hb : ∀ (cdv : Value) (Ar : Around) (outer : List Env) (s : Shared) (H : Hp) (E' : XK), Room k (Ar.deeper (envOfC qual (defScope st) s.heap.objs.size f cdv)) →
      ∃ t, PSs (cxOf CX0 Pg w K mg base N qual (defScope st) f cdv Ar outer s H E').nox (defBody st) t ∧ ∀ p dx x, pre x → S (obj C p dx [] :: ((pf x).map im ++ List.replicate (N.length - pn.length) any)) t (Ge p dx x) Never) : FnOk Pg w K mg base CX0 (k + 1) f fd pn (spI C pf pre ff) := by
  refine Fn.ok Sc (fun vs H Q E' h => ?_) fun cdv Ar outer s H vs Q E' hr h => ?_
  · obtain ⟨x, F, p, dx, args, _, rfl, _, _, _, al, _⟩ := h
    rw [List.length_cons, ← al.length, hl]
  · obtain ⟨x, F, p, dx, args, hp, rfl, hH, hF, sf, al, q⟩ := h
    obtain ⟨t, h1, h2⟩ := hb cdv Ar outer s H E' hr
    refine ⟨t, h1, ?_⟩
    refine h2 p dx x hp F (del H p) _ _ F H ⟨⟨Same.refl _, del_sub, sf, fun _ _ => rfl⟩, ?_⟩ (fun s' F' H' a => ?_) fun v F' H' g r => r.elim
    · unfold L2.start
      rw [List.length_cons, ← al.length, hl]
      exact ⟨⟨[], rfl, del_same, hF, hH, trivial⟩, sl_start _ al⟩
    · obtain ⟨o, _, gs, rfl, h0, hF', hp', hf⟩ := a.s.get (hge p dx x)
      exact q F' H' gs a.g hF' hp' hf
end
end Ty
end
section
set_option Elab.async false
set_option linter.all false
set_option maxRecDepth 100000
set_option maxHeartbeats 2000000
/-! Rules that the layer lacks: // and ** of great ints, a list's item for op=, slices with step 2, constants, a written dict with int keys -/
namespace Ty
open PySem PySem.Spec PyProof.Rows L2
def CDivX (_ j : Int) : Prop := j ≠ 0 ∧ j.natAbs.log2 < 9000
def CPowW (i j : Int) : Prop := 0 ≤ j ∧ (Builtin.Int.intBits i : Int) * j ≤ 2 ^ 27
section
variable {X : Cx}
theorem op_fdivX : OpR X (binaryOp .FloorDiv) (rI CDivX fun i j => .int (i.fdiv j)) := opI fun _ _ _ _ _ _ _ hc q => floordiv_int hc.1 q (.inl (PyProof.noPylong_of_log2 hc.2))
theorem op_powW : OpR X (binaryOp .Pow) (rI CPowW fun i j => .int (i ^ j.toNat)) := opI fun _ _ _ _ _ _ _ hc q => pow_int hc.1 hc.2 q
theorem get_list : PGet X (fun o i H Q => ∃ p xs k v, o = .ref p ∧ i = .int (k : Nat) ∧ SqL X.K H p xs ∧ xs[k]? = some v ∧ Q v H) := by
  intro pins s σ H o i ov iv Q I ro ri h
  obtain ⟨p, xs, k, v, rfl, rfl, hq, he, q⟩ := h
  cases ro
  obtain ⟨t, rfl⟩ := ri
  obtain ⟨its, r, pl, hz⟩ := I.list hq
  obtain ⟨w, ew, rw'⟩ := r.get he
  have hl := r.length
  have hk : k < xs.length := (List.getElem?_eq_some_iff.mp he).1
  have hn := line63
  exact wpAny_getItem_list pl.isList (by omega) (by omega) (by simpa using ew) ⟨v, H, I, rw', q⟩
theorem pe_cst {x : Str} {pos : Pos} {i : Int} (hg : Gl X x) (h : ∃ t, X.mg x = some (.int i t)) (hdb : (x == ("__debug__" : Str)) = false := by decide) : PE X (.Name x pos) (tC (.int i)) := by
  obtain ⟨t, h⟩ := h
  exact pe_glob hg h ⟨t, rfl⟩ hdb
theorem pe_rf {x : Str} {pos : Pos} {a : Addr} (hg : Gl X x) (h : X.mg x = some (.ref a)) (hdb : (x == ("__debug__" : Str)) = false := by decide) : PE X (.Name x pos) (tC (.ref a)) := pe_glob hg h rfl hdb
/-! a written dict with int keys -/
structure KDictI (K : PySem.W.Frag) (d : Addr) (fs : List (Int × Addr)) : Prop where
  ex : ∃ (es : Array DictEntry) (n : Nat), K.lookup d = some ⟨.type "dict", none, .dict es n, #[]⟩ ∧ (∀ e ∈ es.toList, ∃ i t, e.key = .int i t ∧ e.hash = hashInt i) ∧ ∀ i, (findBy Value.isInt es i) = (fs.lookup i).map Value.ref
  low : (d == sysModules) = false
theorem KDictI.map {K : PySem.W.Frag} {d : Addr} {fs : List (Int × Addr)} (D : KDictI K d fs) {P : Program} {w : World} {h : Heap} (kin : K.In h) : h.MapOf (PySem.intKind P w) d (fun i => (fs.lookup i).map Value.ref) := by
  obtain ⟨es, n, hl, hk, hf⟩ := D.ex
  exact ⟨_, es, n, kin _ _ hl, ⟨rfl, rfl, rfl⟩, rfl, fun e he => by
    obtain ⟨i, t, e1, e2⟩ := hk e (Array.mem_toList_iff.mpr he)
    exact ⟨i, by rw [e1]; simp [PySem.intKind, Value.isInt], e2⟩, hf⟩
def rInI (d : Addr) (fs : List (Int × Addr)) : R2 := fun x y H Q => ∃ i, x = .int i ∧ y = .ref d ∧ Q (.bl (fs.lookup i).isSome) H
theorem op_in_kdi {d : Addr} {fs : List (Int × Addr)} (D : KDictI X.K d fs) : OpR X (compareOp .In) (rInI d fs) := by
  intro pins s σ H x y v u Q I rx ry h
  obtain ⟨i, rfl, rfl, q⟩ := h
  obtain ⟨t, rfl⟩ := rx
  cases ry
  refine wpAny_in_of (knd := PySem.intKind X.prog X.w) (k := i) (by simp [PySem.intKind, Value.isInt]) D.low (D.map I.kIn) ?_
  refine ⟨.bl (fs.lookup i).isSome, H, I.tok _, ?_, q⟩
  show Value.bool _ = Value.bool _
  rw [Option.isSome_map]
def rIxI (d : Addr) (fs : List (Int × Addr)) : R2 := fun x y H Q => ∃ i a, x = .ref d ∧ y = .int i ∧ fs.lookup i = some a ∧ Q (.ref a) H
theorem ix_kdi {d : Addr} {fs : List (Int × Addr)} (D : KDictI X.K d fs) : IxR X (rIxI d fs) := by
  intro value slice pins s σ H x y v u Q I rx ry h hs
  obtain ⟨i, a, rfl, rfl, e, q⟩ := h
  cases rx
  obtain ⟨t, rfl⟩ := ry
  have hm := D.map (P := X.prog) (w := X.w) I.kIn
  exact tail_any hm.typeIs slot_dict_getitem.lookup (wpAny_getItem_of (knd := PySem.intKind X.prog X.w) (k := i) (by simp [PySem.intKind, Value.isInt]) hm (by rw [e]; rfl) ⟨.ref a, H, I.tok _, rfl, q⟩) hs
/-! slices with the step 2 of short lists -/
theorem pick2 (its : List Value) (h : its.length ≤ 3) : slicePick its.toArray none none (some 2) = (evens its).toArray ∧ slicePick its.toArray (some 1) none (some 2) = (evens its.tail).toArray := by
  have m0 : max 0 (min 1 (0 : Int)) = 0 := by decide
  have m1 : max 0 (min 1 (1 : Int)) = 1 := by decide
  have m2 : max 0 (min 1 (2 : Int)) = 1 := by decide
  have m3 : max 0 (min 1 (3 : Int)) = 1 := by decide
  have m4 : max 0 (1 : Int) = 1 := by decide
  match its, h with
  | [], _ => constructor <;> simp [slicePick, sliceBounds, sliceRange, evens, m0, m1, m2, m3, m4, List.range_succ]
  | [a], _ => constructor <;> simp [slicePick, sliceBounds, sliceRange, evens, m0, m1, m2, m3, m4, List.range_succ]
  | [a, b], _ => constructor <;> simp [slicePick, sliceBounds, sliceRange, evens, m0, m1, m2, m3, m4, List.range_succ]
  | [a, b, c], _ => constructor <;> simp [slicePick, sliceBounds, sliceRange, evens, m0, m1, m2, m3, m4, List.range_succ]
  | _ :: _ :: _ :: _ :: _, h => simp at h
theorem vals_evens : ∀ {xs : List V} {us : List Value}, Vals xs us → Vals (evens xs) (evens us)
  | [], _, .nil => .nil
  | [_], _, .cons r .nil => .cons r .nil
  | _ :: _ :: xs, _, .cons r (.cons _ t) => .cons r (vals_evens t)
theorem vals_tail : ∀ {xs : List V} {us : List Value}, Vals xs us → Vals xs.tail us.tail
  | [], _, .nil => .nil
  | _ :: _, _, .cons _ t => t
def tStp (K : PySem.W.Frag) (te : TE) (tl : TO) : TE := fun σ H Q => te σ H fun x H1 => tl σ H1 fun lo H2 => (lo = none ∨ lo = some 1) ∧ ∃ a xs, x = .ref a ∧ SqL K H2 a xs ∧ xs.length ≤ 3 ∧ ∀ p, H2 p = none → Q (.ref p) (upd H2 p (.lst (stp lo xs)))
theorem pe_step2 {e : Expr} {te : TE} {tl : TO} {lo : Option Expr} {k : Nat} {p1 p3 pos : Pos} (he : PE X e te) (hlo : PO X lo tl) : PE X (.Subscript e (.Slice lo none (some (.Constant (.int 2) k p1)) p3) pos) (tStp X.K te tl) := by
  refine ⟨fun pins s σ H Q I h => ?_⟩
  refine Subscript_ (thn (he.run pins s σ H _ I h) fun v s1 ⟨x, H1, I1, r1, q1⟩ => ?_)
  have hst : PO X (some (.Constant (.int 2) k p1)) (tPart (tC (.int 2))) := po_some pe_int
  refine wpAny_Slice (thn (hlo.run pins s1 σ H1 _ I1 q1) fun vl s2 ⟨l, H2, I2, pl, q2⟩ => ?_)
  refine thn (po_none.run pins s2 σ H2 (fun o H3 => o = none ∧ H3 = H2) I2 ⟨rfl, rfl⟩) fun vu s3 ⟨u, H3, I3, pu, eu, e3⟩ => ?_
  subst eu e3
  refine thn (hst.run pins s3 σ H3 (fun o H4 => o = some 2 ∧ H4 = H3) I3 ⟨2, rfl, rfl, rfl⟩) fun vs s4 ⟨o, H4, I4, ps, eo, e4⟩ => ?_
  subst eo e4
  obtain ⟨hl12, a, xs, ex, hx, h3, q⟩ := q2
  subst ex
  cases r1
  have I5 : Inv X pins σ H4 { s4 with heap := s4.heap.push { cls := .type "slice", data := .fields #[vl, vu, vs] } } := I4.kept (t' := s4.toks) fun b ob q => Heap.get?_push_of_some _ q
  obtain ⟨its, r, ht, hz⟩ := I5.list hx
  have hlen := r.length
  refine tail_any (ops := [.ref a, .ref s4.heap.objs.size]) ht.isList.typeIs (PySem.slot_list_getitem.lookup) ?_ (by with_unfolding_all rfl)
  refine wpAny_getItem_list_slice ht.isList (Heap.IsSliceOf.new _ vl vu vs) pl pu ps (by decide) ?_ (by rw [List.size_toArray]; omega)
  obtain ⟨p1, p2⟩ := pick2 its (by omega)
  have hev : ∀ {α : Type} (l : List α), l.length ≤ 3 → (evens l).length ≤ 3 := fun l h => by
    match l, h with
    | [], _ => exact Nat.zero_le _
    | [a], _ => exact (by show 1 ≤ 3; decide)
    | [a, b], _ => exact (by show 1 ≤ 3; decide)
    | [a, b, c], _ => exact (by show 2 ≤ 3; decide)
    | _ :: _ :: _ :: _ :: _, h => simp at h
  have big : (3 : Nat) ≤ sizeLine := by decide
  rcases hl12 with rfl | rfl
  · rw [p1]
    refine ⟨.ref _, _, I5.laid (t' := s4.toks) (o := .lst (evens xs)) (fun b ob q => Heap.get?_push_of_some _ q) (Nat.le_refl _) ?_, rfl, q _ (I5.hok.fresh (Nat.le_refl _))⟩
    exact ⟨Nat.le_trans (hev xs h3) big, _, 0, vals_evens r, Heap.get?_push_size _ rfl⟩
  · rw [p2]
    refine ⟨.ref _, _, I5.laid (t' := s4.toks) (o := .lst (evens xs.tail)) (fun b ob q => Heap.get?_push_of_some _ q) (Nat.le_refl _) ?_, rfl, q _ (I5.hok.fresh (Nat.le_refl _))⟩
    exact ⟨Nat.le_trans (hev xs.tail (by simp; omega)) big, _, 0, vals_evens (vals_tail r), Heap.get?_push_size _ rfl⟩
end
section
variable {G : List SP} {te ta tb : TE} {tl : TO} {P : VP} {ps : List VP} {K : PySem.W.Frag}
theorem all_evens : ∀ {ps : List VP} {xs : List V} {F : Hp}, AllP ps xs F → AllP (evens ps) (evens xs) F
  | [], [], _, _ => trivial
  | [_], [_], _, h => h
  | _ :: _ :: _, _ :: _ :: _, _, h => ⟨h.1, all_evens h.2.2⟩
  | [], _ :: _, _, h => h.elim
  | _ :: _, [], _, h => h.elim
  | [_], _ :: _ :: _, _, h => h.2.elim
  | _ :: _ :: _, [_], _, h => h.2.elim
theorem all_tail : ∀ {ps : List VP} {xs : List V} {F : Hp}, AllP ps xs F → AllP ps.tail xs.tail F
  | [], [], _, _ => trivial
  | _ :: _, _ :: _, _, h => h.2
  | [], _ :: _, _, h => h.elim
  | _ :: _, [], _, h => h.elim
theorem el_stp {lo : Option Int} (h : E G te (Lv ps)) (hl : PartO G tl lo) (h1 : lo = none ∨ lo = some 1) (h3 : ps.length ≤ 3) : EL G (tStp K te tl) (stp lo ps) := fun F0 H0 s F H a Q q =>
  h F0 H0 s F H a _ fun v F1 H1 g1 ⟨p, xs, ex, hp, ax⟩ => hl F0 H0 s F1 H1 (a.grow g1) _ fun F2 H2 g2 =>
    have g := g1.trans g2
    ⟨h1, p, xs, ex, SqL.of (g.i _ _ (g2.f _ _ hp)), by rw [← ax.length]; exact h3, fun l hl => q l _ F2 _ (g.trans ((Gr.refl g.i).move hl (g.i.free hl))) (g.h.free hl) (g.i.free hl) upd_same (by
      have ax2 := ax.mono g2.f
      unfold stp
      split
      · exact all_evens ax2
      · exact all_evens (all_tail ax2))⟩
theorem e_intN (k : Nat) : E G (tC (.int (k : Int))) (Iv (k : Int)) := e_int _
theorem e_lt {m n : Int} (ha : E G ta (Iv m)) (hb : E G tb (Iv n)) : E G (tOp (rI0 fun i j => .bl (decide (i < j))) ta tb) (Bv (decide (m < n))) := e_I0 ha hb fun _ => rfl
theorem e_le {m n : Int} (ha : E G ta (Iv m)) (hb : E G tb (Iv n)) : E G (tOp (rI0 fun i j => .bl (decide (i ≤ j))) ta tb) (Bv (decide (m ≤ n))) := e_I0 ha hb fun _ => rfl
theorem e_gt {m n : Int} (ha : E G ta (Iv m)) (hb : E G tb (Iv n)) : E G (tOp (rI0 fun i j => .bl (decide (j < i))) ta tb) (Bv (decide (n < m))) := e_I0 ha hb fun _ => rfl
theorem e_ge {m n : Int} (ha : E G ta (Iv m)) (hb : E G tb (Iv n)) : E G (tOp (rI0 fun i j => .bl (decide (j ≤ i))) ta tb) (Bv (decide (n ≤ m))) := e_I0 ha hb fun _ => rfl
theorem e_fdivX {m n : Int} (hc : CDivX m n) (ha : E G ta (Iv m)) (hb : E G tb (Iv n)) : E G (tOp (rI CDivX fun i j => .int (i.fdiv j)) ta tb) (Iv (m.fdiv n)) := e_I ha hb hc fun _ => rfl
theorem e_mod {m n : Int} (hc : n ≠ 0) (ha : E G ta (Iv m)) (hb : E G tb (Iv n)) : E G (tOp (rI (fun _ j => j ≠ 0) fun i j => .int (i.fmod j)) ta tb) (Iv (m.fmod n)) := e_I ha hb hc fun _ => rfl
theorem e_pow2 {m : Int} (hc : CPowW m 2) (ha : E G ta (Iv m)) (hb : E G tb (Iv 2)) : E G (tOp (rI CPowW fun i j => .int (i ^ j.toNat)) ta tb) (Iv (m * m)) := e_I ha hb hc fun _ => by
  show V.int (m ^ 2) = V.int (m * m)
  rw [Int.pow_succ, Int.pow_succ, Int.pow_zero, Int.one_mul]
end
def rLenQ (K : PySem.W.Frag) : List V → Hp → VK → Prop := fun xs H Q => ∃ p ys, xs = [.ref p] ∧ (SqL K H p ys ∨ SqT K H p ys) ∧ Q (.int ys.length) H
def rListQ (K : PySem.W.Frag) : List V → Hp → VK → Prop := fun xs H Q => ∃ p ys, xs = [.ref p] ∧ (SqL K H p ys ∨ SqT K H p ys) ∧ ∀ l, H l = none → Q (.ref l) (upd H l (.lst ys))
def rAbsQ : List V → Hp → VK → Prop := fun xs H Q => ∃ i, xs = [.int i] ∧ Q (.int (if i < 0 then -i else i)) H
def lcS : Expr → Scope
  | .ListComp _ _ s _ => s
  | _ => { kind := .function, names := [], isGenerator := false, isCoroutine := false }
end Ty
end
section
set_option Elab.async false
set_option linter.all false
set_option maxRecDepth 100000
set_option maxHeartbeats 2000000
/-! Comprehensions and loops over lists by their items -/
namespace Ty
open PySem PySem.Spec PyProof.Rows L2
theorem nth_map {α : Type} {f : α → VP} {l : List α} {i : Nat} {d : α} (h : i < l.length) : nth (l.map f) i = f (l.getD i d) := by
  unfold nth
  rw [List.getD_eq_getElem?_getD, List.getElem?_map, List.getD_eq_getElem?_getD, List.getElem?_eq_getElem h]; rfl
theorem map_range {α β : Type} (f : α → β) (d : α) (l : List α) : (List.range l.length).map (fun i => f (l.getD i d)) = l.map f := by
  refine List.ext_getElem (by simp) fun i h1 h2 => ?_
  have : i < l.length := by simpa using h2
  simp [List.getElem?_eq_getElem this]
theorem zip_range {α β γ : Type} (f : α → β → γ) (d : α) (e : β) (a : List α) (b : List β) : (List.range (min a.length b.length)).map (fun i => f (a.getD i d) (b.getD i e)) = List.zipWith f a b := by
  refine List.ext_getElem (by simp) fun i h1 h2 => ?_
  have : i < min a.length b.length := by simpa using h1
  have h3 : i < a.length := by omega
  have h4 : i < b.length := by omega
  simp [List.getElem?_eq_getElem h3, List.getElem?_eq_getElem h4]
theorem getD_mem {α : Type} {l : List α} {i : Nat} {d : α} (h : i < l.length) : l.getD i d ∈ l := by
  rw [List.getD_eq_getElem?_getD, List.getElem?_eq_getElem h]; exact List.getElem_mem h
section
variable {G G1 G2 : List SP} {te elt : TE} {tt : TT} {t : TA} {P R : VP} {ps qs : List VP} {K : PySem.W.Frag} {ts : TS} {i j k : Nat} {vs : List Nat} {α β : Type}
theorem W.eq {wi : TI} {n n' : Nat} {Ps Ps' : Nat → VP} (h : W G wi n Ps) (e : n = n') (ep : ∀ i, i < n → Ps i = Ps' i) : W G wi n' Ps' := fun F0 H0 s F H a R r => h F0 H0 s F H a R fun J F' H' g wk => by
  subst e
  exact r J F' H' g ⟨wk.goes, wk.stops, fun i F H x H' hi s1 s2 y => by rw [← ep i hi]; exact wk.yields i F H x H' hi s1 s2 y⟩
theorem w_listM {f : α → VP} {l : List α} (d : α) (h : E G te (Lv (l.map f))) : W G (iList K te) l.length (fun i => f (l.getD i d)) :=
  (w_list h).eq (by simp) fun i hi => nth_map (by simpa using hi)
theorem w_zipM {f : α → VP} {g : β → VP} {a : List α} {b : List β} (d : α) (e : β) (h : A G t [Lv (a.map f), Lv (b.map g)]) : W G (iZip K t) (min a.length b.length) (fun i => Tv [f (a.getD i d), g (b.getD i e)]) :=
  (w_zip h).eq (by simp) fun i hi => by
    have : i < min a.length b.length := by simpa using hi
    rw [nth_map (d := d) (by omega), nth_map (d := e) (by omega)]
theorem w_enumM {f : α → VP} {l : List α} (d : α) (h : A G t [Lv (l.map f)]) : W G (iEnum K t) l.length (fun i => Tv [Iv (i : Nat), f (l.getD i d)]) :=
  (w_enum h).eq (by simp) fun i hi => by rw [nth_map (d := d) (by simpa using hi)]
/-- [elt for x in l] -/
theorem el_mapM {f h : α → VP} {l : List α} (he : E G te (Lv (l.map f))) (hz : l.length ≤ 1000000) (hj : j ∈ vs) (hb : ∀ x ∈ l, E ((wipeG G vs).set j (im (f x))) elt (h x)) : EL G (tLc (iList K te) (gName j) tYes elt vs) (l.map h) := by
  by_cases c : l = []
  · subst c
    exact el_map (Ps := fun _ => Any) (Qs := fun _ => Any) ((w_list he).eq rfl fun i hi => absurd hi (Nat.not_lt_zero _)) (by simp) (fun i hi => absurd hi (Nat.not_lt_zero _)) (Gi := fun _ => []) fun i hi => absurd hi (Nat.not_lt_zero _)
  · obtain ⟨d, hd⟩ := List.exists_mem_of_ne_nil _ c
    rw [← map_range h d l]
    exact el_map (w_listM d he) hz (fun i _ => tg_name hj) fun i hi => hb _ (getD_mem hi)
/-- [elt for x in l if test] -/
theorem el_filM {f h : α → VP} {l : List α} (p : α → Bool) (he : E G te (Lv (l.map f))) (hz : l.length ≤ 1000000) (hj : j ∈ vs) (ht : ∀ x ∈ l, T ((wipeG G vs).set j (im (f x))) tt (p x)) (hb : ∀ x ∈ l, p x = true → E ((wipeG G vs).set j (im (f x))) elt (h x)) : EL G (tLc (iList K te) (gName j) tt elt vs) ((l.filter p).map h) := by
  by_cases c : l = []
  · subst c
    exact el_lc (Ps := fun _ => Any) (Qs := fun _ => Any) (fun _ => true) ((w_list he).eq rfl fun i hi => absurd hi (Nat.not_lt_zero _)) (by simp) (fun i hi => absurd hi (Nat.not_lt_zero _)) (Gi := fun _ => []) (fun i hi => absurd hi (Nat.not_lt_zero _)) fun i hi => absurd hi (Nat.not_lt_zero _)
  · obtain ⟨d, hd⟩ := List.exists_mem_of_ne_nil _ c
    have e : (l.filter p).map h = ((List.range l.length).filter fun i => p (l.getD i d)).map fun i => h (l.getD i d) := by
      conv => lhs; rw [← map_range (fun x => x) d l |>.trans (List.map_id' l)]
      rw [List.filter_map, List.map_map]; rfl
    rw [e]
    exact el_lc (fun i => p (l.getD i d)) (w_listM d he) hz (fun i _ => tg_name hj) (fun i hi => ht _ (getD_mem hi)) fun i hi hp => hb _ (getD_mem hi) hp
/-- [elt for x, y in zip(a, b)] -/
theorem el_zipM {f : α → VP} {g : β → VP} {h : α → β → VP} {a : List α} {b : List β} (he : A G t [Lv (a.map f), Lv (b.map g)]) (hz : min a.length b.length ≤ 1000000) (hj : j ∈ vs) (hk : k ∈ vs)
    (hb : ∀ x ∈ a, ∀ y ∈ b, E (((wipeG G vs).set j (im (f x))).set k (im (g y))) elt (h x y)) : EL G (tLc (iZip K t) (gTup K 2 (gCons (gName j) (gCons (gName k) gNil))) tYes elt vs) (List.zipWith h a b) := by
  by_cases c : min a.length b.length = 0
  · have : List.zipWith h a b = [] := List.eq_nil_of_length_eq_zero (by rw [List.length_zipWith]; exact c)
    rw [this]
    exact el_map (Ps := fun _ => Any) (Qs := fun _ => Any) ((w_zip he).eq (n' := 0) (by rw [List.length_map, List.length_map]; exact c) fun i hi => absurd hi (by rw [List.length_map, List.length_map, c]; exact Nat.not_lt_zero _)) (by decide) (fun i hi => absurd hi (Nat.not_lt_zero _)) (Gi := fun _ => []) fun i hi => absurd hi (Nat.not_lt_zero _)
  · obtain ⟨d, hd⟩ := List.exists_mem_of_ne_nil a (by intro q; subst q; simp at c)
    obtain ⟨e, he2⟩ := List.exists_mem_of_ne_nil b (by intro q; subst q; simp at c)
    rw [← zip_range h d e a b]
    exact el_map (w_zipM d e he) hz (fun i _ => tg_pair hj hk) fun i hi => hb _ (getD_mem (by omega)) _ (getD_mem (by omega))
/-- [elt for x in range(m)] -/
theorem el_rngM {m : Nat} {h : Nat → VP} (he : A G t [Iv (m : Nat)]) (hz : m ≤ 1000000) (hj : j ∈ vs) (hb : ∀ i, i < m → E ((wipeG G vs).set j (im (Iv (i : Nat)))) elt (h i)) : EL G (tLc (iRng1 t) (gName j) tYes elt vs) ((List.range m).map h) :=
  el_map ((w_rng1 he (by omega)).eq (n' := m) (by simp) fun _ _ => rfl) hz (fun i _ => tg_name hj) hb
/-- a for over a list: the slots behind the items so far -/
theorem s_forM {f : α → VP} {l : List α} (inv : Nat → List SP) (he : E G te (Lv (l.map f))) (h0 : Sub G (inv 0)) (hb : ∀ i x, l[i]? = some x → S ((inv i).set j (im (f x))) ts (inv (i + 1)) R) : S G (tFor (iList K te) (gName j) ts) (inv l.length) R := by
  by_cases c : l = []
  · subst c
    exact s_for inv ((w_list he).eq rfl fun i hi => absurd hi (Nat.not_lt_zero _)) h0 (Ps := fun _ => Any) (Gi := fun _ => []) (fun i hi => absurd hi (Nat.not_lt_zero _)) fun i hi => absurd hi (Nat.not_lt_zero _)
  · obtain ⟨d, hd⟩ := List.exists_mem_of_ne_nil _ c
    exact s_for inv (w_listM d he) h0 (fun i _ => .inr ⟨[j], tg_name (by simp)⟩) fun i hi => hb i _ (by rw [List.getD_eq_getElem?_getD, List.getElem?_eq_getElem hi]; rfl)
theorem s_forR {m : Nat} (inv : Nat → List SP) (he : A G t [Iv (m : Nat)]) (hz : m ≤ 1000000) (h0 : Sub G (inv 0)) (hb : ∀ i, i < m → S ((inv i).set j (im (Iv (i : Nat)))) ts (inv (i + 1)) R) : S G (tFor (iRng1 t) (gName j) ts) (inv m) R :=
  s_for inv ((w_rng1 he (by omega)).eq (n' := m) (by simp) fun _ _ => rfl) h0 (fun i _ => .inr ⟨[j], tg_name (by simp)⟩) hb
theorem s_forZ {f : α → VP} {g : β → VP} {a : List α} {b : List β} (inv : Nat → List SP) (he : A G t [Lv (a.map f), Lv (b.map g)]) (h0 : Sub G (inv 0))
    (hb : ∀ i x y, a[i]? = some x → b[i]? = some y → S (((inv i).set j (im (f x))).set k (im (g y))) ts (inv (i + 1)) R) : S G (tFor (iZip K t) (gTup K 2 (gCons (gName j) (gCons (gName k) gNil))) ts) (inv (min a.length b.length)) R := by
  by_cases c : min a.length b.length = 0
  · rw [c]
    exact s_for inv ((w_zip he).eq (n' := 0) (by rw [List.length_map, List.length_map]; exact c) fun i hi => absurd hi (by rw [List.length_map, List.length_map, c]; exact Nat.not_lt_zero _)) h0 (Ps := fun _ => Any) (Gi := fun _ => []) (fun i hi => absurd hi (Nat.not_lt_zero _)) fun i hi => absurd hi (Nat.not_lt_zero _)
  · obtain ⟨d, hd⟩ := List.exists_mem_of_ne_nil a (by intro q; subst q; simp at c)
    obtain ⟨e, he2⟩ := List.exists_mem_of_ne_nil b (by intro q; subst q; simp at c)
    exact s_for inv (w_zipM d e he) h0 (fun i _ => .inr ⟨[j, k], tg_pair (by simp) (by simp)⟩) fun i hi => hb i _ _ (by rw [List.getD_eq_getElem?_getD, List.getElem?_eq_getElem (by omega)]; rfl) (by rw [List.getD_eq_getElem?_getD, List.getElem?_eq_getElem (by omega)]; rfl)
theorem s_forE {f : α → VP} {l : List α} (inv : Nat → List SP) (he : A G t [Lv (l.map f)]) (h0 : Sub G (inv 0)) (hb : ∀ i x, l[i]? = some x → S (((inv i).set j (im (Iv (i : Nat)))).set k (im (f x))) ts (inv (i + 1)) R) :
    S G (tFor (iEnum K t) (gTup K 2 (gCons (gName j) (gCons (gName k) gNil))) ts) (inv l.length) R := by
  by_cases c : l = []
  · subst c
    exact s_for inv ((w_enum he).eq rfl fun i hi => absurd hi (Nat.not_lt_zero _)) h0 (Ps := fun _ => Any) (Gi := fun _ => []) (fun i hi => absurd hi (Nat.not_lt_zero _)) fun i hi => absurd hi (Nat.not_lt_zero _)
  · obtain ⟨d, hd⟩ := List.exists_mem_of_ne_nil _ c
    exact s_for inv (w_enumM d he) h0 (fun i _ => .inr ⟨[j, k], tg_pair (by simp) (by simp)⟩) fun i hi => hb i _ (by rw [List.getD_eq_getElem?_getD, List.getElem?_eq_getElem hi]; rfl)
/-- [elt for i, x in enumerate(l) if test] -/
theorem el_enumF {f : α → VP} {h : Nat → VP} {l : List α} (d : α) (p : Nat → Bool) (he : A G t [Lv (l.map f)]) (hz : l.length ≤ 1000000) (hj : j ∈ vs) (hk : k ∈ vs)
    (ht : ∀ i, i < l.length → T (((wipeG G vs).set j (im (Iv (i : Nat)))).set k (im (f (l.getD i d)))) tt (p i)) (hb : ∀ i, i < l.length → E (((wipeG G vs).set j (im (Iv (i : Nat)))).set k (im (f (l.getD i d)))) elt (h i)) :
    EL G (tLc (iEnum K t) (gTup K 2 (gCons (gName j) (gCons (gName k) gNil))) tt elt vs) (((List.range l.length).filter p).map h) :=
  el_lc p (w_enumM d he) hz (fun i _ => tg_pair hj hk) ht fun i hi _ => hb i hi
theorem q_for {wi : TI} {g : TG} {tw : TS} (h : S G (tFor wi g ts) G1 R) (k : S G1 tw G2 R) : S G (tSeq (tFor wi g ts) tw) G2 R := s_seq h k
end
end Ty
end
section
set_option Elab.async false
set_option linter.all false
set_option maxRecDepth 100000
set_option maxHeartbeats 2000000
/-! Dicts whose keys are tuples: setdefault, list(d.values()) -/
namespace Ty
open PySem PySem.Spec PyProof.Rows L2
def rDsetT : V → List V → Hp → VK → Prop := fun x vs H Q => ∃ d b l kvs k, x = .ref d ∧ vs = [.ref b, l] ∧ H d = some (.dT kvs) ∧ H b = some (.tup (k.map kV)) ∧ kvs.length < sizeLine ∧ (∀ v, valV kvs k = some v → Q v H) ∧ (valV kvs k = none → Q l (upd H d (.dT (putK kvs k l))))
section
variable {X : Cx}
theorem mt_dsetdT (hu : X.A.units + 1 < cLine) : MtM X "dict.setdefault" rDsetT := by
  intro pins s σ H x vs v us Q I rx rv h
  obtain ⟨d, b, l, kvs, k, rfl, rfl, hd, hb, hz, h1, h2⟩ := h
  cases rx
  obtain ⟨u1, u2, rfl, r1, r2⟩ := rv.two
  cases (show u1 = Value.ref b from r1)
  obtain ⟨z, hsm, xs, rel, dd⟩ := dt_of I.hok hd
  have hzx : xs.length ≤ sizeLine := by rw [← Paired.length rel]; exact z
  refine call_setdefault_heap (tupleKind_room_in1 hu) (key_of I.hok hb) hsm dd (fun p hp => ?_) (fun hn h' dd' hs => ?_) hzx
  · have rk := rel.val k
    rw [hp] at rk
    cases e : valV kvs k with
    | none => rw [e] at rk; exact rk.elim
    | some v =>
      rw [e] at rk
      exact ⟨v, H, I.tok _, rk, h1 v e⟩
  · have rk := rel.val k
    rw [hn] at rk
    have e : valV kvs k = none := by
      cases e : valV kvs k with
      | none => rfl
      | some v => rw [e] at rk; exact rk.elim
    refine ⟨l, _, ?_, r2, h2 e⟩
    have hl : (putK kvs k l).length ≤ sizeLine := by have := length_putK kvs k l; omega
    obtain ⟨q, es, ep, hq, g2, g3, g4, _, g5⟩ := dd'
    refine d_write I (by rw [hd]; exact True.intro) hs ⟨q, hq⟩ ⟨hl, hsm, _, (rel.put k hb r2).keeps fun c ys ec => ?_, q, es, ep, hq, g2, g3, g4, g5⟩
    rw [upd_ne (ne_of ec hd (fun z => nomatch z))]
    exact ec
theorem meetsVals {prog : Program} {w : World} {d : Addr} {es : Array DictEntry} {ep : Nat} (hd : (d == sysModules) = false) :
    MeetsIn prog w (Builtin.«dict.values» ⟨[.ref d], []⟩) (fun _ R s => DT.Raw s.heap d es ep ∧
      R (.ok (.ret (.ref s.heap.objs.size))) { s with heap := s.heap.push { cls := .type "dict_values", data := .fields #[.ref d] } }) :=
  .of_wp fun A R s ⟨hm, h⟩ => by
    refine wpAny_bind ?_
    unfold Builtin.Dict.noArgs
    refine wpAny_bind (wpAny_notOrdered_dict hm.typeIs ?_)
    show wpAny _ _ (pure d) _ _ s
    refine wpAny_pure ?_
    show wpAny _ _ (Builtin.Dict.showsAll d >>= _) _ _ s
    unfold Builtin.Dict.showsAll
    rw [if_neg (by rw [hd]; exact Bool.false_ne_true)]
    refine wpAny_bind (wpAny_pure ?_)
    exact wpAny_bind (wpAny_newObj_type (wpAny_pure ⟨_, rfl, h⟩))
theorem kdl_valsR {prog : Program} {w : World} {r d : Addr} {ob : Obj} {es : Array DictEntry} {ep : Nat} (hdd : ob.data = .dict es ep) : PySem.W.KdlSrc prog w "dict_values" r d es.size (fun i v => ∃ e, es[i]? = some e ∧ v = e.val) (fun h => h.get? r = some (DSub.viewOb "dict_values" d) ∧ h.get? d = some ob) where
  type := fun _ hm => ⟨_, hm.1, rfl⟩
  there := fun _ hm => ⟨Heap.lt_size hm.1, Heap.lt_size hm.2⟩
  keep := fun _ _ hm hk => ⟨hk r (.inl rfl) _ hm.1, hk d (.inr rfl) _ hm.2⟩
  notList := by decide
  notTuple := by decide
  hint := fun _ _ _ _ hm hq => PySem.W.kdl_hint_values ⟨_, hm.1, rfl⟩ hq
  iter := fun _ _ hh hm => ⟨_, _, (fun _ _ hq => DSub.iter_vals hm.1 hm.2 hdd hq), DSub.walksVal hh (Nat.ne_of_lt (Heap.lt_size hm.2)) hdd (fun i e he => ⟨e, he, rfl⟩), ⟨Heap.get?_push_size _ rfl, Heap.get?_push_of_some _ hm.2⟩⟩
/-- list(o.values()) -/
def tListVals (td : TE) : TE := fun σ H Q => td σ H fun x H1 => ∃ a kvs, x = V.ref a ∧ H1 a = some (.dT kvs) ∧ ∀ p, H1 p = none → Q (.ref p) (upd H1 p (.lst (kvs.map (·.2))))
theorem kt_vals {H : Hp} : ∀ {kvs : List (List Key × V)} {xs : List (List Key × Addr × Value)}, KT H kvs xs → Vals (kvs.map (·.2)) (xs.map fun x => x.2.2)
  | [], _, .nil => .nil
  | _ :: _, _, .cons r t => .cons r.2.2 (kt_vals t)
variable {o : Expr} {p pos apos mpos : Pos} {td : TE}
theorem pe_listVals (hc : X.calm = true) (hg : Gl X "list") (hm : X.mg "list" = none) (hd : PE X o td) (hbase : attributeBase o "values" X.env (eval o X.env) = eval o X.env := by rfl) (hline : (apos.endLine == mpos.line) = true := by rfl)
    (hse : starEach [Expr.Call (.Attribute o "values" apos) [] [] mpos] X.env = [(false, eval (Expr.Call (.Attribute o "values" apos) [] [] mpos) X.env)] := by rfl) :
    PE X (.Call (.Name "list" p) [.Call (.Attribute o "values" apos) [] [] mpos] [] pos) (tListVals td) := by
  refine ⟨fun pins s σ H Q I h => ?_⟩
  refine wpAny_Call_Name_kw (ld_blt I hg hm (u := .type "list") (by first | rfl | decide +kernel) ?_ (by first | decide +kernel | decide) (by first | decide +kernel | decide))
  rw [hse]
  refine PySem.callWith_type1 (wpAny_Call_method0_late hbase hline (thn (hd.run pins s σ H _ I h) fun v s1 ⟨x, H1, I1, r1, a, kvs, ex, ha, q⟩ => ?_))
  subst ex
  obtain rfl : v = Value.ref a := r1
  obtain ⟨z, hsys, xs, rel, dof⟩ := dt_of I1.hok ha
  obtain ⟨ob, es, ep, ho, ex, hdat, hes, _, _⟩ := dof
  refine ⟨"dict", "dict.values", F.plainAttrs_dict, F.slot_dict_values, F.type_dict_values, ⟨ob, ho, ex.1⟩, fun b e => ?_, Calls.callWith_builtin rfl (PySem.evalArgs_none ?_)⟩
  · cases e
    exact ⟨ob, ho, ex.2.1⟩
  refine call_meetsIn F.slot_dict_values ⟨ob, ho, ex.1⟩ F.entry_dict_values (F.args_dict_values_1 _) (meetsVals (es := es) (ep := ep) hsys) ⟨⟨ob, ho, ex, hdat⟩, ?_⟩
  have k1 : ∀ b u, s1.heap.get? b = some u → (s1.heap.push { cls := .type "dict_values", data := .fields #[.ref a] }).get? b = some u := fun b u e => Heap.get?_push_of_some _ e
  have hsz : es.size = xs.length := by
    have e1 := congrArg List.length hes
    rw [List.length_map, Array.length_toList] at e1; exact e1
  have hlx : kvs.length = xs.length := Paired.length rel
  have I2 : Inv X pins σ H1 { s1 with heap := s1.heap.push { cls := .type "dict_values", data := .fields #[.ref a] } } := I1.kept (t' := s1.toks) k1
  refine PySem.W.kdl_call (kdl_valsR (r := s1.heap.objs.size) (d := a) (ob := ob) hdat) (I.ok.hd hc) ⟨Heap.get?_push_size _ rfl, k1 _ _ ho⟩ (by rw [hsz, ← hlx]; exact z) fun h' tk acc' c' hk hD hacc => ?_
  have ev : acc'.toList = xs.map fun x => x.2.2 := by
    refine List.ext_getElem? fun i => ?_
    rw [Array.getElem?_toList, List.getElem?_map]
    by_cases c : i < es.size
    · have h1 : i < acc'.size := by rw [hacc.1]; exact c
      obtain ⟨e, he, hv⟩ := hacc.2 i _ (Array.getElem?_eq_getElem h1)
      rw [Array.getElem?_eq_getElem h1, hv]
      have e2 : es.toList[i]? = some e := by rw [Array.getElem?_toList]; exact he
      rw [hes, List.getElem?_map] at e2
      obtain ⟨x, hx, e3⟩ := Option.map_eq_some_iff.mp e2
      rw [hx, ← e3]; rfl
    · rw [Array.getElem?_eq_none (by rw [hacc.1]; omega), List.getElem?_eq_none (by omega)]; rfl
  have rv : Vals (kvs.map (·.2)) acc'.toList := by rw [ev]; exact kt_vals rel
  refine ⟨.ref (s1.heap.push { cls := .type "dict_values", data := .fields #[.ref a] }).objs.size, _, I2.laid (t' := tk) hk (Nat.le_refl _) (show ObjOk X.prog X.w _ h' _ (.lst (kvs.map (·.2))) from ⟨by rw [List.length_map]; exact z, acc'.toList, c', rv, by simpa using hD⟩), rfl, q _ (I2.hok.fresh (Nat.le_refl _))⟩
end
end Ty
end
section
set_option Elab.async false
set_option linter.all false
set_option maxRecDepth 100000
set_option maxHeartbeats 2000000
/-! What the program's top has written: its defs by their places, names, classes -/
namespace Lf
open PySem PySem.Spec PyProof.Rows L2 Ty
abbrev top (i : Nat) : Stmt := PySem.Challenge.pw_linearfits_s01_answers.main.body.getD i (.Pass ⟨0, 0, 0, 0⟩)
structure Nm where
  ad : Nat → Addr
  fd : Nat → FuncData
  cl : Nat → Addr
  dc : Nat → Addr
abbrev st_greatest_divisor : Stmt := top 1
theorem sc_greatest_divisor : FnScope ["first", "second", "rest"] ["first", "second"] (defScope st_greatest_divisor) := ⟨rfl, rfl, rfl, by decide +kernel, rfl, by decide +kernel, by decide +kernel⟩
abbrev st_lowest_terms : Stmt := top 2
theorem sc_lowest_terms : FnScope ["numerator", "denominator", "divisor"] ["numerator", "denominator"] (defScope st_lowest_terms) := ⟨rfl, rfl, rfl, by decide +kernel, rfl, by decide +kernel, by decide +kernel⟩
abbrev st_difference : Stmt := top 3
theorem sc_difference : FnScope ["first", "second", "numerator"] ["first", "second"] (defScope st_difference) := ⟨rfl, rfl, rfl, by decide +kernel, rfl, by decide +kernel, by decide +kernel⟩
abbrev st_quotient : Stmt := top 4
theorem sc_quotient : FnScope ["first", "second"] ["first", "second"] (defScope st_quotient) := ⟨rfl, rfl, rfl, by decide +kernel, rfl, by decide +kernel, by decide +kernel⟩
abbrev st_dot : Stmt := top 5
theorem sc_dot : FnScope ["first", "second", "left", "right"] ["first", "second"] (defScope st_dot) := ⟨rfl, rfl, rfl, by decide +kernel, rfl, by decide +kernel, by decide +kernel⟩
abbrev st_Solution_init : Stmt := inClass (top 6) 0
theorem sc_Solution_init : FnScope ["self", "numerators", "divisor"] ["self", "numerators", "divisor"] (defScope st_Solution_init) := ⟨rfl, rfl, rfl, by decide +kernel, rfl, by decide +kernel, by decide +kernel⟩
abbrev st_Solution_times : Stmt := inClass (top 6) 1
theorem sc_Solution_times : FnScope ["self", "vector"] ["self", "vector"] (defScope st_Solution_times) := ⟨rfl, rfl, rfl, by decide +kernel, rfl, by decide +kernel, by decide +kernel⟩
abbrev st_Solution_fractions : Stmt := inClass (top 6) 2
theorem sc_Solution_fractions : FnScope ["self", "told", "numerator"] ["self"] (defScope st_Solution_fractions) := ⟨rfl, rfl, rfl, by decide +kernel, rfl, by decide +kernel, by decide +kernel⟩
abbrev st_Sweep_init : Stmt := inClass (top 7) 0
theorem sc_Sweep_init : FnScope ["self", "matrix", "width", "column", "row"] ["self", "matrix", "width"] (defScope st_Sweep_init) := ⟨rfl, rfl, rfl, by decide +kernel, rfl, by decide +kernel, by decide +kernel⟩
abbrev st_Sweep_sweep_column : Stmt := inClass (top 7) 1
theorem sc_Sweep_sweep_column : FnScope ["self", "column", "place", "found", "pivot_row", "table", "row"] ["self", "column"] (defScope st_Sweep_sweep_column) := ⟨rfl, rfl, rfl, by decide +kernel, rfl, by decide +kernel, by decide +kernel⟩
abbrev st_Sweep_pivot_place : Stmt := inClass (top 7) 2
theorem sc_Sweep_pivot_place : FnScope ["self", "column", "place"] ["self", "column"] (defScope st_Sweep_pivot_place) := ⟨rfl, rfl, rfl, by decide +kernel, rfl, by decide +kernel, by decide +kernel⟩
abbrev st_Sweep_swept_row : Stmt := inClass (top 7) 3
theorem sc_Sweep_swept_row : FnScope ["self", "row", "pivot_row", "column", "pivot", "factor", "own", "other"] ["self", "row", "pivot_row", "column"] (defScope st_Sweep_swept_row) := ⟨rfl, rfl, rfl, by decide +kernel, rfl, by decide +kernel, by decide +kernel⟩
abbrev st_rank_of : Stmt := top 8
theorem sc_rank_of : FnScope ["matrix", "width"] ["matrix", "width"] (defScope st_rank_of) := ⟨rfl, rfl, rfl, by decide +kernel, rfl, by decide +kernel, by decide +kernel⟩
abbrev st_solved : Stmt := top 9
theorem sc_solved : FnScope ["matrix", "target", "width", "extended", "sweep", "numerators", "place", "column", "row", "value"] ["matrix", "target"] (defScope st_solved) := ⟨rfl, rfl, rfl, by decide +kernel, rfl, by decide +kernel, by decide +kernel⟩
abbrev st_determinant : Stmt := top 10
theorem sc_determinant : FnScope ["matrix", "whole", "sign", "place", "entry", "rest", "row"] ["matrix"] (defScope st_determinant) := ⟨rfl, rfl, rfl, by decide +kernel, rfl, by decide +kernel, by decide +kernel⟩
abbrev st_all_within : Stmt := top 22
theorem sc_all_within : FnScope ["numbers", "largest", "number"] ["numbers", "largest"] (defScope st_all_within) := ⟨rfl, rfl, rfl, by decide +kernel, rfl, by decide +kernel, by decide +kernel⟩
abbrev st_gained : Stmt := top 24
theorem sc_gained : FnScope ["smaller", "larger", "degrees"] ["smaller", "larger"] (defScope st_gained) := ⟨rfl, rfl, rfl, by decide +kernel, rfl, by decide +kernel, by decide +kernel⟩
abbrev st_columns_before : Stmt := top 25
theorem sc_columns_before : FnScope ["terms", "term", "column", "own"] ["terms", "term"] (defScope st_columns_before) := ⟨rfl, rfl, rfl, by decide +kernel, rfl, by decide +kernel, by decide +kernel⟩
abbrev st_columns_without : Stmt := top 26
theorem sc_columns_without : FnScope ["terms", "term", "column", "own"] ["terms", "term"] (defScope st_columns_without) := ⟨rfl, rfl, rfl, by decide +kernel, rfl, by decide +kernel, by decide +kernel⟩
abbrev st_sequential : Stmt := top 27
theorem sc_sequential : FnScope ["model", "arguments", "fit", "told", "smaller", "term", "larger"] ["model", "arguments"] (defScope st_sequential) := ⟨rfl, rfl, rfl, by decide +kernel, rfl, by decide +kernel, by decide +kernel⟩
abbrev st_marginal_sum : Stmt := top 28
theorem sc_marginal_sum : FnScope ["model", "fit", "term"] ["model", "fit", "term"] (defScope st_marginal_sum) := ⟨rfl, rfl, rfl, by decide +kernel, rfl, by decide +kernel, by decide +kernel⟩
abbrev st_marginal : Stmt := top 29
theorem sc_marginal : FnScope ["model", "arguments", "fit", "told", "term"] ["model", "arguments"] (defScope st_marginal) := ⟨rfl, rfl, rfl, by decide +kernel, rfl, by decide +kernel, by decide +kernel⟩
abbrev st_f_ratio : Stmt := top 30
theorem sc_f_ratio : FnScope ["model", "arguments", "term", "fit", "explained", "degrees", "variance", "mean"] ["model", "arguments"] (defScope st_f_ratio) := ⟨rfl, rfl, rfl, by decide +kernel, rfl, by decide +kernel, by decide +kernel⟩
abbrev st_response_groups : Stmt := top 31
theorem sc_response_groups : FnScope ["model", "groups", "row", "response"] ["model"] (defScope st_response_groups) := ⟨rfl, rfl, rfl, by decide +kernel, rfl, by decide +kernel, by decide +kernel⟩
abbrev st_pure_error : Stmt := top 32
theorem sc_pure_error : FnScope ["groups", "response_squares", "rest", "group"] ["groups", "response_squares"] (defScope st_pure_error) := ⟨rfl, rfl, rfl, by decide +kernel, rfl, by decide +kernel, by decide +kernel⟩
abbrev st_lack_of_fit : Stmt := top 33
theorem sc_lack_of_fit : FnScope ["model", "arguments", "fit", "groups", "pure", "pure_degrees", "lack"] ["model", "arguments"] (defScope st_lack_of_fit) := ⟨rfl, rfl, rfl, by decide +kernel, rfl, by decide +kernel, by decide +kernel⟩
abbrev st_rank : Stmt := top 36
theorem sc_rank : FnScope ["model", "arguments", "fit"] ["model", "arguments"] (defScope st_rank) := ⟨rfl, rfl, rfl, by decide +kernel, rfl, by decide +kernel, by decide +kernel⟩
abbrev st_coefficients : Stmt := top 37
theorem sc_coefficients : FnScope ["model", "arguments", "fit"] ["model", "arguments"] (defScope st_coefficients) := ⟨rfl, rfl, rfl, by decide +kernel, rfl, by decide +kernel, by decide +kernel⟩
abbrev st_told_estimate : Stmt := top 38
theorem sc_told_estimate : FnScope ["model", "vector", "added", "fit", "weights", "factor", "raised"] ["model", "vector", "added"] (defScope st_told_estimate) := ⟨rfl, rfl, rfl, by decide +kernel, rfl, by decide +kernel, by decide +kernel⟩
abbrev st_estimate : Stmt := top 39
theorem sc_estimate : FnScope ["model", "arguments"] ["model", "arguments"] (defScope st_estimate) := ⟨rfl, rfl, rfl, by decide +kernel, rfl, by decide +kernel, by decide +kernel⟩
abbrev st_predict : Stmt := top 40
theorem sc_predict : FnScope ["model", "arguments"] ["model", "arguments"] (defScope st_predict) := ⟨rfl, rfl, rfl, by decide +kernel, rfl, by decide +kernel, by decide +kernel⟩
abbrev st_covariance : Stmt := top 41
theorem sc_covariance : FnScope ["model", "arguments", "first", "second", "fit", "weights"] ["model", "arguments"] (defScope st_covariance) := ⟨rfl, rfl, rfl, by decide +kernel, rfl, by decide +kernel, by decide +kernel⟩
abbrev st_squared_ratio : Stmt := top 42
theorem sc_squared_ratio : FnScope ["model", "arguments", "vector", "fit", "weights", "variance", "factor", "value", "square"] ["model", "arguments"] (defScope st_squared_ratio) := ⟨rfl, rfl, rfl, by decide +kernel, rfl, by decide +kernel, by decide +kernel⟩
abbrev st_residual : Stmt := top 43
theorem sc_residual : FnScope ["model", "fit", "place", "value"] ["model", "fit", "place"] (defScope st_residual) := ⟨rfl, rfl, rfl, by decide +kernel, rfl, by decide +kernel, by decide +kernel⟩
abbrev st_fitted : Stmt := top 44
theorem sc_fitted : FnScope ["model", "arguments", "place", "fit"] ["model", "arguments"] (defScope st_fitted) := ⟨rfl, rfl, rfl, by decide +kernel, rfl, by decide +kernel, by decide +kernel⟩
abbrev st_leverage : Stmt := top 45
theorem sc_leverage : FnScope ["model", "arguments", "place"] ["model", "arguments"] (defScope st_leverage) := ⟨rfl, rfl, rfl, by decide +kernel, rfl, by decide +kernel, by decide +kernel⟩
abbrev st_deleted : Stmt := top 46
theorem sc_deleted : FnScope ["model", "arguments", "place", "fit", "share"] ["model", "arguments"] (defScope st_deleted) := ⟨rfl, rfl, rfl, by decide +kernel, rfl, by decide +kernel, by decide +kernel⟩
abbrev st_lost_value : Stmt := top 47
theorem sc_lost_value : FnScope ["model", "arguments", "place", "row", "fit"] ["model", "arguments"] (defScope st_lost_value) := ⟨rfl, rfl, rfl, by decide +kernel, rfl, by decide +kernel, by decide +kernel⟩
abbrev st_residual_sum : Stmt := top 48
theorem sc_residual_sum : FnScope ["model", "arguments", "fit"] ["model", "arguments"] (defScope st_residual_sum) := ⟨rfl, rfl, rfl, by decide +kernel, rfl, by decide +kernel, by decide +kernel⟩
abbrev st_variance_estimate : Stmt := top 49
theorem sc_variance_estimate : FnScope ["model", "arguments", "variance"] ["model", "arguments"] (defScope st_variance_estimate) := ⟨rfl, rfl, rfl, by decide +kernel, rfl, by decide +kernel, by decide +kernel⟩
abbrev st_normal_equations : Stmt := top 50
theorem sc_normal_equations : FnScope ["model", "arguments", "fit", "told", "products", "moment"] ["model", "arguments"] (defScope st_normal_equations) := ⟨rfl, rfl, rfl, by decide +kernel, rfl, by decide +kernel, by decide +kernel⟩
abbrev st_Reader_init : Stmt := inClass (top 54) 0
theorem sc_Reader_init : FnScope ["self", "calls"] ["self", "calls"] (defScope st_Reader_init) := ⟨rfl, rfl, rfl, by decide +kernel, rfl, by decide +kernel, by decide +kernel⟩
abbrev st_Reader_at_end : Stmt := inClass (top 54) 1
theorem sc_Reader_at_end : FnScope ["self"] ["self"] (defScope st_Reader_at_end) := ⟨rfl, rfl, rfl, by decide +kernel, rfl, by decide +kernel, by decide +kernel⟩
abbrev st_Reader_number : Stmt := inClass (top 54) 2
theorem sc_Reader_number : FnScope ["self"] ["self"] (defScope st_Reader_number) := ⟨rfl, rfl, rfl, by decide +kernel, rfl, by decide +kernel, by decide +kernel⟩
abbrev st_Reader_row : Stmt := inClass (top 54) 3
theorem sc_Reader_row : FnScope ["self", "length"] ["self"] (defScope st_Reader_row) := ⟨rfl, rfl, rfl, by decide +kernel, rfl, by decide +kernel, by decide +kernel⟩
abbrev st_Reader_call : Stmt := inClass (top 54) 4
theorem sc_Reader_call : FnScope ["self", "operation", "shape", "arguments", "turn"] ["self"] (defScope st_Reader_call) := ⟨rfl, rfl, rfl, by decide +kernel, rfl, by decide +kernel, by decide +kernel⟩
abbrev st_read_calls : Stmt := top 55
theorem sc_read_calls : FnScope ["calls", "reader", "found"] ["calls"] (defScope st_read_calls) := ⟨rfl, rfl, rfl, by decide +kernel, rfl, by decide +kernel, by decide +kernel⟩
abbrev st_Fit_init : Stmt := inClass (top 57) 0
theorem sc_Fit_init : FnScope ["self", "products", "moments", "response_squares", "row_count"] ["self", "products", "moments", "response_squares", "row_count"] (defScope st_Fit_init) := ⟨rfl, rfl, rfl, by decide +kernel, rfl, by decide +kernel, by decide +kernel⟩
abbrev st_Fit_part : Stmt := inClass (top 57) 1
theorem sc_Fit_part : FnScope ["self", "columns", "products", "moments", "left", "right"] ["self", "columns"] (defScope st_Fit_part) := ⟨rfl, rfl, rfl, by decide +kernel, rfl, by decide +kernel, by decide +kernel⟩
abbrev st_Fit_weights : Stmt := inClass (top 57) 2
theorem sc_Fit_weights : FnScope ["self", "vector"] ["self", "vector"] (defScope st_Fit_weights) := ⟨rfl, rfl, rfl, by decide +kernel, rfl, by decide +kernel, by decide +kernel⟩
abbrev st_Fit_leverage : Stmt := inClass (top 57) 3
theorem sc_Fit_leverage : FnScope ["self", "row"] ["self", "row"] (defScope st_Fit_leverage) := ⟨rfl, rfl, rfl, by decide +kernel, rfl, by decide +kernel, by decide +kernel⟩
abbrev st_Fit_estimate : Stmt := inClass (top 57) 4
theorem sc_Fit_estimate : FnScope ["self", "vector"] ["self", "vector"] (defScope st_Fit_estimate) := ⟨rfl, rfl, rfl, by decide +kernel, rfl, by decide +kernel, by decide +kernel⟩
abbrev st_Fit_residual_sum : Stmt := inClass (top 57) 5
theorem sc_Fit_residual_sum : FnScope ["self", "explained"] ["self"] (defScope st_Fit_residual_sum) := ⟨rfl, rfl, rfl, by decide +kernel, rfl, by decide +kernel, by decide +kernel⟩
abbrev st_Fit_variance : Stmt := inClass (top 57) 6
theorem sc_Fit_variance : FnScope ["self"] ["self"] (defScope st_Fit_variance) := ⟨rfl, rfl, rfl, by decide +kernel, rfl, by decide +kernel, by decide +kernel⟩
abbrev st_fit_of : Stmt := top 58
theorem sc_fit_of : FnScope ["width", "rows", "responses", "columns", "products", "moments", "place", "row", "left", "right", "column"] ["width", "rows", "responses"] (defScope st_fit_of) := ⟨rfl, rfl, rfl, by decide +kernel, rfl, by decide +kernel, by decide +kernel⟩
abbrev st_Model_init : Stmt := inClass (top 60) 0
theorem sc_Model_init : FnScope ["self"] ["self"] (defScope st_Model_init) := ⟨rfl, rfl, rfl, by decide +kernel, rfl, by decide +kernel, by decide +kernel⟩
abbrev st_Model_begin : Stmt := inClass (top 60) 1
theorem sc_Model_begin : FnScope ["self", "column_count"] ["self", "column_count"] (defScope st_Model_begin) := ⟨rfl, rfl, rfl, by decide +kernel, rfl, by decide +kernel, by decide +kernel⟩
abbrev st_Model_is_created : Stmt := inClass (top 60) 2
theorem sc_Model_is_created : FnScope ["self"] ["self"] (defScope st_Model_is_created) := ⟨rfl, rfl, rfl, by decide +kernel, rfl, by decide +kernel, by decide +kernel⟩
abbrev st_Model_has_row : Stmt := inClass (top 60) 3
theorem sc_Model_has_row : FnScope ["self", "place"] ["self", "place"] (defScope st_Model_has_row) := ⟨rfl, rfl, rfl, by decide +kernel, rfl, by decide +kernel, by decide +kernel⟩
abbrev st_Model_term_count : Stmt := inClass (top 60) 4
theorem sc_Model_term_count : FnScope ["self"] ["self"] (defScope st_Model_term_count) := ⟨rfl, rfl, rfl, by decide +kernel, rfl, by decide +kernel, by decide +kernel⟩
abbrev st_Model_fits_columns : Stmt := inClass (top 60) 5
theorem sc_Model_fits_columns : FnScope ["self", "vector"] ["self", "vector"] (defScope st_Model_fits_columns) := ⟨rfl, rfl, rfl, by decide +kernel, rfl, by decide +kernel, by decide +kernel⟩
abbrev st_Model_fits_terms : Stmt := inClass (top 60) 6
theorem sc_Model_fits_terms : FnScope ["self", "terms", "steps", "before", "after", "step"] ["self", "terms"] (defScope st_Model_fits_terms) := ⟨rfl, rfl, rfl, by decide +kernel, rfl, by decide +kernel, by decide +kernel⟩
abbrev st_Model_fit : Stmt := inClass (top 60) 7
theorem sc_Model_fit : FnScope ["self"] ["self"] (defScope st_Model_fit) := ⟨rfl, rfl, rfl, by decide +kernel, rfl, by decide +kernel, by decide +kernel⟩
abbrev st_Model_fit_without : Stmt := inClass (top 60) 8
theorem sc_Model_fit_without : FnScope ["self", "place", "rows", "responses"] ["self", "place"] (defScope st_Model_fit_without) := ⟨rfl, rfl, rfl, by decide +kernel, rfl, by decide +kernel, by decide +kernel⟩
abbrev st_is_response : Stmt := top 61
theorem sc_is_response : FnScope ["response"] ["response"] (defScope st_is_response) := ⟨rfl, rfl, rfl, by decide +kernel, rfl, by decide +kernel, by decide +kernel⟩
abbrev st_create : Stmt := top 62
theorem sc_create : FnScope ["model", "arguments", "column_count"] ["model", "arguments"] (defScope st_create) := ⟨rfl, rfl, rfl, by decide +kernel, rfl, by decide +kernel, by decide +kernel⟩
abbrev st_add_row : Stmt := top 63
theorem sc_add_row : FnScope ["model", "arguments", "response", "row"] ["model", "arguments"] (defScope st_add_row) := ⟨rfl, rfl, rfl, by decide +kernel, rfl, by decide +kernel, by decide +kernel⟩
abbrev st_remove_row : Stmt := top 64
theorem sc_remove_row : FnScope ["model", "arguments", "place"] ["model", "arguments"] (defScope st_remove_row) := ⟨rfl, rfl, rfl, by decide +kernel, rfl, by decide +kernel, by decide +kernel⟩
abbrev st_set_response : Stmt := top 65
theorem sc_set_response : FnScope ["model", "arguments", "place", "response", "previous"] ["model", "arguments"] (defScope st_set_response) := ⟨rfl, rfl, rfl, by decide +kernel, rfl, by decide +kernel, by decide +kernel⟩
abbrev st_set_terms : Stmt := top 66
theorem sc_set_terms : FnScope ["model", "arguments", "terms"] ["model", "arguments"] (defScope st_set_terms) := ⟨rfl, rfl, rfl, by decide +kernel, rfl, by decide +kernel, by decide +kernel⟩
abbrev st_clear : Stmt := top 67
theorem sc_clear : FnScope ["model", "arguments", "row_count"] ["model", "arguments"] (defScope st_clear) := ⟨rfl, rfl, rfl, by decide +kernel, rfl, by decide +kernel, by decide +kernel⟩
abbrev st_get_row : Stmt := top 68
theorem sc_get_row : FnScope ["model", "arguments", "place"] ["model", "arguments"] (defScope st_get_row) := ⟨rfl, rfl, rfl, by decide +kernel, rfl, by decide +kernel, by decide +kernel⟩
abbrev st_summary : Stmt := top 69
theorem sc_summary : FnScope ["model", "arguments"] ["model", "arguments"] (defScope st_summary) := ⟨rfl, rfl, rfl, by decide +kernel, rfl, by decide +kernel, by decide +kernel⟩
abbrev st_is_surface : Stmt := top 75
theorem sc_is_surface : FnScope ["variables", "constant", "linear", "quadratic"] ["variables", "constant", "linear", "quadratic"] (defScope st_is_surface) := ⟨rfl, rfl, rfl, by decide +kernel, rfl, by decide +kernel, by decide +kernel⟩
abbrev st_hessian : Stmt := top 76
theorem sc_hessian : FnScope ["variables", "quadratic", "matrix", "place", "first", "second"] ["variables", "quadratic"] (defScope st_hessian) := ⟨rfl, rfl, rfl, by decide +kernel, rfl, by decide +kernel, by decide +kernel⟩
abbrev st_leading_minors : Stmt := top 77
theorem sc_leading_minors : FnScope ["matrix", "size", "row"] ["matrix"] (defScope st_leading_minors) := ⟨rfl, rfl, rfl, by decide +kernel, rfl, by decide +kernel, by decide +kernel⟩
abbrev st_kind_of : Stmt := top 78
theorem sc_kind_of : FnScope ["minors", "minor"] ["minors"] (defScope st_kind_of) := ⟨rfl, rfl, rfl, by decide +kernel, rfl, by decide +kernel, by decide +kernel⟩
abbrev st_stationary : Stmt := top 79
theorem sc_stationary : FnScope ["model", "arguments", "variables", "constant", "linear", "quadratic", "matrix", "minors", "point", "share", "value", "slope"] ["model", "arguments"] (defScope st_stationary) := ⟨rfl, rfl, rfl, by decide +kernel, rfl, by decide +kernel, by decide +kernel⟩
abbrev st_operation_of : Stmt := top 82
theorem sc_operation_of : FnScope ["number"] ["number"] (defScope st_operation_of) := ⟨rfl, rfl, rfl, by decide +kernel, rfl, by decide +kernel, by decide +kernel⟩
abbrev st_answer_to : Stmt := top 83
theorem sc_answer_to : FnScope ["model", "number", "arguments", "operation"] ["model", "number", "arguments"] (defScope st_answer_to) := ⟨rfl, rfl, rfl, by decide +kernel, rfl, by decide +kernel, by decide +kernel⟩
abbrev st_answers : Stmt := top 84
theorem sc_answers : FnScope ["calls", "model", "told", "call", "answer"] ["calls"] (defScope st_answers) := ⟨rfl, rfl, rfl, by decide +kernel, rfl, by decide +kernel, by decide +kernel⟩
def shapesL : List (Nat × Nat) := [(1, 0), (1, 1), (1, 0), (2, 0), (0, 1), (0, 0), (1, 0), (0, 0), (0, 0), (0, 1), (0, 2), (0, 1), (1, 0), (1, 0), (1, 0), (0, 0), (0, 0), (0, 0), (0, 0), (1, 0), (0, 0), (0, 1), (1, 0), (0, 0), (2, 2), (0, 0)]
def fs_STATE_OPERATIONS (n : Nm) : List (Int × Addr) := [(0, n.ad 65), (1, n.ad 66), (2, n.ad 67), (3, n.ad 68), (4, n.ad 69), (5, n.ad 70), (6, n.ad 71), (25, n.ad 72)]
def fs_ESTIMATE_OPERATIONS (n : Nm) : List (Int × Addr) := [(7, n.ad 26), (8, n.ad 27), (9, n.ad 29), (10, n.ad 31), (11, n.ad 32), (12, n.ad 34), (13, n.ad 35), (14, n.ad 36), (15, n.ad 38), (16, n.ad 39), (21, n.ad 30), (22, n.ad 37), (23, n.ad 40)]
def fs_ANALYSIS_OPERATIONS (n : Nm) : List (Int × Addr) := [(17, n.ad 19), (18, n.ad 21), (19, n.ad 22), (20, n.ad 25)]
def fs_SURFACE_OPERATIONS (n : Nm) : List (Int × Addr) := [(24, n.ad 77)]
/-- a tuple of the written part -/
def KTup (K : PySem.W.Frag) (a : Addr) (xs : List V) : Prop := ∃ (o : Obj) (its : Array Value) (n : Nat), K.lookup a = some o ∧ o.cls = .type "tuple" ∧ o.data = .seq its n ∧ its.size ≤ sizeLine ∧ Vals xs its.toList
structure Txt (K : PySem.W.Frag) (mg : Str → Option Value) (n : Nm) : Prop where
  f_greatest_divisor : Fun K "greatest_divisor" "greatest_divisor" st_greatest_divisor (n.ad 0) (n.fd 0)
  b_greatest_divisor : Binds K (n.fd 0) ["first", "second"] []
  g_greatest_divisor : mg "greatest_divisor" = some (.ref (n.ad 0))
  f_lowest_terms : Fun K "lowest_terms" "lowest_terms" st_lowest_terms (n.ad 1) (n.fd 1)
  b_lowest_terms : Binds K (n.fd 1) ["numerator", "denominator"] []
  g_lowest_terms : mg "lowest_terms" = some (.ref (n.ad 1))
  f_difference : Fun K "difference" "difference" st_difference (n.ad 2) (n.fd 2)
  b_difference : Binds K (n.fd 2) ["first", "second"] []
  g_difference : mg "difference" = some (.ref (n.ad 2))
  f_quotient : Fun K "quotient" "quotient" st_quotient (n.ad 3) (n.fd 3)
  b_quotient : Binds K (n.fd 3) ["first", "second"] []
  g_quotient : mg "quotient" = some (.ref (n.ad 3))
  f_dot : Fun K "dot" "dot" st_dot (n.ad 4) (n.fd 4)
  b_dot : Binds K (n.fd 4) ["first", "second"] []
  g_dot : mg "dot" = some (.ref (n.ad 4))
  f_Solution_init : Fun K "__init__" "Solution.__init__" st_Solution_init (n.ad 5) (n.fd 5)
  b_Solution_init : Binds K (n.fd 5) ["self", "numerators", "divisor"] []
  f_Solution_times : Fun K "times" "Solution.times" st_Solution_times (n.ad 6) (n.fd 6)
  b_Solution_times : Binds K (n.fd 6) ["self", "vector"] []
  m_Solution_times : Meth K (n.cl 0) "times" (n.ad 6)
  f_Solution_fractions : Fun K "fractions" "Solution.fractions" st_Solution_fractions (n.ad 7) (n.fd 7)
  b_Solution_fractions : Binds K (n.fd 7) ["self"] []
  m_Solution_fractions : Meth K (n.cl 0) "fractions" (n.ad 7)
  f_Sweep_init : Fun K "__init__" "Sweep.__init__" st_Sweep_init (n.ad 8) (n.fd 8)
  b_Sweep_init : Binds K (n.fd 8) ["self", "matrix", "width"] []
  f_Sweep_sweep_column : Fun K "sweep_column" "Sweep.sweep_column" st_Sweep_sweep_column (n.ad 9) (n.fd 9)
  b_Sweep_sweep_column : Binds K (n.fd 9) ["self", "column"] []
  m_Sweep_sweep_column : Meth K (n.cl 1) "sweep_column" (n.ad 9)
  f_Sweep_pivot_place : Fun K "pivot_place" "Sweep.pivot_place" st_Sweep_pivot_place (n.ad 10) (n.fd 10)
  b_Sweep_pivot_place : Binds K (n.fd 10) ["self", "column"] []
  m_Sweep_pivot_place : Meth K (n.cl 1) "pivot_place" (n.ad 10)
  f_Sweep_swept_row : Fun K "swept_row" "Sweep.swept_row" st_Sweep_swept_row (n.ad 11) (n.fd 11)
  b_Sweep_swept_row : Binds K (n.fd 11) ["self", "row", "pivot_row", "column"] []
  m_Sweep_swept_row : Meth K (n.cl 1) "swept_row" (n.ad 11)
  f_rank_of : Fun K "rank_of" "rank_of" st_rank_of (n.ad 12) (n.fd 12)
  b_rank_of : Binds K (n.fd 12) ["matrix", "width"] []
  g_rank_of : mg "rank_of" = some (.ref (n.ad 12))
  f_solved : Fun K "solved" "solved" st_solved (n.ad 13) (n.fd 13)
  b_solved : Binds K (n.fd 13) ["matrix", "target"] []
  g_solved : mg "solved" = some (.ref (n.ad 13))
  f_determinant : Fun K "determinant" "determinant" st_determinant (n.ad 14) (n.fd 14)
  b_determinant : Binds K (n.fd 14) ["matrix"] []
  g_determinant : mg "determinant" = some (.ref (n.ad 14))
  f_all_within : Fun K "all_within" "all_within" st_all_within (n.ad 15) (n.fd 15)
  b_all_within : Binds K (n.fd 15) ["numbers", "largest"] []
  g_all_within : mg "all_within" = some (.ref (n.ad 15))
  f_gained : Fun K "gained" "gained" st_gained (n.ad 16) (n.fd 16)
  b_gained : Binds K (n.fd 16) ["smaller", "larger"] []
  g_gained : mg "gained" = some (.ref (n.ad 16))
  f_columns_before : Fun K "columns_before" "columns_before" st_columns_before (n.ad 17) (n.fd 17)
  b_columns_before : Binds K (n.fd 17) ["terms", "term"] []
  g_columns_before : mg "columns_before" = some (.ref (n.ad 17))
  f_columns_without : Fun K "columns_without" "columns_without" st_columns_without (n.ad 18) (n.fd 18)
  b_columns_without : Binds K (n.fd 18) ["terms", "term"] []
  g_columns_without : mg "columns_without" = some (.ref (n.ad 18))
  f_sequential : Fun K "sequential" "sequential" st_sequential (n.ad 19) (n.fd 19)
  b_sequential : Binds K (n.fd 19) ["model", "arguments"] []
  g_sequential : mg "sequential" = some (.ref (n.ad 19))
  f_marginal_sum : Fun K "marginal_sum" "marginal_sum" st_marginal_sum (n.ad 20) (n.fd 20)
  b_marginal_sum : Binds K (n.fd 20) ["model", "fit", "term"] []
  g_marginal_sum : mg "marginal_sum" = some (.ref (n.ad 20))
  f_marginal : Fun K "marginal" "marginal" st_marginal (n.ad 21) (n.fd 21)
  b_marginal : Binds K (n.fd 21) ["model", "arguments"] []
  g_marginal : mg "marginal" = some (.ref (n.ad 21))
  f_f_ratio : Fun K "f_ratio" "f_ratio" st_f_ratio (n.ad 22) (n.fd 22)
  b_f_ratio : Binds K (n.fd 22) ["model", "arguments"] []
  g_f_ratio : mg "f_ratio" = some (.ref (n.ad 22))
  f_response_groups : Fun K "response_groups" "response_groups" st_response_groups (n.ad 23) (n.fd 23)
  b_response_groups : Binds K (n.fd 23) ["model"] []
  g_response_groups : mg "response_groups" = some (.ref (n.ad 23))
  f_pure_error : Fun K "pure_error" "pure_error" st_pure_error (n.ad 24) (n.fd 24)
  b_pure_error : Binds K (n.fd 24) ["groups", "response_squares"] []
  g_pure_error : mg "pure_error" = some (.ref (n.ad 24))
  f_lack_of_fit : Fun K "lack_of_fit" "lack_of_fit" st_lack_of_fit (n.ad 25) (n.fd 25)
  b_lack_of_fit : Binds K (n.fd 25) ["model", "arguments"] []
  g_lack_of_fit : mg "lack_of_fit" = some (.ref (n.ad 25))
  f_rank : Fun K "rank" "rank" st_rank (n.ad 26) (n.fd 26)
  b_rank : Binds K (n.fd 26) ["model", "arguments"] []
  g_rank : mg "rank" = some (.ref (n.ad 26))
  f_coefficients : Fun K "coefficients" "coefficients" st_coefficients (n.ad 27) (n.fd 27)
  b_coefficients : Binds K (n.fd 27) ["model", "arguments"] []
  g_coefficients : mg "coefficients" = some (.ref (n.ad 27))
  f_told_estimate : Fun K "told_estimate" "told_estimate" st_told_estimate (n.ad 28) (n.fd 28)
  b_told_estimate : Binds K (n.fd 28) ["model", "vector", "added"] []
  g_told_estimate : mg "told_estimate" = some (.ref (n.ad 28))
  f_estimate : Fun K "estimate" "estimate" st_estimate (n.ad 29) (n.fd 29)
  b_estimate : Binds K (n.fd 29) ["model", "arguments"] []
  g_estimate : mg "estimate" = some (.ref (n.ad 29))
  f_predict : Fun K "predict" "predict" st_predict (n.ad 30) (n.fd 30)
  b_predict : Binds K (n.fd 30) ["model", "arguments"] []
  g_predict : mg "predict" = some (.ref (n.ad 30))
  f_covariance : Fun K "covariance" "covariance" st_covariance (n.ad 31) (n.fd 31)
  b_covariance : Binds K (n.fd 31) ["model", "arguments"] []
  g_covariance : mg "covariance" = some (.ref (n.ad 31))
  f_squared_ratio : Fun K "squared_ratio" "squared_ratio" st_squared_ratio (n.ad 32) (n.fd 32)
  b_squared_ratio : Binds K (n.fd 32) ["model", "arguments"] []
  g_squared_ratio : mg "squared_ratio" = some (.ref (n.ad 32))
  f_residual : Fun K "residual" "residual" st_residual (n.ad 33) (n.fd 33)
  b_residual : Binds K (n.fd 33) ["model", "fit", "place"] []
  g_residual : mg "residual" = some (.ref (n.ad 33))
  f_fitted : Fun K "fitted" "fitted" st_fitted (n.ad 34) (n.fd 34)
  b_fitted : Binds K (n.fd 34) ["model", "arguments"] []
  g_fitted : mg "fitted" = some (.ref (n.ad 34))
  f_leverage : Fun K "leverage" "leverage" st_leverage (n.ad 35) (n.fd 35)
  b_leverage : Binds K (n.fd 35) ["model", "arguments"] []
  g_leverage : mg "leverage" = some (.ref (n.ad 35))
  f_deleted : Fun K "deleted" "deleted" st_deleted (n.ad 36) (n.fd 36)
  b_deleted : Binds K (n.fd 36) ["model", "arguments"] []
  g_deleted : mg "deleted" = some (.ref (n.ad 36))
  f_lost_value : Fun K "lost_value" "lost_value" st_lost_value (n.ad 37) (n.fd 37)
  b_lost_value : Binds K (n.fd 37) ["model", "arguments"] []
  g_lost_value : mg "lost_value" = some (.ref (n.ad 37))
  f_residual_sum : Fun K "residual_sum" "residual_sum" st_residual_sum (n.ad 38) (n.fd 38)
  b_residual_sum : Binds K (n.fd 38) ["model", "arguments"] []
  g_residual_sum : mg "residual_sum" = some (.ref (n.ad 38))
  f_variance_estimate : Fun K "variance_estimate" "variance_estimate" st_variance_estimate (n.ad 39) (n.fd 39)
  b_variance_estimate : Binds K (n.fd 39) ["model", "arguments"] []
  g_variance_estimate : mg "variance_estimate" = some (.ref (n.ad 39))
  f_normal_equations : Fun K "normal_equations" "normal_equations" st_normal_equations (n.ad 40) (n.fd 40)
  b_normal_equations : Binds K (n.fd 40) ["model", "arguments"] []
  g_normal_equations : mg "normal_equations" = some (.ref (n.ad 40))
  f_Reader_init : Fun K "__init__" "Reader.__init__" st_Reader_init (n.ad 41) (n.fd 41)
  b_Reader_init : Binds K (n.fd 41) ["self", "calls"] []
  f_Reader_at_end : Fun K "at_end" "Reader.at_end" st_Reader_at_end (n.ad 42) (n.fd 42)
  b_Reader_at_end : Binds K (n.fd 42) ["self"] []
  m_Reader_at_end : Meth K (n.cl 2) "at_end" (n.ad 42)
  f_Reader_number : Fun K "number" "Reader.number" st_Reader_number (n.ad 43) (n.fd 43)
  b_Reader_number : Binds K (n.fd 43) ["self"] []
  m_Reader_number : Meth K (n.cl 2) "number" (n.ad 43)
  f_Reader_row : Fun K "row" "Reader.row" st_Reader_row (n.ad 44) (n.fd 44)
  b_Reader_row : Binds K (n.fd 44) ["self"] []
  m_Reader_row : Meth K (n.cl 2) "row" (n.ad 44)
  f_Reader_call : Fun K "call" "Reader.call" st_Reader_call (n.ad 45) (n.fd 45)
  b_Reader_call : Binds K (n.fd 45) ["self"] []
  m_Reader_call : Meth K (n.cl 2) "call" (n.ad 45)
  f_read_calls : Fun K "read_calls" "read_calls" st_read_calls (n.ad 46) (n.fd 46)
  b_read_calls : Binds K (n.fd 46) ["calls"] []
  g_read_calls : mg "read_calls" = some (.ref (n.ad 46))
  f_Fit_init : Fun K "__init__" "Fit.__init__" st_Fit_init (n.ad 47) (n.fd 47)
  b_Fit_init : Binds K (n.fd 47) ["self", "products", "moments", "response_squares", "row_count"] []
  f_Fit_part : Fun K "part" "Fit.part" st_Fit_part (n.ad 48) (n.fd 48)
  b_Fit_part : Binds K (n.fd 48) ["self", "columns"] []
  m_Fit_part : Meth K (n.cl 3) "part" (n.ad 48)
  f_Fit_weights : Fun K "weights" "Fit.weights" st_Fit_weights (n.ad 49) (n.fd 49)
  b_Fit_weights : Binds K (n.fd 49) ["self", "vector"] []
  m_Fit_weights : Meth K (n.cl 3) "weights" (n.ad 49)
  f_Fit_leverage : Fun K "leverage" "Fit.leverage" st_Fit_leverage (n.ad 50) (n.fd 50)
  b_Fit_leverage : Binds K (n.fd 50) ["self", "row"] []
  m_Fit_leverage : Meth K (n.cl 3) "leverage" (n.ad 50)
  f_Fit_estimate : Fun K "estimate" "Fit.estimate" st_Fit_estimate (n.ad 51) (n.fd 51)
  b_Fit_estimate : Binds K (n.fd 51) ["self", "vector"] []
  m_Fit_estimate : Meth K (n.cl 3) "estimate" (n.ad 51)
  f_Fit_residual_sum : Fun K "residual_sum" "Fit.residual_sum" st_Fit_residual_sum (n.ad 52) (n.fd 52)
  b_Fit_residual_sum : Binds K (n.fd 52) ["self"] []
  m_Fit_residual_sum : Meth K (n.cl 3) "residual_sum" (n.ad 52)
  f_Fit_variance : Fun K "variance" "Fit.variance" st_Fit_variance (n.ad 53) (n.fd 53)
  b_Fit_variance : Binds K (n.fd 53) ["self"] []
  m_Fit_variance : Meth K (n.cl 3) "variance" (n.ad 53)
  f_fit_of : Fun K "fit_of" "fit_of" st_fit_of (n.ad 54) (n.fd 54)
  b_fit_of : Binds K (n.fd 54) ["width", "rows", "responses"] []
  g_fit_of : mg "fit_of" = some (.ref (n.ad 54))
  f_Model_init : Fun K "__init__" "Model.__init__" st_Model_init (n.ad 55) (n.fd 55)
  b_Model_init : Binds K (n.fd 55) ["self"] []
  f_Model_begin : Fun K "begin" "Model.begin" st_Model_begin (n.ad 56) (n.fd 56)
  b_Model_begin : Binds K (n.fd 56) ["self", "column_count"] []
  m_Model_begin : Meth K (n.cl 4) "begin" (n.ad 56)
  f_Model_is_created : Fun K "is_created" "Model.is_created" st_Model_is_created (n.ad 57) (n.fd 57)
  b_Model_is_created : Binds K (n.fd 57) ["self"] []
  m_Model_is_created : Meth K (n.cl 4) "is_created" (n.ad 57)
  f_Model_has_row : Fun K "has_row" "Model.has_row" st_Model_has_row (n.ad 58) (n.fd 58)
  b_Model_has_row : Binds K (n.fd 58) ["self", "place"] []
  m_Model_has_row : Meth K (n.cl 4) "has_row" (n.ad 58)
  f_Model_term_count : Fun K "term_count" "Model.term_count" st_Model_term_count (n.ad 59) (n.fd 59)
  b_Model_term_count : Binds K (n.fd 59) ["self"] []
  m_Model_term_count : Meth K (n.cl 4) "term_count" (n.ad 59)
  f_Model_fits_columns : Fun K "fits_columns" "Model.fits_columns" st_Model_fits_columns (n.ad 60) (n.fd 60)
  b_Model_fits_columns : Binds K (n.fd 60) ["self", "vector"] []
  m_Model_fits_columns : Meth K (n.cl 4) "fits_columns" (n.ad 60)
  f_Model_fits_terms : Fun K "fits_terms" "Model.fits_terms" st_Model_fits_terms (n.ad 61) (n.fd 61)
  b_Model_fits_terms : Binds K (n.fd 61) ["self", "terms"] []
  m_Model_fits_terms : Meth K (n.cl 4) "fits_terms" (n.ad 61)
  f_Model_fit : Fun K "fit" "Model.fit" st_Model_fit (n.ad 62) (n.fd 62)
  b_Model_fit : Binds K (n.fd 62) ["self"] []
  m_Model_fit : Meth K (n.cl 4) "fit" (n.ad 62)
  f_Model_fit_without : Fun K "fit_without" "Model.fit_without" st_Model_fit_without (n.ad 63) (n.fd 63)
  b_Model_fit_without : Binds K (n.fd 63) ["self", "place"] []
  m_Model_fit_without : Meth K (n.cl 4) "fit_without" (n.ad 63)
  f_is_response : Fun K "is_response" "is_response" st_is_response (n.ad 64) (n.fd 64)
  b_is_response : Binds K (n.fd 64) ["response"] []
  g_is_response : mg "is_response" = some (.ref (n.ad 64))
  f_create : Fun K "create" "create" st_create (n.ad 65) (n.fd 65)
  b_create : Binds K (n.fd 65) ["model", "arguments"] []
  g_create : mg "create" = some (.ref (n.ad 65))
  f_add_row : Fun K "add_row" "add_row" st_add_row (n.ad 66) (n.fd 66)
  b_add_row : Binds K (n.fd 66) ["model", "arguments"] []
  g_add_row : mg "add_row" = some (.ref (n.ad 66))
  f_remove_row : Fun K "remove_row" "remove_row" st_remove_row (n.ad 67) (n.fd 67)
  b_remove_row : Binds K (n.fd 67) ["model", "arguments"] []
  g_remove_row : mg "remove_row" = some (.ref (n.ad 67))
  f_set_response : Fun K "set_response" "set_response" st_set_response (n.ad 68) (n.fd 68)
  b_set_response : Binds K (n.fd 68) ["model", "arguments"] []
  g_set_response : mg "set_response" = some (.ref (n.ad 68))
  f_set_terms : Fun K "set_terms" "set_terms" st_set_terms (n.ad 69) (n.fd 69)
  b_set_terms : Binds K (n.fd 69) ["model", "arguments"] []
  g_set_terms : mg "set_terms" = some (.ref (n.ad 69))
  f_clear : Fun K "clear" "clear" st_clear (n.ad 70) (n.fd 70)
  b_clear : Binds K (n.fd 70) ["model", "arguments"] []
  g_clear : mg "clear" = some (.ref (n.ad 70))
  f_get_row : Fun K "get_row" "get_row" st_get_row (n.ad 71) (n.fd 71)
  b_get_row : Binds K (n.fd 71) ["model", "arguments"] []
  g_get_row : mg "get_row" = some (.ref (n.ad 71))
  f_summary : Fun K "summary" "summary" st_summary (n.ad 72) (n.fd 72)
  b_summary : Binds K (n.fd 72) ["model", "arguments"] []
  g_summary : mg "summary" = some (.ref (n.ad 72))
  f_is_surface : Fun K "is_surface" "is_surface" st_is_surface (n.ad 73) (n.fd 73)
  b_is_surface : Binds K (n.fd 73) ["variables", "constant", "linear", "quadratic"] []
  g_is_surface : mg "is_surface" = some (.ref (n.ad 73))
  f_hessian : Fun K "hessian" "hessian" st_hessian (n.ad 74) (n.fd 74)
  b_hessian : Binds K (n.fd 74) ["variables", "quadratic"] []
  g_hessian : mg "hessian" = some (.ref (n.ad 74))
  f_leading_minors : Fun K "leading_minors" "leading_minors" st_leading_minors (n.ad 75) (n.fd 75)
  b_leading_minors : Binds K (n.fd 75) ["matrix"] []
  g_leading_minors : mg "leading_minors" = some (.ref (n.ad 75))
  f_kind_of : Fun K "kind_of" "kind_of" st_kind_of (n.ad 76) (n.fd 76)
  b_kind_of : Binds K (n.fd 76) ["minors"] []
  g_kind_of : mg "kind_of" = some (.ref (n.ad 76))
  f_stationary : Fun K "stationary" "stationary" st_stationary (n.ad 77) (n.fd 77)
  b_stationary : Binds K (n.fd 77) ["model", "arguments"] []
  g_stationary : mg "stationary" = some (.ref (n.ad 77))
  f_operation_of : Fun K "operation_of" "operation_of" st_operation_of (n.ad 78) (n.fd 78)
  b_operation_of : Binds K (n.fd 78) ["number"] []
  g_operation_of : mg "operation_of" = some (.ref (n.ad 78))
  f_answer_to : Fun K "answer_to" "answer_to" st_answer_to (n.ad 79) (n.fd 79)
  b_answer_to : Binds K (n.fd 79) ["model", "number", "arguments"] []
  g_answer_to : mg "answer_to" = some (.ref (n.ad 79))
  f_answers : Fun K "answers" "answers" st_answers (n.ad 80) (n.fd 80)
  b_answers : Binds K (n.fd 80) ["calls"] []
  g_answers : mg "answers" = some (.ref (n.ad 80))
  cl_Solution : Cls K (n.cl 0)
  mk_Solution : Mk K (n.cl 0) (n.ad 5)
  g_Solution : mg "Solution" = some (.ref (n.cl 0))
  n_Solution_numerators : NoAttr K (n.cl 0) "numerators"
  n_Solution_divisor : NoAttr K (n.cl 0) "divisor"
  cl_Sweep : Cls K (n.cl 1)
  mk_Sweep : Mk K (n.cl 1) (n.ad 8)
  g_Sweep : mg "Sweep" = some (.ref (n.cl 1))
  n_Sweep_table : NoAttr K (n.cl 1) "table"
  n_Sweep_pivots : NoAttr K (n.cl 1) "pivots"
  n_Sweep_divisor : NoAttr K (n.cl 1) "divisor"
  cl_Reader : Cls K (n.cl 2)
  mk_Reader : Mk K (n.cl 2) (n.ad 41)
  g_Reader : mg "Reader" = some (.ref (n.cl 2))
  n_Reader_calls : NoAttr K (n.cl 2) "calls"
  n_Reader_place : NoAttr K (n.cl 2) "place"
  cl_Fit : Cls K (n.cl 3)
  mk_Fit : Mk K (n.cl 3) (n.ad 47)
  g_Fit : mg "Fit" = some (.ref (n.cl 3))
  n_Fit_products : NoAttr K (n.cl 3) "products"
  n_Fit_moments : NoAttr K (n.cl 3) "moments"
  n_Fit_response_squares : NoAttr K (n.cl 3) "response_squares"
  n_Fit_row_count : NoAttr K (n.cl 3) "row_count"
  n_Fit_solution : NoAttr K (n.cl 3) "solution"
  n_Fit_rank : NoAttr K (n.cl 3) "rank"
  n_Fit_freedom : NoAttr K (n.cl 3) "freedom"
  cl_Model : Cls K (n.cl 4)
  mk_Model : Mk K (n.cl 4) (n.ad 55)
  g_Model : mg "Model" = some (.ref (n.cl 4))
  n_Model_column_count : NoAttr K (n.cl 4) "column_count"
  n_Model_terms : NoAttr K (n.cl 4) "terms"
  n_Model_rows : NoAttr K (n.cl 4) "rows"
  n_Model_responses : NoAttr K (n.cl 4) "responses"
  b_abs : mg "abs" = none
  b_all : mg "all" = none
  b_any : mg "any" = none
  b_enumerate : mg "enumerate" = none
  b_len : mg "len" = none
  b_list : mg "list" = none
  b_range : mg "range" = none
  b_sum : mg "sum" = none
  b_tuple : mg "tuple" = none
  b_zip : mg "zip" = none
  g_NOT_THERE : ∃ t, mg "NOT_THERE" = some (.int (-2) t)
  g_NOT_CREATED : ∃ t, mg "NOT_CREATED" = some (.int (-11) t)
  g_OUT_OF_RANGE : ∃ t, mg "OUT_OF_RANGE" = some (.int (-22) t)
  g_ROWS_FULL : ∃ t, mg "ROWS_FULL" = some (.int (-28) t)
  g_NO_RESULT : ∃ t, mg "NO_RESULT" = some (.int (-33) t)
  g_MOST_COLUMNS : ∃ t, mg "MOST_COLUMNS" = some (.int (8) t)
  g_MOST_ROWS : ∃ t, mg "MOST_ROWS" = some (.int (24) t)
  g_MOST_VARIABLES : ∃ t, mg "MOST_VARIABLES" = some (.int (3) t)
  g_LARGEST_ENTRY : ∃ t, mg "LARGEST_ENTRY" = some (.int (1000) t)
  g_LARGEST_NUMBER : ∃ t, mg "LARGEST_NUMBER" = some (.int (1000000) t)
  g_ANALYSIS_OPERATIONS : mg "ANALYSIS_OPERATIONS" = some (.ref (n.dc 2))
  g_ESTIMATE_OPERATIONS : mg "ESTIMATE_OPERATIONS" = some (.ref (n.dc 1))
  g_SHAPES : mg "SHAPES" = some (.ref (n.dc 4))
  g_STATE_OPERATIONS : mg "STATE_OPERATIONS" = some (.ref (n.dc 0))
  g_MINIMUM : ∃ t, mg "MINIMUM" = some (.int (0) t)
  g_MAXIMUM : ∃ t, mg "MAXIMUM" = some (.int (1) t)
  g_SADDLE : ∃ t, mg "SADDLE" = some (.int (2) t)
  g_SURFACE_OPERATIONS : mg "SURFACE_OPERATIONS" = some (.ref (n.dc 3))
  d_STATE_OPERATIONS : KDictI K (n.dc 0) (fs_STATE_OPERATIONS n)
  d_ESTIMATE_OPERATIONS : KDictI K (n.dc 1) (fs_ESTIMATE_OPERATIONS n)
  d_ANALYSIS_OPERATIONS : KDictI K (n.dc 2) (fs_ANALYSIS_OPERATIONS n)
  d_SURFACE_OPERATIONS : KDictI K (n.dc 3) (fs_SURFACE_OPERATIONS n)
  shp : ∃ as : List Addr, KTup K (n.dc 4) (as.map V.ref) ∧ as.length = 26 ∧ ∀ (i : Nat) (a : Addr), as[i]? = some a → ∀ p : Nat × Nat, shapesL[i]? = some p → KTup K a [.int (p.1 : Nat), .int (p.2 : Nat)]
end Lf
end
section
set_option Elab.async false
set_option linter.all false
set_option maxRecDepth 100000
set_option maxHeartbeats 2000000
/-! The head's end: the part of the heap that the top has written, by its addresses; dicts and tuples of it; a row's walk over it -/
namespace Lf
open PySem PySem.Spec PyProof.Rows L2 Ty
/-! a dict with int keys, tuples -/
def relD : List (Int × Addr) → List DictEntry → Bool
  | [], [] => true
  | p :: fs, e :: es => (match e.key, e.val with
    | .int i _, .ref a => decide (i = p.1) && (decide (a = p.2) && decide (e.hash = hashInt i))
    | _, _ => false) && relD fs es
  | _, _ => false
theorem relD_ok : ∀ {fs : List (Int × Addr)} {es : List DictEntry}, relD fs es = true → (∀ e ∈ es, ∃ i t, e.key = .int i t ∧ e.hash = hashInt i) ∧ ∀ i, (es.find? fun e => Value.isInt i e.key).map (·.val) = (fs.lookup i).map Value.ref
  | [], [], _ => ⟨fun e he => (by cases he), fun i => rfl⟩
  | p :: fs, e :: es, h => by
    obtain ⟨h1, h2⟩ := Bool.and_eq_true_iff.mp h
    obtain ⟨g1, g2⟩ := relD_ok h2
    obtain ⟨hs, ky, vl⟩ := e
    obtain ⟨k, a⟩ := p
    cases ky with
    | int i t =>
      cases vl with
      | ref b =>
        obtain ⟨a1, a2⟩ := Bool.and_eq_true_iff.mp h1
        obtain ⟨a3, a4⟩ := Bool.and_eq_true_iff.mp a2
        have b1 : i = k := of_decide_eq_true a1
        have b3 : b = a := of_decide_eq_true a3
        have a4 : hs = hashInt i := of_decide_eq_true a4
        clear a1 a3 a2 h1 h
        subst b1 b3
        refine ⟨fun e he => ?_, fun j => ?_⟩
        · rcases List.mem_cons.mp he with q | q
          · subst q; exact ⟨i, t, rfl, a4⟩
          · exact g1 e q
        · rw [List.find?_cons, List.lookup_cons]
          show ((match (i == j) with | true => _ | false => _) : Option DictEntry).map _ = _
          have e : (i == j) = (j == i) := by
            by_cases q : i = j
            · subst q; rfl
            · have q2 : ¬ j = i := fun z => q z.symm
              rw [beq_eq_false_iff_ne.mpr q, beq_eq_false_iff_ne.mpr q2]
          rw [e]
          cases j == i with
          | true => rfl
          | false => exact g2 j
      | _ => cases h1
    | _ => cases h1
  | [], _ :: _, h => by cases h
  | _ :: _, [], h => by cases h
def dicB (K : PySem.W.Frag) (d : Addr) (fs : List (Int × Addr)) : Bool := match K.lookup d with
  | some ⟨.type c, none, .dict es _, sl⟩ => decide (c = "dict") && (decide (sl = #[]) && (!(d == sysModules) && relD fs es.toList))
  | _ => false
theorem dicB_ok {K : PySem.W.Frag} {d : Addr} {fs : List (Int × Addr)} (h : dicB K d fs = true) : KDictI K d fs := by
  unfold dicB at h
  split at h
  · rename_i c es n sl q
    obtain ⟨h1, h⟩ := Bool.and_eq_true_iff.mp h
    obtain ⟨h2, h⟩ := Bool.and_eq_true_iff.mp h
    obtain ⟨h3, h4⟩ := Bool.and_eq_true_iff.mp h
    have h1 : c = "dict" := of_decide_eq_true h1
    have h2 : sl = #[] := of_decide_eq_true h2
    subst h1 h2
    obtain ⟨g1, g2⟩ := relD_ok h4
    refine ⟨⟨es, n, q, g1, fun i => ?_⟩, by simpa using h3⟩
    unfold findBy
    rw [← g2 i, ← Array.find?_toList]
  · cases h
def tupA (K : PySem.W.Frag) (a : Addr) (vs : List V) : Bool := match K.lookup a with
  | some ⟨.type c, _, .seq its _, _⟩ => decide (c = "tuple") && (decide (its.size ≤ sizeLine) && He.relAll vs its.toList)
  | _ => false
theorem tupA_ok {K : PySem.W.Frag} {a : Addr} {vs : List V} (h : tupA K a vs = true) : KTup K a vs := by
  unfold tupA at h
  split at h
  · rename_i c od its n sl q
    obtain ⟨h1, h⟩ := Bool.and_eq_true_iff.mp h
    obtain ⟨h2, h3⟩ := Bool.and_eq_true_iff.mp h
    have h1 : c = "tuple" := of_decide_eq_true h1
    subst h1
    exact ⟨_, its, n, q, rfl, rfl, of_decide_eq_true h2, He.relAll_ok h3⟩
  · cases h
def refsA (K : PySem.W.Frag) (a : Addr) : List Addr := match K.lookup a with
  | some ⟨_, _, .seq its _, _⟩ => its.toList.flatMap He.refV
  | _ => []
def pairV (p : Nat × Nat) : List V := [.int (p.1 : Nat), .int (p.2 : Nat)]
def allZ {A B : Type} (f : A → B → Bool) : List A → List B → Bool
  | a :: as, b :: bs => f a b && allZ f as bs
  | _, _ => true
theorem allZ_get {A B : Type} {f : A → B → Bool} : ∀ {as : List A} {bs : List B}, allZ f as bs = true → ∀ (i : Nat) (a : A), as[i]? = some a → ∀ b, bs[i]? = some b → f a b = true
  | a :: as, b :: bs, h, 0, x, hx, y, hy => by
    simp at hx hy; subst hx hy
    exact (Bool.and_eq_true_iff.mp h).1
  | a :: as, b :: bs, h, i + 1, x, hx, y, hy => allZ_get (Bool.and_eq_true_iff.mp h).2 i x (by simpa using hx) y (by simpa using hy)
  | [], _, _, i, x, hx, _, _ => by simp at hx
  | _ :: _, [], _, i, _, _, y, hy => by simp at hy
def shpB (K : PySem.W.Frag) (d : Addr) (ss : List (Nat × Nat)) : Bool := tupA K d ((refsA K d).map V.ref) && (decide ((refsA K d).length = ss.length) && allZ (fun a p => tupA K a (pairV p)) (refsA K d) ss)
theorem shpB_ok {K : PySem.W.Frag} {d : Addr} {ss : List (Nat × Nat)} (h : shpB K d ss = true) : ∃ as : List Addr, KTup K d (as.map V.ref) ∧ as.length = ss.length ∧ ∀ (i : Nat) (a : Addr), as[i]? = some a → ∀ p : Nat × Nat, ss[i]? = some p → KTup K a [.int (p.1 : Nat), .int (p.2 : Nat)] := by
  obtain ⟨h1, h⟩ := Bool.and_eq_true_iff.mp h
  obtain ⟨h2, h3⟩ := Bool.and_eq_true_iff.mp h
  exact ⟨refsA K d, tupA_ok h1, of_decide_eq_true h2, fun i a hi p hp => tupA_ok (allZ_get h3 i a hi p hp)⟩
/-! functions -/
def fdOf (K : PySem.W.Frag) (f : Addr) : FuncData := match K.lookup f with
  | some ⟨_, _, .func fd, _⟩ => fd
  | _ => default
theorem fun_of {K : PySem.W.Frag} {x q : Str} {st : Stmt} {f : Addr} (h : ∃ fd, FunD K x q (defArgs st) (defBody st) (defScope st) [] [] f fd) : Fun K x q st f (fdOf K f) ∧ FunD K x q (defArgs st) (defBody st) (defScope st) [] [] f (fdOf K f) := by
  obtain ⟨fd, F⟩ := h
  obtain ⟨oc, od, dV, kV, doc, pm, an, cdv, ct, osl, efd, lk, hcd, hD, hK⟩ := F.ex
  have e : fdOf K f = fd := by unfold fdOf; rw [lk]
  rw [e]
  refine ⟨⟨?_, F.kp⟩, F⟩
  rcases hD with ⟨_, ed⟩ | ⟨z, _⟩
  · subst ed
    exact ⟨oc, od, kV, doc, pm, an, cdv, ct, osl, efd, lk, hcd⟩
  · exact absurd rfl z
/-! the hook: objects by their places -/
def obR (pl : List Addr) (mine : PySem.W.Frag → Bool) (fa : List He.Fa) (fn : List He.DefD) (g : Addr → Option Obj) : Bool × He.AlD := (mine (He.frG g pl), He.obsD fa fn (He.frG g pl))
def SaysX (mine : PySem.W.Frag → Bool) (fa : List He.Fa) (fn : List He.DefD) (K : PySem.W.Frag) : Prop := mine K = true ∧ He.SaysD fa fn K
def hookX (pl : List Addr) (mine : PySem.W.Frag → Bool) (fa : List He.Fa) (fn : List He.DefD) : PySem.W.Hook where
  α := Bool × He.AlD
  obs := fun s => obR pl mine fa fn s.heap.get?
  val := fun _ => (true, He.valD fn)
  says := fun _ h => ∃ K : PySem.W.Frag, K.In h ∧ SaysX mine fa fn K
  of := fun _ s e => ⟨He.frG s.heap.get? pl, He.frG_in, congrArg Prod.fst e, congrArg Prod.snd e⟩
  keeps := fun _ _ _ ⟨K, hK, c⟩ k => ⟨K, fun a o e => k a o (hK a o e), c⟩
theorem obR_eq {pl : List Addr} {mine : PySem.W.Frag → Bool} {fa : List He.Fa} {fn : List He.DefD} {g : Addr → Option Obj} {s : Shared} (h : ∀ a, g a = s.heap.get? a) : obR pl mine fa fn g = (hookX pl mine fa fn).obs s := by
  have : g = s.heap.get? := funext h
  subst this; rfl
/-! the walk of a row whose part of the heap is told by such a hook -/
theorem walk_any {r : PySem.W.OpenSpec} {k : Nat} {q : Program} {loose : List Str} {XP : (Str → Option Value) → Heap → Prop} {YP : World → Heap → Prop} {d : DefRec} {ps : List Str} {sp : PySem.W.Frag → Sp}
    (hwell : r.wellSaid = true) (hlen : r.args.length = ps.length) (hr : Room k callerA)
    (F : ∀ (w : World) (mg : Str → Option Value) (fa : Addr) (h : Heap), YP w h → h.Ns mainGlobals mg → mg d.name = some (.ref fa) →
      ∃ (K : PySem.W.Frag) (fd : FuncData), K.In h ∧ (∀ (s : Shared) (us : List Value), us.length = ps.length → BindsTo s fd ⟨us, []⟩ (ps.zip us)) ∧
        ∀ base : Heap, K.In base → base.Ns mainGlobals mg → FnOk r.prog w K mg base CX0 k fa fd ps (sp K))
    (hsp : ∀ (K : PySem.W.Frag) (H : Hp) (xs : List V) (a : PySem.W.Codec.denoteAll r.args), OnlyF H → PySem.W.Codec.withinAll r.args a = true → PySem.W.Codec.app r.args r.asked a = true → DwAll K H xs (PySem.W.Codec.encAll r.args a) →
      sp K xs H (fun v H' => Dw K H' v (r.ret.enc (PySem.W.Codec.app r.args r.f a))) fun _ _ _ => False) :
    PySem.W.WalkOS q loose XP YP r d [] (fun f vs => PySem.call f vs) := by
  intro w s0 s1 mg mb G Y fa o pm cd doc dV kV ho hd hcd hD hmg hg args vals as hpre hlay hrd hwl hlo
  obtain ⟨a, ea, asked⟩ := PySem.W.os_pre_some hpre
  obtain ⟨ee, within⟩ := PySem.W.Codec.encAll_of_decAll r.args args a ea
  subst ee
  obtain ⟨K, fd, KX, bind, ok⟩ := F w mg fa _ Y G.T.g hmg
  have main := spec_call (R := []) (cl := PySem.classAt s0.heap) (d0 := r.ret.enc (PySem.W.Codec.app r.args r.f a)) KX G.T.g G.T.b G.T.builtins G.T.nolimit hg hwl (pl_encAll _ _)
    (layable_weight hlay) hr ok bind (by rw [encAll_len]; exact hlen) (fun H xs hO hS => hsp K H xs a hO within asked hS) fun _ _ _ z => z
  refine PySem.W.enter_call (codeAny_mono main fun out s2 told => ?_)
  obtain ⟨u, as2, rfl, t1, t2, t3, t4⟩ := told
  refine ⟨.inl ⟨u, _, as2, rfl, fun _ => rfl, t1, ?_, fun z => ?_⟩, t2, t3, t4⟩
  · exact (PySem.W.OpenSpec.post_iff hwell within _ _).mpr rfl
  · cases (show false = true from z)
end Lf
end
section
set_option Elab.async false
set_option linter.all false
set_option maxRecDepth 100000
set_option maxHeartbeats 0
/-! The head: what the top leaves, by runs of the kernel -/
namespace Lf
open PySem PySem.Spec PyProof.Rows L2 Ty
def dd_greatest_divisor : He.DefD := ⟨("greatest_divisor", none), "greatest_divisor", "greatest_divisor", defArgs st_greatest_divisor, defBody st_greatest_divisor, defScope st_greatest_divisor, [], []⟩
def dd_lowest_terms : He.DefD := ⟨("lowest_terms", none), "lowest_terms", "lowest_terms", defArgs st_lowest_terms, defBody st_lowest_terms, defScope st_lowest_terms, [], []⟩
def dd_difference : He.DefD := ⟨("difference", none), "difference", "difference", defArgs st_difference, defBody st_difference, defScope st_difference, [], []⟩
def dd_quotient : He.DefD := ⟨("quotient", none), "quotient", "quotient", defArgs st_quotient, defBody st_quotient, defScope st_quotient, [], []⟩
def dd_dot : He.DefD := ⟨("dot", none), "dot", "dot", defArgs st_dot, defBody st_dot, defScope st_dot, [], []⟩
def dd_Solution_init : He.DefD := ⟨("Solution", some "__init__"), "__init__", "Solution.__init__", defArgs st_Solution_init, defBody st_Solution_init, defScope st_Solution_init, [], []⟩
def dd_Solution_times : He.DefD := ⟨("Solution", some "times"), "times", "Solution.times", defArgs st_Solution_times, defBody st_Solution_times, defScope st_Solution_times, [], []⟩
def dd_Solution_fractions : He.DefD := ⟨("Solution", some "fractions"), "fractions", "Solution.fractions", defArgs st_Solution_fractions, defBody st_Solution_fractions, defScope st_Solution_fractions, [], []⟩
def dd_Sweep_init : He.DefD := ⟨("Sweep", some "__init__"), "__init__", "Sweep.__init__", defArgs st_Sweep_init, defBody st_Sweep_init, defScope st_Sweep_init, [], []⟩
def dd_Sweep_sweep_column : He.DefD := ⟨("Sweep", some "sweep_column"), "sweep_column", "Sweep.sweep_column", defArgs st_Sweep_sweep_column, defBody st_Sweep_sweep_column, defScope st_Sweep_sweep_column, [], []⟩
def dd_Sweep_pivot_place : He.DefD := ⟨("Sweep", some "pivot_place"), "pivot_place", "Sweep.pivot_place", defArgs st_Sweep_pivot_place, defBody st_Sweep_pivot_place, defScope st_Sweep_pivot_place, [], []⟩
def dd_Sweep_swept_row : He.DefD := ⟨("Sweep", some "swept_row"), "swept_row", "Sweep.swept_row", defArgs st_Sweep_swept_row, defBody st_Sweep_swept_row, defScope st_Sweep_swept_row, [], []⟩
def dd_rank_of : He.DefD := ⟨("rank_of", none), "rank_of", "rank_of", defArgs st_rank_of, defBody st_rank_of, defScope st_rank_of, [], []⟩
def dd_solved : He.DefD := ⟨("solved", none), "solved", "solved", defArgs st_solved, defBody st_solved, defScope st_solved, [], []⟩
def dd_determinant : He.DefD := ⟨("determinant", none), "determinant", "determinant", defArgs st_determinant, defBody st_determinant, defScope st_determinant, [], []⟩
def dd_all_within : He.DefD := ⟨("all_within", none), "all_within", "all_within", defArgs st_all_within, defBody st_all_within, defScope st_all_within, [], []⟩
def dd_gained : He.DefD := ⟨("gained", none), "gained", "gained", defArgs st_gained, defBody st_gained, defScope st_gained, [], []⟩
def dd_columns_before : He.DefD := ⟨("columns_before", none), "columns_before", "columns_before", defArgs st_columns_before, defBody st_columns_before, defScope st_columns_before, [], []⟩
def dd_columns_without : He.DefD := ⟨("columns_without", none), "columns_without", "columns_without", defArgs st_columns_without, defBody st_columns_without, defScope st_columns_without, [], []⟩
def dd_sequential : He.DefD := ⟨("sequential", none), "sequential", "sequential", defArgs st_sequential, defBody st_sequential, defScope st_sequential, [], []⟩
def dd_marginal_sum : He.DefD := ⟨("marginal_sum", none), "marginal_sum", "marginal_sum", defArgs st_marginal_sum, defBody st_marginal_sum, defScope st_marginal_sum, [], []⟩
def dd_marginal : He.DefD := ⟨("marginal", none), "marginal", "marginal", defArgs st_marginal, defBody st_marginal, defScope st_marginal, [], []⟩
def dd_f_ratio : He.DefD := ⟨("f_ratio", none), "f_ratio", "f_ratio", defArgs st_f_ratio, defBody st_f_ratio, defScope st_f_ratio, [], []⟩
def dd_response_groups : He.DefD := ⟨("response_groups", none), "response_groups", "response_groups", defArgs st_response_groups, defBody st_response_groups, defScope st_response_groups, [], []⟩
def dd_pure_error : He.DefD := ⟨("pure_error", none), "pure_error", "pure_error", defArgs st_pure_error, defBody st_pure_error, defScope st_pure_error, [], []⟩
def dd_lack_of_fit : He.DefD := ⟨("lack_of_fit", none), "lack_of_fit", "lack_of_fit", defArgs st_lack_of_fit, defBody st_lack_of_fit, defScope st_lack_of_fit, [], []⟩
def dd_rank : He.DefD := ⟨("rank", none), "rank", "rank", defArgs st_rank, defBody st_rank, defScope st_rank, [], []⟩
def dd_coefficients : He.DefD := ⟨("coefficients", none), "coefficients", "coefficients", defArgs st_coefficients, defBody st_coefficients, defScope st_coefficients, [], []⟩
def dd_told_estimate : He.DefD := ⟨("told_estimate", none), "told_estimate", "told_estimate", defArgs st_told_estimate, defBody st_told_estimate, defScope st_told_estimate, [], []⟩
def dd_estimate : He.DefD := ⟨("estimate", none), "estimate", "estimate", defArgs st_estimate, defBody st_estimate, defScope st_estimate, [], []⟩
def dd_predict : He.DefD := ⟨("predict", none), "predict", "predict", defArgs st_predict, defBody st_predict, defScope st_predict, [], []⟩
def dd_covariance : He.DefD := ⟨("covariance", none), "covariance", "covariance", defArgs st_covariance, defBody st_covariance, defScope st_covariance, [], []⟩
def dd_squared_ratio : He.DefD := ⟨("squared_ratio", none), "squared_ratio", "squared_ratio", defArgs st_squared_ratio, defBody st_squared_ratio, defScope st_squared_ratio, [], []⟩
def dd_residual : He.DefD := ⟨("residual", none), "residual", "residual", defArgs st_residual, defBody st_residual, defScope st_residual, [], []⟩
def dd_fitted : He.DefD := ⟨("fitted", none), "fitted", "fitted", defArgs st_fitted, defBody st_fitted, defScope st_fitted, [], []⟩
def dd_leverage : He.DefD := ⟨("leverage", none), "leverage", "leverage", defArgs st_leverage, defBody st_leverage, defScope st_leverage, [], []⟩
def dd_deleted : He.DefD := ⟨("deleted", none), "deleted", "deleted", defArgs st_deleted, defBody st_deleted, defScope st_deleted, [], []⟩
def dd_lost_value : He.DefD := ⟨("lost_value", none), "lost_value", "lost_value", defArgs st_lost_value, defBody st_lost_value, defScope st_lost_value, [], []⟩
def dd_residual_sum : He.DefD := ⟨("residual_sum", none), "residual_sum", "residual_sum", defArgs st_residual_sum, defBody st_residual_sum, defScope st_residual_sum, [], []⟩
def dd_variance_estimate : He.DefD := ⟨("variance_estimate", none), "variance_estimate", "variance_estimate", defArgs st_variance_estimate, defBody st_variance_estimate, defScope st_variance_estimate, [], []⟩
def dd_normal_equations : He.DefD := ⟨("normal_equations", none), "normal_equations", "normal_equations", defArgs st_normal_equations, defBody st_normal_equations, defScope st_normal_equations, [], []⟩
def dd_Reader_init : He.DefD := ⟨("Reader", some "__init__"), "__init__", "Reader.__init__", defArgs st_Reader_init, defBody st_Reader_init, defScope st_Reader_init, [], []⟩
def dd_Reader_at_end : He.DefD := ⟨("Reader", some "at_end"), "at_end", "Reader.at_end", defArgs st_Reader_at_end, defBody st_Reader_at_end, defScope st_Reader_at_end, [], []⟩
def dd_Reader_number : He.DefD := ⟨("Reader", some "number"), "number", "Reader.number", defArgs st_Reader_number, defBody st_Reader_number, defScope st_Reader_number, [], []⟩
def dd_Reader_row : He.DefD := ⟨("Reader", some "row"), "row", "Reader.row", defArgs st_Reader_row, defBody st_Reader_row, defScope st_Reader_row, [], []⟩
def dd_Reader_call : He.DefD := ⟨("Reader", some "call"), "call", "Reader.call", defArgs st_Reader_call, defBody st_Reader_call, defScope st_Reader_call, [], []⟩
def dd_read_calls : He.DefD := ⟨("read_calls", none), "read_calls", "read_calls", defArgs st_read_calls, defBody st_read_calls, defScope st_read_calls, [], []⟩
def dd_Fit_init : He.DefD := ⟨("Fit", some "__init__"), "__init__", "Fit.__init__", defArgs st_Fit_init, defBody st_Fit_init, defScope st_Fit_init, [], []⟩
def dd_Fit_part : He.DefD := ⟨("Fit", some "part"), "part", "Fit.part", defArgs st_Fit_part, defBody st_Fit_part, defScope st_Fit_part, [], []⟩
def dd_Fit_weights : He.DefD := ⟨("Fit", some "weights"), "weights", "Fit.weights", defArgs st_Fit_weights, defBody st_Fit_weights, defScope st_Fit_weights, [], []⟩
def dd_Fit_leverage : He.DefD := ⟨("Fit", some "leverage"), "leverage", "Fit.leverage", defArgs st_Fit_leverage, defBody st_Fit_leverage, defScope st_Fit_leverage, [], []⟩
def dd_Fit_estimate : He.DefD := ⟨("Fit", some "estimate"), "estimate", "Fit.estimate", defArgs st_Fit_estimate, defBody st_Fit_estimate, defScope st_Fit_estimate, [], []⟩
def dd_Fit_residual_sum : He.DefD := ⟨("Fit", some "residual_sum"), "residual_sum", "Fit.residual_sum", defArgs st_Fit_residual_sum, defBody st_Fit_residual_sum, defScope st_Fit_residual_sum, [], []⟩
def dd_Fit_variance : He.DefD := ⟨("Fit", some "variance"), "variance", "Fit.variance", defArgs st_Fit_variance, defBody st_Fit_variance, defScope st_Fit_variance, [], []⟩
def dd_fit_of : He.DefD := ⟨("fit_of", none), "fit_of", "fit_of", defArgs st_fit_of, defBody st_fit_of, defScope st_fit_of, [], []⟩
def dd_Model_init : He.DefD := ⟨("Model", some "__init__"), "__init__", "Model.__init__", defArgs st_Model_init, defBody st_Model_init, defScope st_Model_init, [], []⟩
def dd_Model_begin : He.DefD := ⟨("Model", some "begin"), "begin", "Model.begin", defArgs st_Model_begin, defBody st_Model_begin, defScope st_Model_begin, [], []⟩
def dd_Model_is_created : He.DefD := ⟨("Model", some "is_created"), "is_created", "Model.is_created", defArgs st_Model_is_created, defBody st_Model_is_created, defScope st_Model_is_created, [], []⟩
def dd_Model_has_row : He.DefD := ⟨("Model", some "has_row"), "has_row", "Model.has_row", defArgs st_Model_has_row, defBody st_Model_has_row, defScope st_Model_has_row, [], []⟩
def dd_Model_term_count : He.DefD := ⟨("Model", some "term_count"), "term_count", "Model.term_count", defArgs st_Model_term_count, defBody st_Model_term_count, defScope st_Model_term_count, [], []⟩
def dd_Model_fits_columns : He.DefD := ⟨("Model", some "fits_columns"), "fits_columns", "Model.fits_columns", defArgs st_Model_fits_columns, defBody st_Model_fits_columns, defScope st_Model_fits_columns, [], []⟩
def dd_Model_fits_terms : He.DefD := ⟨("Model", some "fits_terms"), "fits_terms", "Model.fits_terms", defArgs st_Model_fits_terms, defBody st_Model_fits_terms, defScope st_Model_fits_terms, [], []⟩
def dd_Model_fit : He.DefD := ⟨("Model", some "fit"), "fit", "Model.fit", defArgs st_Model_fit, defBody st_Model_fit, defScope st_Model_fit, [], []⟩
def dd_Model_fit_without : He.DefD := ⟨("Model", some "fit_without"), "fit_without", "Model.fit_without", defArgs st_Model_fit_without, defBody st_Model_fit_without, defScope st_Model_fit_without, [], []⟩
def dd_is_response : He.DefD := ⟨("is_response", none), "is_response", "is_response", defArgs st_is_response, defBody st_is_response, defScope st_is_response, [], []⟩
def dd_create : He.DefD := ⟨("create", none), "create", "create", defArgs st_create, defBody st_create, defScope st_create, [], []⟩
def dd_add_row : He.DefD := ⟨("add_row", none), "add_row", "add_row", defArgs st_add_row, defBody st_add_row, defScope st_add_row, [], []⟩
def dd_remove_row : He.DefD := ⟨("remove_row", none), "remove_row", "remove_row", defArgs st_remove_row, defBody st_remove_row, defScope st_remove_row, [], []⟩
def dd_set_response : He.DefD := ⟨("set_response", none), "set_response", "set_response", defArgs st_set_response, defBody st_set_response, defScope st_set_response, [], []⟩
def dd_set_terms : He.DefD := ⟨("set_terms", none), "set_terms", "set_terms", defArgs st_set_terms, defBody st_set_terms, defScope st_set_terms, [], []⟩
def dd_clear : He.DefD := ⟨("clear", none), "clear", "clear", defArgs st_clear, defBody st_clear, defScope st_clear, [], []⟩
def dd_get_row : He.DefD := ⟨("get_row", none), "get_row", "get_row", defArgs st_get_row, defBody st_get_row, defScope st_get_row, [], []⟩
def dd_summary : He.DefD := ⟨("summary", none), "summary", "summary", defArgs st_summary, defBody st_summary, defScope st_summary, [], []⟩
def dd_is_surface : He.DefD := ⟨("is_surface", none), "is_surface", "is_surface", defArgs st_is_surface, defBody st_is_surface, defScope st_is_surface, [], []⟩
def dd_hessian : He.DefD := ⟨("hessian", none), "hessian", "hessian", defArgs st_hessian, defBody st_hessian, defScope st_hessian, [], []⟩
def dd_leading_minors : He.DefD := ⟨("leading_minors", none), "leading_minors", "leading_minors", defArgs st_leading_minors, defBody st_leading_minors, defScope st_leading_minors, [], []⟩
def dd_kind_of : He.DefD := ⟨("kind_of", none), "kind_of", "kind_of", defArgs st_kind_of, defBody st_kind_of, defScope st_kind_of, [], []⟩
def dd_stationary : He.DefD := ⟨("stationary", none), "stationary", "stationary", defArgs st_stationary, defBody st_stationary, defScope st_stationary, [], []⟩
def dd_operation_of : He.DefD := ⟨("operation_of", none), "operation_of", "operation_of", defArgs st_operation_of, defBody st_operation_of, defScope st_operation_of, [], []⟩
def dd_answer_to : He.DefD := ⟨("answer_to", none), "answer_to", "answer_to", defArgs st_answer_to, defBody st_answer_to, defScope st_answer_to, [], []⟩
def dd_answers : He.DefD := ⟨("answers", none), "answers", "answers", defArgs st_answers, defBody st_answers, defScope st_answers, [], []⟩
def fnL0 : List He.DefD := [dd_greatest_divisor, dd_lowest_terms, dd_difference, dd_quotient, dd_dot, dd_Solution_init, dd_Solution_times, dd_Solution_fractions, dd_Sweep_init, dd_Sweep_sweep_column, dd_Sweep_pivot_place, dd_Sweep_swept_row, dd_rank_of, dd_solved, dd_determinant, dd_all_within, dd_gained, dd_columns_before, dd_columns_without, dd_sequential]
def fnL1 : List He.DefD := [dd_marginal_sum, dd_marginal, dd_f_ratio, dd_response_groups, dd_pure_error, dd_lack_of_fit, dd_rank, dd_coefficients, dd_told_estimate, dd_estimate, dd_predict, dd_covariance, dd_squared_ratio, dd_residual, dd_fitted, dd_leverage, dd_deleted, dd_lost_value, dd_residual_sum, dd_variance_estimate]
def fnL2 : List He.DefD := [dd_normal_equations, dd_Reader_init, dd_Reader_at_end, dd_Reader_number, dd_Reader_row, dd_Reader_call, dd_read_calls, dd_Fit_init, dd_Fit_part, dd_Fit_weights, dd_Fit_leverage, dd_Fit_estimate, dd_Fit_residual_sum, dd_Fit_variance, dd_fit_of, dd_Model_init, dd_Model_begin, dd_Model_is_created, dd_Model_has_row, dd_Model_term_count]
def fnL3 : List He.DefD := [dd_Model_fits_columns, dd_Model_fits_terms, dd_Model_fit, dd_Model_fit_without, dd_is_response, dd_create, dd_add_row, dd_remove_row, dd_set_response, dd_set_terms, dd_clear, dd_get_row, dd_summary, dd_is_surface, dd_hessian, dd_leading_minors, dd_kind_of, dd_stationary, dd_operation_of, dd_answer_to]
def fnL4 : List He.DefD := [dd_answers]
def fnL : List He.DefD := fnL0 ++ fnL1 ++ fnL2 ++ fnL3 ++ fnL4
def faL0 : List He.Fa := [.glo "greatest_divisor", .glo "lowest_terms", .glo "difference", .glo "quotient", .glo "dot", .glo "rank_of", .glo "solved", .glo "determinant", .glo "all_within", .glo "gained", .glo "columns_before", .glo "columns_without", .glo "sequential", .glo "marginal_sum", .glo "marginal", .glo "f_ratio", .glo "response_groups", .glo "pure_error", .glo "lack_of_fit", .glo "rank", .glo "coefficients", .glo "told_estimate", .glo "estimate", .glo "predict", .glo "covariance", .glo "squared_ratio", .glo "residual", .glo "fitted", .glo "leverage", .glo "deleted"]
def faL1 : List He.Fa := [.glo "lost_value", .glo "residual_sum", .glo "variance_estimate", .glo "normal_equations", .glo "read_calls", .glo "fit_of", .glo "is_response", .glo "create", .glo "add_row", .glo "remove_row", .glo "set_response", .glo "set_terms", .glo "clear", .glo "get_row", .glo "summary", .glo "is_surface", .glo "hessian", .glo "leading_minors", .glo "kind_of", .glo "stationary", .glo "operation_of", .glo "answer_to", .glo "answers", .glo "Solution", .glo "Sweep", .glo "Reader", .glo "Fit", .glo "Model", .glo "STATE_OPERATIONS", .glo "ESTIMATE_OPERATIONS"]
def faL2 : List He.Fa := [.glo "ANALYSIS_OPERATIONS", .glo "SURFACE_OPERATIONS", .glo "SHAPES", .cls "Solution", .mkr "Solution", .cls "Sweep", .mkr "Sweep", .cls "Reader", .mkr "Reader", .cls "Fit", .mkr "Fit", .cls "Model", .mkr "Model", .noat "Solution" "numerators", .noat "Solution" "divisor", .noat "Sweep" "table", .noat "Sweep" "pivots", .noat "Sweep" "divisor", .noat "Reader" "calls", .noat "Reader" "place", .noat "Fit" "products", .noat "Fit" "moments", .noat "Fit" "response_squares", .noat "Fit" "row_count", .noat "Fit" "solution", .noat "Fit" "rank", .noat "Fit" "freedom", .noat "Model" "column_count", .noat "Model" "terms", .noat "Model" "rows"]
def faL3 : List He.Fa := [.noat "Model" "responses", .meth "Solution" "times", .meth "Solution" "fractions", .meth "Sweep" "sweep_column", .meth "Sweep" "pivot_place", .meth "Sweep" "swept_row", .meth "Reader" "at_end", .meth "Reader" "number", .meth "Reader" "row", .meth "Reader" "call", .meth "Fit" "part", .meth "Fit" "weights", .meth "Fit" "leverage", .meth "Fit" "estimate", .meth "Fit" "residual_sum", .meth "Fit" "variance", .meth "Model" "begin", .meth "Model" "is_created", .meth "Model" "has_row", .meth "Model" "term_count", .meth "Model" "fits_columns", .meth "Model" "fits_terms", .meth "Model" "fit", .meth "Model" "fit_without", .free "abs", .free "all", .free "any", .free "enumerate", .free "len", .free "list"]
def faL4 : List He.Fa := [.free "range", .free "sum", .free "tuple", .free "zip", .int "NOT_THERE" (-2), .int "NOT_CREATED" (-11), .int "OUT_OF_RANGE" (-22), .int "ROWS_FULL" (-28), .int "NO_RESULT" (-33), .int "MOST_COLUMNS" (8), .int "MOST_ROWS" (24), .int "MOST_VARIABLES" (3), .int "LARGEST_ENTRY" (1000), .int "LARGEST_NUMBER" (1000000), .int "MINIMUM" (0), .int "MAXIMUM" (1), .int "SADDLE" (2)]
def faL : List He.Fa := faL0 ++ faL1 ++ faL2 ++ faL3 ++ faL4
def lsL0 : List Str := ["greatest_divisor", "lowest_terms", "difference", "quotient", "dot", "Solution", "Sweep", "rank_of", "solved", "determinant", "NOT_THERE", "NOT_CREATED", "OUT_OF_RANGE", "ROWS_FULL", "NO_RESULT", "MOST_COLUMNS", "MOST_ROWS", "MOST_VARIABLES", "LARGEST_ENTRY", "LARGEST_NUMBER", "all_within", "gained", "columns_before", "columns_without", "sequential", "marginal_sum", "marginal", "f_ratio", "response_groups", "pure_error"]
def lsL1 : List Str := ["lack_of_fit", "ANALYSIS_OPERATIONS", "rank", "coefficients", "told_estimate", "estimate", "predict", "covariance", "squared_ratio", "residual", "fitted", "leverage", "deleted", "lost_value", "residual_sum", "variance_estimate", "normal_equations", "ESTIMATE_OPERATIONS", "SHAPES", "Reader", "read_calls", "Fit", "fit_of", "Model", "is_response", "create", "add_row", "remove_row", "set_response", "set_terms"]
def lsL2 : List Str := ["clear", "get_row", "summary", "STATE_OPERATIONS", "MINIMUM", "MAXIMUM", "SADDLE", "is_surface", "hessian", "leading_minors", "kind_of", "stationary", "SURFACE_OPERATIONS", "operation_of", "answer_to"]
def lsL : List Str := lsL0 ++ lsL1 ++ lsL2
def nmA (K : PySem.W.Frag) (i : Nat) : Addr := match fnL[i]? with
  | some d => He.fAd K d.at_
  | none => 0
def nmC (K : PySem.W.Frag) : Nat → Addr
  | 0 => He.ga K "Solution"
  | 1 => He.ga K "Sweep"
  | 2 => He.ga K "Reader"
  | 3 => He.ga K "Fit"
  | 4 => He.ga K "Model"
  | _ => 0
def nmD (K : PySem.W.Frag) : Nat → Addr
  | 0 => He.ga K "STATE_OPERATIONS"
  | 1 => He.ga K "ESTIMATE_OPERATIONS"
  | 2 => He.ga K "ANALYSIS_OPERATIONS"
  | 3 => He.ga K "SURFACE_OPERATIONS"
  | 4 => He.ga K "SHAPES"
  | _ => 0
def nmOf (K : PySem.W.Frag) : Nm := ⟨nmA K, fun i => fdOf K (nmA K i), nmC K, nmD K⟩
def mineL (K : PySem.W.Frag) : Bool := dicB K (nmD K 0) (fs_STATE_OPERATIONS (nmOf K)) && (dicB K (nmD K 1) (fs_ESTIMATE_OPERATIONS (nmOf K)) && (dicB K (nmD K 2) (fs_ANALYSIS_OPERATIONS (nmOf K)) && (dicB K (nmD K 3) (fs_SURFACE_OPERATIONS (nmOf K)) && (shpB K (nmD K 4) shapesL))))
def plS : List Addr := List.range 651
abbrev rowS : PySem.W.OpenSpec := PySem.Challenge.rw_linearfits_s01_answers
abbrev hkS : PySem.W.Hook := hookX plS mineL faL fnL
def obS (s : PySem.W.SharedT) : Bool × He.AlD := obR plS mineL faL fnL (HandSHeadRun.getT s)
theorem obS_eq (s : PySem.W.SharedT) : obS s = hkS.obs s.abs := obR_eq (HandSHeadRun.getT_eq s)
abbrev vwS : Program := PySem.W.view rowS.prog [84]
theorem runF (w : World) : HandSHeadRun.RunEqS rowS vwS hkS obS 6000 lsL (w.withFollow "special-get-raises" false) := by
  intro os
  kernel_rfl
theorem runT (w : World) : HandSHeadRun.RunEqS rowS vwS hkS obS 6000 lsL (w.withFollow "special-get-raises" true) := by
  intro os
  kernel_rfl
theorem runS (w : World) : HandSHeadRun.RunEqS rowS vwS hkS obS 6000 lsL w := PySem.W.byRow2 "special-get-raises" (P := fun w => HandSHeadRun.RunEqS rowS vwS hkS obS 6000 lsL w) runF runT w
end Lf
end
section
set_option Elab.async false
set_option linter.all false
set_option maxRecDepth 100000
set_option maxHeartbeats 0
namespace Lf
open PySem PySem.Spec PyProof.Rows L2 Ty
theorem txt_of {K : PySem.W.Frag} {h : Heap} {mg : Str → Option Value} (X : K.In h) (G : h.Ns mainGlobals mg) (c : SaysX mineL faL fnL K) : Txt K mg (nmOf K) := by
  obtain ⟨c1, c⟩ := c
  have F0 := fun_of (K := K) (x := "greatest_divisor") (q := "greatest_divisor") (st := st_greatest_divisor) (f := nmA K 0) (c.def_ 0 (d := dd_greatest_divisor) rfl)
  have F1 := fun_of (K := K) (x := "lowest_terms") (q := "lowest_terms") (st := st_lowest_terms) (f := nmA K 1) (c.def_ 1 (d := dd_lowest_terms) rfl)
  have F2 := fun_of (K := K) (x := "difference") (q := "difference") (st := st_difference) (f := nmA K 2) (c.def_ 2 (d := dd_difference) rfl)
  have F3 := fun_of (K := K) (x := "quotient") (q := "quotient") (st := st_quotient) (f := nmA K 3) (c.def_ 3 (d := dd_quotient) rfl)
  have F4 := fun_of (K := K) (x := "dot") (q := "dot") (st := st_dot) (f := nmA K 4) (c.def_ 4 (d := dd_dot) rfl)
  have F5 := fun_of (K := K) (x := "__init__") (q := "Solution.__init__") (st := st_Solution_init) (f := nmA K 5) (c.def_ 5 (d := dd_Solution_init) rfl)
  have F6 := fun_of (K := K) (x := "times") (q := "Solution.times") (st := st_Solution_times) (f := nmA K 6) (c.def_ 6 (d := dd_Solution_times) rfl)
  have F7 := fun_of (K := K) (x := "fractions") (q := "Solution.fractions") (st := st_Solution_fractions) (f := nmA K 7) (c.def_ 7 (d := dd_Solution_fractions) rfl)
  have F8 := fun_of (K := K) (x := "__init__") (q := "Sweep.__init__") (st := st_Sweep_init) (f := nmA K 8) (c.def_ 8 (d := dd_Sweep_init) rfl)
  have F9 := fun_of (K := K) (x := "sweep_column") (q := "Sweep.sweep_column") (st := st_Sweep_sweep_column) (f := nmA K 9) (c.def_ 9 (d := dd_Sweep_sweep_column) rfl)
  have F10 := fun_of (K := K) (x := "pivot_place") (q := "Sweep.pivot_place") (st := st_Sweep_pivot_place) (f := nmA K 10) (c.def_ 10 (d := dd_Sweep_pivot_place) rfl)
  have F11 := fun_of (K := K) (x := "swept_row") (q := "Sweep.swept_row") (st := st_Sweep_swept_row) (f := nmA K 11) (c.def_ 11 (d := dd_Sweep_swept_row) rfl)
  have F12 := fun_of (K := K) (x := "rank_of") (q := "rank_of") (st := st_rank_of) (f := nmA K 12) (c.def_ 12 (d := dd_rank_of) rfl)
  have F13 := fun_of (K := K) (x := "solved") (q := "solved") (st := st_solved) (f := nmA K 13) (c.def_ 13 (d := dd_solved) rfl)
  have F14 := fun_of (K := K) (x := "determinant") (q := "determinant") (st := st_determinant) (f := nmA K 14) (c.def_ 14 (d := dd_determinant) rfl)
  have F15 := fun_of (K := K) (x := "all_within") (q := "all_within") (st := st_all_within) (f := nmA K 15) (c.def_ 15 (d := dd_all_within) rfl)
  have F16 := fun_of (K := K) (x := "gained") (q := "gained") (st := st_gained) (f := nmA K 16) (c.def_ 16 (d := dd_gained) rfl)
  have F17 := fun_of (K := K) (x := "columns_before") (q := "columns_before") (st := st_columns_before) (f := nmA K 17) (c.def_ 17 (d := dd_columns_before) rfl)
  have F18 := fun_of (K := K) (x := "columns_without") (q := "columns_without") (st := st_columns_without) (f := nmA K 18) (c.def_ 18 (d := dd_columns_without) rfl)
  have F19 := fun_of (K := K) (x := "sequential") (q := "sequential") (st := st_sequential) (f := nmA K 19) (c.def_ 19 (d := dd_sequential) rfl)
  have F20 := fun_of (K := K) (x := "marginal_sum") (q := "marginal_sum") (st := st_marginal_sum) (f := nmA K 20) (c.def_ 20 (d := dd_marginal_sum) rfl)
  have F21 := fun_of (K := K) (x := "marginal") (q := "marginal") (st := st_marginal) (f := nmA K 21) (c.def_ 21 (d := dd_marginal) rfl)
  have F22 := fun_of (K := K) (x := "f_ratio") (q := "f_ratio") (st := st_f_ratio) (f := nmA K 22) (c.def_ 22 (d := dd_f_ratio) rfl)
  have F23 := fun_of (K := K) (x := "response_groups") (q := "response_groups") (st := st_response_groups) (f := nmA K 23) (c.def_ 23 (d := dd_response_groups) rfl)
  have F24 := fun_of (K := K) (x := "pure_error") (q := "pure_error") (st := st_pure_error) (f := nmA K 24) (c.def_ 24 (d := dd_pure_error) rfl)
  have F25 := fun_of (K := K) (x := "lack_of_fit") (q := "lack_of_fit") (st := st_lack_of_fit) (f := nmA K 25) (c.def_ 25 (d := dd_lack_of_fit) rfl)
  have F26 := fun_of (K := K) (x := "rank") (q := "rank") (st := st_rank) (f := nmA K 26) (c.def_ 26 (d := dd_rank) rfl)
  have F27 := fun_of (K := K) (x := "coefficients") (q := "coefficients") (st := st_coefficients) (f := nmA K 27) (c.def_ 27 (d := dd_coefficients) rfl)
  have F28 := fun_of (K := K) (x := "told_estimate") (q := "told_estimate") (st := st_told_estimate) (f := nmA K 28) (c.def_ 28 (d := dd_told_estimate) rfl)
  have F29 := fun_of (K := K) (x := "estimate") (q := "estimate") (st := st_estimate) (f := nmA K 29) (c.def_ 29 (d := dd_estimate) rfl)
  have F30 := fun_of (K := K) (x := "predict") (q := "predict") (st := st_predict) (f := nmA K 30) (c.def_ 30 (d := dd_predict) rfl)
  have F31 := fun_of (K := K) (x := "covariance") (q := "covariance") (st := st_covariance) (f := nmA K 31) (c.def_ 31 (d := dd_covariance) rfl)
  have F32 := fun_of (K := K) (x := "squared_ratio") (q := "squared_ratio") (st := st_squared_ratio) (f := nmA K 32) (c.def_ 32 (d := dd_squared_ratio) rfl)
  have F33 := fun_of (K := K) (x := "residual") (q := "residual") (st := st_residual) (f := nmA K 33) (c.def_ 33 (d := dd_residual) rfl)
  have F34 := fun_of (K := K) (x := "fitted") (q := "fitted") (st := st_fitted) (f := nmA K 34) (c.def_ 34 (d := dd_fitted) rfl)
  have F35 := fun_of (K := K) (x := "leverage") (q := "leverage") (st := st_leverage) (f := nmA K 35) (c.def_ 35 (d := dd_leverage) rfl)
  have F36 := fun_of (K := K) (x := "deleted") (q := "deleted") (st := st_deleted) (f := nmA K 36) (c.def_ 36 (d := dd_deleted) rfl)
  have F37 := fun_of (K := K) (x := "lost_value") (q := "lost_value") (st := st_lost_value) (f := nmA K 37) (c.def_ 37 (d := dd_lost_value) rfl)
  have F38 := fun_of (K := K) (x := "residual_sum") (q := "residual_sum") (st := st_residual_sum) (f := nmA K 38) (c.def_ 38 (d := dd_residual_sum) rfl)
  have F39 := fun_of (K := K) (x := "variance_estimate") (q := "variance_estimate") (st := st_variance_estimate) (f := nmA K 39) (c.def_ 39 (d := dd_variance_estimate) rfl)
  have F40 := fun_of (K := K) (x := "normal_equations") (q := "normal_equations") (st := st_normal_equations) (f := nmA K 40) (c.def_ 40 (d := dd_normal_equations) rfl)
  have F41 := fun_of (K := K) (x := "__init__") (q := "Reader.__init__") (st := st_Reader_init) (f := nmA K 41) (c.def_ 41 (d := dd_Reader_init) rfl)
  have F42 := fun_of (K := K) (x := "at_end") (q := "Reader.at_end") (st := st_Reader_at_end) (f := nmA K 42) (c.def_ 42 (d := dd_Reader_at_end) rfl)
  have F43 := fun_of (K := K) (x := "number") (q := "Reader.number") (st := st_Reader_number) (f := nmA K 43) (c.def_ 43 (d := dd_Reader_number) rfl)
  have F44 := fun_of (K := K) (x := "row") (q := "Reader.row") (st := st_Reader_row) (f := nmA K 44) (c.def_ 44 (d := dd_Reader_row) rfl)
  have F45 := fun_of (K := K) (x := "call") (q := "Reader.call") (st := st_Reader_call) (f := nmA K 45) (c.def_ 45 (d := dd_Reader_call) rfl)
  have F46 := fun_of (K := K) (x := "read_calls") (q := "read_calls") (st := st_read_calls) (f := nmA K 46) (c.def_ 46 (d := dd_read_calls) rfl)
  have F47 := fun_of (K := K) (x := "__init__") (q := "Fit.__init__") (st := st_Fit_init) (f := nmA K 47) (c.def_ 47 (d := dd_Fit_init) rfl)
  have F48 := fun_of (K := K) (x := "part") (q := "Fit.part") (st := st_Fit_part) (f := nmA K 48) (c.def_ 48 (d := dd_Fit_part) rfl)
  have F49 := fun_of (K := K) (x := "weights") (q := "Fit.weights") (st := st_Fit_weights) (f := nmA K 49) (c.def_ 49 (d := dd_Fit_weights) rfl)
  have F50 := fun_of (K := K) (x := "leverage") (q := "Fit.leverage") (st := st_Fit_leverage) (f := nmA K 50) (c.def_ 50 (d := dd_Fit_leverage) rfl)
  have F51 := fun_of (K := K) (x := "estimate") (q := "Fit.estimate") (st := st_Fit_estimate) (f := nmA K 51) (c.def_ 51 (d := dd_Fit_estimate) rfl)
  have F52 := fun_of (K := K) (x := "residual_sum") (q := "Fit.residual_sum") (st := st_Fit_residual_sum) (f := nmA K 52) (c.def_ 52 (d := dd_Fit_residual_sum) rfl)
  have F53 := fun_of (K := K) (x := "variance") (q := "Fit.variance") (st := st_Fit_variance) (f := nmA K 53) (c.def_ 53 (d := dd_Fit_variance) rfl)
  have F54 := fun_of (K := K) (x := "fit_of") (q := "fit_of") (st := st_fit_of) (f := nmA K 54) (c.def_ 54 (d := dd_fit_of) rfl)
  have F55 := fun_of (K := K) (x := "__init__") (q := "Model.__init__") (st := st_Model_init) (f := nmA K 55) (c.def_ 55 (d := dd_Model_init) rfl)
  have F56 := fun_of (K := K) (x := "begin") (q := "Model.begin") (st := st_Model_begin) (f := nmA K 56) (c.def_ 56 (d := dd_Model_begin) rfl)
  have F57 := fun_of (K := K) (x := "is_created") (q := "Model.is_created") (st := st_Model_is_created) (f := nmA K 57) (c.def_ 57 (d := dd_Model_is_created) rfl)
  have F58 := fun_of (K := K) (x := "has_row") (q := "Model.has_row") (st := st_Model_has_row) (f := nmA K 58) (c.def_ 58 (d := dd_Model_has_row) rfl)
  have F59 := fun_of (K := K) (x := "term_count") (q := "Model.term_count") (st := st_Model_term_count) (f := nmA K 59) (c.def_ 59 (d := dd_Model_term_count) rfl)
  have F60 := fun_of (K := K) (x := "fits_columns") (q := "Model.fits_columns") (st := st_Model_fits_columns) (f := nmA K 60) (c.def_ 60 (d := dd_Model_fits_columns) rfl)
  have F61 := fun_of (K := K) (x := "fits_terms") (q := "Model.fits_terms") (st := st_Model_fits_terms) (f := nmA K 61) (c.def_ 61 (d := dd_Model_fits_terms) rfl)
  have F62 := fun_of (K := K) (x := "fit") (q := "Model.fit") (st := st_Model_fit) (f := nmA K 62) (c.def_ 62 (d := dd_Model_fit) rfl)
  have F63 := fun_of (K := K) (x := "fit_without") (q := "Model.fit_without") (st := st_Model_fit_without) (f := nmA K 63) (c.def_ 63 (d := dd_Model_fit_without) rfl)
  have F64 := fun_of (K := K) (x := "is_response") (q := "is_response") (st := st_is_response) (f := nmA K 64) (c.def_ 64 (d := dd_is_response) rfl)
  have F65 := fun_of (K := K) (x := "create") (q := "create") (st := st_create) (f := nmA K 65) (c.def_ 65 (d := dd_create) rfl)
  have F66 := fun_of (K := K) (x := "add_row") (q := "add_row") (st := st_add_row) (f := nmA K 66) (c.def_ 66 (d := dd_add_row) rfl)
  have F67 := fun_of (K := K) (x := "remove_row") (q := "remove_row") (st := st_remove_row) (f := nmA K 67) (c.def_ 67 (d := dd_remove_row) rfl)
  have F68 := fun_of (K := K) (x := "set_response") (q := "set_response") (st := st_set_response) (f := nmA K 68) (c.def_ 68 (d := dd_set_response) rfl)
  have F69 := fun_of (K := K) (x := "set_terms") (q := "set_terms") (st := st_set_terms) (f := nmA K 69) (c.def_ 69 (d := dd_set_terms) rfl)
  have F70 := fun_of (K := K) (x := "clear") (q := "clear") (st := st_clear) (f := nmA K 70) (c.def_ 70 (d := dd_clear) rfl)
  have F71 := fun_of (K := K) (x := "get_row") (q := "get_row") (st := st_get_row) (f := nmA K 71) (c.def_ 71 (d := dd_get_row) rfl)
  have F72 := fun_of (K := K) (x := "summary") (q := "summary") (st := st_summary) (f := nmA K 72) (c.def_ 72 (d := dd_summary) rfl)
  have F73 := fun_of (K := K) (x := "is_surface") (q := "is_surface") (st := st_is_surface) (f := nmA K 73) (c.def_ 73 (d := dd_is_surface) rfl)
  have F74 := fun_of (K := K) (x := "hessian") (q := "hessian") (st := st_hessian) (f := nmA K 74) (c.def_ 74 (d := dd_hessian) rfl)
  have F75 := fun_of (K := K) (x := "leading_minors") (q := "leading_minors") (st := st_leading_minors) (f := nmA K 75) (c.def_ 75 (d := dd_leading_minors) rfl)
  have F76 := fun_of (K := K) (x := "kind_of") (q := "kind_of") (st := st_kind_of) (f := nmA K 76) (c.def_ 76 (d := dd_kind_of) rfl)
  have F77 := fun_of (K := K) (x := "stationary") (q := "stationary") (st := st_stationary) (f := nmA K 77) (c.def_ 77 (d := dd_stationary) rfl)
  have F78 := fun_of (K := K) (x := "operation_of") (q := "operation_of") (st := st_operation_of) (f := nmA K 78) (c.def_ 78 (d := dd_operation_of) rfl)
  have F79 := fun_of (K := K) (x := "answer_to") (q := "answer_to") (st := st_answer_to) (f := nmA K 79) (c.def_ 79 (d := dd_answer_to) rfl)
  have F80 := fun_of (K := K) (x := "answers") (q := "answers") (st := st_answers) (f := nmA K 80) (c.def_ 80 (d := dd_answers) rfl)
  obtain ⟨hd0, hd1, hd2, hd3, hsh⟩ : dicB K (nmD K 0) (fs_STATE_OPERATIONS (nmOf K)) = true ∧ dicB K (nmD K 1) (fs_ESTIMATE_OPERATIONS (nmOf K)) = true ∧ dicB K (nmD K 2) (fs_ANALYSIS_OPERATIONS (nmOf K)) = true ∧ dicB K (nmD K 3) (fs_SURFACE_OPERATIONS (nmOf K)) = true ∧ shpB K (nmD K 4) shapesL = true := by
    simpa only [mineL, Bool.and_eq_true] using c1
  exact {
    f_greatest_divisor := F0.1
    b_greatest_divisor := FunD.bindsN F0.2 fun _ _ _ _ _ _ us hl => match us, hl with | [_, _], _ => rfl
    g_greatest_divisor := He.glo_ok X G (c.fact 0 (f := .glo "greatest_divisor") rfl)
    f_lowest_terms := F1.1
    b_lowest_terms := FunD.bindsN F1.2 fun _ _ _ _ _ _ us hl => match us, hl with | [_, _], _ => rfl
    g_lowest_terms := He.glo_ok X G (c.fact 1 (f := .glo "lowest_terms") rfl)
    f_difference := F2.1
    b_difference := FunD.bindsN F2.2 fun _ _ _ _ _ _ us hl => match us, hl with | [_, _], _ => rfl
    g_difference := He.glo_ok X G (c.fact 2 (f := .glo "difference") rfl)
    f_quotient := F3.1
    b_quotient := FunD.bindsN F3.2 fun _ _ _ _ _ _ us hl => match us, hl with | [_, _], _ => rfl
    g_quotient := He.glo_ok X G (c.fact 3 (f := .glo "quotient") rfl)
    f_dot := F4.1
    b_dot := FunD.bindsN F4.2 fun _ _ _ _ _ _ us hl => match us, hl with | [_, _], _ => rfl
    g_dot := He.glo_ok X G (c.fact 4 (f := .glo "dot") rfl)
    f_Solution_init := F5.1
    b_Solution_init := FunD.bindsN F5.2 fun _ _ _ _ _ _ us hl => match us, hl with | [_, _, _], _ => rfl
    f_Solution_times := F6.1
    b_Solution_times := FunD.bindsN F6.2 fun _ _ _ _ _ _ us hl => match us, hl with | [_, _], _ => rfl
    m_Solution_times := He.meth_ok (c.fact 91 (f := .meth "Solution" "times") rfl)
    f_Solution_fractions := F7.1
    b_Solution_fractions := FunD.bindsN F7.2 fun _ _ _ _ _ _ us hl => match us, hl with | [_], _ => rfl
    m_Solution_fractions := He.meth_ok (c.fact 92 (f := .meth "Solution" "fractions") rfl)
    f_Sweep_init := F8.1
    b_Sweep_init := FunD.bindsN F8.2 fun _ _ _ _ _ _ us hl => match us, hl with | [_, _, _], _ => rfl
    f_Sweep_sweep_column := F9.1
    b_Sweep_sweep_column := FunD.bindsN F9.2 fun _ _ _ _ _ _ us hl => match us, hl with | [_, _], _ => rfl
    m_Sweep_sweep_column := He.meth_ok (c.fact 93 (f := .meth "Sweep" "sweep_column") rfl)
    f_Sweep_pivot_place := F10.1
    b_Sweep_pivot_place := FunD.bindsN F10.2 fun _ _ _ _ _ _ us hl => match us, hl with | [_, _], _ => rfl
    m_Sweep_pivot_place := He.meth_ok (c.fact 94 (f := .meth "Sweep" "pivot_place") rfl)
    f_Sweep_swept_row := F11.1
    b_Sweep_swept_row := FunD.bindsN F11.2 fun _ _ _ _ _ _ us hl => match us, hl with | [_, _, _, _], _ => rfl
    m_Sweep_swept_row := He.meth_ok (c.fact 95 (f := .meth "Sweep" "swept_row") rfl)
    f_rank_of := F12.1
    b_rank_of := FunD.bindsN F12.2 fun _ _ _ _ _ _ us hl => match us, hl with | [_, _], _ => rfl
    g_rank_of := He.glo_ok X G (c.fact 5 (f := .glo "rank_of") rfl)
    f_solved := F13.1
    b_solved := FunD.bindsN F13.2 fun _ _ _ _ _ _ us hl => match us, hl with | [_, _], _ => rfl
    g_solved := He.glo_ok X G (c.fact 6 (f := .glo "solved") rfl)
    f_determinant := F14.1
    b_determinant := FunD.bindsN F14.2 fun _ _ _ _ _ _ us hl => match us, hl with | [_], _ => rfl
    g_determinant := He.glo_ok X G (c.fact 7 (f := .glo "determinant") rfl)
    f_all_within := F15.1
    b_all_within := FunD.bindsN F15.2 fun _ _ _ _ _ _ us hl => match us, hl with | [_, _], _ => rfl
    g_all_within := He.glo_ok X G (c.fact 8 (f := .glo "all_within") rfl)
    f_gained := F16.1
    b_gained := FunD.bindsN F16.2 fun _ _ _ _ _ _ us hl => match us, hl with | [_, _], _ => rfl
    g_gained := He.glo_ok X G (c.fact 9 (f := .glo "gained") rfl)
    f_columns_before := F17.1
    b_columns_before := FunD.bindsN F17.2 fun _ _ _ _ _ _ us hl => match us, hl with | [_, _], _ => rfl
    g_columns_before := He.glo_ok X G (c.fact 10 (f := .glo "columns_before") rfl)
    f_columns_without := F18.1
    b_columns_without := FunD.bindsN F18.2 fun _ _ _ _ _ _ us hl => match us, hl with | [_, _], _ => rfl
    g_columns_without := He.glo_ok X G (c.fact 11 (f := .glo "columns_without") rfl)
    f_sequential := F19.1
    b_sequential := FunD.bindsN F19.2 fun _ _ _ _ _ _ us hl => match us, hl with | [_, _], _ => rfl
    g_sequential := He.glo_ok X G (c.fact 12 (f := .glo "sequential") rfl)
    f_marginal_sum := F20.1
    b_marginal_sum := FunD.bindsN F20.2 fun _ _ _ _ _ _ us hl => match us, hl with | [_, _, _], _ => rfl
    g_marginal_sum := He.glo_ok X G (c.fact 13 (f := .glo "marginal_sum") rfl)
    f_marginal := F21.1
    b_marginal := FunD.bindsN F21.2 fun _ _ _ _ _ _ us hl => match us, hl with | [_, _], _ => rfl
    g_marginal := He.glo_ok X G (c.fact 14 (f := .glo "marginal") rfl)
    f_f_ratio := F22.1
    b_f_ratio := FunD.bindsN F22.2 fun _ _ _ _ _ _ us hl => match us, hl with | [_, _], _ => rfl
    g_f_ratio := He.glo_ok X G (c.fact 15 (f := .glo "f_ratio") rfl)
    f_response_groups := F23.1
    b_response_groups := FunD.bindsN F23.2 fun _ _ _ _ _ _ us hl => match us, hl with | [_], _ => rfl
    g_response_groups := He.glo_ok X G (c.fact 16 (f := .glo "response_groups") rfl)
    f_pure_error := F24.1
    b_pure_error := FunD.bindsN F24.2 fun _ _ _ _ _ _ us hl => match us, hl with | [_, _], _ => rfl
    g_pure_error := He.glo_ok X G (c.fact 17 (f := .glo "pure_error") rfl)
    f_lack_of_fit := F25.1
    b_lack_of_fit := FunD.bindsN F25.2 fun _ _ _ _ _ _ us hl => match us, hl with | [_, _], _ => rfl
    g_lack_of_fit := He.glo_ok X G (c.fact 18 (f := .glo "lack_of_fit") rfl)
    f_rank := F26.1
    b_rank := FunD.bindsN F26.2 fun _ _ _ _ _ _ us hl => match us, hl with | [_, _], _ => rfl
    g_rank := He.glo_ok X G (c.fact 19 (f := .glo "rank") rfl)
    f_coefficients := F27.1
    b_coefficients := FunD.bindsN F27.2 fun _ _ _ _ _ _ us hl => match us, hl with | [_, _], _ => rfl
    g_coefficients := He.glo_ok X G (c.fact 20 (f := .glo "coefficients") rfl)
    f_told_estimate := F28.1
    b_told_estimate := FunD.bindsN F28.2 fun _ _ _ _ _ _ us hl => match us, hl with | [_, _, _], _ => rfl
    g_told_estimate := He.glo_ok X G (c.fact 21 (f := .glo "told_estimate") rfl)
    f_estimate := F29.1
    b_estimate := FunD.bindsN F29.2 fun _ _ _ _ _ _ us hl => match us, hl with | [_, _], _ => rfl
    g_estimate := He.glo_ok X G (c.fact 22 (f := .glo "estimate") rfl)
    f_predict := F30.1
    b_predict := FunD.bindsN F30.2 fun _ _ _ _ _ _ us hl => match us, hl with | [_, _], _ => rfl
    g_predict := He.glo_ok X G (c.fact 23 (f := .glo "predict") rfl)
    f_covariance := F31.1
    b_covariance := FunD.bindsN F31.2 fun _ _ _ _ _ _ us hl => match us, hl with | [_, _], _ => rfl
    g_covariance := He.glo_ok X G (c.fact 24 (f := .glo "covariance") rfl)
    f_squared_ratio := F32.1
    b_squared_ratio := FunD.bindsN F32.2 fun _ _ _ _ _ _ us hl => match us, hl with | [_, _], _ => rfl
    g_squared_ratio := He.glo_ok X G (c.fact 25 (f := .glo "squared_ratio") rfl)
    f_residual := F33.1
    b_residual := FunD.bindsN F33.2 fun _ _ _ _ _ _ us hl => match us, hl with | [_, _, _], _ => rfl
    g_residual := He.glo_ok X G (c.fact 26 (f := .glo "residual") rfl)
    f_fitted := F34.1
    b_fitted := FunD.bindsN F34.2 fun _ _ _ _ _ _ us hl => match us, hl with | [_, _], _ => rfl
    g_fitted := He.glo_ok X G (c.fact 27 (f := .glo "fitted") rfl)
    f_leverage := F35.1
    b_leverage := FunD.bindsN F35.2 fun _ _ _ _ _ _ us hl => match us, hl with | [_, _], _ => rfl
    g_leverage := He.glo_ok X G (c.fact 28 (f := .glo "leverage") rfl)
    f_deleted := F36.1
    b_deleted := FunD.bindsN F36.2 fun _ _ _ _ _ _ us hl => match us, hl with | [_, _], _ => rfl
    g_deleted := He.glo_ok X G (c.fact 29 (f := .glo "deleted") rfl)
    f_lost_value := F37.1
    b_lost_value := FunD.bindsN F37.2 fun _ _ _ _ _ _ us hl => match us, hl with | [_, _], _ => rfl
    g_lost_value := He.glo_ok X G (c.fact 30 (f := .glo "lost_value") rfl)
    f_residual_sum := F38.1
    b_residual_sum := FunD.bindsN F38.2 fun _ _ _ _ _ _ us hl => match us, hl with | [_, _], _ => rfl
    g_residual_sum := He.glo_ok X G (c.fact 31 (f := .glo "residual_sum") rfl)
    f_variance_estimate := F39.1
    b_variance_estimate := FunD.bindsN F39.2 fun _ _ _ _ _ _ us hl => match us, hl with | [_, _], _ => rfl
    g_variance_estimate := He.glo_ok X G (c.fact 32 (f := .glo "variance_estimate") rfl)
    f_normal_equations := F40.1
    b_normal_equations := FunD.bindsN F40.2 fun _ _ _ _ _ _ us hl => match us, hl with | [_, _], _ => rfl
    g_normal_equations := He.glo_ok X G (c.fact 33 (f := .glo "normal_equations") rfl)
    f_Reader_init := F41.1
    b_Reader_init := FunD.bindsN F41.2 fun _ _ _ _ _ _ us hl => match us, hl with | [_, _], _ => rfl
    f_Reader_at_end := F42.1
    b_Reader_at_end := FunD.bindsN F42.2 fun _ _ _ _ _ _ us hl => match us, hl with | [_], _ => rfl
    m_Reader_at_end := He.meth_ok (c.fact 96 (f := .meth "Reader" "at_end") rfl)
    f_Reader_number := F43.1
    b_Reader_number := FunD.bindsN F43.2 fun _ _ _ _ _ _ us hl => match us, hl with | [_], _ => rfl
    m_Reader_number := He.meth_ok (c.fact 97 (f := .meth "Reader" "number") rfl)
    f_Reader_row := F44.1
    b_Reader_row := FunD.bindsN F44.2 fun _ _ _ _ _ _ us hl => match us, hl with | [_], _ => rfl
    m_Reader_row := He.meth_ok (c.fact 98 (f := .meth "Reader" "row") rfl)
    f_Reader_call := F45.1
    b_Reader_call := FunD.bindsN F45.2 fun _ _ _ _ _ _ us hl => match us, hl with | [_], _ => rfl
    m_Reader_call := He.meth_ok (c.fact 99 (f := .meth "Reader" "call") rfl)
    f_read_calls := F46.1
    b_read_calls := FunD.bindsN F46.2 fun _ _ _ _ _ _ us hl => match us, hl with | [_], _ => rfl
    g_read_calls := He.glo_ok X G (c.fact 34 (f := .glo "read_calls") rfl)
    f_Fit_init := F47.1
    b_Fit_init := FunD.bindsN F47.2 fun _ _ _ _ _ _ us hl => match us, hl with | [_, _, _, _, _], _ => rfl
    f_Fit_part := F48.1
    b_Fit_part := FunD.bindsN F48.2 fun _ _ _ _ _ _ us hl => match us, hl with | [_, _], _ => rfl
    m_Fit_part := He.meth_ok (c.fact 100 (f := .meth "Fit" "part") rfl)
    f_Fit_weights := F49.1
    b_Fit_weights := FunD.bindsN F49.2 fun _ _ _ _ _ _ us hl => match us, hl with | [_, _], _ => rfl
    m_Fit_weights := He.meth_ok (c.fact 101 (f := .meth "Fit" "weights") rfl)
    f_Fit_leverage := F50.1
    b_Fit_leverage := FunD.bindsN F50.2 fun _ _ _ _ _ _ us hl => match us, hl with | [_, _], _ => rfl
    m_Fit_leverage := He.meth_ok (c.fact 102 (f := .meth "Fit" "leverage") rfl)
    f_Fit_estimate := F51.1
    b_Fit_estimate := FunD.bindsN F51.2 fun _ _ _ _ _ _ us hl => match us, hl with | [_, _], _ => rfl
    m_Fit_estimate := He.meth_ok (c.fact 103 (f := .meth "Fit" "estimate") rfl)
    f_Fit_residual_sum := F52.1
    b_Fit_residual_sum := FunD.bindsN F52.2 fun _ _ _ _ _ _ us hl => match us, hl with | [_], _ => rfl
    m_Fit_residual_sum := He.meth_ok (c.fact 104 (f := .meth "Fit" "residual_sum") rfl)
    f_Fit_variance := F53.1
    b_Fit_variance := FunD.bindsN F53.2 fun _ _ _ _ _ _ us hl => match us, hl with | [_], _ => rfl
    m_Fit_variance := He.meth_ok (c.fact 105 (f := .meth "Fit" "variance") rfl)
    f_fit_of := F54.1
    b_fit_of := FunD.bindsN F54.2 fun _ _ _ _ _ _ us hl => match us, hl with | [_, _, _], _ => rfl
    g_fit_of := He.glo_ok X G (c.fact 35 (f := .glo "fit_of") rfl)
    f_Model_init := F55.1
    b_Model_init := FunD.bindsN F55.2 fun _ _ _ _ _ _ us hl => match us, hl with | [_], _ => rfl
    f_Model_begin := F56.1
    b_Model_begin := FunD.bindsN F56.2 fun _ _ _ _ _ _ us hl => match us, hl with | [_, _], _ => rfl
    m_Model_begin := He.meth_ok (c.fact 106 (f := .meth "Model" "begin") rfl)
    f_Model_is_created := F57.1
    b_Model_is_created := FunD.bindsN F57.2 fun _ _ _ _ _ _ us hl => match us, hl with | [_], _ => rfl
    m_Model_is_created := He.meth_ok (c.fact 107 (f := .meth "Model" "is_created") rfl)
    f_Model_has_row := F58.1
    b_Model_has_row := FunD.bindsN F58.2 fun _ _ _ _ _ _ us hl => match us, hl with | [_, _], _ => rfl
    m_Model_has_row := He.meth_ok (c.fact 108 (f := .meth "Model" "has_row") rfl)
    f_Model_term_count := F59.1
    b_Model_term_count := FunD.bindsN F59.2 fun _ _ _ _ _ _ us hl => match us, hl with | [_], _ => rfl
    m_Model_term_count := He.meth_ok (c.fact 109 (f := .meth "Model" "term_count") rfl)
    f_Model_fits_columns := F60.1
    b_Model_fits_columns := FunD.bindsN F60.2 fun _ _ _ _ _ _ us hl => match us, hl with | [_, _], _ => rfl
    m_Model_fits_columns := He.meth_ok (c.fact 110 (f := .meth "Model" "fits_columns") rfl)
    f_Model_fits_terms := F61.1
    b_Model_fits_terms := FunD.bindsN F61.2 fun _ _ _ _ _ _ us hl => match us, hl with | [_, _], _ => rfl
    m_Model_fits_terms := He.meth_ok (c.fact 111 (f := .meth "Model" "fits_terms") rfl)
    f_Model_fit := F62.1
    b_Model_fit := FunD.bindsN F62.2 fun _ _ _ _ _ _ us hl => match us, hl with | [_], _ => rfl
    m_Model_fit := He.meth_ok (c.fact 112 (f := .meth "Model" "fit") rfl)
    f_Model_fit_without := F63.1
    b_Model_fit_without := FunD.bindsN F63.2 fun _ _ _ _ _ _ us hl => match us, hl with | [_, _], _ => rfl
    m_Model_fit_without := He.meth_ok (c.fact 113 (f := .meth "Model" "fit_without") rfl)
    f_is_response := F64.1
    b_is_response := FunD.bindsN F64.2 fun _ _ _ _ _ _ us hl => match us, hl with | [_], _ => rfl
    g_is_response := He.glo_ok X G (c.fact 36 (f := .glo "is_response") rfl)
    f_create := F65.1
    b_create := FunD.bindsN F65.2 fun _ _ _ _ _ _ us hl => match us, hl with | [_, _], _ => rfl
    g_create := He.glo_ok X G (c.fact 37 (f := .glo "create") rfl)
    f_add_row := F66.1
    b_add_row := FunD.bindsN F66.2 fun _ _ _ _ _ _ us hl => match us, hl with | [_, _], _ => rfl
    g_add_row := He.glo_ok X G (c.fact 38 (f := .glo "add_row") rfl)
    f_remove_row := F67.1
    b_remove_row := FunD.bindsN F67.2 fun _ _ _ _ _ _ us hl => match us, hl with | [_, _], _ => rfl
    g_remove_row := He.glo_ok X G (c.fact 39 (f := .glo "remove_row") rfl)
    f_set_response := F68.1
    b_set_response := FunD.bindsN F68.2 fun _ _ _ _ _ _ us hl => match us, hl with | [_, _], _ => rfl
    g_set_response := He.glo_ok X G (c.fact 40 (f := .glo "set_response") rfl)
    f_set_terms := F69.1
    b_set_terms := FunD.bindsN F69.2 fun _ _ _ _ _ _ us hl => match us, hl with | [_, _], _ => rfl
    g_set_terms := He.glo_ok X G (c.fact 41 (f := .glo "set_terms") rfl)
    f_clear := F70.1
    b_clear := FunD.bindsN F70.2 fun _ _ _ _ _ _ us hl => match us, hl with | [_, _], _ => rfl
    g_clear := He.glo_ok X G (c.fact 42 (f := .glo "clear") rfl)
    f_get_row := F71.1
    b_get_row := FunD.bindsN F71.2 fun _ _ _ _ _ _ us hl => match us, hl with | [_, _], _ => rfl
    g_get_row := He.glo_ok X G (c.fact 43 (f := .glo "get_row") rfl)
    f_summary := F72.1
    b_summary := FunD.bindsN F72.2 fun _ _ _ _ _ _ us hl => match us, hl with | [_, _], _ => rfl
    g_summary := He.glo_ok X G (c.fact 44 (f := .glo "summary") rfl)
    f_is_surface := F73.1
    b_is_surface := FunD.bindsN F73.2 fun _ _ _ _ _ _ us hl => match us, hl with | [_, _, _, _], _ => rfl
    g_is_surface := He.glo_ok X G (c.fact 45 (f := .glo "is_surface") rfl)
    f_hessian := F74.1
    b_hessian := FunD.bindsN F74.2 fun _ _ _ _ _ _ us hl => match us, hl with | [_, _], _ => rfl
    g_hessian := He.glo_ok X G (c.fact 46 (f := .glo "hessian") rfl)
    f_leading_minors := F75.1
    b_leading_minors := FunD.bindsN F75.2 fun _ _ _ _ _ _ us hl => match us, hl with | [_], _ => rfl
    g_leading_minors := He.glo_ok X G (c.fact 47 (f := .glo "leading_minors") rfl)
    f_kind_of := F76.1
    b_kind_of := FunD.bindsN F76.2 fun _ _ _ _ _ _ us hl => match us, hl with | [_], _ => rfl
    g_kind_of := He.glo_ok X G (c.fact 48 (f := .glo "kind_of") rfl)
    f_stationary := F77.1
    b_stationary := FunD.bindsN F77.2 fun _ _ _ _ _ _ us hl => match us, hl with | [_, _], _ => rfl
    g_stationary := He.glo_ok X G (c.fact 49 (f := .glo "stationary") rfl)
    f_operation_of := F78.1
    b_operation_of := FunD.bindsN F78.2 fun _ _ _ _ _ _ us hl => match us, hl with | [_], _ => rfl
    g_operation_of := He.glo_ok X G (c.fact 50 (f := .glo "operation_of") rfl)
    f_answer_to := F79.1
    b_answer_to := FunD.bindsN F79.2 fun _ _ _ _ _ _ us hl => match us, hl with | [_, _, _], _ => rfl
    g_answer_to := He.glo_ok X G (c.fact 51 (f := .glo "answer_to") rfl)
    f_answers := F80.1
    b_answers := FunD.bindsN F80.2 fun _ _ _ _ _ _ us hl => match us, hl with | [_], _ => rfl
    g_answers := He.glo_ok X G (c.fact 52 (f := .glo "answers") rfl)
    cl_Solution := He.cls_ok (c.fact 63 (f := .cls "Solution") rfl)
    mk_Solution := He.mkr_ok (c.fact 64 (f := .mkr "Solution") rfl)
    g_Solution := He.glo_ok X G (c.fact 53 (f := .glo "Solution") rfl)
    n_Solution_numerators := He.noat_ok (c.fact 73 (f := .noat "Solution" "numerators") rfl)
    n_Solution_divisor := He.noat_ok (c.fact 74 (f := .noat "Solution" "divisor") rfl)
    cl_Sweep := He.cls_ok (c.fact 65 (f := .cls "Sweep") rfl)
    mk_Sweep := He.mkr_ok (c.fact 66 (f := .mkr "Sweep") rfl)
    g_Sweep := He.glo_ok X G (c.fact 54 (f := .glo "Sweep") rfl)
    n_Sweep_table := He.noat_ok (c.fact 75 (f := .noat "Sweep" "table") rfl)
    n_Sweep_pivots := He.noat_ok (c.fact 76 (f := .noat "Sweep" "pivots") rfl)
    n_Sweep_divisor := He.noat_ok (c.fact 77 (f := .noat "Sweep" "divisor") rfl)
    cl_Reader := He.cls_ok (c.fact 67 (f := .cls "Reader") rfl)
    mk_Reader := He.mkr_ok (c.fact 68 (f := .mkr "Reader") rfl)
    g_Reader := He.glo_ok X G (c.fact 55 (f := .glo "Reader") rfl)
    n_Reader_calls := He.noat_ok (c.fact 78 (f := .noat "Reader" "calls") rfl)
    n_Reader_place := He.noat_ok (c.fact 79 (f := .noat "Reader" "place") rfl)
    cl_Fit := He.cls_ok (c.fact 69 (f := .cls "Fit") rfl)
    mk_Fit := He.mkr_ok (c.fact 70 (f := .mkr "Fit") rfl)
    g_Fit := He.glo_ok X G (c.fact 56 (f := .glo "Fit") rfl)
    n_Fit_products := He.noat_ok (c.fact 80 (f := .noat "Fit" "products") rfl)
    n_Fit_moments := He.noat_ok (c.fact 81 (f := .noat "Fit" "moments") rfl)
    n_Fit_response_squares := He.noat_ok (c.fact 82 (f := .noat "Fit" "response_squares") rfl)
    n_Fit_row_count := He.noat_ok (c.fact 83 (f := .noat "Fit" "row_count") rfl)
    n_Fit_solution := He.noat_ok (c.fact 84 (f := .noat "Fit" "solution") rfl)
    n_Fit_rank := He.noat_ok (c.fact 85 (f := .noat "Fit" "rank") rfl)
    n_Fit_freedom := He.noat_ok (c.fact 86 (f := .noat "Fit" "freedom") rfl)
    cl_Model := He.cls_ok (c.fact 71 (f := .cls "Model") rfl)
    mk_Model := He.mkr_ok (c.fact 72 (f := .mkr "Model") rfl)
    g_Model := He.glo_ok X G (c.fact 57 (f := .glo "Model") rfl)
    n_Model_column_count := He.noat_ok (c.fact 87 (f := .noat "Model" "column_count") rfl)
    n_Model_terms := He.noat_ok (c.fact 88 (f := .noat "Model" "terms") rfl)
    n_Model_rows := He.noat_ok (c.fact 89 (f := .noat "Model" "rows") rfl)
    n_Model_responses := He.noat_ok (c.fact 90 (f := .noat "Model" "responses") rfl)
    b_abs := He.free_ok X G (c.fact 114 (f := .free "abs") rfl)
    b_all := He.free_ok X G (c.fact 115 (f := .free "all") rfl)
    b_any := He.free_ok X G (c.fact 116 (f := .free "any") rfl)
    b_enumerate := He.free_ok X G (c.fact 117 (f := .free "enumerate") rfl)
    b_len := He.free_ok X G (c.fact 118 (f := .free "len") rfl)
    b_list := He.free_ok X G (c.fact 119 (f := .free "list") rfl)
    b_range := He.free_ok X G (c.fact 120 (f := .free "range") rfl)
    b_sum := He.free_ok X G (c.fact 121 (f := .free "sum") rfl)
    b_tuple := He.free_ok X G (c.fact 122 (f := .free "tuple") rfl)
    b_zip := He.free_ok X G (c.fact 123 (f := .free "zip") rfl)
    g_NOT_THERE := He.int_ok X G (c.fact 124 (f := .int "NOT_THERE" (-2)) rfl)
    g_NOT_CREATED := He.int_ok X G (c.fact 125 (f := .int "NOT_CREATED" (-11)) rfl)
    g_OUT_OF_RANGE := He.int_ok X G (c.fact 126 (f := .int "OUT_OF_RANGE" (-22)) rfl)
    g_ROWS_FULL := He.int_ok X G (c.fact 127 (f := .int "ROWS_FULL" (-28)) rfl)
    g_NO_RESULT := He.int_ok X G (c.fact 128 (f := .int "NO_RESULT" (-33)) rfl)
    g_MOST_COLUMNS := He.int_ok X G (c.fact 129 (f := .int "MOST_COLUMNS" (8)) rfl)
    g_MOST_ROWS := He.int_ok X G (c.fact 130 (f := .int "MOST_ROWS" (24)) rfl)
    g_MOST_VARIABLES := He.int_ok X G (c.fact 131 (f := .int "MOST_VARIABLES" (3)) rfl)
    g_LARGEST_ENTRY := He.int_ok X G (c.fact 132 (f := .int "LARGEST_ENTRY" (1000)) rfl)
    g_LARGEST_NUMBER := He.int_ok X G (c.fact 133 (f := .int "LARGEST_NUMBER" (1000000)) rfl)
    g_ANALYSIS_OPERATIONS := He.glo_ok X G (c.fact 60 (f := .glo "ANALYSIS_OPERATIONS") rfl)
    g_ESTIMATE_OPERATIONS := He.glo_ok X G (c.fact 59 (f := .glo "ESTIMATE_OPERATIONS") rfl)
    g_SHAPES := He.glo_ok X G (c.fact 62 (f := .glo "SHAPES") rfl)
    g_STATE_OPERATIONS := He.glo_ok X G (c.fact 58 (f := .glo "STATE_OPERATIONS") rfl)
    g_MINIMUM := He.int_ok X G (c.fact 134 (f := .int "MINIMUM" (0)) rfl)
    g_MAXIMUM := He.int_ok X G (c.fact 135 (f := .int "MAXIMUM" (1)) rfl)
    g_SADDLE := He.int_ok X G (c.fact 136 (f := .int "SADDLE" (2)) rfl)
    g_SURFACE_OPERATIONS := He.glo_ok X G (c.fact 61 (f := .glo "SURFACE_OPERATIONS") rfl)
    d_STATE_OPERATIONS := dicB_ok hd0
    d_ESTIMATE_OPERATIONS := dicB_ok hd1
    d_ANALYSIS_OPERATIONS := dicB_ok hd2
    d_SURFACE_OPERATIONS := dicB_ok hd3
    shp := shpB_ok hsh }
end Lf
end
section
set_option Elab.async false
set_option linter.all false
set_option maxRecDepth 100000
set_option maxHeartbeats 2000000
namespace Lf
open PySem PySem.Spec PyProof.Rows L2 Ty NB
def Li (l : List Int) : VP := Lv (l.map Iv)
def Mx (M : List (List Int)) : VP := Lv (M.map Li)
def Fr (q : Rat) : VP := Lv [Iv q.num, Iv (q.den : Nat)]
theorem fdivX_ok {a b : Int} {k : Nat} (hb : b ≠ 0) (h : Bn k b.natAbs) (h0 : 0 < k) (hk : k ≤ 9000) : CDivX a b := ⟨hb, Nat.lt_of_lt_of_le (PySem.Flt.log2_lt_of h0 h) hk⟩
theorem mulW_ok {i j : Int} {a b : Nat} (ha : Bn a i.natAbs) (hb : Bn b j.natAbs) (h0 : 0 < a) (h1 : 0 < b) (h : a + b ≤ 1000000) : CMulW i j := wide_mul ha hb h0 h1 h
theorem zip_map2 {α β γ δ : Type} (f : α → β → γ) (g : γ → δ) : ∀ (a : List α) (b : List β), List.zipWith (fun x y => g (f x y)) a b = (List.zipWith f a b).map g
  | [], _ => rfl
  | _ :: _, [] => rfl
  | x :: a, y :: b => by rw [List.zipWith_cons_cons, List.zipWith_cons_cons, List.map_cons, zip_map2 f g a b]
/-- pairs of numbers that are told as fractions -/
structure PQ where
  a : Int
  b : Int
  c : Int
  d : Int
def PQ.ps (x : PQ) : List VP := [Lv [Iv x.a, Iv x.b], Lv [Iv x.c, Iv x.d]]
structure PQ.Ok (x : PQ) : Prop where
  b0 : x.b ≠ 0
  d0 : x.d ≠ 0
  la : Bn 4000 x.a.natAbs
  lb : Bn 4000 x.b.natAbs
  lc : Bn 4000 x.c.natAbs
  ld : Bn 4000 x.d.natAbs
section
variable {P : Program} {w : World} {K : PySem.W.Frag} {mg : Str → Option Value} {base : Heap} {n : Nm} (T : Txt K mg n)
include T
/-! greatest_divisor -/
theorem ok_greatest_divisor : FnOk P w K mg base CX0 1 (n.ad 0) (n.fd 0) ["first", "second"] (spF (fun x : Nat × Nat => [Iv (x.1 : Nat), Iv (x.2 : Nat)]) (fun _ => True) (fun x => Iv (Nat.gcd x.1 x.2 : Nat))) := by
  refine fn_ty T.f_greatest_divisor sc_greatest_divisor (fun _ => rfl) fun cdv Ar outer s H E' hr => ⟨_, (pss_cons (ps_while PassesOwn.never (pt_cmpR op_ne (pv 1) pe_int (nomark _)) (pss_cons (ps_set (i := 2) sc_greatest_divisor.nd rfl (Or.inl rfl) (pe_op op_modN (pv 0) (pv 1)))
        (pss_cons (ps_set (i := 0) sc_greatest_divisor.nd rfl (Or.inl rfl) (pv 1))
        (pss_one (ps_set (i := 1) sc_greatest_divisor.nd rfl (Or.inl rfl) (pv 2))))))
        (pss_one (ps_ret (pv 0)))), ?_⟩
  rintro ⟨a, b⟩ _
  refine s_seq (G1 := [im (Iv (Nat.gcd a b : Nat)), any, any]) (s_while (Z := { z : Nat × Nat // Nat.gcd z.1 z.2 = Nat.gcd a b }) (fun z => [im (Iv (z.1.1 : Nat)), im (Iv (z.1.2 : Nat)), any]) (fun z => z.1.2) ⟨(a, b), rfl⟩ sub_refl (fun z => !decide ((z.1.2 : Int) = 0)) (fun z => (t_test (e_ne (e_var rfl) (e_int _)))) ?_ ?_) (s_ret (e_var rfl))
  · rintro ⟨⟨x, y⟩, hz⟩ hb
    have hy : y ≠ 0 := by
      intro e
      subst e
      simp at hb
    refine ⟨⟨(y, x % y), by rw [← hz]; show Nat.gcd y (x % y) = Nat.gcd x y; rw [Nat.gcd_comm, ← Nat.gcd_rec, Nat.gcd_comm]⟩, Nat.mod_lt _ (Nat.pos_of_ne_zero hy), ?_⟩
    refine q_asg (P := Iv ((x % y : Nat) : Int)) (E.eq (e_mod ?_ (e_var rfl) (e_var rfl)) ?_) (q_asg (e_var rfl) (s_sub (s_asg (e_var rfl)) (sub_cons (sub_cons (sub_any sub_nil)))))
    · show (y : Int) ≠ 0
      omega
    · congr 1
      show Int.fmod (x : Int) (y : Int) = _
      rw [Int.fmod_eq_emod_of_nonneg _ (by omega)]; rfl
  · rintro ⟨⟨x, y⟩, hz⟩ hb
    have hy : y = 0 := by
      simp at hb; exact hb
    subst hy
    simp only [Nat.gcd_zero_right] at hz
    subst hz
    exact sub_cons (sub_any (sub_cons sub_nil))
/-! lowest_terms -/
theorem ok_lowest_terms : FnOk P w K mg base CX0 2 (n.ad 1) (n.fd 1) ["numerator", "denominator"] (spF (fun x : Int × Int => [Iv x.1, Iv x.2]) (fun x => x.2 ≠ 0 ∧ Bn 9000 x.2.natAbs) (fun x => Fr ((x.1 : Rat) / (x.2 : Rat)))) := by
  have G_greatest_divisor := ok_greatest_divisor (P := P) (w := w) (base := base) T
  refine fn_ty T.f_lowest_terms sc_lowest_terms (fun _ => rfl) fun cdv Ar outer s H E' hr => ⟨_, (pss_cons (ps_set (i := 2) sc_lowest_terms.nd rfl (Or.inl rfl) (pe_call G_greatest_divisor hr rfl T.g_greatest_divisor T.f_greatest_divisor.kp T.b_greatest_divisor .nil pass0 (pa_cons (pe_callB call_abs (by rfl) T.b_abs (by decide +kernel) (pa_cons (pv 0) pa_nil)) (pa_cons (pe_callB call_abs (by rfl) T.b_abs (by decide +kernel) (pa_cons (pv 1) pa_nil)) pa_nil))))
        (pss_cons (ps_if (pt_cmpR op_lt (pv 1) pe_int (nomark _)) (pss_one (ps_set (i := 2) sc_lowest_terms.nd rfl (Or.inl rfl) (pe_un un_neg (pv 2)))) pss_nil)
        (pss_one (ps_ret (pe_lst (pa_cons (pe_op op_fdivX (pv 0) (pv 2)) (pa_cons (pe_op op_fdivX (pv 1) (pv 2)) pa_nil))))))), ?_⟩
  rintro ⟨a, b⟩ ⟨hb, hs⟩
  have hb : b ≠ 0 := hb
  have hg := gcd_pos (a := a) hb
  have hgs : Bn 9000 (Nat.gcd a.natAbs b.natAbs) := Nat.lt_of_le_of_lt (Nat.gcd_le_right _ (by omega)) hs
  refine q_asg (e_call (a.natAbs, b.natAbs) ?_ (a_cons (e_abs (a_cons (e_var rfl) a_nil)) (a_cons (e_abs (a_cons (e_var rfl) a_nil)) a_nil))) ?_
  · trivial
  refine q_if (t_test (e_lt (e_var rfl) (e_int _))) (fun h => ?_) (fun h => ?_)
  · have h : b < 0 := by simpa using h
    refine q_asg (e_neg (e_var rfl)) ?_
    refine s_ret (E.eq (E.of (el_lst (a_cons (e_fdivX ?_ (e_var rfl) (e_var rfl)) (a_cons (e_fdivX ?_ (e_var rfl) (e_var rfl)) a_nil)))) ?_)
    · exact fdivX_ok (k := 9000) (show (-(Nat.gcd a.natAbs b.natAbs : Nat) : Int) ≠ 0 by omega) (by rw [Int.natAbs_neg]; exact hgs) (by decide) (by decide)
    · exact fdivX_ok (k := 9000) (show (-(Nat.gcd a.natAbs b.natAbs : Nat) : Int) ≠ 0 by omega) (by rw [Int.natAbs_neg]; exact hgs) (by decide) (by decide)
    · obtain ⟨e1, e2⟩ := low_neg (a := a) h
      show Lv [Iv _, Iv _] = Lv [Iv _, Iv _]
      rw [e1, e2]
  · have h : 0 < b := by
      have : ¬ b < 0 := by simpa using h
      omega
    refine q_next (s_ret (E.eq (E.of (el_lst (a_cons (e_fdivX ?_ (e_var rfl) (e_var rfl)) (a_cons (e_fdivX ?_ (e_var rfl) (e_var rfl)) a_nil)))) ?_))
    · exact fdivX_ok (k := 9000) (show ((Nat.gcd a.natAbs b.natAbs : Nat) : Int) ≠ 0 by omega) hgs (by decide) (by decide)
    · exact fdivX_ok (k := 9000) (show ((Nat.gcd a.natAbs b.natAbs : Nat) : Int) ≠ 0 by omega) hgs (by decide) (by decide)
    · obtain ⟨e1, e2⟩ := low_pos (a := a) h
      show Lv [Iv _, Iv _] = Lv [Iv _, Iv _]
      rw [e1, e2]
theorem ok_difference : FnOk P w K mg base CX0 3 (n.ad 2) (n.fd 2) ["first", "second"] (spF PQ.ps PQ.Ok (fun x => Fr ((x.a : Rat) / (x.b : Rat) - (x.c : Rat) / (x.d : Rat)))) := by
  have G_lowest_terms := ok_lowest_terms (P := P) (w := w) (base := base) T
  refine fn_ty T.f_difference sc_difference (fun _ => rfl) fun cdv Ar outer s H E' hr => ⟨_, (pss_cons (ps_set (i := 2) sc_difference.nd rfl (Or.inl rfl) (pe_op op_sub (pe_op op_mulW (pe_ix ix_list (pv 0) pe_int (fun _ _ => rfl)) (pe_ix ix_list (pv 1) pe_int (fun _ _ => rfl))) (pe_op op_mulW (pe_ix ix_list (pv 1) pe_int (fun _ _ => rfl)) (pe_ix ix_list (pv 0) pe_int (fun _ _ => rfl)))))
        (pss_one (ps_ret (pe_call G_lowest_terms hr rfl T.g_lowest_terms T.f_lowest_terms.kp T.b_lowest_terms .nil pass0 (pa_cons (pv 2) (pa_cons (pe_op op_mulW (pe_ix ix_list (pv 0) pe_int (fun _ _ => rfl)) (pe_ix ix_list (pv 1) pe_int (fun _ _ => rfl))) pa_nil)))))), ?_⟩
  rintro ⟨a, b, c, d⟩ ⟨b0, d0, la, lb, lc, ld⟩
  refine q_asg (e_sub (e_mul ?_ (e_ixL (e_var rfl) (e_intN 0) rfl) (e_ixL (e_var rfl) (e_intN 1) rfl)) (e_mul ?_ (e_ixL (e_var rfl) (e_intN 0) rfl) (e_ixL (e_var rfl) (e_intN 1) rfl))) ?_
  · exact mulW_ok la ld (by decide) (by decide) (by decide)
  · exact mulW_ok lc lb (by decide) (by decide) (by decide)
  refine s_ret (E.eq (e_call (a * d - c * b, b * d) ?_ (a_cons (e_var rfl) (a_cons (e_mul ?_ (e_ixL (e_var rfl) (e_intN 1) rfl) (e_ixL (e_var rfl) (e_intN 1) rfl)) a_nil))) ?_)
  · exact ⟨Int.mul_ne_zero b0 d0, lt_mono (lt_mul lb ld) (by decide)⟩
  · exact mulW_ok lb ld (by decide) (by decide) (by decide)
  · exact congrArg Fr (diff_eq a b c d b0 d0)
theorem ok_quotient : FnOk P w K mg base CX0 3 (n.ad 3) (n.fd 3) ["first", "second"] (spF PQ.ps (fun x => x.Ok ∧ x.c ≠ 0) (fun x => Fr (((x.a : Rat) / (x.b : Rat)) / ((x.c : Rat) / (x.d : Rat))))) := by
  have G_lowest_terms := ok_lowest_terms (P := P) (w := w) (base := base) T
  refine fn_ty T.f_quotient sc_quotient (fun _ => rfl) fun cdv Ar outer s H E' hr => ⟨_, (pss_one (ps_ret (pe_call G_lowest_terms hr rfl T.g_lowest_terms T.f_lowest_terms.kp T.b_lowest_terms .nil pass0 (pa_cons (pe_op op_mulW (pe_ix ix_list (pv 0) pe_int (fun _ _ => rfl)) (pe_ix ix_list (pv 1) pe_int (fun _ _ => rfl))) (pa_cons (pe_op op_mulW (pe_ix ix_list (pv 0) pe_int (fun _ _ => rfl)) (pe_ix ix_list (pv 1) pe_int (fun _ _ => rfl))) pa_nil))))), ?_⟩
  rintro ⟨a, b, c, d⟩ ⟨⟨b0, d0, la, lb, lc, ld⟩, c0⟩
  refine s_ret (E.eq (e_call (a * d, b * c) ?_ (a_cons (e_mul ?_ (e_ixL (e_var rfl) (e_intN 0) rfl) (e_ixL (e_var rfl) (e_intN 1) rfl)) (a_cons (e_mul ?_ (e_ixL (e_var rfl) (e_intN 1) rfl) (e_ixL (e_var rfl) (e_intN 0) rfl)) a_nil))) ?_)
  · exact ⟨Int.mul_ne_zero b0 c0, lt_mono (lt_mul lb lc) (by decide)⟩
  · exact mulW_ok la ld (by decide) (by decide) (by decide)
  · exact mulW_ok lb lc (by decide) (by decide) (by decide)
  · exact congrArg Fr (quot_eq a b c d b0 c0 d0)
/-! dot -/
theorem ok_dot : FnOk P w K mg base CX0 1 (n.ad 4) (n.fd 4) ["first", "second"] (spF (fun x : List Int × List Int => [Li x.1, Li x.2]) (fun x => Bd 4000 x.1 ∧ Bd 4000 x.2 ∧ x.1.length ≤ 1000) (fun x => Iv (dotI x.1 x.2))) := by
  refine fn_ty T.f_dot sc_dot (fun _ => rfl) fun cdv Ar outer s H E' hr => ⟨_, (pss_one (ps_ret (pe_callB (cr_sum rfl) (by rfl) T.b_sum (by decide +kernel) (pa_cons (pe_lc (own := [("left", 2), ("right", 3)]) (g := (gTup K 2 (gCons (gName 2) (gCons (gName 3) gNil)))) (tt := tYes) (te := (tOp (rI CMulW fun i j => .int (i * j)) (tVar 2) (tVar 3))) rfl sc_dot.nd (pi_zip (by rfl) T.b_zip (pa_cons (pv 0) (pa_cons (pv 1) pa_nil))) (blkOk_by (N := ["first", "second", "left", "right"]) (sc := defScope st_dot) (by decide +kernel)) (fun _ _ _ _ _ => (pg_tup rfl (pgs_cons (pg_name (i := 2) sc_dot.nd rfl (Or.inl rfl)) (pgs_cons (pg_name (i := 3) sc_dot.nd rfl (Or.inl rfl)) pgs_nil)))) (fun _ _ _ _ _ => pts_nil) (fun _ _ _ _ _ => (pe_op op_mulW (pv 2) (pv 3)))) pa_nil)))), ?_⟩
  rintro ⟨a, b⟩ ⟨ha, hb, hl⟩
  have hl : a.length ≤ 1000 := hl
  refine s_ret (e_sum (a_cons (E.of (EL.eq (el_zipM (f := Iv) (g := Iv) (h := fun x y => Iv (x * y)) (a_cons (e_var rfl) (a_cons (e_var rfl) a_nil)) (by show min a.length b.length ≤ _; omega) (by simp) (by simp) fun x hx y hy => ?_) (zip_map2 (fun x y => x * y) Iv a b))) a_nil))
  exact e_mul (mulW_ok (ha x hx) (hb y hy) (by decide) (by decide) (by decide)) (e_var rfl) (e_var rfl)
end
end Lf
end
section
set_option Elab.async false
set_option linter.all false
set_option maxRecDepth 100000
set_option maxHeartbeats 2000000
local macro_rules | `(tactic| decreasing_trivial) => `(tactic| ((repeat (first | exact Ty.st_nil | apply Ty.st_im | apply Ty.st_any | apply Ty.se_0 | apply Ty.se_im | apply Ty.se_any | exact Ty.pu_nil | apply Ty.pu_im | apply Ty.pu_any | apply Ty.pe_0 | apply Ty.pe_imE | apply Ty.pe_anyE | exact Ty.sub_nil | apply Ty.sub_cons | apply Ty.sub_any)); done))
namespace Lf
open PySem PySem.Spec PyProof.Rows L2 Ty NB
theorem ix_map {α : Type} {f : α → VP} {l : List α} {c : Nat} (d : α) (h : c < l.length) : (l.map f)[c]? = some (f (l.getD c d)) := by
  rw [List.getElem?_map, List.getD_eq_getElem?_getD, List.getElem?_eq_getElem h]; rfl
theorem take_succ {α : Type} {l : List α} {i : Nat} {x : α} (h : l[i]? = some x) : l.take (i + 1) = l.take i ++ [x] := by
  rw [List.take_add_one, h]; rfl
def SolF (x : List Int × Int) : List (Str × VP) := [("numerators", Li x.1), ("divisor", Iv x.2)]
def SolV (n : Nm) (x : List Int × Int) : VP := Ov (n.cl 0) (SolF x)
section
variable {P : Program} {w : World} {K : PySem.W.Frag} {mg : Str → Option Value} {base : Heap} {n : Nm} (T : Txt K mg n)
include T
theorem ok_Solution_init : FnOk P w K mg base CX0 1 (n.ad 5) (n.fd 5) ["self", "numerators", "divisor"] (spI (n.cl 0) (fun x : List Int × Int => [Li x.1, Iv x.2]) (fun _ => True) SolF) := by
  refine init_ty (fun p dx x => [obj (n.cl 0) p dx (SolF x), im (Li x.1), im (Iv x.2)]) T.f_Solution_init sc_Solution_init (fun _ => rfl) (fun _ _ _ => rfl) fun cdv Ar outer s H E' hr => ⟨_, (pss_cons (ps_fld (pv 0) (pv 1) rfl)
        (pss_one (ps_fld (pv 0) (pv 2) rfl))), ?_⟩
  rintro p dx ⟨a, b⟩ _
  refine q_fld T.cl_Solution T.n_Solution_numerators rfl (by decreasing_trivial) (e_var rfl) rfl ?_
  exact s_sub (s_fld T.cl_Solution T.n_Solution_divisor rfl (by decreasing_trivial) (e_var rfl) rfl) (by exact sub_refl)
theorem ok_Solution_times : FnOk P w K mg base CX0 3 (n.ad 6) (n.fd 6) ["self", "vector"] (spF (fun x : (List Int × Int) × List Int => [SolV n x.1, Li x.2]) (fun x => SolOk x.1 ∧ Bd 1000 x.2 ∧ x.2.length ≤ 1000) (fun x => Fr ((dotI x.2 x.1.1 : Rat) / (x.1.2 : Rat)))) := by
  have G_dot := ok_dot (P := P) (w := w) (base := base) T
  have G_lowest_terms := ok_lowest_terms (P := P) (w := w) (base := base) T
  refine fn_ty T.f_Solution_times sc_Solution_times (fun _ => rfl) fun cdv Ar outer s H E' hr => ⟨_, (pss_one (ps_ret (pe_call G_lowest_terms hr rfl T.g_lowest_terms T.f_lowest_terms.kp T.b_lowest_terms .nil pass0 (pa_cons (pe_call G_dot (hr.mono (by decide)) rfl T.g_dot T.f_dot.kp T.b_dot .nil pass0 (pa_cons (pv 1) (pa_cons (pe_fld (pv 0) rfl) pa_nil))) (pa_cons (pe_fld (pv 0) rfl) pa_nil))))), ?_⟩
  rintro ⟨⟨nums, d⟩, v⟩ ⟨ok, hv, hl⟩
  refine s_ret (e_call (dotI v nums, d) ?_ (a_cons (e_call (v, nums) ?_ (a_cons (e_var rfl) (a_cons (e_fld T.cl_Solution T.n_Solution_numerators (e_var rfl) rfl) a_nil))) (a_cons (e_fld T.cl_Solution T.n_Solution_divisor (e_var rfl) rfl) a_nil)))
  · exact ⟨ok.d0, lt_mono ok.bn (by decide)⟩
  · exact ⟨fun z hz => lt_mono (hv z hz) (by decide), fun z hz => lt_mono (ok.bd z hz) (by decide), hl⟩
theorem ok_Solution_fractions : FnOk P w K mg base CX0 3 (n.ad 7) (n.fd 7) ["self"] (spF (fun x : List Int × Int => [SolV n x]) (fun x => SolOk x ∧ x.1.length ≤ 1000) (fun x => Lv (x.1.flatMap fun (z : Int) => [Iv ((z : Rat) / (x.2 : Rat)).num, Iv (((z : Rat) / (x.2 : Rat)).den : Nat)]))) := by
  have G_lowest_terms := ok_lowest_terms (P := P) (w := w) (base := base) T
  refine fn_ty T.f_Solution_fractions sc_Solution_fractions (fun _ => rfl) fun cdv Ar outer s H E' hr => ⟨_, (pss_cons (ps_set (i := 1) sc_Solution_fractions.nd rfl (Or.inl rfl) (pe_lst pa_nil))
        (pss_cons (ps_for PassesOwn.never rfl (pi_list (pe_fld (pv 0) rfl)) (pg_name (i := 2) sc_Solution_fractions.nd rfl (Or.inl rfl)) (pss_one (ps_expr (pe_bm PySem.F.plainAttrs_list PySem.F.slot_list_extend PySem.F.type_list_extend mt_extend (pv 1) (pa_cons (pe_call G_lowest_terms hr rfl T.g_lowest_terms T.f_lowest_terms.kp T.b_lowest_terms .nil pass0 (pa_cons (pv 2) (pa_cons (pe_fld (pv 0) rfl) pa_nil))) pa_nil)))))
        (pss_one (ps_ret (pv 1))))), ?_⟩
  rintro ⟨nums, d⟩ ⟨ok, hl⟩
  have hl : nums.length ≤ 1000 := hl
  refine q_asgL (el_lst a_nil) ?_
  refine q_for (s_forM (l := nums) (f := Iv) (fun i => [im (SolV n (nums, d)), own ((nums.take i).flatMap fun (z : Int) => [Iv ((z : Rat) / (d : Rat)).num, Iv (((z : Rat) / (d : Rat)).den : Nat)]), any]) (e_fld T.cl_Solution T.n_Solution_numerators (e_var rfl) rfl) (by decreasing_trivial) fun i x hx => ?_) ?_
  · rw [take_succ hx, List.flatMap_append]
    refine s_sub (s_ext (i := 1) rfl (by decreasing_trivial) (e_call (x, d) ?_ (a_cons (e_var rfl) (a_cons (e_fld T.cl_Solution T.n_Solution_divisor (e_var rfl) rfl) a_nil))) ?_) (by decreasing_trivial)
    · exact ⟨ok.d0, lt_mono ok.bn (by decide)⟩
    · have : ((nums.take i).flatMap fun (z : Int) => [Iv ((z : Rat) / (d : Rat)).num, Iv (((z : Rat) / (d : Rat)).den : Nat)]).length ≤ 2000 := by
        have e : ∀ l : List Int, (l.flatMap fun (z : Int) => [Iv ((z : Rat) / (d : Rat)).num, Iv (((z : Rat) / (d : Rat)).den : Nat)]).length = 2 * l.length := fun l => by
          induction l with
          | nil => rfl
          | cons x l ih => rw [List.flatMap_cons, List.length_append, ih, List.length_cons]; simp only [List.length_cons, List.length_nil]; omega
        rw [e, List.length_take]
        omega
      exact Nat.le_trans (Nat.add_le_add_right this _) (by show 2000 + 2 ≤ sizeLine; decide)
  · rw [List.take_length]
    exact s_fix 1 rfl (by decreasing_trivial) (s_ret (e_var rfl))
end
end Lf
end
section
set_option Elab.async false
set_option linter.all false
set_option maxRecDepth 100000
set_option maxHeartbeats 2000000
local macro_rules | `(tactic| decreasing_trivial) => `(tactic| ((repeat (first | exact Ty.st_nil | apply Ty.st_im | apply Ty.st_any | apply Ty.se_0 | apply Ty.se_im | apply Ty.se_any | exact Ty.pu_nil | apply Ty.pu_im | apply Ty.pu_any | apply Ty.pe_0 | apply Ty.pe_imE | apply Ty.pe_anyE | exact Ty.sub_nil | apply Ty.sub_cons | apply Ty.sub_any)); done))
namespace Lf
open PySem PySem.Spec PyProof.Rows L2 Ty NB
def Ln (l : List Nat) : VP := Lv (l.map fun i => Iv (i : Nat))
def SwF (P1 P2 P3 : VP) : List (Str × VP) := [("table", P1), ("pivots", P2), ("divisor", P3)]
theorem e_lenM {G : List SP} {t : TA} {K : PySem.W.Frag} {α : Type} {f : α → VP} {l : List α} (h : A G t [Lv (l.map f)]) : E G (tCB (fun xs H Q => ∃ p ys, xs = [.ref p] ∧ (SqL K H p ys ∨ SqT K H p ys) ∧ Q (.int ys.length) H) t) (Iv (l.length : Nat)) := (e_len h).eq (by rw [List.length_map])
theorem place_some {M : List (List Int)} {k c i : Nat} (h : ∀ j, j < i → BA.cell (M.getD (k + j) []) c = 0) (hi : k + i < M.length) (hc : BA.cell (M.getD (k + i) []) c ≠ 0) : BA.place M k c = some (k + i) := by
  cases e : BA.place M k c with
  | none =>
    have := BA.place_none e (k + i) (by omega) hi
    rw [BA.iv_cell, Rat.intCast_eq_zero_iff] at this
    exact absurd this hc
  | some f =>
    have e' := e
    unfold BA.place at e
    have h1 := List.find?_some e
    obtain ⟨hk, hf, _⟩ := BA.place_some e'
    rw [List.find?_range'_eq_some] at e
    obtain ⟨_, _, h3⟩ := e
    congr 1
    rcases Nat.lt_trichotomy f (k + i) with q | q | q
    · have := h (f - k) (by omega)
      rw [show k + (f - k) = f by omega] at this
      rw [this] at h1
      exact absurd h1 (by decide)
    · exact q
    · have := h3 (k + i) (by omega) q
      simp only [bne, Bool.not_not, beq_iff_eq] at this
      exact absurd this hc
theorem place_no {M : List (List Int)} {k c : Nat} (h : ∀ j, j < M.length - k → BA.cell (M.getD (k + j) []) c = 0) : BA.place M k c = none := by
  unfold BA.place
  rw [List.find?_eq_none]
  intro x hx
  obtain ⟨j, hj, rfl⟩ := List.mem_range'.mp hx
  have := h j hj
  simp only [Nat.one_mul]
  rw [this]; decide
def OptI (o : Option Nat) : VP := match o with | none => Nv | some f => Iv (f : Nat)
structure Swept where
  P1 : VP
  P2 : VP
  d : Int
  row : List Int
  pr : List Int
  c : Nat
structure Swept.Ok (x : Swept) : Prop where
  lr : x.c < x.row.length
  lp : x.c < x.pr.length
  d0 : x.d ≠ 0
  bd : Bn 1000 x.d.natAbs
  br : Bd 1000 x.row
  bp : Bd 1000 x.pr
  ln : x.row.length ≤ 1000
section
variable {P : Program} {w : World} {K : PySem.W.Frag} {mg : Str → Option Value} {base : Heap} {n : Nm} (T : Txt K mg n)
include T
theorem ok_Sweep_pivot_place : FnOk P w K mg base CX0 1 (n.ad 10) (n.fd 10) ["self", "column"] (spF (fun x : List (List Int) × List Nat × Nat × VP => [Ov (n.cl 1) (SwF (Mx x.1) (Ln x.2.1) x.2.2.2), Iv (x.2.2.1 : Nat)]) (fun x => x.1.length ≤ 1000 ∧ x.2.1.length ≤ x.1.length ∧ ∀ r ∈ x.1, x.2.2.1 < r.length) (fun x => OptI (BA.place x.1 x.2.1.length x.2.2.1))) := by
  refine fn_ty T.f_Sweep_pivot_place sc_Sweep_pivot_place (fun _ => rfl) fun cdv Ar outer s H E' hr => ⟨_, (pss_cons (ps_for PassesOwn.never rfl (pi_range2 rfl T.b_range (pa_cons (pe_callB call_len_seq (by rfl) T.b_len (by decide +kernel) (pa_cons (pe_fld (pv 0) rfl) pa_nil)) (pa_cons (pe_callB call_len_seq (by rfl) T.b_len (by decide +kernel) (pa_cons (pe_fld (pv 0) rfl) pa_nil)) pa_nil))) (pg_name (i := 2) sc_Sweep_pivot_place.nd rfl (Or.inl rfl)) (pss_one (ps_if (pt_cmpR op_ne (pe_ix ix_list (pe_ix ix_list (pe_fld (pv 0) rfl) (pv 2) (fun _ _ => rfl)) (pv 1) (fun _ _ => rfl)) pe_int (nomark _)) (pss_one (ps_ret (pv 2))) pss_nil)))
        (pss_one (ps_ret pe_non))), ?_⟩
  rintro ⟨M, pv, c, P3⟩ ⟨hz, hk, hc⟩
  have hz : M.length ≤ 1000 := hz
  have hk : pv.length ≤ M.length := hk
  have hc : ∀ r ∈ M, c < r.length := hc
  refine q_for (s_for (Gi := fun i => [wf (∀ j, j < i → BA.cell (M.getD (pv.length + j) []) c = 0) (im (Ov (n.cl 1) (SwF (Mx M) (Ln pv) P3))), im (Iv (c : Nat)), im (Iv ((pv.length + i : Nat)))]) (fun i => [wf (∀ j, j < i → BA.cell (M.getD (pv.length + j) []) c = 0) (im (Ov (n.cl 1) (SwF (Mx M) (Ln pv) P3))), im (Iv (c : Nat)), any]) ((w_rng2 (m := (pv.length : Nat)) (n := (M.length : Nat)) (a_cons (e_lenM (a_cons (e_fld T.cl_Sweep T.n_Sweep_pivots (e_var rfl) rfl) a_nil)) (a_cons (e_lenM (a_cons (e_fld T.cl_Sweep T.n_Sweep_table (e_var rfl) rfl) a_nil)) a_nil)) (by omega)).eq (n' := M.length - pv.length) (by omega) (Ps' := fun i => Iv ((pv.length + i : Nat))) fun i _ => by congr 1) (sub_wf (fun j hj => by omega) (by decreasing_trivial)) (fun i hi => .inr ⟨[2], tg_name (by simp)⟩) fun i hi => s_wf fun hf => ?_) ?_
  · have hm : M.getD (pv.length + i) [] ∈ M := Ty.getD_mem (by omega)
    refine s_if (t_test (e_ne (e_ixL (e_ixL (e_fld T.cl_Sweep T.n_Sweep_table (e_var rfl) rfl) (e_var rfl) (ix_map [] (by omega))) (e_var rfl) (ix_map 0 (hc _ hm))) (e_int _))) (fun h => ?_) (fun h => ?_)
    · refine s_ret (E.eq (e_var rfl) ?_)
      have h : ¬ ((M.getD (pv.length + i) []).getD c 0 = 0) := by simpa using h
      show Iv _ = OptI (BA.place M pv.length c)
      rw [place_some hf (by omega) h]; rfl
    · refine s_sub s_next (sub_wf (fun j hj => ?_) (by decreasing_trivial))
      have h : (M.getD (pv.length + i) []).getD c 0 = 0 := by simpa using h
      by_cases e : j = i
      · subst e; exact h
      · exact hf j (by omega)
  · refine s_wf fun hf => s_ret (E.eq e_non ?_)
    show Nv = OptI (BA.place M pv.length c)
    rw [place_no hf]; rfl
theorem ok_Sweep_swept_row : FnOk P w K mg base CX0 1 (n.ad 11) (n.fd 11) ["self", "row", "pivot_row", "column"] (spF (fun x : Swept => [Ov (n.cl 1) (SwF x.P1 x.P2 (Iv x.d)), Li x.row, Li x.pr, Iv (x.c : Nat)]) Swept.Ok (fun x => Li (BA.sweptRow x.d x.pr x.c x.row))) := by
  refine fn_ty T.f_Sweep_swept_row sc_Sweep_swept_row (fun _ => rfl) fun cdv Ar outer s H E' hr => ⟨_, (pss_cons (ps_set (i := 4) sc_Sweep_swept_row.nd rfl (Or.inr rfl) (pe_ix ix_list (pv 2) (pv 3) (fun _ _ => rfl)))
        (pss_cons (ps_set (i := 5) sc_Sweep_swept_row.nd rfl (Or.inr rfl) (pe_ix ix_list (pv 1) (pv 3) (fun _ _ => rfl)))
        (pss_one (ps_ret (pe_lc (own := [("own", 6), ("other", 7)]) (g := (gTup K 2 (gCons (gName 6) (gCons (gName 7) gNil)))) (tt := tYes) (te := (tOp (rI CDivX fun i j => .int (i.fdiv j)) (tOp (rI0 fun i j => .int (i - j)) (tOp (rI CMulW fun i j => .int (i * j)) (tVar 4) (tVar 6)) (tOp (rI CMulW fun i j => .int (i * j)) (tVar 5) (tVar 7))) (tFld K (tVar 0) "divisor"))) rfl sc_Sweep_swept_row.nd (pi_zip (by rfl) T.b_zip (pa_cons (pv 1) (pa_cons (pv 2) pa_nil))) (blkOk_by (N := ["self", "row", "pivot_row", "column", "pivot", "factor", "own", "other"]) (sc := defScope st_Sweep_swept_row) (by decide +kernel)) (fun _ _ _ _ _ => (pg_tup rfl (pgs_cons (pg_name (i := 6) sc_Sweep_swept_row.nd rfl (Or.inl rfl)) (pgs_cons (pg_name (i := 7) sc_Sweep_swept_row.nd rfl (Or.inl rfl)) pgs_nil)))) (fun _ _ _ _ _ => pts_nil) (fun _ _ _ _ _ => (pe_op op_fdivX (pe_op op_sub (pe_op op_mulW (pv 4) (pv 6)) (pe_op op_mulW (pv 5) (pv 7))) (pe_fld (pv 0) rfl)))))))), ?_⟩
  rintro ⟨P1, P2, d, row, pr, c⟩ ⟨lr, lp, d0, bd, br, bp, ln⟩
  refine q_asg (e_ixL (e_var rfl) (e_var rfl) (ix_map 0 lp)) ?_
  refine q_asg (e_ixL (e_var rfl) (e_var rfl) (ix_map 0 lr)) ?_
  refine s_ret (E.of (EL.eq (el_zipM (f := Iv) (g := Iv) (h := fun own other => Iv ((BA.cell pr c * own - BA.cell row c * other).fdiv d)) (a := row) (b := pr) (a_cons (e_var rfl) (a_cons (e_var rfl) a_nil)) (by have : row.length ≤ 1000 := ln; omega) (by simp) (by simp) fun x hx y hy => ?_) (zip_map2 (fun own other => (BA.cell pr c * own - BA.cell row c * other).fdiv d) Iv row pr)))
  refine (e_fdivX ?_ (e_sub (e_mul ?_ (e_var rfl) (e_var rfl)) (e_mul ?_ (e_var rfl) (e_var rfl))) (e_fld T.cl_Sweep T.n_Sweep_divisor (e_var rfl) rfl))
  · exact fdivX_ok d0 bd (by decide) (by decide)
  · exact mulW_ok (bp _ (Ty.getD_mem lp)) (br x hx) (by decide) (by decide) (by decide)
  · exact mulW_ok (br _ (Ty.getD_mem lr)) (bp y hy) (by decide) (by decide) (by decide)
end
end Lf
end
section
set_option Elab.async false
set_option linter.all false
set_option maxRecDepth 100000
set_option maxHeartbeats 2000000
local macro_rules | `(tactic| decreasing_trivial) => `(tactic| ((repeat (first | exact Ty.st_nil | apply Ty.st_im | apply Ty.st_any | apply Ty.se_0 | apply Ty.se_im | apply Ty.se_any | exact Ty.pu_nil | apply Ty.pu_im | apply Ty.pu_any | apply Ty.pe_0 | apply Ty.pe_imE | apply Ty.pe_anyE | exact Ty.sub_nil | apply Ty.sub_cons | apply Ty.sub_any)); done))
namespace Lf
open PySem PySem.Spec PyProof.Rows L2 Ty NB
/-- the sweep as it lies in the heap: the object at p, its table at tp, its pivots at pp -/
structure SwH (n : Nm) (F H : Hp) (p dx : Addr) (s : BA.Sw) (tp pp : Addr) (rows : List V) : Prop where
  fp : F p = none
  ft : F tp = none
  fq : F pp = none
  hp : H p = some (.ins (n.cl 1) dx [("table", .ref tp), ("pivots", .ref pp), ("divisor", .int s.divisor)])
  ht : H tp = some (.lst rows)
  hq : H pp = some (.lst (s.pivots.map fun i => .int (i : Nat)))
  al : AllP (s.table.map Li) rows F
  ne : tp ≠ pp
theorem SwH.grow {n : Nm} {F H F' H' : Hp} {p dx : Addr} {s : BA.Sw} {tp pp : Addr} {rows : List V} (h : SwH n F H p dx s tp pp rows) (g : Gr F H F' H') : SwH n F' H' p dx s tp pp rows :=
  ⟨(g.o p (ne_none h.hp)).trans h.fp, (g.o tp (ne_none h.ht)).trans h.ft, (g.o pp (ne_none h.hq)).trans h.fq, g.h _ _ h.hp, g.h _ _ h.ht, g.h _ _ h.hq, h.al.mono g.f, h.ne⟩
def swp (n : Nm) (p dx : Addr) (s : BA.Sw) : SP := ⟨fun H0 o F H => ∃ tp pp rows, o = some (.ref p) ∧ H0 p = none ∧ H0 tp = none ∧ H0 pp = none ∧ SwH n F H p dx s tp pp rows,
  fun g ⟨tp, pp, rows, e, h1, h2, h3, h⟩ => ⟨tp, pp, rows, e, h1, h2, h3, h.grow g⟩⟩
def dl (H : Hp) (p tp pp : Addr) : Hp := del (del (del H p) tp) pp
theorem dl_sub {H : Hp} {p tp pp : Addr} : Same (dl H p tp pp) H := fun a o e => del_sub a o (del_sub a o (del_sub a o e))
theorem dl_ne {H : Hp} {p tp pp a : Addr} (h1 : a ≠ p) (h2 : a ≠ tp) (h3 : a ≠ pp) : dl H p tp pp a = H a := by
  unfold dl
  rw [del_ne h3, del_ne h2, del_ne h1]
theorem dl_some {H : Hp} {p tp pp a : Addr} (h : dl H p tp pp a ≠ none) : a ≠ p ∧ a ≠ tp ∧ a ≠ pp ∧ H a ≠ none := by
  unfold dl del at h
  by_cases e1 : a = pp
  · rw [if_pos e1] at h; exact absurd rfl h
  · rw [if_neg e1] at h
    by_cases e2 : a = tp
    · rw [if_pos e2] at h; exact absurd rfl h
    · rw [if_neg e2] at h
      by_cases e3 : a = p
      · rw [if_pos e3] at h; exact absurd rfl h
      · rw [if_neg e3] at h; exact ⟨e3, e2, e1, h⟩
def spCol (n : Nm) : Sp := fun vs H Q _ => ∃ p dx c s F tp pp rows, GoodSw s c ∧ vs = [.ref p, .int (c : Nat)] ∧ Same F H ∧ SwH n F H p dx s tp pp rows ∧
  ∀ F' H' tp' pp' rows', Gr F (dl H p tp pp) F' H' → SwH n F' H' p dx (BA.col s c) tp' pp' rows' → dl H p tp pp tp' = none → dl H p tp pp pp' = none → Q .non H'
theorem same_fix {F H : Hp} {p : Addr} {o : HO} (s : Same F H) (h : H p = some o) : Same (upd F p o) H := fun a u e => by
  by_cases q : a = p
  · subst q; rw [upd_same] at e; cases e; exact h
  · rw [upd_ne q] at e; exact s a u e
/-- rows of numbers don't lean on other objects -/
theorem rows_drop {F F3 : Hp} : ∀ {M : List (List Int)} {xs : List V}, (∀ (r : Addr) (ns : List Int), F r = some (.lst (ns.map V.int)) → F3 r = F r) → AllP (M.map Li) xs F → AllP (M.map Li) xs F3
  | [], [], _, _ => trivial
  | m :: M, x :: xs, k, h => by
    obtain ⟨⟨p, ys, e, hp, al⟩, h2⟩ := h
    have ey := vals_int al
    subst ey
    exact ⟨⟨p, _, e, (k p m hp).trans hp, int_vals⟩, rows_drop (M := M) k h2⟩
  | [], _ :: _, _, h => h.elim
  | _ :: _, [], _, h => h.elim
theorem rows_refs : ∀ {M : List (List Int)} {xs : List V} {F : Hp}, AllP (M.map Li) xs F → ∀ x ∈ xs, ∃ a, x = .ref a
  | [], [], _, _, _, hx => by cases hx
  | m :: M, x :: xs, _, h, y, hy => by
    rcases List.mem_cons.mp hy with e | e
    · obtain ⟨p, ys, e2, _⟩ := h.1
      exact ⟨p, e.trans e2⟩
    · exact rows_refs h.2 y e
  | [], _ :: _, _, h, _, _ => h.elim
  | _ :: _, [], _, h, _, _ => h.elim
theorem cell_get {l : List Int} {c : Nat} (h : c < l.length) : (l.map V.int)[c]? = some (V.int (BA.cell l c)) := by
  unfold BA.cell
  rw [List.getElem?_map, List.getD_eq_getElem?_getD, List.getElem?_eq_getElem h]; rfl
theorem seq_asgL {G : List SP} {te : TE} {ps : List VP} {i : Nat} {tz : TS} {D : Ends} {F0 H0 F H : Hp} {s : L2.St} (h : EL G te ps) (a : At F0 H0 G s F H) (k : ∀ p xs F' H', Gr F H F' H' → H p = none → F' p = none → H' p = some (.lst xs) → AllP ps xs F' → tz D (s.set i (some (.ref p))) H') : tSeq (tAsg te (gName i)) tz D s H := h F0 H0 s F H a _ k
section
variable {P : Program} {w : World} {K : PySem.W.Frag} {mg : Str → Option Value} {base : Heap} {n : Nm} (T : Txt K mg n)
include T
theorem ok_Sweep_sweep_column : FnOk P w K mg base CX0 2 (n.ad 9) (n.fd 9) ["self", "column"] (spCol n) := by
  have G_Sweep_pivot_place := ok_Sweep_pivot_place (P := P) (w := w) (base := base) T
  have G_Sweep_swept_row := ok_Sweep_swept_row (P := P) (w := w) (base := base) T
  refine T.f_Sweep_sweep_column.ok sc_Sweep_sweep_column (fun vs H Q E' h => ?_) fun cdv Ar outer s0 H vs Q E' hr h => ⟨_, (pss_cons (ps_set (i := 2) sc_Sweep_sweep_column.nd rfl (Or.inl rfl) (pe_callB call_len_seq (by rfl) T.b_len (by decide +kernel) (pa_cons (pe_fld (pv 0) rfl) pa_nil)))
        (pss_cons (ps_set (i := 3) sc_Sweep_sweep_column.nd rfl (Or.inl rfl) (pe_meth (pv 0) T.cl_Sweep T.m_Sweep_pivot_place G_Sweep_pivot_place hr T.b_Sweep_pivot_place .nil pass0 (pa_cons (pv 1) pa_nil)))
        (pss_cons (ps_if (pt_cmpR op_isN (pv 3) pe_non (nomark _)) (pss_one ps_retN) pss_nil)
        (pss_cons (ps_set (i := 4) sc_Sweep_sweep_column.nd rfl (Or.inr rfl) (pe_ix ix_list (pe_fld (pv 0) rfl) (pv 3) (fun _ _ => rfl)))
        (pss_cons (ps_asg (pe_ix ix_list (pe_fld (pv 0) rfl) (pv 2) (fun _ _ => rfl)) (pg_sub (pe_fld (pv 0) rfl) (pv 3) set_list))
        (pss_cons (ps_setLc (i := 5) (own := [("row", 6)]) (g := (gName 6)) (tt := tYes) (te := (tMeth (n.cl 1) "swept_row" _ [] E0 (tVar 0) (tCons (tVar 6) (tCons (tVar 4) (tCons (tVar 1) tNil))))) rfl sc_Sweep_sweep_column.nd rfl rfl (sw_true rfl rfl rfl (by decide +kernel)) (pi_list (pe_fld (pv 0) rfl)) (blkOk_by (N := ["self", "column", "place", "found", "pivot_row", "table", "row"]) (sc := defScope st_Sweep_sweep_column) (by decide +kernel)) (fun _ _ _ _ _ => (pg_name (i := 6) sc_Sweep_sweep_column.nd rfl (Or.inl rfl))) (fun _ _ _ _ _ => pts_nil) (fun _ _ _ _ _ => (pe_meth (pv 0) T.cl_Sweep T.m_Sweep_swept_row G_Sweep_swept_row hr T.b_Sweep_swept_row .nil pass0 (pa_cons (pv 6) (pa_cons (pv 4) (pa_cons (pv 1) pa_nil))))))
        (pss_cons (ps_asg (pv 4) (pg_sub (pv 5) (pv 2) set_list))
        (pss_cons (ps_fld (pv 0) (pv 5) rfl)
        (pss_cons (ps_expr (pe_bm PySem.F.plainAttrs_list PySem.F.slot_list_append PySem.F.type_list_append mt_append (pe_fld (pv 0) rfl) (pa_cons (pv 1) pa_nil)))
        (pss_one (ps_fld (pv 0) (pe_ix ix_list (pv 4) (pv 1) (fun _ _ => rfl)) rfl))))))))))), ?_⟩
  · obtain ⟨p, dx, c, s, F, tp, pp, rows, _, rfl, _⟩ := h
    rfl
  obtain ⟨p, dx, c, s, F, tp, pp, rows, ok, rfl, sf, h, qk⟩ := h
  have npt : p ≠ tp := ne_of h.hp h.ht (by intro z; cases z)
  have npq : p ≠ pp := ne_of h.hp h.hq (by intro z; cases z)
  -- place = len(self.pivots)
  refine ⟨.ref p, rfl, p, n.cl 1, dx, _, .ref pp, rfl, h.hp, T.cl_Sweep, T.n_Sweep_pivots, rfl, pp, _, rfl, .inl (SqL.of h.hq), ?_⟩
  rw [List.length_map]
  -- found = self.pivot_place(column)
  let Fc : Hp := upd (upd (upd F tp (.lst rows)) pp (.lst (s.pivots.map fun i => .int (i : Nat)))) p (.ins (n.cl 1) dx [("table", .ref tp), ("pivots", .ref pp), ("divisor", .int s.divisor)])
  have sc : Same Fc H := same_fix (same_fix (same_fix sf h.ht) h.hq) h.hp
  have s1 : Same F Fc := (fixS h.ft).trans ((fixS (by rw [upd_ne h.ne.symm]; exact h.fq)).trans (fixS (by rw [upd_ne npq, upd_ne npt]; exact h.fp)))
  have ct : Fc tp = some (.lst rows) := by show upd _ _ _ _ = _; rw [upd_ne npt.symm, upd_ne h.ne, upd_same]
  have cq : Fc pp = some (.lst (s.pivots.map fun i => .int (i : Nat))) := by show upd _ _ _ _ = _; rw [upd_ne npq.symm, upd_same]
  have cp : Fc p = some (.ins (n.cl 1) dx [("table", .ref tp), ("pivots", .ref pp), ("divisor", .int s.divisor)]) := upd_same
  have alq : AllP (s.pivots.map fun i => Iv (i : Nat)) (s.pivots.map fun i => V.int (i : Nat)) Fc := by
    generalize s.pivots = l
    induction l with
    | nil => trivial
    | cons x l ih => exact ⟨rfl, ih⟩
  refine ⟨.ref p, rfl, p, dx, _, rfl, h.hp, rfl, .int (c : Nat), rfl, (s.table, s.pivots, c, Any), Fc, ⟨Nat.le_trans ok.ln (by decide), ok.pk, fun r hr => (ok.wd r hr).1⟩, sc, ⟨⟨p, dx, _, rfl, cp, rfl, ⟨tp, rows, rfl, ct, h.al.mono s1⟩, rfl, ⟨pp, _, rfl, cq, alq⟩, rfl, trivial, trivial⟩, rfl, trivial⟩, fun v F1 H1 g1 hv => ?_⟩
  have hH : Same H H1 := g1.h
  have sf1 : Same F H1 := sf.trans hH
  have hv : (OptI (BA.place s.table s.pivots.length c)).h v F1 := hv
  cases hpl : BA.place s.table s.pivots.length c with
  | none =>
    rw [hpl] at hv
    have hv : v = .non := hv
    subst hv
    have e : BA.col s c = s := by unfold BA.col; rw [hpl]
    refine ⟨.non, rfl, rfl, true, rfl, iteT ?_⟩
    refine qk F H1 tp pp rows ⟨Same.refl _, dl_sub.trans hH, sf1, fun _ _ => rfl⟩ ?_ ?_ ?_
    · rw [e]
      exact ⟨h.fp, h.ft, h.fq, hH _ _ h.hp, hH _ _ h.ht, hH _ _ h.hq, h.al, h.ne⟩
    · unfold dl
      rw [del_ne h.ne, del_same]
    · unfold dl
      rw [del_same]
  | some f =>
    rw [hpl] at hv
    have hv : v = .int (f : Nat) := hv
    subst hv
    obtain ⟨hkf, hft, hne⟩ := BA.place_some hpl
    refine ⟨.int (f : Nat), rfl, rfl, false, rfl, iteF ?_⟩
    -- pivot_row = self.table[found]
    obtain ⟨vf, hvf, rf⟩ := h.al.get (ix_map (f := Li) (c := f) [] hft)
    obtain ⟨vk, hvk, rk⟩ := h.al.get (ix_map (f := Li) (c := s.pivots.length) [] (by omega))
    have hp1 := hH _ _ h.hp
    have ht1 := hH _ _ h.ht
    have hq1 := hH _ _ h.hq
    refine ⟨.ref p, rfl, p, n.cl 1, dx, _, .ref tp, rfl, hp1, T.cl_Sweep, T.n_Sweep_table, rfl, .int (f : Nat), rfl, tp, rows, _, vf, rfl, rfl, SqL.of ht1, atI_nat hvf, ?_⟩
    -- self.table[found] = self.table[place]
    refine ⟨.ref p, rfl, p, n.cl 1, dx, _, .ref tp, rfl, hp1, T.cl_Sweep, T.n_Sweep_table, rfl, .int (s.pivots.length : Nat), rfl, tp, rows, _, vk, rfl, rfl, SqL.of ht1, atI_nat hvk, ?_⟩
    have lr := h.al.length
    rw [List.length_map] at lr
    refine ⟨.ref p, rfl, p, n.cl 1, dx, _, .ref tp, rfl, hp1, T.cl_Sweep, T.n_Sweep_table, rfl, .int (f : Nat), rfl, tp, rows, _, f, rfl, rfl, ht1, ixN_nat (by omega), ?_⟩
    -- the table with its two rows changed
    let rows2 := rows.set f vk
    let M2 := s.table.set f (s.table.getD s.pivots.length [])
    let H2 := upd H1 tp (.lst rows2)
    have hp2 : H2 p = some (.ins (n.cl 1) dx [("table", .ref tp), ("pivots", .ref pp), ("divisor", .int s.divisor)]) := by show upd _ _ _ _ = _; rw [upd_ne npt]; exact hp1
    have hq2 : H2 pp = some (.lst (s.pivots.map fun i => .int (i : Nat))) := by show upd _ _ _ _ = _; rw [upd_ne h.ne.symm]; exact hq1
    have ht2 : H2 tp = some (.lst rows2) := upd_same
    have sf2 : Same F H2 := fun a u e => by show upd _ _ _ _ = _; rw [upd_ne (ne_of_none e h.ft)]; exact sf1 a u e
    have al2 : AllP (M2.map Li) rows2 F := by
      have := h.al.set f rk
      rw [← List.map_set] at this; exact this
    -- table = [self.swept_row(row, pivot_row, column) for row in self.table]
    let F2 : Hp := upd (upd F tp (.lst rows2)) p (.ins (n.cl 1) dx [("table", .ref tp), ("pivots", .ref pp), ("divisor", .int s.divisor)])
    have sF2 : Same F F2 := (fixS h.ft).trans (fixS (by rw [upd_ne npt]; exact h.fp))
    have sF2H : Same F2 H2 := same_fix (same_fix sf2 ht2) hp2
    have F2t : F2 tp = some (.lst rows2) := by show upd _ _ _ _ = _; rw [upd_ne npt.symm, upd_same]
    have F2p : F2 p = some (.ins (n.cl 1) dx [("table", .ref tp), ("pivots", .ref pp), ("divisor", .int s.divisor)]) := upd_same
    have mem2 : ∀ r ∈ M2, r ∈ s.table := fun r hr => by
      rcases List.mem_or_eq_of_mem_set hr with e | e
      · exact e
      · rw [e]; exact Ty.getD_mem (by omega)
    have mf : s.table.getD f [] ∈ s.table := Ty.getD_mem hft
    have el : EL [im (Ov (n.cl 1) (SwF (Mx M2) Any (Iv s.divisor))), im (Iv (c : Nat)), im (Iv (s.pivots.length : Nat)), im (Iv (f : Nat)), im (Li (s.table.getD f [])), any, any]
        (tLc (iList K (tFld K (tVar 0) "table")) (gName 6) tYes (tMeth (n.cl 1) "swept_row" (spF (fun x : Swept => [Ov (n.cl 1) (SwF x.P1 x.P2 (Iv x.d)), Li x.row, Li x.pr, Iv (x.c : Nat)]) Swept.Ok (fun x => Li (BA.sweptRow x.d x.pr x.c x.row))) [] E0 (tVar 0) (tCons (tVar 6) (tCons (tVar 4) (tCons (tVar 1) tNil)))) [6])
        (M2.map fun row => Li (BA.sweptRow s.divisor (s.table.getD f []) c row)) := by
      refine el_mapM (f := Li) (e_fld T.cl_Sweep T.n_Sweep_table (e_var rfl) rfl) (by have := ok.ln; simp only [M2, List.length_set]; omega) (by simp) fun row hrow => ?_
      refine e_meth (fs := SwF (Mx M2) Any (Iv s.divisor)) (⟨Mx M2, Any, s.divisor, row, s.table.getD f [], c⟩ : Swept) ?_ (e_var rfl) rfl (a_cons (e_var rfl) (a_cons (e_var rfl) (a_cons (e_var rfl) a_nil))) rfl
      have w1 := ok.wd _ (mem2 row hrow)
      have w2 := ok.wd _ mf
      exact ⟨w1.1, w2.1, ok.d0, ok.bd, w1.2.2, w2.2.2, Nat.le_trans w1.2.1 (by decide)⟩
    dsimp only []
    refine seq_asgL el (F0 := F2) (H0 := H2) (F := F2) (H := H2) (s := [some (.ref p), some (.int (c : Nat)), some (.int (s.pivots.length : Nat)), some (.int (f : Nat)), some vf, none, none]) ⟨Gr.refl sF2H, ⟨_, rfl, p, dx, _, rfl, F2p, rfl, ⟨tp, rows2, rfl, F2t, al2.mono sF2⟩, rfl, trivial, rfl, rfl, trivial⟩, ⟨_, rfl, rfl⟩, ⟨_, rfl, rfl⟩, ⟨_, rfl, rfl⟩, ⟨_, rfl, (Li (s.table.getD f [])).mono sF2 rf⟩, trivial, trivial, trivial⟩ fun q xs F' H3 g3 nq hFq hq3 alx => ?_
    -- behind it: the new rows lean on rows of numbers alone
    have F't := g3.f _ _ F2t
    have F'p := g3.f _ _ F2p
    let F3 : Hp := fun a => if a = p ∨ a = tp then none else F' a
    have F3ne : ∀ a, a ≠ p → a ≠ tp → F3 a = F' a := fun a h1 h2 => if_neg fun z => z.elim h1 h2
    have rows2ne : ∃ a r, rows2 = .ref a :: r := by
      have hl : 0 < rows2.length := by simp only [rows2, List.length_set]; omega
      cases er : rows2 with
      | nil => rw [er] at hl; simp at hl
      | cons x r =>
        obtain ⟨a, ea⟩ := rows_refs al2 x (by rw [er]; simp)
        exact ⟨a, r, by rw [ea]⟩
    have alx3 : AllP ((M2.map fun row => BA.sweptRow s.divisor (s.table.getD f []) c row).map Li) xs F3 := by
      rw [List.map_map]
      have alx' : AllP ((M2.map fun row => BA.sweptRow s.divisor (s.table.getD f []) c row).map Li) xs F' := by rw [List.map_map]; exact alx
      have := rows_drop (F3 := F3) (fun r ns e => F3ne r (fun z => by rw [z, F'p] at e; cases e) (fun z => by
        rw [z, F't] at e
        obtain ⟨a, r', er⟩ := rows2ne
        rw [er] at e
        cases ns with
        | nil => cases e
        | cons x ns => cases e)) alx'
      rw [List.map_map] at this; exact this
    have sF3 : Same F F3 := fun a u e => by rw [F3ne a (ne_of_none e h.fp) (ne_of_none e h.ft)]; exact g3.f _ _ (sF2 a u e)
    have sF3' : Same F3 F' := fun a u e => by
      by_cases z : a = p ∨ a = tp
      · have : F3 a = none := if_pos z
        rw [this] at e; cases e
      · have : F3 a = F' a := if_neg z
        rw [this] at e; exact e
    have sH3 : Same H2 H3 := g3.h
    have np3 : H2 q = none := nq
    have nqp : q ≠ p := fun z => by rw [z, hp2] at np3; cases np3
    have nqt : q ≠ tp := fun z => by rw [z, ht2] at np3; cases np3
    have nqq : q ≠ pp := fun z => by rw [z, hq2] at np3; cases np3
    have hp3 := sH3 _ _ hp2
    have hpp3 := sH3 _ _ hq2
    have lx : xs.length = s.table.length := by
      have := alx3.length
      rw [List.length_map, List.length_map] at this
      simp only [M2, List.length_set] at this
      exact this.symm
    -- table[place] = pivot_row
    refine ⟨vf, rfl, .ref q, rfl, .int (s.pivots.length : Nat), rfl, q, xs, _, s.pivots.length, rfl, rfl, hq3, ixN_nat (by omega), ?_⟩
    let H4 := upd H3 q (.lst (xs.set s.pivots.length vf))
    have hp4 : H4 p = some (.ins (n.cl 1) dx [("table", .ref tp), ("pivots", .ref pp), ("divisor", .int s.divisor)]) := by show upd _ _ _ _ = _; rw [upd_ne nqp.symm]; exact hp3
    have hpp4 : H4 pp = some (.lst (s.pivots.map fun i => .int (i : Nat))) := by show upd _ _ _ _ = _; rw [upd_ne nqq.symm]; exact hpp3
    -- self.table = table
    refine ⟨.ref q, rfl, .ref p, rfl, p, n.cl 1, dx, _, rfl, hp4, T.cl_Sweep, T.n_Sweep_table, (by show 3 < 1000; decide), ?_⟩
    let H5 := upd H4 p (.ins (n.cl 1) dx [("table", .ref q), ("pivots", .ref pp), ("divisor", .int s.divisor)])
    have hp5 : H5 p = some (.ins (n.cl 1) dx [("table", .ref q), ("pivots", .ref pp), ("divisor", .int s.divisor)]) := upd_same
    have hpp5 : H5 pp = some (.lst (s.pivots.map fun i => .int (i : Nat))) := by show upd _ _ _ _ = _; rw [upd_ne npq.symm]; exact hpp4
    have hq5 : H5 q = some (.lst (xs.set s.pivots.length vf)) := by show upd _ _ _ _ = _; rw [upd_ne nqp]; exact upd_same
    -- self.pivots.append(column)
    refine ⟨.ref p, rfl, p, n.cl 1, dx, _, .ref pp, rfl, hp5, T.cl_Sweep, T.n_Sweep_pivots, rfl, .inl ⟨rfl, _, SqL.of hpp5⟩, .int (c : Nat), rfl, pp, _, _, rfl, rfl, hpp5, ?_, ?_⟩
    · rw [List.length_map]
      exact Nat.lt_of_le_of_lt (Nat.le_trans ok.pk ok.ln) (by decide)
    let H6 := upd H5 pp (.lst ((s.pivots.map fun i => V.int (i : Nat)) ++ [.int (c : Nat)]))
    have hp6 : H6 p = some (.ins (n.cl 1) dx [("table", .ref q), ("pivots", .ref pp), ("divisor", .int s.divisor)]) := by show upd _ _ _ _ = _; rw [upd_ne npq]; exact hp5
    have hq6 : H6 q = some (.lst (xs.set s.pivots.length vf)) := by show upd _ _ _ _ = _; rw [upd_ne nqq]; exact hq5
    have fq3 : F3 q = none := by rw [F3ne q nqp nqt]; exact hFq
    have fp3 : F3 p = none := if_pos (.inl rfl)
    have ft3 : F3 tp = none := if_pos (.inr rfl)
    have fpp3 : F3 pp = none := by
      rw [F3ne pp npq.symm h.ne.symm, g3.o pp (ne_none hq2)]
      show upd _ _ _ _ = _
      rw [upd_ne npq.symm, upd_ne h.ne.symm]; exact h.fq
    have sF3H3 : Same F3 H3 := sF3'.trans g3.i
    have sF3H6 : Same F3 H6 := fun a u e => by
      show upd _ _ _ _ = _
      rw [upd_ne (ne_of_none e fpp3)]
      show upd _ _ _ _ = _
      rw [upd_ne (ne_of_none e fp3)]
      show upd _ _ _ _ = _
      rw [upd_ne (ne_of_none e fq3)]
      exact sF3H3 a u e
    -- self.divisor = pivot_row[column]
    obtain ⟨r, ns, er, hr3, aln⟩ := (Li (s.table.getD f [])).mono sF3 rf
    subst er
    have ens := vals_int aln
    subst ens
    refine ⟨.ref r, rfl, .int (c : Nat), rfl, r, _, _, .int (BA.cell (s.table.getD f []) c), rfl, rfl, SqL.of (sF3H6 _ _ hr3), atI_nat ?_, ?_⟩
    · exact cell_get (ok.wd _ mf).1
    refine ⟨.ref p, rfl, p, n.cl 1, dx, _, rfl, hp6, T.cl_Sweep, T.n_Sweep_divisor, (by show 3 < 1000; decide), ?_⟩
    have e : BA.col s c = ⟨(M2.map (BA.sweptRow s.divisor (s.table.getD f []) c)).set s.pivots.length (s.table.getD f []), s.pivots ++ [c], BA.cell (s.table.getD f []) c⟩ := by unfold BA.col; rw [hpl]
    have H7 : ∀ a, a ≠ p → upd H6 p (.ins (n.cl 1) dx [("table", .ref q), ("pivots", .ref pp), ("divisor", .int (BA.cell (s.table.getD f []) c))]) a = H6 a := fun a z => upd_ne z
    have key : SwH n F3 (upd H6 p (.ins (n.cl 1) dx [("table", .ref q), ("pivots", .ref pp), ("divisor", .int (BA.cell (s.table.getD f []) c))])) p dx (BA.col s c) q pp (xs.set s.pivots.length (.ref r)) := by
      rw [e]
      refine ⟨fp3, fq3, fpp3, upd_same, (H7 q nqp).trans hq6, ?_, ?_, nqq⟩
      · rw [H7 pp npq.symm]
        show upd _ _ _ _ = _
        rw [upd_same]
        simp
      · have := alx3.set (P := Li (s.table.getD f [])) (v := .ref r) s.pivots.length ⟨r, _, rfl, hr3, int_vals⟩
        rw [← List.map_set] at this; exact this
    have dn : ∀ a, dl H p tp pp a ≠ none → a ≠ q := fun a z e => by
      obtain ⟨z1, z2, z3, z4⟩ := dl_some z
      have := Same.some hH z4
      rw [e] at this
      have e2 : H2 q = H1 q := upd_ne nqt
      rw [e2] at np3
      exact this np3
    refine qk F3 _ q pp _ ⟨sF3, fun a u z => ?_, fun a u z => ?_, fun a z => ?_⟩ key ?_ ?_
    · have z0 : dl H p tp pp a ≠ none := ne_none z
      obtain ⟨z1, z2, z3, z4⟩ := dl_some z0
      rw [dl_ne z1 z2 z3] at z
      refine (upd_ne z1).trans ?_
      show upd _ _ _ _ = _
      rw [upd_ne z3]
      show upd _ _ _ _ = _
      rw [upd_ne z1]
      show upd _ _ _ _ = _
      rw [upd_ne (dn a z0)]
      refine sH3 a u ?_
      show upd _ _ _ _ = _
      rw [upd_ne z2]
      exact hH a u z
    · exact (upd_ne (ne_of_none z fp3)).trans (sF3H6 a u z)
    · obtain ⟨z1, z2, z3, z4⟩ := dl_some z
      have z5 : H2 a ≠ none := by
        show upd _ _ _ _ ≠ _
        rw [upd_ne z2]; exact Same.some hH z4
      rw [F3ne a z1 z2, g3.o a z5]
      show upd _ _ _ _ = _
      rw [upd_ne z1, upd_ne z2]
    · refine Classical.byContradiction fun z => ?_
      exact dn q z rfl
    · unfold dl
      rw [del_same]
end
end Lf
end
section
set_option Elab.async false
set_option linter.all false
set_option maxRecDepth 100000
set_option maxHeartbeats 2000000
local macro_rules | `(tactic| decreasing_trivial) => `(tactic| ((repeat (first | exact Ty.st_nil | apply Ty.st_im | apply Ty.st_any | apply Ty.se_0 | apply Ty.se_im | apply Ty.se_any | exact Ty.pu_nil | apply Ty.pu_im | apply Ty.pu_any | apply Ty.pe_0 | apply Ty.pe_imE | apply Ty.pe_anyE | exact Ty.sub_nil | apply Ty.sub_cons | apply Ty.sub_any)); done))
namespace Lf
open PySem PySem.Spec PyProof.Rows L2 Ty NB
theorem ln_vals : ∀ {l : List Nat} {F : Hp}, AllP (l.map fun i => Iv (i : Nat)) (l.map fun i => V.int (i : Nat)) F
  | [], _ => trivial
  | _ :: l, _ => ⟨rfl, ln_vals (l := l)⟩
theorem seq_fldL {G : List SP} {te ta : TE} {ps : List VP} {K : PySem.W.Frag} {f : Str} {tz : TS} {D : Ends} {F0 H0 F H : Hp} {s : L2.St} (h : EL G te ps) (a : At F0 H0 G s F H) (k : ∀ p xs F' H', Gr F H F' H' → H p = none → F' p = none → H' p = some (.lst xs) → AllP ps xs F' →
    ta s H' fun x H2 => ∃ a C dx fs, x = .ref a ∧ H2 a = some (.ins C dx fs) ∧ Cls K C ∧ NoAttr K C f ∧ fs.length < 1000 ∧ tz D s (upd H2 a (.ins C dx (putF f (.ref p) fs)))) : tSeq (sFld K ta te f) tz D s H := h F0 H0 s F H a _ k
theorem s_col {n : Nm} {p dx : Addr} {s : BA.Sw} {wd c : Nat} {R : VP} (ok : GoodSw s c) : S [swp n p dx s, any, im (Iv (wd : Nat)), im (Iv (c : Nat)), any] (tDrop (tMeth (n.cl 1) "sweep_column" (spCol n) [] E0 (tVar 0) (tCons (tVar 3) tNil))) [swp n p dx (BA.col s c), any, im (Iv (wd : Nat)), any, any] R := fun F0 H0 D st F H a k r => by
  match st, a with
  | [v0, v1, v2, v3, v4], ⟨g, ⟨tp, pp, rows, e0, z1, z2, z3, h⟩, _, ⟨x2, e2, h2⟩, ⟨x3, e3, h3⟩, _, _⟩ =>
    have h3 : x3 = .int (c : Nat) := h3
    have h2 : x2 = .int (wd : Nat) := h2
    subst e0 e2 e3 h2 h3
    refine ⟨.ref p, rfl, p, dx, _, rfl, h.hp, rfl, .int (c : Nat), rfl, p, dx, c, s, F, tp, pp, rows, ok, rfl, g.i, h, fun F' H' tp' pp' rows' g' h' n1 n2 => ?_⟩
    have low : ∀ a, H0 a ≠ none → dl H p tp pp a = H a := fun a z => dl_ne (fun e => z (e ▸ z1)) (fun e => z (e ▸ z2)) (fun e => z (e ▸ z3))
    have nz : ∀ a, dl H p tp pp a = none → H0 a = none := fun a z => Classical.byContradiction fun q => by
      have := low a q
      rw [z] at this
      exact Same.some g.h q this.symm
    refine k _ F' H' ⟨⟨g.f.trans g'.f, fun a u e => ?_, g'.i, fun a z => ?_⟩, ⟨tp', pp', rows', rfl, z1, nz _ n1, nz _ n2, h'⟩, trivial, ⟨_, rfl, rfl⟩, trivial, trivial, trivial⟩
    · have := low a (ne_none e)
      exact g'.h a u (this.trans (g.h a u e))
    · have l := low a z
      exact (g'.o a (by rw [l]; exact Same.some g.h z)).trans (g.o a z)
section
variable {P : Program} {w : World} {K : PySem.W.Frag} {mg : Str → Option Value} {base : Heap} {n : Nm} (T : Txt K mg n)
include T
theorem ok_Sweep_init : FnOk P w K mg base CX0 3 (n.ad 8) (n.fd 8) ["self", "matrix", "width"] (spI (n.cl 1) (fun x : List (List Int) × Nat => [Mx x.1, Iv (x.2 : Nat)]) (fun x => x.1.length ≤ 100 ∧ x.2 ≤ 100 ∧ ∀ m, m < x.2 → GoodSw (BA.sweep x.1 m) m) (fun x => SwF (Mx (BA.sweep x.1 x.2).table) (Ln (BA.sweep x.1 x.2).pivots) (Iv (BA.sweep x.1 x.2).divisor))) := by
  have G_Sweep_sweep_column := ok_Sweep_sweep_column (P := P) (w := w) (base := base) T
  refine T.f_Sweep_init.ok sc_Sweep_init (fun vs H Q E' h => ?_) fun cdv Ar outer s0 H vs Q E' hr h => ⟨_, (pss_cons (ps_fld (pv 0) (pe_lc (own := [("row", 4)]) (g := (gName 4)) (tt := tYes) (te := (tCB (rListQ K) (tCons (tVar 4) tNil))) rfl sc_Sweep_init.nd (pi_list (pv 1)) (blkOk_by (N := ["self", "matrix", "width", "column", "row"]) (sc := defScope st_Sweep_init) (by decide +kernel)) (fun _ _ _ _ _ => (pg_name (i := 4) sc_Sweep_init.nd rfl (Or.inl rfl))) (fun _ _ _ _ _ => pts_nil) (fun _ _ _ _ _ => (pe_callTy call_list_of (by rfl) T.b_list (by decide +kernel) (pa_cons (pv 4) pa_nil)))) rfl)
        (pss_cons (ps_fld (pv 0) (pe_lst pa_nil) rfl)
        (pss_cons (ps_fld (pv 0) pe_int rfl)
        (pss_one (ps_for PassesOwn.never rfl (pi_range1 rfl T.b_range (pa_cons (pv 2) pa_nil)) (pg_name (i := 3) sc_Sweep_init.nd rfl (Or.inl rfl)) (pss_one (ps_expr (pe_meth (pv 0) T.cl_Sweep T.m_Sweep_sweep_column G_Sweep_sweep_column hr T.b_Sweep_sweep_column .nil pass0 (pa_cons (pv 3) pa_nil))))))))), ?_⟩
  · obtain ⟨⟨M, wd⟩, F, p, dx, args, _, rfl, _, _, _, al, _⟩ := h
    have := al.length
    show args.length + 1 = 3
    rw [← this]; rfl
  obtain ⟨⟨M, wd⟩, F, p, dx, args, ⟨hM, hw, hg⟩, rfl, hH, hF, sf, al, qk⟩ := h
  obtain ⟨vm, vw, rfl, hm, hvw⟩ := all2 al
  have hM : M.length ≤ 100 := hM
  have hw : wd ≤ 100 := hw
  have hg : ∀ m, m < wd → GoodSw (BA.sweep M m) m := hg
  have hvw : vw = .int (wd : Nat) := hvw
  subst hvw
  -- self.table = [list(row) for row in matrix]
  have el : EL [any, im (Mx M), any, any, any] (tLc (iList K (tVar 1)) (gName 4) tYes (tCB (rListQ K) (tCons (tVar 4) tNil)) [4]) (M.map Li) :=
    el_mapM (f := Li) (h := Li) (e_var rfl) (by omega) (by simp) fun row _ => E.of (el_list (a_cons (e_var rfl) a_nil))
  refine seq_fldL el (F0 := F) (H0 := H) (F := F) (H := H) (s := [some (.ref p), some vm, some (.int (wd : Nat)), none, none]) ⟨Gr.refl sf, trivial, ⟨vm, rfl, hm⟩, trivial, trivial, trivial, trivial⟩ fun q1 xs F1 H1 g1 n1 f1 h1 alx => ?_
  have hp1 := g1.h _ _ hH
  have fp1 : F1 p = none := (g1.o p (ne_none hH)).trans hF
  have npq : q1 ≠ p := fun z => by rw [z, hH] at n1; cases n1
  refine ⟨.ref p, rfl, p, n.cl 1, dx, _, rfl, hp1, T.cl_Sweep, T.n_Sweep_table, (by show 0 < 1000; decide), ?_⟩
  -- self.pivots = []
  refine ⟨Nat.zero_le _, fun q2 hq2 => ?_⟩
  have nq2 : q2 ≠ p := fun z => by rw [z, upd_same] at hq2; cases hq2
  rw [upd_ne nq2] at hq2
  have nqq : q1 ≠ q2 := fun z => by rw [← z, h1] at hq2; cases hq2
  refine ⟨.ref p, rfl, p, n.cl 1, dx, _, rfl, (upd_ne nq2.symm).trans upd_same, T.cl_Sweep, T.n_Sweep_pivots, (by show 1 < 1000; decide), ?_⟩
  -- self.divisor = 1
  refine ⟨.ref p, rfl, p, n.cl 1, dx, _, rfl, upd_same, T.cl_Sweep, T.n_Sweep_divisor, (by show 2 < 1000; decide), ?_⟩
  -- the columns
  let H5 := upd (upd (upd (upd H1 p (.ins (n.cl 1) dx [("table", .ref q1)])) q2 (.lst [])) p (.ins (n.cl 1) dx [("table", .ref q1), ("pivots", .ref q2)])) p (.ins (n.cl 1) dx [("table", .ref q1), ("pivots", .ref q2), ("divisor", .int 1)])
  have H5ne : ∀ a, a ≠ p → a ≠ q2 → H5 a = H1 a := fun a z1 z2 => by
    show upd _ _ _ _ = _
    rw [upd_ne z1, upd_ne z1, upd_ne z2, upd_ne z1]
  have H5q : H5 q2 = some (.lst []) := by
    show upd _ _ _ _ = _
    rw [upd_ne nq2, upd_ne nq2, upd_same]
  have f2 : F1 q2 = none := g1.i.free hq2
  have d1 : del H p q1 = none := by rw [del_ne npq]; exact n1
  have d2 : del H p q2 = none := by rw [del_ne nq2]; exact g1.h.free hq2
  have sw : SwH n F1 H5 p dx (BA.sweep M 0) q1 q2 xs := ⟨fp1, f1, f2, upd_same, (H5ne q1 npq nqq).trans h1, H5q, alx, nqq⟩
  have loop : S [swp n p dx (BA.sweep M 0), any, im (Iv (wd : Nat)), any, any] (tFor (iRng1 (tCons (tVar 2) tNil)) (gName 3) (tDrop (tMeth (n.cl 1) "sweep_column" (spCol n) [] E0 (tVar 0) (tCons (tVar 3) tNil)))) [swp n p dx (BA.sweep M wd), any, im (Iv (wd : Nat)), any, any] Never :=
    s_forR (m := wd) (fun i => [swp n p dx (BA.sweep M i), any, im (Iv (wd : Nat)), any, any]) (a_cons (e_var rfl) a_nil) (by omega) sub_refl fun i hi => by
      have e : BA.sweep M (i + 1) = BA.col (BA.sweep M i) i := by
        unfold BA.sweep
        rw [List.range_succ, List.foldl_append]; rfl
      rw [e]
      exact s_col (hg i hi)
  refine loop F (del H p) _ [some (.ref p), some vm, some (.int (wd : Nat)), none, none] F1 H5 ⟨⟨g1.f, fun a u e => ?_, fun a u e => ?_, fun a z => ?_⟩, ⟨q1, q2, xs, rfl, del_same, d1, d2, sw⟩, trivial, ⟨_, rfl, rfl⟩, trivial, trivial, trivial⟩ (fun s' F' H' a => ?_) fun v F' H' g r => r.elim
  · have z1 : a ≠ p := fun z => by rw [z, del_same] at e; cases e
    have e1 := g1.h a u (del_sub a u e)
    rw [H5ne a z1 (ne_of_none e1 hq2)]; exact e1
  · rw [H5ne a (ne_of_none e fp1) (ne_of_none e f2)]; exact g1.i a u e
  · have z1 : a ≠ p := fun e => z (by rw [e]; exact del_same)
    rw [del_ne z1] at z
    exact g1.o a z
  · match s', a with
    | v0 :: _, ⟨g, ⟨tp, pp, rows, e0, z1, z2, z3, h⟩, _⟩ =>
      have npt : p ≠ tp := ne_of h.hp h.ht (by intro z; cases z)
      have npp : p ≠ pp := ne_of h.hp h.hq (by intro z; cases z)
      have g2 := g.fix z2 h.ft h.ht
      have f3 : (upd F' tp (.lst rows)) pp = none := by rw [upd_ne h.ne.symm]; exact h.fq
      have g3 := g2.fix z3 f3 h.hq
      have s1 : Same F' (upd (upd F' tp (.lst rows)) pp (.lst ((BA.sweep M wd).pivots.map fun i => .int (i : Nat)))) := (fixS h.ft).trans (fixS f3)
      refine qk _ H' [("table", .ref tp), ("pivots", .ref pp), ("divisor", .int (BA.sweep M wd).divisor)] g3 ?_ h.hp ⟨rfl, ⟨tp, rows, rfl, ?_, h.al.mono s1⟩, rfl, ⟨pp, _, rfl, upd_same, ?_⟩, rfl, rfl, trivial⟩
      · rw [upd_ne npp, upd_ne npt]; exact h.fp
      · rw [upd_ne h.ne, upd_same]
      · exact ln_vals
theorem ok_rank_of : FnOk P w K mg base CX0 5 (n.ad 12) (n.fd 12) ["matrix", "width"] (spF (fun x : List (List Int) × Nat => [Mx x.1, Iv (x.2 : Nat)]) (fun x => x.1.length ≤ 100 ∧ x.2 ≤ 100 ∧ ∀ m, m < x.2 → GoodSw (BA.sweep x.1 m) m) (fun x => Iv (SV.rankI x.1 x.2 : Nat))) := by
  have G_Sweep_init := ok_Sweep_init (P := P) (w := w) (base := base) T
  refine fn_ty T.f_rank_of sc_rank_of (fun _ => rfl) fun cdv Ar outer s H E' hr => ⟨_, (pss_one (ps_ret (pe_callB call_len_seq (by rfl) T.b_len (by decide +kernel) (pa_cons (pe_fld (pe_make T.mk_Sweep G_Sweep_init hr rfl T.g_Sweep T.b_Sweep_init .nil pass0 (pa_cons (pv 0) (pa_cons (pv 1) pa_nil))) rfl) pa_nil)))), ?_⟩
  rintro ⟨M, wd⟩ hp
  exact s_ret (e_lenM (a_cons (e_fld T.cl_Sweep T.n_Sweep_pivots (e_make (M, wd) hp (a_cons (e_var rfl) (a_cons (e_var rfl) a_nil))) rfl) a_nil))
end
end Lf
end
section
set_option Elab.async false
set_option linter.all false
set_option maxRecDepth 100000
set_option maxHeartbeats 2000000
local macro_rules | `(tactic| decreasing_trivial) => `(tactic| ((repeat (first | exact Ty.st_nil | apply Ty.st_im | apply Ty.st_any | apply Ty.se_0 | apply Ty.se_im | apply Ty.se_any | exact Ty.pu_nil | apply Ty.pu_im | apply Ty.pu_any | apply Ty.pe_0 | apply Ty.pe_imE | apply Ty.pe_anyE | exact Ty.sub_nil | apply Ty.sub_cons | apply Ty.sub_any)); done))
namespace Lf
open PySem PySem.Spec PyProof.Rows L2 Ty NB
def OptSol (n : Nm) (o : Option (List Int × Int)) : VP := match o with | none => Nv | some p => SolV n p
theorem sIx_some {n k : Nat} (h : k ≤ n) : HT.sIx n 0 (some (k : Int)) = k := by rw [HT.sIx_nat]; omega
theorem ext_length (M : List (List Int)) (t : List Int) : (SV.ext M t).length ≤ M.length := by unfold SV.ext; rw [List.length_zipWith]; omega
def numUp (Tb : List (List Int)) (pv : List Nat) (w i : Nat) : List Int := (List.range i).foldl (fun acc i => acc.set (pv.getD i 0) (BA.cell (Tb.getD i []) w)) (List.replicate w 0)
theorem numUp_len (Tb : List (List Int)) (pv : List Nat) (w : Nat) : ∀ i, (numUp Tb pv w i).length = w
  | 0 => by simp [numUp]
  | i + 1 => by
    have := numUp_len Tb pv w i
    unfold numUp at this ⊢
    rw [List.range_succ, List.foldl_append]
    simp only [List.foldl_cons, List.foldl_nil, List.length_set]
    exact this
theorem numUp_succ (Tb : List (List Int)) (pv : List Nat) (w i : Nat) : numUp Tb pv w (i + 1) = (numUp Tb pv w i).set (pv.getD i 0) (BA.cell (Tb.getD i []) w) := by
  unfold numUp
  rw [List.range_succ, List.foldl_append]; rfl
section
variable {P : Program} {w : World} {K : PySem.W.Frag} {mg : Str → Option Value} {base : Heap} {n : Nm} (T : Txt K mg n)
include T
theorem ok_solved : FnOk P w K mg base CX0 5 (n.ad 13) (n.fd 13) ["matrix", "target"] (spF (fun x : List (List Int) × List Int => [Mx x.1, Li x.2]) (fun x => SolvOk x.1 x.2) (fun x => OptSol n (SV.solved x.1 x.2))) := by
  have G_Solution_init := ok_Solution_init (P := P) (w := w) (base := base) T
  have G_Sweep_init := ok_Sweep_init (P := P) (w := w) (base := base) T
  refine fn_ty T.f_solved sc_solved (fun _ => rfl) fun cdv Ar outer s H E' hr => ⟨_, (pss_cons (ps_set (i := 2) sc_solved.nd rfl (Or.inr rfl) (pe_callB call_len_seq (by rfl) T.b_len (by decide +kernel) (pa_cons (pv 1) pa_nil)))
        (pss_cons (ps_setLc (i := 3) (own := [("row", 8), ("value", 9)]) (g := (gTup K 2 (gCons (gName 8) (gCons (gName 9) gNil)))) (tt := tYes) (te := (tOp rCat (tVar 8) (tLst (tCons (tVar 9) tNil)))) rfl sc_solved.nd rfl rfl (sw_true rfl rfl rfl (by decide +kernel)) (pi_zip (by rfl) T.b_zip (pa_cons (pv 0) (pa_cons (pv 1) pa_nil))) (blkOk_by (N := ["matrix", "target", "width", "extended", "sweep", "numerators", "place", "column", "row", "value"]) (sc := defScope st_solved) (by decide +kernel)) (fun _ _ _ _ _ => (pg_tup rfl (pgs_cons (pg_name (i := 8) sc_solved.nd rfl (Or.inl rfl)) (pgs_cons (pg_name (i := 9) sc_solved.nd rfl (Or.inl rfl)) pgs_nil)))) (fun _ _ _ _ _ => pts_nil) (fun _ _ _ _ _ => (pe_op op_cat (pv 8) (pe_lst (pa_cons (pv 9) pa_nil)))))
        (pss_cons (ps_set (i := 4) sc_solved.nd rfl (Or.inl rfl) (pe_make T.mk_Sweep G_Sweep_init hr rfl T.g_Sweep T.b_Sweep_init .nil pass0 (pa_cons (pv 3) (pa_cons (pv 2) pa_nil))))
        (pss_cons (ps_if (pt_val (pe_callB (cr_any rfl) (by rfl) T.b_any (by decide +kernel) (pa_cons (pe_lc (own := [("row", 8)]) (g := (gName 8)) (tt := tYes) (te := (tOp rNe (tOp (rIxL K) (tVar 8) (tVar 2)) (tC (.int 0)))) rfl sc_solved.nd (pi_list (pe_slice sl_list (pe_fld (pv 4) rfl) (po_some (pe_callB call_len_seq (by rfl) T.b_len (by decide +kernel) (pa_cons (pe_fld (pv 4) rfl) pa_nil))) po_none)) (blkOk_by (N := ["matrix", "target", "width", "extended", "sweep", "numerators", "place", "column", "row", "value"]) (sc := defScope st_solved) (by decide +kernel)) (fun _ _ _ _ _ => (pg_name (i := 8) sc_solved.nd rfl (Or.inl rfl))) (fun _ _ _ _ _ => pts_nil) (fun _ _ _ _ _ => (pe_cmpR op_ne (pe_ix ix_list (pv 8) (pv 2) (fun _ _ => rfl)) pe_int (nomark _)))) pa_nil))) (pss_one (ps_ret pe_non)) pss_nil)
        (pss_cons (ps_set (i := 5) sc_solved.nd rfl (Or.inl rfl) (pe_op op_rep (pe_lst (pa_cons pe_int pa_nil)) (pv 2)))
        (pss_cons (ps_for PassesOwn.never rfl (pi_enum (by rfl) T.b_enumerate (pa_cons (pe_fld (pv 4) rfl) pa_nil)) (pg_tup rfl (pgs_cons (pg_name (i := 6) sc_solved.nd rfl (Or.inl rfl)) (pgs_cons (pg_name (i := 7) sc_solved.nd rfl (Or.inl rfl)) pgs_nil))) (pss_one (ps_asg (pe_ix ix_list (pe_ix ix_list (pe_fld (pv 4) rfl) (pv 6) (fun _ _ => rfl)) (pv 2) (fun _ _ => rfl)) (pg_sub (pv 5) (pv 7) set_list))))
        (pss_one (ps_ret (pe_make T.mk_Solution G_Solution_init (hr.mono (by decide)) rfl T.g_Solution T.b_Solution_init .nil pass0 (pa_cons (pv 5) (pa_cons (pe_fld (pv 4) rfl) pa_nil))))))))))), ?_⟩
  rintro ⟨M, t⟩ ok
  have ok : SolvOk M t := ok
  refine q_asg (P := Iv (t.length : Nat)) (e_lenM (a_cons (e_var rfl) a_nil)) ?_
  refine q_asg (P := Mx (SV.ext M t)) (E.of (EL.eq (el_zipM (f := Li) (g := Iv) (h := fun row v => Li (row ++ [v])) (a := M) (b := t) (a_cons (e_var rfl) (a_cons (e_var rfl) a_nil)) (by have := ok.hl; omega) (by simp) (by simp) fun row hr v hv => ?_) (zip_map2 (fun row v => row ++ [v]) Li M t))) ?_
  · refine E.of (EL.eq (el_cat (e_var rfl) (E.of (el_lst (a_cons (e_var rfl) a_nil))) ?_) ?_)
    · have h0 := ok.hm row hr
      rw [List.length_map]
      show row.length + 1 ≤ _
      omega
    · rw [List.map_append]; rfl
  have hex : (SV.ext M t).length ≤ 100 := Nat.le_trans (ext_length M t) ok.hl
  refine q_asg (e_make (SV.ext M t, t.length) ?_ (a_cons (e_var rfl) (a_cons (e_var rfl) a_nil))) ?_
  · exact ⟨hex, ok.ht, fun m hm => ok.hs m (Nat.le_of_lt hm)⟩
  have gw := ok.hs t.length (Nat.le_refl _)
  have hpm := ok.hp
  have es : SV.solved M t = (if ((BA.sweep (SV.ext M t) t.length).table.drop (BA.sweep (SV.ext M t) t.length).pivots.length).any (fun row => BA.cell row t.length != 0) then none else some (SV.numers (BA.sweep (SV.ext M t) t.length).table (BA.sweep (SV.ext M t) t.length).pivots t.length, (BA.sweep (SV.ext M t) t.length).divisor)) := rfl
  show S [im (Mx M), im (Li t), im (Iv (t.length : Nat)), im (Mx (SV.ext M t)), im (Ov (n.cl 1) (SwF (Mx (BA.sweep (SV.ext M t) t.length).table) (Ln (BA.sweep (SV.ext M t) t.length).pivots) (Iv (BA.sweep (SV.ext M t) t.length).divisor))), any, any, any, any, any] _ [bot] (OptSol n (SV.solved M t))
  generalize BA.sweep (SV.ext M t) t.length = sw at *
  refine q_if (b := (sw.table.drop sw.pivots.length).any (fun row => BA.cell row t.length != 0)) (t_val (E.eq (e_any (ns := (sw.table.drop sw.pivots.length).map fun row => BA.cell row t.length != 0) (a_cons (E.of ?_) a_nil)) (by rw [List.any_map]; rfl))) (fun h => ?_) (fun h => ?_)
  · rw [List.map_map]
    refine el_mapM (f := Li) (h := fun row => Bv (BA.cell row t.length != 0)) (l := sw.table.drop sw.pivots.length) (E.of (EL.eq (el_slice (e_fld T.cl_Sweep T.n_Sweep_table (e_var rfl) rfl) (po_so (e_lenM (f := fun i : Nat => Iv (i : Nat)) (l := sw.pivots) (a_cons (e_fld T.cl_Sweep T.n_Sweep_pivots (e_var rfl) rfl) a_nil))) po_no) ?_)) (by have := gw.ln; rw [List.length_drop]; omega) (by simp) fun row hrow => ?_
    · rw [List.length_map, sIx_some gw.pk, HT.sIx_none, ← List.map_drop, List.take_of_length_le (by rw [List.length_map, List.length_drop]; omega)]
    · refine E.eq (e_ne (e_ixL (e_var rfl) (e_var rfl) (ix_map 0 (gw.wd _ (List.mem_of_mem_drop hrow)).1)) (e_int _)) rfl
  · rw [es, if_pos h]
    exact q_ret e_non
  · rw [es, if_neg (by rw [h]; exact Bool.false_ne_true)]
    refine q_next ?_
    refine q_asgL (ps := (numUp sw.table sw.pivots t.length 0).map Iv) (EL.eq (el_rep (E.of (el_lst (a_cons (e_int 0) a_nil))) (e_var rfl) (by have := ok.ht; omega)) (by simp [numUp])) ?_
    refine q_for (s_forE (f := fun i : Nat => Iv (i : Nat)) (l := sw.pivots) (fun i => [im (Mx M), im (Li t), im (Iv (t.length : Nat)), im (Mx (SV.ext M t)), im (Ov (n.cl 1) (SwF (Mx sw.table) (Ln sw.pivots) (Iv sw.divisor))), own ((numUp sw.table sw.pivots t.length i).map Iv), any, any, any, any]) (a_cons (e_fld T.cl_Sweep T.n_Sweep_pivots (e_var rfl) rfl) a_nil) (by decreasing_trivial) fun i c hc => ?_) ?_
    · have hi : i < sw.pivots.length := (List.getElem?_eq_some_iff.mp hc).1
      have hcm : c ∈ sw.pivots := List.mem_of_getElem? hc
      have e : sw.pivots.getD i 0 = c := by rw [List.getD_eq_getElem?_getD, hc]; rfl
      have hit : i < sw.table.length := Nat.lt_of_lt_of_le hi gw.pk
      rw [numUp_succ, e, List.map_set]
      refine s_sub (s_put (k := c) (P := Iv (BA.cell (sw.table.getD i []) t.length)) rfl (by decreasing_trivial) (e_ixL (e_ixL (e_fld T.cl_Sweep T.n_Sweep_table (e_var rfl) rfl) (e_var rfl) (ix_map [] hit)) (e_var rfl) (ix_map 0 (gw.wd _ (Ty.getD_mem hit)).1)) (e_var rfl) ?_) (by decreasing_trivial)
      rw [List.length_map, numUp_len]
      exact hpm c hcm
    · refine s_fix 5 rfl (by decreasing_trivial) (s_ret ?_)
      exact e_make (SV.numers sw.table sw.pivots t.length, sw.divisor) trivial (a_cons (e_var rfl) (a_cons (e_fld T.cl_Sweep T.n_Sweep_divisor (e_var rfl) rfl) a_nil))
end
end Lf
end
section
set_option Elab.async false
set_option linter.all false
set_option maxRecDepth 100000
set_option maxHeartbeats 2000000
local macro_rules | `(tactic| decreasing_trivial) => `(tactic| ((repeat (first | exact Ty.st_nil | apply Ty.st_im | apply Ty.st_any | apply Ty.se_0 | apply Ty.se_im | apply Ty.se_any | exact Ty.pu_nil | apply Ty.pu_im | apply Ty.pu_any | apply Ty.pe_0 | apply Ty.pe_imE | apply Ty.pe_anyE | exact Ty.sub_nil | apply Ty.sub_cons | apply Ty.sub_any)); done))
namespace Lf
open PySem PySem.Spec PyProof.Rows L2 Ty NB
def FitF (n : Nm) (x : FitD) : List (Str × VP) := [("products", Mx x.prods), ("moments", Li x.mom), ("response_squares", Iv x.sq), ("row_count", Iv (x.rows : Nat)), ("solution", SolV n x.sol), ("rank", Iv (x.rank : Nat)), ("freedom", Iv x.free)]
def FitV (n : Nm) (x : FitD) : VP := Ov (n.cl 3) (FitF n x)
def asgV : Stmt → Expr
  | .Assign _ v _ => v
  | _ => .Constant .none 0 ⟨0, 0, 0, 0⟩
def retV : Stmt → Expr
  | .Return (some v) _ => v
  | _ => .Constant .none 0 ⟨0, 0, 0, 0⟩
theorem est_sz {x : List Int × Int} {v : List Int} (h : SolOk x) (hv : Bd 200 v) (hl : v.length ≤ 100) : Sz 1210 ((dotI v x.1 : Rat) / (x.2 : Rat)) :=
  sz_div h.d0 (lt_mono (dot_bd (m := 7) hv h.bd (by omega)) (by decide)) (lt_mono h.bn (by decide))
theorem one_pos {k : Nat} (h : 0 < k) : Bn k (1 : Int).natAbs := Nat.one_lt_two_pow (by omega)
theorem rss_eq (sq d t : Int) (h : d ≠ 0) : (sq : Rat) - (t : Rat) / (d : Rat) = ((sq * d - t : Int) : Rat) / (d : Rat) := by
  have h2 : (d : Rat) ≠ 0 := fun q => h (Rat.intCast_eq_zero_iff.mp q)
  rw [Rat.intCast_sub, Rat.intCast_mul]; grind
theorem FitOk.rss_sz {x : FitD} (h : FitOk x) : Sz 1220 x.rss := by
  unfold FitD.rss FitD.est
  rw [rss_eq _ _ _ h.sk.d0]
  exact sz_div h.sk.d0 (lt_mono (lt_sub (k := 1210) (lt_mono (lt_mul h.bs h.sk.bn) (by decide)) (lt_mono (dot_bd (m := 7) h.bm h.sk.bd (by have := h.so.ht; omega)) (by decide))) (by decide)) (lt_mono h.sk.bn (by decide))
theorem den_pos (q : Rat) : (q.den : Int) ≠ 0 := den_ne0 q
/-- a whole number as a fraction, less a fraction -/
theorem int_sub (z : Int) (q : Rat) : (z : Rat) / ((1 : Int) : Rat) - (q.num : Rat) / ((q.den : Int) : Rat) = (z : Rat) - q := by
  rw [self_eq]
  have : ((1 : Int) : Rat) = 1 := rfl
  rw [this]; grind
theorem over_int (q : Rat) (z : Int) : (q.num : Rat) / ((q.den : Int) : Rat) / ((z : Rat) / ((1 : Int) : Rat)) = q / (z : Rat) := by
  rw [self_eq]
  have : ((1 : Int) : Rat) = 1 := rfl
  rw [this]
  have : (z : Rat) / 1 = z := by grind
  rw [this]
def FitD.varV (x : FitD) : VP := if x.free = 0 then Nv else Fr (x.rss / (x.free : Rat))
section
variable {P : Program} {w : World} {K : PySem.W.Frag} {mg : Str → Option Value} {base : Heap} {n : Nm} (T : Txt K mg n)
include T
theorem ok_Fit_init : FnOk P w K mg base CX0 6 (n.ad 47) (n.fd 47) ["self", "products", "moments", "response_squares", "row_count"] (spI (n.cl 3) (fun x : FitD => [Mx x.prods, Li x.mom, Iv x.sq, Iv (x.rows : Nat)]) FitOk (FitF n)) := by
  have G_rank_of := ok_rank_of (P := P) (w := w) (base := base) T
  have G_solved := ok_solved (P := P) (w := w) (base := base) T
  refine init_ty (fun p dx x => [obj (n.cl 3) p dx (FitF n x), im (Mx x.prods), im (Li x.mom), im (Iv x.sq), im (Iv (x.rows : Nat))]) T.f_Fit_init sc_Fit_init (fun _ => rfl) (fun _ _ _ => rfl) fun cdv Ar outer s H E' hr => ⟨_, (pss_cons (ps_fld (pv 0) (pv 1) rfl)
        (pss_cons (ps_fld (pv 0) (pv 2) rfl)
        (pss_cons (ps_fld (pv 0) (pv 3) rfl)
        (pss_cons (ps_fld (pv 0) (pv 4) rfl)
        (pss_cons (ps_fld (pv 0) (pe_call G_solved hr rfl T.g_solved T.f_solved.kp T.b_solved .nil pass0 (pa_cons (pv 1) (pa_cons (pv 2) pa_nil))) rfl)
        (pss_cons (ps_fld (pv 0) (pe_call G_rank_of hr rfl T.g_rank_of T.f_rank_of.kp T.b_rank_of .nil pass0 (pa_cons (pv 1) (pa_cons (pe_callB call_len_seq (by rfl) T.b_len (by decide +kernel) (pa_cons (pv 1) pa_nil)) pa_nil))) rfl)
        (pss_one (ps_fld (pv 0) (pe_op op_sub (pv 4) (pe_fld (pv 0) rfl)) rfl)))))))), ?_⟩
  intro p dx x ok
  refine q_fld T.cl_Fit T.n_Fit_products rfl (by decreasing_trivial) (e_var rfl) rfl ?_
  refine q_fld T.cl_Fit T.n_Fit_moments rfl (by decreasing_trivial) (e_var rfl) rfl ?_
  refine q_fld T.cl_Fit T.n_Fit_response_squares rfl (by decreasing_trivial) (e_var rfl) rfl ?_
  refine q_fld T.cl_Fit T.n_Fit_row_count rfl (by decreasing_trivial) (e_var rfl) rfl ?_
  refine q_fld (P := SolV n x.sol) T.cl_Fit T.n_Fit_solution rfl (by decreasing_trivial) (E.eq (e_call (x.prods, x.mom) ok.so (a_cons (e_var rfl) (a_cons (e_var rfl) a_nil))) (by show OptSol n (SV.solved x.prods x.mom) = _; rw [ok.sol]; rfl)) rfl ?_
  refine q_fld (P := Iv (x.rank : Nat)) T.cl_Fit T.n_Fit_rank rfl (by decreasing_trivial) (e_call (x.prods, x.prods.length) ok.rk (a_cons (e_var rfl) (a_cons (e_lenM (a_cons (e_var rfl) a_nil)) a_nil))) rfl ?_
  exact s_sub (s_fld T.cl_Fit T.n_Fit_freedom rfl (by decreasing_trivial) (e_sub (e_var rfl) (e_fldO T.cl_Fit T.n_Fit_rank rfl rfl)) rfl) (by exact sub_refl)
theorem ok_Fit_weights : FnOk P w K mg base CX0 6 (n.ad 49) (n.fd 49) ["self", "vector"] (spF (fun x : FitD × List Int => [FitV n x.1, Li x.2]) (fun x => SolvOk x.1.prods x.2) (fun x => OptSol n (SV.solved x.1.prods x.2))) := by
  have G_solved := ok_solved (P := P) (w := w) (base := base) T
  refine fn_ty T.f_Fit_weights sc_Fit_weights (fun _ => rfl) fun cdv Ar outer s H E' hr => ⟨_, (pss_one (ps_ret (pe_call G_solved hr rfl T.g_solved T.f_solved.kp T.b_solved .nil pass0 (pa_cons (pe_fld (pv 0) rfl) (pa_cons (pv 1) pa_nil))))), ?_⟩
  rintro ⟨x, v⟩ ok
  exact s_ret (e_call (x.prods, v) ok (a_cons (e_fld T.cl_Fit T.n_Fit_products (e_var rfl) rfl) (a_cons (e_var rfl) a_nil)))
theorem ok_Fit_estimate : FnOk P w K mg base CX0 4 (n.ad 51) (n.fd 51) ["self", "vector"] (spF (fun x : FitD × List Int => [FitV n x.1, Li x.2]) (fun x => FitOk x.1 ∧ Bd 200 x.2 ∧ x.2.length ≤ 100) (fun x => Fr (x.1.est x.2))) := by
  have G_Solution_times := ok_Solution_times (P := P) (w := w) (base := base) T
  refine fn_ty T.f_Fit_estimate sc_Fit_estimate (fun _ => rfl) fun cdv Ar outer s H E' hr => ⟨_, (pss_one (ps_ret (pe_meth (pe_fld (pv 0) rfl) T.cl_Solution T.m_Solution_times G_Solution_times hr T.b_Solution_times .nil pass0 (pa_cons (pv 1) pa_nil)))), ?_⟩
  rintro ⟨x, v⟩ ⟨ok, hv, hl⟩
  exact s_ret (e_meth (x.sol, v) ⟨ok.sk, fun z hz => lt_mono (hv z hz) (by decide), Nat.le_trans hl (by decide)⟩ (e_fld T.cl_Fit T.n_Fit_solution (e_var rfl) rfl) rfl (a_cons (e_var rfl) a_nil) rfl)
theorem ok_Fit_leverage : FnOk P w K mg base CX0 7 (n.ad 50) (n.fd 50) ["self", "row"] (spF (fun x : FitD × List Int × (List Int × Int) => [FitV n x.1, Li x.2.1]) (fun x => SolvOk x.1.prods x.2.1 ∧ SV.solved x.1.prods x.2.1 = some x.2.2 ∧ SolOk x.2.2 ∧ Bd 200 x.2.1 ∧ x.2.1.length ≤ 100) (fun x => Fr ((dotI x.2.1 x.2.2.1 : Rat) / (x.2.2.2 : Rat)))) := by
  have G_Fit_weights := ok_Fit_weights (P := P) (w := w) (base := base) T
  have G_Solution_times := ok_Solution_times (P := P) (w := w) (base := base) T
  refine fn_ty T.f_Fit_leverage sc_Fit_leverage (fun _ => rfl) fun cdv Ar outer s H E' hr => ⟨_, (pss_one (ps_ret (pe_meth (pe_meth (pv 0) T.cl_Fit T.m_Fit_weights G_Fit_weights hr T.b_Fit_weights .nil pass0 (pa_cons (pv 1) pa_nil)) T.cl_Solution T.m_Solution_times G_Solution_times (hr.mono (by decide)) T.b_Solution_times .nil pass0 (pa_cons (pv 1) pa_nil)))), ?_⟩
  rintro ⟨x, v, z⟩ ⟨ok, hs, hz, hv, hl⟩
  refine s_ret (e_meth (fs := SolF z) (z, v) ⟨hz, fun z hz => lt_mono (hv z hz) (by decide), Nat.le_trans hl (by decide)⟩ (E.eq (e_meth (x, v) ok (e_var rfl) rfl (a_cons (e_var rfl) a_nil) rfl) ?_) rfl (a_cons (e_var rfl) a_nil) rfl)
  show OptSol n (SV.solved x.prods v) = SolV n z
  have hs : SV.solved x.prods v = some z := hs
  rw [hs]; rfl
theorem ok_Fit_residual_sum : FnOk P w K mg base CX0 4 (n.ad 52) (n.fd 52) ["self"] (spF (fun x : FitD => [FitV n x]) FitOk (fun x => Fr x.rss)) := by
  have G_Solution_times := ok_Solution_times (P := P) (w := w) (base := base) T
  have G_difference := ok_difference (P := P) (w := w) (base := base) T
  refine fn_ty T.f_Fit_residual_sum sc_Fit_residual_sum (fun _ => rfl) fun cdv Ar outer s H E' hr => ⟨_, (pss_cons (ps_set (i := 1) sc_Fit_residual_sum.nd rfl (Or.inl rfl) (pe_meth (pe_fld (pv 0) rfl) T.cl_Solution T.m_Solution_times G_Solution_times hr T.b_Solution_times .nil pass0 (pa_cons (pe_fld (pv 0) rfl) pa_nil)))
        (pss_one (ps_ret (pe_call G_difference hr rfl T.g_difference T.f_difference.kp T.b_difference .nil pass0 (pa_cons (pe_lst (pa_cons (pe_fld (pv 0) rfl) (pa_cons pe_int pa_nil))) (pa_cons (pv 1) pa_nil)))))), ?_⟩
  rintro x ok
  have sz := est_sz ok.sk ok.bm ok.so.ht
  refine q_asg (P := Fr (x.est x.mom)) (e_meth (x.sol, x.mom) ⟨ok.sk, fun z hz => lt_mono (ok.bm z hz) (by decide), Nat.le_trans ok.so.ht (by decide)⟩ (e_fld T.cl_Fit T.n_Fit_solution (e_var rfl) rfl) rfl (a_cons (e_fld T.cl_Fit T.n_Fit_moments (e_var rfl) rfl) a_nil) rfl) ?_
  refine s_ret (E.eq (e_call ⟨x.sq, 1, (x.est x.mom).num, (x.est x.mom).den⟩ ?_ (a_cons (E.of (el_lst (a_cons (e_fld T.cl_Fit T.n_Fit_response_squares (e_var rfl) rfl) (a_cons (e_int _) a_nil)))) (a_cons (e_var rfl) a_nil))) ?_)
  · exact ⟨by show (1 : Int) ≠ 0; decide, den_ne0 _, lt_mono ok.bs (by decide), one_pos (by decide), lt_mono sz.1 (by decide), lt_mono sz.2 (by decide)⟩
  · exact congrArg Fr (int_sub _ _)
theorem ok_Fit_variance : FnOk P w K mg base CX0 5 (n.ad 53) (n.fd 53) ["self"] (spF (fun x : FitD => [FitV n x]) (fun x => FitOk x ∧ Bn 200 x.free.natAbs) (fun x => x.varV)) := by
  have G_Fit_residual_sum := ok_Fit_residual_sum (P := P) (w := w) (base := base) T
  have G_quotient := ok_quotient (P := P) (w := w) (base := base) T
  refine fn_ty T.f_Fit_variance sc_Fit_variance (fun _ => rfl) fun cdv Ar outer s H E' hr => ⟨_, (pss_cons (ps_if (pt_cmpR op_eq (pe_fld (pv 0) rfl) pe_int (nomark _)) (pss_one (ps_ret pe_non)) pss_nil)
        (pss_one (ps_ret (pe_call G_quotient (hr.mono (by decide)) rfl T.g_quotient T.f_quotient.kp T.b_quotient .nil pass0 (pa_cons (pe_meth0 (pv 0) T.cl_Fit T.m_Fit_residual_sum G_Fit_residual_sum hr T.b_Fit_residual_sum .nil pass0) (pa_cons (pe_lst (pa_cons (pe_fld (pv 0) rfl) (pa_cons pe_int pa_nil))) pa_nil)))))), ?_⟩
  rintro x ⟨ok, hf⟩
  have sz := ok.rss_sz
  refine q_if (t_test (e_eq (e_fld T.cl_Fit T.n_Fit_freedom (e_var rfl) rfl) (e_int _))) (fun h => ?_) (fun h => ?_)
  · have h : x.free = 0 := by simpa using h
    refine q_ret (E.eq e_non ?_)
    unfold FitD.varV
    rw [if_pos h]
  · have h : ¬ x.free = 0 := by simpa using h
    refine q_next (s_ret (E.eq (e_call ⟨x.rss.num, x.rss.den, x.free, 1⟩ ?_ (a_cons (e_meth (x) ?_ (e_var rfl) rfl a_nil rfl) (a_cons (E.of (el_lst (a_cons (e_fld T.cl_Fit T.n_Fit_freedom (e_var rfl) rfl) (a_cons (e_int _) a_nil)))) a_nil))) ?_))
    · exact ⟨⟨den_ne0 _, by show (1 : Int) ≠ 0; decide, lt_mono sz.1 (by decide), lt_mono sz.2 (by decide), lt_mono hf (by decide), one_pos (by decide)⟩, h⟩
    · exact ok
    · show Fr _ = x.varV
      unfold FitD.varV
      rw [if_neg h]
      exact congrArg Fr (over_int _ _)
end
end Lf
end
section
set_option Elab.async false
set_option linter.all false
set_option maxRecDepth 100000
set_option maxHeartbeats 2000000
local macro_rules | `(tactic| decreasing_trivial) => `(tactic| ((repeat (first | exact Ty.st_nil | apply Ty.st_im | apply Ty.st_any | apply Ty.se_0 | apply Ty.se_im | apply Ty.se_any | exact Ty.pu_nil | apply Ty.pu_im | apply Ty.pu_any | apply Ty.pe_0 | apply Ty.pe_imE | apply Ty.pe_anyE | exact Ty.sub_nil | apply Ty.sub_cons | apply Ty.sub_any)); done))
namespace Lf
open PySem PySem.Spec PyProof.Rows L2 Ty NB
section
variable {P : Program} {w : World} {K : PySem.W.Frag} {mg : Str → Option Value} {base : Heap} {n : Nm} (T : Txt K mg n)
include T
theorem ok_Fit_part : FnOk P w K mg base CX0 8 (n.ad 48) (n.fd 48) ["self", "columns"] (spF (fun x : FitD × List Nat × (List Int × Int) => [FitV n x.1, Ln x.2.1]) (fun x => FitOk (subD x.1 x.2.1 x.2.2) ∧ x.2.1.length ≤ 100 ∧ (∀ c ∈ x.2.1, c < x.1.prods.length ∧ c < x.1.mom.length) ∧ ∀ r ∈ x.1.prods, ∀ c ∈ x.2.1, c < r.length) (fun x => FitV n (subD x.1 x.2.1 x.2.2))) := by
  have G_Fit_init := ok_Fit_init (P := P) (w := w) (base := base) T
  refine fn_ty T.f_Fit_part sc_Fit_part (fun _ => rfl) fun cdv Ar outer s H E' hr => ⟨_, (pss_cons (ps_setLc (i := 2) (own := [("left", 4)]) (g := (gName 4)) (tt := tYes) (te := (tLc (iList K (tVar 1)) (gName 5) tYes (tOp (rIxL K) (tOp (rIxL K) (tFld K (tVar 0) "products") (tVar 4)) (tVar 5)) [5])) rfl sc_Fit_part.nd rfl rfl (sw_true rfl rfl rfl (by decide +kernel)) (pi_list (pv 1)) (blkOk_by (N := ["self", "columns", "products", "moments", "left", "right"]) (sc := defScope st_Fit_part) (by decide +kernel)) (fun _ _ _ _ _ => (pg_name (i := 4) sc_Fit_part.nd rfl (Or.inr rfl))) (fun _ _ _ _ _ => pts_nil) (fun _ _ _ _ _ => (pe_lc (own := [("right", 5)]) (g := (gName 5)) (tt := tYes) (te := (tOp (rIxL K) (tOp (rIxL K) (tFld K (tVar 0) "products") (tVar 4)) (tVar 5))) rfl sc_Fit_part.nd (pi_list (pv 1)) (blkOk_by (N := ["self", "columns", "products", "moments", "left", "right"]) (sc := relS (lcS (asgV ((defBody st_Fit_part).getD 0 (.Pass ⟨0, 0, 0, 0⟩)))) (defScope st_Fit_part)) (by decide +kernel)) (fun _ _ _ _ _ => (pg_name (i := 5) sc_Fit_part.nd rfl (Or.inl rfl))) (fun _ _ _ _ _ => pts_nil) (fun _ _ _ _ _ => (pe_ix ix_list (pe_ix ix_list (pe_fld (pv 0) rfl) (pv 4) (fun _ _ => rfl)) (pv 5) (fun _ _ => rfl))))))
        (pss_cons (ps_setLc (i := 3) (own := [("left", 4)]) (g := (gName 4)) (tt := tYes) (te := (tOp (rIxL K) (tFld K (tVar 0) "moments") (tVar 4))) rfl sc_Fit_part.nd rfl rfl (sw_true rfl rfl rfl (by decide +kernel)) (pi_list (pv 1)) (blkOk_by (N := ["self", "columns", "products", "moments", "left", "right"]) (sc := defScope st_Fit_part) (by decide +kernel)) (fun _ _ _ _ _ => (pg_name (i := 4) sc_Fit_part.nd rfl (Or.inl rfl))) (fun _ _ _ _ _ => pts_nil) (fun _ _ _ _ _ => (pe_ix ix_list (pe_fld (pv 0) rfl) (pv 4) (fun _ _ => rfl))))
        (pss_one (ps_ret (pe_make T.mk_Fit G_Fit_init hr rfl T.g_Fit T.b_Fit_init .nil pass0 (pa_cons (pv 2) (pa_cons (pv 3) (pa_cons (pe_fld (pv 0) rfl) (pa_cons (pe_fld (pv 0) rfl) pa_nil))))))))), ?_⟩
  rintro ⟨x, cols, sol⟩ ⟨ok, hl, hc, hr⟩
  have hl : cols.length ≤ 100 := hl
  have hc : ∀ c ∈ cols, c < x.prods.length ∧ c < x.mom.length := hc
  have hr : ∀ r ∈ x.prods, ∀ c ∈ cols, c < r.length := hr
  refine q_asg (P := Mx (cols.map fun l => cols.map fun r => BA.cell (x.prods.getD l []) r)) (E.of (EL.eq (el_mapM (f := fun i : Nat => Iv (i : Nat)) (h := fun l => Li (cols.map fun r => BA.cell (x.prods.getD l []) r)) (l := cols) (e_var rfl) (by omega) (by simp) fun l hlm => ?_) (by rw [List.map_map]; rfl))) ?_
  · refine E.of (EL.eq (el_mapM (f := fun i : Nat => Iv (i : Nat)) (h := fun r : Nat => Iv (BA.cell (x.prods.getD l []) r)) (l := cols) (e_var rfl) (by omega) (by simp) fun r hrm => ?_) (by rw [List.map_map]; rfl))
    exact (e_ixL (e_ixL (e_fld T.cl_Fit T.n_Fit_products (e_var rfl) rfl) (e_var rfl) (ix_map [] (hc l hlm).1)) (e_var rfl) (ix_map 0 (hr _ (Ty.getD_mem (hc l hlm).1) r hrm)))
  refine q_asg (P := Li (cols.map fun l => BA.cell x.mom l)) (E.of (EL.eq (el_mapM (f := fun i : Nat => Iv (i : Nat)) (h := fun l => Iv (BA.cell x.mom l)) (l := cols) (e_var rfl) (by omega) (by simp) fun l hlm => ?_) (by rw [List.map_map]; rfl))) ?_
  · exact (e_ixL (e_fld T.cl_Fit T.n_Fit_moments (e_var rfl) rfl) (e_var rfl) (ix_map 0 (hc l hlm).2))
  exact s_ret (e_make (subD x cols sol) ok (a_cons (e_var rfl) (a_cons (e_var rfl) (a_cons (e_fld T.cl_Fit T.n_Fit_response_squares (e_var rfl) rfl) (a_cons (e_fld T.cl_Fit T.n_Fit_row_count (e_var rfl) rfl) a_nil)))))
omit T in
theorem FitOfOk.col {wd : Nat} {R : List (List Int)} {y : List Int} {sol : List Int × Int} (h : FitOfOk wd R y sol) : ∀ c ∈ colsOf wd R, Bd 4000 c ∧ c.length ≤ 1000 := by
  intro c hc
  obtain ⟨j, hj, rfl⟩ := List.mem_map.mp hc
  have hj := List.mem_range.mp hj
  refine ⟨fun z hz => ?_, by rw [List.length_map]; exact Nat.le_trans h.hr (by decide)⟩
  obtain ⟨r, hr, rfl⟩ := List.mem_map.mp hz
  exact lt_mono (h.br r hr _ (Ty.getD_mem (Nat.lt_of_lt_of_le hj (h.wr r hr)))) (by decide)
theorem ok_fit_of : FnOk P w K mg base CX0 8 (n.ad 54) (n.fd 54) ["width", "rows", "responses"] (spF (fun x : Nat × List (List Int) × List Int × (List Int × Int) => [Iv (x.1 : Nat), Mx x.2.1, Li x.2.2.1]) (fun x => FitOfOk x.1 x.2.1 x.2.2.1 x.2.2.2) (fun x => FitV n (fitD x.1 x.2.1 x.2.2.1 x.2.2.2))) := by
  have G_Fit_init := ok_Fit_init (P := P) (w := w) (base := base) T
  have G_dot := ok_dot (P := P) (w := w) (base := base) T
  refine fn_ty T.f_fit_of sc_fit_of (fun _ => rfl) fun cdv Ar outer s H E' hr => ⟨_, (pss_cons (ps_set (i := 3) sc_fit_of.nd rfl (Or.inr rfl) (pe_lc (own := [("place", 6)]) (g := (gName 6)) (tt := tYes) (te := (tLc (iList K (tVar 1)) (gName 7) tYes (tOp (rIxL K) (tVar 7) (tVar 6)) [7])) rfl sc_fit_of.nd (pi_range1 rfl T.b_range (pa_cons (pv 0) pa_nil)) (blkOk_by (N := ["width", "rows", "responses", "columns", "products", "moments", "place", "row", "left", "right", "column"]) (sc := defScope st_fit_of) (by decide +kernel)) (fun _ _ _ _ _ => (pg_name (i := 6) sc_fit_of.nd rfl (Or.inr rfl))) (fun _ _ _ _ _ => pts_nil) (fun _ _ _ _ _ => (pe_lc (own := [("row", 7)]) (g := (gName 7)) (tt := tYes) (te := (tOp (rIxL K) (tVar 7) (tVar 6))) rfl sc_fit_of.nd (pi_list (pv 1)) (blkOk_by (N := ["width", "rows", "responses", "columns", "products", "moments", "place", "row", "left", "right", "column"]) (sc := relS (lcS (asgV ((defBody st_fit_of).getD 0 (.Pass ⟨0, 0, 0, 0⟩)))) (defScope st_fit_of)) (by decide +kernel)) (fun _ _ _ _ _ => (pg_name (i := 7) sc_fit_of.nd rfl (Or.inl rfl))) (fun _ _ _ _ _ => pts_nil) (fun _ _ _ _ _ => (pe_ix ix_list (pv 7) (pv 6) (fun _ _ => rfl)))))))
        (pss_cons (ps_setLc (i := 4) (own := [("left", 8)]) (g := (gName 8)) (tt := tYes) (te := (tLc (iList K (tVar 3)) (gName 9) tYes (tCall _ [] E0 (tCons (tVar 8) (tCons (tVar 9) tNil))) [9])) rfl sc_fit_of.nd rfl rfl (sw_true rfl rfl rfl (by decide +kernel)) (pi_list (pv 3)) (blkOk_by (N := ["width", "rows", "responses", "columns", "products", "moments", "place", "row", "left", "right", "column"]) (sc := defScope st_fit_of) (by decide +kernel)) (fun _ _ _ _ _ => (pg_name (i := 8) sc_fit_of.nd rfl (Or.inr rfl))) (fun _ _ _ _ _ => pts_nil) (fun _ _ _ _ _ => (pe_lc (own := [("right", 9)]) (g := (gName 9)) (tt := tYes) (te := (tCall _ [] E0 (tCons (tVar 8) (tCons (tVar 9) tNil)))) rfl sc_fit_of.nd (pi_list (pv 3)) (blkOk_by (N := ["width", "rows", "responses", "columns", "products", "moments", "place", "row", "left", "right", "column"]) (sc := relS (lcS (asgV ((defBody st_fit_of).getD 1 (.Pass ⟨0, 0, 0, 0⟩)))) (defScope st_fit_of)) (by decide +kernel)) (fun _ _ _ _ _ => (pg_name (i := 9) sc_fit_of.nd rfl (Or.inl rfl))) (fun _ _ _ _ _ => pts_nil) (fun _ _ _ _ _ => (pe_call G_dot (hr.mono (by decide)) rfl T.g_dot T.f_dot.kp T.b_dot .nil pass0 (pa_cons (pv 8) (pa_cons (pv 9) pa_nil)))))))
        (pss_cons (ps_setLc (i := 5) (own := [("column", 10)]) (g := (gName 10)) (tt := tYes) (te := (tCall _ [] E0 (tCons (tVar 10) (tCons (tVar 2) tNil)))) rfl sc_fit_of.nd rfl rfl (sw_true rfl rfl rfl (by decide +kernel)) (pi_list (pv 3)) (blkOk_by (N := ["width", "rows", "responses", "columns", "products", "moments", "place", "row", "left", "right", "column"]) (sc := defScope st_fit_of) (by decide +kernel)) (fun _ _ _ _ _ => (pg_name (i := 10) sc_fit_of.nd rfl (Or.inl rfl))) (fun _ _ _ _ _ => pts_nil) (fun _ _ _ _ _ => (pe_call G_dot (hr.mono (by decide)) rfl T.g_dot T.f_dot.kp T.b_dot .nil pass0 (pa_cons (pv 10) (pa_cons (pv 2) pa_nil)))))
        (pss_one (ps_ret (pe_make T.mk_Fit G_Fit_init hr rfl T.g_Fit T.b_Fit_init .nil pass0 (pa_cons (pv 4) (pa_cons (pv 5) (pa_cons (pe_call G_dot (hr.mono (by decide)) rfl T.g_dot T.f_dot.kp T.b_dot .nil pass0 (pa_cons (pv 2) (pa_cons (pv 2) pa_nil))) (pa_cons (pe_callB call_len_seq (by rfl) T.b_len (by decide +kernel) (pa_cons (pv 1) pa_nil)) pa_nil)))))))))), ?_⟩
  rintro ⟨wd, R, y, sol⟩ ok
  have ok : FitOfOk wd R y sol := ok
  have hcol := ok.col
  have by4 : Bd 4000 y := fun z hz => lt_mono (ok.by_ z hz) (by decide)
  refine q_asg (P := Mx (colsOf wd R)) (E.of (EL.eq (el_rngM (m := wd) (h := fun j => Li (R.map fun r => r.getD j 0)) (a_cons (e_var rfl) a_nil) (by have := ok.hw; omega) (by simp) fun j hj => ?_) (by unfold colsOf; rw [List.map_map]; rfl))) ?_
  · refine E.of (EL.eq (el_mapM (f := Li) (h := fun r : List Int => Iv (r.getD j 0)) (l := R) (e_var rfl) (by have := ok.hr; omega) (by simp) fun r hrm => ?_) (by rw [List.map_map]; rfl))
    exact (e_ixL (e_var rfl) (e_var rfl) (ix_map 0 (Nat.lt_of_lt_of_le hj (ok.wr r hrm))))
  refine q_asg (P := Mx (prodsOf (colsOf wd R))) (E.of (EL.eq (el_mapM (f := Li) (h := fun l => Li ((colsOf wd R).map fun r => dotI l r)) (l := colsOf wd R) (e_var rfl) (by rw [colsOf_len]; have := ok.hw; omega) (by simp) fun l hlm => ?_) (by unfold prodsOf; rw [List.map_map]; rfl))) ?_
  · refine E.of (EL.eq (el_mapM (f := Li) (h := fun r => Iv (dotI l r)) (l := colsOf wd R) (e_var rfl) (by rw [colsOf_len]; have := ok.hw; omega) (by simp) fun r hrm => ?_) (by rw [List.map_map]; rfl))
    exact e_call (l, r) ⟨(hcol l hlm).1, (hcol r hrm).1, (hcol l hlm).2⟩ (a_cons (e_var rfl) (a_cons (e_var rfl) a_nil))
  refine q_asg (P := Li (momOf (colsOf wd R) y)) (E.of (EL.eq (el_mapM (f := Li) (h := fun c => Iv (dotI c y)) (l := colsOf wd R) (e_var rfl) (by rw [colsOf_len]; have := ok.hw; omega) (by simp) fun c hcm => ?_) (by unfold momOf; rw [List.map_map]; rfl))) ?_
  · exact e_call (c, y) ⟨(hcol c hcm).1, by4, (hcol c hcm).2⟩ (a_cons (e_var rfl) (a_cons (e_var rfl) a_nil))
  exact s_ret (e_make (fitD wd R y sol) ok.ok (a_cons (e_var rfl) (a_cons (e_var rfl) (a_cons (e_call (y, y) ⟨by4, by4, Nat.le_trans ok.ly (by decide)⟩ (a_cons (e_var rfl) (a_cons (e_var rfl) a_nil))) (a_cons (e_lenM (a_cons (e_var rfl) a_nil)) a_nil)))))
end
end Lf
end
section
set_option Elab.async false
set_option linter.all false
set_option maxRecDepth 100000
set_option maxHeartbeats 2000000
local macro_rules | `(tactic| decreasing_trivial) => `(tactic| ((repeat (first | exact Ty.st_nil | apply Ty.st_im | apply Ty.st_any | apply Ty.se_0 | apply Ty.se_im | apply Ty.se_any | exact Ty.pu_nil | apply Ty.pu_im | apply Ty.pu_any | apply Ty.pe_0 | apply Ty.pe_imE | apply Ty.pe_anyE | exact Ty.sub_nil | apply Ty.sub_cons | apply Ty.sub_any)); done))
namespace Lf
open PySem PySem.Spec PyProof.Rows L2 Ty NB
def ModF (m : ModD) : List (Str × VP) := [("column_count", Iv (m.cc : Nat)), ("terms", Ln m.terms), ("rows", Mx m.rows), ("responses", Li m.resp)]
def ModV (n : Nm) (m : ModD) : VP := Ov (n.cl 4) (ModF m)
def fitsT (m : ModD) (t : List Int) : Bool := if (!decide ((t.length : Int) = (m.cc : Int)) || !decide (t.getD 0 0 = 0)) = true then false else (List.zipWith (fun b a => inV (.int (a - b)) ([0, 1].map V.int)) t (t.drop 1)).all id
theorem erase_map {α : Type} (f : α → VP) (l : List α) (i : Nat) (h : i < l.length) : (((l.map f).drop (HT.sIx (l.map f).length 0 none)).take (HT.sIx (l.map f).length (l.map f).length (some (i : Int)) - HT.sIx (l.map f).length 0 none)) ++ (((l.map f).drop (HT.sIx (l.map f).length 0 (some ((i : Int) + 1)))).take (HT.sIx (l.map f).length (l.map f).length none - HT.sIx (l.map f).length 0 (some ((i : Int) + 1)))) = (l.eraseIdx i).map f := by
  have e : ((i : Int) + 1) = ((i + 1 : Nat) : Int) := rfl
  rw [e, HT.sIx_none, HT.sIx_none, HT.sIx_nat, HT.sIx_nat, List.length_map, Nat.min_eq_left (by omega), Nat.min_eq_left (by omega), List.drop_zero, Nat.sub_zero, List.take_of_length_le (l := (l.map f).drop (i + 1)) (by rw [List.length_drop, List.length_map]; omega), List.eraseIdx_eq_take_drop_succ, List.map_append, List.map_take, List.map_drop]
theorem getLast_map {l : List Nat} (h : 0 < l.length) : (l.map fun i => Iv (i : Nat))[(l.map fun i => Iv (i : Nat)).length - 1]? = some (Iv ((l.getLastD 0 : Nat))) := by
  rw [List.length_map, List.getElem?_map, List.getElem?_eq_getElem (by omega)]
  cases l with
  | nil => simp at h
  | cons x l =>
    show some _ = some _
    congr 2
    rw [List.getLastD_cons]
    simp only [List.length_cons, Nat.add_sub_cancel]
    have : (x :: l)[l.length] = l.getLast?.getD x := by
      rw [List.getLast?_eq_getElem?]
      cases l with
      | nil => rfl
      | cons y l => simp
    rw [this]
    cases l with
    | nil => rfl
    | cons y l => simp [List.getLastD, List.getLast?]
section
variable {P : Program} {w : World} {K : PySem.W.Frag} {mg : Str → Option Value} {base : Heap} {n : Nm} (T : Txt K mg n)
include T
theorem ok_all_within : FnOk P w K mg base CX0 1 (n.ad 15) (n.fd 15) ["numbers", "largest"] (spF (fun x : List Int × Int => [Li x.1, Iv x.2]) (fun x => x.1.length ≤ 1000) (fun x => Bv (withinB x.1 x.2))) := by
  refine fn_ty T.f_all_within sc_all_within (fun _ => rfl) fun cdv Ar outer s H E' hr => ⟨_, (pss_one (ps_ret (pe_callB (cr_all rfl) (by rfl) T.b_all (by decide +kernel) (pa_cons (pe_lc (own := [("number", 2)]) (g := (gName 2)) (tt := tYes) (te := (tOp (rI0 fun i j => .bl (decide (i ≤ j))) (tCB rAbsQ (tCons (tVar 2) tNil)) (tVar 1))) rfl sc_all_within.nd (pi_list (pv 0)) (blkOk_by (N := ["numbers", "largest", "number"]) (sc := defScope st_all_within) (by decide +kernel)) (fun _ _ _ _ _ => (pg_name (i := 2) sc_all_within.nd rfl (Or.inl rfl))) (fun _ _ _ _ _ => pts_nil) (fun _ _ _ _ _ => (pe_cmpR op_le (pe_callB call_abs (by rfl) T.b_abs (by decide +kernel) (pa_cons (pv 2) pa_nil)) (pv 1) (nomark _)))) pa_nil)))), ?_⟩
  rintro ⟨l, k⟩ hl
  have hl : l.length ≤ 1000 := hl
  refine s_ret (E.eq (e_all (ns := l.map fun z => decide ((z.natAbs : Int) ≤ k)) (a_cons (E.of (EL.eq (el_mapM (f := Iv) (h := fun z => Bv (decide ((z.natAbs : Int) ≤ k))) (l := l) (e_var rfl) (by omega) (by simp) fun z hz => (e_le (e_abs (a_cons (e_var rfl) a_nil)) (e_var rfl))) (by rw [List.map_map]; rfl))) a_nil)) ?_)
  show Bv _ = Bv (withinB l k)
  unfold withinB
  rw [List.all_map]; rfl
theorem ok_is_response : FnOk P w K mg base CX0 1 (n.ad 64) (n.fd 64) ["response"] (spF (fun x : Int => [Iv x]) (fun _ => True) (fun x => Bv (decide ((x.natAbs : Int) ≤ 1000000)))) := by
  refine fn_ty T.f_is_response sc_is_response (fun _ => rfl) fun cdv Ar outer s H E' hr => ⟨_, (pss_one (ps_ret (pe_cmpR op_le (pe_callB call_abs (by rfl) T.b_abs (by decide +kernel) (pa_cons (pv 0) pa_nil)) (pe_cst rfl T.g_LARGEST_NUMBER) (nomark _)))), ?_⟩
  intro x _
  exact s_ret (e_le (e_abs (a_cons (e_var rfl) a_nil)) (e_int _))
theorem ok_Model_is_created : FnOk P w K mg base CX0 1 (n.ad 57) (n.fd 57) ["self"] (spF (fun x : ModD => [ModV n x]) (fun _ => True) (fun x => Bv (decide ((0 : Int) < (x.cc : Int))))) := by
  refine fn_ty T.f_Model_is_created sc_Model_is_created (fun _ => rfl) fun cdv Ar outer s H E' hr => ⟨_, (pss_one (ps_ret (pe_cmpR op_gt (pe_fld (pv 0) rfl) pe_int (nomark _)))), ?_⟩
  intro x _
  exact s_ret (e_gt (e_fld T.cl_Model T.n_Model_column_count (e_var rfl) rfl) (e_int _))
theorem ok_Model_has_row : FnOk P w K mg base CX0 1 (n.ad 58) (n.fd 58) ["self", "place"] (spF (fun x : ModD × Int => [ModV n x.1, Iv x.2]) (fun _ => True) (fun x => Bv (x.1.hasRow x.2))) := by
  refine fn_ty T.f_Model_has_row sc_Model_has_row (fun _ => rfl) fun cdv Ar outer s H E' hr => ⟨_, (pss_one (ps_ret (pe_chain op_le op_lt pe_int (pv 1) (pe_callB call_len_seq (by rfl) T.b_len (by decide +kernel) (pa_cons (pe_fld (pv 0) rfl) pa_nil))))), ?_⟩
  rintro ⟨x, i⟩ _
  exact s_ret (e_chain (e_int _) (e_var rfl) (e_lenM (a_cons (e_fld T.cl_Model T.n_Model_rows (e_var rfl) rfl) a_nil)))
theorem ok_Model_term_count : FnOk P w K mg base CX0 1 (n.ad 59) (n.fd 59) ["self"] (spF (fun x : ModD => [ModV n x]) (fun x => 0 < x.terms.length) (fun x => Iv (x.tc : Nat))) := by
  refine fn_ty T.f_Model_term_count sc_Model_term_count (fun _ => rfl) fun cdv Ar outer s H E' hr => ⟨_, (pss_one (ps_ret (pe_op op_add (pe_ix ix_list (pe_fld (pv 0) rfl) (pe_un un_neg pe_int) (fun _ _ => rfl)) pe_int))), ?_⟩
  intro x hx
  refine s_ret (e_add (n := 1) (e_last (e_fld T.cl_Model T.n_Model_terms (e_var rfl) rfl) (e_neg (e_int 1)) (getLast_map hx) (by rw [List.length_map]; exact hx)) (e_int 1))
theorem ok_Model_fits_columns : FnOk P w K mg base CX0 2 (n.ad 60) (n.fd 60) ["self", "vector"] (spF (fun x : ModD × List Int => [ModV n x.1, Li x.2]) (fun x => x.2.length ≤ 1000) (fun x => Bv (fitsC x.1 x.2))) := by
  have G_all_within := ok_all_within (P := P) (w := w) (base := base) T
  refine fn_ty T.f_Model_fits_columns sc_Model_fits_columns (fun _ => rfl) fun cdv Ar outer s H E' hr => ⟨_, (pss_one (ps_ret (pe_and (pe_cmpR op_eq (pe_callB call_len_seq (by rfl) T.b_len (by decide +kernel) (pa_cons (pv 1) pa_nil)) (pe_fld (pv 0) rfl) (nomark _)) (pe_one (pe_call G_all_within hr rfl T.g_all_within T.f_all_within.kp T.b_all_within .nil pass0 (pa_cons (pv 1) (pa_cons (pe_cst rfl T.g_LARGEST_ENTRY) pa_nil))))))), ?_⟩
  rintro ⟨x, v⟩ hv
  refine s_ret (e_andV (e_eq (e_lenM (a_cons (e_var rfl) a_nil)) (e_fld T.cl_Model T.n_Model_column_count (e_var rfl) rfl)) fun _ => (e_call (v, 1000) ?_ (a_cons (e_var rfl) (a_cons (e_int _) a_nil))))
  exact hv
theorem ok_Model_fits_terms : FnOk P w K mg base CX0 1 (n.ad 61) (n.fd 61) ["self", "terms"] (spF (fun x : ModD × List Int => [ModV n x.1, Li x.2]) (fun x => x.2.length ≤ 1000 ∧ 0 < x.1.cc) (fun x => Bv (fitsT x.1 x.2))) := by
  refine fn_ty T.f_Model_fits_terms sc_Model_fits_terms (fun _ => rfl) fun cdv Ar outer s H E' hr => ⟨_, (pss_cons (ps_if (PW.pt (pw_or (pt_cmpR op_ne (pe_callB call_len_seq (by rfl) T.b_len (by decide +kernel) (pa_cons (pv 1) pa_nil)) (pe_fld (pv 0) rfl) (nomark _)) (pw_or1 (pt_cmpR op_ne (pe_ix ix_list (pv 1) pe_int (fun _ _ => rfl)) pe_int (nomark _))))) (pss_one (ps_ret pe_bl)) pss_nil)
        (pss_cons (ps_setLc (i := 2) (own := [("before", 3), ("after", 4)]) (g := (gTup K 2 (gCons (gName 3) (gCons (gName 4) gNil)))) (tt := tYes) (te := (tOp (rI0 fun i j => .int (i - j)) (tVar 4) (tVar 3))) rfl sc_Model_fits_terms.nd rfl rfl (sw_true rfl rfl rfl (by decide +kernel)) (pi_zip (by rfl) T.b_zip (pa_cons (pv 1) (pa_cons (pe_slice sl_list (pv 1) (po_some pe_int) po_none) pa_nil))) (blkOk_by (N := ["self", "terms", "steps", "before", "after", "step"]) (sc := defScope st_Model_fits_terms) (by decide +kernel)) (fun _ _ _ _ _ => (pg_tup rfl (pgs_cons (pg_name (i := 3) sc_Model_fits_terms.nd rfl (Or.inl rfl)) (pgs_cons (pg_name (i := 4) sc_Model_fits_terms.nd rfl (Or.inl rfl)) pgs_nil)))) (fun _ _ _ _ _ => pts_nil) (fun _ _ _ _ _ => (pe_op op_sub (pv 4) (pv 3))))
        (pss_one (ps_ret (pe_callB (cr_all rfl) (by rfl) T.b_all (by decide +kernel) (pa_cons (pe_lc (own := [("step", 5)]) (g := (gName 5)) (tt := tYes) (te := (tOp (rIn K false) (tVar 5) (tTup (tCons (tC (.int 0)) (tCons (tC (.int 1)) tNil))))) rfl sc_Model_fits_terms.nd (pi_list (pv 2)) (blkOk_by (N := ["self", "terms", "steps", "before", "after", "step"]) (sc := defScope st_Model_fits_terms) (by decide +kernel)) (fun _ _ _ _ _ => (pg_name (i := 5) sc_Model_fits_terms.nd rfl (Or.inl rfl))) (fun _ _ _ _ _ => pts_nil) (fun _ _ _ _ _ => (pe_cmpR op_in_seq (pv 5) (pe_tup (pa_cons pe_int (pa_cons pe_int pa_nil))) (by rfl)))) pa_nil)))))), ?_⟩
  rintro ⟨x, t⟩ ⟨ht, h0⟩
  have ht : t.length ≤ 1000 := ht
  have h0 : 0 < x.cc := h0
  refine q_if (b := !decide ((t.length : Int) = (x.cc : Int)) || !decide (t.getD 0 0 = 0)) (t_or (t_test (e_ne (e_lenM (a_cons (e_var rfl) a_nil)) (e_fld T.cl_Model T.n_Model_column_count (e_var rfl) rfl))) fun h => t_test (e_ne (e_ixL (e_var rfl) (e_intN 0) (ix_map 0 ?_)) (e_int 0))) (fun h => ?_) (fun h => ?_)
  · have : (t.length : Int) = (x.cc : Int) := by simpa using h
    show 0 < t.length
    omega
  · refine q_ret (E.eq (e_bl false) ?_)
    show Bv false = Bv (fitsT x t)
    unfold fitsT
    rw [if_pos h]
  · refine q_next (q_asg (P := Li (List.zipWith (fun b a => a - b) t (t.drop 1))) (E.of (EL.eq (el_zipM (f := Iv) (g := Iv) (h := fun b a => Iv (a - b)) (a := t) (b := t.drop 1) (a_cons (e_var rfl) (a_cons (E.of (EL.eq (el_slice (e_var rfl) (po_so (e_intN 1)) po_no) ?_)) a_nil)) (by omega) (by simp) (by simp) fun b hb a ha => (e_sub (e_var rfl) (e_var rfl))) (zip_map2 (fun b a => a - b) Iv t (t.drop 1)))) ?_)
    · rw [HT.sIx_nat, HT.sIx_none, List.length_map]
      have hl : 1 ≤ t.length := by
        have h1 := h
        rw [Bool.or_eq_false_iff] at h1
        have : (t.length : Int) = (x.cc : Int) := by simpa using h1.1
        omega
      rw [Nat.min_eq_left hl, List.take_of_length_le (by rw [List.length_drop, List.length_map]; omega), List.map_drop]
    · refine s_ret (E.eq (e_all (ns := (List.zipWith (fun b a => a - b) t (t.drop 1)).map fun z => inV (.int z) ([0, 1].map V.int)) (a_cons (E.of (EL.eq (el_mapM (f := Iv) (h := fun z => Bv (inV (.int z) ([0, 1].map V.int))) (l := List.zipWith (fun b a => a - b) t (t.drop 1)) (e_var rfl) (by rw [List.length_zipWith]; omega) (by simp) fun z hz => e_inT (ns := [0, 1]) (e_var rfl) (e_tup (a_cons (e_int 0) (a_cons (e_int 1) a_nil)))) (by rw [List.map_map]; rfl))) a_nil)) ?_)
      show Bv _ = Bv (fitsT x t)
      unfold fitsT
      rw [if_neg (by rw [h]; exact Bool.false_ne_true)]
      rw [zip_map2 (fun b a => a - b) (fun z => inV (.int z) ([0, 1].map V.int)) t (t.drop 1)]
theorem ok_Model_fit : FnOk P w K mg base CX0 9 (n.ad 62) (n.fd 62) ["self"] (spF (fun x : ModD × (List Int × Int) => [ModV n x.1]) (fun x => FitOfOk x.1.cc x.1.rows x.1.resp x.2) (fun x => FitV n (fitD x.1.cc x.1.rows x.1.resp x.2))) := by
  have G_fit_of := ok_fit_of (P := P) (w := w) (base := base) T
  refine fn_ty T.f_Model_fit sc_Model_fit (fun _ => rfl) fun cdv Ar outer s H E' hr => ⟨_, (pss_one (ps_ret (pe_call G_fit_of hr rfl T.g_fit_of T.f_fit_of.kp T.b_fit_of .nil pass0 (pa_cons (pe_fld (pv 0) rfl) (pa_cons (pe_fld (pv 0) rfl) (pa_cons (pe_fld (pv 0) rfl) pa_nil)))))), ?_⟩
  rintro ⟨x, sol⟩ ok
  refine s_ret (e_call (x.cc, x.rows, x.resp, sol) ?_ (a_cons (e_fld T.cl_Model T.n_Model_column_count (e_var rfl) rfl) (a_cons (e_fld T.cl_Model T.n_Model_rows (e_var rfl) rfl) (a_cons (e_fld T.cl_Model T.n_Model_responses (e_var rfl) rfl) a_nil))))
  exact ok
theorem ok_Model_fit_without : FnOk P w K mg base CX0 9 (n.ad 63) (n.fd 63) ["self", "place"] (spF (fun x : ModD × Nat × (List Int × Int) => [ModV n x.1, Iv (x.2.1 : Nat)]) (fun x => FitOfOk x.1.cc (x.1.rows.eraseIdx x.2.1) (x.1.resp.eraseIdx x.2.1) x.2.2 ∧ x.2.1 < x.1.rows.length ∧ x.1.rows.length = x.1.resp.length ∧ x.1.rows.length ≤ 100) (fun x => FitV n (fitD x.1.cc (x.1.rows.eraseIdx x.2.1) (x.1.resp.eraseIdx x.2.1) x.2.2))) := by
  have G_fit_of := ok_fit_of (P := P) (w := w) (base := base) T
  refine fn_ty T.f_Model_fit_without sc_Model_fit_without (fun _ => rfl) fun cdv Ar outer s H E' hr => ⟨_, (pss_cons (ps_set (i := 2) sc_Model_fit_without.nd rfl (Or.inl rfl) (pe_op op_cat (pe_slice sl_list (pe_fld (pv 0) rfl) po_none (po_some (pv 1))) (pe_slice sl_list (pe_fld (pv 0) rfl) (po_some (pe_op op_add (pv 1) pe_int)) po_none)))
        (pss_cons (ps_set (i := 3) sc_Model_fit_without.nd rfl (Or.inl rfl) (pe_op op_cat (pe_slice sl_list (pe_fld (pv 0) rfl) po_none (po_some (pv 1))) (pe_slice sl_list (pe_fld (pv 0) rfl) (po_some (pe_op op_add (pv 1) pe_int)) po_none)))
        (pss_one (ps_ret (pe_call G_fit_of hr rfl T.g_fit_of T.f_fit_of.kp T.b_fit_of .nil pass0 (pa_cons (pe_fld (pv 0) rfl) (pa_cons (pv 2) (pa_cons (pv 3) pa_nil)))))))), ?_⟩
  rintro ⟨x, i, sol⟩ ⟨ok, hi, hl, hz⟩
  have hi : i < x.rows.length := hi
  have hl : x.rows.length = x.resp.length := hl
  have hz : x.rows.length ≤ 100 := hz
  refine q_asg (P := Mx (x.rows.eraseIdx i)) (E.eq (E.of (el_cat (E.of (el_slice (e_fld T.cl_Model T.n_Model_rows (e_var rfl) rfl) po_no (po_so (e_var rfl)))) (E.of (el_slice (e_fld T.cl_Model T.n_Model_rows (e_var rfl) rfl) (po_so (e_add (e_var rfl) (e_int _))) po_no)) ?_)) ?_) ?_
  · simp only [List.length_take, List.length_drop, List.length_map]; omega
  · exact congrArg Lv (erase_map Li x.rows i hi)
  refine q_asg (P := Li (x.resp.eraseIdx i)) (E.eq (E.of (el_cat (E.of (el_slice (e_fld T.cl_Model T.n_Model_responses (e_var rfl) rfl) po_no (po_so (e_var rfl)))) (E.of (el_slice (e_fld T.cl_Model T.n_Model_responses (e_var rfl) rfl) (po_so (e_add (e_var rfl) (e_int _))) po_no)) ?_)) ?_) ?_
  · simp only [List.length_take, List.length_drop, List.length_map]; omega
  · exact congrArg Lv (erase_map Iv x.resp i (by omega))
  refine s_ret (e_call (x.cc, x.rows.eraseIdx i, x.resp.eraseIdx i, sol) ?_ (a_cons (e_fld T.cl_Model T.n_Model_column_count (e_var rfl) rfl) (a_cons (e_var rfl) (a_cons (e_var rfl) a_nil))))
  exact ok
end
end Lf
end
section
set_option Elab.async false
set_option linter.all false
set_option maxRecDepth 100000
set_option maxHeartbeats 2000000
local macro_rules | `(tactic| decreasing_trivial) => `(tactic| ((repeat (first | exact Ty.st_nil | apply Ty.st_im | apply Ty.st_any | apply Ty.se_0 | apply Ty.se_im | apply Ty.se_any | exact Ty.pu_nil | apply Ty.pu_im | apply Ty.pu_any | apply Ty.pe_0 | apply Ty.pe_imE | apply Ty.pe_anyE | exact Ty.sub_nil | apply Ty.sub_cons | apply Ty.sub_any)); done))
namespace Lf
open PySem PySem.Spec PyProof.Rows L2 Ty NB
/-- what an operation is handed: the model, the numbers, the lists -/
def ArgV (ns : List Int) (ls : List (List Int)) : VP := Lv (ns.map Iv ++ ls.map Li)
theorem fr_li (q : Rat) : Fr q = Li (frL q) := rfl
theorem map_li (l : List Int) : Lv (l.map Iv) = Li l := rfl
theorem cons_li (z : Int) (l : List Int) : Lv ([Iv z] ++ l.map Iv) = Li (z :: l) := rfl
theorem app_li (a b : List Int) : Lv (a.map Iv ++ b.map Iv) = Li (a ++ b) := by unfold Li; rw [List.map_append]
theorem flat_li (f : Int → List Int) : ∀ l : List Int, (l.flatMap fun z => (f z).map Iv) = (l.flatMap f).map Iv
  | [] => rfl
  | x :: l => by rw [List.flatMap_cons, List.flatMap_cons, List.map_append, flat_li f l]
theorem isN_opt {n : Nm} (o : Option (List Int × Int)) : ∀ v F, (OptSol n o).h v F → decide (v = .non) = o.isNone := fun v F h => by
  cases o with
  | none =>
    have h : v = .non := h
    subst h; rfl
  | some z =>
    obtain ⟨p, dx, gs, rfl, _⟩ := h
    rfl
theorem fac_sz {v : List Int} {z : List Int × Int} (h : SolOk z) (hv : Bd 10 v) (hl : v.length ≤ 100) : Sz 1210 (fac v z) := est_sz h (fun x hx => lt_mono (hv x hx) (by decide)) hl
theorem add_fac (f : Rat) (a : Int) : (((f.num + a * (f.den : Nat) : Int)) : Rat) / (((f.den : Nat) : Int) : Rat) = f + (a : Rat) := by
  have h2 : (((f.den : Nat) : Int) : Rat) ≠ 0 := SP.den_ne f
  rw [Rat.intCast_add, Rat.intCast_mul]
  have := SP.rat_eq f
  grind
theorem lt_small {z : Int} {k : Nat} (h : z.natAbs < 1000000) (hk : 20 ≤ k) : Bn k z.natAbs := lt_mono (k := 20) (by unfold Bn; omega) hk
section
variable {P : Program} {w : World} {K : PySem.W.Frag} {mg : Str → Option Value} {base : Heap} {n : Nm} (T : Txt K mg n)
include T
theorem ok_rank : FnOk P w K mg base CX0 10 (n.ad 26) (n.fd 26) ["model", "arguments"] (spF (fun x : ModD => [ModV n x, ArgV [] []]) OkM (fun x => Li (aRank x))) := by
  have G_Model_fit := ok_Model_fit (P := P) (w := w) (base := base) T
  refine fn_ty T.f_rank sc_rank (fun _ => rfl) fun cdv Ar outer s H E' hr => ⟨_, (pss_cons (ps_set (i := 2) sc_rank.nd rfl (Or.inl rfl) (pe_meth0 (pv 0) T.cl_Model T.m_Model_fit G_Model_fit hr T.b_Model_fit .nil pass0))
        (pss_one (ps_ret (pe_lst (pa_cons (pe_fld (pv 2) rfl) (pa_cons (pe_fld (pv 2) rfl) pa_nil)))))), ?_⟩
  intro m ok
  refine q_asg (P := FitV n (fitM m)) (e_meth (m, solM m) (okFit ok) (e_var rfl) rfl a_nil rfl) ?_
  exact s_ret (E.of (el_lst (a_cons (e_fld T.cl_Fit T.n_Fit_rank (e_var rfl) rfl) (a_cons (e_fld T.cl_Fit T.n_Fit_freedom (e_var rfl) rfl) a_nil))))
theorem ok_coefficients : FnOk P w K mg base CX0 10 (n.ad 27) (n.fd 27) ["model", "arguments"] (spF (fun x : ModD => [ModV n x, ArgV [] []]) OkM (fun x => Li (aCoef x))) := by
  have G_Model_fit := ok_Model_fit (P := P) (w := w) (base := base) T
  have G_Solution_fractions := ok_Solution_fractions (P := P) (w := w) (base := base) T
  refine fn_ty T.f_coefficients sc_coefficients (fun _ => rfl) fun cdv Ar outer s H E' hr => ⟨_, (pss_cons (ps_set (i := 2) sc_coefficients.nd rfl (Or.inl rfl) (pe_meth0 (pv 0) T.cl_Model T.m_Model_fit G_Model_fit hr T.b_Model_fit .nil pass0))
        (pss_cons (ps_if (pt_cmpR op_lt (pe_fld (pv 2) rfl) (pe_fld (pv 0) rfl) (nomark _)) (pss_one (ps_ret (pe_lst (pa_cons (pe_cst rfl T.g_NO_RESULT) pa_nil)))) pss_nil)
        (pss_one (ps_ret (pe_op op_cat (pe_lst (pa_cons (pe_fld (pv 0) rfl) pa_nil)) (pe_meth0 (pe_fld (pv 2) rfl) T.cl_Solution T.m_Solution_fractions G_Solution_fractions (hr.mono (by decide)) T.b_Solution_fractions .nil pass0)))))), ?_⟩
  intro m ok
  have fo := (okFit ok).ok
  refine q_asg (P := FitV n (fitM m)) (e_meth (m, solM m) (okFit ok) (e_var rfl) rfl a_nil rfl) ?_
  refine q_if (t_test (e_lt (e_fld T.cl_Fit T.n_Fit_rank (e_var rfl) rfl) (e_fld T.cl_Model T.n_Model_column_count (e_var rfl) rfl))) (fun h => ?_) (fun h => ?_)
  · have h : ((fitM m).rank : Int) < (m.cc : Int) := by simpa using h
    refine q_ret (E.eq (E.of (el_lst (a_cons (e_int _) a_nil))) ?_)
    unfold aCoef
    rw [if_pos h]; rfl
  · have h : ¬ ((fitM m).rank : Int) < (m.cc : Int) := by simpa using h
    have hl : (solM m).1.length ≤ 100 := by rw [solM_len ok]; exact Nat.le_trans ok.c8 (by decide)
    refine q_next (s_ret (E.eq (E.of (el_cat (E.of (el_lst (a_cons (e_fld T.cl_Model T.n_Model_column_count (e_var rfl) rfl) a_nil))) (e_meth (solM m) ?_ (e_fld T.cl_Fit T.n_Fit_solution (e_var rfl) rfl) rfl a_nil rfl) ?_)) ?_))
    · exact ⟨fo.sk, Nat.le_trans hl (by decide)⟩
    · have e : ∀ l : List Int, (l.flatMap fun (z : Int) => [Iv ((z : Rat) / ((solM m).2 : Rat)).num, Iv (((z : Rat) / ((solM m).2 : Rat)).den : Nat)]).length = 2 * l.length := fun l => by
        induction l with
        | nil => rfl
        | cons x l ih => rw [List.flatMap_cons, List.length_append, ih, List.length_cons]; simp only [List.length_cons, List.length_nil]; omega
      have := e (solM m).1
      show 1 + _ ≤ _
      omega
    · unfold aCoef
      rw [if_neg h]
      show Lv ([Iv _] ++ ((solM m).1.flatMap fun (z : Int) => (frL ((z : Rat) / ((solM m).2 : Rat))).map Iv)) = _
      rw [flat_li]; rfl
theorem ok_told_estimate : FnOk P w K mg base CX0 10 (n.ad 28) (n.fd 28) ["model", "vector", "added"] (spF (fun x : ModD × List Int × Int => [ModV n x.1, Li x.2.1, Iv x.2.2]) (fun x => OkM x.1 ∧ x.2.1.length ≤ 1000 ∧ x.2.2.natAbs ≤ 1) (fun x => Li (aTold x.1 x.2.1 x.2.2))) := by
  have G_Fit_estimate := ok_Fit_estimate (P := P) (w := w) (base := base) T
  have G_Fit_weights := ok_Fit_weights (P := P) (w := w) (base := base) T
  have G_Model_fit := ok_Model_fit (P := P) (w := w) (base := base) T
  have G_Model_fits_columns := ok_Model_fits_columns (P := P) (w := w) (base := base) T
  have G_Solution_times := ok_Solution_times (P := P) (w := w) (base := base) T
  have G_lowest_terms := ok_lowest_terms (P := P) (w := w) (base := base) T
  refine fn_ty T.f_told_estimate sc_told_estimate (fun _ => rfl) fun cdv Ar outer s H E' hr => ⟨_, (pss_cons (ps_if (pt_not (pt_val (pe_meth (pv 0) T.cl_Model T.m_Model_fits_columns G_Model_fits_columns (hr.mono (by decide)) T.b_Model_fits_columns .nil pass0 (pa_cons (pv 1) pa_nil)))) (pss_one (ps_ret (pe_lst (pa_cons (pe_cst rfl T.g_OUT_OF_RANGE) pa_nil)))) pss_nil)
        (pss_cons (ps_set (i := 3) sc_told_estimate.nd rfl (Or.inl rfl) (pe_meth0 (pv 0) T.cl_Model T.m_Model_fit G_Model_fit hr T.b_Model_fit .nil pass0))
        (pss_cons (ps_set (i := 4) sc_told_estimate.nd rfl (Or.inl rfl) (pe_meth (pv 3) T.cl_Fit T.m_Fit_weights G_Fit_weights (hr.mono (by decide)) T.b_Fit_weights .nil pass0 (pa_cons (pv 1) pa_nil)))
        (pss_cons (ps_if (pt_cmpR op_isN (pv 4) pe_non (nomark _)) (pss_one (ps_ret (pe_lst (pa_cons (pe_cst rfl T.g_NO_RESULT) pa_nil)))) pss_nil)
        (pss_cons (ps_set (i := 5) sc_told_estimate.nd rfl (Or.inl rfl) (pe_meth (pv 4) T.cl_Solution T.m_Solution_times G_Solution_times (hr.mono (by decide)) T.b_Solution_times .nil pass0 (pa_cons (pv 1) pa_nil)))
        (pss_cons (ps_set (i := 6) sc_told_estimate.nd rfl (Or.inl rfl) (pe_call G_lowest_terms (hr.mono (by decide)) rfl T.g_lowest_terms T.f_lowest_terms.kp T.b_lowest_terms .nil pass0 (pa_cons (pe_op op_add (pe_ix ix_list (pv 5) pe_int (fun _ _ => rfl)) (pe_op op_mulW (pv 2) (pe_ix ix_list (pv 5) pe_int (fun _ _ => rfl)))) (pa_cons (pe_ix ix_list (pv 5) pe_int (fun _ _ => rfl)) pa_nil))))
        (pss_one (ps_ret (pe_op op_cat (pe_op op_cat (pe_lst (pa_cons pe_int pa_nil)) (pe_meth (pv 3) T.cl_Fit T.m_Fit_estimate G_Fit_estimate (hr.mono (by decide)) T.b_Fit_estimate .nil pass0 (pa_cons (pv 1) pa_nil))) (pv 6)))))))))), ?_⟩
  rintro ⟨m, v, a⟩ ⟨ok, hz, ha⟩
  have ok : OkM m := ok
  have ha : a.natAbs ≤ 1 := ha
  refine q_if (b := !(fitsC m v)) (t_not (t_val (e_meth (m, v) hz (e_var rfl) rfl (a_cons (e_var rfl) a_nil) rfl))) (fun h => ?_) (fun h => ?_)
  · refine q_ret (E.eq (E.of (el_lst (a_cons (e_int _) a_nil))) ?_)
    show _ = Li (aTold m v a)
    unfold aTold
    rw [if_pos (by simpa using h)]; rfl
  · have hc : fitsC m v = true := by simpa using h
    obtain ⟨hl, hb⟩ := fitsC_bd hc
    have hl8 : v.length ≤ 100 := by rw [hl]; exact Nat.le_trans ok.c8 (by decide)
    refine q_next (q_asg (P := FitV n (fitM m)) (e_meth (m, solM m) (okFit ok) (e_var rfl) rfl a_nil rfl) ?_)
    refine q_asg (P := OptSol n (wts m v)) (e_meth (fitM m, v) (okW ok hl hb) (e_var rfl) rfl (a_cons (e_var rfl) a_nil) rfl) ?_
    refine q_if (t_test (e_isN (e_var rfl) (isN_opt _))) (fun h => ?_) (fun h => ?_)
    · refine q_ret (E.eq (E.of (el_lst (a_cons (e_int _) a_nil))) ?_)
      show _ = Li (aTold m v a)
      unfold aTold
      rw [if_neg (by rw [hc]; exact Bool.true_eq_false ▸ id)]
      rw [Option.isNone_iff_eq_none.mp h]; rfl
    · cases hw : wts m v with
      | none => rw [hw] at h; cases h
      | some z =>
        have zo := okZ ok hl hb hw
        have sz := fac_sz zo hb hl8
        have ez := est_sz (okFit ok).ok.sk (fun x hx => lt_mono (hb x hx) (by decide)) hl8
        refine q_next (q_asg (P := Fr (fac v z)) (e_meth (fs := SolF z) (z, v) ⟨zo, fun x hx => lt_mono (hb x hx) (by decide), Nat.le_trans hl8 (by decide)⟩ (e_var rfl) rfl (a_cons (e_var rfl) a_nil) rfl) ?_)
        have ba : Bn 20 a.natAbs := by unfold Bn; omega
        refine q_asg (P := Fr (fac v z + (a : Rat))) (E.eq (e_call ((fac v z).num + a * ((fac v z).den : Int), ((fac v z).den : Int)) ?_ (a_cons (e_add (e_ixL (e_var rfl) (e_intN 0) rfl) (e_mul ?_ (e_var rfl) (e_ixL (e_var rfl) (e_intN 1) rfl))) (a_cons (e_ixL (e_var rfl) (e_intN 1) rfl) a_nil))) ?_) ?_
        · exact ⟨den_ne0 _, lt_mono sz.2 (by decide)⟩
        · exact mulW_ok (i := a) (j := ((fac v z).den : Nat)) (a := 20) (b := 1210) ba sz.2 (by decide) (by decide) (by decide)
        · exact congrArg Fr (add_fac _ _)
        refine s_ret (E.eq (E.of (el_cat (E.of (el_cat (E.of (el_lst (a_cons (e_int _) a_nil))) (e_meth (fitM m, v) ?_ (e_var rfl) rfl (a_cons (e_var rfl) a_nil) rfl) ?_)) (e_var rfl) ?_)) ?_)
        · exact ⟨(okFit ok).ok, fun x hx => lt_mono (hb x hx) (by decide), hl8⟩
        · exact Nat.le_of_ble_eq_true rfl
        · exact Nat.le_of_ble_eq_true rfl
        · show _ = Li (aTold m v a)
          unfold aTold
          rw [if_neg (by rw [hc]; exact Bool.true_eq_false ▸ id), hw]; rfl
end
end Lf
end
section
set_option Elab.async false
set_option linter.all false
set_option maxRecDepth 100000
set_option maxHeartbeats 2000000
local macro_rules | `(tactic| decreasing_trivial) => `(tactic| ((repeat (first | exact Ty.st_nil | apply Ty.st_im | apply Ty.st_any | apply Ty.se_0 | apply Ty.se_im | apply Ty.se_any | exact Ty.pu_nil | apply Ty.pu_im | apply Ty.pu_any | apply Ty.pe_0 | apply Ty.pe_imE | apply Ty.pe_anyE | exact Ty.sub_nil | apply Ty.sub_cons | apply Ty.sub_any)); done))
namespace Lf
open PySem PySem.Spec PyProof.Rows L2 Ty NB
theorem hasRow_lt {m : ModD} {i : Nat} (h : m.hasRow i = true) : i < m.rows.length := by
  unfold ModD.hasRow at h
  rw [Bool.and_eq_true] at h
  have := of_decide_eq_true h.2
  omega
theorem sz_over {q : Rat} {z : Int} {k l : Nat} (h : Sz k q) (g : Bn l z.natAbs) (h0 : z ≠ 0) : Sz (k + l) (q / (z : Rat)) := by
  have e := over_int q z
  have e2 := quot_eq q.num q.den z 1 (den_ne0 q) h0 (by decide)
  rw [← e, ← e2]
  refine sz_div (Int.mul_ne_zero (den_ne0 _) h0) ?_ (lt_mul h.2 g)
  rw [Int.mul_one]
  exact lt_mono h.1 (by omega)
theorem sz_overQ {q r : Rat} {k l : Nat} (h : Sz k q) (g : Sz l r) (h0 : r.num ≠ 0) : Sz (k + l) (q / r) := by
  have e2 := quot_eq q.num q.den r.num r.den (den_ne0 q) h0 (den_ne0 r)
  rw [self_eq, self_eq] at e2
  rw [← e2]
  exact sz_div (Int.mul_ne_zero (den_ne0 _) h0) (lt_mul h.1 g.2) (lt_mul h.2 g.1)
theorem sz_sub {q r : Rat} {k : Nat} (h : Sz k q) (g : Sz k r) : Sz (k + k + 1) (q - r) := by
  have e2 := diff_eq q.num q.den r.num r.den (den_ne0 q) (den_ne0 r)
  rw [self_eq, self_eq] at e2
  rw [← e2]
  exact sz_div (Int.mul_ne_zero (den_ne0 _) (den_ne0 _)) (lt_sub (lt_mul h.1 g.2) (lt_mul g.1 h.2)) (lt_mono (lt_mul h.2 g.2) (by omega))
theorem sq_eq (q : Rat) : q * q = ((q.num * q.num : Int) : Rat) / (((q.den : Int) * (q.den : Int) : Int) : Rat) := by
  have h2 : (((q.den : Nat) : Int) : Rat) ≠ 0 := SP.den_ne q
  rw [Rat.intCast_mul, Rat.intCast_mul]
  have := SP.rat_eq q
  grind
theorem pow2_ok {z : Int} {k : Nat} (h : Bn k z.natAbs) (h0 : 0 < k) (hk : k ≤ 1000000) : CPowW z 2 := by
  refine ⟨by decide, ?_⟩
  have : Builtin.Int.intBits z ≤ k := intBits_le_iff.mpr h
  have e : (2 : Int) ^ 27 = 134217728 := by decide
  rw [e]
  omega
section
variable {P : Program} {w : World} {K : PySem.W.Frag} {mg : Str → Option Value} {base : Heap} {n : Nm} (T : Txt K mg n)
include T
theorem ok_estimate : FnOk P w K mg base CX0 11 (n.ad 29) (n.fd 29) ["model", "arguments"] (spF (fun x : ModD × List Int => [ModV n x.1, ArgV [] [x.2]]) (fun x => OkM x.1 ∧ x.2.length ≤ 1000) (fun x => Li (aTold x.1 x.2 0))) := by
  have G_told_estimate := ok_told_estimate (P := P) (w := w) (base := base) T
  refine fn_ty T.f_estimate sc_estimate (fun _ => rfl) fun cdv Ar outer s H E' hr => ⟨_, (pss_one (ps_ret (pe_call G_told_estimate hr rfl T.g_told_estimate T.f_told_estimate.kp T.b_told_estimate .nil pass0 (pa_cons (pv 0) (pa_cons (pe_ix ix_list (pv 1) pe_int (fun _ _ => rfl)) (pa_cons pe_int pa_nil)))))), ?_⟩
  rintro ⟨m, v⟩ ⟨ok, hz⟩
  refine s_ret (e_call (m, v, 0) ?_ (a_cons (e_var rfl) (a_cons (e_ixL (e_var rfl) (e_intN 0) rfl) (a_cons (e_int _) a_nil))))
  exact ⟨ok, hz, by show (0 : Int).natAbs ≤ 1; decide⟩
theorem ok_predict : FnOk P w K mg base CX0 11 (n.ad 30) (n.fd 30) ["model", "arguments"] (spF (fun x : ModD × List Int => [ModV n x.1, ArgV [] [x.2]]) (fun x => OkM x.1 ∧ x.2.length ≤ 1000) (fun x => Li (aTold x.1 x.2 1))) := by
  have G_told_estimate := ok_told_estimate (P := P) (w := w) (base := base) T
  refine fn_ty T.f_predict sc_predict (fun _ => rfl) fun cdv Ar outer s H E' hr => ⟨_, (pss_one (ps_ret (pe_call G_told_estimate hr rfl T.g_told_estimate T.f_told_estimate.kp T.b_told_estimate .nil pass0 (pa_cons (pv 0) (pa_cons (pe_ix ix_list (pv 1) pe_int (fun _ _ => rfl)) (pa_cons pe_int pa_nil)))))), ?_⟩
  rintro ⟨m, v⟩ ⟨ok, hz⟩
  refine s_ret (e_call (m, v, 1) ?_ (a_cons (e_var rfl) (a_cons (e_ixL (e_var rfl) (e_intN 0) rfl) (a_cons (e_int _) a_nil))))
  exact ⟨ok, hz, by show (1 : Int).natAbs ≤ 1; decide⟩
theorem ok_covariance : FnOk P w K mg base CX0 10 (n.ad 31) (n.fd 31) ["model", "arguments"] (spF (fun x : ModD × List Int × List Int => [ModV n x.1, ArgV [] [x.2.1, x.2.2]]) (fun x => OkM x.1 ∧ x.2.1.length ≤ 1000 ∧ x.2.2.length ≤ 1000) (fun x => Li (aCov x.1 x.2.1 x.2.2))) := by
  have G_Fit_weights := ok_Fit_weights (P := P) (w := w) (base := base) T
  have G_Model_fit := ok_Model_fit (P := P) (w := w) (base := base) T
  have G_Model_fits_columns := ok_Model_fits_columns (P := P) (w := w) (base := base) T
  have G_Solution_times := ok_Solution_times (P := P) (w := w) (base := base) T
  refine fn_ty T.f_covariance sc_covariance (fun _ => rfl) fun cdv Ar outer s H E' hr => ⟨_, (pss_cons (ps_set (i := 2) sc_covariance.nd rfl (Or.inl rfl) (pe_ix ix_list (pv 1) pe_int (fun _ _ => rfl)))
        (pss_cons (ps_set (i := 3) sc_covariance.nd rfl (Or.inl rfl) (pe_ix ix_list (pv 1) pe_int (fun _ _ => rfl)))
        (pss_cons (ps_if (PW.pt (pw_or (pt_not (pt_val (pe_meth (pv 0) T.cl_Model T.m_Model_fits_columns G_Model_fits_columns (hr.mono (by decide)) T.b_Model_fits_columns .nil pass0 (pa_cons (pv 2) pa_nil)))) (pw_or1 (pt_not (pt_val (pe_meth (pv 0) T.cl_Model T.m_Model_fits_columns G_Model_fits_columns (hr.mono (by decide)) T.b_Model_fits_columns .nil pass0 (pa_cons (pv 3) pa_nil))))))) (pss_one (ps_ret (pe_lst (pa_cons (pe_cst rfl T.g_OUT_OF_RANGE) pa_nil)))) pss_nil)
        (pss_cons (ps_set (i := 4) sc_covariance.nd rfl (Or.inl rfl) (pe_meth0 (pv 0) T.cl_Model T.m_Model_fit G_Model_fit hr T.b_Model_fit .nil pass0))
        (pss_cons (ps_set (i := 5) sc_covariance.nd rfl (Or.inl rfl) (pe_meth (pv 4) T.cl_Fit T.m_Fit_weights G_Fit_weights (hr.mono (by decide)) T.b_Fit_weights .nil pass0 (pa_cons (pv 3) pa_nil)))
        (pss_cons (ps_if (PW.pt (pw_or (pt_cmpR op_isN (pv 5) pe_non (nomark _)) (pw_or1 (pt_cmpR op_isN (pe_meth (pv 4) T.cl_Fit T.m_Fit_weights G_Fit_weights (hr.mono (by decide)) T.b_Fit_weights .nil pass0 (pa_cons (pv 2) pa_nil)) pe_non (nomark _))))) (pss_one (ps_ret (pe_lst (pa_cons (pe_cst rfl T.g_NO_RESULT) pa_nil)))) pss_nil)
        (pss_one (ps_ret (pe_op op_cat (pe_lst (pa_cons pe_int pa_nil)) (pe_meth (pv 5) T.cl_Solution T.m_Solution_times G_Solution_times (hr.mono (by decide)) T.b_Solution_times .nil pass0 (pa_cons (pv 2) pa_nil))))))))))), ?_⟩
  rintro ⟨m, c, d⟩ ⟨ok, hz1, hz2⟩
  have ok : OkM m := ok
  refine q_asg (P := Li c) (e_ixL (e_var rfl) (e_intN 0) rfl) ?_
  refine q_asg (P := Li d) (e_ixL (e_var rfl) (e_intN 1) rfl) ?_
  refine q_if (b := !(fitsC m c) || !(fitsC m d)) (t_or (t_not (t_val (e_meth (m, c) hz1 (e_var rfl) rfl (a_cons (e_var rfl) a_nil) rfl))) fun _ => (t_not (t_val (e_meth (m, d) hz2 (e_var rfl) rfl (a_cons (e_var rfl) a_nil) rfl)))) (fun h => ?_) (fun h => ?_)
  · refine q_ret (E.eq (E.of (el_lst (a_cons (e_int _) a_nil))) ?_)
    show _ = Li (aCov m c d)
    unfold aCov
    rw [if_pos (by simpa using h)]; rfl
  · have hcd : fitsC m c = true ∧ fitsC m d = true := by simpa using h
    obtain ⟨hl1, hb1⟩ := fitsC_bd hcd.1
    obtain ⟨hl2, hb2⟩ := fitsC_bd hcd.2
    have hl8 : c.length ≤ 100 := by rw [hl1]; exact Nat.le_trans ok.c8 (by decide)
    have nif : ¬ (fitsC m c = false ∨ fitsC m d = false) := by rw [hcd.1, hcd.2]; simp
    refine q_next (q_asg (P := FitV n (fitM m)) (e_meth (m, solM m) (okFit ok) (e_var rfl) rfl a_nil rfl) ?_)
    refine q_asg (P := OptSol n (wts m d)) (e_meth (fitM m, d) (okW ok hl2 hb2) (e_var rfl) rfl (a_cons (e_var rfl) a_nil) rfl) ?_
    refine q_if (t_or (t_test (e_isN (e_var rfl) (isN_opt _))) fun _ => t_test (e_isN (P := OptSol n (wts m c)) (e_meth (fitM m, c) (okW ok hl1 hb1) (e_var rfl) rfl (a_cons (e_var rfl) a_nil) rfl) (isN_opt _))) (fun h => ?_) (fun h => ?_)
    · refine q_ret (E.eq (E.of (el_lst (a_cons (e_int _) a_nil))) ?_)
      show _ = Li (aCov m c d)
      unfold aCov
      rw [if_neg nif]
      cases h1 : wts m d with
      | none => rfl
      | some z =>
        cases h2 : wts m c with
        | none => rfl
        | some y => rw [h1, h2] at h; cases h
    · cases h1 : wts m d with
      | none => rw [h1] at h; cases h
      | some z =>
        cases h2 : wts m c with
        | none => rw [h1, h2] at h; cases h
        | some y =>
          have zo := okZ ok hl2 hb2 h1
          refine q_next (s_ret (E.eq (E.of (el_cat (E.of (el_lst (a_cons (e_int 0) a_nil))) (e_meth (fs := SolF z) (z, c) ⟨zo, fun x hx => lt_mono (hb1 x hx) (by decide), Nat.le_trans hl8 (by decide)⟩ (e_var rfl) rfl (a_cons (e_var rfl) a_nil) rfl) ?_)) ?_))
          · exact Nat.le_of_ble_eq_true rfl
          · show _ = Li (aCov m c d)
            unfold aCov
            rw [if_neg nif, h1, h2]; rfl
omit T in
theorem isN_var {x : FitD} : ∀ v F, x.varV.h v F → decide (v = .non) = decide (x.free = 0) := fun v F h => by
  unfold FitD.varV at h
  by_cases c : x.free = 0
  · rw [if_pos c] at h
    have h : v = .non := h
    subst h
    rw [decide_eq_true c]; rfl
  · rw [if_neg c] at h
    obtain ⟨p, xs, rfl, _⟩ := h
    rw [decide_eq_false c]; rfl
theorem ok_squared_ratio : FnOk P w K mg base CX0 10 (n.ad 32) (n.fd 32) ["model", "arguments"] (spF (fun x : ModD × List Int => [ModV n x.1, ArgV [] [x.2]]) (fun x => OkM x.1 ∧ x.2.length ≤ 1000) (fun x => Li (aSq x.1 x.2))) := by
  have G_Fit_estimate := ok_Fit_estimate (P := P) (w := w) (base := base) T
  have G_Fit_variance := ok_Fit_variance (P := P) (w := w) (base := base) T
  have G_Fit_weights := ok_Fit_weights (P := P) (w := w) (base := base) T
  have G_Model_fit := ok_Model_fit (P := P) (w := w) (base := base) T
  have G_Model_fits_columns := ok_Model_fits_columns (P := P) (w := w) (base := base) T
  have G_Solution_times := ok_Solution_times (P := P) (w := w) (base := base) T
  have G_quotient := ok_quotient (P := P) (w := w) (base := base) T
  refine fn_ty T.f_squared_ratio sc_squared_ratio (fun _ => rfl) fun cdv Ar outer s H E' hr => ⟨_, (pss_cons (ps_set (i := 2) sc_squared_ratio.nd rfl (Or.inl rfl) (pe_ix ix_list (pv 1) pe_int (fun _ _ => rfl)))
        (pss_cons (ps_if (pt_not (pt_val (pe_meth (pv 0) T.cl_Model T.m_Model_fits_columns G_Model_fits_columns (hr.mono (by decide)) T.b_Model_fits_columns .nil pass0 (pa_cons (pv 2) pa_nil)))) (pss_one (ps_ret (pe_lst (pa_cons (pe_cst rfl T.g_OUT_OF_RANGE) pa_nil)))) pss_nil)
        (pss_cons (ps_set (i := 3) sc_squared_ratio.nd rfl (Or.inl rfl) (pe_meth0 (pv 0) T.cl_Model T.m_Model_fit G_Model_fit hr T.b_Model_fit .nil pass0))
        (pss_cons (ps_set (i := 4) sc_squared_ratio.nd rfl (Or.inl rfl) (pe_meth (pv 3) T.cl_Fit T.m_Fit_weights G_Fit_weights (hr.mono (by decide)) T.b_Fit_weights .nil pass0 (pa_cons (pv 2) pa_nil)))
        (pss_cons (ps_set (i := 5) sc_squared_ratio.nd rfl (Or.inl rfl) (pe_meth0 (pv 3) T.cl_Fit T.m_Fit_variance G_Fit_variance (hr.mono (by decide)) T.b_Fit_variance .nil pass0))
        (pss_cons (ps_if (PW.pt (pw_or (pt_cmpR op_isN (pv 4) pe_non (nomark _)) (pw_or (pt_cmpR op_isN (pv 5) pe_non (nomark _)) (pw_or1 (pt_cmpR op_eq (pe_ix ix_list (pv 5) pe_int (fun _ _ => rfl)) pe_int (nomark _)))))) (pss_one (ps_ret (pe_lst (pa_cons (pe_cst rfl T.g_NO_RESULT) pa_nil)))) pss_nil)
        (pss_cons (ps_set (i := 6) sc_squared_ratio.nd rfl (Or.inl rfl) (pe_meth (pv 4) T.cl_Solution T.m_Solution_times G_Solution_times (hr.mono (by decide)) T.b_Solution_times .nil pass0 (pa_cons (pv 2) pa_nil)))
        (pss_cons (ps_if (pt_cmpR op_eq (pe_ix ix_list (pv 6) pe_int (fun _ _ => rfl)) pe_int (nomark _)) (pss_one (ps_ret (pe_lst (pa_cons (pe_cst rfl T.g_NO_RESULT) pa_nil)))) pss_nil)
        (pss_cons (ps_set (i := 7) sc_squared_ratio.nd rfl (Or.inl rfl) (pe_meth (pv 3) T.cl_Fit T.m_Fit_estimate G_Fit_estimate (hr.mono (by decide)) T.b_Fit_estimate .nil pass0 (pa_cons (pv 2) pa_nil)))
        (pss_cons (ps_set (i := 8) sc_squared_ratio.nd rfl (Or.inl rfl) (pe_lst (pa_cons (pe_op op_powW (pe_ix ix_list (pv 7) pe_int (fun _ _ => rfl)) pe_int) (pa_cons (pe_op op_powW (pe_ix ix_list (pv 7) pe_int (fun _ _ => rfl)) pe_int) pa_nil))))
        (pss_one (ps_ret (pe_op op_cat (pe_lst (pa_cons pe_int pa_nil)) (pe_call G_quotient (hr.mono (by decide)) rfl T.g_quotient T.f_quotient.kp T.b_quotient .nil pass0 (pa_cons (pe_call G_quotient (hr.mono (by decide)) rfl T.g_quotient T.f_quotient.kp T.b_quotient .nil pass0 (pa_cons (pv 8) (pa_cons (pv 5) pa_nil))) (pa_cons (pv 6) pa_nil)))))))))))))))), ?_⟩
  rintro ⟨m, v⟩ ⟨ok, hz⟩
  have ok : OkM m := ok
  have fo := (okFit ok).ok
  refine q_asg (P := Li v) (e_ixL (e_var rfl) (e_intN 0) rfl) ?_
  refine q_if (b := !(fitsC m v)) (t_not (t_val (e_meth (m, v) hz (e_var rfl) rfl (a_cons (e_var rfl) a_nil) rfl))) (fun h => ?_) (fun h => ?_)
  · refine q_ret (E.eq (E.of (el_lst (a_cons (e_int _) a_nil))) ?_)
    show _ = Li (aSq m v)
    unfold aSq
    rw [if_pos (by simpa using h)]; rfl
  · have hc : fitsC m v = true := by simpa using h
    have nif : ¬ fitsC m v = false := by rw [hc]; simp
    obtain ⟨hl, hb⟩ := fitsC_bd hc
    have hl8 : v.length ≤ 100 := by rw [hl]; exact Nat.le_trans ok.c8 (by decide)
    refine q_next (q_asg (P := FitV n (fitM m)) (e_meth (m, solM m) (okFit ok) (e_var rfl) rfl a_nil rfl) ?_)
    refine q_asg (P := OptSol n (wts m v)) (e_meth (fitM m, v) (okW ok hl hb) (e_var rfl) rfl (a_cons (e_var rfl) a_nil) rfl) ?_
    refine q_asg (P := (fitM m).varV) (e_meth (fitM m) ⟨fo, okFree ok⟩ (e_var rfl) rfl a_nil rfl) ?_
    have ez := est_sz fo.sk (fun x hx => lt_mono (hb x hx) (by decide)) hl8
    have ez : Sz 1210 ((fitM m).est v) := ez
    have rz := fo.rss_sz
    have rz : Sz 1220 (fitM m).rss := rz
    have fz := okFree ok
    by_cases hf : (fitM m).free = 0
    · refine q_if (b := (wts m v).isNone || (true || false)) (t_or (t_test (e_isN (e_var rfl) (isN_opt _))) fun _ => t_or (t_test (E.eq (e_isN (e_var rfl) isN_var) (by rw [decide_eq_true hf]))) fun q => by cases q) (fun _ => ?_) (fun q => by simp at q)
      refine q_ret (E.eq (E.of (el_lst (a_cons (e_int _) a_nil))) ?_)
      show _ = Li (aSq m v)
      unfold aSq
      rw [if_neg nif]
      cases wts m v with
      | none => rfl
      | some z => simp only [hf, if_true]; rfl
    · have hv : (fitM m).varV = Fr ((fitM m).rss / ((fitM m).free : Rat)) := by unfold FitD.varV; rw [if_neg hf]
      rw [hv]
      refine q_if (t_or (t_test (e_isN (e_var rfl) (isN_opt _))) fun _ => t_or (t_test (e_isN (b := false) (e_var rfl) (fun v F h => by obtain ⟨p, xs, rfl, _⟩ := h; rfl))) fun _ => (t_test (e_eq (e_ixL (e_var rfl) (e_intN 0) rfl) (e_int _)))) (fun h => ?_) (fun h => ?_)
      · refine q_ret (E.eq (E.of (el_lst (a_cons (e_int _) a_nil))) ?_)
        show _ = Li (aSq m v)
        unfold aSq
        rw [if_neg nif]
        cases hw : wts m v with
        | none => rfl
        | some z =>
          rw [hw] at h
          have h : ((fitM m).rss / ((fitM m).free : Rat)).num = 0 := by simpa using h
          simp only [hf, h, if_true, if_false]; rfl
      · cases hw : wts m v with
        | none => rw [hw] at h; cases h
        | some z =>
          rw [hw] at h
          have h : ¬ ((fitM m).rss / ((fitM m).free : Rat)).num = 0 := by simpa using h
          have zo := okZ ok hl hb hw
          have sz := fac_sz zo hb hl8
          have vz : Sz 1420 ((fitM m).rss / ((fitM m).free : Rat)) := sz_over rz fz hf
          refine q_next (q_asg (P := Fr (fac v z)) (e_meth (fs := SolF z) (z, v) ⟨zo, fun x hx => lt_mono (hb x hx) (by decide), Nat.le_trans hl8 (by decide)⟩ (e_var rfl) rfl (a_cons (e_var rfl) a_nil) rfl) ?_)
          refine q_if (t_test (e_eq (e_ixL (e_var rfl) (e_intN 0) rfl) (e_int _))) (fun h2 => ?_) (fun h2 => ?_)
          · have h2 : (fac v z).num = 0 := by simpa using h2
            refine q_ret (E.eq (E.of (el_lst (a_cons (e_int _) a_nil))) ?_)
            show _ = Li (aSq m v)
            unfold aSq
            rw [if_neg nif, hw]
            simp only [hf, h, h2, if_true, if_false]; rfl
          · have h2 : ¬ (fac v z).num = 0 := by simpa using h2
            refine q_next (q_asg (P := Fr ((fitM m).est v)) (e_meth (fitM m, v) ⟨fo, fun x hx => lt_mono (hb x hx) (by decide), hl8⟩ (e_var rfl) rfl (a_cons (e_var rfl) a_nil) rfl) ?_)
            have e2 : ∀ z : Int, Bn 1210 z.natAbs → CPowW z 2 := fun z h => pow2_ok h (by decide) (by decide)
            refine q_asg (E.of (el_lst (a_cons (e_pow2 ?_ (e_ixL (e_var rfl) (e_intN 0) rfl) (e_int _)) (a_cons (e_pow2 ?_ (e_ixL (e_var rfl) (e_intN 1) rfl) (e_int _)) a_nil)))) ?_
            · exact e2 _ ez.1
            · exact e2 _ ez.2
            have sq0 : (fitM m).est v * (fitM m).est v = (((fitM m).est v).num * ((fitM m).est v).num : Int) / (((((fitM m).est v).den : Int) * (((fitM m).est v).den : Int) : Int) : Rat) := sq_eq _
            have edd : Bn 1210 (((fitM m).est v).den : Int).natAbs := ez.2
            have edm := lt_mul edd edd
            have szs : Sz 3840 ((fitM m).est v * (fitM m).est v / ((fitM m).rss / ((fitM m).free : Rat))) := sz_overQ (k := 2420) (sq0 ▸ sz_div (Int.mul_ne_zero (den_ne0 _) (den_ne0 _)) (lt_mul ez.1 ez.1) edm) vz h
            refine s_ret (E.eq (E.of (el_cat (E.of (el_lst (a_cons (e_int _) a_nil))) (e_call (PQ.mk ((fitM m).est v * (fitM m).est v / ((fitM m).rss / ((fitM m).free : Rat))).num (((fitM m).est v * (fitM m).est v / ((fitM m).rss / ((fitM m).free : Rat))).den : Nat) (fac v z).num ((fac v z).den : Nat)) ⟨⟨den_ne0 _, den_ne0 _, lt_mono szs.1 (by decide), lt_mono szs.2 (by decide), lt_mono sz.1 (by decide), lt_mono sz.2 (by decide)⟩, h2⟩ (a_cons ?_ (a_cons (e_var rfl) a_nil))) ?_)) ?_)
            · exact E.eq (e_call (PQ.mk (((fitM m).est v).num * ((fitM m).est v).num) ((((fitM m).est v).den : Int) * (((fitM m).est v).den : Int)) ((fitM m).rss / ((fitM m).free : Rat)).num (((fitM m).rss / ((fitM m).free : Rat)).den : Nat)) ⟨⟨Int.mul_ne_zero (den_ne0 _) (den_ne0 _), den_ne0 _, lt_mono (lt_mul ez.1 ez.1) (by decide), lt_mono edm (by decide), lt_mono vz.1 (by decide), lt_mono vz.2 (by decide)⟩, h⟩ (a_cons (e_var rfl) (a_cons (e_var rfl) a_nil))) (by show Fr _ = Fr _; rw [self_eq ((fitM m).rss / ((fitM m).free : Rat)), ← sq0])
            · exact Nat.le_of_ble_eq_true rfl
            · show _ = Li (aSq m v)
              unfold aSq
              rw [if_neg nif, hw]
              simp only [hf, h, h2, if_false]
              show Lv ([Iv 0] ++ [_, _]) = _
              rw [self_eq, self_eq]; rfl
end
end Lf
end
section
set_option Elab.async false
set_option linter.all false
set_option maxRecDepth 100000
set_option maxHeartbeats 2000000
local macro_rules | `(tactic| decreasing_trivial) => `(tactic| ((repeat (first | exact Ty.st_nil | apply Ty.st_im | apply Ty.st_any | apply Ty.se_0 | apply Ty.se_im | apply Ty.se_any | exact Ty.pu_nil | apply Ty.pu_im | apply Ty.pu_any | apply Ty.pe_0 | apply Ty.pe_imE | apply Ty.pe_anyE | exact Ty.sub_nil | apply Ty.sub_cons | apply Ty.sub_any)); done))
namespace Lf
open PySem PySem.Spec PyProof.Rows L2 Ty NB
theorem rowAt_bd {m : ModD} (h : OkM m) {i : Nat} (hi : i < m.rows.length) : (rowAt m i).length = m.cc ∧ Bd 10 (rowAt m i) := h.wd _ (Ty.getD_mem hi)
theorem bd200 {v : List Int} {k : Nat} (h : Bd k v) (hk : k ≤ 200) : Bd 200 v := fun x hx => lt_mono (h x hx) hk
theorem bd1000 {v : List Int} {k : Nat} (h : Bd k v) (hk : k ≤ 1000) : Bd 1000 v := fun x hx => lt_mono (h x hx) hk
theorem OkM.l100 {m : ModD} (h : OkM m) {v : List Int} (hl : v.length = m.cc) : v.length ≤ 100 := by rw [hl]; exact Nat.le_trans h.c8 (by decide)
theorem resAt_sz {m : ModD} (h : OkM m) {i : Nat} (hi : i < m.rows.length) : Sz 2421 (resAt m i) := by
  have r := rowAt_bd h hi
  have ez : Sz 1210 ((fitM m).est (rowAt m i)) := est_sz (okFit h).ok.sk (bd200 r.2 (by decide)) (h.l100 r.1)
  have e : ((m.resp.getD i 0 : Int) : Rat).num = m.resp.getD i 0 := Rat.num_intCast _
  have e2 : ((m.resp.getD i 0 : Int) : Rat).den = 1 := Rat.den_intCast _
  have rb : Bn 20 (m.resp.getD i 0).natAbs := h.by_ _ (Ty.getD_mem (h.rl ▸ hi))
  refine sz_sub ⟨?_, ?_⟩ ez
  · rw [e]; exact lt_mono rb (by decide)
  · rw [e2]; exact one_pos (k := 1210) (by decide)
theorem levAt_sz {m : ModD} (h : OkM m) {i : Nat} (hi : i < m.rows.length) : Sz 1210 (levAt m i) := by
  have r := rowAt_bd h hi
  exact fac_sz (okZ h r.1 r.2 (okRow h hi)) r.2 (h.l100 r.1)
section
variable {P : Program} {w : World} {K : PySem.W.Frag} {mg : Str → Option Value} {base : Heap} {n : Nm} (T : Txt K mg n)
include T
theorem ok_residual : FnOk P w K mg base CX0 5 (n.ad 33) (n.fd 33) ["model", "fit", "place"] (spF (fun x : ModD × Nat => [ModV n x.1, FitV n (fitM x.1), Iv (x.2 : Nat)]) (fun x => OkM x.1 ∧ x.2 < x.1.rows.length) (fun x => Fr (resAt x.1 x.2))) := by
  have G_Fit_estimate := ok_Fit_estimate (P := P) (w := w) (base := base) T
  have G_difference := ok_difference (P := P) (w := w) (base := base) T
  refine fn_ty T.f_residual sc_residual (fun _ => rfl) fun cdv Ar outer s H E' hr => ⟨_, (pss_cons (ps_set (i := 3) sc_residual.nd rfl (Or.inl rfl) (pe_meth (pv 1) T.cl_Fit T.m_Fit_estimate G_Fit_estimate hr T.b_Fit_estimate .nil pass0 (pa_cons (pe_ix ix_list (pe_fld (pv 0) rfl) (pv 2) (fun _ _ => rfl)) pa_nil)))
        (pss_one (ps_ret (pe_call G_difference (hr.mono (by decide)) rfl T.g_difference T.f_difference.kp T.b_difference .nil pass0 (pa_cons (pe_lst (pa_cons (pe_ix ix_list (pe_fld (pv 0) rfl) (pv 2) (fun _ _ => rfl)) (pa_cons pe_int pa_nil))) (pa_cons (pv 3) pa_nil)))))), ?_⟩
  rintro ⟨m, i⟩ ⟨ok, hi⟩
  have ok : OkM m := ok
  have hi : i < m.rows.length := hi
  have r := rowAt_bd ok hi
  have ez : Sz 1210 ((fitM m).est (rowAt m i)) := est_sz (okFit ok).ok.sk (bd200 r.2 (by decide)) (ok.l100 r.1)
  have rb : Bn 20 (m.resp.getD i 0).natAbs := ok.by_ _ (Ty.getD_mem (ok.rl ▸ hi))
  refine q_asg (P := Fr ((fitM m).est (rowAt m i))) (e_meth (fitM m, rowAt m i) ⟨(okFit ok).ok, bd200 r.2 (by decide), ok.l100 r.1⟩ (e_var rfl) rfl (a_cons (e_ixL (e_fld T.cl_Model T.n_Model_rows (e_var rfl) rfl) (e_var rfl) (ix_map [] hi)) a_nil) rfl) ?_
  refine s_ret (E.eq (e_call (PQ.mk (m.resp.getD i 0) 1 ((fitM m).est (rowAt m i)).num (((fitM m).est (rowAt m i)).den : Nat)) ?_ (a_cons (E.of (el_lst (a_cons (e_ixL (e_fld T.cl_Model T.n_Model_responses (e_var rfl) rfl) (e_var rfl) (ix_map 0 (ok.rl ▸ hi))) (a_cons (e_int _) a_nil)))) (a_cons (e_var rfl) a_nil))) ?_)
  · exact ⟨by show (1 : Int) ≠ 0; decide, den_ne0 _, lt_mono rb (by decide), one_pos (by decide), lt_mono ez.1 (by decide), lt_mono ez.2 (by decide)⟩
  · exact congrArg Fr (int_sub _ _)
theorem ok_fitted : FnOk P w K mg base CX0 10 (n.ad 34) (n.fd 34) ["model", "arguments"] (spF (fun x : ModD × Nat => [ModV n x.1, ArgV [(x.2 : Nat)] []]) (fun x => OkM x.1) (fun x => Li (aFit x.1 x.2))) := by
  have G_Fit_estimate := ok_Fit_estimate (P := P) (w := w) (base := base) T
  have G_Model_fit := ok_Model_fit (P := P) (w := w) (base := base) T
  have G_Model_has_row := ok_Model_has_row (P := P) (w := w) (base := base) T
  have G_residual := ok_residual (P := P) (w := w) (base := base) T
  refine fn_ty T.f_fitted sc_fitted (fun _ => rfl) fun cdv Ar outer s H E' hr => ⟨_, (pss_cons (ps_set (i := 2) sc_fitted.nd rfl (Or.inl rfl) (pe_ix ix_list (pv 1) pe_int (fun _ _ => rfl)))
        (pss_cons (ps_if (pt_not (pt_val (pe_meth (pv 0) T.cl_Model T.m_Model_has_row G_Model_has_row (hr.mono (by decide)) T.b_Model_has_row .nil pass0 (pa_cons (pv 2) pa_nil)))) (pss_one (ps_ret (pe_lst (pa_cons (pe_cst rfl T.g_NOT_THERE) pa_nil)))) pss_nil)
        (pss_cons (ps_set (i := 3) sc_fitted.nd rfl (Or.inl rfl) (pe_meth0 (pv 0) T.cl_Model T.m_Model_fit G_Model_fit hr T.b_Model_fit .nil pass0))
        (pss_one (ps_ret (pe_op op_cat (pe_op op_cat (pe_lst (pa_cons pe_int pa_nil)) (pe_meth (pv 3) T.cl_Fit T.m_Fit_estimate G_Fit_estimate (hr.mono (by decide)) T.b_Fit_estimate .nil pass0 (pa_cons (pe_ix ix_list (pe_fld (pv 0) rfl) (pv 2) (fun _ _ => rfl)) pa_nil))) (pe_call G_residual (hr.mono (by decide)) rfl T.g_residual T.f_residual.kp T.b_residual .nil pass0 (pa_cons (pv 0) (pa_cons (pv 3) (pa_cons (pv 2) pa_nil)))))))))), ?_⟩
  rintro ⟨m, i⟩ ok
  have ok : OkM m := ok
  refine q_asg (P := Iv (i : Nat)) (e_ixL (e_var rfl) (e_intN 0) rfl) ?_
  refine q_if (b := !(m.hasRow i)) (t_not (t_val (e_meth (m, (i : Int)) trivial (e_var rfl) rfl (a_cons (e_var rfl) a_nil) rfl))) (fun h => ?_) (fun h => ?_)
  · refine q_ret (E.eq (E.of (el_lst (a_cons (e_int _) a_nil))) ?_)
    show _ = Li (aFit m i)
    unfold aFit
    rw [if_pos (by simpa using h)]; rfl
  · have hh : m.hasRow i = true := by simpa using h
    have hi := hasRow_lt hh
    have r := rowAt_bd ok hi
    refine q_next (q_asg (P := FitV n (fitM m)) (e_meth (m, solM m) (okFit ok) (e_var rfl) rfl a_nil rfl) ?_)
    refine s_ret (E.eq (E.of (el_cat (E.of (el_cat (E.of (el_lst (a_cons (e_int _) a_nil))) (e_meth (fitM m, rowAt m i) ⟨(okFit ok).ok, bd200 r.2 (by decide), ok.l100 r.1⟩ (e_var rfl) rfl (a_cons (e_ixL (e_fld T.cl_Model T.n_Model_rows (e_var rfl) rfl) (e_var rfl) (ix_map [] hi)) a_nil) rfl) ?_)) (e_call (m, i) ⟨ok, hi⟩ (a_cons (e_var rfl) (a_cons (e_var rfl) (a_cons (e_var rfl) a_nil)))) ?_)) ?_)
    · exact Nat.le_of_ble_eq_true rfl
    · exact Nat.le_of_ble_eq_true rfl
    · show _ = Li (aFit m i)
      unfold aFit
      rw [if_neg (by rw [hh]; simp)]; rfl
theorem ok_leverage : FnOk P w K mg base CX0 10 (n.ad 35) (n.fd 35) ["model", "arguments"] (spF (fun x : ModD × Nat => [ModV n x.1, ArgV [(x.2 : Nat)] []]) (fun x => OkM x.1) (fun x => Li (aLev x.1 x.2))) := by
  have G_Fit_leverage := ok_Fit_leverage (P := P) (w := w) (base := base) T
  have G_Model_fit := ok_Model_fit (P := P) (w := w) (base := base) T
  have G_Model_has_row := ok_Model_has_row (P := P) (w := w) (base := base) T
  refine fn_ty T.f_leverage sc_leverage (fun _ => rfl) fun cdv Ar outer s H E' hr => ⟨_, (pss_cons (ps_set (i := 2) sc_leverage.nd rfl (Or.inl rfl) (pe_ix ix_list (pv 1) pe_int (fun _ _ => rfl)))
        (pss_cons (ps_if (pt_not (pt_val (pe_meth (pv 0) T.cl_Model T.m_Model_has_row G_Model_has_row (hr.mono (by decide)) T.b_Model_has_row .nil pass0 (pa_cons (pv 2) pa_nil)))) (pss_one (ps_ret (pe_lst (pa_cons (pe_cst rfl T.g_NOT_THERE) pa_nil)))) pss_nil)
        (pss_one (ps_ret (pe_op op_cat (pe_lst (pa_cons pe_int pa_nil)) (pe_meth (pe_meth0 (pv 0) T.cl_Model T.m_Model_fit G_Model_fit hr T.b_Model_fit .nil pass0) T.cl_Fit T.m_Fit_leverage G_Fit_leverage (hr.mono (by decide)) T.b_Fit_leverage .nil pass0 (pa_cons (pe_ix ix_list (pe_fld (pv 0) rfl) (pv 2) (fun _ _ => rfl)) pa_nil))))))), ?_⟩
  rintro ⟨m, i⟩ ok
  have ok : OkM m := ok
  refine q_asg (P := Iv (i : Nat)) (e_ixL (e_var rfl) (e_intN 0) rfl) ?_
  refine q_if (b := !(m.hasRow i)) (t_not (t_val (e_meth (m, (i : Int)) trivial (e_var rfl) rfl (a_cons (e_var rfl) a_nil) rfl))) (fun h => ?_) (fun h => ?_)
  · refine q_ret (E.eq (E.of (el_lst (a_cons (e_int _) a_nil))) ?_)
    show _ = Li (aLev m i)
    unfold aLev
    rw [if_pos (by simpa using h)]; rfl
  · have hh : m.hasRow i = true := by simpa using h
    have hi := hasRow_lt hh
    have r := rowAt_bd ok hi
    have hw := okRow ok hi
    refine q_next (s_ret (E.eq (E.of (el_cat (E.of (el_lst (a_cons (e_int _) a_nil))) (e_meth (fitM m, rowAt m i, wtsR m i) ⟨okW ok r.1 r.2, hw, okZ ok r.1 r.2 hw, bd200 r.2 (by decide), ok.l100 r.1⟩ (e_meth (m, solM m) (okFit ok) (e_var rfl) rfl a_nil rfl) rfl (a_cons (e_ixL (e_fld T.cl_Model T.n_Model_rows (e_var rfl) rfl) (e_var rfl) (ix_map [] hi)) a_nil) rfl) ?_)) ?_))
    · exact Nat.le_of_ble_eq_true rfl
    · show _ = Li (aLev m i)
      unfold aLev
      rw [if_neg (by rw [hh]; simp)]; rfl
theorem ok_deleted : FnOk P w K mg base CX0 10 (n.ad 36) (n.fd 36) ["model", "arguments"] (spF (fun x : ModD × Nat => [ModV n x.1, ArgV [(x.2 : Nat)] []]) (fun x => OkM x.1) (fun x => Li (aDel x.1 x.2))) := by
  have G_Fit_leverage := ok_Fit_leverage (P := P) (w := w) (base := base) T
  have G_Model_fit := ok_Model_fit (P := P) (w := w) (base := base) T
  have G_Model_has_row := ok_Model_has_row (P := P) (w := w) (base := base) T
  have G_difference := ok_difference (P := P) (w := w) (base := base) T
  have G_quotient := ok_quotient (P := P) (w := w) (base := base) T
  have G_residual := ok_residual (P := P) (w := w) (base := base) T
  refine fn_ty T.f_deleted sc_deleted (fun _ => rfl) fun cdv Ar outer s H E' hr => ⟨_, (pss_cons (ps_set (i := 2) sc_deleted.nd rfl (Or.inl rfl) (pe_ix ix_list (pv 1) pe_int (fun _ _ => rfl)))
        (pss_cons (ps_if (pt_not (pt_val (pe_meth (pv 0) T.cl_Model T.m_Model_has_row G_Model_has_row (hr.mono (by decide)) T.b_Model_has_row .nil pass0 (pa_cons (pv 2) pa_nil)))) (pss_one (ps_ret (pe_lst (pa_cons (pe_cst rfl T.g_NOT_THERE) pa_nil)))) pss_nil)
        (pss_cons (ps_set (i := 3) sc_deleted.nd rfl (Or.inl rfl) (pe_meth0 (pv 0) T.cl_Model T.m_Model_fit G_Model_fit hr T.b_Model_fit .nil pass0))
        (pss_cons (ps_set (i := 4) sc_deleted.nd rfl (Or.inl rfl) (pe_call G_difference (hr.mono (by decide)) rfl T.g_difference T.f_difference.kp T.b_difference .nil pass0 (pa_cons (pe_lst (pa_cons pe_int (pa_cons pe_int pa_nil))) (pa_cons (pe_meth (pv 3) T.cl_Fit T.m_Fit_leverage G_Fit_leverage (hr.mono (by decide)) T.b_Fit_leverage .nil pass0 (pa_cons (pe_ix ix_list (pe_fld (pv 0) rfl) (pv 2) (fun _ _ => rfl)) pa_nil)) pa_nil))))
        (pss_cons (ps_if (pt_cmpR op_eq (pe_ix ix_list (pv 4) pe_int (fun _ _ => rfl)) pe_int (nomark _)) (pss_one (ps_ret (pe_lst (pa_cons (pe_cst rfl T.g_NO_RESULT) pa_nil)))) pss_nil)
        (pss_one (ps_ret (pe_op op_cat (pe_lst (pa_cons pe_int pa_nil)) (pe_call G_quotient (hr.mono (by decide)) rfl T.g_quotient T.f_quotient.kp T.b_quotient .nil pass0 (pa_cons (pe_call G_residual (hr.mono (by decide)) rfl T.g_residual T.f_residual.kp T.b_residual .nil pass0 (pa_cons (pv 0) (pa_cons (pv 3) (pa_cons (pv 2) pa_nil)))) (pa_cons (pv 4) pa_nil))))))))))), ?_⟩
  rintro ⟨m, i⟩ ok
  have ok : OkM m := ok
  refine q_asg (P := Iv (i : Nat)) (e_ixL (e_var rfl) (e_intN 0) rfl) ?_
  refine q_if (b := !(m.hasRow i)) (t_not (t_val (e_meth (m, (i : Int)) trivial (e_var rfl) rfl (a_cons (e_var rfl) a_nil) rfl))) (fun h => ?_) (fun h => ?_)
  · refine q_ret (E.eq (E.of (el_lst (a_cons (e_int _) a_nil))) ?_)
    show _ = Li (aDel m i)
    unfold aDel
    rw [if_pos (by simpa using h)]; rfl
  · have hh : m.hasRow i = true := by simpa using h
    have nif : ¬ m.hasRow i = false := by rw [hh]; simp
    have hi := hasRow_lt hh
    have r := rowAt_bd ok hi
    have hw := okRow ok hi
    have lz := levAt_sz ok hi
    have rz := resAt_sz ok hi
    refine q_next (q_asg (P := FitV n (fitM m)) (e_meth (m, solM m) (okFit ok) (e_var rfl) rfl a_nil rfl) ?_)
    have es : (1 : Rat) - levAt m i = ((1 : Int) : Rat) / ((1 : Int) : Rat) - (((levAt m i).num : Int) : Rat) / ((((levAt m i).den : Nat) : Int) : Rat) := (int_sub 1 _).symm
    have ss : Sz 1212 (1 - levAt m i) := by
      rw [es, ← diff_eq _ _ _ _ (by decide) (den_ne0 _)]
      have d1 : Bn 1210 (((levAt m i).den : Nat) : Int).natAbs := lz.2
      refine sz_div (Int.mul_ne_zero (by decide) (den_ne0 _)) (lt_mono (lt_sub (k := 1211) (by rw [Int.one_mul]; exact lt_mono d1 (by decide)) (by rw [Int.mul_one]; exact lt_mono lz.1 (by decide))) (by decide)) (by rw [Int.one_mul]; exact lt_mono d1 (by decide))
    refine q_asg (P := Fr (1 - levAt m i)) (E.eq (e_call (PQ.mk 1 1 (levAt m i).num ((levAt m i).den : Nat)) ⟨by show (1 : Int) ≠ 0; decide, den_ne0 _, one_pos (by decide), one_pos (by decide), lt_mono lz.1 (by decide), lt_mono lz.2 (by decide)⟩ (a_cons (E.of (el_lst (a_cons (e_int 1) (a_cons (e_int 1) a_nil)))) (a_cons ?_ a_nil))) (congrArg Fr es.symm)) ?_
    · exact e_meth (fitM m, rowAt m i, wtsR m i) ⟨okW ok r.1 r.2, hw, okZ ok r.1 r.2 hw, bd200 r.2 (by decide), ok.l100 r.1⟩ (e_var rfl) rfl (a_cons (e_ixL (e_fld T.cl_Model T.n_Model_rows (e_var rfl) rfl) (e_var rfl) (ix_map [] hi)) a_nil) rfl
    refine q_if (t_test (e_eq (e_ixL (e_var rfl) (e_intN 0) rfl) (e_int _))) (fun h2 => ?_) (fun h2 => ?_)
    · have h2 : (1 - levAt m i).num = 0 := by simpa using h2
      refine q_ret (E.eq (E.of (el_lst (a_cons (e_int _) a_nil))) ?_)
      show _ = Li (aDel m i)
      unfold aDel
      rw [if_neg nif, if_pos h2]; rfl
    · have h2 : ¬ (1 - levAt m i).num = 0 := by simpa using h2
      refine q_next (s_ret (E.eq (E.of (el_cat (E.of (el_lst (a_cons (e_int _) a_nil))) (e_call (PQ.mk (resAt m i).num ((resAt m i).den : Nat) (1 - levAt m i).num ((1 - levAt m i).den : Nat)) ⟨⟨den_ne0 _, den_ne0 _, lt_mono rz.1 (by decide), lt_mono rz.2 (by decide), lt_mono ss.1 (by decide), lt_mono ss.2 (by decide)⟩, h2⟩ (a_cons ?_ (a_cons (e_var rfl) a_nil))) ?_)) ?_))
      · exact e_call (m, i) ⟨ok, hi⟩ (a_cons (e_var rfl) (a_cons (e_var rfl) (a_cons (e_var rfl) a_nil)))
      · exact Nat.le_of_ble_eq_true rfl
      · show _ = Li (aDel m i)
        unfold aDel
        rw [if_neg nif, if_neg h2]
        show Lv ([Iv 0] ++ [_, _]) = _
        rw [self_eq, self_eq]; rfl
theorem ok_lost_value : FnOk P w K mg base CX0 10 (n.ad 37) (n.fd 37) ["model", "arguments"] (spF (fun x : ModD × Nat => [ModV n x.1, ArgV [(x.2 : Nat)] []]) (fun x => OkM x.1) (fun x => Li (aLost x.1 x.2))) := by
  have G_Fit_estimate := ok_Fit_estimate (P := P) (w := w) (base := base) T
  have G_Fit_weights := ok_Fit_weights (P := P) (w := w) (base := base) T
  have G_Model_fit_without := ok_Model_fit_without (P := P) (w := w) (base := base) T
  have G_Model_has_row := ok_Model_has_row (P := P) (w := w) (base := base) T
  refine fn_ty T.f_lost_value sc_lost_value (fun _ => rfl) fun cdv Ar outer s H E' hr => ⟨_, (pss_cons (ps_set (i := 2) sc_lost_value.nd rfl (Or.inl rfl) (pe_ix ix_list (pv 1) pe_int (fun _ _ => rfl)))
        (pss_cons (ps_if (pt_not (pt_val (pe_meth (pv 0) T.cl_Model T.m_Model_has_row G_Model_has_row (hr.mono (by decide)) T.b_Model_has_row .nil pass0 (pa_cons (pv 2) pa_nil)))) (pss_one (ps_ret (pe_lst (pa_cons (pe_cst rfl T.g_NOT_THERE) pa_nil)))) pss_nil)
        (pss_cons (ps_set (i := 3) sc_lost_value.nd rfl (Or.inl rfl) (pe_ix ix_list (pe_fld (pv 0) rfl) (pv 2) (fun _ _ => rfl)))
        (pss_cons (ps_set (i := 4) sc_lost_value.nd rfl (Or.inl rfl) (pe_meth (pv 0) T.cl_Model T.m_Model_fit_without G_Model_fit_without hr T.b_Model_fit_without .nil pass0 (pa_cons (pv 2) pa_nil)))
        (pss_cons (ps_if (pt_cmpR op_isN (pe_meth (pv 4) T.cl_Fit T.m_Fit_weights G_Fit_weights (hr.mono (by decide)) T.b_Fit_weights .nil pass0 (pa_cons (pv 3) pa_nil)) pe_non (nomark _)) (pss_one (ps_ret (pe_lst (pa_cons (pe_cst rfl T.g_NO_RESULT) pa_nil)))) pss_nil)
        (pss_one (ps_ret (pe_op op_cat (pe_lst (pa_cons pe_int pa_nil)) (pe_meth (pv 4) T.cl_Fit T.m_Fit_estimate G_Fit_estimate (hr.mono (by decide)) T.b_Fit_estimate .nil pass0 (pa_cons (pv 3) pa_nil)))))))))), ?_⟩
  rintro ⟨m, i⟩ ok
  have ok : OkM m := ok
  refine q_asg (P := Iv (i : Nat)) (e_ixL (e_var rfl) (e_intN 0) rfl) ?_
  refine q_if (b := !(m.hasRow i)) (t_not (t_val (e_meth (m, (i : Int)) trivial (e_var rfl) rfl (a_cons (e_var rfl) a_nil) rfl))) (fun h => ?_) (fun h => ?_)
  · refine q_ret (E.eq (E.of (el_lst (a_cons (e_int _) a_nil))) ?_)
    show _ = Li (aLost m i)
    unfold aLost
    rw [if_pos (by simpa using h)]; rfl
  · have hh : m.hasRow i = true := by simpa using h
    have nif : ¬ m.hasRow i = false := by rw [hh]; simp
    have hi := hasRow_lt hh
    have r := rowAt_bd ok hi
    have ok2 := okWithout ok i
    refine q_next (q_asg (P := Li (rowAt m i)) (e_ixL (e_fld T.cl_Model T.n_Model_rows (e_var rfl) rfl) (e_var rfl) (ix_map [] hi)) ?_)
    refine q_asg (P := FitV n (fitM (m.without i))) (e_meth (m, i, solM (m.without i)) ⟨okFit ok2, hi, ok.rl, Nat.le_trans ok.r24 (by decide)⟩ (e_var rfl) rfl (a_cons (e_var rfl) a_nil) rfl) ?_
    refine q_if (t_test (e_isN (P := OptSol n (wts (m.without i) (rowAt m i))) (e_meth (fitM (m.without i), rowAt m i) (okW ok2 r.1 r.2) (e_var rfl) rfl (a_cons (e_var rfl) a_nil) rfl) (isN_opt _))) (fun h => ?_) (fun h => ?_)
    · refine q_ret (E.eq (E.of (el_lst (a_cons (e_int _) a_nil))) ?_)
      show _ = Li (aLost m i)
      unfold aLost
      rw [if_neg nif, Option.isNone_iff_eq_none.mp h]; rfl
    · cases hw : wts (m.without i) (rowAt m i) with
      | none => rw [hw] at h; cases h
      | some z =>
        refine q_next (s_ret (E.eq (E.of (el_cat (E.of (el_lst (a_cons (e_int _) a_nil))) (e_meth (fitM (m.without i), rowAt m i) ⟨(okFit ok2).ok, bd200 r.2 (by decide), ok.l100 r.1⟩ (e_var rfl) rfl (a_cons (e_var rfl) a_nil) rfl) ?_)) ?_))
        · exact Nat.le_of_ble_eq_true rfl
        · show _ = Li (aLost m i)
          unfold aLost
          rw [if_neg nif, hw]; rfl
theorem ok_residual_sum : FnOk P w K mg base CX0 10 (n.ad 38) (n.fd 38) ["model", "arguments"] (spF (fun x : ModD => [ModV n x, ArgV [] []]) OkM (fun x => Li (aRss x))) := by
  have G_Fit_residual_sum := ok_Fit_residual_sum (P := P) (w := w) (base := base) T
  have G_Model_fit := ok_Model_fit (P := P) (w := w) (base := base) T
  refine fn_ty T.f_residual_sum sc_residual_sum (fun _ => rfl) fun cdv Ar outer s H E' hr => ⟨_, (pss_cons (ps_set (i := 2) sc_residual_sum.nd rfl (Or.inl rfl) (pe_meth0 (pv 0) T.cl_Model T.m_Model_fit G_Model_fit hr T.b_Model_fit .nil pass0))
        (pss_one (ps_ret (pe_op op_cat (pe_lst (pa_cons (pe_fld (pv 2) rfl) pa_nil)) (pe_meth0 (pv 2) T.cl_Fit T.m_Fit_residual_sum G_Fit_residual_sum (hr.mono (by decide)) T.b_Fit_residual_sum .nil pass0))))), ?_⟩
  intro m ok
  refine q_asg (P := FitV n (fitM m)) (e_meth (m, solM m) (okFit ok) (e_var rfl) rfl a_nil rfl) ?_
  refine s_ret (E.eq (E.of (el_cat (E.of (el_lst (a_cons (e_fld T.cl_Fit T.n_Fit_freedom (e_var rfl) rfl) a_nil))) (e_meth (fitM m) ?_ (e_var rfl) rfl a_nil rfl) ?_)) rfl)
  · exact (okFit ok).ok
  · exact Nat.le_of_ble_eq_true rfl
theorem ok_variance_estimate : FnOk P w K mg base CX0 10 (n.ad 39) (n.fd 39) ["model", "arguments"] (spF (fun x : ModD => [ModV n x, ArgV [] []]) OkM (fun x => Li (aVar x))) := by
  have G_Fit_variance := ok_Fit_variance (P := P) (w := w) (base := base) T
  have G_Model_fit := ok_Model_fit (P := P) (w := w) (base := base) T
  refine fn_ty T.f_variance_estimate sc_variance_estimate (fun _ => rfl) fun cdv Ar outer s H E' hr => ⟨_, (pss_cons (ps_set (i := 2) sc_variance_estimate.nd rfl (Or.inl rfl) (pe_meth0 (pe_meth0 (pv 0) T.cl_Model T.m_Model_fit G_Model_fit hr T.b_Model_fit .nil pass0) T.cl_Fit T.m_Fit_variance G_Fit_variance (hr.mono (by decide)) T.b_Fit_variance .nil pass0))
        (pss_cons (ps_if (pt_cmpR op_isN (pv 2) pe_non (nomark _)) (pss_one (ps_ret (pe_lst (pa_cons (pe_cst rfl T.g_NO_RESULT) pa_nil)))) pss_nil)
        (pss_one (ps_ret (pe_op op_cat (pe_lst (pa_cons pe_int pa_nil)) (pv 2)))))), ?_⟩
  intro m ok
  refine q_asg (P := (fitM m).varV) (e_meth (fitM m) ⟨(okFit ok).ok, okFree ok⟩ (e_meth (m, solM m) (okFit ok) (e_var rfl) rfl a_nil rfl) rfl a_nil rfl) ?_
  refine q_if (t_test (e_isN (e_var rfl) isN_var)) (fun h => ?_) (fun h => ?_)
  · have h : (fitM m).free = 0 := by simpa using h
    refine q_ret (E.eq (E.of (el_lst (a_cons (e_int _) a_nil))) ?_)
    show _ = Li (aVar m)
    unfold aVar
    rw [if_pos h]; rfl
  · have h : ¬ (fitM m).free = 0 := by simpa using h
    have hv : (fitM m).varV = Fr ((fitM m).rss / ((fitM m).free : Rat)) := by unfold FitD.varV; rw [if_neg h]
    rw [hv]
    refine q_next (s_ret (E.eq (E.of (el_cat (E.of (el_lst (a_cons (e_int _) a_nil))) (e_var rfl) ?_)) ?_))
    · exact Nat.le_of_ble_eq_true rfl
    · show _ = Li (aVar m)
      unfold aVar
      rw [if_neg h]; rfl
end
end Lf
end
section
set_option Elab.async false
set_option linter.all false
set_option maxRecDepth 100000
set_option maxHeartbeats 2000000
local macro_rules | `(tactic| decreasing_trivial) => `(tactic| ((repeat (first | exact Ty.st_nil | apply Ty.st_im | apply Ty.st_any | apply Ty.se_0 | apply Ty.se_im | apply Ty.se_any | exact Ty.pu_nil | apply Ty.pu_im | apply Ty.pu_any | apply Ty.pe_0 | apply Ty.pe_imE | apply Ty.pe_anyE | exact Ty.sub_nil | apply Ty.sub_cons | apply Ty.sub_any)); done))
namespace Lf
open PySem PySem.Spec PyProof.Rows L2 Ty NB
def normUp (a : List (List Int)) (b : List Int) (c i : Nat) : List Int := (c : Int) :: (((List.zipWith (fun (p : List Int) (z : Int) => p ++ [z]) a b).take i).flatten)
theorem flat_le {k : Nat} : ∀ {l : List (List Int)}, (∀ r ∈ l, r.length ≤ k) → l.flatten.length ≤ k * l.length
  | [], _ => by simp
  | x :: l, h => by
    have h1 := h x (by simp)
    have h2 := flat_le (l := l) fun r hr => h r (by simp [hr])
    rw [List.flatten_cons, List.length_append, List.length_cons, Nat.mul_succ]; omega
theorem prodsM_len {m : ModD} : (prodsM m).length = m.cc := by unfold prodsM prodsOf; rw [List.length_map, colsOf_len]
theorem momM_len {m : ModD} : (momM m).length = m.cc := by unfold momM momOf; rw [List.length_map, colsOf_len]
theorem prodsM_row {m : ModD} : ∀ r ∈ prodsM m, r.length = m.cc := by
  intro r hr
  obtain ⟨l, _, rfl⟩ := List.mem_map.mp hr
  rw [List.length_map, colsOf_len]
theorem normUp_len {m : ModD} (h : OkM m) (i : Nat) : (normUp (prodsM m) (momM m) m.cc i).length ≤ 100 := by
  unfold normUp
  rw [List.length_cons]
  have h1 : ∀ r ∈ ((List.zipWith (fun (p : List Int) (z : Int) => p ++ [z]) (prodsM m) (momM m)).take i), r.length ≤ 9 := fun r hr => by
    obtain ⟨j, hj, rfl⟩ := List.mem_iff_getElem.mp (List.mem_of_mem_take hr)
    rw [List.getElem_zipWith, List.length_append, prodsM_row _ (List.getElem_mem _)]
    have := h.c8
    simp only [List.length_singleton]; omega
  have h2 := flat_le h1
  have h3 : ((List.zipWith (fun (p : List Int) (z : Int) => p ++ [z]) (prodsM m) (momM m)).take i).length ≤ 8 := by
    rw [List.length_take, List.length_zipWith, prodsM_len, momM_len]
    have := h.c8
    omega
  omega
theorem normUp_succ {a : List (List Int)} {b : List Int} {c i : Nat} {x : List Int} {y : Int} (h1 : a[i]? = some x) (h2 : b[i]? = some y) : (normUp a b c (i + 1)).map Iv = (normUp a b c i).map Iv ++ x.map Iv ++ [Iv y] := by
  unfold normUp
  rw [List.take_add_one]
  have e : (List.zipWith (fun (p : List Int) (z : Int) => p ++ [z]) a b)[i]? = some (x ++ [y]) := by
    rw [List.getElem?_zipWith, h1, h2]
  rw [e]
  simp
theorem big100 {k : Nat} (h : k ≤ 1000) : k ≤ sizeLine := Nat.le_trans h (by decide)
section
variable {P : Program} {w : World} {K : PySem.W.Frag} {mg : Str → Option Value} {base : Heap} {n : Nm} (T : Txt K mg n)
include T
theorem ok_normal_equations : FnOk P w K mg base CX0 10 (n.ad 40) (n.fd 40) ["model", "arguments"] (spF (fun x : ModD => [ModV n x, ArgV [] []]) OkM (fun x => Li (aNorm x))) := by
  have G_Model_fit := ok_Model_fit (P := P) (w := w) (base := base) T
  refine fn_ty T.f_normal_equations sc_normal_equations (fun _ => rfl) fun cdv Ar outer s H E' hr => ⟨_, (pss_cons (ps_set (i := 2) sc_normal_equations.nd rfl (Or.inl rfl) (pe_meth0 (pv 0) T.cl_Model T.m_Model_fit G_Model_fit hr T.b_Model_fit .nil pass0))
        (pss_cons (ps_set (i := 3) sc_normal_equations.nd rfl (Or.inl rfl) (pe_lst (pa_cons (pe_fld (pv 0) rfl) pa_nil)))
        (pss_cons (ps_for PassesOwn.never rfl (pi_zip (by rfl) T.b_zip (pa_cons (pe_fld (pv 2) rfl) (pa_cons (pe_fld (pv 2) rfl) pa_nil))) (pg_tup rfl (pgs_cons (pg_name (i := 4) sc_normal_equations.nd rfl (Or.inl rfl)) (pgs_cons (pg_name (i := 5) sc_normal_equations.nd rfl (Or.inl rfl)) pgs_nil))) (pss_cons (ps_expr (pe_bm PySem.F.plainAttrs_list PySem.F.slot_list_extend PySem.F.type_list_extend mt_extend (pv 3) (pa_cons (pv 4) pa_nil)))
        (pss_one (ps_expr (pe_bm PySem.F.plainAttrs_list PySem.F.slot_list_append PySem.F.type_list_append mt_append (pv 3) (pa_cons (pv 5) pa_nil))))))
        (pss_one (ps_ret (pv 3)))))), ?_⟩
  intro m ok
  refine q_asg (P := FitV n (fitM m)) (e_meth (m, solM m) (okFit ok) (e_var rfl) rfl a_nil rfl) ?_
  refine q_asgL (el_lst (a_cons (e_fld T.cl_Model T.n_Model_column_count (e_var rfl) rfl) a_nil)) ?_
  refine q_for (s_forZ (f := Li) (g := Iv) (a := prodsM m) (b := momM m) (fun i => [im (ModV n m), im (ArgV [] []), im (FitV n (fitM m)), own ((normUp (prodsM m) (momM m) m.cc i).map Iv), any, any]) (a_cons (e_fld T.cl_Fit T.n_Fit_products (e_var rfl) rfl) (a_cons (e_fld T.cl_Fit T.n_Fit_moments (e_var rfl) rfl) a_nil)) (by decreasing_trivial) fun i x y hx hy => ?_) ?_
  · rw [normUp_succ hx hy]
    have hl := normUp_len ok i
    have hx8 : x.length ≤ 8 := by rw [prodsM_row x (List.mem_of_getElem? hx)]; exact ok.c8
    refine q_ext (i := 3) rfl (by decreasing_trivial) (e_var rfl) (big100 (by rw [List.length_map, List.length_map]; omega)) ?_
    refine s_sub (s_app (i := 3) rfl (by decreasing_trivial) (e_var rfl) (Nat.lt_of_lt_of_le (m := 1000) (by rw [List.length_append, List.length_map, List.length_map]; omega) (by decide))) (by decreasing_trivial)
  · refine s_fix 3 rfl (by decreasing_trivial) (s_ret (E.eq (e_var rfl) ?_))
    show Li _ = Li (aNorm m)
    unfold aNorm normUp
    rw [List.take_of_length_le (by rw [List.length_zipWith]; omega)]
end
end Lf
end
section
set_option Elab.async false
set_option linter.all false
set_option maxRecDepth 100000
set_option maxHeartbeats 2000000
local macro_rules | `(tactic| decreasing_trivial) => `(tactic| ((repeat (first | exact Ty.st_nil | apply Ty.st_im | apply Ty.st_any | apply Ty.se_0 | apply Ty.se_im | apply Ty.se_any | exact Ty.pu_nil | apply Ty.pu_im | apply Ty.pu_any | apply Ty.pe_0 | apply Ty.pe_imE | apply Ty.pe_anyE | exact Ty.sub_nil | apply Ty.sub_cons | apply Ty.sub_any)); done))
namespace Lf
open PySem PySem.Spec PyProof.Rows L2 Ty NB
theorem tc_le {m : ModD} (h : OkM m) : m.tc ≤ 8 := by
  have key : ∀ i, i < m.terms.length → m.terms.getD i 0 ≤ i := by
    intro i
    induction i with
    | zero =>
      intro hi
      have := h.tz
      rw [List.getD_eq_getElem?_getD, List.getElem?_eq_getElem hi] at this ⊢
      simp only [Option.getD_some] at this ⊢
      omega
    | succ i ih =>
      intro hi
      have h1 := ih (by omega)
      rcases h.ts i hi with e | e <;> omega
  have hc := h.c0
  have h8 := h.c8
  have hl := h.tl
  have e : m.terms.getLastD 0 = m.terms.getD (m.terms.length - 1) 0 := by
    have h0 : 0 < m.terms.length := by omega
    have := getLast_map (l := m.terms) h0
    rw [List.length_map, List.getElem?_map, List.getElem?_eq_getElem (by omega)] at this
    rw [List.getD_eq_getElem?_getD, List.getElem?_eq_getElem (by omega)]
    have e2 : Iv ((m.terms[m.terms.length - 1]'(by omega) : Nat) : Int) = Iv ((m.terms.getLastD 0 : Nat) : Int) := by simpa using this
    have e3 : (Iv ((m.terms[m.terms.length - 1]'(by omega) : Nat) : Int)).h (.int ((m.terms[m.terms.length - 1]'(by omega) : Nat) : Int)) (fun _ => none) := rfl
    rw [e2] at e3
    have e4 : V.int ((m.terms[m.terms.length - 1]'(by omega) : Nat) : Int) = V.int ((m.terms.getLastD 0 : Nat) : Int) := e3
    injection e4 with e5
    simp only [Option.getD_some]
    omega
  unfold ModD.tc
  rw [e]
  have := key (m.terms.length - 1) (by omega)
  omega
theorem flat3 (f : Nat → List Int) (h : ∀ t, (f t).length = 3) (i : Nat) : ((List.range i).flatMap f).length = 3 * i := by
  induction i with
  | zero => rfl
  | succ i ih => rw [List.range_succ, List.flatMap_append, List.length_append, ih]; simp [h]; omega
theorem seqUp_len (m : ModD) (i : Nat) : (seqUp m i).length = 3 * i + 1 := by unfold seqUp; rw [List.length_cons, flat3 _ fun _ => rfl]
theorem marUp_len (m : ModD) (i : Nat) : (marUp m i).length = 3 * i + 1 := by unfold marUp; rw [List.length_cons, flat3 _ fun _ => rfl]
theorem seqUp_succ (m : ModD) (i : Nat) : (seqUp m (i + 1)).map Iv = (seqUp m i).map Iv ++ (gain (partM m (colsB m i)) (partM m (colsB m (i + 1)))).map Iv := by
  unfold seqUp
  rw [List.range_succ, List.flatMap_append]; simp
theorem marUp_succ (m : ModD) (i : Nat) : (marUp m (i + 1)).map Iv = (marUp m i).map Iv ++ (gain (partM m (colsW m i)) (fitM m)).map Iv := by
  unfold marUp
  rw [List.range_succ, List.flatMap_append]; simp
theorem colsB_zero (m : ModD) : colsB m 0 = [] := by
  unfold colsB pickC
  refine List.filter_eq_nil_iff.mpr fun a _ => ?_
  unfold pB
  simp only [decide_eq_true_eq]
  omega
section
variable {P : Program} {w : World} {K : PySem.W.Frag} {mg : Str → Option Value} {base : Heap} {n : Nm} (T : Txt K mg n)
include T
theorem ok_gained : FnOk P w K mg base CX0 5 (n.ad 16) (n.fd 16) ["smaller", "larger"] (spF (fun x : FitD × FitD => [FitV n x.1, FitV n x.2]) (fun x => FitOk x.1 ∧ FitOk x.2) (fun x => Li (gain x.1 x.2))) := by
  have G_Fit_residual_sum := ok_Fit_residual_sum (P := P) (w := w) (base := base) T
  have G_difference := ok_difference (P := P) (w := w) (base := base) T
  refine fn_ty T.f_gained sc_gained (fun _ => rfl) fun cdv Ar outer s H E' hr => ⟨_, (pss_cons (ps_set (i := 2) sc_gained.nd rfl (Or.inl rfl) (pe_op op_sub (pe_fld (pv 1) rfl) (pe_fld (pv 0) rfl)))
        (pss_one (ps_ret (pe_op op_cat (pe_lst (pa_cons (pv 2) pa_nil)) (pe_call G_difference (hr.mono (by decide)) rfl T.g_difference T.f_difference.kp T.b_difference .nil pass0 (pa_cons (pe_meth0 (pv 0) T.cl_Fit T.m_Fit_residual_sum G_Fit_residual_sum hr T.b_Fit_residual_sum .nil pass0) (pa_cons (pe_meth0 (pv 1) T.cl_Fit T.m_Fit_residual_sum G_Fit_residual_sum hr T.b_Fit_residual_sum .nil pass0) pa_nil))))))), ?_⟩
  rintro ⟨x, y⟩ ⟨ox, oy⟩
  have ox : FitOk x := ox
  have oy : FitOk y := oy
  have sx := ox.rss_sz
  have sy := oy.rss_sz
  refine q_asg (P := Iv ((y.rank : Int) - (x.rank : Int))) (e_sub (e_fld T.cl_Fit T.n_Fit_rank (e_var rfl) rfl) (e_fld T.cl_Fit T.n_Fit_rank (e_var rfl) rfl)) ?_
  refine s_ret (E.eq (E.of (el_cat (E.of (el_lst (a_cons (e_var rfl) a_nil))) (e_call (PQ.mk x.rss.num (x.rss.den : Nat) y.rss.num (y.rss.den : Nat)) ⟨den_ne0 _, den_ne0 _, lt_mono sx.1 (by decide), lt_mono sx.2 (by decide), lt_mono sy.1 (by decide), lt_mono sy.2 (by decide)⟩ (a_cons ?_ (a_cons ?_ a_nil))) ?_)) ?_)
  · exact e_meth x ox (e_var rfl) rfl a_nil rfl
  · exact e_meth y oy (e_var rfl) rfl a_nil rfl
  · exact Nat.le_of_ble_eq_true rfl
  · show Lv ([Iv _] ++ [_, _]) = Li (gain x y)
    rw [self_eq, self_eq]; rfl
theorem ok_columns_before : FnOk P w K mg base CX0 1 (n.ad 17) (n.fd 17) ["terms", "term"] (spF (fun x : ModD × Nat => [Ln x.1.terms, Iv (x.2 : Nat)]) (fun x => OkM x.1) (fun x => Ln (colsB x.1 x.2))) := by
  skip
  refine fn_ty T.f_columns_before sc_columns_before (fun _ => rfl) fun cdv Ar outer s H E' hr => ⟨_, (pss_one (ps_ret (pe_lc (own := [("column", 2), ("own", 3)]) (g := (gTup K 2 (gCons (gName 2) (gCons (gName 3) gNil)))) (tt := (tTest (tOp (rI0 fun i j => .bl (decide (i < j))) (tVar 3) (tVar 1)))) (te := (tVar 2)) rfl sc_columns_before.nd (pi_enum (by rfl) T.b_enumerate (pa_cons (pv 0) pa_nil)) (blkOk_by (N := ["terms", "term", "column", "own"]) (sc := defScope st_columns_before) (by decide +kernel)) (fun _ _ _ _ _ => (pg_tup rfl (pgs_cons (pg_name (i := 2) sc_columns_before.nd rfl (Or.inl rfl)) (pgs_cons (pg_name (i := 3) sc_columns_before.nd rfl (Or.inl rfl)) pgs_nil)))) (fun _ _ _ _ _ => (pts_one (pt_cmpR op_lt (pv 3) (pv 1) (nomark _)))) (fun _ _ _ _ _ => (pv 2))))), ?_⟩
  rintro ⟨m, t⟩ ok
  have ok : OkM m := ok
  refine s_ret (E.of (el_enumF (f := fun i : Nat => Iv (i : Nat)) (h := fun i => Iv (i : Nat)) (l := m.terms) 0 (fun i => decide (((m.terms.getD i 0 : Nat) : Int) < (t : Int))) (a_cons (e_var rfl) a_nil) (by have := ok.tl; have := ok.c8; omega) (by simp) (by simp) (fun i hi => ?_) (fun i hi => e_var rfl)))
  exact (t_test (e_lt (e_var rfl) (e_var rfl)))
theorem ok_columns_without : FnOk P w K mg base CX0 1 (n.ad 18) (n.fd 18) ["terms", "term"] (spF (fun x : ModD × Nat => [Ln x.1.terms, Iv (x.2 : Nat)]) (fun x => OkM x.1) (fun x => Ln (colsW x.1 x.2))) := by
  skip
  refine fn_ty T.f_columns_without sc_columns_without (fun _ => rfl) fun cdv Ar outer s H E' hr => ⟨_, (pss_one (ps_ret (pe_lc (own := [("column", 2), ("own", 3)]) (g := (gTup K 2 (gCons (gName 2) (gCons (gName 3) gNil)))) (tt := (tTest (tOp rNe (tVar 3) (tVar 1)))) (te := (tVar 2)) rfl sc_columns_without.nd (pi_enum (by rfl) T.b_enumerate (pa_cons (pv 0) pa_nil)) (blkOk_by (N := ["terms", "term", "column", "own"]) (sc := defScope st_columns_without) (by decide +kernel)) (fun _ _ _ _ _ => (pg_tup rfl (pgs_cons (pg_name (i := 2) sc_columns_without.nd rfl (Or.inl rfl)) (pgs_cons (pg_name (i := 3) sc_columns_without.nd rfl (Or.inl rfl)) pgs_nil)))) (fun _ _ _ _ _ => (pts_one (pt_cmpR op_ne (pv 3) (pv 1) (nomark _)))) (fun _ _ _ _ _ => (pv 2))))), ?_⟩
  rintro ⟨m, t⟩ ok
  have ok : OkM m := ok
  refine s_ret (E.of (el_enumF (f := fun i : Nat => Iv (i : Nat)) (h := fun i => Iv (i : Nat)) (l := m.terms) 0 (fun i => !decide (((m.terms.getD i 0 : Nat) : Int) = (t : Int))) (a_cons (e_var rfl) a_nil) (by have := ok.tl; have := ok.c8; omega) (by simp) (by simp) (fun i hi => ?_) (fun i hi => e_var rfl)))
  exact (t_test (e_ne (e_var rfl) (e_var rfl)))
omit T in
theorem partPre {m : ModD} (ok : OkM m) (p : Nat → Bool) : FitOk (subD (fitM m) (pickC m p) (partS m (pickC m p))) ∧ (pickC m p).length ≤ 100 ∧ (∀ c ∈ pickC m p, c < (fitM m).prods.length ∧ c < (fitM m).mom.length) ∧ ∀ r ∈ (fitM m).prods, ∀ c ∈ pickC m p, c < r.length := by
  refine ⟨okPart ok p, Nat.le_trans (pickC_len ok) (by decide), fun c hc => ?_, fun r hr c hc => ?_⟩
  · show c < (prodsM m).length ∧ c < (momM m).length
    rw [prodsM_len, momM_len]
    exact ⟨pickC_lt ok c hc, pickC_lt ok c hc⟩
  · rw [prodsM_row r hr]; exact pickC_lt ok c hc
theorem ok_sequential : FnOk P w K mg base CX0 10 (n.ad 19) (n.fd 19) ["model", "arguments"] (spF (fun x : ModD => [ModV n x, ArgV [] []]) OkM (fun x => Li (aSeq x))) := by
  have G_Fit_part := ok_Fit_part (P := P) (w := w) (base := base) T
  have G_Model_fit := ok_Model_fit (P := P) (w := w) (base := base) T
  have G_Model_term_count := ok_Model_term_count (P := P) (w := w) (base := base) T
  have G_columns_before := ok_columns_before (P := P) (w := w) (base := base) T
  have G_gained := ok_gained (P := P) (w := w) (base := base) T
  refine fn_ty T.f_sequential sc_sequential (fun _ => rfl) fun cdv Ar outer s H E' hr => ⟨_, (pss_cons (ps_set (i := 2) sc_sequential.nd rfl (Or.inl rfl) (pe_meth0 (pv 0) T.cl_Model T.m_Model_fit G_Model_fit hr T.b_Model_fit .nil pass0))
        (pss_cons (ps_set (i := 3) sc_sequential.nd rfl (Or.inl rfl) (pe_lst (pa_cons (pe_meth0 (pv 0) T.cl_Model T.m_Model_term_count G_Model_term_count (hr.mono (by decide)) T.b_Model_term_count .nil pass0) pa_nil)))
        (pss_cons (ps_set (i := 4) sc_sequential.nd rfl (Or.inl rfl) (pe_meth (pv 2) T.cl_Fit T.m_Fit_part G_Fit_part (hr.mono (by decide)) T.b_Fit_part .nil pass0 (pa_cons (pe_lst pa_nil) pa_nil)))
        (pss_cons (ps_for PassesOwn.never rfl (pi_range1 rfl T.b_range (pa_cons (pe_meth0 (pv 0) T.cl_Model T.m_Model_term_count G_Model_term_count (hr.mono (by decide)) T.b_Model_term_count .nil pass0) pa_nil)) (pg_name (i := 5) sc_sequential.nd rfl (Or.inl rfl)) (pss_cons (ps_set (i := 6) sc_sequential.nd rfl (Or.inl rfl) (pe_meth (pv 2) T.cl_Fit T.m_Fit_part G_Fit_part (hr.mono (by decide)) T.b_Fit_part .nil pass0 (pa_cons (pe_call G_columns_before (hr.mono (by decide)) rfl T.g_columns_before T.f_columns_before.kp T.b_columns_before .nil pass0 (pa_cons (pe_fld (pv 0) rfl) (pa_cons (pe_op op_add (pv 5) pe_int) pa_nil))) pa_nil)))
        (pss_cons (ps_expr (pe_bm PySem.F.plainAttrs_list PySem.F.slot_list_extend PySem.F.type_list_extend mt_extend (pv 3) (pa_cons (pe_call G_gained (hr.mono (by decide)) rfl T.g_gained T.f_gained.kp T.b_gained .nil pass0 (pa_cons (pv 4) (pa_cons (pv 6) pa_nil))) pa_nil)))
        (pss_one (ps_set (i := 4) sc_sequential.nd rfl (Or.inl rfl) (pv 6))))))
        (pss_one (ps_ret (pv 3))))))), ?_⟩
  intro m ok
  have h0 : 0 < m.terms.length := by rw [ok.tl]; exact ok.c0
  refine q_asg (P := FitV n (fitM m)) (e_meth (m, solM m) (okFit ok) (e_var rfl) rfl a_nil rfl) ?_
  refine q_asgL (ps := (seqUp m 0).map Iv) (el_lst (a_cons (e_meth m h0 (e_var rfl) rfl a_nil rfl) a_nil)) ?_
  refine q_asg (P := FitV n (partM m (colsB m 0))) (E.eq (e_meth (fitM m, colsB m 0, partS m (colsB m 0)) (partPre ok (pB 0)) (e_var rfl) rfl (a_cons (E.eq (E.of (el_lst a_nil)) (by rw [colsB_zero]; rfl)) a_nil) rfl) rfl) ?_
  refine q_for (s_forR (m := m.tc) (fun i => [im (ModV n m), im (ArgV [] []), im (FitV n (fitM m)), own ((seqUp m i).map Iv), im (FitV n (partM m (colsB m i))), any, any]) (a_cons (e_meth m h0 (e_var rfl) rfl a_nil rfl) a_nil) (Nat.le_trans (tc_le ok) (by decide)) (by decreasing_trivial) fun i hi => ?_) ?_
  · refine q_asg (P := FitV n (partM m (colsB m (i + 1)))) (e_meth (fitM m, colsB m (i + 1), partS m (colsB m (i + 1))) (partPre ok (pB (i + 1))) (e_var rfl) rfl (a_cons (e_call (m, i + 1) ok (a_cons (e_fld T.cl_Model T.n_Model_terms (e_var rfl) rfl) (a_cons (E.eq (e_add (e_var rfl) (e_int _)) rfl) a_nil))) a_nil) rfl) ?_
    rw [seqUp_succ]
    refine q_ext (i := 3) rfl (by decreasing_trivial) (e_call (partM m (colsB m i), partM m (colsB m (i + 1))) ⟨okPart ok (pB i), okPart ok (pB (i + 1))⟩ (a_cons (e_var rfl) (a_cons (e_var rfl) a_nil))) (big100 ?_) ?_
    · rw [List.length_map, seqUp_len, List.length_map]
      show 3 * i + 1 + 3 ≤ 1000
      have := tc_le ok
      omega
    · exact s_sub (s_asg (e_var rfl)) (by decreasing_trivial)
  · exact s_fix 3 rfl (by decreasing_trivial) (s_ret (e_var rfl))
theorem ok_marginal_sum : FnOk P w K mg base CX0 9 (n.ad 20) (n.fd 20) ["model", "fit", "term"] (spF (fun x : ModD × Nat => [ModV n x.1, FitV n (fitM x.1), Iv (x.2 : Nat)]) (fun x => OkM x.1) (fun x => Li (gain (partM x.1 (colsW x.1 x.2)) (fitM x.1)))) := by
  have G_Fit_part := ok_Fit_part (P := P) (w := w) (base := base) T
  have G_columns_without := ok_columns_without (P := P) (w := w) (base := base) T
  have G_gained := ok_gained (P := P) (w := w) (base := base) T
  refine fn_ty T.f_marginal_sum sc_marginal_sum (fun _ => rfl) fun cdv Ar outer s H E' hr => ⟨_, (pss_one (ps_ret (pe_call G_gained (hr.mono (by decide)) rfl T.g_gained T.f_gained.kp T.b_gained .nil pass0 (pa_cons (pe_meth (pv 1) T.cl_Fit T.m_Fit_part G_Fit_part hr T.b_Fit_part .nil pass0 (pa_cons (pe_call G_columns_without (hr.mono (by decide)) rfl T.g_columns_without T.f_columns_without.kp T.b_columns_without .nil pass0 (pa_cons (pe_fld (pv 0) rfl) (pa_cons (pv 2) pa_nil))) pa_nil)) (pa_cons (pv 1) pa_nil))))), ?_⟩
  rintro ⟨m, t⟩ ok
  have ok : OkM m := ok
  exact s_ret (e_call (partM m (colsW m t), fitM m) ⟨okPart ok (pW t), (okFit ok).ok⟩ (a_cons (e_meth (fitM m, colsW m t, partS m (colsW m t)) (partPre ok (pW t)) (e_var rfl) rfl (a_cons (e_call (m, t) ok (a_cons (e_fld T.cl_Model T.n_Model_terms (e_var rfl) rfl) (a_cons (e_var rfl) a_nil))) a_nil) rfl) (a_cons (e_var rfl) a_nil)))
theorem ok_marginal : FnOk P w K mg base CX0 10 (n.ad 21) (n.fd 21) ["model", "arguments"] (spF (fun x : ModD => [ModV n x, ArgV [] []]) OkM (fun x => Li (aMar x))) := by
  have G_Model_fit := ok_Model_fit (P := P) (w := w) (base := base) T
  have G_Model_term_count := ok_Model_term_count (P := P) (w := w) (base := base) T
  have G_marginal_sum := ok_marginal_sum (P := P) (w := w) (base := base) T
  refine fn_ty T.f_marginal sc_marginal (fun _ => rfl) fun cdv Ar outer s H E' hr => ⟨_, (pss_cons (ps_set (i := 2) sc_marginal.nd rfl (Or.inl rfl) (pe_meth0 (pv 0) T.cl_Model T.m_Model_fit G_Model_fit hr T.b_Model_fit .nil pass0))
        (pss_cons (ps_set (i := 3) sc_marginal.nd rfl (Or.inl rfl) (pe_lst (pa_cons (pe_meth0 (pv 0) T.cl_Model T.m_Model_term_count G_Model_term_count (hr.mono (by decide)) T.b_Model_term_count .nil pass0) pa_nil)))
        (pss_cons (ps_for PassesOwn.never rfl (pi_range1 rfl T.b_range (pa_cons (pe_meth0 (pv 0) T.cl_Model T.m_Model_term_count G_Model_term_count (hr.mono (by decide)) T.b_Model_term_count .nil pass0) pa_nil)) (pg_name (i := 4) sc_marginal.nd rfl (Or.inl rfl)) (pss_one (ps_expr (pe_bm PySem.F.plainAttrs_list PySem.F.slot_list_extend PySem.F.type_list_extend mt_extend (pv 3) (pa_cons (pe_call G_marginal_sum hr rfl T.g_marginal_sum T.f_marginal_sum.kp T.b_marginal_sum .nil pass0 (pa_cons (pv 0) (pa_cons (pv 2) (pa_cons (pv 4) pa_nil)))) pa_nil)))))
        (pss_one (ps_ret (pv 3)))))), ?_⟩
  intro m ok
  have h0 : 0 < m.terms.length := by rw [ok.tl]; exact ok.c0
  refine q_asg (P := FitV n (fitM m)) (e_meth (m, solM m) (okFit ok) (e_var rfl) rfl a_nil rfl) ?_
  refine q_asgL (ps := (marUp m 0).map Iv) (el_lst (a_cons (e_meth m h0 (e_var rfl) rfl a_nil rfl) a_nil)) ?_
  refine q_for (s_forR (m := m.tc) (fun i => [im (ModV n m), im (ArgV [] []), im (FitV n (fitM m)), own ((marUp m i).map Iv), any]) (a_cons (e_meth m h0 (e_var rfl) rfl a_nil rfl) a_nil) (Nat.le_trans (tc_le ok) (by decide)) (by decreasing_trivial) fun i hi => ?_) ?_
  · rw [marUp_succ]
    refine s_sub (s_ext (i := 3) rfl (by decreasing_trivial) (e_call (m, i) ok (a_cons (e_var rfl) (a_cons (e_var rfl) (a_cons (e_var rfl) a_nil)))) (big100 ?_)) (by decreasing_trivial)
    rw [List.length_map, marUp_len, List.length_map]
    show 3 * i + 1 + 3 ≤ 1000
    have := tc_le ok
    omega
  · exact s_fix 3 rfl (by decreasing_trivial) (s_ret (e_var rfl))
end
end Lf
end
section
set_option Elab.async false
set_option linter.all false
set_option maxRecDepth 100000
set_option maxHeartbeats 2000000
local macro_rules | `(tactic| decreasing_trivial) => `(tactic| ((repeat (first | exact Ty.st_nil | apply Ty.st_im | apply Ty.st_any | apply Ty.se_0 | apply Ty.se_im | apply Ty.se_any | exact Ty.pu_nil | apply Ty.pu_im | apply Ty.pu_any | apply Ty.pe_0 | apply Ty.pe_imE | apply Ty.pe_anyE | exact Ty.sub_nil | apply Ty.sub_cons | apply Ty.sub_any)); done))
namespace Lf
open PySem PySem.Spec PyProof.Rows L2 Ty NB
theorem bn_int {z : Int} {k : Nat} (h : z.natAbs < 1000) (hk : 10 ≤ k) : Bn k z.natAbs := lt_mono (k := 10) (Nat.lt_of_lt_of_le h (by decide)) hk
theorem rankM_le {m : ModD} (ok : OkM m) : (fitM m).rank ≤ 8 := Nat.le_trans (rank_le _) (by show (prodsM m).length ≤ 8; rw [prodsM_len]; exact ok.c8)
theorem rankP_le {m : ModD} (ok : OkM m) {p : Nat → Bool} : (partM m (pickC m p)).rank ≤ 8 := Nat.le_trans (rank_le _) (by
  show ((pickC m p).map _).length ≤ 8
  rw [List.length_map]; exact pickC_len ok)
section
variable {P : Program} {w : World} {K : PySem.W.Frag} {mg : Str → Option Value} {base : Heap} {n : Nm} (T : Txt K mg n)
include T
theorem ok_f_ratio : FnOk P w K mg base CX0 10 (n.ad 22) (n.fd 22) ["model", "arguments"] (spF (fun x : ModD × Nat => [ModV n x.1, ArgV [(x.2 : Nat)] []]) (fun x => OkM x.1) (fun x => Li (aF x.1 x.2))) := by
  have G_Fit_variance := ok_Fit_variance (P := P) (w := w) (base := base) T
  have G_Model_fit := ok_Model_fit (P := P) (w := w) (base := base) T
  have G_Model_term_count := ok_Model_term_count (P := P) (w := w) (base := base) T
  have G_marginal_sum := ok_marginal_sum (P := P) (w := w) (base := base) T
  have G_quotient := ok_quotient (P := P) (w := w) (base := base) T
  refine fn_ty T.f_f_ratio sc_f_ratio (fun _ => rfl) fun cdv Ar outer s H E' hr => ⟨_, (pss_cons (ps_set (i := 2) sc_f_ratio.nd rfl (Or.inl rfl) (pe_ix ix_list (pv 1) pe_int (fun _ _ => rfl)))
        (pss_cons (ps_if (pt_cmpR op_ge (pv 2) (pe_meth0 (pv 0) T.cl_Model T.m_Model_term_count G_Model_term_count (hr.mono (by decide)) T.b_Model_term_count .nil pass0) (nomark _)) (pss_one (ps_ret (pe_lst (pa_cons (pe_cst rfl T.g_NOT_THERE) pa_nil)))) pss_nil)
        (pss_cons (ps_set (i := 3) sc_f_ratio.nd rfl (Or.inl rfl) (pe_meth0 (pv 0) T.cl_Model T.m_Model_fit G_Model_fit hr T.b_Model_fit .nil pass0))
        (pss_cons (ps_set (i := 4) sc_f_ratio.nd rfl (Or.inl rfl) (pe_call G_marginal_sum hr rfl T.g_marginal_sum T.f_marginal_sum.kp T.b_marginal_sum .nil pass0 (pa_cons (pv 0) (pa_cons (pv 3) (pa_cons (pv 2) pa_nil)))))
        (pss_cons (ps_set (i := 5) sc_f_ratio.nd rfl (Or.inl rfl) (pe_ix ix_list (pv 4) pe_int (fun _ _ => rfl)))
        (pss_cons (ps_set (i := 6) sc_f_ratio.nd rfl (Or.inl rfl) (pe_meth0 (pv 3) T.cl_Fit T.m_Fit_variance G_Fit_variance (hr.mono (by decide)) T.b_Fit_variance .nil pass0))
        (pss_cons (ps_if (PW.pt (pw_or (pt_cmpR op_eq (pv 5) pe_int (nomark _)) (pw_or (pt_cmpR op_isN (pv 6) pe_non (nomark _)) (pw_or1 (pt_cmpR op_eq (pe_ix ix_list (pv 6) pe_int (fun _ _ => rfl)) pe_int (nomark _)))))) (pss_one (ps_ret (pe_lst (pa_cons (pe_cst rfl T.g_NO_RESULT) pa_nil)))) pss_nil)
        (pss_cons (ps_set (i := 7) sc_f_ratio.nd rfl (Or.inl rfl) (pe_call G_quotient (hr.mono (by decide)) rfl T.g_quotient T.f_quotient.kp T.b_quotient .nil pass0 (pa_cons (pe_slice sl_list (pv 4) (po_some pe_int) po_none) (pa_cons (pe_lst (pa_cons (pv 5) (pa_cons pe_int pa_nil))) pa_nil))))
        (pss_one (ps_ret (pe_op op_cat (pe_lst (pa_cons pe_int pa_nil)) (pe_call G_quotient (hr.mono (by decide)) rfl T.g_quotient T.f_quotient.kp T.b_quotient .nil pass0 (pa_cons (pv 7) (pa_cons (pv 6) pa_nil)))))))))))))), ?_⟩
  rintro ⟨m, t⟩ ok
  have ok : OkM m := ok
  have fo := (okFit ok).ok
  have h0 : 0 < m.terms.length := by rw [ok.tl]; exact ok.c0
  refine q_asg (P := Iv (t : Nat)) (e_ixL (e_var rfl) (e_intN 0) rfl) ?_
  refine q_if (t_test (e_ge (e_var rfl) (e_meth (m) ?_ (e_var rfl) rfl a_nil rfl))) (fun h => ?_) (fun h => ?_)
  · exact h0
  · have h : (m.tc : Int) ≤ (t : Int) := by simpa using h
    refine q_ret (E.eq (E.of (el_lst (a_cons (e_int _) a_nil))) ?_)
    show _ = Li (aF m t)
    unfold aF
    rw [if_pos h]; rfl
  · have h : ¬ (m.tc : Int) ≤ (t : Int) := by simpa using h
    have rz : Sz 1220 (fitM m).rss := fo.rss_sz
    have pz : Sz 1220 (partM m (colsW m t)).rss := (okPart ok (pW t)).rss_sz
    have gz : Sz 2441 (gRss m t) := sz_sub pz rz
    have gd : Bn 10 (gDeg m t).natAbs := by
      have h1 := rankM_le ok
      have h2 : (partM m (colsW m t)).rank ≤ 8 := rankP_le ok
      refine bn_int ?_ (by decide)
      unfold gDeg
      omega
    refine q_next (q_asg (P := FitV n (fitM m)) (e_meth (m, solM m) (okFit ok) (e_var rfl) rfl a_nil rfl) ?_)
    refine q_asg (P := Lv [Iv (gDeg m t), Iv (gRss m t).num, Iv ((gRss m t).den : Nat)]) (e_call (m, t) ok (a_cons (e_var rfl) (a_cons (e_var rfl) (a_cons (e_var rfl) a_nil)))) ?_
    refine q_asg (P := Iv (gDeg m t)) (e_ixL (e_var rfl) (e_intN 0) rfl) ?_
    refine q_asg (P := (fitM m).varV) (e_meth (fitM m) ⟨fo, okFree ok⟩ (e_var rfl) rfl a_nil rfl) ?_
    have fz := okFree ok
    by_cases hf : (fitM m).free = 0
    · refine q_if (b := decide (gDeg m t = 0) || (true || false)) (t_or (t_test (e_eq (e_var rfl) (e_int _))) fun _ => t_or (t_test (E.eq (e_isN (e_var rfl) isN_var) (by rw [decide_eq_true hf]))) fun q => by cases q) (fun _ => ?_) (fun q => by simp at q)
      refine q_ret (E.eq (E.of (el_lst (a_cons (e_int _) a_nil))) ?_)
      show _ = Li (aF m t)
      unfold aF
      rw [if_neg h]
      simp only [hf, if_true, ite_self]; rfl
    · have hv : (fitM m).varV = Fr ((fitM m).rss / ((fitM m).free : Rat)) := by unfold FitD.varV; rw [if_neg hf]
      rw [hv]
      refine q_if (t_or (t_test (e_eq (e_var rfl) (e_int _))) fun _ => t_or (t_test (e_isN (b := false) (e_var rfl) (fun v F h => by obtain ⟨p, xs, rfl, _⟩ := h; rfl))) fun _ => (t_test (e_eq (e_ixL (e_var rfl) (e_intN 0) rfl) (e_int _)))) (fun h2 => ?_) (fun h2 => ?_)
      · refine q_ret (E.eq (E.of (el_lst (a_cons (e_int _) a_nil))) ?_)
        show _ = Li (aF m t)
        unfold aF
        rw [if_neg h]
        by_cases c : gDeg m t = 0
        · simp only [c, if_true]; rfl
        · have h2 : ((fitM m).rss / ((fitM m).free : Rat)).num = 0 := by simpa [c] using h2
          simp only [c, hf, h2, if_true, if_false]; rfl
      · have hd : ¬ gDeg m t = 0 := by
          intro c
          simp [c] at h2
        have hn : ¬ ((fitM m).rss / ((fitM m).free : Rat)).num = 0 := by
          intro c
          rw [c] at h2; simp at h2
        have vz : Sz 1420 ((fitM m).rss / ((fitM m).free : Rat)) := sz_over rz fz hf
        have mz : Sz 2451 (gRss m t / (gDeg m t : Rat)) := sz_over gz gd hd
        refine q_next (q_asg (P := Fr (gRss m t / (gDeg m t : Rat))) (E.eq (e_call (PQ.mk (gRss m t).num ((gRss m t).den : Nat) (gDeg m t) 1) ⟨⟨den_ne0 _, by show (1 : Int) ≠ 0; decide, lt_mono gz.1 (by decide), lt_mono gz.2 (by decide), lt_mono gd (by decide), one_pos (by decide)⟩, hd⟩ (a_cons (E.of (EL.eq (el_slice (e_var rfl) (po_so (e_intN 1)) po_no) rfl)) (a_cons (E.of (el_lst (a_cons (e_var rfl) (a_cons (e_int 1) a_nil)))) a_nil))) (congrArg Fr (over_int _ _))) ?_)
        refine s_ret (E.eq (E.of (el_cat (E.of (el_lst (a_cons (e_int _) a_nil))) (e_call (PQ.mk (gRss m t / (gDeg m t : Rat)).num ((gRss m t / (gDeg m t : Rat)).den : Nat) ((fitM m).rss / ((fitM m).free : Rat)).num (((fitM m).rss / ((fitM m).free : Rat)).den : Nat)) ⟨⟨den_ne0 _, den_ne0 _, lt_mono mz.1 (by decide), lt_mono mz.2 (by decide), lt_mono vz.1 (by decide), lt_mono vz.2 (by decide)⟩, hn⟩ (a_cons (e_var rfl) (a_cons (e_var rfl) a_nil))) ?_)) ?_)
        · exact Nat.le_of_ble_eq_true rfl
        · show _ = Li (aF m t)
          unfold aF
          rw [if_neg h, if_neg hd, if_neg hf, if_neg hn]
          show Lv ([Iv 0] ++ [_, _]) = _
          rw [self_eq, self_eq]; rfl
end
end Lf
end
section
set_option Elab.async false
set_option linter.all false
set_option maxRecDepth 100000
set_option maxHeartbeats 2000000
local macro_rules | `(tactic| decreasing_trivial) => `(tactic| ((repeat (first | exact Ty.st_nil | apply Ty.st_im | apply Ty.st_any | apply Ty.se_0 | apply Ty.se_im | apply Ty.se_any | exact Ty.pu_nil | apply Ty.pu_im | apply Ty.pu_any | apply Ty.pe_0 | apply Ty.pe_imE | apply Ty.pe_anyE | exact Ty.sub_nil | apply Ty.sub_cons | apply Ty.sub_any)); done))
namespace Lf
open PySem PySem.Spec PyProof.Rows L2 Ty NB
def GP (H0 F H : Hp) (kv : List Key × V) (g : List Int × List Int) : Prop := kv.1 = g.1.map Sum.inl ∧ ∃ l, kv.2 = .ref l ∧ H0 l = none ∧ F l = none ∧ H l = some (.lst (g.2.map V.int))
def Grp (H0 F H : Hp) : List (List Key × V) → List (List Int × List Int) → Prop
  | [], [] => True
  | kv :: ks, g :: gs => GP H0 F H kv g ∧ kv.2 ∉ ks.map (·.2) ∧ Grp H0 F H ks gs
  | _, _ => False
theorem Grp.mono {H0 F H F' H' : Hp} (g : Gr F H F' H') : ∀ {ks : List (List Key × V)} {gs : List (List Int × List Int)}, Grp H0 F H ks gs → Grp H0 F' H' ks gs
  | [], [], _ => trivial
  | _ :: _, _ :: _, ⟨⟨h1, l, h2, h3, h4, h5⟩, h6, h7⟩ => ⟨⟨h1, l, h2, h3, (g.o l (ne_none h5)).trans h4, g.h _ _ h5⟩, h6, Grp.mono g h7⟩
  | [], _ :: _, h => h.elim
  | _ :: _, [], h => h.elim
theorem Grp.length {H0 F H : Hp} : ∀ {ks : List (List Key × V)} {gs : List (List Int × List Int)}, Grp H0 F H ks gs → ks.length = gs.length
  | [], [], _ => rfl
  | _ :: _, _ :: _, ⟨_, _, h7⟩ => by rw [List.length_cons, List.length_cons, Grp.length h7]
  | [], _ :: _, h => h.elim
  | _ :: _, [], h => h.elim
theorem Grp.upd {H0 F H : Hp} {l : Addr} {o : HO} : ∀ {ks : List (List Key × V)} {gs : List (List Int × List Int)}, Grp H0 F H ks gs → V.ref l ∉ ks.map (·.2) → Grp H0 F (upd H l o) ks gs
  | [], [], _, _ => trivial
  | kv :: _, _ :: _, ⟨⟨h1, l', h2, h3, h4, h5⟩, h6, h7⟩, hn => by
    rw [List.map_cons, List.mem_cons, not_or] at hn
    have ne : l' ≠ l := fun e => hn.1 (by rw [h2, e])
    exact ⟨⟨h1, l', h2, h3, h4, by rw [upd_ne ne]; exact h5⟩, h6, Grp.upd h7 hn.2⟩
  | [], _ :: _, h, _ => h.elim
  | _ :: _, [], h, _ => h.elim
theorem Grp.mem {H0 F H : Hp} : ∀ {ks : List (List Key × V)} {gs : List (List Int × List Int)} {v : V}, Grp H0 F H ks gs → v ∈ ks.map (·.2) → ∃ l xs, v = .ref l ∧ H0 l = none ∧ F l = none ∧ H l = some (.lst xs)
  | kv :: _, _ :: _, v, ⟨⟨h1, l', h2, h3, h4, h5⟩, h6, h7⟩, hm => by
    rw [List.map_cons, List.mem_cons] at hm
    rcases hm with e | hm
    · exact ⟨l', _, by rw [e, h2], h3, h4, h5⟩
    · exact Grp.mem h7 hm
  | [], [], _, _, hm => by simp at hm
  | [], _ :: _, _, h, _ => h.elim
  | _ :: _, [], _, h, _ => h.elim
theorem inl_inj : ∀ {a b : List Int}, (a.map Sum.inl : List Key) = b.map Sum.inl → a = b
  | [], [], _ => rfl
  | x :: a, y :: b, h => by
    rw [List.map_cons, List.map_cons] at h
    injection h with h1 h2
    injection h1 with h1
    rw [h1, inl_inj h2]
  | [], _ :: _, h => by simp at h
  | _ :: _, [], h => by simp at h
theorem val_mem {ks : List (List Key × V)} {k : List Key} {v : V} (h : valV ks k = some v) : v ∈ ks.map (·.2) := by
  unfold valV at h
  obtain ⟨p, h1, h2⟩ := Option.map_eq_some_iff.mp h
  exact List.mem_map.mpr ⟨p, List.mem_of_find?_eq_some h1, h2⟩
theorem grp_none {H0 F H : Hp} {k : List Int} {y : Int} : ∀ {ks : List (List Key × V)} {gs : List (List Int × List Int)}, Grp H0 F H ks gs → valV ks (k.map Sum.inl) = none → addG gs k y = gs ++ [(k, [y])]
  | [], [], _, _ => rfl
  | kv :: ks, g :: gs, ⟨⟨h1, _⟩, _, h7⟩, hv => by
    have ne : ¬ kv.1 = k.map Sum.inl := fun e => by rw [valV_pos e] at hv; cases hv
    rw [valV_neg ne] at hv
    have e2 : ¬ g.1 = k := fun e => ne (by rw [h1, e])
    show (if g.1 = k then _ else _) = _
    rw [if_neg e2, grp_none h7 hv]; rfl
  | [], _ :: _, h, _ => h.elim
  | _ :: _, [], h, _ => h.elim
theorem grp_some {H0 F H : Hp} {k : List Int} {y : Int} {v : V} : ∀ {ks : List (List Key × V)} {gs : List (List Int × List Int)}, Grp H0 F H ks gs → valV ks (k.map Sum.inl) = some v →
    ∃ l ys, v = .ref l ∧ H0 l = none ∧ F l = none ∧ H l = some (.lst (ys.map V.int)) ∧ (∃ g ∈ gs, g.2 = ys) ∧ Grp H0 F (L2.upd H l (.lst ((ys ++ [y]).map V.int))) ks (addG gs k y)
  | [], [], _, hv => by cases hv
  | kv :: ks, g :: gs, ⟨⟨h1, l', h2, h3, h4, h5⟩, h6, h7⟩, hv => by
    by_cases e : kv.1 = k.map Sum.inl
    · rw [valV_pos e] at hv
      have e2 : g.1 = k := inl_inj (h1.symm.trans e)
      cases hv
      refine ⟨l', g.2, h2, h3, h4, h5, ⟨g, by simp, rfl⟩, ?_⟩
      have ea : addG (g :: gs) k y = (g.1, g.2 ++ [y]) :: gs := by show (if g.1 = k then _ else _) = _; rw [if_pos e2]
      rw [ea]
      exact ⟨⟨h1, l', h2, h3, h4, upd_same⟩, h6, Grp.upd h7 (h2 ▸ h6)⟩
    · rw [valV_neg e] at hv
      have e2 : ¬ g.1 = k := fun z => e (by rw [h1, z])
      obtain ⟨l, ys, g1, g2, g3, g4, ⟨g0, g6, g7⟩, g5⟩ := grp_some (y := y) h7 hv
      have ea : addG (g :: gs) k y = g :: addG gs k y := by show (if g.1 = k then _ else _) = _; rw [if_neg e2]
      rw [ea]
      refine ⟨l, ys, g1, g2, g3, g4, ⟨g0, by simp [g6], g7⟩, ⟨h1, l', h2, h3, h4, ?_⟩, h6, g5⟩
      have ne : l' ≠ l := fun z => h6 (by rw [h2, z, ← g1]; exact val_mem hv)
      rw [upd_ne ne]; exact h5
  | [], _ :: _, h, _ => h.elim
  | _ :: _, [], h, _ => h.elim
theorem grp_snoc {H0 F H : Hp} {k : List Int} {y : Int} {l : Addr} : ∀ {ks : List (List Key × V)} {gs : List (List Int × List Int)}, Grp H0 F H ks gs → V.ref l ∉ ks.map (·.2) → H0 l = none → F l = none → H l = some (.lst [.int y]) →
    Grp H0 F H (ks ++ [(k.map Sum.inl, .ref l)]) (gs ++ [(k, [y])])
  | [], [], _, _, a, b, c => ⟨⟨rfl, l, rfl, a, b, c⟩, by simp, trivial⟩
  | kv :: ks, g :: gs, ⟨h1, h6, h7⟩, hn, a, b, c => by
    rw [List.map_cons, List.mem_cons, not_or] at hn
    refine ⟨h1, ?_, grp_snoc h7 hn.2 a b c⟩
    show ¬ kv.2 ∈ List.map (·.2) (ks ++ [(k.map Sum.inl, V.ref l)])
    rw [List.map_append, List.mem_append, not_or]
    exact ⟨h6, by simpa using fun e => hn.1 e.symm⟩
  | [], _ :: _, h, _, _, _, _ => h.elim
  | _ :: _, [], h, _, _, _, _ => h.elim
def grp (gs : List (List Int × List Int)) : SP := ⟨fun H0 o F H => ∃ d kvs, o = some (.ref d) ∧ H0 d = none ∧ F d = none ∧ H d = some (.dT kvs) ∧ Grp H0 F H kvs gs,
  fun g ⟨d, kvs, e, h0, hF, hd, r⟩ => ⟨d, kvs, e, h0, (g.o d (ne_none hd)).trans hF, g.h _ _ hd, Grp.mono g r⟩⟩
def grVs (gs : List (List Int × List Int)) : List VP := gs.map fun g => Li g.2
def grF (gs : List (List Int × List Int)) : SP := ⟨fun H0 o F H => ∃ (d : Addr) (kvs : List (List Key × V)), o = some (.ref d) ∧ H d = some (.dT kvs) ∧ AllP (grVs gs) (kvs.map Prod.snd) F, by
  intro H0 v F H F' H' g h
  obtain ⟨d, kvs, e, hd, r⟩ := h
  exact ⟨d, kvs, e, g.h _ _ hd, AllP.mono g.f r⟩⟩
def rTupQ (K : PySem.W.Frag) : List V → Hp → VK → Prop := fun xs H Q => ∃ p ys, xs = [.ref p] ∧ ((SqL K H p ys ∧ ∀ l, H l = none → Q (.ref l) (upd H l (.tup ys))) ∨ (SqT K H p ys ∧ Q (.ref p) H))
theorem addG_len (gs : List (List Int × List Int)) (k : List Int) (y : Int) : (addG gs k y).length ≤ gs.length + 1 := by
  induction gs with
  | nil => exact Nat.le_refl _
  | cons g gs ih =>
    obtain ⟨j, ys⟩ := g
    unfold addG
    split
    · simp
    · simp only [List.length_cons]; omega
theorem addG_sz {n : Nat} (gs : List (List Int × List Int)) (k : List Int) (y : Int) (h : ∀ g ∈ gs, g.2.length ≤ n) : ∀ g ∈ addG gs k y, g.2.length ≤ n + 1 := by
  induction gs with
  | nil =>
    intro g hg
    have : g = (k, [y]) := by simpa [addG] using hg
    rw [this]; simp
  | cons g gs ih =>
    obtain ⟨j, ys⟩ := g
    unfold addG
    have h1 := h (j, ys) (by simp)
    have h2 := ih fun g hg => h g (by simp [hg])
    split
    · intro g hg
      rcases List.mem_cons.mp hg with e | e
      · rw [e]; simpa using h1
      · exact Nat.le_succ_of_le (h g (by simp [e]))
    · intro g hg
      rcases List.mem_cons.mp hg with e | e
      · rw [e]; exact Nat.le_succ_of_le h1
      · exact h2 g e
theorem addG_all {p : Int → Prop} (gs : List (List Int × List Int)) (k : List Int) (y : Int) (hy : p y) (h : ∀ g ∈ gs, g.2 ≠ [] ∧ ∀ z ∈ g.2, p z) : ∀ g ∈ addG gs k y, g.2 ≠ [] ∧ ∀ z ∈ g.2, p z := by
  induction gs with
  | nil =>
    intro g hg
    have : g = (k, [y]) := by simpa [addG] using hg
    rw [this]; simpa using hy
  | cons g gs ih =>
    obtain ⟨j, ys⟩ := g
    unfold addG
    have h1 := h (j, ys) (by simp)
    have h2 := ih fun g hg => h g (by simp [hg])
    split
    · intro g hg
      rcases List.mem_cons.mp hg with e | e
      · rw [e]
        refine ⟨by simp, fun z hz => ?_⟩
        rcases List.mem_append.mp hz with q | q
        · exact h1.2 z q
        · rw [List.mem_singleton.mp q]; exact hy
      · exact h g (by simp [e])
    · intro g hg
      rcases List.mem_cons.mp hg with e | e
      · rw [e]; exact h1
      · exact h2 g e
theorem groupsUp_succ {a : List (List Int)} {b : List Int} {i : Nat} {x : List Int} {y : Int} (h1 : a[i]? = some x) (h2 : b[i]? = some y) : groupsUp a b (i + 1) = addG (groupsUp a b i) x y := by
  have e : (a.zip b)[i]? = some (x, y) := by rw [List.getElem?_zip_eq_some]; exact ⟨h1, h2⟩
  unfold groupsUp
  rw [List.take_add_one, e, List.foldl_append]; rfl
theorem groupsUp_sz {a : List (List Int)} {b : List Int} {p : Int → Prop} (hb : ∀ z ∈ b, p z) : ∀ i, (groupsUp a b i).length ≤ i ∧ (∀ g ∈ groupsUp a b i, g.2.length ≤ i) ∧ ∀ g ∈ groupsUp a b i, g.2 ≠ [] ∧ ∀ z ∈ g.2, p z := by
  intro i
  induction i with
  | zero => exact ⟨Nat.le_refl _, (fun g hg => by simp [groupsUp] at hg), fun g hg => by simp [groupsUp] at hg⟩
  | succ i ih =>
    obtain ⟨h1, h2, h3⟩ := ih
    cases e : (a.zip b)[i]? with
    | none =>
      have : groupsUp a b (i + 1) = groupsUp a b i := by
        unfold groupsUp
        rw [List.take_add_one, e]; simp
      rw [this]
      exact ⟨by omega, fun g hg => Nat.le_succ_of_le (h2 g hg), h3⟩
    | some q =>
      obtain ⟨x, y⟩ := q
      obtain ⟨e1, e2⟩ := List.getElem?_zip_eq_some.mp e
      rw [groupsUp_succ e1 e2]
      exact ⟨Nat.le_trans (addG_len _ _ _) (by omega), addG_sz _ _ _ h2, addG_all _ _ _ (hb y (List.mem_of_getElem? e2)) h3⟩
theorem rd_key {F : Hp} {ns : List Int} {xs : List V} (h : AllP (ns.map Iv) xs F) : xs = (ns.map Sum.inl : List Key).map kV := by
  rw [vals_int h, List.map_map]; rfl
/-- groups.setdefault(tuple(row), []).append(response) -/
theorem s_grp {K : PySem.W.Frag} {G1 : VP} {gs : List (List Int × List Int)} {row : List Int} {y : Int} {R : VP} (hg : gs.length ≤ 1000) (hs : ∀ g ∈ gs, g.2.length ≤ 1000) :
    S [im G1, grp gs, im (Li row), im (Iv y)] (tDrop (tBM K "list" rAppend (tBM K "dict" rDsetT (tVar 1) (tCons (tCB (rTupQ K) (tCons (tVar 2) tNil)) (tCons (tLst tNil) tNil))) (tCons (tVar 3) tNil))) [im G1, grp (addG gs row y), any, any] R := fun F0 H0 D s F H a k r => by
  match s, a with
  | [v0, v1, v2, v3], ⟨g, h0, ⟨d, kvs, e1, hd0, hdF, hd, rel⟩, ⟨x2, e2, p, xs, er, hp, al⟩, ⟨x3, e3, h3⟩, _⟩ =>
    have h3 : x3 = .int y := h3
    subst e1 e2 e3 er h3
    have hl := rel.length
    refine ⟨.ref d, rfl, .inr (.inr (.inl ⟨rfl, .inr ⟨_, hd⟩⟩)), .ref p, rfl, p, xs, rfl, .inl ⟨SqL.of (g.i _ _ hp), fun tp ht => ?_⟩⟩
    refine ⟨Nat.zero_le _, fun el he => ?_⟩
    have net : el ≠ tp := fun z => by rw [z, upd_same] at he; cases he
    rw [upd_ne net] at he
    have ndt : d ≠ tp := fun z => by rw [z, ht] at hd; cases hd
    have nde : d ≠ el := fun z => by rw [z, he] at hd; cases hd
    let H1 := upd (upd H tp (.tup xs)) el (.lst [])
    have H1d : H1 d = some (.dT kvs) := by show upd _ _ _ _ = _; rw [upd_ne nde, upd_ne ndt]; exact hd
    have g1 : Gr F H F H1 := ((Gr.refl g.i).move ht (g.i.free ht)).move he (g.i.free he)
    have gH := g.trans g1
    have h0t : H0 tp = none := g.h.free ht
    have h0e : H0 el = none := g.h.free he
    have relH1 := Grp.mono g1 rel
    refine ⟨d, tp, .ref el, kvs, row.map Sum.inl, rfl, rfl, H1d, ?_, ?_, fun v hv => ?_, fun hv => ?_⟩
    · show upd _ _ _ _ = _
      rw [upd_ne net.symm, upd_same, ← rd_key al]
    · rw [hl]; exact Nat.lt_of_le_of_lt hg (by decide)
    · obtain ⟨l, ys, ev, hl0, hlF, hlH, ⟨g0, hg0, eg⟩, rel2⟩ := grp_some (y := y) relH1 hv
      subst ev
      refine ⟨.inl ⟨rfl, _, SqL.of hlH⟩, .int y, rfl, l, _, _, rfl, rfl, hlH, ?_, ?_⟩
      · rw [List.length_map, ← eg]; exact Nat.lt_of_le_of_lt (hs g0 hg0) (by decide)
      have ndl : d ≠ l := ne_of H1d hlH (by intro z; cases z)
      refine k _ F _ ⟨gH.move hl0 hlF, h0, ⟨d, kvs, rfl, hd0, hdF, ?_, ?_⟩, trivial, trivial, trivial⟩
      · rw [upd_ne ndl]; exact H1d
      · have e : (ys.map V.int ++ [V.int y]) = (ys ++ [y]).map V.int := by simp
        rw [e]; exact rel2
    · have ea := grp_none (y := y) relH1 hv
      have H2e : upd H1 d (.dT (putK kvs (row.map Sum.inl) (.ref el))) el = some (.lst []) := by
        rw [upd_ne nde.symm]
        exact upd_same
      refine ⟨.inl ⟨rfl, _, SqL.of H2e⟩, .int y, rfl, el, _, _, rfl, rfl, H2e, by decide, ?_⟩
      have nin : V.ref el ∉ kvs.map (·.2) := fun z => by
        obtain ⟨l, zs, q1, _, _, q4⟩ := rel.mem z
        cases q1
        rw [he] at q4; cases q4
      refine k _ F _ ⟨(gH.move hd0 hdF).move h0e (g.i.free he), h0, ⟨d, putK kvs (row.map Sum.inl) (.ref el), rfl, hd0, hdF, ?_, ?_⟩, trivial, trivial, trivial⟩
      · rw [upd_ne nde, upd_same]
      · rw [ea, putK_new _ hv]
        have r1 : ∀ o, Grp H0 F (upd H1 d o) kvs gs := fun o => relH1.upd fun z => by
          obtain ⟨l, zs, q1, _, _, q4⟩ := rel.mem z
          cases q1
          rw [hd] at q4; cases q4
        exact grp_snoc ((r1 _).upd nin) nin h0e (g.i.free he) upd_same
theorem el_listVals {G : List SP} {gs : List (List Int × List Int)} {i : Nat} (h : G[i]? = some (grF gs)) : EL G (tListVals (tVar i)) (grVs gs) := fun F0 H0 s F H a Q q => by
  obtain ⟨o, h1, d, kvs, rfl, hd, al⟩ := a.s.get h
  exact ⟨.ref d, h1, d, kvs, rfl, hd, fun p hp => q p _ F _ ((Gr.refl a.g.i).move hp (a.g.i.free hp)) hp (a.g.i.free hp) upd_same al⟩
theorem grp_all {H0 F H F' : Hp} : ∀ {ks : List (List Key × V)} {gs : List (List Int × List Int)}, Grp H0 F H ks gs → (∀ l, V.ref l ∈ ks.map (·.2) → F' l = H l) → AllP (grVs gs) (ks.map (·.2)) F'
  | [], [], _, _ => trivial
  | kv :: ks, g :: gs, ⟨⟨h1, l', h2, h3, h4, h5⟩, h6, h7⟩, hn => by
    refine ⟨⟨l', _, h2, (hn l' (List.mem_map.mpr ⟨kv, by simp, h2⟩)).trans h5, int_vals⟩, grp_all h7 fun l hl => hn l (by rw [List.map_cons]; exact List.mem_cons_of_mem _ hl)⟩
  | [], _ :: _, h, _ => h.elim
  | _ :: _, [], h, _ => h.elim
open Classical in
/-- the groups' lists stand still from now on -/
theorem s_grF {P1 R : VP} {gs : List (List Int × List Int)} {ts : TS} {G2 : List SP} (k : S [im P1, grF gs, any, any] ts G2 R) : S [im P1, grp gs, any, any] ts G2 R := fun F0 H0 D s F H a n r => by
  match s, a with
  | [v0, v1, v2, v3], ⟨g, ⟨x0, e0, h0⟩, ⟨d, kvs, e1, hd0, hdF, hd, rel⟩, _⟩ =>
    let F1 : Hp := fun a => if V.ref a ∈ kvs.map (·.2) then H a else F a
    have sF : Same F F1 := fun a u e => by
      show (if _ then _ else _) = _
      split
      · rename_i z
        exact g.i a u e
      · exact e
    refine k F0 H0 D [v0, v1, v2, v3] F1 H ⟨⟨g.f.trans sF, g.h, fun a u e => ?_, fun a z => ?_⟩, ⟨x0, e0, P1.mono sF h0⟩, ⟨d, kvs, e1, hd, grp_all rel fun l hl => if_pos hl⟩, trivial, trivial, trivial⟩ n r
    · have e : (if V.ref a ∈ kvs.map (·.2) then H a else F a) = some u := e
      split at e
      · exact e
      · exact g.i a u e
    · show (if _ then _ else _) = _
      rw [if_neg, g.o a z]
      intro q
      obtain ⟨l, zs, q1, q2, _, _⟩ := rel.mem q
      cases q1
      exact z q2
end Lf
end
section
set_option Elab.async false
set_option linter.all false
set_option maxRecDepth 100000
set_option maxHeartbeats 2000000
local macro_rules | `(tactic| decreasing_trivial) => `(tactic| ((repeat (first | exact Ty.st_nil | apply Ty.st_im | apply Ty.st_any | apply Ty.se_0 | apply Ty.se_im | apply Ty.se_any | exact Ty.pu_nil | apply Ty.pu_im | apply Ty.pu_any | apply Ty.pe_0 | apply Ty.pe_imE | apply Ty.pe_anyE | exact Ty.sub_nil | apply Ty.sub_cons | apply Ty.sub_any)); done))
namespace Lf
open PySem PySem.Spec PyProof.Rows L2 Ty NB
structure GsOk (gs : List (List Int)) (sq : Int) : Prop where
  hl : gs.length ≤ 24
  ne : ∀ ys ∈ gs, ys ≠ [] ∧ ys.length ≤ 24 ∧ Bd 20 ys
  sq : Bn 46 sq.natAbs
theorem pureF_sz {r : Rat} {ys : List Int} {k : Nat} (h : Sz k r) (h1 : ys ≠ []) (h2 : ys.length ≤ 24) (h3 : Bd 20 ys) : Sz (k + 60) (pureF r ys) := by
  have l0 : ((ys.length : Nat) : Int) ≠ 0 := by
    have := List.length_pos_iff.mpr h1
    omega
  have hs : Bn 25 ys.sum.natAbs := sum_bd (m := 5) h3 (by omega)
  have hq := lt_mul hs hs
  have hn : Bn 5 ((ys.length : Nat) : Int).natAbs := by
    show ys.length < 32
    omega
  have e := diff_eq r.num r.den (ys.sum * ys.sum) (ys.length : Nat) (den_ne0 r) l0
  rw [self_eq] at e
  unfold pureF
  rw [← e]
  have hd : Bn k ((r.den : Nat) : Int).natAbs := h.2
  refine sz_div (Int.mul_ne_zero (den_ne0 _) l0) (lt_mono (lt_sub (k := k + 50) (lt_mono (lt_mul h.1 hn) (by omega)) (lt_mono (lt_mul hq hd) (by omega))) (by omega)) (lt_mono (lt_mul hd hn) (by omega))
theorem take_fold {gs : List (List Int)} {sq : Int} {i : Nat} {x : List Int} (h : gs[i]? = some x) : pureQ (gs.take (i + 1)) sq = pureF (pureQ (gs.take i) sq) x := by
  unfold pureQ
  rw [take_succ h, List.foldl_append]; rfl
theorem pureQ_sz {gs : List (List Int)} {sq : Int} (ok : GsOk gs sq) : ∀ i, i ≤ gs.length → Sz (46 + 60 * i) (pureQ (gs.take i) sq) := by
  intro i
  induction i with
  | zero =>
    intro _
    refine ⟨?_, ?_⟩
    · show Bn _ ((sq : Int) : Rat).num.natAbs
      rw [Rat.num_intCast]; exact lt_mono ok.sq (by omega)
    · show Bn _ ((sq : Int) : Rat).den
      rw [Rat.den_intCast]; exact one_pos (k := 46 + 60 * 0) (by decide)
  | succ i ih =>
    intro hi
    have e : gs[i]? = some gs[i] := List.getElem?_eq_getElem hi
    rw [take_fold e]
    obtain ⟨h1, h2, h3⟩ := ok.ne _ (List.getElem_mem hi)
    exact (pureF_sz (ih (by omega)) h1 h2 h3).mono (by omega)
theorem okGs {m : ModD} (h : OkM m) : GsOk ((groupsM m).map Prod.snd) (dotI m.resp m.resp) := by
  obtain ⟨h1, h2, h3⟩ := groupsUp_sz (a := m.rows) (b := m.resp) (p := fun z => Bn 20 z.natAbs) h.by_ m.rows.length
  have h24 := h.r24
  refine ⟨by rw [List.length_map]; exact Nat.le_trans h1 h24, fun ys hy => ?_, ?_⟩
  · obtain ⟨g, hg, rfl⟩ := List.mem_map.mp hy
    exact ⟨(h3 g hg).1, Nat.le_trans (h2 g hg) h24, (h3 g hg).2⟩
  · exact lt_mono (dot_bd (m := 5) h.by_ h.by_ (by rw [← h.rl]; omega)) (by decide)
theorem fr_int (z : Int) : Fr (z : Rat) = Lv [Iv z, Iv 1] := by
  unfold Fr
  rw [Rat.num_intCast, Rat.den_intCast]; rfl
section
variable {P : Program} {w : World} {K : PySem.W.Frag} {mg : Str → Option Value} {base : Heap} {n : Nm} (T : Txt K mg n)
include T
theorem ok_response_groups : FnOk P w K mg base CX0 1 (n.ad 23) (n.fd 23) ["model"] (spF (fun x : ModD => [ModV n x]) OkM (fun x => Lv (grVs (groupsM x)))) := by
  skip
  refine fn_ty T.f_response_groups sc_response_groups (fun _ => rfl) fun cdv Ar outer s H E' hr => ⟨_, (pss_cons (ps_set (i := 1) sc_response_groups.nd rfl (Or.inl rfl) pe_dnewT)
        (pss_cons (ps_for PassesOwn.never rfl (pi_zip (by rfl) T.b_zip (pa_cons (pe_fld (pv 0) rfl) (pa_cons (pe_fld (pv 0) rfl) pa_nil))) (pg_tup rfl (pgs_cons (pg_name (i := 2) sc_response_groups.nd rfl (Or.inl rfl)) (pgs_cons (pg_name (i := 3) sc_response_groups.nd rfl (Or.inl rfl)) pgs_nil))) (pss_one (ps_expr (pe_bm PySem.F.plainAttrs_list PySem.F.slot_list_append PySem.F.type_list_append mt_append (pe_bm PySem.F.plainAttrs_dict PySem.F.slot_dict_setdefault PySem.F.type_dict_setdefault (mt_dsetdT (Nat.lt_of_le_of_lt (Nat.add_le_add_left (by decide) _) hr.units)) (pv 1) (pa_cons (pe_callTy call_tuple_of (by rfl) T.b_tuple (by decide +kernel) (pa_cons (pv 2) pa_nil)) (pa_cons (pe_lst pa_nil) pa_nil))) (pa_cons (pv 3) pa_nil)))))
        (pss_one (ps_ret (pe_listVals rfl rfl T.b_list (pv 1)))))), ?_⟩
  intro m ok
  have gz := fun i => groupsUp_sz (a := m.rows) (b := m.resp) (p := fun z => Bn 20 z.natAbs) ok.by_ i
  have h24 := ok.r24
  have hrl := ok.rl
  refine s_seq (G1 := [im (ModV n m), grp [], any, any]) ?_ ?_
  · intro F0 H0 D s F H a k r
    match s, a with
    | [v0, v1, v2, v3], ⟨g, h0, _⟩ =>
      intro d hd
      exact k _ F _ ⟨g.move (g.h.free hd) (g.i.free hd), h0, ⟨d, [], rfl, g.h.free hd, g.i.free hd, upd_same, trivial⟩, trivial, trivial, trivial⟩
  refine q_for (s_forZ (f := Li) (g := Iv) (a := m.rows) (b := m.resp) (fun i => [im (ModV n m), grp (groupsUp m.rows m.resp i), any, any]) (a_cons (e_fld T.cl_Model T.n_Model_rows (e_var rfl) rfl) (a_cons (e_fld T.cl_Model T.n_Model_responses (e_var rfl) rfl) a_nil)) sub_refl fun i x y hx hy => ?_) ?_
  · rw [groupsUp_succ hx hy]
    have hi : i < m.rows.length := (List.getElem?_eq_some_iff.mp hx).1
    obtain ⟨z1, z2, _⟩ := gz i
    exact s_grp (by omega) fun g hg => by have := z2 g hg; omega
  · have e : min m.rows.length m.resp.length = m.rows.length := by omega
    rw [e]
    exact s_grF (s_ret (E.of (el_listVals rfl)))
theorem ok_pure_error : FnOk P w K mg base CX0 4 (n.ad 24) (n.fd 24) ["groups", "response_squares"] (spF (fun x : List (List Int) × Int => [Mx x.1, Iv x.2]) (fun x => GsOk x.1 x.2) (fun x => Fr (pureQ x.1 x.2))) := by
  have G_difference := ok_difference (P := P) (w := w) (base := base) T
  refine fn_ty T.f_pure_error sc_pure_error (fun _ => rfl) fun cdv Ar outer s H E' hr => ⟨_, (pss_cons (ps_set (i := 2) sc_pure_error.nd rfl (Or.inl rfl) (pe_lst (pa_cons (pv 1) (pa_cons pe_int pa_nil))))
        (pss_cons (ps_for PassesOwn.never rfl (pi_list (pv 0)) (pg_name (i := 3) sc_pure_error.nd rfl (Or.inl rfl)) (pss_one (ps_set (i := 2) sc_pure_error.nd rfl (Or.inl rfl) (pe_call G_difference hr rfl T.g_difference T.f_difference.kp T.b_difference .nil pass0 (pa_cons (pv 2) (pa_cons (pe_lst (pa_cons (pe_op op_powW (pe_callB (cr_sum rfl) (by rfl) T.b_sum (by decide +kernel) (pa_cons (pv 3) pa_nil)) pe_int) (pa_cons (pe_callB call_len_seq (by rfl) T.b_len (by decide +kernel) (pa_cons (pv 3) pa_nil)) pa_nil))) pa_nil))))))
        (pss_one (ps_ret (pv 2))))), ?_⟩
  rintro ⟨gs, sq⟩ ok
  have ok : GsOk gs sq := ok
  refine q_asg (P := Fr (pureQ (gs.take 0) sq)) (E.eq (E.of (el_lst (a_cons (e_var rfl) (a_cons (e_int _) a_nil)))) (fr_int sq).symm) ?_
  refine q_for (s_forM (f := Li) (l := gs) (fun i => [im (Mx gs), im (Iv sq), im (Fr (pureQ (gs.take i) sq)), any]) (e_var rfl) (by decreasing_trivial) fun i x hx => ?_) ?_
  · rw [take_fold hx]
    have hi : i < gs.length := (List.getElem?_eq_some_iff.mp hx).1
    obtain ⟨h1, h2, h3⟩ := ok.ne x (List.mem_of_getElem? hx)
    have hl := ok.hl
    have sz := (pureQ_sz ok i (by omega)).mono (l := 2000) (by omega)
    have hs : Bn 25 x.sum.natAbs := sum_bd (m := 5) h3 (by omega)
    have hn : Bn 5 ((x.length : Nat) : Int).natAbs := by
      show x.length < 32
      omega
    have l0 : ((x.length : Nat) : Int) ≠ 0 := by
      have := List.length_pos_iff.mpr h1
      omega
    refine s_sub (s_asg (P := Fr (pureF (pureQ (gs.take i) sq) x)) (E.eq (e_call (PQ.mk (pureQ (gs.take i) sq).num ((pureQ (gs.take i) sq).den : Nat) (x.sum * x.sum) (x.length : Nat)) ⟨den_ne0 _, l0, lt_mono sz.1 (by decide), lt_mono sz.2 (by decide), lt_mono (lt_mul hs hs) (by decide), lt_mono hn (by decide)⟩ (a_cons (e_var rfl) (a_cons (E.of (el_lst (a_cons (e_pow2 (pow2_ok hs (by decide) (by decide)) (e_sum (a_cons (e_var rfl) a_nil)) (e_int _)) (a_cons (e_lenM (a_cons (e_var rfl) a_nil)) a_nil)))) a_nil))) ?_)) (by decreasing_trivial)
    show Fr _ = Fr _
    rw [self_eq]; rfl
  · rw [List.take_length]
    exact s_ret (e_var rfl)
theorem ok_lack_of_fit : FnOk P w K mg base CX0 10 (n.ad 25) (n.fd 25) ["model", "arguments"] (spF (fun x : ModD => [ModV n x, ArgV [] []]) OkM (fun x => Li (aLack x))) := by
  have G_Fit_residual_sum := ok_Fit_residual_sum (P := P) (w := w) (base := base) T
  have G_Model_fit := ok_Model_fit (P := P) (w := w) (base := base) T
  have G_difference := ok_difference (P := P) (w := w) (base := base) T
  have G_pure_error := ok_pure_error (P := P) (w := w) (base := base) T
  have G_response_groups := ok_response_groups (P := P) (w := w) (base := base) T
  refine fn_ty T.f_lack_of_fit sc_lack_of_fit (fun _ => rfl) fun cdv Ar outer s H E' hr => ⟨_, (pss_cons (ps_set (i := 2) sc_lack_of_fit.nd rfl (Or.inl rfl) (pe_meth0 (pv 0) T.cl_Model T.m_Model_fit G_Model_fit hr T.b_Model_fit .nil pass0))
        (pss_cons (ps_set (i := 3) sc_lack_of_fit.nd rfl (Or.inl rfl) (pe_call G_response_groups (hr.mono (by decide)) rfl T.g_response_groups T.f_response_groups.kp T.b_response_groups .nil pass0 (pa_cons (pv 0) pa_nil)))
        (pss_cons (ps_set (i := 4) sc_lack_of_fit.nd rfl (Or.inl rfl) (pe_call G_pure_error (hr.mono (by decide)) rfl T.g_pure_error T.f_pure_error.kp T.b_pure_error .nil pass0 (pa_cons (pv 3) (pa_cons (pe_fld (pv 2) rfl) pa_nil))))
        (pss_cons (ps_set (i := 5) sc_lack_of_fit.nd rfl (Or.inl rfl) (pe_op op_sub (pe_callB call_len_seq (by rfl) T.b_len (by decide +kernel) (pa_cons (pe_fld (pv 0) rfl) pa_nil)) (pe_callB call_len_seq (by rfl) T.b_len (by decide +kernel) (pa_cons (pv 3) pa_nil))))
        (pss_cons (ps_set (i := 6) sc_lack_of_fit.nd rfl (Or.inl rfl) (pe_call G_difference (hr.mono (by decide)) rfl T.g_difference T.f_difference.kp T.b_difference .nil pass0 (pa_cons (pe_meth0 (pv 2) T.cl_Fit T.m_Fit_residual_sum G_Fit_residual_sum (hr.mono (by decide)) T.b_Fit_residual_sum .nil pass0) (pa_cons (pv 4) pa_nil))))
        (pss_one (ps_ret (pe_op op_cat (pe_op op_cat (pe_op op_cat (pe_lst (pa_cons (pe_op op_sub (pe_fld (pv 2) rfl) (pv 5)) pa_nil)) (pv 6)) (pe_lst (pa_cons (pv 5) pa_nil))) (pv 4))))))))), ?_⟩
  intro m ok
  have fo := (okFit ok).ok
  have rz : Sz 1220 (fitM m).rss := fo.rss_sz
  have og := okGs ok
  have pz : Sz 2000 (pureM m) := by
    have h1 := pureQ_sz og ((groupsM m).map Prod.snd).length (Nat.le_refl _)
    rw [List.take_length] at h1
    exact h1.mono (by have := og.hl; omega)
  refine q_asg (P := FitV n (fitM m)) (e_meth (m, solM m) (okFit ok) (e_var rfl) rfl a_nil rfl) ?_
  refine q_asg (P := Mx ((groupsM m).map Prod.snd)) (E.eq (e_call m ok (a_cons (e_var rfl) a_nil)) (by unfold grVs Mx; rw [List.map_map]; rfl)) ?_
  refine q_asg (P := Fr (pureM m)) (e_call ((groupsM m).map Prod.snd, dotI m.resp m.resp) og (a_cons (e_var rfl) (a_cons (e_fld T.cl_Fit T.n_Fit_response_squares (e_var rfl) rfl) a_nil))) ?_
  refine q_asg (P := Iv (pureD m)) (E.eq (e_sub (e_lenM (a_cons (e_fld T.cl_Model T.n_Model_rows (e_var rfl) rfl) a_nil)) (e_lenM (a_cons (e_var rfl) a_nil))) (by unfold pureD; rw [List.length_map])) ?_
  refine q_asg (P := Fr ((fitM m).rss - pureM m)) (E.eq (e_call (PQ.mk (fitM m).rss.num ((fitM m).rss.den : Nat) (pureM m).num ((pureM m).den : Nat)) ⟨den_ne0 _, den_ne0 _, lt_mono rz.1 (by decide), lt_mono rz.2 (by decide), lt_mono pz.1 (by decide), lt_mono pz.2 (by decide)⟩ (a_cons (e_meth (fitM m) fo (e_var rfl) rfl a_nil rfl) (a_cons (e_var rfl) a_nil))) (by show Fr _ = Fr _; rw [self_eq, self_eq])) ?_
  refine s_ret (E.eq (E.of (el_cat (E.of (el_cat (E.of (el_cat (E.of (el_lst (a_cons (e_sub (e_fld T.cl_Fit T.n_Fit_freedom (e_var rfl) rfl) (e_var rfl)) a_nil))) (e_var rfl) ?_)) (E.of (el_lst (a_cons (e_var rfl) a_nil))) ?_)) (e_var rfl) ?_)) rfl)
  · exact Nat.le_of_ble_eq_true rfl
  · exact Nat.le_of_ble_eq_true rfl
  · exact Nat.le_of_ble_eq_true rfl
end
end Lf
end
section
set_option Elab.async false
set_option linter.all false
set_option maxRecDepth 100000
set_option maxHeartbeats 2000000
local macro_rules | `(tactic| decreasing_trivial) => `(tactic| ((repeat (first | exact Ty.st_nil | apply Ty.st_im | apply Ty.st_any | apply Ty.se_0 | apply Ty.se_im | apply Ty.se_any | exact Ty.pu_nil | apply Ty.pu_im | apply Ty.pu_any | apply Ty.pe_0 | apply Ty.pe_imE | apply Ty.pe_anyE | exact Ty.sub_nil | apply Ty.sub_cons | apply Ty.sub_any)); done))
namespace Lf
open PySem PySem.Spec PyProof.Rows L2 Ty NB
theorem restM_ok {n : Nat} {M : List (List Int)} (h : SqB (n + 1) M) {i : Nat} (hi : i < n + 1) : SqB n (restM M i) := by
  refine ⟨by unfold restM; rw [List.length_map, List.length_drop, h.1]; rfl, fun r hr => ?_⟩
  obtain ⟨q, hq, rfl⟩ := List.mem_map.mp hr
  obtain ⟨h1, h2⟩ := h.2 q (List.mem_of_mem_drop hq)
  refine ⟨by rw [List.length_eraseIdx, if_pos (by omega)]; omega, fun z hz => h2 z (List.mem_of_mem_eraseIdx hz)⟩
theorem sg_abs : ∀ i, (sg i).natAbs = 1
  | 0 => rfl
  | i + 1 => by show (- sg i).natAbs = 1; rw [Int.natAbs_neg, sg_abs i]
theorem row0 {n : Nat} {M : List (List Int)} (h : SqB (n + 1) M) : (M.getD 0 []).length = n + 1 ∧ Bd 30 (M.getD 0 []) := h.2 _ (Ty.getD_mem (by rw [h.1]; omega))
theorem detS_bd {n : Nat} (hn : n ≤ 3) {M : List (List Int)} (h : SqB (n + 1) M) {f : List (List Int) → Int} (hf : ∀ N, SqB n N → Bn (40 * n + 2) (f N).natAbs) : ∀ i, i ≤ n + 1 → (detS f M i).natAbs ≤ i * 2 ^ (40 * n + 32)
  | 0, _ => by simp [detS]
  | i + 1, hi => by
    have ih := detS_bd hn h hf i (by omega)
    obtain ⟨r1, r2⟩ := row0 h
    have b1 : Bn 30 ((M.getD 0 []).getD i 0).natAbs := r2 _ (Ty.getD_mem (by omega))
    have b2 := lt_mul b1 (hf _ (restM_ok h (i := i) (by omega)))
    have e : (sg i * (M.getD 0 []).getD i 0 * f (restM M i)).natAbs = ((M.getD 0 []).getD i 0 * f (restM M i)).natAbs := by
      rw [Int.mul_assoc, Int.natAbs_mul, sg_abs, Nat.one_mul]
    have h3 := Int.natAbs_add_le (detS f M i) (sg i * (M.getD 0 []).getD i 0 * f (restM M i))
    show (detS f M i + sg i * (M.getD 0 []).getD i 0 * f (restM M i)).natAbs ≤ _
    rw [e] at h3
    have b2 : ((M.getD 0 []).getD i 0 * f (restM M i)).natAbs < 2 ^ (40 * n + 32) := by
      have : 30 + (40 * n + 2) = 40 * n + 32 := by omega
      rw [← this]; exact b2
    rw [Nat.add_mul, Nat.one_mul]
    omega
theorem detI_bd : ∀ n, n ≤ 4 → ∀ M, SqB n M → Bn (40 * n + 2) (detI n M).natAbs
  | 0, _, _, _ => by show (1 : Int).natAbs < 2 ^ 2; decide
  | n + 1, hn, M, h => by
    have := detS_bd (n := n) (by omega) h (f := detI n) (detI_bd n (by omega)) (n + 1) (Nat.le_refl _)
    show (detS (detI n) M (n + 1)).natAbs < 2 ^ (40 * (n + 1) + 2)
    have e : 40 * (n + 1) + 2 = (40 * n + 32) + 10 := by omega
    rw [e, Nat.pow_add]
    have h2 : (n + 1) * 2 ^ (40 * n + 32) ≤ 5 * 2 ^ (40 * n + 32) := Nat.mul_le_mul_right _ (by omega)
    have h3 := Nat.two_pow_pos (40 * n + 32)
    have h4 : (2 : Nat) ^ 10 = 1024 := rfl
    rw [h4]
    omega
theorem sl_from1 {α : Type} {f : α → VP} {l : List α} (h : 1 ≤ l.length) : ((l.map f).drop (HT.sIx (l.map f).length 0 (some ((1 : Nat) : Int)))).take (HT.sIx (l.map f).length (l.map f).length none - HT.sIx (l.map f).length 0 (some ((1 : Nat) : Int))) = (l.drop 1).map f := by
  rw [HT.sIx_nat, HT.sIx_none, List.length_map, Nat.min_eq_left h, List.take_of_length_le (by rw [List.length_drop, List.length_map]; omega), List.map_drop]
theorem sl_to {α : Type} {f : α → VP} {l : List α} {k : Nat} : ((l.map f).drop (HT.sIx (l.map f).length 0 none)).take (HT.sIx (l.map f).length (l.map f).length (some (k : Int)) - HT.sIx (l.map f).length 0 none) = (l.take k).map f := by
  rw [HT.sIx_nat, HT.sIx_none, List.length_map, List.drop_zero, Nat.sub_zero, List.map_take]
  by_cases h : k ≤ l.length
  · rw [Nat.min_eq_left h]
  · rw [Nat.min_eq_right (by omega), List.take_of_length_le (by rw [List.length_map]; omega), List.take_of_length_le (by rw [List.length_map]; omega)]
theorem stp_map {α β : Type} (f : α → β) : ∀ l : List α, evens (l.map f) = (evens l).map f
  | [] => rfl
  | [_] => rfl
  | _ :: _ :: l => by show _ :: evens (l.map f) = _; rw [stp_map f l]; rfl
theorem stp_mapO {α β : Type} (f : α → β) (o : Option Int) (l : List α) : stp o (l.map f) = (stp o l).map f := by
  unfold stp
  split
  · exact stp_map f l
  · rw [← List.map_tail]; exact stp_map f _
theorem evens_le {α : Type} : ∀ l : List α, (evens l).length ≤ l.length
  | [] => Nat.le_refl _
  | [_] => Nat.le_refl _
  | _ :: _ :: l => by show (evens l).length + 1 ≤ l.length + 2; have := evens_le l; omega
theorem stp_le {α : Type} (o : Option Int) (l : List α) : (stp o l).length ≤ l.length := by
  unfold stp
  split
  · exact evens_le l
  · exact Nat.le_trans (evens_le _) (by simp)
section
variable {P : Program} {w : World} {K : PySem.W.Frag} {mg : Str → Option Value} {base : Heap} {n : Nm} (T : Txt K mg n)
include T
theorem det_ok : ∀ k, k ≤ 4 → FnOk P w K mg base CX0 k (n.ad 14) (n.fd 14) ["matrix"] (spF (fun M : List (List Int) => [Mx M]) (fun M => M.length < k ∧ SqB M.length M) (fun M => Iv (detI M.length M)))
  | 0, _ => ⟨fun _ _ _ _ ⟨_, _, h, _⟩ => absurd h.1 (Nat.not_lt_zero _), fun _ _ _ _ _ _ _ _ _ _ _ _ _ ⟨_, _, h, _⟩ => absurd h.1 (Nat.not_lt_zero _)⟩
  | k + 1, hk => by
    have G_determinant := det_ok k (by omega)
    refine fn_ty T.f_determinant sc_determinant (fun _ => rfl) fun cdv Ar outer s H E' hr => ⟨_, (pss_cons (ps_if (pt_cmpR op_eq (pe_callB call_len_seq (by rfl) T.b_len (by decide +kernel) (pa_cons (pv 0) pa_nil)) pe_int (nomark _)) (pss_one (ps_ret pe_int)) pss_nil)
        (pss_cons (ps_set (i := 1) sc_determinant.nd rfl (Or.inl rfl) pe_int)
        (pss_cons (ps_set (i := 2) sc_determinant.nd rfl (Or.inl rfl) pe_int)
        (pss_cons (ps_for PassesOwn.never rfl (pi_enum (by rfl) T.b_enumerate (pa_cons (pe_ix ix_list (pv 0) pe_int (fun _ _ => rfl)) pa_nil)) (pg_tup rfl (pgs_cons (pg_name (i := 3) sc_determinant.nd rfl (Or.inr rfl)) (pgs_cons (pg_name (i := 4) sc_determinant.nd rfl (Or.inl rfl)) pgs_nil))) (pss_cons (ps_setLc (i := 5) (own := [("row", 6)]) (g := (gName 6)) (tt := tYes) (te := (tOp rCat (tSl (rSlL K) (tVar 6) tNoPart (tPart (tVar 3))) (tSl (rSlL K) (tVar 6) (tPart (tOp (rI0 fun i j => .int (i + j)) (tVar 3) (tC (.int 1)))) tNoPart))) rfl sc_determinant.nd rfl rfl (sw_true rfl rfl rfl (by decide +kernel)) (pi_list (pe_slice sl_list (pv 0) (po_some pe_int) po_none)) (blkOk_by (N := ["matrix", "whole", "sign", "place", "entry", "rest", "row"]) (sc := defScope st_determinant) (by decide +kernel)) (fun _ _ _ _ _ => (pg_name (i := 6) sc_determinant.nd rfl (Or.inl rfl))) (fun _ _ _ _ _ => pts_nil) (fun _ _ _ _ _ => (pe_op op_cat (pe_slice sl_list (pv 6) po_none (po_some (pv 3))) (pe_slice sl_list (pv 6) (po_some (pe_op op_add (pv 3) pe_int)) po_none))))
        (pss_cons (ps_aug (i := 1) sc_determinant.nd rfl (Or.inl rfl) (pe_op op_mulW (pe_op op_mulW (pv 2) (pv 4)) (pe_call G_determinant hr rfl T.g_determinant T.f_determinant.kp T.b_determinant .nil pass0 (pa_cons (pv 5) pa_nil))) ip_add)
        (pss_one (ps_set (i := 2) sc_determinant.nd rfl (Or.inl rfl) (pe_un un_neg (pv 2)))))))
        (pss_one (ps_ret (pv 1))))))), ?_⟩
    rintro M ⟨hl, sq⟩
    refine q_if (t_test (e_eq (e_lenM (a_cons (e_var rfl) a_nil)) (e_int _))) (fun h => ?_) (fun h => ?_)
    · have h : M.length = 0 := by simpa using h
      rw [h]
      exact q_ret (e_int 1)
    · have h : ¬ M.length = 0 := by simpa using h
      obtain ⟨d, hd⟩ : ∃ d, M.length = d + 1 := ⟨M.length - 1, by omega⟩
      rw [hd] at sq hl ⊢
      obtain ⟨r1, r2⟩ := row0 sq
      refine q_next (q_asg (P := Iv (detS (detI d) M 0)) (e_int 0) ?_)
      refine q_asg (P := Iv (sg 0)) (e_int 1) ?_
      refine q_for (s_forE (f := Iv) (l := M.getD 0 []) (fun i => [im (Mx M), im (Iv (detS (detI d) M i)), im (Iv (sg i)), any, any, any, any]) (a_cons (e_ixL (e_var rfl) (e_intN 0) (ix_map [] (by omega))) a_nil) (by decreasing_trivial) fun i x hx => ?_) ?_
      · have hi : i < (M.getD 0 []).length := (List.getElem?_eq_some_iff.mp hx).1
        have ex : (M.getD 0 []).getD i 0 = x := by rw [List.getD_eq_getElem?_getD, hx]; rfl
        have so := restM_ok sq (i := i) (by omega)
        have bx : Bn 30 x.natAbs := r2 x (List.mem_of_getElem? hx)
        have bs : Bn 1 (sg i).natAbs := by rw [sg_abs]; exact (by decide : (1 : Nat) < 2 ^ 1)
        have bd := detI_bd d (by omega) _ so
        refine q_asg (P := Mx (restM M i)) (E.of (EL.eq (el_mapM (f := Li) (h := fun row => Li (row.eraseIdx i)) (l := M.drop 1) (E.of (EL.eq (el_slice (e_var rfl) (po_so (e_intN 1)) po_no) (sl_from1 (by omega)))) (by rw [List.length_drop]; omega) (by simp) fun row hrow => ?_) (by unfold restM; rw [List.map_map]; rfl))) ?_
        · have hrl := (sq.2 row (List.mem_of_mem_drop hrow)).1
          refine E.eq (E.of (el_cat (E.of (el_slice (e_var rfl) po_no (po_so (e_var rfl)))) (E.of (el_slice (e_var rfl) (po_so (e_add (e_var rfl) (e_int _))) po_no)) ?_)) (congrArg Lv (erase_map Iv row i (by omega)))
          simp only [List.length_take, List.length_drop, List.length_map]; omega
        refine q_aug (f := fun i j => i + j) (m := detS (detI d) M i) (n := sg i * x * detI d (restM M i)) rfl (E.eq (e_mul (mulW_ok (a := 31) (b := 162) (lt_mono (lt_mul bs bx) (by decide)) (lt_mono bd (by omega)) (by decide) (by decide) (by decide)) (e_mul (mulW_ok bs bx (by decide) (by decide) (by decide)) (e_var rfl) (e_var rfl)) (E.eq (e_call (restM M i) ⟨by rw [so.1]; omega, by rw [so.1]; exact so⟩ (a_cons (e_var rfl) a_nil)) (by rw [so.1]))) rfl) ?_
        refine s_sub (s_asg (P := Iv (sg (i + 1))) (e_neg (e_var rfl))) ?_
        rw [← ex]
        exact sub_cons (sub_cons (sub_cons (sub_any (sub_any (sub_any (sub_any sub_nil))))))
      · rw [r1]
        exact s_ret (e_var rfl)
theorem ok_determinant : FnOk P w K mg base CX0 6 (n.ad 14) (n.fd 14) ["matrix"] (spF (fun M : List (List Int) => [Mx M]) (fun M => M.length < 4 ∧ SqB M.length M) (fun M => Iv (detI M.length M))) := (det_ok T 4 (Nat.le_refl _)).mono (by decide)
theorem ok_leading_minors : FnOk P w K mg base CX0 7 (n.ad 75) (n.fd 75) ["matrix"] (spF (fun M : List (List Int) => [Mx M]) (fun M => M.length < 4 ∧ SqB M.length M) (fun M => Li (minorsI M))) := by
  have G_determinant := ok_determinant (P := P) (w := w) (base := base) T
  refine fn_ty T.f_leading_minors sc_leading_minors (fun _ => rfl) fun cdv Ar outer s H E' hr => ⟨_, (pss_one (ps_ret (pe_lc (own := [("size", 1)]) (g := (gName 1)) (tt := tYes) (te := (tCall _ [] E0 (tCons (tLc (iList K (tSl (rSlL K) (tVar 0) tNoPart (tPart (tVar 1)))) (gName 2) tYes (tSl (rSlL K) (tVar 2) tNoPart (tPart (tVar 1))) [2]) tNil))) rfl sc_leading_minors.nd (pi_range2 rfl T.b_range (pa_cons pe_int (pa_cons (pe_op op_add (pe_callB call_len_seq (by rfl) T.b_len (by decide +kernel) (pa_cons (pv 0) pa_nil)) pe_int) pa_nil))) (blkOk_by (N := ["matrix", "size", "row"]) (sc := defScope st_leading_minors) (by decide +kernel)) (fun _ _ _ _ _ => (pg_name (i := 1) sc_leading_minors.nd rfl (Or.inr rfl))) (fun _ _ _ _ _ => pts_nil) (fun _ _ _ _ _ => (pe_call G_determinant hr rfl T.g_determinant T.f_determinant.kp T.b_determinant .nil pass0 (pa_cons (pe_lc (own := [("row", 2)]) (g := (gName 2)) (tt := tYes) (te := (tSl (rSlL K) (tVar 2) tNoPart (tPart (tVar 1)))) rfl sc_leading_minors.nd (pi_list (pe_slice sl_list (pv 0) po_none (po_some (pv 1)))) (blkOk_by (N := ["matrix", "size", "row"]) (sc := relS (lcS (retV ((defBody st_leading_minors).getD 0 (.Pass ⟨0, 0, 0, 0⟩)))) (defScope st_leading_minors)) (by decide +kernel)) (fun _ _ _ _ _ => (pg_name (i := 2) sc_leading_minors.nd rfl (Or.inl rfl))) (fun _ _ _ _ _ => pts_nil) (fun _ _ _ _ _ => (pe_slice sl_list (pv 2) po_none (po_some (pv 1))))) pa_nil)))))), ?_⟩
  rintro M ⟨hl, sq⟩
  have hl : M.length < 4 := hl
  have sq : SqB M.length M := sq
  refine s_ret (E.of (EL.eq (el_map (n := M.length) (Ps := fun i => Iv ((i + 1 : Nat) : Int)) (Qs := fun i => Iv (detI (i + 1) (minorM M (i + 1)))) ((w_rng2 (m := 1) (n := (M.length : Int) + 1) (a_cons (e_int 1) (a_cons (e_add (e_lenM (a_cons (e_var rfl) a_nil)) (e_int 1)) a_nil)) (by omega)).eq (by omega) fun i hi => by congr 1; omega) (by omega) (fun i _ => tg_name (by simp)) fun i hi => ?_) (by unfold minorsI; rw [List.map_map]; rfl)))
  have h1 : (minorM M (i + 1)).length = i + 1 := by unfold minorM; rw [List.length_map, List.length_take]; omega
  have h2 : SqB (i + 1) (minorM M (i + 1)) := ⟨h1, fun r hr => by
    obtain ⟨q, hq, rfl⟩ := List.mem_map.mp hr
    obtain ⟨g1, g2⟩ := sq.2 q (List.mem_of_mem_take hq)
    exact ⟨by rw [List.length_take]; omega, fun z hz => g2 z (List.mem_of_mem_take hz)⟩⟩
  refine E.eq (e_call (minorM M (i + 1)) ⟨by omega, by rw [h1]; exact h2⟩ (a_cons (E.of (EL.eq (el_mapM (f := Li) (h := fun row => Li (row.take (i + 1))) (l := M.take (i + 1)) (E.of (EL.eq (el_slice (e_var rfl) po_no (po_so (e_var rfl))) sl_to)) (by rw [List.length_take]; omega) (by simp) fun row hrow => ?_) (by unfold minorM; rw [List.map_map]; rfl))) a_nil)) (by rw [h1])
  exact E.of (EL.eq (el_slice (e_var rfl) po_no (po_so (e_var rfl))) sl_to)
theorem ok_kind_of : FnOk P w K mg base CX0 1 (n.ad 76) (n.fd 76) ["minors"] (spF (fun ms : List Int => [Li ms]) (fun ms => ms.length ≤ 3) (fun ms => Iv (kindI ms))) := by
  skip
  refine fn_ty T.f_kind_of sc_kind_of (fun _ => rfl) fun cdv Ar outer s H E' hr => ⟨_, (pss_cons (ps_if (pt_val (pe_callB (cr_all rfl) (by rfl) T.b_all (by decide +kernel) (pa_cons (pe_lc (own := [("minor", 1)]) (g := (gName 1)) (tt := tYes) (te := (tOp (rI0 fun i j => .bl (decide (j < i))) (tVar 1) (tC (.int 0)))) rfl sc_kind_of.nd (pi_list (pv 0)) (blkOk_by (N := ["minors", "minor"]) (sc := defScope st_kind_of) (by decide +kernel)) (fun _ _ _ _ _ => (pg_name (i := 1) sc_kind_of.nd rfl (Or.inl rfl))) (fun _ _ _ _ _ => pts_nil) (fun _ _ _ _ _ => (pe_cmpR op_gt (pv 1) pe_int (nomark _)))) pa_nil))) (pss_one (ps_ret (pe_cst rfl T.g_MINIMUM))) pss_nil)
        (pss_cons (ps_if (PW.pt (pw_and (pt_val (pe_callB (cr_all rfl) (by rfl) T.b_all (by decide +kernel) (pa_cons (pe_lc (own := [("minor", 1)]) (g := (gName 1)) (tt := tYes) (te := (tOp (rI0 fun i j => .bl (decide (j < i))) (tVar 1) (tC (.int 0)))) rfl sc_kind_of.nd (pi_list (pe_step2 (pv 0) (po_some pe_int))) (blkOk_by (N := ["minors", "minor"]) (sc := defScope st_kind_of) (by decide +kernel)) (fun _ _ _ _ _ => (pg_name (i := 1) sc_kind_of.nd rfl (Or.inl rfl))) (fun _ _ _ _ _ => pts_nil) (fun _ _ _ _ _ => (pe_cmpR op_gt (pv 1) pe_int (nomark _)))) pa_nil))) (pw_and1 (pt_val (pe_callB (cr_all rfl) (by rfl) T.b_all (by decide +kernel) (pa_cons (pe_lc (own := [("minor", 1)]) (g := (gName 1)) (tt := tYes) (te := (tOp (rI0 fun i j => .bl (decide (i < j))) (tVar 1) (tC (.int 0)))) rfl sc_kind_of.nd (pi_list (pe_step2 (pv 0) po_none)) (blkOk_by (N := ["minors", "minor"]) (sc := defScope st_kind_of) (by decide +kernel)) (fun _ _ _ _ _ => (pg_name (i := 1) sc_kind_of.nd rfl (Or.inl rfl))) (fun _ _ _ _ _ => pts_nil) (fun _ _ _ _ _ => (pe_cmpR op_lt (pv 1) pe_int (nomark _)))) pa_nil)))))) (pss_one (ps_ret (pe_cst rfl T.g_MAXIMUM))) pss_nil)
        (pss_one (ps_ret (pe_cst rfl T.g_SADDLE))))), ?_⟩
  intro ms hl
  have hl : ms.length ≤ 3 := hl
  refine q_if (b := ms.all fun z => decide (0 < z)) (t_val (E.eq (e_all (ns := ms.map fun z => decide (0 < z)) (a_cons (E.of (EL.eq (el_mapM (f := Iv) (h := fun z => Bv (decide (0 < z))) (l := ms) (e_var rfl) (by omega) (by simp) fun z hz => ?_) (by rw [List.map_map]; rfl))) a_nil)) (by rw [List.all_map]; rfl))) (fun h => ?_) (fun h => ?_)
  · exact (e_gt (e_var rfl) (e_int _))
  · refine q_ret (E.eq (e_int _) ?_)
    unfold kindI
    rw [if_pos h]
  · refine q_next (q_if (b := (stp (some 1) ms).all (fun z => decide (0 < z)) && (stp none ms).all (fun z => decide (z < 0))) (t_and (t_val (E.eq (e_all (ns := (stp (some 1) ms).map fun z => decide (0 < z)) (a_cons (E.of (EL.eq (el_mapM (f := Iv) (h := fun z => Bv (decide (0 < z))) (l := stp (some 1) ms) (E.of (EL.eq (el_stp (e_var rfl) (po_so (e_int 1)) (.inr rfl) (by rw [List.length_map]; exact hl)) (stp_mapO _ _ _))) (by have := stp_le (some 1) ms; omega) (by simp) fun z hz => ?_) (by rw [List.map_map]; rfl))) a_nil)) (by rw [List.all_map]; rfl))) fun _ => t_val (E.eq (e_all (ns := (stp none ms).map fun z => decide (z < 0)) (a_cons (E.of (EL.eq (el_mapM (f := Iv) (h := fun z => Bv (decide (z < 0))) (l := stp none ms) (E.of (EL.eq (el_stp (e_var rfl) po_no (.inl rfl) (by rw [List.length_map]; exact hl)) (stp_mapO _ _ _))) (by have := stp_le none ms; omega) (by simp) fun z hz => ?_) (by rw [List.map_map]; rfl))) a_nil)) (by rw [List.all_map]; rfl))) (fun h2 => ?_) (fun h2 => ?_))
    · exact (e_gt (e_var rfl) (e_int _))
    · exact (e_lt (e_var rfl) (e_int _))
    · refine q_ret (E.eq (e_int _) ?_)
      unfold kindI
      rw [if_neg (by rw [h]; exact Bool.false_ne_true), if_pos h2]
    · refine q_next (s_ret (E.eq (e_int _) ?_))
      unfold kindI
      rw [if_neg (by rw [h]; exact Bool.false_ne_true), if_neg (by rw [h2]; exact Bool.false_ne_true)]
theorem ok_is_surface : FnOk P w K mg base CX0 2 (n.ad 73) (n.fd 73) ["variables", "constant", "linear", "quadratic"] (spF (fun x : Nat × Int × List Int × List Int => [Iv (x.1 : Nat), Iv x.2.1, Li x.2.2.1, Li x.2.2.2]) (fun x => x.2.2.1.length ≤ 100 ∧ x.2.2.2.length ≤ 100) (fun x => Bv (isSurf x.1 x.2.1 x.2.2.1 x.2.2.2))) := by
  have G_all_within := ok_all_within (P := P) (w := w) (base := base) T
  refine fn_ty T.f_is_surface sc_is_surface (fun _ => rfl) fun cdv Ar outer s H E' hr => ⟨_, (pss_cons (ps_if (PW.pt (pw_or (pt_cmpR op_lt (pv 0) pe_int (nomark _)) (pw_or1 (pt_cmpR op_gt (pv 0) (pe_cst rfl T.g_MOST_VARIABLES) (nomark _))))) (pss_one (ps_ret pe_bl)) pss_nil)
        (pss_cons (ps_if (PW.pt (pw_or (pt_cmpR op_ne (pe_callB call_len_seq (by rfl) T.b_len (by decide +kernel) (pa_cons (pv 2) pa_nil)) (pv 0) (nomark _)) (pw_or1 (pt_cmpR op_ne (pe_callB call_len_seq (by rfl) T.b_len (by decide +kernel) (pa_cons (pv 3) pa_nil)) (pe_op op_fdivX (pe_op op_mulW (pv 0) (pe_op op_add (pv 0) pe_int)) pe_int) (nomark _))))) (pss_one (ps_ret pe_bl)) pss_nil)
        (pss_one (ps_ret (pe_call G_all_within hr rfl T.g_all_within T.f_all_within.kp T.b_all_within .nil pass0 (pa_cons (pe_op op_cat (pe_op op_cat (pe_lst (pa_cons (pv 1) pa_nil)) (pv 2)) (pv 3)) (pa_cons (pe_cst rfl T.g_LARGEST_NUMBER) pa_nil))))))), ?_⟩
  rintro ⟨k, c, l, q⟩ ⟨h1, h2⟩
  have h1 : l.length ≤ 100 := h1
  have h2 : q.length ≤ 100 := h2
  refine q_if (t_or (t_test (e_lt (e_var rfl) (e_int _))) fun _ => (t_test (e_gt (e_var rfl) (e_int _)))) (fun h => ?_) (fun h => ?_)
  · refine q_ret (E.eq (e_bl false) ?_)
    show Bv false = Bv (isSurf k c l q)
    unfold isSurf
    rw [if_pos h]
  · have hk : ¬ ((k : Int) < 1) ∧ ¬ ((3 : Int) < (k : Int)) := by simpa using h
    have kb : Bn 4 ((k : Nat) : Int).natAbs := by show k < 16; omega
    have kb1 : Bn 4 (((k : Nat) : Int) + 1).natAbs := by unfold Bn; omega
    refine q_next (q_if (t_or (t_test (e_ne (e_lenM (a_cons (e_var rfl) a_nil)) (e_var rfl))) fun _ => (t_test (e_ne (e_lenM (a_cons (e_var rfl) a_nil)) (e_fdivX ?_ (e_mul ?_ (e_var rfl) (e_add (e_var rfl) (e_int _))) (e_int _))))) (fun h3 => ?_) (fun h3 => ?_))
    · exact fdivX_ok (k := 9000) (show (2 : Int) ≠ 0 by decide) (lt_mono (k := 2) (show (2 : Nat) < 2 ^ 2 by decide) (by decide)) (by decide) (by decide)
    · exact mulW_ok kb kb1 (by decide) (by decide) (by decide)
    · refine q_ret (E.eq (e_bl false) ?_)
      show Bv false = Bv (isSurf k c l q)
      unfold isSurf
      rw [if_neg (by rw [h]; exact Bool.false_ne_true), if_pos h3]
    · refine q_next (s_ret (E.eq (e_call (c :: l ++ q, 1000000) ?_ (a_cons (E.of (EL.eq (el_cat (E.of (el_cat (E.of (el_lst (a_cons (e_var rfl) a_nil))) (e_var rfl) ?_)) (e_var rfl) ?_) ?_)) (a_cons (e_int _) a_nil))) ?_))
      · show (c :: l ++ q).length ≤ 1000
        simp only [List.length_append, List.length_cons]; omega
      · rw [List.length_map]; show 1 + l.length ≤ _; omega
      · rw [List.length_append, List.length_map, List.length_map]; show 1 + l.length + q.length ≤ _; omega
      · simp
      · show Bv (withinB (c :: l ++ q) 1000000) = Bv (isSurf k c l q)
        unfold isSurf
        rw [if_neg (by rw [h]; exact Bool.false_ne_true), if_neg (by rw [h3]; exact Bool.false_ne_true)]
end
end Lf
end
section
set_option Elab.async false
set_option linter.all false
set_option maxRecDepth 100000
set_option maxHeartbeats 2000000
local macro_rules | `(tactic| decreasing_trivial) => `(tactic| ((repeat (first | exact Ty.st_nil | apply Ty.st_im | apply Ty.st_any | apply Ty.se_0 | apply Ty.se_im | apply Ty.se_any | exact Ty.pu_nil | apply Ty.pu_im | apply Ty.pu_any | apply Ty.pe_0 | apply Ty.pe_imE | apply Ty.pe_anyE | exact Ty.sub_nil | apply Ty.sub_cons | apply Ty.sub_any)); done))
namespace Lf
open PySem PySem.Spec PyProof.Rows L2 Ty NB
/-! rows of the def's own -/
theorem last_map {l : List Int} (h : 0 < l.length) : (l.map Iv)[(l.map Iv).length - 1]? = some (Iv (l.getLastD 0)) := by
  rw [List.length_map, List.getElem?_map, List.getElem?_eq_getElem (by omega)]
  have : l.getLastD 0 = l[l.length - 1]'(by omega) := by
    rw [← List.getLast_eq_getElem (by intro q; rw [q] at h; simp at h)]
    cases l with
    | nil => simp at h
    | cons x l => rw [List.getLastD_cons, List.getLast_eq_getLastD]
  rw [this]; rfl
theorem flat_frl (z : List Int × Int) : (z.1.flatMap fun (x : Int) => [Iv ((x : Rat) / (z.2 : Rat)).num, Iv (((x : Rat) / (z.2 : Rat)).den : Nat)]).length = 2 * z.1.length := by
  generalize z.1 = l
  induction l with
  | nil => rfl
  | cons x l ih => rw [List.flatMap_cons, List.length_append, ih, List.length_cons]; simp only [List.length_cons, List.length_nil]; omega
def OwnR (H0 F H : Hp) : List V → List (List Int) → Prop
  | [], [] => True
  | x :: xs, m :: M => (∃ l, x = .ref l ∧ H0 l = none ∧ F l = none ∧ H l = some (.lst (m.map V.int))) ∧ x ∉ xs ∧ OwnR H0 F H xs M
  | _, _ => False
theorem OwnR.mono {H0 F H F' H' : Hp} (g : Gr F H F' H') : ∀ {xs : List V} {M : List (List Int)}, OwnR H0 F H xs M → OwnR H0 F' H' xs M
  | [], [], _ => trivial
  | _ :: _, _ :: _, ⟨⟨l, h2, h3, h4, h5⟩, h6, h7⟩ => ⟨⟨l, h2, h3, (g.o l (ne_none h5)).trans h4, g.h _ _ h5⟩, h6, OwnR.mono g h7⟩
  | [], _ :: _, h => h.elim
  | _ :: _, [], h => h.elim
theorem OwnR.length {H0 F H : Hp} : ∀ {xs : List V} {M : List (List Int)}, OwnR H0 F H xs M → xs.length = M.length
  | [], [], _ => rfl
  | _ :: _, _ :: _, ⟨_, _, h7⟩ => by rw [List.length_cons, List.length_cons, OwnR.length h7]
  | [], _ :: _, h => h.elim
  | _ :: _, [], h => h.elim
theorem OwnR.upd {H0 F H : Hp} {l : Addr} {o : HO} : ∀ {xs : List V} {M : List (List Int)}, OwnR H0 F H xs M → V.ref l ∉ xs → OwnR H0 F (upd H l o) xs M
  | [], [], _, _ => trivial
  | x :: _, _ :: _, ⟨⟨l', h2, h3, h4, h5⟩, h6, h7⟩, hn => by
    rw [List.mem_cons, not_or] at hn
    have ne : l' ≠ l := fun e => hn.1 (by rw [h2, e])
    exact ⟨⟨l', h2, h3, h4, by rw [upd_ne ne]; exact h5⟩, h6, OwnR.upd h7 hn.2⟩
  | [], _ :: _, h, _ => h.elim
  | _ :: _, [], h, _ => h.elim
theorem OwnR.mem {H0 F H : Hp} : ∀ {xs : List V} {M : List (List Int)} {v : V}, OwnR H0 F H xs M → v ∈ xs → ∃ l ns, v = .ref l ∧ H0 l = none ∧ F l = none ∧ H l = some (.lst ns)
  | x :: _, _ :: _, v, ⟨⟨l', h2, h3, h4, h5⟩, h6, h7⟩, hm => by
    rcases List.mem_cons.mp hm with e | hm
    · exact ⟨l', _, by rw [e, h2], h3, h4, h5⟩
    · exact OwnR.mem h7 hm
  | [], [], _, _, hm => by simp at hm
  | [], _ :: _, _, h, _ => h.elim
  | _ :: _, [], _, h, _ => h.elim
theorem OwnR.base {H0 H1 F H : Hp} (s : Same H0 H1) : ∀ {xs : List V} {M : List (List Int)}, OwnR H1 F H xs M → OwnR H0 F H xs M
  | [], [], _ => trivial
  | _ :: _, _ :: _, ⟨⟨l, h2, h3, h4, h5⟩, h6, h7⟩ => ⟨⟨l, h2, s.free h3, h4, h5⟩, h6, OwnR.base s h7⟩
  | [], _ :: _, h => h.elim
  | _ :: _, [], h => h.elim
theorem OwnR.snoc {H0 F H : Hp} {l : Addr} {m : List Int} : ∀ {xs : List V} {M : List (List Int)}, OwnR H0 F H xs M → V.ref l ∉ xs → H0 l = none → F l = none → H l = some (.lst (m.map V.int)) → OwnR H0 F H (xs ++ [.ref l]) (M ++ [m])
  | [], [], _, _, a, b, c => ⟨⟨l, rfl, a, b, c⟩, by simp, trivial⟩
  | x :: xs, _ :: _, ⟨h1, h6, h7⟩, hn, a, b, c => by
    rw [List.mem_cons, not_or] at hn
    refine ⟨h1, ?_, OwnR.snoc h7 hn.2 a b c⟩
    show ¬ x ∈ xs ++ [V.ref l]
    rw [List.mem_append, not_or]
    exact ⟨h6, by simpa using fun e => hn.1 e.symm⟩
  | [], _ :: _, h, _, _, _, _ => h.elim
  | _ :: _, [], h, _, _, _, _ => h.elim
theorem OwnR.get {H0 F H : Hp} : ∀ {xs : List V} {M : List (List Int)} {a : Nat}, OwnR H0 F H xs M → a < M.length →
    ∃ l, xs[a]? = some (.ref l) ∧ H0 l = none ∧ F l = none ∧ H l = some (.lst ((M.getD a []).map V.int)) ∧ ∀ m', OwnR H0 F (L2.upd H l (.lst (m'.map V.int))) xs (M.set a m')
  | x :: xs, m :: M, 0, ⟨⟨l, h2, h3, h4, h5⟩, h6, h7⟩, _ => by
    subst h2
    exact ⟨l, rfl, h3, h4, h5, fun m' => ⟨⟨l, rfl, h3, h4, upd_same⟩, h6, OwnR.upd h7 h6⟩⟩
  | x :: xs, m :: M, a + 1, ⟨⟨l, h2, h3, h4, h5⟩, h6, h7⟩, hl => by
    obtain ⟨l', g1, g2, g3, g4, g5⟩ := OwnR.get h7 (a := a) (by simpa using hl)
    have hm : V.ref l' ∈ xs := List.mem_of_getElem? g1
    refine ⟨l', by simpa using g1, g2, g3, by simpa using g4, fun m' => ⟨⟨l, h2, h3, h4, ?_⟩, h6, g5 m'⟩⟩
    have ne : l ≠ l' := fun e => h6 (by rw [h2, e]; exact hm)
    rw [upd_ne ne]; exact h5
  | [], [], _, _, h => by simp at h
  | [], _ :: _, _, h, _ => h.elim
  | _ :: _, [], _, h, _ => h.elim
def mat (M : List (List Int)) : SP := ⟨fun H0 o F H => ∃ p xs, o = some (.ref p) ∧ H0 p = none ∧ F p = none ∧ H p = some (.lst xs) ∧ OwnR H0 F H xs M ∧ V.ref p ∉ xs,
  fun g ⟨p, xs, e, h0, hF, hp, r, n⟩ => ⟨p, xs, e, h0, (g.o p (ne_none hp)).trans hF, g.h _ _ hp, r.mono g, n⟩⟩
theorem own_lc {G : List SP} {wi : TI} {n : Nat} {Ps : Nat → VP} {g : TG} {vs : List Nat} {Gi : Nat → List SP} {te : TE} {row : Nat → List Int} (hw : W G wi n Ps) (hz : n ≤ 1000000) (hg : ∀ i, i < n → Tg g vs (wipeG G vs) (Ps i) (Gi i)) (he : ∀ i, i < n → EL (Gi i) te ((row i).map Iv))
    {F0 H0 : Hp} {s : L2.St} {F H : Hp} (a : At F0 H0 G s F H) {Q : VK} (q : ∀ p xs F' H', Gr F H F' H' → H p = none → F' p = none → H' p = some (.lst xs) → OwnR H F' H' xs ((List.range n).map row) → V.ref p ∉ xs → Q (.ref p) H') : tLc wi g tYes te vs s H Q := hw F0 H0 s F H a _ fun J F1 H1 g1 wk => fun D hD => by
  have hF1 : F1 D = none := g1.i.free hD
  refine ⟨fun i m Hc => m = n - i ∧ i ≤ n ∧ ∃ Fc acc, Gr F1 H1 Fc Hc ∧ Fc D = none ∧ Hc D = some (.lst acc) ∧ OwnR H Fc Hc acc ((List.range i).map row) ∧ V.ref D ∉ acc,
    ⟨n, by simp, Nat.zero_le _, F1, [], (Gr.refl g1.i).move hD hF1, hF1, upd_same, trivial, by simp⟩, ?_⟩
  rintro i m Hc ⟨rfl, hi, Fc, acc, gc, hFc, hc, al, nd⟩
  by_cases hlt : i < n
  · refine .inr ⟨wk.goes i Fc Hc hlt gc.f gc.i, fun Hn => i + 1 ≤ n ∧ ∃ Fn acc, Gr F1 H1 Fn Hn ∧ Fn D = none ∧ Hn D = some (.lst acc) ∧ OwnR H Fn Hn acc ((List.range (i + 1)).map row) ∧ V.ref D ∉ acc, fun H' k => ⟨n - (i + 1), by omega, rfl, k⟩, fun x H2 y => ?_⟩
    obtain ⟨F2, g2, hx⟩ := wk.yields i Fc Hc x H2 hlt gc.f gc.i y
    have gg : Gr F H F2 H2 := g1.trans (gc.trans g2)
    have a2 : At F0 H0 (wipeG G vs) (wipe s vs) F2 H2 := ⟨(a.grow gg).g, sl_wipe (a.grow gg).s vs⟩
    refine hg i hlt F0 H0 _ F2 H2 x a2 hx _ fun s3 a3 ew => ⟨ew.trans wipe_wipe, t_yes F0 H0 s3 F2 H2 a3 _ fun F3 H3 g3 => ?_⟩
    refine iteT (he i hlt F0 H0 s3 F3 H3 (a3.grow g3) _ fun p xs F4 H4 g4 hn hF4 hp ax => ?_)
    have ex := vals_int ax
    subst ex
    have g24 := g2.trans (g3.trans g4)
    have hc4 := g24.h _ _ hc
    have hc3 := (g2.trans g3).h _ _ hc
    have neD : D ≠ p := fun z => by rw [z, hn] at hc3; cases hc3
    have al4 := al.mono g24
    have al3 := al.mono (g2.trans g3)
    have npx : V.ref p ∉ acc := fun z => by
      obtain ⟨l, ns, e1, _, _, e4⟩ := al3.mem z
      cases e1
      rw [hn] at e4; cases e4
    have zl : acc.length ≤ i := by
      have := al.length
      rw [List.length_map, List.length_range] at this
      omega
    refine ⟨acc, hc4, Nat.lt_of_le_of_lt zl (Nat.lt_of_lt_of_le (Nat.lt_of_lt_of_le hlt hz) (by decide)), hlt, F4, _, (gc.trans g24).move hD ((g24.o D (ne_none hc)).trans hFc), (g24.o D (ne_none hc)).trans hFc, upd_same, ?_, ?_⟩
    · rw [List.range_succ, List.map_append]
      have hp0 : H p = none := (g1.trans (gc.trans (g2.trans g3))).h.free hn
      exact (al4.upd nd).snoc npx hp0 hF4 (by rw [upd_ne neD.symm]; exact hp)
    · rw [List.mem_append, not_or]
      exact ⟨nd, by simpa using fun z => neD z⟩
  · have e : i = n := by omega
    subst e
    exact .inl ⟨wk.stops Fc Hc gc.f gc.i, q D acc Fc Hc (g1.trans gc) (g1.h.free hD) hFc hc al nd⟩
theorem q_mat {G G2 : List SP} {wi : TI} {n j : Nat} {Ps : Nat → VP} {g : TG} {vs : List Nat} {Gi : Nat → List SP} {te : TE} {row : Nat → List Int} {R : VP} {tw : TS} (hw : W G wi n Ps) (hz : n ≤ 1000000) (hg : ∀ i, i < n → Tg g vs (wipeG G vs) (Ps i) (Gi i)) (he : ∀ i, i < n → EL (Gi i) te ((row i).map Iv))
    (k : S (G.set j (mat ((List.range n).map row))) tw G2 R) : S G (tSeq (tAsg (tLc wi g tYes te vs) (gName j)) tw) G2 R := s_seq (G1 := G.set j (mat ((List.range n).map row))) (fun F0 H0 D s F H a nx r =>
  own_lc hw hz hg he a fun p xs F' H' g hn hF hp ow nd => nx _ F' H' ((a.grow g).set j ⟨p, xs, rfl, a.g.h.free hn, hF, hp, ow.base a.g.h, nd⟩)) k
/-- matrix[a][b] += v -/
theorem q_augM {G G2 : List SP} {K : PySem.W.Frag} {ta tb te : TE} {j a b : Nat} {v : Int} {M : List (List Int)} {R : VP} {tw : TS} (hi : G[j]? = some (mat M)) (hs : StillE j G) (h1 : E G ta (Iv (a : Nat))) (h2 : E G tb (Iv (b : Nat))) (h3 : E G te (Iv v)) (ha : a < M.length) (hb : b < (M.getD a []).length)
    (k : S (G.set j (mat (addAt M a b v))) tw G2 R) : S G (tSeq (tAugS (tOp (rIxL K) (tVar j) ta) tb te (fun o i H Q => ∃ p xs k v, o = .ref p ∧ i = .int (k : Nat) ∧ SqL K H p xs ∧ xs[k]? = some v ∧ Q v H) (ipI fun i j => i + j) rSetL) tw) G2 R := s_seq (G1 := G.set j (mat (addAt M a b v))) (fun F0 H0 D s F H A nx r => by
  obtain ⟨o, e1, p, xs, rfl, h0, hF, hp, ow, nd⟩ := A.s.get hi
  refine ⟨.ref p, e1, h1 F0 H0 s F H A _ fun y F1 H1 g1 hy => ?_⟩
  have hy : y = .int (a : Nat) := hy
  subst hy
  obtain ⟨l, x1, x2, x3, x4, x5⟩ := (ow.mono g1).get ha
  refine ⟨p, xs, _, _, rfl, rfl, SqL.of (g1.h _ _ hp), atI_nat x1, h2 F0 H0 s F1 H1 (A.grow g1) _ fun y F2 H2 g2 hy => ?_⟩
  have hy : y = .int (b : Nat) := hy
  subst hy
  have cb : ((M.getD a []).map V.int)[b]? = some (V.int ((M.getD a []).getD b 0)) := cell_get hb
  refine ⟨l, _, b, _, rfl, rfl, SqL.of (g2.h _ _ x4), cb, h3 F0 H0 s F2 H2 ((A.grow g1).grow g2) _ fun y F3 H3 g3 hy => ?_⟩
  have hy : y = .int v := hy
  subst hy
  have g := g1.trans (g2.trans g3)
  obtain ⟨l2, z1, z2, z3, z4, z5⟩ := (ow.mono g).get ha
  have el : l2 = l := by
    rw [x1] at z1; injection z1 with z1; injection z1 with z1; exact z1.symm
  subst el
  refine ⟨_, _, rfl, rfl, l2, _, _, b, rfl, rfl, z4, ixN_nat (by rw [List.length_map]; exact hb), ?_⟩
  have npl : p ≠ l2 := fun z => nd (by rw [z]; exact List.mem_of_getElem? z1)
  have em : (((M.getD a []).map V.int).set b (V.int ((M.getD a []).getD b 0 + v))) = ((M.getD a []).set b ((M.getD a []).getD b 0 + v)).map V.int := by rw [List.map_set]
  refine nx _ F3 _ ⟨(A.g.trans g).move z2 z3, sl_stillE hs (A.s.mono g) fun w e => ?_⟩
  rw [e1] at e; cases e
  rw [em]
  exact ⟨p, xs, rfl, h0, (g.o p (ne_none hp)).trans hF, by rw [upd_ne npl]; exact g.h _ _ hp, z5 _, nd⟩) k
open Classical in
theorem all_own {H0 F H F' : Hp} : ∀ {xs : List V} {M : List (List Int)}, OwnR H0 F H xs M → (∀ l, V.ref l ∈ xs → F' l = H l) → AllP (M.map Li) xs F'
  | [], [], _, _ => trivial
  | x :: xs, m :: M, ⟨⟨l, h2, h3, h4, h5⟩, h6, h7⟩, hn => ⟨⟨l, _, h2, (hn l (by rw [h2]; simp)).trans h5, int_vals⟩, all_own h7 fun l hl => hn l (List.mem_cons_of_mem _ hl)⟩
  | [], _ :: _, h, _ => h.elim
  | _ :: _, [], h, _ => h.elim
open Classical in
theorem s_retM {G G2 : List SP} {j : Nat} {M : List (List Int)} (hi : G[j]? = some (mat M)) : S G (tRet (tVar j)) G2 (Mx M) := fun F0 H0 D s F H A nx r => by
  obtain ⟨o, e1, p, xs, rfl, h0, hF, hp, ow, nd⟩ := A.s.get hi
  refine ⟨.ref p, e1, ?_⟩
  let F1 : Hp := fun a => if a = p ∨ V.ref a ∈ xs then H a else F a
  have sF : Same F F1 := fun a u e => by
    show (if _ then _ else _) = _
    split
    · exact A.g.i a u e
    · exact e
  refine r _ F1 H ⟨A.g.f.trans sF, A.g.h, fun a u e => ?_, fun a z => ?_⟩ ⟨p, xs, rfl, (if_pos (.inl rfl)).trans hp, all_own ow fun l hl => if_pos (.inr hl)⟩
  · have e : (if a = p ∨ V.ref a ∈ xs then H a else F a) = some u := e
    split at e
    · exact e
    · exact A.g.i a u e
  · show (if _ then _ else _) = _
    rw [if_neg, A.g.o a z]
    rintro (q | q)
    · exact z (by rw [q]; exact h0)
    · obtain ⟨l, ns, q1, q2, _, _⟩ := ow.mem q
      cases q1
      exact z q2
theorem st_mat0 {G : List SP} {M : List (List Int)} (h : ∀ Q ∈ G, still Q) : StillE 0 (mat M :: G) := h
section
variable {P : Program} {w : World} {K : PySem.W.Frag} {mg : Str → Option Value} {base : Heap} {n : Nm} (T : Txt K mg n)
include T
theorem ok_hessian : FnOk P w K mg base CX0 1 (n.ad 74) (n.fd 74) ["variables", "quadratic"] (spF (fun x : Nat × List Int => [Iv (x.1 : Nat), Li x.2]) (fun x => x.1 < 4 ∧ x.2.length = x.1 * (x.1 + 1) / 2) (fun x => Mx (hessI x.1 x.2))) := by
  refine fn_ty T.f_hessian sc_hessian (fun _ => rfl) fun cdv Ar outer s H E' hr => ⟨_, (pss_cons (ps_setLc (i := 2) (own := [("place", 3)]) (g := (gName 3)) (tt := tYes) (te := (tOp rRep (tLst (tCons (tC (.int 0)) tNil)) (tVar 0))) rfl sc_hessian.nd rfl rfl (sw_true rfl rfl rfl (by decide +kernel)) (pi_range1 rfl T.b_range (pa_cons (pv 0) pa_nil)) (blkOk_by (N := ["variables", "quadratic", "matrix", "place", "first", "second"]) (sc := defScope st_hessian) (by decide +kernel)) (fun _ _ _ _ _ => (pg_name (i := 3) sc_hessian.nd rfl (Or.inl rfl))) (fun _ _ _ _ _ => pts_nil) (fun _ _ _ _ _ => (pe_op op_rep (pe_lst (pa_cons pe_int pa_nil)) (pv 0))))
        (pss_cons (ps_set (i := 3) sc_hessian.nd rfl (Or.inl rfl) pe_int)
        (pss_cons (ps_for PassesOwn.never rfl (pi_range1 rfl T.b_range (pa_cons (pv 0) pa_nil)) (pg_name (i := 4) sc_hessian.nd rfl (Or.inl rfl)) (pss_one (ps_for PassesOwn.never rfl (pi_range2 rfl T.b_range (pa_cons (pv 4) (pa_cons (pv 0) pa_nil))) (pg_name (i := 5) sc_hessian.nd rfl (Or.inl rfl)) (pss_cons (ps_augS (pe_ix ix_list (pv 2) (pv 4) (fun _ _ => rfl)) (pv 5) get_list (pe_ix ix_list (pv 1) (pv 3) (fun _ _ => rfl)) ip_add set_list)
        (pss_cons (ps_augS (pe_ix ix_list (pv 2) (pv 5) (fun _ _ => rfl)) (pv 4) get_list (pe_ix ix_list (pv 1) (pv 3) (fun _ _ => rfl)) ip_add set_list)
        (pss_one (ps_aug (i := 3) sc_hessian.nd rfl (Or.inl rfl) pe_int ip_add)))))))
        (pss_one (ps_ret (pv 2)))))), ?_⟩
  rintro ⟨k, q⟩ ⟨hk, hq⟩
  have hk : k < 4 := hk
  have hq : q.length = k * (k + 1) / 2 := hq
  refine q_mat (n := k) (row := fun _ => List.replicate k 0) ((w_rng1 (n := (k : Nat)) (a_cons (e_var rfl) a_nil) (by omega)).eq (by simp) fun _ _ => rfl) (by omega) (fun i _ => tg_name (by simp)) (fun i hi => EL.eq (el_rep (E.of (el_lst (a_cons (e_int 0) a_nil))) (e_var rfl) (by omega)) (by simp)) ?_
  have em : ((List.range k).map fun _ => List.replicate k (0 : Int)) = (hOut k q 0).1 := by
    show _ = List.replicate k (List.replicate k 0)
    rw [List.map_const', List.length_range]
  rw [em]
  refine q_asg (P := Iv ((hOut k q 0).2 : Nat)) (e_int 0) ?_
  refine q_for (s_forR (m := k) (fun i => [im (Iv (k : Nat)), im (Li q), mat (hOut k q i).1, im (Iv ((hOut k q i).2 : Nat)), any, any]) (a_cons (e_var rfl) a_nil) (by omega) sub_refl fun f hf => ?_) ?_
  · have sq0 := hOut_sqr (q := q) f (Nat.le_of_lt hf)
    rw [hOut_succ]
    refine s_sub (s_for (n := k - f) (Ps := fun j => Iv ((f + j : Nat))) (Gi := fun j => [im (Iv (k : Nat)), im (Li q), mat (hIn k q f (hOut k q f) j).1, im (Iv ((hIn k q f (hOut k q f) j).2 : Nat)), im (Iv (f : Nat)), im (Iv ((f + j : Nat)))]) (fun j => [im (Iv (k : Nat)), im (Li q), mat (hIn k q f (hOut k q f) j).1, im (Iv ((hIn k q f (hOut k q f) j).2 : Nat)), im (Iv (f : Nat)), any])
      ((w_rng2 (m := (f : Nat)) (n := (k : Nat)) (a_cons (e_var rfl) (a_cons (e_var rfl) a_nil)) (by omega)).eq (by omega) fun j _ => by congr 1) sub_refl (fun j _ => .inr ⟨[5], tg_name (by simp)⟩) fun j hj => ?_) ?_
    · have sq1 := hIn_sqr (q := q) sq0 hf j (Nat.le_of_lt hj)
      have sq2 := addAt_sqr sq1 hf (j := f + j) (v := q.getD (hIn k q f (hOut k q f) j).2 0)
      have pl : (hIn k q f (hOut k q f) j).2 < q.length := by
        rw [hIn_place, hOut_place, hq]
        exact place_lt k hk f hf j hj
      have r1 : ∀ M, Sqr k M → ∀ i, i < k → (M.getD i []).length = k := fun M h i hi => h.2 _ (SV.getD_in (by rw [h.1]; exact hi))
      rw [hIn_succ]
      refine q_augM (j := 2) (a := f) (b := f + j) (v := q.getD (hIn k q f (hOut k q f) j).2 0) rfl (se_im (se_im (st_mat0 (st_im (st_im (st_im st_nil)))))) (e_var rfl) (e_var rfl) (e_ixL (e_var rfl) (e_var rfl) (ix_map 0 pl)) (by rw [sq1.1]; exact hf) (by rw [r1 _ sq1 f hf]; omega) ?_
      refine q_augM (j := 2) (a := f + j) (b := f) (v := q.getD (hIn k q f (hOut k q f) j).2 0) rfl (se_im (se_im (st_mat0 (st_im (st_im (st_im st_nil)))))) (e_var rfl) (e_var rfl) (e_ixL (e_var rfl) (e_var rfl) (ix_map 0 pl)) (by rw [sq2.1]; omega) (by rw [r1 _ sq2 (f + j) (by omega)]; omega) ?_
      exact s_sub (s_aug (f := fun i j => i + j) (m := ((hIn k q f (hOut k q f) j).2 : Nat)) (n := 1) rfl (e_int 1)) (sub_cons (sub_cons (sub_cons (sub_cons (sub_cons (sub_any sub_nil))))))
    · exact sub_cons (sub_cons (sub_cons (sub_cons (sub_any (sub_any sub_nil)))))
  · exact s_retM rfl
theorem ok_stationary : FnOk P w K mg base CX0 8 (n.ad 77) (n.fd 77) ["model", "arguments"] (spF (fun x : Nat × Int × List Int × List Int => [Any, ArgV [(x.1 : Nat), x.2.1] [x.2.2.1, x.2.2.2]]) (fun x => x.2.2.1.length ≤ 100 ∧ x.2.2.2.length ≤ 100) (fun x => Li (aStat x.1 x.2.1 x.2.2.1 x.2.2.2))) := by
  have G_Solution_fractions := ok_Solution_fractions (P := P) (w := w) (base := base) T
  have G_Solution_times := ok_Solution_times (P := P) (w := w) (base := base) T
  have G_hessian := ok_hessian (P := P) (w := w) (base := base) T
  have G_is_surface := ok_is_surface (P := P) (w := w) (base := base) T
  have G_kind_of := ok_kind_of (P := P) (w := w) (base := base) T
  have G_leading_minors := ok_leading_minors (P := P) (w := w) (base := base) T
  have G_lowest_terms := ok_lowest_terms (P := P) (w := w) (base := base) T
  have G_solved := ok_solved (P := P) (w := w) (base := base) T
  refine fn_ty T.f_stationary sc_stationary (fun _ => rfl) fun cdv Ar outer s H E' hr => ⟨_, (pss_cons (ps_set (i := 2) sc_stationary.nd rfl (Or.inl rfl) (pe_ix ix_list (pv 1) pe_int (fun _ _ => rfl)))
        (pss_cons (ps_set (i := 3) sc_stationary.nd rfl (Or.inl rfl) (pe_ix ix_list (pv 1) pe_int (fun _ _ => rfl)))
        (pss_cons (ps_set (i := 4) sc_stationary.nd rfl (Or.inl rfl) (pe_ix ix_list (pv 1) pe_int (fun _ _ => rfl)))
        (pss_cons (ps_set (i := 5) sc_stationary.nd rfl (Or.inl rfl) (pe_ix ix_list (pv 1) pe_int (fun _ _ => rfl)))
        (pss_cons (ps_if (pt_not (pt_val (pe_call G_is_surface (hr.mono (by decide)) rfl T.g_is_surface T.f_is_surface.kp T.b_is_surface .nil pass0 (pa_cons (pv 2) (pa_cons (pv 3) (pa_cons (pv 4) (pa_cons (pv 5) pa_nil))))))) (pss_one (ps_ret (pe_lst (pa_cons (pe_cst rfl T.g_OUT_OF_RANGE) pa_nil)))) pss_nil)
        (pss_cons (ps_set (i := 6) sc_stationary.nd rfl (Or.inl rfl) (pe_call G_hessian (hr.mono (by decide)) rfl T.g_hessian T.f_hessian.kp T.b_hessian .nil pass0 (pa_cons (pv 2) (pa_cons (pv 5) pa_nil))))
        (pss_cons (ps_set (i := 7) sc_stationary.nd rfl (Or.inl rfl) (pe_call G_leading_minors hr rfl T.g_leading_minors T.f_leading_minors.kp T.b_leading_minors .nil pass0 (pa_cons (pv 6) pa_nil)))
        (pss_cons (ps_if (pt_cmpR op_eq (pe_ix ix_list (pv 7) (pe_un un_neg pe_int) (fun _ _ => rfl)) pe_int (nomark _)) (pss_one (ps_ret (pe_lst (pa_cons (pe_cst rfl T.g_NO_RESULT) pa_nil)))) pss_nil)
        (pss_cons (ps_set (i := 8) sc_stationary.nd rfl (Or.inl rfl) (pe_call G_solved (hr.mono (by decide)) rfl T.g_solved T.f_solved.kp T.b_solved .nil pass0 (pa_cons (pv 6) (pa_cons (pe_lc (own := [("slope", 11)]) (g := (gName 11)) (tt := tYes) (te := (tUn (rU fun i => .int (-i)) (tVar 11))) rfl sc_stationary.nd (pi_list (pv 4)) (blkOk_by (N := ["model", "arguments", "variables", "constant", "linear", "quadratic", "matrix", "minors", "point", "share", "value", "slope"]) (sc := defScope st_stationary) (by decide +kernel)) (fun _ _ _ _ _ => (pg_name (i := 11) sc_stationary.nd rfl (Or.inl rfl))) (fun _ _ _ _ _ => pts_nil) (fun _ _ _ _ _ => (pe_un un_neg (pv 11)))) pa_nil))))
        (pss_cons (ps_set (i := 9) sc_stationary.nd rfl (Or.inl rfl) (pe_meth (pv 8) T.cl_Solution T.m_Solution_times G_Solution_times (hr.mono (by decide)) T.b_Solution_times .nil pass0 (pa_cons (pv 4) pa_nil)))
        (pss_cons (ps_set (i := 10) sc_stationary.nd rfl (Or.inl rfl) (pe_call G_lowest_terms (hr.mono (by decide)) rfl T.g_lowest_terms T.f_lowest_terms.kp T.b_lowest_terms .nil pass0 (pa_cons (pe_op op_add (pe_op op_mulW (pe_op op_mulW pe_int (pv 3)) (pe_ix ix_list (pv 9) pe_int (fun _ _ => rfl))) (pe_ix ix_list (pv 9) pe_int (fun _ _ => rfl))) (pa_cons (pe_op op_mulW pe_int (pe_ix ix_list (pv 9) pe_int (fun _ _ => rfl))) pa_nil))))
        (pss_one (ps_ret (pe_op op_cat (pe_op op_cat (pe_lst (pa_cons (pe_call G_kind_of (hr.mono (by decide)) rfl T.g_kind_of T.f_kind_of.kp T.b_kind_of .nil pass0 (pa_cons (pv 7) pa_nil)) pa_nil)) (pe_meth0 (pv 8) T.cl_Solution T.m_Solution_fractions G_Solution_fractions (hr.mono (by decide)) T.b_Solution_fractions .nil pass0)) (pv 10))))))))))))))), ?_⟩
  rintro ⟨k, c, l, q⟩ ⟨h1, h2⟩
  refine q_asg (P := Iv (k : Nat)) (e_ixL (e_var rfl) (e_intN 0) rfl) ?_
  refine q_asg (P := Iv c) (e_ixL (e_var rfl) (e_intN 1) rfl) ?_
  refine q_asg (P := Li l) (e_ixL (e_var rfl) (e_intN 2) rfl) ?_
  refine q_asg (P := Li q) (e_ixL (e_var rfl) (e_intN 3) rfl) ?_
  refine q_if (b := !(isSurf k c l q)) (t_not (t_val (e_call (k, c, l, q) ⟨h1, h2⟩ (a_cons (e_var rfl) (a_cons (e_var rfl) (a_cons (e_var rfl) (a_cons (e_var rfl) a_nil))))))) (fun h => ?_) (fun h => ?_)
  · refine q_ret (E.eq (E.of (el_lst (a_cons (e_int _) a_nil))) ?_)
    show _ = Li (aStat k c l q)
    unfold aStat
    rw [if_pos (by simpa using h)]; rfl
  · have hs : isSurf k c l q = true := by simpa using h
    have nif : ¬ isSurf k c l q = false := by rw [hs]; simp
    obtain ⟨k0, k4, hl, hq, bc, bl, bq⟩ := surf_parts hs
    obtain ⟨sqb, _⟩ := reg_of hs
    obtain ⟨so, po⟩ := pt_ok hs
    have hml : (minorsI (hessI k q)).length = k := by rw [minors_len, sqb.1]
    refine q_next (q_asg (P := Mx (hessI k q)) (e_call (k, q) ⟨k4, hq⟩ (a_cons (e_var rfl) (a_cons (e_var rfl) a_nil))) ?_)
    refine q_asg (P := Li (minorsI (hessI k q))) (e_call (hessI k q) ⟨by rw [sqb.1]; exact k4, by rw [sqb.1]; exact sqb⟩ (a_cons (e_var rfl) a_nil)) ?_
    refine q_if (b := decide ((minorsI (hessI k q)).getLastD 0 = 0)) (t_test (e_eq (e_last (e_var rfl) (e_neg (e_int 1)) (last_map (by omega)) (by rw [List.length_map]; omega)) (e_int 0))) (fun h => ?_) (fun h => ?_)
    · have h : (minorsI (hessI k q)).getLastD 0 = 0 := by simpa using h
      refine q_ret (E.eq (E.of (el_lst (a_cons (e_int _) a_nil))) ?_)
      show _ = Li (aStat k c l q)
      unfold aStat
      rw [if_neg nif, if_pos h]; rfl
    · have h : ¬ (minorsI (hessI k q)).getLastD 0 = 0 := by simpa using h
      obtain ⟨z, hz, zl, zo⟩ := po h
      have hz' : SV.solved (hessI k q) (negL l) = some z := hz
      refine q_next (q_asg (P := SolV n z) (E.eq (e_call (hessI k q, negL l) so (a_cons (e_var rfl) (a_cons (E.of (EL.eq (el_mapM (f := Iv) (h := fun z => Iv (-z)) (l := l) (e_var rfl) (by omega) (by simp) fun z hz => e_neg (e_var rfl)) (by unfold negL; rw [List.map_map]; rfl))) a_nil))) (by show OptSol n (SV.solved (hessI k q) (negL l)) = _; rw [hz']; rfl)) ?_)
      have sz : Sz 1210 (fac l z) := est_sz zo (bd_mono bl (by decide)) (by omega)
      refine q_asg (P := Fr (fac l z)) (e_meth (fs := SolF z) (z, l) ⟨zo, bd_mono bl (by decide), by show l.length ≤ 1000; omega⟩ (e_var rfl) rfl (a_cons (e_var rfl) a_nil) rfl) ?_
      have b2 : Bn 30 (2 * c).natAbs := two_bn bc
      have bd : Bn 1210 (((fac l z).den : Nat) : Int).natAbs := sz.2
      have t2 : Bn 2 (2 : Int).natAbs := by show (2 : Nat) < 2 ^ 2; decide
      refine q_asg (P := Fr ((c : Rat) + fac l z / 2)) (E.eq (e_call (2 * c * ((fac l z).den : Int) + (fac l z).num, 2 * ((fac l z).den : Int)) ?_ (a_cons (e_add (e_mul (mulW_ok b2 bd (by decide) (by decide) (by decide)) (e_mul (mulW_ok t2 bc (by decide) (by decide) (by decide)) (e_int 2) (e_var rfl)) (e_ixL (e_var rfl) (e_intN 1) rfl)) (e_ixL (e_var rfl) (e_intN 0) rfl)) (a_cons (e_mul (mulW_ok t2 bd (by decide) (by decide) (by decide)) (e_int 2) (e_ixL (e_var rfl) (e_intN 1) rfl)) a_nil))) (congrArg Fr (val_eq c (fac l z)))) ?_
      · refine ⟨?_, lt_mono (lt_mul t2 bd) (by decide)⟩
        show (2 * ((fac l z).den : Int)) ≠ 0
        have := den_ne0 (fac l z)
        omega
      refine s_ret (E.eq (E.of (el_cat (E.of (el_cat (E.of (el_lst (a_cons (e_call (minorsI (hessI k q)) (by show _ ≤ 3; omega) (a_cons (e_var rfl) a_nil)) a_nil))) (e_meth (fs := SolF z) z ⟨zo, by show z.1.length ≤ 1000; omega⟩ (e_var rfl) rfl a_nil rfl) ?_)) (e_var rfl) ?_)) ?_)
      · have := flat_frl z
        show 1 + List.length _ ≤ 1000000
        rw [this]; omega
      · have := flat_frl z
        rw [List.length_append]
        show 1 + List.length _ + 2 ≤ 1000000
        rw [this]; omega
      · show _ = Li (aStat k c l q)
        unfold aStat
        rw [if_neg nif, if_neg h, hz]
        show Lv (([Iv _] ++ (z.1.flatMap fun (x : Int) => (frL ((x : Rat) / (z.2 : Rat))).map Iv)) ++ (frL ((c : Rat) + fac l z / 2)).map Iv) = _
        rw [flat_li]
        unfold Li
        rw [List.map_cons, List.map_append]; rfl
end
end Lf
end
section
set_option Elab.async false
set_option linter.all false
set_option maxRecDepth 100000
set_option maxHeartbeats 2000000
local macro_rules | `(tactic| decreasing_trivial) => `(tactic| ((repeat (first | exact Ty.st_nil | apply Ty.st_im | apply Ty.st_any | apply Ty.se_0 | apply Ty.se_im | apply Ty.se_any | exact Ty.pu_nil | apply Ty.pu_im | apply Ty.pu_any | apply Ty.pe_0 | apply Ty.pe_imE | apply Ty.pe_anyE | exact Ty.sub_nil | apply Ty.sub_cons | apply Ty.sub_any)); done))
namespace Lf
open PySem PySem.Spec PyProof.Rows L2 Ty NB
/-! an object that its methods change -/
def retO (C p dx : Addr) (fs : List (Str × VP)) (P : VP) : VP := ⟨fun v F => ∃ gs F1, Same F1 F ∧ F1 p = none ∧ P.h v F1 ∧ FldP fs gs F1 ∧ F p = some (.ins C dx gs),
  fun s ⟨gs, F1, s1, f1, h1, h2, h3⟩ => ⟨gs, F1, s1.trans s, f1, h1, h2, s _ _ h3⟩⟩
def spMut {X : Type} (C : Addr) (ps : X → List VP) (pre : X → Prop) (fs fs' : X → List (Str × VP)) (R : X → VP) : Sp := fun vs H Q _ => ∃ x F p dx gs args, pre x ∧ vs = .ref p :: args ∧ H p = some (.ins C dx gs) ∧ F p = none ∧ Same F H ∧ FldP (fs x) gs F ∧ AllP (ps x) args F ∧
  ∀ v F' H' gs', Gr F (del H p) F' H' → F' p = none → H' p = some (.ins C dx gs') → FldP (fs' x) gs' F' → (R x).h v F' → Q v H'
theorem mut_ty {Pg : Program} {w : World} {K : PySem.W.Frag} {mg : Str → Option Value} {base : Heap} {X : Type} {C : Addr} {pf : X → List VP} {pre : X → Prop} {fs fs' : X → List (Str × VP)} {Rf : X → VP} {x qual : Str} {st : Stmt} {f : Addr} {fd : FuncData} {N pn : List Str} {k : Nat} (Fn : Fun K x qual st f fd) (Sc : FnScope N pn (defScope st)) (hl : ∀ x, (pf x).length + 1 = pn.length)
    (hb : ∀ (cdv : Value) (Ar : Around) (outer : List Env) (s : Shared) (H : Hp) (E' : XK), Room k (Ar.deeper (envOfC qual (defScope st) s.heap.objs.size f cdv)) →
      ∃ t, PSs (cxOf CX0 Pg w K mg base N qual (defScope st) f cdv Ar outer s H E').nox (defBody st) t ∧ ∀ p dx x, pre x → S (obj C p dx (fs x) :: ((pf x).map im ++ List.replicate (N.length - pn.length) any)) t [bot] (retO C p dx (fs' x) (Rf x))) : FnOk Pg w K mg base CX0 (k + 1) f fd pn (spMut C pf pre fs fs' Rf) := by
  refine Fn.ok Sc (fun vs H Q E' h => ?_) fun cdv Ar outer s H vs Q E' hr h => ?_
  · obtain ⟨x, F, p, dx, gs, args, _, rfl, _, _, _, _, al, _⟩ := h
    rw [List.length_cons, ← al.length, hl]
  · obtain ⟨x, F, p, dx, gs, args, hp, rfl, hH, hF, sf, hf, al, q⟩ := h
    obtain ⟨t, h1, h2⟩ := hb cdv Ar outer s H E' hr
    refine ⟨t, h1, ?_⟩
    refine h2 p dx x hp F (del H p) _ _ F H ⟨⟨Same.refl _, del_sub, sf, fun _ _ => rfl⟩, ?_⟩ (fun s' F' H' a => (bot_no a.s).elim) fun v F' H' g r => ?_
    · unfold L2.start
      rw [List.length_cons, ← al.length, hl]
      exact ⟨⟨gs, rfl, del_same, hF, hH, hf⟩, sl_start _ al⟩
    · obtain ⟨gs', F1, s1, f1, v1, g1, hp'⟩ := r
      have s2 : Same F1 (del F' p) := fun a u e => by rw [del_ne (ne_of_none e f1)]; exact s1 a u e
      refine q v (del F' p) H' gs' ⟨fun a u e => ?_, g.h, fun a u e => g.i a u (del_sub a u e), fun a z => ?_⟩ del_same (g.i _ _ hp') (g1.mono s2) ((Rf x).mono s2 v1)
      · rw [del_ne (ne_of_none e hF)]; exact g.f a u e
      · have ne : a ≠ p := fun q => z (by rw [q]; exact del_same)
        rw [del_ne ne]; exact g.o a z
/-! the other slots -/
def AllB (φ : SP → Prop) : Nat → List SP → Prop
  | _, [] => True
  | 0, _ :: G => ∀ Q ∈ G, φ Q
  | i + 1, P :: G => φ P ∧ AllB φ i G
theorem ab_nil {φ : SP → Prop} : ∀ Q ∈ ([] : List SP), φ Q := fun _ h => by cases h
theorem ab_cons {φ : SP → Prop} {P : SP} {G : List SP} (h : φ P) (k : ∀ Q ∈ G, φ Q) : ∀ Q ∈ P :: G, φ Q := fun Q hQ => by
  rcases List.mem_cons.mp hQ with e | e
  · subst e; exact h
  · exact k Q e
theorem sl_all {φ : SP → Prop} {H0 F H F' H' : Hp} (hφ : ∀ P v, φ P → P.h H0 v F H → P.h H0 v F' H') : ∀ {G : List SP} {s : L2.St}, (∀ Q ∈ G, φ Q) → Sl H0 G s F H → Sl H0 G s F' H'
  | [], [], _, _ => trivial
  | P :: G, v :: s, k, h => ⟨hφ _ _ (k P (by simp)) h.1, sl_all hφ (fun Q hQ => k Q (by simp [hQ])) h.2⟩
  | [], _ :: _, _, h => h.elim
  | _ :: _, [], _, h => h.elim
theorem sl_but {φ : SP → Prop} {H0 F H F' H' : Hp} {P' : SP} (hφ : ∀ P v, φ P → P.h H0 v F H → P.h H0 v F' H') : ∀ {G : List SP} {s : L2.St} {i : Nat}, AllB φ i G → Sl H0 G s F H → (∀ v, s[i]? = some v → P'.h H0 v F' H') → Sl H0 (G.set i P') s F' H'
  | [], [], _, _, _, _ => trivial
  | _ :: G, v :: s, 0, k, h, z => ⟨z v rfl, sl_all hφ k h.2⟩
  | _ :: G, v :: s, i + 1, k, h, z => ⟨hφ _ _ k.1 h.1, sl_but hφ k.2 h.2 fun w e => z w (by simpa using e)⟩
  | [], _ :: _, _, _, h, _ => h.elim
  | _ :: _, [], _, _, h, _ => h.elim
/-- an object elsewhere changes -/
def away (P : SP) : Prop := ∀ H0 o F H F' H' p C dx gs, H p = some (.ins C dx gs) → Gr F (del H p) F' H' → P.h H0 o F H → P.h H0 o F' H'
theorem aw_any : away any := fun _ _ _ _ _ _ _ _ _ _ _ _ _ => trivial
theorem aw_im {P : VP} : away (im P) := fun _ _ _ _ _ _ _ _ _ _ _ g ⟨v, e, h⟩ => ⟨v, e, P.mono g.f h⟩
theorem aw_own {ps : List VP} : away (own ps) := fun H0 o F H F' H' p C dx gs hp g ⟨q, xs, e, h0, hF, hl, al⟩ => by
  have ne : q ≠ p := fun z => by rw [z, hp] at hl; cases hl
  have hd : del H p q = some (.lst xs) := by rw [del_ne ne]; exact hl
  exact ⟨q, xs, e, h0, (g.o q (ne_none hd)).trans hF, g.h _ _ hd, al.mono g.f⟩
/-- a list elsewhere changes -/
def awayL (P : SP) : Prop := ∀ H0 o F H l xs u, H l = some (.lst xs) → P.h H0 o F H → P.h H0 o F (upd H l u)
theorem al_any : awayL any := fun _ _ _ _ _ _ _ _ _ => trivial
theorem al_im {P : VP} : awayL (im P) := fun _ _ _ _ _ _ _ _ ⟨v, e, h⟩ => ⟨v, e, h⟩
theorem al_obj {C p dx : Addr} {fs : List (Str × VP)} : awayL (obj C p dx fs) := fun H0 o F H l xs u hl ⟨gs, e, h0, hF, hp, hf⟩ => by
  have ne : p ≠ l := fun z => by rw [z, hl] at hp; cases hp
  exact ⟨gs, e, h0, hF, by rw [upd_ne ne]; exact hp, hf⟩
/-- a list elsewhere is fixed -/
def fixL (P : SP) : Prop := ∀ H0 o F H l xs, F l = none → H l = some (.lst xs) → P.h H0 o F H → P.h H0 o (upd F l (.lst xs)) H
theorem fl_any : fixL any := fun _ _ _ _ _ _ _ _ _ => trivial
theorem fl_im {P : VP} : fixL (im P) := fun _ _ _ _ _ _ hF _ ⟨v, e, h⟩ => ⟨v, e, P.mono (fixS hF) h⟩
theorem fl_obj {C p dx : Addr} {fs : List (Str × VP)} : fixL (obj C p dx fs) := fun H0 o F H l xs hl hh ⟨gs, e, h0, hF, hp, hf⟩ => by
  have ne : p ≠ l := fun z => by rw [z, hh] at hp; cases hp
  exact ⟨gs, e, h0, by rw [upd_ne ne]; exact hF, hp, hf.mono (fixS hl)⟩
section
variable {G G2 : List SP} {te ta : TE} {t : TA} {P R : VP} {ps qs : List VP} {K : PySem.W.Frag} {ts tw : TS} {C p dx : Addr} {i j : Nat}
theorem s_fixL (i : Nat) (hi : G[i]? = some (own ps)) (hp : AllB fixL i G) (k : S (G.set i (im (Lv ps))) ts G2 R) : S G ts G2 R := fun F0 H0 D s F H a n r => by
  obtain ⟨o, h1, q, xs, rfl, h0, hF, hl, al⟩ := a.s.get hi
  exact k F0 H0 D s (upd F q (.lst xs)) H ⟨a.g.fix h0 hF hl, sl_but (fun P v hP h => hP _ _ _ _ _ _ hF hl h) hp a.s fun v e => by
    rw [h1] at e; cases e
    exact ⟨_, rfl, q, xs, rfl, upd_same, al.mono (fixS hF)⟩⟩ n r
theorem s_retO {fs : List (Str × VP)} (hi : G[i]? = some (obj C p dx fs)) (h : E G te P) : S G (tRet te) G2 (retO C p dx fs P) := fun F0 H0 D s F H a n r => h F0 H0 s F H a _ fun v F1 H1 g1 hv => by
  obtain ⟨o, h1, gs, rfl, h0, hF, hp, hf⟩ := (a.grow g1).s.get hi
  exact r v _ H1 ((a.g.trans g1).fix h0 hF hp) ⟨gs, F1, fixS hF, hF, hv, hf, upd_same⟩
theorem _root_.Ty.Gr.mut {F0 H0 F1 H1 F2 H2 : Hp} (a : Gr F0 H0 F1 H1) (h0 : H0 p = none) (g : Gr F1 (del H1 p) F2 H2) : Gr F0 H0 F2 H2 := by
  have hd : ∀ x, H0 x ≠ none → del H1 p x = H1 x := fun x z => del_ne fun e => z (e ▸ h0)
  exact ⟨a.f.trans g.f, fun x u e => g.h x u ((hd x (ne_none e)).trans (a.h x u e)), g.i, fun x z => (g.o x (by rw [hd x z]; exact Same.some a.h z)).trans (a.o x z)⟩
/-- x = self.m(..) -/
theorem s_mut {X : Type} {pf : X → List VP} {pre : X → Prop} {fs fs' : X → List (Str × VP)} {Rf : X → VP} {m : Str} (x : X) (hp : pre x) (hi : G[i]? = some (obj C p dx (fs x))) (hm : (fs x).lookup m = none) (h : A G t (pf x)) (hs : AllB away i G) :
    S G (tAsg (tMeth C m (spMut C pf pre fs fs' Rf) [] E0 (tVar i) t) (gName j)) ((G.set i (obj C p dx (fs' x))).set j (im (Rf x))) R := fun F0 H0 D s F H a n r => by
  obtain ⟨o, h1, gs, rfl, h0, hF, hh, hf⟩ := a.s.get hi
  refine ⟨.ref p, h1, p, dx, gs, rfl, hh, hf.none hm, h F0 H0 s F H a _ fun vs F1 H1 g1 al => ?_⟩
  have hF1 : F1 p = none := (g1.o p (ne_none hh)).trans hF
  have hh1 := g1.h _ _ hh
  refine ⟨x, F1, p, dx, gs, vs, hp, by rw [List.append_nil], hh1, hF1, g1.i, hf.mono g1.f, al, fun v F2 H2 gs2 g2 f2 h2 hf2 hv => ?_⟩
  have a1 := a.grow g1
  have a2 : At F0 H0 (G.set i (obj C p dx (fs' x))) s F2 H2 := ⟨a1.g.mut h0 g2, sl_but (fun P v hP h => hP _ _ _ _ _ _ _ _ _ _ hh1 g2 h) hs a1.s fun w e => by
    rw [h1] at e; cases e
    exact ⟨gs2, rfl, h0, f2, h2, hf2⟩⟩
  exact n _ F2 H2 (a2.set (P := im (Rf x)) j ⟨v, rfl, hv⟩)
/-- xs.append(self.m(..)) -/
theorem s_mutApp {X : Type} {pf : X → List VP} {pre : X → Prop} {fs fs' : X → List (Str × VP)} {Rf : X → VP} {m : Str} (x : X) (hp : pre x) (hi : G[i]? = some (obj C p dx (fs x))) (hm : (fs x).lookup m = none) (h : A G t (pf x)) (hs : AllB away i G)
    (hj : (G.set i (obj C p dx (fs' x)))[j]? = some (own ps)) (hs2 : AllB awayL j (G.set i (obj C p dx (fs' x)))) (hz : ps.length < sizeLine) (hj0 : G[j]? = some (own ps)) :
    S G (tDrop (tBM K "list" rAppend (tVar j) (tCons (tMeth C m (spMut C pf pre fs fs' Rf) [] E0 (tVar i) t) tNil))) ((G.set i (obj C p dx (fs' x))).set j (own (ps ++ [Rf x]))) R := fun F0 H0 D s F H a n r => by
  obtain ⟨o, h1, gs, rfl, h0, hF, hh, hf⟩ := a.s.get hi
  obtain ⟨o2, e1, l0, ys0, rfl, _, _, hl0, _⟩ := a.s.get hj0
  refine ⟨.ref l0, e1, .inl ⟨rfl, _, SqL.of hl0⟩, .ref p, h1, p, dx, gs, rfl, hh, hf.none hm, h F0 H0 s F H a _ fun vs F1 H1 g1 al => ?_⟩
  have hF1 : F1 p = none := (g1.o p (ne_none hh)).trans hF
  have hh1 := g1.h _ _ hh
  refine ⟨x, F1, p, dx, gs, vs, hp, by rw [List.append_nil], hh1, hF1, g1.i, hf.mono g1.f, al, fun v F2 H2 gs2 g2 f2 h2 hf2 hv => ?_⟩
  have a1 := a.grow g1
  have a2 : At F0 H0 (G.set i (obj C p dx (fs' x))) s F2 H2 := ⟨a1.g.mut h0 g2, sl_but (fun P v hP h => hP _ _ _ _ _ _ _ _ _ _ hh1 g2 h) hs a1.s fun w e => by
    rw [h1] at e; cases e
    exact ⟨gs2, rfl, h0, f2, h2, hf2⟩⟩
  obtain ⟨o3, e3, l, ys, rfl, hl0', hlF, hl, hal⟩ := a2.s.get hj
  rw [e1] at e3
  cases e3
  refine ⟨l0, ys, v, rfl, rfl, hl, by rw [← hal.length]; exact hz, n _ F2 _ ⟨a2.g.move hl0' hlF, sl_but (fun P v hP h => hP _ _ _ _ _ _ _ hl h) hs2 a2.s fun w e => ?_⟩⟩
  rw [e1] at e; cases e
  exact ⟨l0, _, rfl, hl0', hlF, upd_same, hal.append ⟨hv, trivial⟩⟩
/-- self.f += e -/
theorem s_fldAug {fs : List (Str × VP)} {f : Str} {m k : Int} (hc : Cls K C) (hn : NoAttr K C f) (hi : G[i]? = some (obj C p dx fs)) (hl : fs.lookup f = some (Iv m)) (hs : StillE i G) (h : E G te (Iv k)) (hz : Nat.ble (fs.length + 1) 1000 = true) :
    S G (sFldAug K (tVar i) te rAdd f) (G.set i (obj C p dx (putP f (Iv (m + k)) fs))) R := fun F0 H0 D s F H a n r => by
  obtain ⟨o, h1, gs, rfl, h0, hF, hp, hf⟩ := a.s.get hi
  obtain ⟨v, e1, e2⟩ := hf.get hl
  have e2 : v = .int m := e2
  subst e2
  refine ⟨.ref p, h1, p, C, dx, gs, _, rfl, hp, hc, hn, e1, h F0 H0 s F H a _ fun y F1 H1 g1 hy => ?_⟩
  have hy : y = .int k := hy
  subst hy
  have hF1 : F1 p = none := (g1.o p (ne_none hp)).trans hF
  refine ⟨m, k, rfl, rfl, dx, gs, g1.h _ _ hp, by rw [← hf.length]; exact Nat.le_of_ble_eq_true hz, n _ F1 _ ⟨(a.g.trans g1).move h0 hF1, sl_stillE hs (a.s.mono g1) fun w e => ?_⟩⟩
  rw [h1] at e; cases e
  exact ⟨_, rfl, h0, hF1, upd_same, (hf.mono g1.f).put rfl⟩
/-- a method that only reads -/
theorem e_methO {X : Type} {pf : X → List VP} {pre : X → Prop} {Rf : X → VP} {fs : List (Str × VP)} {m : Str} (x : X) (hp : pre x) (hi : G[i]? = some (obj C p dx fs)) (hm : fs.lookup m = none) (h : A G t qs) (e : pf x = Ov C fs :: qs) (hR : ∀ v F F', (Rf x).h v F → (Rf x).h v F') :
    E G (tMeth C m (spF pf pre Rf) [] E0 (tVar i) t) (Rf x) := fun F0 H0 s F H a Q q => by
  obtain ⟨o, h1, gs, rfl, h0, hF, hh, hf⟩ := a.s.get hi
  refine ⟨.ref p, h1, p, dx, gs, rfl, hh, hf.none hm, h F0 H0 s F H a _ fun vs F1 H1 g1 al => ?_⟩
  have hF1 : F1 p = none := (g1.o p (ne_none hh)).trans hF
  have hh1 := g1.h _ _ hh
  have sF : Same (upd F1 p (.ins C dx gs)) H1 := same_fix g1.i hh1
  refine ⟨x, upd F1 p (.ins C dx gs), hp, sF, by rw [List.append_nil, e]; exact ⟨⟨p, dx, gs, rfl, upd_same, (hf.mono g1.f).mono (fixS hF1)⟩, al.mono (fixS hF1)⟩, fun v F2 H2 g2 hv => q v (del F2 p) H2 ⟨fun b u e => ?_, g1.h.trans g2.h, fun b u e => g2.i b u (del_sub b u e), fun b z => ?_⟩ (hR _ _ _ hv)⟩
  · have nb := ne_of_none e hF
    rw [del_ne nb]
    exact g2.f b u (by rw [upd_ne nb]; exact g1.f b u e)
  · by_cases c : b = p
    · rw [c, del_same, hF]
    · rw [del_ne c, g2.o b (Same.some g1.h z), upd_ne c]; exact g1.o b z
end
/-! an object that is made -/
def objE (C : Addr) (fs : List (Str × VP)) : SP := ⟨fun H0 o F H => ∃ p dx, (obj C p dx fs).h H0 o F H, fun g ⟨p, dx, h⟩ => ⟨p, dx, (obj C p dx fs).mono g h⟩⟩
theorem sub_objE {G G1 : List SP} {C p dx : Addr} {fs : List (Str × VP)} (h : Sub G G1) : Sub (obj C p dx fs :: G) (objE C fs :: G1) := fun H0 s F H a => match s, a with
  | _ :: s, a => ⟨⟨p, dx, a.1⟩, h H0 s F H a.2⟩
theorem s_makeE {X : Type} {G : List SP} {t : TA} {R : VP} {C : Addr} {pf : X → List VP} {pre : X → Prop} {ff : X → List (Str × VP)} {j : Nat} (x : X) (hp : pre x) (h : A G t (pf x)) : S G (tAsg (tMake C (spI C pf pre ff) [] E0 t) (gName j)) (G.set j (objE C (ff x))) R := fun F0 H0 D s F H a n r => h F0 H0 s F H a _ fun vs F1 H1 g1 al => by
  intro y dx hy hd ne
  have hF : F1 y = none := g1.i.free hy
  have s1 : Same H1 (del (upd (upd H1 dx (.own y)) y (.ins C dx [])) y) := fun b o e => by
    have nb := ne_of_none e hy
    rw [del_ne nb, upd_ne nb, upd_ne (ne_of_none e hd)]; exact e
  refine ⟨x, F1, y, dx, vs, hp, by rw [List.append_nil], upd_same, hF, ?_, al, fun F2 H2 gs g2 hF2 hy2 hf => ⟨rfl, ?_⟩⟩
  · exact fun b o e => del_sub _ _ (s1 b o (g1.i b o e))
  · have g3 : Gr F1 H1 F2 H2 := ⟨g2.f, s1.trans g2.h, g2.i, fun b n => g2.o b (Same.some s1 n)⟩
    have a3 := (a.grow g1).grow g3
    exact n _ F2 H2 (a3.set (P := objE C (ff x)) j ⟨y, dx, gs, rfl, (a.g.trans g1).h.free hy, hF2, hy2, hf⟩)
theorem s_ex1 {G : List SP} {P : SP} {C : Addr} {fs : List (Str × VP)} {ts : TS} {G2 : List SP} {R : VP} (h : ∀ p dx, S (P :: obj C p dx fs :: G) ts G2 R) : S (P :: objE C fs :: G) ts G2 R := fun F0 H0 D s F H a n r => by
  match s, a with
  | v :: w :: s, ⟨g, h1, ⟨p, dx, h2⟩, h3⟩ => exact h p dx F0 H0 D (v :: w :: s) F H ⟨g, h1, h2, h3⟩ n r
  | [_], ⟨_, _, h⟩ => exact h.elim
  | [], ⟨_, h⟩ => exact h.elim
theorem t_ex1 {G : List SP} {P : SP} {C : Addr} {fs : List (Str × VP)} {tt : TT} {b : Bool} (h : ∀ p dx, T (P :: obj C p dx fs :: G) tt b) : T (P :: objE C fs :: G) tt b := fun F0 H0 s F H a Q q => by
  match s, a with
  | v :: w :: s, ⟨g, h1, ⟨p, dx, h2⟩, h3⟩ => exact h p dx F0 H0 (v :: w :: s) F H ⟨g, h1, h2, h3⟩ Q q
  | [_], ⟨_, _, h⟩ => exact h.elim
  | [], ⟨_, h⟩ => exact h.elim
end Lf
end
section
set_option Elab.async false
set_option linter.all false
set_option maxRecDepth 100000
set_option maxHeartbeats 2000000
local macro_rules | `(tactic| decreasing_trivial) => `(tactic| ((repeat (first | exact Ty.st_nil | apply Ty.st_im | apply Ty.st_any | apply Ty.se_0 | apply Ty.se_im | apply Ty.se_any | exact Ty.pu_nil | apply Ty.pu_im | apply Ty.pu_any | apply Ty.pe_0 | apply Ty.pe_imE | apply Ty.pe_anyE | exact Ty.sub_nil | apply Ty.sub_cons | apply Ty.sub_any)); done))
namespace Lf
open PySem PySem.Spec PyProof.Rows L2 Ty NB
/-- a list that may be the one that was handed in -/
def Lk (K : PySem.W.Frag) (ns : List Int) : VP := ⟨fun v F => ∃ p, v = .ref p ∧ SqL K F p (ns.map V.int), fun s ⟨p, e, h⟩ => ⟨p, e, s.seq h⟩⟩
def RDF (K : PySem.W.Frag) (ns : List Int) (k : Nat) : List (Str × VP) := [("calls", Lk K ns), ("place", Iv (k : Nat))]
theorem e_ixK {G : List SP} {K : PySem.W.Frag} {ta tb : TE} {ns : List Int} {k : Nat} (ha : E G ta (Lk K ns)) (hb : E G tb (Iv (k : Nat))) (hk : k < ns.length) : E G (tOp (rIxL K) ta tb) (Iv (ns.getD k 0)) := e_op2 ha hb fun x y F H Q i ⟨p, ex, sq⟩ hy q =>
  ⟨p, _, _, _, ex, hy, i.seq sq, atI_nat (cell_get hk), q _ F H (Gr.refl i) rfl⟩
theorem e_lenK {G : List SP} {K : PySem.W.Frag} {t : TA} {ns : List Int} (h : A G t [Lk K ns]) : E G (tCB (fun xs H Q => ∃ p ys, xs = [.ref p] ∧ (SqL K H p ys ∨ SqT K H p ys) ∧ Q (.int ys.length) H) t) (Iv (ns.length : Nat)) := fun F0 H0 s F H a Q q => h F0 H0 s F H a _ fun vs F1 H1 g1 al => by
  obtain ⟨x, rfl, ⟨p, rfl, sq⟩⟩ := all1 al
  exact ⟨p, _, rfl, .inl (g1.i.seq sq), q _ F1 H1 g1 (by show V.int _ = V.int _; rw [List.length_map])⟩
theorem el_sliceK {G : List SP} {K : PySem.W.Frag} {te : TE} {tlo thi : TO} {ns : List Int} {lo hi : Option Int} (h : E G te (Lk K ns)) (hl : PartO G tlo lo) (hh : PartO G thi hi) : EL G (tSl (rSlL K) te tlo thi) (((ns.map Iv).drop (HT.sIx (ns.map Iv).length 0 lo)).take (HT.sIx (ns.map Iv).length (ns.map Iv).length hi - HT.sIx (ns.map Iv).length 0 lo)) := fun F0 H0 s F H a Q q =>
  h F0 H0 s F H a _ fun v F1 H1 g1 ⟨p, ex, sq⟩ => hl F0 H0 s F1 H1 (a.grow g1) _ fun F2 H2 g2 => hh F0 H0 s F2 H2 (a.grow (g1.trans g2)) _ fun F3 H3 g3 =>
    have g := g1.trans (g2.trans g3)
    ⟨p, _, ex, g.i.seq ((g2.f.trans g3.f).seq sq), fun l hl => q l _ F3 _ (g.trans ((Gr.refl g.i).move hl (g.i.free hl))) (g.h.free hl) (g.i.free hl) upd_same (cut_all int_vals lo hi)⟩
def cV : List (List Int) → VP
  | (p :: nums) :: rows => Tv [Iv p, ArgV nums rows]
  | _ => Any
/-- a written tuple of two numbers -/
def KtV (K : PySem.W.Frag) (p : Nat × Nat) : VP := ⟨fun v _ => ∃ a, v = .ref a ∧ KTup K a [.int (p.1 : Nat), .int (p.2 : Nat)], fun _ h => h⟩
theorem ktup_sq {K : PySem.W.Frag} {a : Addr} {xs : List V} (h : KTup K a xs) (H : Hp) : SqT K H a xs := by
  obtain ⟨o, its, n, lk, hc, hd, hz, hv⟩ := h
  exact .inr ⟨o, its, n, lk, hc, hd, hz, hv⟩
def Rv (a : Addr) : VP := ⟨fun v _ => v = .ref a, fun _ h => h⟩
theorem e_ref {G : List SP} (a : Addr) : E G (tC (.ref a)) (Rv a) := fun F0 H0 s F H A Q q => q _ F H (Gr.refl A.g.i) rfl
theorem nat_iv (a b : Nat) : Iv ((a : Nat) + (b : Nat) : Int) = Iv ((a + b : Nat) : Int) := rfl
/-- places in the list of calls -/
structure AtP (ns l : List Int) (k : Nat) : Prop where
  e : l = ns.drop k
  le : k ≤ ns.length
theorem atp_of {ns l : List Int} (h : ∃ p, ns = p ++ l) : AtP ns l (ns.length - l.length) := ⟨suf_drop h, by omega⟩
theorem AtP.cons {ns r : List Int} {x : Int} {k : Nat} (h : AtP ns (x :: r) k) : k < ns.length ∧ ns.getD k 0 = x ∧ r = ns.drop (k + 1) ∧ r.length + (k + 1) = ns.length := by
  have e := h.e
  have hl : (x :: r).length = ns.length - k := by rw [e, List.length_drop]
  rw [List.length_cons] at hl
  have hk : k < ns.length := by omega
  rw [List.drop_eq_getElem_cons hk] at e
  injection e with e1 e2
  exact ⟨hk, by rw [List.getD_eq_getElem?_getD, List.getElem?_eq_getElem hk, e1]; rfl, e2, by omega⟩
section
variable {P : Program} {w : World} {K : PySem.W.Frag} {mg : Str → Option Value} {base : Heap} {n : Nm} (T : Txt K mg n)
include T
theorem ok_Reader_init : FnOk P w K mg base CX0 1 (n.ad 41) (n.fd 41) ["self", "calls"] (spI (n.cl 2) (fun x : List Int => [Lk K x]) (fun _ => True) (fun x => RDF K x 0)) := by
  refine init_ty (fun p dx x => [obj (n.cl 2) p dx (RDF K x 0), im (Lk K x)]) T.f_Reader_init sc_Reader_init (fun _ => rfl) (fun _ _ _ => rfl) fun cdv Ar outer s H E' hr => ⟨_, (pss_cons (ps_fld (pv 0) (pv 1) rfl)
        (pss_one (ps_fld (pv 0) pe_int rfl))), ?_⟩
  rintro p dx x _
  refine q_fld T.cl_Reader T.n_Reader_calls rfl (by decreasing_trivial) (e_var rfl) rfl ?_
  exact s_sub (s_fld (P := Iv ((0 : Nat) : Int)) T.cl_Reader T.n_Reader_place rfl (by decreasing_trivial) (e_int 0) rfl) (by exact sub_refl)
theorem ok_Reader_at_end : FnOk P w K mg base CX0 1 (n.ad 42) (n.fd 42) ["self"] (spF (fun x : List Int × Nat => [Ov (n.cl 2) (RDF K x.1 x.2)]) (fun _ => True) (fun x => Bv (decide ((x.1.length : Int) ≤ (x.2 : Int))))) := by
  refine fn_ty T.f_Reader_at_end sc_Reader_at_end (fun _ => rfl) fun cdv Ar outer s H E' hr => ⟨_, (pss_one (ps_ret (pe_cmpR op_ge (pe_fld (pv 0) rfl) (pe_callB call_len_seq (by rfl) T.b_len (by decide +kernel) (pa_cons (pe_fld (pv 0) rfl) pa_nil)) (nomark _)))), ?_⟩
  rintro ⟨ns, k⟩ _
  exact s_ret (e_ge (e_fld T.cl_Reader T.n_Reader_place (e_var rfl) rfl) (e_lenK (a_cons (e_fld T.cl_Reader T.n_Reader_calls (e_var rfl) rfl) a_nil)))
theorem ok_Reader_number : FnOk P w K mg base CX0 1 (n.ad 43) (n.fd 43) ["self"] (spMut (n.cl 2) (fun _ : List Int × Nat => []) (fun x => x.2 < x.1.length) (fun x => RDF K x.1 x.2) (fun x => RDF K x.1 (x.2 + 1)) (fun x => Iv (x.1.getD x.2 0))) := by
  refine mut_ty T.f_Reader_number sc_Reader_number (fun _ => rfl) fun cdv Ar outer s H E' hr => ⟨_, (pss_cons (ps_fldaug (pv 0) pe_int in_add)
        (pss_one (ps_ret (pe_ix ix_list (pe_fld (pv 0) rfl) (pe_op op_sub (pe_fld (pv 0) rfl) pe_int) (fun _ _ => rfl))))), ?_⟩
  rintro p dx ⟨ns, k⟩ hk
  have hk : k < ns.length := hk
  refine s_seq (s_fldAug (m := (k : Nat)) (k := 1) T.cl_Reader T.n_Reader_place rfl rfl (by decreasing_trivial) (e_int 1) rfl) ?_
  refine s_retO (i := 0) (fs := RDF K ns (k + 1)) rfl (e_ixK (k := k) (e_fldO T.cl_Reader T.n_Reader_calls rfl rfl) (E.eq (e_sub (e_fldO T.cl_Reader T.n_Reader_place rfl rfl) (e_int 1)) ?_) hk)
  show Iv ((k : Int) + 1 - 1) = Iv (k : Int)
  congr 1
  omega
theorem ok_Reader_row : FnOk P w K mg base CX0 2 (n.ad 44) (n.fd 44) ["self"] (spMut (n.cl 2) (fun _ : List Int × Nat => []) (fun x => x.2 < x.1.length ∧ 0 ≤ x.1.getD x.2 0 ∧ x.2 + 1 + (x.1.getD x.2 0).toNat ≤ x.1.length) (fun x => RDF K x.1 x.2) (fun x => RDF K x.1 (x.2 + 1 + (x.1.getD x.2 0).toNat)) (fun x => Li ((x.1.drop (x.2 + 1)).take (x.1.getD x.2 0).toNat))) := by
  have G_Reader_number := ok_Reader_number (P := P) (w := w) (base := base) T
  refine mut_ty T.f_Reader_row sc_Reader_row (fun _ => rfl) fun cdv Ar outer s H E' hr => ⟨_, (pss_cons (ps_set (i := 1) sc_Reader_row.nd rfl (Or.inl rfl) (pe_meth0 (pv 0) T.cl_Reader T.m_Reader_number G_Reader_number hr T.b_Reader_number .nil pass0))
        (pss_cons (ps_fldaug (pv 0) (pv 1) in_add)
        (pss_one (ps_ret (pe_slice sl_list (pe_fld (pv 0) rfl) (po_some (pe_op op_sub (pe_fld (pv 0) rfl) (pv 1))) (po_some (pe_fld (pv 0) rfl))))))), ?_⟩
  rintro p dx ⟨ns, k⟩ ⟨hk, h0, hz⟩
  have hk : k < ns.length := hk
  have h0 : 0 ≤ ns.getD k 0 := h0
  have hz : k + 1 + (ns.getD k 0).toNat ≤ ns.length := hz
  generalize hL : (ns.getD k 0).toNat = L at *
  have e0 : ns.getD k 0 = (L : Int) := by omega
  refine s_seq (s_mut (i := 0) (j := 1) (ns, k) hk rfl rfl a_nil (ab_cons aw_any ab_nil)) ?_
  refine s_seq (s_fldAug (i := 0) (m := ((k + 1 : Nat) : Int)) (k := ns.getD k 0) T.cl_Reader T.n_Reader_place rfl rfl (by decreasing_trivial) (e_var rfl) rfl) ?_
  have ef : putP "place" (Iv (((k + 1 : Nat) : Int) + ns.getD k 0)) (RDF K ns (k + 1)) = RDF K ns (k + 1 + L) := by
    rw [e0]; rfl
  show S [obj (n.cl 2) p dx (putP "place" (Iv (((k + 1 : Nat) : Int) + ns.getD k 0)) (RDF K ns (k + 1))), im (Iv (ns.getD k 0))] _ _ _
  rw [ef]
  refine s_retO (i := 0) rfl (E.of (EL.eq (el_sliceK (e_fldO T.cl_Reader T.n_Reader_calls rfl rfl) (po_so (E.eq (e_sub (e_fldO T.cl_Reader T.n_Reader_place rfl rfl) (e_var rfl)) (show Iv _ = Iv ((k + 1 : Nat) : Int) from ?_))) (po_so (e_fldO T.cl_Reader T.n_Reader_place rfl rfl))) ?_))
  · congr 1
    rw [e0]
    show ((k + 1 + L : Nat) : Int) - (L : Int) = _
    omega
  · rw [HT.sIx_nat, HT.sIx_nat, List.length_map, Nat.min_eq_left hz, Nat.min_eq_left (by omega), ← List.map_drop, ← List.map_take]
    congr 2
    omega
theorem ok_Reader_call : FnOk P w K mg base CX0 3 (n.ad 45) (n.fd 45) ["self"] (spMut (n.cl 2) (fun _ : List Int × Nat × Int × List Int × List (List Int) × List Int => []) (fun x => x.1.length ≤ 100000 ∧ ∃ l, AtP x.1 l x.2.1 ∧ CallP l x.2.2.1 x.2.2.2.1 x.2.2.2.2.1 x.2.2.2.2.2) (fun x => RDF K x.1 x.2.1) (fun x => RDF K x.1 (x.1.length - x.2.2.2.2.2.length)) (fun x => Tv [Iv x.2.2.1, ArgV x.2.2.2.1 x.2.2.2.2.1])) := by
  have G_Reader_number := ok_Reader_number (P := P) (w := w) (base := base) T
  have G_Reader_row := ok_Reader_row (P := P) (w := w) (base := base) T
  refine mut_ty T.f_Reader_call sc_Reader_call (fun _ => rfl) fun cdv Ar outer s H E' hr => ⟨_, (pss_cons (ps_set (i := 1) sc_Reader_call.nd rfl (Or.inl rfl) (pe_meth0 (pv 0) T.cl_Reader T.m_Reader_number G_Reader_number (hr.mono (by decide)) T.b_Reader_number .nil pass0))
        (pss_cons (ps_set (i := 2) sc_Reader_call.nd rfl (Or.inl rfl) (pe_ix ix_tup (pe_rf rfl T.g_SHAPES) (pv 1) (fun _ _ => rfl)))
        (pss_cons (ps_set (i := 3) sc_Reader_call.nd rfl (Or.inl rfl) (pe_lst pa_nil))
        (pss_cons (ps_for PassesOwn.never rfl (pi_range1 rfl T.b_range (pa_cons (pe_ix ix_tup (pv 2) pe_int (fun _ _ => rfl)) pa_nil)) (pg_name (i := 4) sc_Reader_call.nd rfl (Or.inl rfl)) (pss_one (ps_expr (pe_bm PySem.F.plainAttrs_list PySem.F.slot_list_append PySem.F.type_list_append mt_append (pv 3) (pa_cons (pe_meth0 (pv 0) T.cl_Reader T.m_Reader_number G_Reader_number (hr.mono (by decide)) T.b_Reader_number .nil pass0) pa_nil)))))
        (pss_cons (ps_for PassesOwn.never rfl (pi_range1 rfl T.b_range (pa_cons (pe_ix ix_tup (pv 2) pe_int (fun _ _ => rfl)) pa_nil)) (pg_name (i := 4) sc_Reader_call.nd rfl (Or.inl rfl)) (pss_one (ps_expr (pe_bm PySem.F.plainAttrs_list PySem.F.slot_list_append PySem.F.type_list_append mt_append (pv 3) (pa_cons (pe_meth0 (pv 0) T.cl_Reader T.m_Reader_row G_Reader_row hr T.b_Reader_row .nil pass0) pa_nil)))))
        (pss_one (ps_ret (pe_tup (pa_cons (pv 1) (pa_cons (pv 3) pa_nil)))))))))), ?_⟩
  rintro p dx ⟨ns, k, op, nums, rows, t⟩ ⟨hz0, l, ha0, hC0⟩
  have hz : ns.length ≤ 100000 := hz0
  have ha : AtP ns l k := ha0
  have hC : CallP l op nums rows t := hC0
  clear hz0 ha0 hC0
  obtain ⟨n', k', r, rfl, hs, hn, rfl, hr'⟩ := hC.ex
  obtain ⟨hk, hg, er, hrl⟩ := ha.cons
  obtain ⟨p0, p26, hsh⟩ := shape_get hs
  obtain ⟨R1, R2, R3⟩ := rows_rem hr'
  have n2 : n' ≤ 100000 := by omega
  -- operation = self.number()
  refine s_seq (s_mut (i := 0) (j := 1) (ns, k) hk rfl rfl a_nil (ab_cons aw_any (ab_cons aw_any (ab_cons aw_any (ab_cons aw_any ab_nil))))) ?_
  show S [obj (n.cl 2) p dx (RDF K ns (k + 1)), im (Iv (ns.getD k 0)), any, any, any] _ _ _
  rw [hg]
  -- shape = SHAPES[operation]
  refine q_asg (P := KtV K (n', k')) (e_op2 (e_ref _) (e_var rfl) fun x y F H Q i hx hy q => ?_) ?_
  · obtain ⟨as, s1, s2, s3⟩ := T.shp
    have hy : y = .int op := hy
    have hi : op.toNat < as.length := by omega
    have ea : as[op.toNat]? = some as[op.toNat] := List.getElem?_eq_getElem hi
    have e2 : (as.map V.ref)[op.toNat]? = some (V.ref as[op.toNat]) := by rw [List.getElem?_map, ea]; rfl
    refine ⟨_, _, ((op.toNat : Nat) : Int), _, hx, by rw [hy]; congr 1; omega, ktup_sq s1 H, atI_nat e2, q _ F H (Gr.refl i) ⟨_, rfl, s3 _ _ ea (n', k') hsh⟩⟩
  -- arguments = []
  refine q_asgL (ps := ((r.take 0).map Iv)) (el_lst a_nil) ?_
  have sh0 : E [obj (n.cl 2) p dx (RDF K ns (k + 1)), im (Iv op), im (KtV K (n', k')), own ((r.take 0).map Iv), any] (tOp (rIxT K) (tVar 2) (tC (.int 0))) (Iv (n' : Nat)) := e_op2 (P1 := KtV K (n', k')) (P2 := Iv 0) (e_var rfl) (e_int 0) fun x y F H Q i ⟨a, hx, ht⟩ hy q =>
    ⟨a, _, (0 : Nat), _, hx, hy, ktup_sq ht H, atI_nat rfl, q _ F H (Gr.refl i) rfl⟩
  have at1 : ∀ i, i ≤ n' → AtP ns (r.drop i) (k + 1 + i) := fun i hi => ⟨by rw [er, List.drop_drop], by omega⟩
  refine q_for (s_forR (m := n') (fun i => [obj (n.cl 2) p dx (RDF K ns (k + 1 + i)), im (Iv op), im (KtV K (n', k')), own ((r.take i).map Iv), any]) (a_cons sh0 a_nil) (by omega) sub_refl fun i hi => ?_) ?_
  · have hi2 : i < r.length := by omega
    have gi : ns.getD (k + 1 + i) 0 = r[i] := by
      have hk2 : k + 1 + i < ns.length := by omega
      have e2 := (at1 i (by omega)).e
      rw [List.drop_eq_getElem_cons hi2, List.drop_eq_getElem_cons hk2] at e2
      injection e2 with e3 _
      rw [List.getD_eq_getElem?_getD, List.getElem?_eq_getElem hk2, e3]; rfl
    rw [take_succ (List.getElem?_eq_getElem hi2), List.map_append]
    refine s_sub (s_mutApp (i := 0) (j := 3) (ps := (r.take i).map Iv) (ns, k + 1 + i) (by show k + 1 + i < ns.length; omega) rfl rfl a_nil (ab_cons aw_im (ab_cons aw_im (ab_cons aw_own (ab_cons aw_im ab_nil)))) rfl ⟨al_obj, al_im, al_im, ab_cons al_im ab_nil⟩ ?_ rfl) ?_
    · rw [List.length_map, List.length_take]
      exact Nat.lt_of_le_of_lt (m := 100000) (by omega) (by decide)
    · show Sub [obj (n.cl 2) p dx (RDF K ns (k + 1 + i + 1)), im (Iv op), im (KtV K (n', k')), own ((r.take i).map Iv ++ [Iv (ns.getD (k + 1 + i) 0)]), im (Iv (i : Nat))] _
      rw [gi]
      exact sub_cons (sub_cons (sub_cons (sub_cons (sub_any sub_nil))))
  -- the lists
  have hsuf : ∃ q, ns = q ++ r.drop n' := ⟨ns.take (k + 1 + n'), by rw [(at1 n' (Nat.le_refl _)).e, List.take_append_drop]⟩
  have pl : ∀ i, i ≤ k' → AtP ns (rrem (r.drop n') i) (ns.length - (rrem (r.drop n') i).length) := fun i hi => atp_of (suf_rrem hsuf hr' i hi)
  have p0' : ns.length - (rrem (r.drop n') 0).length = k + 1 + n' := by
    show ns.length - (r.drop n').length = _
    rw [List.length_drop]; omega
  have k2 : k' ≤ 2 := by
    have : ∀ x ∈ shapesL', x.2 ≤ 2 := by decide
    exact this _ (List.mem_of_getElem? hsh)
  have sh1 : E [obj (n.cl 2) p dx (RDF K ns (k + 1 + n')), im (Iv op), im (KtV K (n', k')), own ((r.take n').map Iv), any] (tOp (rIxT K) (tVar 2) (tC (.int 1))) (Iv (k' : Nat)) := e_op2 (P1 := KtV K (n', k')) (P2 := Iv 1) (e_var rfl) (e_int 1) fun x y F H Q i ⟨a, hx, ht⟩ hy q =>
    ⟨a, _, (1 : Nat), _, hx, hy, ktup_sq ht H, atI_nat rfl, q _ F H (Gr.refl i) rfl⟩
  have inv0 : (r.take n').map Iv = (r.take n').map Iv ++ (rows.take 0).map Li := by simp
  refine q_for (s_forR (m := k') (fun i => [obj (n.cl 2) p dx (RDF K ns (ns.length - (rrem (r.drop n') i).length)), im (Iv op), im (KtV K (n', k')), own ((r.take n').map Iv ++ (rows.take i).map Li), any]) (a_cons sh1 a_nil) (by omega) ?_ fun i hi => ?_) ?_
  · rw [p0', ← inv0]; exact sub_refl
  · obtain ⟨L, q, e1, e2, e3, e4, e5⟩ := row_parts (R3 i hi)
    have A := pl i (by omega)
    generalize hpk : ns.length - (rrem (r.drop n') i).length = pk at *
    have A' : AtP ns (L :: q) pk := by rw [← e1]; exact A
    obtain ⟨b1, b2, b3, b4⟩ := A'.cons
    have hri : i < rows.length := by omega
    have g5 : rows[i]? = some (q.take L.toNat) := by rw [List.getElem?_eq_getElem hri, ← SV.getD_lt (d := []) hri, e4]
    have nxt : ns.length - (rrem (r.drop n') (i + 1)).length = pk + 1 + L.toNat := by
      rw [e5, List.length_drop]; omega
    rw [take_succ g5, List.map_append, ← List.append_assoc, nxt]
    refine s_sub (s_mutApp (i := 0) (j := 3) (ps := (r.take n').map Iv ++ (rows.take i).map Li) (ns, pk) ⟨b1, by show 0 ≤ ns.getD pk 0; rw [b2]; exact e2, by show pk + 1 + (ns.getD pk 0).toNat ≤ ns.length; rw [b2]; omega⟩ rfl rfl a_nil (ab_cons aw_im (ab_cons aw_im (ab_cons aw_own (ab_cons aw_im ab_nil)))) rfl ⟨al_obj, al_im, al_im, ab_cons al_im ab_nil⟩ ?_ rfl) ?_
    · rw [List.length_append, List.length_map, List.length_map, List.length_take, List.length_take]
      exact Nat.lt_of_le_of_lt (m := 200000) (by omega) (by decide)
    · show Sub [obj (n.cl 2) p dx (RDF K ns (pk + 1 + (ns.getD pk 0).toNat)), im (Iv op), im (KtV K (n', k')), own ((r.take n').map Iv ++ (rows.take i).map Li ++ [Li ((ns.drop (pk + 1)).take (ns.getD pk 0).toNat)]), im (Iv (i : Nat))] _
      rw [b2, ← b3]
      exact sub_cons (sub_cons (sub_cons (sub_cons (sub_any sub_nil))))
  · rw [R2, ← R1, List.take_length]
    refine s_fixL 3 rfl ⟨fl_obj, fl_im, fl_im, ab_cons fl_any ab_nil⟩ ?_
    exact s_retO (i := 0) rfl (e_tup (a_cons (e_var rfl) (a_cons (e_var rfl) a_nil)))
theorem ok_read_calls : FnOk P w K mg base CX0 4 (n.ad 46) (n.fd 46) ["calls"] (spF (fun x : List Int × List (List (List Int)) => [Lk K x.1]) (fun x => x.1.length ≤ 100000 ∧ x.2.length ≤ 1000 ∧ ∃ f, PyFlat.calls PyKxd4.shape f x.1 = some x.2) (fun x => Lv (x.2.map cV))) := by
  have G_Reader_init := ok_Reader_init (P := P) (w := w) (base := base) T
  have G_Reader_at_end := ok_Reader_at_end (P := P) (w := w) (base := base) T
  have G_Reader_call := ok_Reader_call (P := P) (w := w) (base := base) T
  refine fn_ty T.f_read_calls sc_read_calls (fun _ => rfl) fun cdv Ar outer s H E' hr => ⟨_, (pss_cons (ps_set (i := 1) sc_read_calls.nd rfl (Or.inl rfl) (pe_make T.mk_Reader G_Reader_init (hr.mono (by decide)) rfl T.g_Reader T.b_Reader_init .nil pass0 (pa_cons (pv 0) pa_nil)))
        (pss_cons (ps_set (i := 2) sc_read_calls.nd rfl (Or.inl rfl) (pe_lst pa_nil))
        (pss_cons (ps_while PassesOwn.never (pt_not (pt_val (pe_meth0 (pv 1) T.cl_Reader T.m_Reader_at_end G_Reader_at_end (hr.mono (by decide)) T.b_Reader_at_end .nil pass0))) (pss_one (ps_expr (pe_bm PySem.F.plainAttrs_list PySem.F.slot_list_append PySem.F.type_list_append mt_append (pv 2) (pa_cons (pe_meth0 (pv 1) T.cl_Reader T.m_Reader_call G_Reader_call hr T.b_Reader_call .nil pass0) pa_nil)))))
        (pss_one (ps_ret (pv 2)))))), ?_⟩
  rintro ⟨ns, cs⟩ ⟨hz, hc, f, hf⟩
  have hz : ns.length ≤ 100000 := hz
  have hc : cs.length ≤ 1000 := hc
  have hf : PyFlat.calls PyKxd4.shape f ns = some cs := hf
  obtain ⟨C1, C2⟩ := calls_rem hf
  have pl : ∀ i, i ≤ cs.length → AtP ns (crem ns i) (ns.length - (crem ns i).length) := fun i hi => atp_of (crem_suf hf i hi)
  have p0 : ns.length - (crem ns 0).length = 0 := Nat.sub_self _
  refine s_seq (s_makeE ns trivial (a_cons (e_var rfl) a_nil)) ?_
  refine q_asgL (ps := ((cs.take 0).map cV)) (el_lst a_nil) ?_
  refine s_seq (s_while (Z := { i : Nat // i ≤ cs.length }) (G2 := [im (Lk K ns), any, own (cs.map cV)]) (fun z => [im (Lk K ns), objE (n.cl 2) (RDF K ns (ns.length - (crem ns z.1).length)), own ((cs.take z.1).map cV)]) (fun z => cs.length - z.1) ⟨0, Nat.zero_le _⟩ ?_ (fun z => decide (z.1 < cs.length)) (fun z => ?_) (fun z hb => ?_) fun z hb => ?_) ?_
  · rw [p0]; exact sub_refl
  · obtain ⟨i, hi⟩ := z
    refine t_ex1 fun p dx => Ty.T.eq (t_not (t_val (e_methO (i := 1) (ns, ns.length - (crem ns i).length) trivial rfl rfl a_nil rfl fun v F F' h => h))) ?_
    have A := pl i hi
    show (!decide ((ns.length : Int) ≤ ((ns.length - (crem ns i).length : Nat) : Int))) = decide (i < cs.length)
    by_cases c : i < cs.length
    · rw [decide_eq_true c]
      have : (crem ns i).length ≠ 0 := fun e => by
        have e := List.length_eq_zero_iff.mp e
        have := C2 i c
        rw [e] at this; cases this
      have : (crem ns i).length ≤ ns.length := by
        have := congrArg List.length A.e
        rw [List.length_drop] at this
        omega
      rw [decide_eq_false (by omega)]; rfl
    · have e : i = cs.length := by omega
      rw [decide_eq_false c, e, C1]
      rw [decide_eq_true (by simp)]; rfl
  · obtain ⟨i, hi⟩ := z
    have hb : i < cs.length := by simpa using hb
    refine ⟨⟨i + 1, hb⟩, by show cs.length - (i + 1) < cs.length - i; omega, s_ex1 fun p dx => ?_⟩
    obtain ⟨op, nums, rows, ec, C⟩ := call_parts (C2 i hb)
    have g5 : cs[i]? = some ((op :: nums) :: rows) := by rw [List.getElem?_eq_getElem hb, ← SV.getD_lt (d := []) hb, ec]
    show S _ _ [im (Lk K ns), objE (n.cl 2) (RDF K ns (ns.length - (crem ns (i + 1)).length)), own ((cs.take (i + 1)).map cV)] _
    rw [take_succ g5, List.map_append]
    refine s_sub (s_mutApp (i := 1) (j := 2) (ps := (cs.take i).map cV) (ns, ns.length - (crem ns i).length, op, nums, rows, crem ns (i + 1)) ⟨hz, crem ns i, pl i hi, C⟩ rfl rfl a_nil ⟨aw_im, ab_cons aw_own ab_nil⟩ rfl ⟨al_im, al_obj, ab_nil⟩ ?_ rfl) ?_
    · rw [List.length_map, List.length_take]
      exact Nat.lt_of_le_of_lt (m := 1000) (by omega) (by decide)
    · exact sub_cons (sub_objE (sub_cons sub_nil))
  · obtain ⟨i, hi⟩ := z
    have hb : ¬ i < cs.length := by simpa using hb
    have e : i = cs.length := by omega
    subst e
    rw [List.take_length]
    exact sub_cons (sub_any (sub_cons sub_nil))
  · exact s_fix 2 rfl (by decreasing_trivial) (s_ret (e_var rfl))
end
end Lf
end
section
set_option Elab.async false
set_option linter.all false
set_option maxRecDepth 100000
set_option maxHeartbeats 2000000
local macro_rules | `(tactic| decreasing_trivial) => `(tactic| ((repeat (first | exact Ty.st_nil | apply Ty.st_im | apply Ty.st_any | apply Ty.se_0 | apply Ty.se_im | apply Ty.se_any | exact Ty.pu_nil | apply Ty.pu_im | apply Ty.pu_any | apply Ty.pe_0 | apply Ty.pe_imE | apply Ty.pe_anyE | exact Ty.sub_nil | apply Ty.sub_cons | apply Ty.sub_any)); done))
namespace Lf
open PySem PySem.Spec PyProof.Rows L2 Ty NB
/-! the model as it lies in the heap, with lists of its own -/
def mFs (m : ModD) (t lr ly : Addr) : List (Str × V) := [("column_count", .int (m.cc : Nat)), ("terms", .ref t), ("rows", .ref lr), ("responses", .ref ly)]
structure MdH (n : Nm) (F H : Hp) (p dx : Addr) (m : ModD) (t lr ly : Addr) (rows : List V) : Prop where
  fp : F p = none
  fr : F lr = none
  fy : F ly = none
  hp : H p = some (.ins (n.cl 4) dx (mFs m t lr ly))
  hr : H lr = some (.lst rows)
  hy : H ly = some (.lst (m.resp.map V.int))
  ft : F t = some (.lst (m.terms.map fun i => .int (i : Nat)))
  al : AllP (m.rows.map Li) rows F
  ne : lr ≠ ly
theorem MdH.npr {n : Nm} {F H : Hp} {p dx : Addr} {m : ModD} {t lr ly : Addr} {rows : List V} (h : MdH n F H p dx m t lr ly rows) : p ≠ lr := ne_of h.hp h.hr (by intro z; cases z)
theorem MdH.npy {n : Nm} {F H : Hp} {p dx : Addr} {m : ModD} {t lr ly : Addr} {rows : List V} (h : MdH n F H p dx m t lr ly rows) : p ≠ ly := ne_of h.hp h.hy (by intro z; cases z)
theorem MdH.grow {n : Nm} {F H F' H' : Hp} {p dx : Addr} {m : ModD} {t lr ly : Addr} {rows : List V} (h : MdH n F H p dx m t lr ly rows) (g : Gr F H F' H') : MdH n F' H' p dx m t lr ly rows :=
  ⟨(g.o p (ne_none h.hp)).trans h.fp, (g.o lr (ne_none h.hr)).trans h.fr, (g.o ly (ne_none h.hy)).trans h.fy, g.h _ _ h.hp, g.h _ _ h.hr, g.h _ _ h.hy, g.f _ _ h.ft, h.al.mono g.f, h.ne⟩
def mdl (n : Nm) (B : Hp) (p dx : Addr) (m : ModD) : SP := ⟨fun H0 o F H => H0 = B ∧ ∃ t lr ly rows, o = some (.ref p) ∧ B p = none ∧ B lr = none ∧ B ly = none ∧ MdH n F H p dx m t lr ly rows,
  fun g ⟨e0, t, lr, ly, rows, e, h1, h2, h3, h⟩ => ⟨e0, t, lr, ly, rows, e, h1, h2, h3, h.grow g⟩⟩
/-- the model stands still for a while -/
def frz (n : Nm) (F : Hp) (p dx : Addr) (m : ModD) (t lr ly : Addr) (rows : List V) : Hp := upd (upd (upd F lr (.lst rows)) ly (.lst (m.resp.map V.int))) p (.ins (n.cl 4) dx (mFs m t lr ly))
section
variable {n : Nm} {F H : Hp} {p dx : Addr} {m : ModD} {t lr ly : Addr} {rows : List V}
theorem frz_ne {a : Addr} (h1 : a ≠ p) (h2 : a ≠ lr) (h3 : a ≠ ly) : frz n F p dx m t lr ly rows a = F a := by
  unfold frz
  rw [upd_ne h1, upd_ne h3, upd_ne h2]
theorem MdH.up (h : MdH n F H p dx m t lr ly rows) : Same F (frz n F p dx m t lr ly rows) := fun a u e => by
  rw [frz_ne (ne_of_none e h.fp) (ne_of_none e h.fr) (ne_of_none e h.fy)]; exact e
theorem MdH.dn (h : MdH n F H p dx m t lr ly rows) (sf : Same F H) : Same (frz n F p dx m t lr ly rows) H := same_fix (same_fix (same_fix sf h.hr) h.hy) h.hp
theorem ln_vals2 : ∀ {l : List Nat} {F : Hp}, AllP (l.map fun i => Iv (i : Nat)) (l.map fun i => V.int (i : Nat)) F
  | [], _ => trivial
  | _ :: l, _ => ⟨rfl, ln_vals2 (l := l)⟩
theorem MdH.val (h : MdH n F H p dx m t lr ly rows) : (ModV n m).h (.ref p) (frz n F p dx m t lr ly rows) := by
  have c1 : frz n F p dx m t lr ly rows lr = some (.lst rows) := by
    unfold frz
    rw [upd_ne h.npr.symm, upd_ne h.ne, upd_same]
  have c2 : frz n F p dx m t lr ly rows ly = some (.lst (m.resp.map V.int)) := by
    unfold frz
    rw [upd_ne h.npy.symm, upd_same]
  have c3 : frz n F p dx m t lr ly rows p = some (.ins (n.cl 4) dx (mFs m t lr ly)) := upd_same
  exact ⟨p, dx, _, rfl, c3, rfl, rfl, rfl, ⟨t, _, rfl, h.up _ _ h.ft, ln_vals2⟩, rfl, ⟨lr, rows, rfl, c1, h.al.mono h.up⟩, rfl, ⟨ly, _, rfl, c2, int_vals⟩, trivial⟩
/-- and moves again -/
theorem MdH.thaw {F1 H1 : Hp} (h : MdH n F H p dx m t lr ly rows) (sf : Same F H) (g : Gr (frz n F p dx m t lr ly rows) H F1 H1) : Gr F H (dl F1 p lr ly) H1 ∧ MdH n (dl F1 p lr ly) H1 p dx m t lr ly rows := by
  have s1 : Same F (dl F1 p lr ly) := fun a u e => by
    rw [dl_ne (ne_of_none e h.fp) (ne_of_none e h.fr) (ne_of_none e h.fy)]
    exact g.f _ _ (h.up _ _ e)
  refine ⟨⟨s1, g.h, dl_sub.trans g.i, fun a z => ?_⟩, ⟨?_, ?_, ?_, g.h _ _ h.hp, g.h _ _ h.hr, g.h _ _ h.hy, s1 _ _ h.ft, h.al.mono s1, h.ne⟩⟩
  · by_cases e1 : a = p
    · subst e1
      rw [h.fp]; unfold dl; rw [del_ne h.npy, del_ne h.npr, del_same]
    · by_cases e2 : a = lr
      · subst e2
        rw [h.fr]; unfold dl; rw [del_ne h.ne, del_same]
      · by_cases e3 : a = ly
        · subst e3
          rw [h.fy]; unfold dl; rw [del_same]
        · rw [dl_ne e1 e2 e3, g.o a z, frz_ne e1 e2 e3]
  · unfold dl; rw [del_ne h.npy, del_ne h.npr, del_same]
  · unfold dl; rw [del_ne h.ne, del_same]
  · unfold dl; rw [del_same]
theorem dl_p {H : Hp} {p tp pp : Addr} : dl H p tp pp p = none := by
  unfold dl del
  split
  · rfl
  · split
    · rfl
    · rw [if_pos rfl]
theorem dl_t {H : Hp} {p tp pp : Addr} : dl H p tp pp tp = none := by
  unfold dl del
  split
  · rfl
  · rw [if_pos rfl]
theorem dl_q {H : Hp} {p tp pp : Addr} : dl H p tp pp pp = none := by
  unfold dl
  exact del_same
end
/-- an operation's promise -/
def spOp (n : Nm) (op : ModD → List Int → List (List Int) → ModD × List Int) (pre : ModD → List Int → List (List Int) → Prop) : Sp := fun vs H Q _ => ∃ m ns ls F p dx a t lr ly rows, pre m ns ls ∧ Same F H ∧ vs = [.ref p, a] ∧ (ArgV ns ls).h a F ∧ MdH n F H p dx m t lr ly rows ∧
  ∀ F' H' q t' lr' ly' rows', Gr F (dl H p lr ly) F' H' → MdH n F' H' p dx (op m ns ls).1 t' lr' ly' rows' → dl H p lr ly lr' = none → dl H p lr ly ly' = none → H' q = some (.lst ((op m ns ls).2.map V.int)) → (F' q ≠ none ∨ dl H p lr ly q = none) → Q (.ref q) H'
section
variable {Pg : Program} {w : World} {K : PySem.W.Frag} {mg : Str → Option Value} {base : Heap} {n : Nm}
/-- of an operation that only reads -/
theorem q_op {X : Type} {pf : X → List VP} {preX : X → Prop} {Rf : X → VP} {k : Nat} {f : Addr} {fd : FuncData} {pn : List Str} (Fn : FnOk Pg w K mg base CX0 k f fd pn (spF pf preX Rf)) {op : ModD → List Int → List (List Int) → ModD × List Int} {pre : ModD → List Int → List (List Int) → Prop}
    (hx : ∀ m ns ls, pre m ns ls → ∃ x P0 l, pf x = [P0, ArgV ns ls] ∧ (∀ v F, (ModV n m).h v F → P0.h v F) ∧ preX x ∧ Rf x = Li l ∧ op m ns ls = (m, l)) : FnOk Pg w K mg base CX0 k f fd pn (spOp n op pre) := by
  refine Fn.imp fun vs H Q E h => ?_
  obtain ⟨m, ns, ls, F, p, dx, a, t, lr, ly, rows, hp, sf, rfl, ha, hm, q⟩ := h
  obtain ⟨x, P0, l, e1, e0, e2, e3, e4⟩ := hx m ns ls hp
  rw [e4] at q
  refine ⟨x, frz n F p dx m t lr ly rows, e2, hm.dn sf, by rw [e1]; exact ⟨e0 _ _ hm.val, (ArgV ns ls).mono hm.up ha, trivial⟩, fun v F1 H1 g hv => ?_⟩
  rw [e3] at hv
  obtain ⟨r, xs, rfl, hr, al⟩ := hv
  have ex := vals_int al
  subst ex
  obtain ⟨g2, h2⟩ := hm.thaw sf g
  refine q (dl F1 p lr ly) H1 r t lr ly rows ⟨g2.f, dl_sub.trans g2.h, g2.i, fun a z => g2.o a ?_⟩ h2 dl_t dl_q (g.i _ _ hr) ?_
  · exact (dl_some z).2.2.2
  · by_cases c : r = p ∨ r = lr ∨ r = ly
    · right
      rcases c with c | c | c
      · rw [c]; exact dl_p
      · rw [c]; exact dl_t
      · rw [c]; exact dl_q
    · left
      rw [not_or, not_or] at c
      rw [dl_ne c.1 c.2.1 c.2.2, hr]
      intro z; cases z
/-- what an operation gives back, the model frozen -/
def retM (n : Nm) (B : Hp) (p dx : Addr) (m : ModD) (l : List Int) : VP := ⟨fun v F => ∃ q F1 t lr ly rows, v = .ref q ∧ F q = some (.lst (l.map V.int)) ∧ Same F1 F ∧ B lr = none ∧ B ly = none ∧ MdH n F1 F p dx m t lr ly rows,
  fun s ⟨q, F1, t, lr, ly, rows, e, h1, s1, h2, h3, h⟩ => ⟨q, F1, t, lr, ly, rows, e, s _ _ h1, s1.trans s, h2, h3, ⟨h.fp, h.fr, h.fy, s _ _ h.hp, s _ _ h.hr, s _ _ h.hy, h.ft, h.al, h.ne⟩⟩⟩
theorem op_ty {op : ModD → List Int → List (List Int) → ModD × List Int} {pre : ModD → List Int → List (List Int) → Prop} {x qual : Str} {st : Stmt} {f : Addr} {fd : FuncData} {N pn : List Str} {k : Nat} (Fn : Fun K x qual st f fd) (Sc : FnScope N pn (defScope st)) (hl : pn.length = 2)
    (hb : ∀ (cdv : Value) (Ar : Around) (outer : List Env) (s : Shared) (H : Hp) (E' : XK), Room k (Ar.deeper (envOfC qual (defScope st) s.heap.objs.size f cdv)) →
      ∃ t, PSs (cxOf CX0 Pg w K mg base N qual (defScope st) f cdv Ar outer s H E').nox (defBody st) t ∧ ∀ B p dx m ns ls, pre m ns ls → S (mdl n B p dx m :: im (ArgV ns ls) :: List.replicate (N.length - pn.length) any) t [bot] (retM n B p dx (op m ns ls).1 (op m ns ls).2)) : FnOk Pg w K mg base CX0 (k + 1) f fd pn (spOp n op pre) := by
  refine Fn.ok Sc (fun vs H Q E' h => ?_) fun cdv Ar outer s H vs Q E' hr h => ?_
  · obtain ⟨m, ns, ls, F, p, dx, a, t, lr, ly, rows, hp, sf, rfl, _⟩ := h
    rw [hl]; rfl
  · obtain ⟨m, ns, ls, F, p, dx, a, t, lr, ly, rows, hp, sf, rfl, ha, hm, q⟩ := h
    obtain ⟨ts, h1, h2⟩ := hb cdv Ar outer s H E' hr
    refine ⟨ts, h1, ?_⟩
    have sB : Same F (dl H p lr ly) := fun a u e => by
      rw [dl_ne (ne_of_none e hm.fp) (ne_of_none e hm.fr) (ne_of_none e hm.fy)]; exact sf a u e
    refine h2 (dl H p lr ly) p dx m ns ls hp F (dl H p lr ly) _ _ F H ⟨⟨Same.refl _, dl_sub, sf, fun _ _ => rfl⟩, ?_⟩ (fun s' F' H' a => (bot_no a.s).elim) fun v F' H' g r => ?_
    · unfold L2.start
      have := sl_start (H0 := dl H p lr ly) (F := F) (H := H) (ps := [ArgV ns ls]) (vs := [a]) (N.length - pn.length) ⟨ha, trivial⟩
      rw [hl] at this ⊢
      exact ⟨⟨rfl, t, lr, ly, rows, rfl, dl_p, dl_t, dl_q, hm⟩, this⟩
    · obtain ⟨r, F1, t', lr', ly', rows', rfl, e1, s1, b1, b2, h⟩ := r
      have s2 : Same F1 (dl F' p lr' ly') := fun a u e => by
        rw [dl_ne (ne_of_none e h.fp) (ne_of_none e h.fr) (ne_of_none e h.fy)]; exact s1 a u e
      refine q (dl F' p lr' ly') H' r t' lr' ly' rows' ⟨fun a u e => ?_, g.h, dl_sub.trans g.i, fun a z => ?_⟩ ⟨dl_p, dl_t, dl_q, g.i _ _ h.hp, g.i _ _ h.hr, g.i _ _ h.hy, s2 _ _ h.ft, h.al.mono s2, h.ne⟩ b1 b2 (g.i _ _ e1) ?_
      · rw [dl_ne (ne_of_none e hm.fp) (ne_of_none e (sB.free b1)) (ne_of_none e (sB.free b2))]; exact g.f a u e
      · rw [dl_ne (fun c => z (by rw [c]; exact dl_p)) (fun c => z (by rw [c]; exact b1)) (fun c => z (by rw [c]; exact b2))]
        exact g.o a z
      · by_cases c : r = p ∨ r = lr' ∨ r = ly'
        · right
          rcases c with c | c | c
          · rw [c]; exact dl_p
          · rw [c]; exact b1
          · rw [c]; exact b2
        · left
          rw [not_or, not_or] at c
          rw [dl_ne c.1 c.2.1 c.2.2, e1]
          intro z; cases z
end
section
variable {G G2 : List SP} {te tb : TE} {ta : TA} {R : VP} {qs : List VP} {K : PySem.W.Frag} {ts tw : TS} {n : Nm} {B : Hp} {p dx : Addr} {m : ModD} {i j : Nat}
/-- a method that only reads the model -/
theorem e_methM {X : Type} {pf : X → List VP} {pre : X → Prop} {Rf : X → VP} {nm : Str} (x : X) (hp : pre x) (hi : G[i]? = some (mdl n B p dx m)) (hm : (ModF m).lookup nm = none) (h : A G ta qs) (e : pf x = ModV n m :: qs) (hR : ∀ v F F', (Rf x).h v F → (Rf x).h v F') :
    E G (tMeth (n.cl 4) nm (spF pf pre Rf) [] E0 (tVar i) ta) (Rf x) := fun F0 H0 s F H a Q q => by
  obtain ⟨o, h1, _, t, lr, ly, rows, rfl, _, _, _, hh⟩ := a.s.get hi
  obtain ⟨_, _, _, ep, ec, hf⟩ := hh.val
  cases ep
  have ec2 : frz n F p dx m t lr ly rows p = some (.ins (n.cl 4) dx (mFs m t lr ly)) := upd_same
  rw [ec2] at ec
  cases ec
  refine ⟨.ref p, h1, p, dx, _, rfl, hh.hp, hf.none hm, h F0 H0 s F H a _ fun vs F1 H1 g1 al => ?_⟩
  have h2 := hh.grow g1
  refine ⟨x, frz n F1 p dx m t lr ly rows, hp, h2.dn g1.i, by rw [List.append_nil, e]; exact ⟨h2.val, al.mono h2.up⟩, fun v F2 H2 g2 hv => ?_⟩
  obtain ⟨g3, _⟩ := h2.thaw g1.i g2
  exact q v _ H2 (g1.trans g3) (hR _ _ _ hv)
theorem e_lenR (hc : Cls K (n.cl 4)) (hn : NoAttr K (n.cl 4) "rows") (hi : G[i]? = some (mdl n B p dx m)) : E G (tCB (rLenQ K) (tCons (tFld K (tVar i) "rows") tNil)) (Iv (m.rows.length : Nat)) := fun F0 H0 s F H a Q q => by
  obtain ⟨o, h1, _, t, lr, ly, rows, rfl, _, _, _, hh⟩ := a.s.get hi
  have hl := hh.al.length
  rw [List.length_map] at hl
  exact ⟨.ref p, h1, p, n.cl 4, dx, _, .ref lr, rfl, hh.hp, hc, hn, rfl, lr, rows, rfl, .inl (SqL.of hh.hr), q _ F H (Gr.refl a.g.i) (by show V.int _ = V.int _; rw [hl])⟩
theorem e_respAt {k : Nat} (hc : Cls K (n.cl 4)) (hn : NoAttr K (n.cl 4) "responses") (hi : G[i]? = some (mdl n B p dx m)) (hb : E G tb (Iv (k : Nat))) (hk : k < m.resp.length) : E G (tOp (rIxL K) (tFld K (tVar i) "responses") tb) (Iv (m.resp.getD k 0)) := fun F0 H0 s F H a Q q => by
  obtain ⟨o, h1, _, t, lr, ly, rows, rfl, _, _, _, hh⟩ := a.s.get hi
  refine ⟨.ref p, h1, p, n.cl 4, dx, _, .ref ly, rfl, hh.hp, hc, hn, rfl, hb F0 H0 s F H a _ fun y F1 H1 g1 hy => ?_⟩
  have hy : y = .int (k : Nat) := hy
  subst hy
  exact ⟨ly, _, _, _, rfl, rfl, SqL.of (g1.h _ _ hh.hy), atI_nat (cell_get hk), q _ F1 H1 g1 rfl⟩
theorem s_rowsApp {r : List Int} (hc : Cls K (n.cl 4)) (hn : NoAttr K (n.cl 4) "rows") (hi : G[i]? = some (mdl n B p dx m)) (hs : StillE i G) (h : E G te (Li r)) (hz : m.rows.length < sizeLine) :
    S G (tDrop (tBM K "list" rAppend (tFld K (tVar i) "rows") (tCons te tNil))) (G.set i (mdl n B p dx { m with rows := m.rows ++ [r] })) R := fun F0 H0 D s F H a nx rt => by
  obtain ⟨o, h1, e0, t, lr, ly, rows, rfl, b1, b2, b3, hh⟩ := a.s.get hi
  refine ⟨.ref p, h1, p, n.cl 4, dx, _, .ref lr, rfl, hh.hp, hc, hn, rfl, .inl ⟨rfl, _, SqL.of hh.hr⟩, h F0 H0 s F H a _ fun v F1 H1 g1 hv => ?_⟩
  have h2 := hh.grow g1
  have hl := hh.al.length
  rw [List.length_map] at hl
  refine ⟨lr, rows, v, rfl, rfl, h2.hr, by rw [← hl]; exact hz, nx _ F1 _ ⟨(a.g.trans g1).move (by rw [e0]; exact b2) h2.fr, sl_stillE hs (a.s.mono g1) fun w e => ?_⟩⟩
  rw [h1] at e; cases e
  refine ⟨e0, t, lr, ly, rows ++ [v], rfl, b1, b2, b3, ⟨h2.fp, h2.fr, h2.fy, by rw [upd_ne h2.npr]; exact h2.hp, upd_same, by rw [upd_ne h2.ne.symm]; exact h2.hy, h2.ft, ?_, h2.ne⟩⟩
  show AllP ((m.rows ++ [r]).map Li) _ _
  rw [List.map_append]
  exact h2.al.append ⟨hv, trivial⟩
theorem s_respApp {y : Int} (hc : Cls K (n.cl 4)) (hn : NoAttr K (n.cl 4) "responses") (hi : G[i]? = some (mdl n B p dx m)) (hs : StillE i G) (h : E G te (Iv y)) (hz : m.resp.length < sizeLine) :
    S G (tDrop (tBM K "list" rAppend (tFld K (tVar i) "responses") (tCons te tNil))) (G.set i (mdl n B p dx { m with resp := m.resp ++ [y] })) R := fun F0 H0 D s F H a nx rt => by
  obtain ⟨o, h1, e0, t, lr, ly, rows, rfl, b1, b2, b3, hh⟩ := a.s.get hi
  refine ⟨.ref p, h1, p, n.cl 4, dx, _, .ref ly, rfl, hh.hp, hc, hn, rfl, .inl ⟨rfl, _, SqL.of hh.hy⟩, h F0 H0 s F H a _ fun v F1 H1 g1 hv => ?_⟩
  have hv : v = .int y := hv
  subst hv
  have h2 := hh.grow g1
  refine ⟨ly, _, _, rfl, rfl, h2.hy, by rw [List.length_map]; exact hz, nx _ F1 _ ⟨(a.g.trans g1).move (by rw [e0]; exact b3) h2.fy, sl_stillE hs (a.s.mono g1) fun w e => ?_⟩⟩
  rw [h1] at e; cases e
  refine ⟨e0, t, lr, ly, rows, rfl, b1, b2, b3, ⟨h2.fp, h2.fr, h2.fy, by rw [upd_ne h2.npy]; exact h2.hp, by rw [upd_ne h2.ne]; exact h2.hr, ?_, h2.ft, h2.al, h2.ne⟩⟩
  rw [upd_same]
  show some (HO.lst (m.resp.map V.int ++ [V.int y])) = some (HO.lst ((m.resp ++ [y]).map V.int))
  rw [List.map_append]; rfl
theorem seq_ix {k len : Nat} (h : k < len) : seqIndex? (k : Int) len = some k := by
  have h1 : ¬ (k : Int) < 0 := by omega
  have h2 : (0 : Int) ≤ k ∧ (k : Int) < len := by omega
  simp [seqIndex?, h1, h2]
theorem all_erase : ∀ {ps : List VP} {vs : List V} {F : Hp} (i : Nat), AllP ps vs F → AllP (ps.eraseIdx i) (vs.eraseIdx i) F
  | [], [], _, _, _ => trivial
  | _ :: _, _ :: _, _, 0, h => h.2
  | _ :: _, _ :: _, _, i + 1, h => ⟨h.1, all_erase i h.2⟩
  | [], _ :: _, _, _, h => h.elim
  | _ :: _, [], _, _, h => h.elim
theorem erase_mapV {α β : Type} (f : α → β) : ∀ (l : List α) (i : Nat), (l.map f).eraseIdx i = (l.eraseIdx i).map f
  | [], _ => rfl
  | _ :: _, 0 => rfl
  | a :: l, i + 1 => by
    show f a :: (l.map f).eraseIdx i = f a :: (l.eraseIdx i).map f
    rw [erase_mapV f l i]
theorem s_rowsPop {k : Nat} (hc : Cls K (n.cl 4)) (hn : NoAttr K (n.cl 4) "rows") (hi : G[i]? = some (mdl n B p dx m)) (hs : StillE i G) (h : E G te (Iv (k : Nat))) (hk : k < m.rows.length) (hz : m.rows.length ≤ 1000) :
    S G (tDrop (tBM K "list" rPopAt (tFld K (tVar i) "rows") (tCons te tNil))) (G.set i (mdl n B p dx { m with rows := m.rows.eraseIdx k })) R := fun F0 H0 D s F H a nx rt => by
  obtain ⟨o, h1, e0, t, lr, ly, rows, rfl, b1, b2, b3, hh⟩ := a.s.get hi
  refine ⟨.ref p, h1, p, n.cl 4, dx, _, .ref lr, rfl, hh.hp, hc, hn, rfl, .inl ⟨rfl, _, SqL.of hh.hr⟩, h F0 H0 s F H a _ fun v F1 H1 g1 hv => ?_⟩
  have hv : v = .int (k : Nat) := hv
  subst hv
  have h2 := hh.grow g1
  have hl := hh.al.length
  rw [List.length_map] at hl
  have hk2 : k < rows.length := by omega
  refine ⟨lr, rows, k, k, rows[k], rfl, rfl, h2.hr, by omega, by omega, seq_ix hk2, List.getElem?_eq_getElem hk2, nx _ F1 _ ⟨(a.g.trans g1).move (by rw [e0]; exact b2) h2.fr, sl_stillE hs (a.s.mono g1) fun w e => ?_⟩⟩
  rw [h1] at e; cases e
  refine ⟨e0, t, lr, ly, rows.eraseIdx k, rfl, b1, b2, b3, ⟨h2.fp, h2.fr, h2.fy, by rw [upd_ne h2.npr]; exact h2.hp, upd_same, by rw [upd_ne h2.ne.symm]; exact h2.hy, h2.ft, ?_, h2.ne⟩⟩
  show AllP ((m.rows.eraseIdx k).map Li) _ _
  rw [← erase_mapV]
  exact all_erase k h2.al
theorem s_respPop {k : Nat} (hc : Cls K (n.cl 4)) (hn : NoAttr K (n.cl 4) "responses") (hi : G[i]? = some (mdl n B p dx m)) (hs : StillE i G) (h : E G te (Iv (k : Nat))) (hk : k < m.resp.length) (hz : m.resp.length ≤ 1000) :
    S G (tDrop (tBM K "list" rPopAt (tFld K (tVar i) "responses") (tCons te tNil))) (G.set i (mdl n B p dx { m with resp := m.resp.eraseIdx k })) R := fun F0 H0 D s F H a nx rt => by
  obtain ⟨o, h1, e0, t, lr, ly, rows, rfl, b1, b2, b3, hh⟩ := a.s.get hi
  refine ⟨.ref p, h1, p, n.cl 4, dx, _, .ref ly, rfl, hh.hp, hc, hn, rfl, .inl ⟨rfl, _, SqL.of hh.hy⟩, h F0 H0 s F H a _ fun v F1 H1 g1 hv => ?_⟩
  have hv : v = .int (k : Nat) := hv
  subst hv
  have h2 := hh.grow g1
  have hk2 : k < (m.resp.map V.int).length := by rw [List.length_map]; exact hk
  refine ⟨ly, _, k, k, (m.resp.map V.int)[k], rfl, rfl, h2.hy, by omega, by omega, seq_ix hk2, List.getElem?_eq_getElem hk2, nx _ F1 _ ⟨(a.g.trans g1).move (by rw [e0]; exact b3) h2.fy, sl_stillE hs (a.s.mono g1) fun w e => ?_⟩⟩
  rw [h1] at e; cases e
  refine ⟨e0, t, lr, ly, rows, rfl, b1, b2, b3, ⟨h2.fp, h2.fr, h2.fy, by rw [upd_ne h2.npy]; exact h2.hp, by rw [upd_ne h2.ne]; exact h2.hr, ?_, h2.ft, h2.al, h2.ne⟩⟩
  rw [upd_same, erase_mapV]
theorem s_respPut {k : Nat} {y : Int} (hc : Cls K (n.cl 4)) (hn : NoAttr K (n.cl 4) "responses") (hi : G[i]? = some (mdl n B p dx m)) (hs : StillE i G) (h : E G te (Iv y)) (hb : E G tb (Iv (k : Nat))) (hk : k < m.resp.length) :
    S G (tAsg te (gSub (tFld K (tVar i) "responses") tb rSetL)) (G.set i (mdl n B p dx { m with resp := m.resp.set k y })) R := fun F0 H0 D s F H a nx rt => by
  obtain ⟨o, h1, e0, t, lr, ly, rows, rfl, b1, b2, b3, hh⟩ := a.s.get hi
  refine h F0 H0 s F H a _ fun v F1 H1 g1 hv => ?_
  have hv : v = .int y := hv
  subst hv
  have h2 := hh.grow g1
  refine ⟨.ref p, h1, p, n.cl 4, dx, _, .ref ly, rfl, h2.hp, hc, hn, rfl, hb F0 H0 s F1 H1 (a.grow g1) _ fun z F2 H2 g2 hz => ?_⟩
  have hz : z = .int (k : Nat) := hz
  subst hz
  have h3 := h2.grow g2
  have g := g1.trans g2
  refine ⟨ly, _, (k : Nat), k, rfl, rfl, h3.hy, ixN_nat (by rw [List.length_map]; exact hk), nx _ F2 _ ⟨(a.g.trans g).move (by rw [e0]; exact b3) h3.fy, sl_stillE hs (a.s.mono g) fun w e => ?_⟩⟩
  rw [h1] at e; cases e
  refine ⟨e0, t, lr, ly, rows, rfl, b1, b2, b3, ⟨h3.fp, h3.fr, h3.fy, by rw [upd_ne h3.npy]; exact h3.hp, by rw [upd_ne h3.ne]; exact h3.hr, ?_, h3.ft, h3.al, h3.ne⟩⟩
  rw [upd_same]
  show some (HO.lst ((m.resp.map V.int).set k (V.int y))) = some (HO.lst ((m.resp.set k y).map V.int))
  rw [List.map_set]
theorem s_terms {ts' : List Nat} (hc : Cls K (n.cl 4)) (hn : NoAttr K (n.cl 4) "terms") (hi : G[i]? = some (mdl n B p dx m)) (hs : StillE i G) (h : E G te (Ln ts')) : S G (sFld K (tVar i) te "terms") (G.set i (mdl n B p dx { m with terms := ts' })) R := fun F0 H0 D s F H a nx rt => by
  obtain ⟨o, h1, e0, t, lr, ly, rows, rfl, b1, b2, b3, hh⟩ := a.s.get hi
  refine h F0 H0 s F H a _ fun v F1 H1 g1 ⟨t', xs, ev, ht, al⟩ => ?_
  subst ev
  have h2 := hh.grow g1
  have ex : xs = ts'.map fun i => V.int (i : Nat) := by
    have e : (ts'.map fun i => Iv (i : Nat)) = (ts'.map fun i : Nat => (i : Int)).map Iv := by rw [List.map_map]; rfl
    rw [e] at al
    rw [vals_int al, List.map_map]; rfl
  subst ex
  refine ⟨.ref p, h1, p, n.cl 4, dx, _, rfl, h2.hp, hc, hn, (by show 4 < 1000; decide), nx _ F1 _ ⟨(a.g.trans g1).move (by rw [e0]; exact b1) h2.fp, sl_stillE hs (a.s.mono g1) fun w e => ?_⟩⟩
  rw [h1] at e; cases e
  exact ⟨e0, t', lr, ly, rows, rfl, b1, b2, b3, ⟨h2.fp, h2.fr, h2.fy, upd_same, by rw [upd_ne h2.npr.symm]; exact h2.hr, by rw [upd_ne h2.npy.symm]; exact h2.hy, ht, h2.al, h2.ne⟩⟩
theorem s_rowsNew (hc : Cls K (n.cl 4)) (hn : NoAttr K (n.cl 4) "rows") (hi : G[i]? = some (mdl n B p dx m)) (hs : StillE i G) (h : EL G te []) : S G (sFld K (tVar i) te "rows") (G.set i (mdl n B p dx { m with rows := [] })) R := fun F0 H0 D s F H a nx rt => by
  obtain ⟨o, h1, e0, t, lr, ly, rows, rfl, b1, b2, b3, hh⟩ := a.s.get hi
  refine h F0 H0 s F H a _ fun l xs F1 H1 g1 hn1 hF1 hl al => ?_
  have h2 := hh.grow g1
  have ex : xs = [] := by
    cases xs with
    | nil => rfl
    | cons x xs => exact al.elim
  subst ex
  have nlp : l ≠ p := ne_of hl h2.hp (by intro z; cases z)
  have nly : l ≠ ly := fun z => by rw [z, hh.hy] at hn1; cases hn1
  refine ⟨.ref p, h1, p, n.cl 4, dx, _, rfl, h2.hp, hc, hn, (by show 4 < 1000; decide), nx _ F1 _ ⟨(a.g.trans g1).move (by rw [e0]; exact b1) h2.fp, sl_stillE hs (a.s.mono g1) fun w e => ?_⟩⟩
  rw [h1] at e; cases e
  exact ⟨e0, t, l, ly, [], rfl, b1, e0 ▸ a.g.h.free hn1, b3, ⟨h2.fp, hF1, h2.fy, upd_same, by rw [upd_ne nlp]; exact hl, by rw [upd_ne h2.npy.symm]; exact h2.hy, h2.ft, trivial, nly⟩⟩
theorem s_respNew (hc : Cls K (n.cl 4)) (hn : NoAttr K (n.cl 4) "responses") (hi : G[i]? = some (mdl n B p dx m)) (hs : StillE i G) (h : EL G te []) : S G (sFld K (tVar i) te "responses") (G.set i (mdl n B p dx { m with resp := [] })) R := fun F0 H0 D s F H a nx rt => by
  obtain ⟨o, h1, e0, t, lr, ly, rows, rfl, b1, b2, b3, hh⟩ := a.s.get hi
  refine h F0 H0 s F H a _ fun l xs F1 H1 g1 hn1 hF1 hl al => ?_
  have h2 := hh.grow g1
  have ex : xs = [] := by
    cases xs with
    | nil => rfl
    | cons x xs => exact al.elim
  subst ex
  have nlp : l ≠ p := ne_of hl h2.hp (by intro z; cases z)
  have nlr : l ≠ lr := fun z => by rw [z, hh.hr] at hn1; cases hn1
  refine ⟨.ref p, h1, p, n.cl 4, dx, _, rfl, h2.hp, hc, hn, (by show 4 < 1000; decide), nx _ F1 _ ⟨(a.g.trans g1).move (by rw [e0]; exact b1) h2.fp, sl_stillE hs (a.s.mono g1) fun w e => ?_⟩⟩
  rw [h1] at e; cases e
  exact ⟨e0, t, lr, l, rows, rfl, b1, b2, e0 ▸ a.g.h.free hn1, ⟨h2.fp, h2.fr, hF1, upd_same, by rw [upd_ne h2.npr.symm]; exact h2.hr, by rw [upd_ne nlp]; exact hl, h2.ft, h2.al, nlr.symm⟩⟩
theorem s_retMd {l : List Int} (hi : G[i]? = some (mdl n B p dx m)) (h : E G te (Li l)) : S G (tRet te) G2 (retM n B p dx m l) := fun F0 H0 D s F H a nx rt => h F0 H0 s F H a _ fun v F1 H1 g1 hv => by
  obtain ⟨o, h1, e0, t, lr, ly, rows, _, b1, b2, b3, hh⟩ := (a.grow g1).s.get hi
  obtain ⟨q, xs, rfl, hq, al⟩ := hv
  have ex := vals_int al
  subst ex
  have c1 : frz n F1 p dx m t lr ly rows lr = some (.lst rows) := by
    unfold frz
    rw [upd_ne hh.npr.symm, upd_ne hh.ne, upd_same]
  have c2 : frz n F1 p dx m t lr ly rows ly = some (.lst (m.resp.map V.int)) := by
    unfold frz
    rw [upd_ne hh.npy.symm, upd_same]
  have g2 := ((a.g.trans g1).fix (by rw [e0]; exact b2) hh.fr hh.hr).fix (by rw [e0]; exact b3) (by rw [upd_ne hh.ne.symm]; exact hh.fy) hh.hy |>.fix (by rw [e0]; exact b1) (by rw [upd_ne hh.npy, upd_ne hh.npr]; exact hh.fp) hh.hp
  exact rt _ _ H1 g2 ⟨q, F1, t, lr, ly, rows, rfl, hh.up _ _ hq, hh.up, b2, b3, ⟨hh.fp, hh.fr, hh.fy, upd_same, c1, c2, hh.ft, hh.al, hh.ne⟩⟩
theorem q_retMd {l : List Int} (hi : G[i]? = some (mdl n B p dx m)) (h : E G te (Li l)) : S G (tSeq (tRet te) tw) G2 (retM n B p dx m l) := fun F0 H0 D s F H a nx rt =>
  s_retMd (G2 := [bot]) hi h F0 H0 { D with nx := fun _ _ => True } s F H a (fun _ _ _ _ => trivial) rt
end
end Lf
end
section
set_option Elab.async false
set_option linter.all false
set_option maxRecDepth 100000
set_option maxHeartbeats 2000000
local macro_rules | `(tactic| decreasing_trivial) => `(tactic| ((repeat (first | exact Ty.st_nil | apply Ty.st_im | apply Ty.st_any | apply Ty.se_0 | apply Ty.se_im | apply Ty.se_any | exact Ty.pu_nil | apply Ty.pu_im | apply Ty.pu_any | apply Ty.pe_0 | apply Ty.pe_imE | apply Ty.pe_anyE | exact Ty.sub_nil | apply Ty.sub_cons | apply Ty.sub_any)); done))
namespace Lf
open PySem PySem.Spec PyProof.Rows L2 Ty NB
theorem rg_ok {c : Nat} (h : c ≤ 1000) : RgOk 0 (c : Int) := by
  unfold RgOk
  refine ⟨by omega, by omega, by omega, by omega, ?_⟩
  exact Nat.le_trans (show ((c : Int) - 0).toNat ≤ 1000000 by omega) (by decide)
theorem rg_v (c : Nat) : rgV 0 (c : Int) = (List.range c).map fun i => V.int (i : Nat) := by
  unfold rgV
  have : ((c : Int) - 0).toNat = c := by omega
  rw [this]
  exact List.map_congr_left fun i _ => by congr 1; omega
def spBegin (n : Nm) : Sp := fun vs H Q _ => ∃ F p dx c gs, vs = [.ref p, .int (c : Nat)] ∧ c ≤ 1000 ∧ Same F H ∧ F p = none ∧ H p = some (.ins (n.cl 4) dx gs) ∧ (gs = [] ∨ ∃ a b d e, gs = [(("column_count" : Str), a), ("terms", b), ("rows", d), ("responses", e)]) ∧
  ∀ F' H' t lr ly, Gr F (del H p) F' H' → MdH n F' H' p dx (newM c) t lr ly [] → del H p lr = none → del H p ly = none → Q .non H'
def spNew (n : Nm) : Sp := fun vs H Q _ => ∃ F p dx, vs = [.ref p] ∧ H p = some (.ins (n.cl 4) dx []) ∧ F p = none ∧ Same F H ∧
  ∀ F' H' t lr ly, Gr F (del H p) F' H' → MdH n F' H' p dx (newM 0) t lr ly [] → del H p lr = none → del H p ly = none → Q .non H'
theorem gs_put {gs : List (Str × V)} (h : gs = [] ∨ ∃ a b d e, gs = [(("column_count" : Str), a), ("terms", b), ("rows", d), ("responses", e)]) (a b d e : V) :
    putF "responses" e (putF "rows" d (putF "terms" b (putF "column_count" a gs))) = [(("column_count" : Str), a), ("terms", b), ("rows", d), ("responses", e)] ∧ gs.length ≤ 4 ∧ (putF "column_count" a gs).length ≤ 4 ∧ (putF "terms" b (putF "column_count" a gs)).length ≤ 4 ∧ (putF "rows" d (putF "terms" b (putF "column_count" a gs))).length ≤ 4 := by
  rcases h with rfl | ⟨x, y, z, u, rfl⟩
  · exact ⟨rfl, Nat.zero_le _, (by show 1 ≤ 4; decide), (by show 2 ≤ 4; decide), (by show 3 ≤ 4; decide)⟩
  · exact ⟨rfl, Nat.le_refl _, Nat.le_refl _, Nat.le_refl _, Nat.le_refl _⟩
theorem inV_eq (x : Int) : inV (.int x) ([0, 1].map V.int) = (decide (x = 0) || decide (x = 1)) := by
  show ([V.int 0, V.int 1].any fun y => eqV y (.int x)) = _
  rw [List.any_cons, List.any_cons, List.any_nil, Bool.or_false]
  have h : ∀ k : Int, eqV (.int k) (.int x) = decide (x = k) := fun k => by
    show (k == x) = _
    rw [Bool.eq_iff_iff, beq_iff_eq, decide_eq_true_iff]
    exact ⟨Eq.symm, Eq.symm⟩
  rw [h, h]
theorem fitsT_eq {m : ModD} (h0 : 0 < m.cc) (t : List Int) : fitsT m t = fitsP m t := by
  unfold fitsT fitsP
  by_cases h1 : t.length = m.cc
  · have h2 : (t.length : Int) = (m.cc : Int) := by omega
    have h3 : t.getD 0 0 = t.getD 0 1 := by
      rw [List.getD_eq_getElem?_getD, List.getD_eq_getElem?_getD, List.getElem?_eq_getElem (by omega)]; rfl
    rw [decide_eq_true h1, decide_eq_true h2, h3]
    by_cases h4 : t.getD 0 1 = 0
    · rw [decide_eq_true h4]
      simp only [Bool.not_true, Bool.or_self, Bool.false_eq_true, if_false, Bool.true_and]
      generalize t.drop 1 = k
      clear h1 h2 h3 h4
      induction t generalizing k with
      | nil => rfl
      | cons x t ih =>
        cases k with
        | nil => rfl
        | cons y k =>
          rw [List.zipWith_cons_cons, List.zip_cons_cons, List.all_cons, List.all_cons, ih, inV_eq]
          congr 1
          show (decide (y - x = 0) || decide (y - x = 1)) = (decide (y = x) || decide (y = x + 1))
          rw [Bool.eq_iff_iff]
          simp only [Bool.or_eq_true, decide_eq_true_eq]
          omega
    · rw [decide_eq_false h4]; rfl
  · have h2 : ¬ (t.length : Int) = (m.cc : Int) := by omega
    rw [decide_eq_false h1, decide_eq_false h2]; rfl
theorem ln_toNat {t : List Int} (h : ∀ z ∈ t, 0 ≤ z) : Li t = Ln (t.map Int.toNat) := by
  unfold Li Ln
  rw [List.map_map]
  congr 1
  refine List.map_congr_left fun z hz => ?_
  show Iv z = Iv ((z.toNat : Nat) : Int)
  have := h z hz
  congr 1
  omega
section
variable {P : Program} {w : World} {K : PySem.W.Frag} {mg : Str → Option Value} {base : Heap} {n : Nm} (T : Txt K mg n)
include T
theorem ok_Model_begin : FnOk P w K mg base CX0 1 (n.ad 56) (n.fd 56) ["self", "column_count"] (spBegin n) := by
  refine T.f_Model_begin.ok sc_Model_begin (fun vs H Q E' h => ?_) fun cdv Ar outer s0 H vs Q E' hr h => ⟨_, (pss_cons (ps_fld (pv 0) (pv 1) rfl)
        (pss_cons (ps_fld (pv 0) (pe_listRg rfl rfl T.b_list (prg_1 rfl T.b_range (pv 1))) rfl)
        (pss_cons (ps_fld (pv 0) (pe_lst pa_nil) rfl)
        (pss_one (ps_fld (pv 0) (pe_lst pa_nil) rfl))))), ?_⟩
  · obtain ⟨F, p, dx, c, gs, rfl, _⟩ := h
    rfl
  obtain ⟨F, p, dx, c, gs, rfl, hc, sf, hF, hp, hgs, qk⟩ := h
  -- self.column_count = column_count
  have z4 : ∀ k : Nat, k ≤ 4 → k < 1000 := fun k h => by omega
  refine ⟨.int (c : Nat), rfl, .ref p, rfl, p, n.cl 4, dx, gs, rfl, hp, T.cl_Model, T.n_Model_column_count, z4 _ (gs_put hgs .non .non .non .non).2.1, ?_⟩
  -- self.terms = list(range(column_count))
  refine ⟨.int (c : Nat), rfl, (c : Nat), rfl, rg_ok hc, fun q2 hq2 => ?_⟩
  have n2 : q2 ≠ p := fun z => by rw [z, upd_same] at hq2; cases hq2
  rw [upd_ne n2] at hq2
  refine ⟨.ref p, rfl, p, n.cl 4, dx, _, rfl, by rw [upd_ne n2.symm, upd_same], T.cl_Model, T.n_Model_terms, z4 _ (gs_put hgs (.int (c : Nat)) .non .non .non).2.2.1, ?_⟩
  -- self.rows = []
  refine ⟨Nat.zero_le _, fun q3 hq3 => ?_⟩
  have n3 : q3 ≠ p := fun z => by rw [z, upd_same] at hq3; cases hq3
  rw [upd_ne n3] at hq3
  have n32 : q3 ≠ q2 := fun z => by rw [z, upd_same] at hq3; cases hq3
  rw [upd_ne n32, upd_ne n3] at hq3
  refine ⟨.ref p, rfl, p, n.cl 4, dx, _, rfl, by rw [upd_ne n3.symm, upd_same], T.cl_Model, T.n_Model_rows, z4 _ (gs_put hgs (.int (c : Nat)) (.ref q2) .non .non).2.2.2.1, ?_⟩
  -- self.responses = []
  refine ⟨Nat.zero_le _, fun q4 hq4 => ?_⟩
  have n4 : q4 ≠ p := fun z => by rw [z, upd_same] at hq4; cases hq4
  rw [upd_ne n4] at hq4
  have n43 : q4 ≠ q3 := fun z => by rw [z, upd_same] at hq4; cases hq4
  rw [upd_ne n43, upd_ne n4] at hq4
  have n42 : q4 ≠ q2 := fun z => by rw [z, upd_same] at hq4; cases hq4
  rw [upd_ne n42, upd_ne n4] at hq4
  refine ⟨.ref p, rfl, p, n.cl 4, dx, _, rfl, by rw [upd_ne n4.symm, upd_same], T.cl_Model, T.n_Model_responses, z4 _ (gs_put hgs (.int (c : Nat)) (.ref q2) (.ref q3) .non).2.2.2.2, ?_⟩
  rw [(gs_put hgs (.int (c : Nat)) (.ref q2) (.ref q3) (.ref q4)).1, rg_v]
  have f2 : F q2 = none := sf.free hq2
  have f3 : F q3 = none := sf.free hq3
  have f4 : F q4 = none := sf.free hq4
  have dn : ∀ a, H a = none → del H p a = none := fun a h => by
    unfold del
    split
    · rfl
    · exact h
  generalize hfs : (HO.ins (n.cl 4) dx [(("column_count" : Str), V.int (c : Nat)), ("terms", .ref q2), ("rows", .ref q3), ("responses", .ref q4)]) = fin
  generalize hl2 : (HO.lst ((List.range c).map fun i => V.int (i : Nat))) = l2
  have keep : ∀ a u, del H p a = some u → a ≠ p ∧ a ≠ q2 ∧ a ≠ q3 ∧ a ≠ q4 ∧ H a = some u := fun a u e => by
    have ne : a ≠ p := fun z => by rw [z, del_same] at e; cases e
    rw [del_ne ne] at e
    exact ⟨ne, ne_of_none e hq2, ne_of_none e hq3, ne_of_none e hq4, e⟩
  refine qk (upd F q2 l2) _ q2 q3 q4 ⟨fixS f2, fun a u e => ?_, fun a u e => ?_, fun a z => ?_⟩ ⟨?_, ?_, ?_, ?_, ?_, ?_, ?_, trivial, n43.symm⟩ (dn _ hq3) (dn _ hq4)
  · obtain ⟨e1, e2, e3, e4, e5⟩ := keep a u e
    rw [upd_ne e1, upd_ne e4, upd_ne e1, upd_ne e3, upd_ne e1, upd_ne e2, upd_ne e1]; exact e5
  · by_cases c2 : a = q2
    · subst c2
      rw [upd_same] at e
      rw [upd_ne n2, upd_ne n42.symm, upd_ne n2, upd_ne n32.symm, upd_ne n2, upd_same]; exact e
    · rw [upd_ne c2] at e
      have e1 := ne_of_none e hF
      rw [upd_ne e1, upd_ne (ne_of_none e f4), upd_ne e1, upd_ne (ne_of_none e f3), upd_ne e1, upd_ne c2, upd_ne e1]
      exact sf a u e
  · have c2 : a ≠ q2 := fun q => z (by rw [q]; exact dn _ hq2)
    rw [upd_ne c2]
  · rw [upd_ne n2.symm]; exact hF
  · rw [upd_ne n32]; exact f3
  · rw [upd_ne n42]; exact f4
  · rw [upd_same, ← hfs]; rfl
  · rw [upd_ne n3, upd_ne n43.symm, upd_ne n3, upd_same]
  · rw [upd_ne n4, upd_same]; rfl
  · rw [upd_same, ← hl2]; rfl
theorem ok_Model_init : FnOk P w K mg base CX0 2 (n.ad 55) (n.fd 55) ["self"] (spNew n) := by
  have G_Model_begin := ok_Model_begin (P := P) (w := w) (base := base) T
  refine T.f_Model_init.ok sc_Model_init (fun vs H Q E' h => ?_) fun cdv Ar outer s0 H vs Q E' hr h => ⟨_, (pss_one (ps_expr (pe_meth (pv 0) T.cl_Model T.m_Model_begin G_Model_begin hr T.b_Model_begin .nil pass0 (pa_cons pe_int pa_nil)))), ?_⟩
  · obtain ⟨F, p, dx, rfl, _⟩ := h
    rfl
  obtain ⟨F, p, dx, rfl, hp, hF, sf, qk⟩ := h
  exact ⟨.ref p, rfl, p, dx, [], rfl, hp, rfl, F, p, dx, 0, [], rfl, by decide, sf, hF, hp, .inl rfl, fun F' H' t lr ly g hm h1 h2 => qk F' H' t lr ly g hm h1 h2⟩
omit T in
theorem s_begin {G : List SP} {ta : TA} {R : VP} {B : Hp} {p dx : Addr} {m : ModD} {i c : Nat} (hi : G[i]? = some (mdl n B p dx m)) (hs : AllB away i G) (h : A G ta [Iv (c : Nat)]) (hc : c ≤ 1000) : S G (tDrop (tMeth (n.cl 4) "begin" (spBegin n) [] E0 (tVar i) ta)) (G.set i (mdl n B p dx (newM c))) R := fun F0 H0 D s F H a nx rt => by
  obtain ⟨o, h1, e0, t, lr, ly, rows, rfl, b1, b2, b3, hh⟩ := a.s.get hi
  refine ⟨.ref p, h1, p, dx, _, rfl, hh.hp, rfl, h F0 H0 s F H a _ fun vs F1 H1 g1 al => ?_⟩
  obtain ⟨v, rfl, hv⟩ := all1 al
  have hv : v = .int (c : Nat) := hv
  subst hv
  have h2 := hh.grow g1
  have a1 := a.grow g1
  refine ⟨F1, p, dx, c, _, rfl, hc, g1.i, h2.fp, h2.hp, .inr ⟨_, _, _, _, rfl⟩, fun F2 H2 t' lr' ly' g2 hm c1 c2 => ?_⟩
  have hB : ∀ a, del H1 p a = none → B a = none := fun q z => by
    by_cases e : q = p
    · rw [e]; exact b1
    · rw [del_ne e] at z
      exact e0 ▸ a1.g.h.free z
  refine nx _ F2 H2 ⟨a1.g.mut (by rw [e0]; exact b1) g2, sl_but (fun P v hP h => hP _ _ _ _ _ _ _ _ _ _ h2.hp g2 h) hs a1.s fun w e => ?_⟩
  rw [h1] at e; cases e
  exact ⟨e0, t', lr', ly', [], rfl, b1, hB _ c1, hB _ c2, hm⟩
/-! the operations that change the model -/
theorem ok_create : FnOk P w K mg base CX0 2 (n.ad 65) (n.fd 65) ["model", "arguments"] (spOp n (opI 0) (fun m ns ls => ∃ c : Nat, ns = [(c : Int)] ∧ ls = [])) := by
  have G_Model_begin := ok_Model_begin (P := P) (w := w) (base := base) T
  refine op_ty T.f_create sc_create rfl fun cdv Ar outer s H E' hr => ⟨_, (pss_cons (ps_set (i := 2) sc_create.nd rfl (Or.inl rfl) (pe_ix ix_list (pv 1) pe_int (fun _ _ => rfl)))
        (pss_cons (ps_if (PW.pt (pw_or (pt_cmpR op_lt (pv 2) pe_int (nomark _)) (pw_or1 (pt_cmpR op_gt (pv 2) (pe_cst rfl T.g_MOST_COLUMNS) (nomark _))))) (pss_one (ps_ret (pe_lst (pa_cons (pe_cst rfl T.g_OUT_OF_RANGE) pa_nil)))) pss_nil)
        (pss_cons (ps_expr (pe_meth (pv 0) T.cl_Model T.m_Model_begin G_Model_begin hr T.b_Model_begin .nil pass0 (pa_cons (pv 2) pa_nil)))
        (pss_one (ps_ret (pe_lst (pa_cons pe_int pa_nil))))))), ?_⟩
  rintro B p dx m ns ls ⟨c, rfl, rfl⟩
  refine q_asg (P := Iv (c : Nat)) (e_ixL (e_var rfl) (e_intN 0) rfl) ?_
  show S _ _ _ (retM n B p dx (if (c : Int) < 1 ∨ 8 < (c : Int) then (m, [-22]) else (newM (c : Int).toNat, [0])).1 (if (c : Int) < 1 ∨ 8 < (c : Int) then (m, [-22]) else (newM (c : Int).toNat, [0])).2)
  refine q_if (b := decide ((c : Int) < 1) || decide ((8 : Int) < (c : Int))) (t_or (t_test (e_lt (e_var rfl) (e_int _))) fun _ => (t_test (e_gt (e_var rfl) (e_int _)))) (fun h => ?_) (fun h => ?_)
  · have h : (c : Int) < 1 ∨ 8 < (c : Int) := by simpa using h
    rw [if_pos h]
    exact q_retMd (i := 0) rfl (E.of (el_lst (a_cons (e_int _) a_nil)))
  · have h : ¬ ((c : Int) < 1 ∨ 8 < (c : Int)) := by simpa using h
    rw [if_neg h]
    refine q_next (s_seq (s_begin (i := 0) (c := c) rfl (ab_cons aw_im (ab_cons aw_im ab_nil)) (a_cons (e_var rfl) a_nil) (by omega)) ?_)
    exact s_retMd (i := 0) rfl (E.of (el_lst (a_cons (e_int _) a_nil)))
theorem ok_add_row : FnOk P w K mg base CX0 3 (n.ad 66) (n.fd 66) ["model", "arguments"] (spOp n (opI 1) (fun m ns ls => OkM m ∧ ∃ y r, ns = [y] ∧ ls = [r] ∧ r.length ≤ 60)) := by
  have G_Model_fits_columns := ok_Model_fits_columns (P := P) (w := w) (base := base) T
  have G_is_response := ok_is_response (P := P) (w := w) (base := base) T
  refine op_ty T.f_add_row sc_add_row rfl fun cdv Ar outer s H E' hr => ⟨_, (pss_cons (ps_set (i := 2) sc_add_row.nd rfl (Or.inl rfl) (pe_ix ix_list (pv 1) pe_int (fun _ _ => rfl)))
        (pss_cons (ps_set (i := 3) sc_add_row.nd rfl (Or.inl rfl) (pe_ix ix_list (pv 1) pe_int (fun _ _ => rfl)))
        (pss_cons (ps_if (PW.pt (pw_or (pt_not (pt_val (pe_call G_is_response (hr.mono (by decide)) rfl T.g_is_response T.f_is_response.kp T.b_is_response .nil pass0 (pa_cons (pv 2) pa_nil)))) (pw_or1 (pt_not (pt_val (pe_meth (pv 0) T.cl_Model T.m_Model_fits_columns G_Model_fits_columns hr T.b_Model_fits_columns .nil pass0 (pa_cons (pv 3) pa_nil))))))) (pss_one (ps_ret (pe_lst (pa_cons (pe_cst rfl T.g_OUT_OF_RANGE) pa_nil)))) pss_nil)
        (pss_cons (ps_if (pt_cmpR op_ge (pe_callB call_len_seq (by rfl) T.b_len (by decide +kernel) (pa_cons (pe_fld (pv 0) rfl) pa_nil)) (pe_cst rfl T.g_MOST_ROWS) (nomark _)) (pss_one (ps_ret (pe_lst (pa_cons (pe_cst rfl T.g_ROWS_FULL) pa_nil)))) pss_nil)
        (pss_cons (ps_expr (pe_bm PySem.F.plainAttrs_list PySem.F.slot_list_append PySem.F.type_list_append mt_append (pe_fld (pv 0) rfl) (pa_cons (pv 3) pa_nil)))
        (pss_cons (ps_expr (pe_bm PySem.F.plainAttrs_list PySem.F.slot_list_append PySem.F.type_list_append mt_append (pe_fld (pv 0) rfl) (pa_cons (pv 2) pa_nil)))
        (pss_one (ps_ret (pe_lst (pa_cons (pe_callB call_len_seq (by rfl) T.b_len (by decide +kernel) (pa_cons (pe_fld (pv 0) rfl) pa_nil)) pa_nil)))))))))), ?_⟩
  rintro B p dx m ns ls ⟨ok, y, r, rfl, rfl, hr2⟩
  have h24 := ok.r24
  have hrl := ok.rl
  refine q_asg (P := Iv y) (e_ixL (e_var rfl) (e_intN 0) rfl) ?_
  refine q_asg (P := Li r) (e_ixL (e_var rfl) (e_intN 1) rfl) ?_
  show S _ _ _ (retM n B p dx (if isResp y = false ∨ fitsC m r = false then (m, [-22]) else if 24 ≤ m.rows.length then (m, [-28]) else ({ m with rows := m.rows ++ [r], resp := m.resp ++ [y] }, [((m.rows.length + 1 : Nat) : Int)])).1 (if isResp y = false ∨ fitsC m r = false then (m, [-22]) else if 24 ≤ m.rows.length then (m, [-28]) else ({ m with rows := m.rows ++ [r], resp := m.resp ++ [y] }, [((m.rows.length + 1 : Nat) : Int)])).2)
  refine q_if (b := !(isResp y) || !(fitsC m r)) (t_or (t_not (t_val (e_call y trivial (a_cons (e_var rfl) a_nil)))) fun _ => t_not (t_val (e_methM (i := 0) (m, r) (by show r.length ≤ 1000; omega) rfl rfl (a_cons (e_var rfl) a_nil) rfl fun v F F' h => h))) (fun h => ?_) (fun h => ?_)
  · have h : isResp y = false ∨ fitsC m r = false := by simpa using h
    rw [if_pos h]
    exact q_retMd (i := 0) rfl (E.of (el_lst (a_cons (e_int _) a_nil)))
  · have h : ¬ (isResp y = false ∨ fitsC m r = false) := by simpa using h
    rw [if_neg h]
    refine q_next (q_if (b := decide ((24 : Int) ≤ (m.rows.length : Int))) (t_test (e_ge (e_lenR (i := 0) T.cl_Model T.n_Model_rows rfl) (e_int 24))) (fun h2 => ?_) (fun h2 => ?_))
    · have h2 : (24 : Int) ≤ (m.rows.length : Int) := by simpa using h2
      rw [if_pos (by omega : 24 ≤ m.rows.length)]
      exact q_retMd (i := 0) rfl (E.of (el_lst (a_cons (e_int _) a_nil)))
    · have h2 : ¬ (24 : Int) ≤ (m.rows.length : Int) := by simpa using h2
      rw [if_neg (by omega : ¬ 24 ≤ m.rows.length)]
      refine q_next (s_seq (s_rowsApp (i := 0) (r := r) T.cl_Model T.n_Model_rows rfl (se_0 (st_im (st_im (st_im st_nil)))) (e_var rfl) (Nat.lt_of_le_of_lt h24 (by decide))) ?_)
      refine s_seq (s_respApp (i := 0) (y := y) T.cl_Model T.n_Model_responses rfl (se_0 (st_im (st_im (st_im st_nil)))) (e_var rfl) (Nat.lt_of_le_of_lt (show m.resp.length ≤ 24 by omega) (by decide))) ?_
      refine s_retMd (i := 0) rfl (E.of (EL.eq (el_lst (a_cons (e_lenR (i := 0) T.cl_Model T.n_Model_rows rfl) a_nil)) ?_))
      show [Iv (((m.rows ++ [r]).length : Nat) : Int)] = [Iv ((m.rows.length + 1 : Nat) : Int)]
      rw [List.length_append]; rfl
theorem ok_remove_row : FnOk P w K mg base CX0 2 (n.ad 67) (n.fd 67) ["model", "arguments"] (spOp n (opI 2) (fun m ns ls => OkM m ∧ ∃ i : Nat, ns = [(i : Int)] ∧ ls = [])) := by
  have G_Model_has_row := ok_Model_has_row (P := P) (w := w) (base := base) T
  refine op_ty T.f_remove_row sc_remove_row rfl fun cdv Ar outer s H E' hr => ⟨_, (pss_cons (ps_set (i := 2) sc_remove_row.nd rfl (Or.inl rfl) (pe_ix ix_list (pv 1) pe_int (fun _ _ => rfl)))
        (pss_cons (ps_if (pt_not (pt_val (pe_meth (pv 0) T.cl_Model T.m_Model_has_row G_Model_has_row hr T.b_Model_has_row .nil pass0 (pa_cons (pv 2) pa_nil)))) (pss_one (ps_ret (pe_lst (pa_cons (pe_cst rfl T.g_NOT_THERE) pa_nil)))) pss_nil)
        (pss_cons (ps_expr (pe_bm PySem.F.plainAttrs_list PySem.F.slot_list_pop PySem.F.type_list_pop mt_popAt (pe_fld (pv 0) rfl) (pa_cons (pv 2) pa_nil)))
        (pss_cons (ps_expr (pe_bm PySem.F.plainAttrs_list PySem.F.slot_list_pop PySem.F.type_list_pop mt_popAt (pe_fld (pv 0) rfl) (pa_cons (pv 2) pa_nil)))
        (pss_one (ps_ret (pe_lst (pa_cons (pe_callB call_len_seq (by rfl) T.b_len (by decide +kernel) (pa_cons (pe_fld (pv 0) rfl) pa_nil)) pa_nil)))))))), ?_⟩
  rintro B p dx m ns ls ⟨ok, i, rfl, rfl⟩
  have h24 := ok.r24
  have hrl := ok.rl
  refine q_asg (P := Iv (i : Nat)) (e_ixL (e_var rfl) (e_intN 0) rfl) ?_
  show S _ _ _ (retM n B p dx (if m.hasRow (i : Int) = false then (m, [-2]) else (m.without (i : Int).toNat, [(((m.without (i : Int).toNat).rows.length : Nat) : Int)])).1 (if m.hasRow (i : Int) = false then (m, [-2]) else (m.without (i : Int).toNat, [(((m.without (i : Int).toNat).rows.length : Nat) : Int)])).2)
  refine q_if (b := !(m.hasRow (i : Int))) (t_not (t_val (e_methM (i := 0) (m, (i : Int)) trivial rfl rfl (a_cons (e_var rfl) a_nil) rfl fun v F F' h => h))) (fun h => ?_) (fun h => ?_)
  · have h : m.hasRow (i : Int) = false := by simpa using h
    rw [if_pos h]
    exact q_retMd (i := 0) rfl (E.of (el_lst (a_cons (e_int _) a_nil)))
  · have h : m.hasRow (i : Int) = true := by simpa using h
    have hi := hasRow_lt h
    rw [if_neg (by rw [h]; simp)]
    refine q_next (s_seq (s_rowsPop (i := 0) (k := i) T.cl_Model T.n_Model_rows rfl (se_0 (st_im (st_im st_nil))) (e_var rfl) hi (by omega)) ?_)
    refine s_seq (s_respPop (i := 0) (k := i) T.cl_Model T.n_Model_responses rfl (se_0 (st_im (st_im st_nil))) (e_var rfl) (by show i < m.resp.length; omega) (by show m.resp.length ≤ 1000; omega)) ?_
    exact s_retMd (i := 0) rfl (E.of (el_lst (a_cons (e_lenR (i := 0) T.cl_Model T.n_Model_rows rfl) a_nil)))
theorem ok_set_response : FnOk P w K mg base CX0 2 (n.ad 68) (n.fd 68) ["model", "arguments"] (spOp n (opI 3) (fun m ns ls => OkM m ∧ ∃ (i : Nat) (y : Int), ns = [(i : Int), y] ∧ ls = [])) := by
  have G_Model_has_row := ok_Model_has_row (P := P) (w := w) (base := base) T
  have G_is_response := ok_is_response (P := P) (w := w) (base := base) T
  refine op_ty T.f_set_response sc_set_response rfl fun cdv Ar outer s H E' hr => ⟨_, (pss_cons (ps_set (i := 2) sc_set_response.nd rfl (Or.inl rfl) (pe_ix ix_list (pv 1) pe_int (fun _ _ => rfl)))
        (pss_cons (ps_set (i := 3) sc_set_response.nd rfl (Or.inl rfl) (pe_ix ix_list (pv 1) pe_int (fun _ _ => rfl)))
        (pss_cons (ps_if (pt_not (pt_val (pe_meth (pv 0) T.cl_Model T.m_Model_has_row G_Model_has_row hr T.b_Model_has_row .nil pass0 (pa_cons (pv 2) pa_nil)))) (pss_one (ps_ret (pe_lst (pa_cons (pe_cst rfl T.g_NOT_THERE) pa_nil)))) pss_nil)
        (pss_cons (ps_if (pt_not (pt_val (pe_call G_is_response hr rfl T.g_is_response T.f_is_response.kp T.b_is_response .nil pass0 (pa_cons (pv 3) pa_nil)))) (pss_one (ps_ret (pe_lst (pa_cons (pe_cst rfl T.g_OUT_OF_RANGE) pa_nil)))) pss_nil)
        (pss_cons (ps_set (i := 4) sc_set_response.nd rfl (Or.inl rfl) (pe_ix ix_list (pe_fld (pv 0) rfl) (pv 2) (fun _ _ => rfl)))
        (pss_cons (ps_asg (pv 3) (pg_sub (pe_fld (pv 0) rfl) (pv 2) set_list))
        (pss_one (ps_ret (pe_lst (pa_cons (pv 4) pa_nil)))))))))), ?_⟩
  rintro B p dx m ns ls ⟨ok, i, y, rfl, rfl⟩
  have hrl := ok.rl
  refine q_asg (P := Iv (i : Nat)) (e_ixL (e_var rfl) (e_intN 0) rfl) ?_
  refine q_asg (P := Iv y) (e_ixL (e_var rfl) (e_intN 1) rfl) ?_
  show S _ _ _ (retM n B p dx (if m.hasRow (i : Int) = false then (m, [-2]) else if isResp y = false then (m, [-22]) else ({ m with resp := m.resp.set (i : Int).toNat y }, [m.resp.getD (i : Int).toNat 0])).1 (if m.hasRow (i : Int) = false then (m, [-2]) else if isResp y = false then (m, [-22]) else ({ m with resp := m.resp.set (i : Int).toNat y }, [m.resp.getD (i : Int).toNat 0])).2)
  refine q_if (b := !(m.hasRow (i : Int))) (t_not (t_val (e_methM (i := 0) (m, (i : Int)) trivial rfl rfl (a_cons (e_var rfl) a_nil) rfl fun v F F' h => h))) (fun h => ?_) (fun h => ?_)
  · have h : m.hasRow (i : Int) = false := by simpa using h
    rw [if_pos h]
    exact q_retMd (i := 0) rfl (E.of (el_lst (a_cons (e_int _) a_nil)))
  · have h : m.hasRow (i : Int) = true := by simpa using h
    have hi := hasRow_lt h
    rw [if_neg (show ¬ m.hasRow (i : Int) = false by rw [h]; simp)]
    refine q_next (q_if (b := !(isResp y)) (t_not (t_val (e_call y trivial (a_cons (e_var rfl) a_nil)))) (fun h2 => ?_) (fun h2 => ?_))
    · have h2 : isResp y = false := by simpa using h2
      rw [if_pos h2]
      exact q_retMd (i := 0) rfl (E.of (el_lst (a_cons (e_int _) a_nil)))
    · have h2 : ¬ isResp y = false := by simpa using h2
      rw [if_neg h2]
      refine q_next (q_asg (e_respAt (i := 0) (k := i) T.cl_Model T.n_Model_responses rfl (e_var rfl) (by omega)) ?_)
      refine s_seq (s_respPut (i := 0) (k := i) (y := y) T.cl_Model T.n_Model_responses rfl (se_0 (st_im (st_im (st_im (st_im st_nil))))) (e_var rfl) (e_var rfl) (by omega)) ?_
      exact s_retMd (i := 0) rfl (E.of (el_lst (a_cons (e_var rfl) a_nil)))
theorem ok_set_terms : FnOk P w K mg base CX0 2 (n.ad 69) (n.fd 69) ["model", "arguments"] (spOp n (opI 4) (fun m ns ls => OkM m ∧ ∃ t, ns = [] ∧ ls = [t] ∧ t.length ≤ 60 ∧ ∀ z ∈ t, 0 ≤ z)) := by
  have G_Model_fits_terms := ok_Model_fits_terms (P := P) (w := w) (base := base) T
  have G_Model_term_count := ok_Model_term_count (P := P) (w := w) (base := base) T
  refine op_ty T.f_set_terms sc_set_terms rfl fun cdv Ar outer s H E' hr => ⟨_, (pss_cons (ps_set (i := 2) sc_set_terms.nd rfl (Or.inl rfl) (pe_ix ix_list (pv 1) pe_int (fun _ _ => rfl)))
        (pss_cons (ps_if (pt_not (pt_val (pe_meth (pv 0) T.cl_Model T.m_Model_fits_terms G_Model_fits_terms hr T.b_Model_fits_terms .nil pass0 (pa_cons (pv 2) pa_nil)))) (pss_one (ps_ret (pe_lst (pa_cons (pe_cst rfl T.g_OUT_OF_RANGE) pa_nil)))) pss_nil)
        (pss_cons (ps_fld (pv 0) (pv 2) rfl)
        (pss_one (ps_ret (pe_lst (pa_cons (pe_meth0 (pv 0) T.cl_Model T.m_Model_term_count G_Model_term_count hr T.b_Model_term_count .nil pass0) pa_nil))))))), ?_⟩
  rintro B p dx m ns ls ⟨ok, t, rfl, rfl, ht, hz⟩
  refine q_asg (P := Li t) (e_ixL (e_var rfl) (e_intN 0) rfl) ?_
  show S _ _ _ (retM n B p dx (if fitsP m t = false then (m, [-22]) else ({ m with terms := t.map Int.toNat }, [((({ m with terms := t.map Int.toNat } : ModD).tc : Nat) : Int)])).1 (if fitsP m t = false then (m, [-22]) else ({ m with terms := t.map Int.toNat }, [((({ m with terms := t.map Int.toNat } : ModD).tc : Nat) : Int)])).2)
  refine q_if (b := !(fitsP m t)) (Ty.T.eq (t_not (t_val (e_methM (i := 0) (m, t) ⟨by show t.length ≤ 1000; omega, ok.c0⟩ rfl rfl (a_cons (e_var rfl) a_nil) rfl fun v F F' h => h))) (by show (!(fitsT m t)) = _; rw [fitsT_eq ok.c0])) (fun h => ?_) (fun h => ?_)
  · have h : fitsP m t = false := by simpa using h
    rw [if_pos h]
    exact q_retMd (i := 0) rfl (E.of (el_lst (a_cons (e_int _) a_nil)))
  · have h : fitsP m t = true := by simpa using h
    have ok2 := okTerms ok hz h
    rw [if_neg (show ¬ fitsP m t = false by rw [h]; simp)]
    refine q_next (s_seq (s_terms (i := 0) (ts' := t.map Int.toNat) T.cl_Model T.n_Model_terms rfl (se_0 (st_im (st_im st_nil))) (E.eq (e_var rfl) (ln_toNat hz))) ?_)
    exact s_retMd (i := 0) rfl (E.of (el_lst (a_cons (e_methM (i := 0) (qs := []) { m with terms := t.map Int.toNat } (by show 0 < (t.map Int.toNat).length; have := ok2.tl; have := ok.c0; rw [show (t.map Int.toNat).length = m.cc from ok2.tl]; exact ok.c0) rfl rfl a_nil rfl fun v F F' h => h) a_nil)))
theorem ok_clear : FnOk P w K mg base CX0 1 (n.ad 70) (n.fd 70) ["model", "arguments"] (spOp n (opI 5) (fun m ns ls => ns = [] ∧ ls = [])) := by
  refine op_ty T.f_clear sc_clear rfl fun cdv Ar outer s H E' hr => ⟨_, (pss_cons (ps_set (i := 2) sc_clear.nd rfl (Or.inl rfl) (pe_callB call_len_seq (by rfl) T.b_len (by decide +kernel) (pa_cons (pe_fld (pv 0) rfl) pa_nil)))
        (pss_cons (ps_fld (pv 0) (pe_lst pa_nil) rfl)
        (pss_cons (ps_fld (pv 0) (pe_lst pa_nil) rfl)
        (pss_one (ps_ret (pe_lst (pa_cons (pv 2) pa_nil))))))), ?_⟩
  rintro B p dx m ns ls ⟨rfl, rfl⟩
  refine q_asg (e_lenR (i := 0) T.cl_Model T.n_Model_rows rfl) ?_
  refine s_seq (s_rowsNew (i := 0) T.cl_Model T.n_Model_rows rfl (se_0 (st_im (st_im st_nil))) (el_lst a_nil)) ?_
  refine s_seq (s_respNew (i := 0) T.cl_Model T.n_Model_responses rfl (se_0 (st_im (st_im st_nil))) (el_lst a_nil)) ?_
  exact s_retMd (i := 0) rfl (E.of (el_lst (a_cons (e_var rfl) a_nil)))
theorem ok_get_row : FnOk P w K mg base CX0 2 (n.ad 71) (n.fd 71) ["model", "arguments"] (spF (fun x : ModD × Nat => [ModV n x.1, ArgV [(x.2 : Nat)] []]) (fun x => OkM x.1) (fun x => Li (aGet x.1 x.2))) := by
  have G_Model_has_row := ok_Model_has_row (P := P) (w := w) (base := base) T
  refine fn_ty T.f_get_row sc_get_row (fun _ => rfl) fun cdv Ar outer s H E' hr => ⟨_, (pss_cons (ps_set (i := 2) sc_get_row.nd rfl (Or.inl rfl) (pe_ix ix_list (pv 1) pe_int (fun _ _ => rfl)))
        (pss_cons (ps_if (pt_not (pt_val (pe_meth (pv 0) T.cl_Model T.m_Model_has_row G_Model_has_row hr T.b_Model_has_row .nil pass0 (pa_cons (pv 2) pa_nil)))) (pss_one (ps_ret (pe_lst (pa_cons (pe_cst rfl T.g_NOT_THERE) pa_nil)))) pss_nil)
        (pss_one (ps_ret (pe_op op_cat (pe_lst (pa_cons (pe_ix ix_list (pe_fld (pv 0) rfl) (pv 2) (fun _ _ => rfl)) pa_nil)) (pe_ix ix_list (pe_fld (pv 0) rfl) (pv 2) (fun _ _ => rfl))))))), ?_⟩
  rintro ⟨m, i⟩ ok
  have ok : OkM m := ok
  refine q_asg (P := Iv (i : Nat)) (e_ixL (e_var rfl) (e_intN 0) rfl) ?_
  refine q_if (b := !(m.hasRow i)) (t_not (t_val (e_meth (m, (i : Int)) trivial (e_var rfl) rfl (a_cons (e_var rfl) a_nil) rfl))) (fun h => ?_) (fun h => ?_)
  · refine q_ret (E.eq (E.of (el_lst (a_cons (e_int _) a_nil))) ?_)
    show _ = Li (aGet m i)
    unfold aGet
    rw [if_pos (by simpa using h)]; rfl
  · have hh : m.hasRow i = true := by simpa using h
    have nif : ¬ m.hasRow i = false := by rw [hh]; simp
    have hi := hasRow_lt hh
    have r := rowAt_bd ok hi
    have h8 := ok.c8
    refine q_next (s_ret (E.eq (E.of (el_cat (E.of (el_lst (a_cons (e_ixL (k := i) (e_fld T.cl_Model T.n_Model_responses (e_var rfl) rfl) (e_var rfl) (ix_map 0 (by rw [← ok.rl]; exact hi))) a_nil))) (e_ixL (k := i) (e_fld T.cl_Model T.n_Model_rows (e_var rfl) rfl) (e_var rfl) (ix_map [] hi)) ?_)) ?_))
    · rw [List.length_map]
      show 1 + (rowAt m i).length ≤ 1000000
      omega
    · show _ = Li (aGet m i)
      unfold aGet
      rw [if_neg nif]; rfl
theorem ok_summary : FnOk P w K mg base CX0 2 (n.ad 72) (n.fd 72) ["model", "arguments"] (spF (fun x : ModD => [ModV n x, ArgV [] []]) OkM (fun x => Li (aSum x))) := by
  have G_Model_term_count := ok_Model_term_count (P := P) (w := w) (base := base) T
  refine fn_ty T.f_summary sc_summary (fun _ => rfl) fun cdv Ar outer s H E' hr => ⟨_, (pss_one (ps_ret (pe_lst (pa_cons (pe_fld (pv 0) rfl) (pa_cons (pe_callB call_len_seq (by rfl) T.b_len (by decide +kernel) (pa_cons (pe_fld (pv 0) rfl) pa_nil)) (pa_cons (pe_meth0 (pv 0) T.cl_Model T.m_Model_term_count G_Model_term_count hr T.b_Model_term_count .nil pass0) pa_nil)))))), ?_⟩
  intro m ok
  refine s_ret (E.of (el_lst (a_cons (e_fld T.cl_Model T.n_Model_column_count (e_var rfl) rfl) (a_cons (e_lenM (f := Li) (l := m.rows) (a_cons (e_fld T.cl_Model T.n_Model_rows (e_var rfl) rfl) a_nil)) (a_cons (e_meth m (by show 0 < m.terms.length; rw [ok.tl]; exact ok.c0) (e_var rfl) rfl a_nil rfl) a_nil)))))
end
end Lf
end
section
set_option Elab.async false
set_option linter.all false
set_option maxRecDepth 100000
set_option maxHeartbeats 2000000
local macro_rules | `(tactic| decreasing_trivial) => `(tactic| ((repeat (first | exact Ty.st_nil | apply Ty.st_im | apply Ty.st_any | apply Ty.se_0 | apply Ty.se_im | apply Ty.se_any | exact Ty.pu_nil | apply Ty.pu_im | apply Ty.pu_any | apply Ty.pe_0 | apply Ty.pe_imE | apply Ty.pe_anyE | exact Ty.sub_nil | apply Ty.sub_cons | apply Ty.sub_any)); done))
namespace Lf
open PySem PySem.Spec PyProof.Rows L2 Ty NB
def lookI (n : Nm) (i : Int) : Option Addr := match (fs_STATE_OPERATIONS n).lookup i with
  | some a => some a
  | none => match (fs_ESTIMATE_OPERATIONS n).lookup i with
    | some a => some a
    | none => match (fs_ANALYSIS_OPERATIONS n).lookup i with
      | some a => some a
      | none => (fs_SURFACE_OPERATIONS n).lookup i
theorem e_inI {G : List SP} {ta tb : TE} {d : Addr} {fs : List (Int × Addr)} {i : Int} (ha : E G ta (Iv i)) (hb : E G tb (Rv d)) : E G (tOp (rInI d fs) ta tb) (Bv (fs.lookup i).isSome) := e_op2 ha hb fun x y F H Q j hx hy q => ⟨i, hx, hy, q _ F H (Gr.refl j) rfl⟩
theorem e_ixI {G : List SP} {ta tb : TE} {d a : Addr} {fs : List (Int × Addr)} {i : Int} (ha : E G ta (Rv d)) (hb : E G tb (Iv i)) (h : fs.lookup i = some a) : E G (tOp (rIxI d fs) ta tb) (Rv a) := e_op2 ha hb fun x y F H Q j hx hy q => ⟨i, a, hx, hy, h, q _ F H (Gr.refl j) rfl⟩
def preI (i : Nat) (m : ModD) (ns : List Int) (ls : List (List Int)) : Prop := (i = 0 ∨ OkM m) ∧ ArgOk i ns ls
structure OpAt (P : Program) (w : World) (K : PySem.W.Frag) (mg : Str → Option Value) (base : Heap) (n : Nm) (i : Nat) : Prop where
  ex : ∃ f fd, lookI n i = some f ∧ FnOk P w K mg base CX0 11 f fd ["model", "arguments"] (spOp n (opI i) (preI i)) ∧ PySem.W.keepIn K (.ref f) = true ∧ Binds K fd ["model", "arguments"] []
theorem spOp_pre {n : Nm} {op : ModD → List Int → List (List Int) → ModD × List Int} {pre pre' : ModD → List Int → List (List Int) → Prop} (h : ∀ m ns ls, pre' m ns ls → pre m ns ls) {vs : List V} {H : Hp} {Q : VK} {E : XK} (s : spOp n op pre' vs H Q E) : spOp n op pre vs H Q E := by
  obtain ⟨m, ns, ls, F, p, dx, a, t, lr, ly, rows, hp, r⟩ := s
  exact ⟨m, ns, ls, F, p, dx, a, t, lr, ly, rows, h m ns ls hp, r⟩
section
variable {P : Program} {w : World} {K : PySem.W.Frag} {mg : Str → Option Value} {base : Heap} {n : Nm} (T : Txt K mg n)
include T
theorem ok_operation_of : FnOk P w K mg base CX0 1 (n.ad 78) (n.fd 78) ["number"] (spF (fun x : Int × Addr => [Iv x.1]) (fun x => lookI n x.1 = some x.2) (fun x => Rv x.2)) := by
  refine fn_ty T.f_operation_of sc_operation_of (fun _ => rfl) fun cdv Ar outer s H E' hr => ⟨_, (pss_cons (ps_if (pt_cmpR (op_in_kdi T.d_STATE_OPERATIONS) (pv 0) (pe_rf rfl T.g_STATE_OPERATIONS) (by rfl)) (pss_one (ps_ret (pe_ix (ix_kdi T.d_STATE_OPERATIONS) (pe_rf rfl T.g_STATE_OPERATIONS) (pv 0) (fun _ _ => rfl)))) pss_nil)
        (pss_cons (ps_if (pt_cmpR (op_in_kdi T.d_ESTIMATE_OPERATIONS) (pv 0) (pe_rf rfl T.g_ESTIMATE_OPERATIONS) (by rfl)) (pss_one (ps_ret (pe_ix (ix_kdi T.d_ESTIMATE_OPERATIONS) (pe_rf rfl T.g_ESTIMATE_OPERATIONS) (pv 0) (fun _ _ => rfl)))) pss_nil)
        (pss_cons (ps_if (pt_cmpR (op_in_kdi T.d_ANALYSIS_OPERATIONS) (pv 0) (pe_rf rfl T.g_ANALYSIS_OPERATIONS) (by rfl)) (pss_one (ps_ret (pe_ix (ix_kdi T.d_ANALYSIS_OPERATIONS) (pe_rf rfl T.g_ANALYSIS_OPERATIONS) (pv 0) (fun _ _ => rfl)))) pss_nil)
        (pss_one (ps_ret (pe_ix (ix_kdi T.d_SURFACE_OPERATIONS) (pe_rf rfl T.g_SURFACE_OPERATIONS) (pv 0) (fun _ _ => rfl))))))), ?_⟩
  rintro ⟨i, a⟩ h
  have h : lookI n i = some a := h
  unfold lookI at h
  refine q_if (t_test (e_inI (fs := fs_STATE_OPERATIONS n) (e_var rfl) (e_ref _))) (fun h1 => ?_) (fun h1 => ?_)
  · obtain ⟨b, hb⟩ := Option.isSome_iff_exists.mp h1
    rw [hb] at h
    exact q_ret (e_ixI (e_ref _) (e_var rfl) (by rw [hb]; exact h))
  rw [Option.isSome_eq_false_iff, Option.isNone_iff_eq_none] at h1
  rw [h1] at h
  refine q_next (q_if (t_test (e_inI (fs := fs_ESTIMATE_OPERATIONS n) (e_var rfl) (e_ref _))) (fun h1 => ?_) (fun h1 => ?_))
  · obtain ⟨b, hb⟩ := Option.isSome_iff_exists.mp h1
    simp only [hb] at h
    exact q_ret (e_ixI (e_ref _) (e_var rfl) (by rw [hb]; exact h))
  rw [Option.isSome_eq_false_iff, Option.isNone_iff_eq_none] at h1
  simp only [h1] at h
  refine q_next (q_if (t_test (e_inI (fs := fs_ANALYSIS_OPERATIONS n) (e_var rfl) (e_ref _))) (fun h1 => ?_) (fun h1 => ?_))
  · obtain ⟨b, hb⟩ := Option.isSome_iff_exists.mp h1
    simp only [hb] at h
    exact q_ret (e_ixI (e_ref _) (e_var rfl) (by rw [hb]; exact h))
  rw [Option.isSome_eq_false_iff, Option.isNone_iff_eq_none] at h1
  simp only [h1] at h
  exact q_next (s_ret (e_ixI (e_ref _) (e_var rfl) h))
theorem at_0 : OpAt P w K mg base n 0 := ⟨n.ad 65, n.fd 65, rfl, FnOk.mono (FnOk.imp (ok_create (P := P) (w := w) (base := base) T) fun vs H Q E s => spOp_pre (fun m ns ls ⟨_, ⟨c, e, h⟩, e2⟩ => ⟨c.toNat, by rw [e]; congr 1; omega, e2⟩) s) (by decide), T.f_create.kp, T.b_create⟩
theorem at_1 : OpAt P w K mg base n 1 := ⟨n.ad 66, n.fd 66, rfl, FnOk.mono (FnOk.imp (ok_add_row (P := P) (w := w) (base := base) T) fun vs H Q E s => spOp_pre (fun m ns ls ⟨h, ⟨y, e⟩, r, e2, hr⟩ => ⟨h.resolve_left (by decide), y, r, e, e2, hr⟩) s) (by decide), T.f_add_row.kp, T.b_add_row⟩
theorem at_2 : OpAt P w K mg base n 2 := ⟨n.ad 67, n.fd 67, rfl, FnOk.mono (FnOk.imp (ok_remove_row (P := P) (w := w) (base := base) T) fun vs H Q E s => spOp_pre (fun m ns ls ⟨h, ⟨i, e, hi⟩, e2⟩ => ⟨h.resolve_left (by decide), i.toNat, by rw [e]; congr 1; omega, e2⟩) s) (by decide), T.f_remove_row.kp, T.b_remove_row⟩
theorem at_3 : OpAt P w K mg base n 3 := ⟨n.ad 68, n.fd 68, rfl, FnOk.mono (FnOk.imp (ok_set_response (P := P) (w := w) (base := base) T) fun vs H Q E s => spOp_pre (fun m ns ls ⟨h, ⟨i, y, e, hi⟩, e2⟩ => ⟨h.resolve_left (by decide), i.toNat, y, by rw [e]; congr 1; omega, e2⟩) s) (by decide), T.f_set_response.kp, T.b_set_response⟩
theorem at_4 : OpAt P w K mg base n 4 := ⟨n.ad 69, n.fd 69, rfl, FnOk.mono (FnOk.imp (ok_set_terms (P := P) (w := w) (base := base) T) fun vs H Q E s => spOp_pre (fun m ns ls ⟨h, e, t, e2, ht, hz⟩ => ⟨h.resolve_left (by decide), t, e, e2, ht, hz⟩) s) (by decide), T.f_set_terms.kp, T.b_set_terms⟩
theorem at_5 : OpAt P w K mg base n 5 := ⟨n.ad 70, n.fd 70, rfl, FnOk.mono (FnOk.imp (ok_clear (P := P) (w := w) (base := base) T) fun vs H Q E s => spOp_pre (fun m ns ls ⟨_, e, e2⟩ => ⟨e, e2⟩) s) (by decide), T.f_clear.kp, T.b_clear⟩
theorem at_6 : OpAt P w K mg base n 6 := ⟨n.ad 71, n.fd 71, rfl, FnOk.mono (q_op (ok_get_row (P := P) (w := w) (base := base) T) (fun m ns ls ⟨h, ⟨i, e, hi⟩, e2⟩ => ⟨(m, i.toNat), _, _, by rw [e, e2, show [i] = [((i.toNat : Nat) : Int)] by congr 1; omega], fun _ _ q => q, h.resolve_left (by decide), rfl, by rw [e, e2]; rfl⟩)) (by decide), T.f_get_row.kp, T.b_get_row⟩
theorem at_7 : OpAt P w K mg base n 7 := ⟨n.ad 26, n.fd 26, rfl, FnOk.mono (q_op (ok_rank (P := P) (w := w) (base := base) T) (fun m ns ls ⟨h, e, e2⟩ => ⟨m, _, _, by rw [e, e2], fun _ _ q => q, h.resolve_left (by decide), rfl, by rw [e, e2]; rfl⟩)) (by decide), T.f_rank.kp, T.b_rank⟩
theorem at_8 : OpAt P w K mg base n 8 := ⟨n.ad 27, n.fd 27, rfl, FnOk.mono (q_op (ok_coefficients (P := P) (w := w) (base := base) T) (fun m ns ls ⟨h, e, e2⟩ => ⟨m, _, _, by rw [e, e2], fun _ _ q => q, h.resolve_left (by decide), rfl, by rw [e, e2]; rfl⟩)) (by decide), T.f_coefficients.kp, T.b_coefficients⟩
theorem at_9 : OpAt P w K mg base n 9 := ⟨n.ad 29, n.fd 29, rfl, FnOk.mono (q_op (ok_estimate (P := P) (w := w) (base := base) T) (fun m ns ls ⟨h, e, r, e2, hr⟩ => ⟨(m, r), _, _, by rw [e, e2], fun _ _ q => q, ⟨h.resolve_left (by decide), by show r.length ≤ 1000; omega⟩, rfl, by rw [e, e2]; rfl⟩)) (by decide), T.f_estimate.kp, T.b_estimate⟩
theorem at_10 : OpAt P w K mg base n 10 := ⟨n.ad 31, n.fd 31, rfl, FnOk.mono (q_op (ok_covariance (P := P) (w := w) (base := base) T) (fun m ns ls ⟨h, e, c, d, e2, hc, hd⟩ => ⟨(m, c, d), _, _, by rw [e, e2], fun _ _ q => q, ⟨h.resolve_left (by decide), by show c.length ≤ 1000; omega, by show d.length ≤ 1000; omega⟩, rfl, by rw [e, e2]; rfl⟩)) (by decide), T.f_covariance.kp, T.b_covariance⟩
theorem at_11 : OpAt P w K mg base n 11 := ⟨n.ad 32, n.fd 32, rfl, FnOk.mono (q_op (ok_squared_ratio (P := P) (w := w) (base := base) T) (fun m ns ls ⟨h, e, r, e2, hr⟩ => ⟨(m, r), _, _, by rw [e, e2], fun _ _ q => q, ⟨h.resolve_left (by decide), by show r.length ≤ 1000; omega⟩, rfl, by rw [e, e2]; rfl⟩)) (by decide), T.f_squared_ratio.kp, T.b_squared_ratio⟩
theorem at_12 : OpAt P w K mg base n 12 := ⟨n.ad 34, n.fd 34, rfl, FnOk.mono (q_op (ok_fitted (P := P) (w := w) (base := base) T) (fun m ns ls ⟨h, ⟨i, e, hi⟩, e2⟩ => ⟨(m, i.toNat), _, _, by rw [e, e2, show [i] = [((i.toNat : Nat) : Int)] by congr 1; omega], fun _ _ q => q, h.resolve_left (by decide), rfl, by rw [e, e2]; rfl⟩)) (by decide), T.f_fitted.kp, T.b_fitted⟩
theorem at_13 : OpAt P w K mg base n 13 := ⟨n.ad 35, n.fd 35, rfl, FnOk.mono (q_op (ok_leverage (P := P) (w := w) (base := base) T) (fun m ns ls ⟨h, ⟨i, e, hi⟩, e2⟩ => ⟨(m, i.toNat), _, _, by rw [e, e2, show [i] = [((i.toNat : Nat) : Int)] by congr 1; omega], fun _ _ q => q, h.resolve_left (by decide), rfl, by rw [e, e2]; rfl⟩)) (by decide), T.f_leverage.kp, T.b_leverage⟩
theorem at_14 : OpAt P w K mg base n 14 := ⟨n.ad 36, n.fd 36, rfl, FnOk.mono (q_op (ok_deleted (P := P) (w := w) (base := base) T) (fun m ns ls ⟨h, ⟨i, e, hi⟩, e2⟩ => ⟨(m, i.toNat), _, _, by rw [e, e2, show [i] = [((i.toNat : Nat) : Int)] by congr 1; omega], fun _ _ q => q, h.resolve_left (by decide), rfl, by rw [e, e2]; rfl⟩)) (by decide), T.f_deleted.kp, T.b_deleted⟩
theorem at_15 : OpAt P w K mg base n 15 := ⟨n.ad 38, n.fd 38, rfl, FnOk.mono (q_op (ok_residual_sum (P := P) (w := w) (base := base) T) (fun m ns ls ⟨h, e, e2⟩ => ⟨m, _, _, by rw [e, e2], fun _ _ q => q, h.resolve_left (by decide), rfl, by rw [e, e2]; rfl⟩)) (by decide), T.f_residual_sum.kp, T.b_residual_sum⟩
theorem at_16 : OpAt P w K mg base n 16 := ⟨n.ad 39, n.fd 39, rfl, FnOk.mono (q_op (ok_variance_estimate (P := P) (w := w) (base := base) T) (fun m ns ls ⟨h, e, e2⟩ => ⟨m, _, _, by rw [e, e2], fun _ _ q => q, h.resolve_left (by decide), rfl, by rw [e, e2]; rfl⟩)) (by decide), T.f_variance_estimate.kp, T.b_variance_estimate⟩
theorem at_17 : OpAt P w K mg base n 17 := ⟨n.ad 19, n.fd 19, rfl, FnOk.mono (q_op (ok_sequential (P := P) (w := w) (base := base) T) (fun m ns ls ⟨h, e, e2⟩ => ⟨m, _, _, by rw [e, e2], fun _ _ q => q, h.resolve_left (by decide), rfl, by rw [e, e2]; rfl⟩)) (by decide), T.f_sequential.kp, T.b_sequential⟩
theorem at_18 : OpAt P w K mg base n 18 := ⟨n.ad 21, n.fd 21, rfl, FnOk.mono (q_op (ok_marginal (P := P) (w := w) (base := base) T) (fun m ns ls ⟨h, e, e2⟩ => ⟨m, _, _, by rw [e, e2], fun _ _ q => q, h.resolve_left (by decide), rfl, by rw [e, e2]; rfl⟩)) (by decide), T.f_marginal.kp, T.b_marginal⟩
theorem at_19 : OpAt P w K mg base n 19 := ⟨n.ad 22, n.fd 22, rfl, FnOk.mono (q_op (ok_f_ratio (P := P) (w := w) (base := base) T) (fun m ns ls ⟨h, ⟨i, e, hi⟩, e2⟩ => ⟨(m, i.toNat), _, _, by rw [e, e2, show [i] = [((i.toNat : Nat) : Int)] by congr 1; omega], fun _ _ q => q, h.resolve_left (by decide), rfl, by rw [e, e2]; rfl⟩)) (by decide), T.f_f_ratio.kp, T.b_f_ratio⟩
theorem at_20 : OpAt P w K mg base n 20 := ⟨n.ad 25, n.fd 25, rfl, FnOk.mono (q_op (ok_lack_of_fit (P := P) (w := w) (base := base) T) (fun m ns ls ⟨h, e, e2⟩ => ⟨m, _, _, by rw [e, e2], fun _ _ q => q, h.resolve_left (by decide), rfl, by rw [e, e2]; rfl⟩)) (by decide), T.f_lack_of_fit.kp, T.b_lack_of_fit⟩
theorem at_21 : OpAt P w K mg base n 21 := ⟨n.ad 30, n.fd 30, rfl, FnOk.mono (q_op (ok_predict (P := P) (w := w) (base := base) T) (fun m ns ls ⟨h, e, r, e2, hr⟩ => ⟨(m, r), _, _, by rw [e, e2], fun _ _ q => q, ⟨h.resolve_left (by decide), by show r.length ≤ 1000; omega⟩, rfl, by rw [e, e2]; rfl⟩)) (by decide), T.f_predict.kp, T.b_predict⟩
theorem at_22 : OpAt P w K mg base n 22 := ⟨n.ad 37, n.fd 37, rfl, FnOk.mono (q_op (ok_lost_value (P := P) (w := w) (base := base) T) (fun m ns ls ⟨h, ⟨i, e, hi⟩, e2⟩ => ⟨(m, i.toNat), _, _, by rw [e, e2, show [i] = [((i.toNat : Nat) : Int)] by congr 1; omega], fun _ _ q => q, h.resolve_left (by decide), rfl, by rw [e, e2]; rfl⟩)) (by decide), T.f_lost_value.kp, T.b_lost_value⟩
theorem at_23 : OpAt P w K mg base n 23 := ⟨n.ad 40, n.fd 40, rfl, FnOk.mono (q_op (ok_normal_equations (P := P) (w := w) (base := base) T) (fun m ns ls ⟨h, e, e2⟩ => ⟨m, _, _, by rw [e, e2], fun _ _ q => q, h.resolve_left (by decide), rfl, by rw [e, e2]; rfl⟩)) (by decide), T.f_normal_equations.kp, T.b_normal_equations⟩
theorem at_24 : OpAt P w K mg base n 24 := ⟨n.ad 77, n.fd 77, rfl, FnOk.mono (q_op (ok_stationary (P := P) (w := w) (base := base) T) (fun m ns ls ⟨h, ⟨k, c, e, hk⟩, l, q, e2, hl, hq⟩ => ⟨(k.toNat, c, l, q), Any, _, by rw [e, e2, show [k, c] = [((k.toNat : Nat) : Int), c] by congr 1; omega], fun _ _ _ => trivial, ⟨by show l.length ≤ 100; omega, by show q.length ≤ 100; omega⟩, rfl, by rw [e, e2]; rfl⟩)) (by decide), T.f_stationary.kp, T.b_stationary⟩
theorem at_25 : OpAt P w K mg base n 25 := ⟨n.ad 72, n.fd 72, rfl, FnOk.mono (q_op (ok_summary (P := P) (w := w) (base := base) T) (fun m ns ls ⟨h, e, e2⟩ => ⟨m, _, _, by rw [e, e2], fun _ _ q => q, h.resolve_left (by decide), rfl, by rw [e, e2]; rfl⟩)) (by decide), T.f_summary.kp, T.b_summary⟩
theorem at_all : ∀ i, i < 26 → OpAt P w K mg base n i
  | 0, _ => at_0 T
  | 1, _ => at_1 T
  | 2, _ => at_2 T
  | 3, _ => at_3 T
  | 4, _ => at_4 T
  | 5, _ => at_5 T
  | 6, _ => at_6 T
  | 7, _ => at_7 T
  | 8, _ => at_8 T
  | 9, _ => at_9 T
  | 10, _ => at_10 T
  | 11, _ => at_11 T
  | 12, _ => at_12 T
  | 13, _ => at_13 T
  | 14, _ => at_14 T
  | 15, _ => at_15 T
  | 16, _ => at_16 T
  | 17, _ => at_17 T
  | 18, _ => at_18 T
  | 19, _ => at_19 T
  | 20, _ => at_20 T
  | 21, _ => at_21 T
  | 22, _ => at_22 T
  | 23, _ => at_23 T
  | 24, _ => at_24 T
  | 25, _ => at_25 T
  | i + 26, h => absurd h (by omega)
end
end Lf
end
section
set_option Elab.async false
set_option linter.all false
set_option maxRecDepth 100000
set_option maxHeartbeats 2000000
local macro_rules | `(tactic| decreasing_trivial) => `(tactic| ((repeat (first | exact Ty.st_nil | apply Ty.st_im | apply Ty.st_any | apply Ty.se_0 | apply Ty.se_im | apply Ty.se_any | exact Ty.pu_nil | apply Ty.pu_im | apply Ty.pu_any | apply Ty.pe_0 | apply Ty.pe_imE | apply Ty.pe_anyE | exact Ty.sub_nil | apply Ty.sub_cons | apply Ty.sub_any)); done))
namespace Lf
open PySem PySem.Spec PyProof.Rows L2 Ty NB
/-! answer_to -/
def spATo (n : Nm) (i : Nat) : Sp := fun vs H Q _ => ∃ m ns ls F p dx a t lr ly rows, OkS m ∧ ArgOk i ns ls ∧ Same F H ∧ vs = [.ref p, .int (i : Nat), a] ∧ (ArgV ns ls).h a F ∧ MdH n F H p dx m t lr ly rows ∧
  ∀ F' H' q t' lr' ly' rows', Gr F (dl H p lr ly) F' H' → MdH n F' H' p dx (stepI m i ns ls).1 t' lr' ly' rows' → dl H p lr ly lr' = none → dl H p lr ly ly' = none → H' q = some (.lst ((stepI m i ns ls).2.map V.int)) → (F' q ≠ none ∨ dl H p lr ly q = none) → Q (.ref q) H'
def spAT (n : Nm) : Sp := fun vs H Q E => ∃ i, i < 26 ∧ spATo n i vs H Q E
section
variable {G2 : List SP} {K : PySem.W.Frag} {n : Nm} {B : Hp} {p dx : Addr} {m : ModD}
/-- return operation(model, arguments) -/
theorem s_retOp {f : Addr} {op : ModD → List Int → List (List Int) → ModD × List Int} {pre : ModD → List Int → List (List Int) → Prop} {ns : List Int} {ls : List (List Int)} {P1 : VP} (hp : pre m ns ls) : S [mdl n B p dx m, im P1, im (ArgV ns ls), im (Rv f)] (tRet (tCallL 3 f (spOp n op pre) [] E0 (tCons (tVar 0) (tCons (tVar 2) tNil)))) G2 (retM n B p dx (op m ns ls).1 (op m ns ls).2) := fun F0 H0 D s F H a nx rt => by
  match s, a with
  | [v0, v1, v2, v3], ⟨g, ⟨e0, t, lr, ly, rows, ev, b1, b2, b3, hh⟩, _, ⟨x2, e2, h2⟩, ⟨x3, e3, h3⟩, _⟩ =>
    have h3 : x3 = .ref f := h3
    subst ev e2 e3 h3
    refine ⟨rfl, .ref p, rfl, x2, rfl, m, ns, ls, F, p, dx, x2, t, lr, ly, rows, hp, g.i, rfl, h2, hh, fun F' H' q t' lr' ly' rows' g2 hm c1 c2 hq hor => ?_⟩
    have hB : ∀ a, dl H p lr ly a = none → B a = none := fun q z => by
      by_cases q1 : q = p
      · rw [q1]; exact b1
      · by_cases q2 : q = lr
        · rw [q2]; exact b2
        · by_cases q3 : q = ly
          · rw [q3]; exact b3
          · rw [dl_ne q1 q2 q3] at z
            exact e0 ▸ g.h.free z
    have hB2 : ∀ a u, B a = some u → dl H p lr ly a = some u := fun a u e => by
      have : H a = some u := g.h a u (by rw [e0]; exact e)
      rw [dl_ne (fun q => by rw [q, b1] at e; cases e) (fun q => by rw [q, b2] at e; cases e) (fun q => by rw [q, b3] at e; cases e)]
      exact this
    have g3 : Gr F0 B F' H' := ⟨g.f.trans g2.f, fun a u e => g2.h a u (hB2 a u e), g2.i, fun a z => by
      cases e : B a with
      | none => exact absurd e z
      | some u =>
        exact (g2.o a (by rw [hB2 a u e]; intro q; cases q)).trans (g.o a (by rw [e0]; exact z))⟩
    have c1' := hB _ c1
    have c2' := hB _ c2
    have x1 : frz n F' p dx (op m ns ls).1 t' lr' ly' rows' lr' = some (.lst rows') := by
      unfold frz
      rw [upd_ne hm.npr.symm, upd_ne hm.ne, upd_same]
    have x2' : frz n F' p dx (op m ns ls).1 t' lr' ly' rows' ly' = some (.lst ((op m ns ls).1.resp.map V.int)) := by
      unfold frz
      rw [upd_ne hm.npy.symm, upd_same]
    have x3' : frz n F' p dx (op m ns ls).1 t' lr' ly' rows' p = some (.ins (n.cl 4) dx (mFs (op m ns ls).1 t' lr' ly')) := upd_same
    have g4 : Gr F0 B (frz n F' p dx (op m ns ls).1 t' lr' ly' rows') H' := ((g3.fix c1' hm.fr hm.hr).fix c2' (by rw [upd_ne hm.ne.symm]; exact hm.fy) hm.hy).fix b1 (by rw [upd_ne hm.npy, upd_ne hm.npr]; exact hm.fp) hm.hp
    subst e0
    cases e : frz n F' p dx (op m ns ls).1 t' lr' ly' rows' q with
    | some u =>
      have eu := g4.i q u e
      rw [hq] at eu
      cases eu
      exact rt _ _ H' g4 ⟨q, F', t', lr', ly', rows', rfl, e, hm.up, c1', c2', ⟨hm.fp, hm.fr, hm.fy, x3', x1, x2', hm.ft, hm.al, hm.ne⟩⟩
    | none =>
      have bq : H0 q = none := by
        rcases hor with z | z
        · have : frz n F' p dx (op m ns ls).1 t' lr' ly' rows' q ≠ none := by
            cases e2 : F' q with
            | none => exact absurd e2 z
            | some u => rw [hm.up q u e2]; intro z; cases z
          exact absurd e this
        · exact hB _ z
      have nqp : q ≠ p := fun z => by rw [z, x3'] at e; cases e
      have nqr : q ≠ lr' := fun z => by rw [z, x1] at e; cases e
      have nqy : q ≠ ly' := fun z => by rw [z, x2'] at e; cases e
      have g5 := g4.fix bq e hq
      exact rt _ _ H' g5 ⟨q, F', t', lr', ly', rows', rfl, upd_same, hm.up.trans (fixS e), c1', c2', ⟨hm.fp, hm.fr, hm.fy, by rw [upd_ne nqp.symm]; exact x3', by rw [upd_ne nqr.symm]; exact x1, by rw [upd_ne nqy.symm]; exact x2', hm.ft, hm.al, hm.ne⟩⟩
end
section
variable {P : Program} {w : World} {K : PySem.W.Frag} {mg : Str → Option Value} {base : Heap} {n : Nm} (T : Txt K mg n)
include T
omit T in
theorem ato_ty {i : Nat} {x qual : Str} {st : Stmt} {f : Addr} {fd : FuncData} {N pn : List Str} {k : Nat} (Fn : Fun K x qual st f fd) (Sc : FnScope N pn (defScope st)) (hl : pn.length = 3) (hN : N.length = 4)
    (hb : ∀ (cdv : Value) (Ar : Around) (outer : List Env) (s : Shared) (H : Hp) (E' : XK), Room k (Ar.deeper (envOfC qual (defScope st) s.heap.objs.size f cdv)) →
      ∃ t, PSs (cxOf CX0 P w K mg base N qual (defScope st) f cdv Ar outer s H E').nox (defBody st) t ∧ ∀ B p dx m ns ls, OkS m → ArgOk i ns ls → S [mdl n B p dx m, im (Iv (i : Nat)), im (ArgV ns ls), any] t [bot] (retM n B p dx (stepI m i ns ls).1 (stepI m i ns ls).2)) : FnOk P w K mg base CX0 (k + 1) f fd pn (spATo n i) := by
  refine Fn.ok Sc (fun vs H Q E' h => ?_) fun cdv Ar outer s H vs Q E' hr h => ?_
  · obtain ⟨m, ns, ls, F, p, dx, a, t, lr, ly, rows, _, _, _, rfl, _⟩ := h
    rw [hl]; rfl
  obtain ⟨m, ns, ls, F, p, dx, a, t, lr, ly, rows, ok, ha, sf, rfl, hav, hm, q⟩ := h
  obtain ⟨ts, d1, d2⟩ := hb cdv Ar outer s H E' hr
  refine ⟨ts, d1, ?_⟩
  have sB : Same F (dl H p lr ly) := fun a u e => by
    rw [dl_ne (ne_of_none e hm.fp) (ne_of_none e hm.fr) (ne_of_none e hm.fy)]; exact sf a u e
  refine d2 (dl H p lr ly) p dx m ns ls ok ha F (dl H p lr ly) _ _ F H ⟨⟨Same.refl _, dl_sub, sf, fun _ _ => rfl⟩, ?_⟩ (fun s' F' H' a => (bot_no a.s).elim) fun v F' H' g r => ?_
  · unfold L2.start
    rw [hN]
    exact ⟨⟨rfl, t, lr, ly, rows, rfl, dl_p, dl_t, dl_q, hm⟩, ⟨_, rfl, rfl⟩, ⟨a, rfl, hav⟩, trivial, trivial⟩
  obtain ⟨r, F1, t', lr', ly', rows', rfl, e1, s1, b1, b2, h⟩ := r
  have s2 : Same F1 (dl F' p lr' ly') := fun a u e => by
    rw [dl_ne (ne_of_none e h.fp) (ne_of_none e h.fr) (ne_of_none e h.fy)]; exact s1 a u e
  refine q (dl F' p lr' ly') H' r t' lr' ly' rows' ⟨fun a u e => ?_, g.h, dl_sub.trans g.i, fun a z => ?_⟩ ⟨dl_p, dl_t, dl_q, g.i _ _ h.hp, g.i _ _ h.hr, g.i _ _ h.hy, s2 _ _ h.ft, h.al.mono s2, h.ne⟩ b1 b2 (g.i _ _ e1) ?_
  · rw [dl_ne (ne_of_none e hm.fp) (ne_of_none e (sB.free b1)) (ne_of_none e (sB.free b2))]; exact g.f a u e
  · rw [dl_ne (fun c => z (by rw [c]; exact dl_p)) (fun c => z (by rw [c]; exact b1)) (fun c => z (by rw [c]; exact b2))]
    exact g.o a z
  · by_cases c : r = p ∨ r = lr' ∨ r = ly'
    · right
      rcases c with c | c | c
      · rw [c]; exact dl_p
      · rw [c]; exact b1
      · rw [c]; exact b2
    · left
      rw [not_or, not_or] at c
      rw [dl_ne c.1 c.2.1 c.2.2, e1]
      intro z; cases z
theorem at_one (i : Nat) (hi : i < 26) : FnOk P w K mg base CX0 12 (n.ad 79) (n.fd 79) ["model", "number", "arguments"] (spATo n i) := by
  have G_Model_is_created := ok_Model_is_created (P := P) (w := w) (base := base) T
  have G_operation_of := ok_operation_of (P := P) (w := w) (base := base) T
  obtain ⟨f, fd, hf, HF, HK, HB⟩ := (at_all (P := P) (w := w) (mg := mg) (base := base) T i hi).ex
  refine ato_ty T.f_answer_to sc_answer_to rfl rfl fun cdv Ar outer s0 H E' hr => ⟨_, (pss_cons (ps_if (PW.pt (pw_and (pt_cmpR op_ne (pv 1) pe_int (nomark _)) (pw_and1 (pt_not (pt_val (pe_meth0 (pv 0) T.cl_Model T.m_Model_is_created G_Model_is_created (hr.mono (by decide)) T.b_Model_is_created .nil pass0)))))) (pss_one (ps_ret (pe_lst (pa_cons (pe_cst rfl T.g_NOT_CREATED) pa_nil)))) pss_nil)
        (pss_cons (ps_set (i := 3) sc_answer_to.nd rfl (Or.inl rfl) (pe_call G_operation_of (hr.mono (by decide)) rfl T.g_operation_of T.f_operation_of.kp T.b_operation_of .nil pass0 (pa_cons (pv 1) pa_nil)))
        (pss_one (ps_ret (pe_callL (i := 3) HF hr rfl (Or.inl rfl) HK HB .nil pass0 (pa_cons (pv 0) (pa_cons (pv 2) pa_nil))))))), ?_⟩
  intro B p dx m ns ls ok ha
  refine q_if (b := !(decide ((i : Int) = 0)) && !(decide ((0 : Int) < (m.cc : Int)))) (t_and (t_test (e_ne (e_var rfl) (e_int _))) fun _ => t_not (t_val (e_methM (i := 0) (qs := []) m trivial rfl rfl a_nil rfl fun v F F' h => h))) (fun h => ?_) (fun h => ?_)
  · have h : ¬ (i : Int) = 0 ∧ ¬ (0 : Int) < (m.cc : Int) := by simpa using h
    have e : stepI m i ns ls = (m, [-11]) := by
      unfold stepI
      rw [if_pos ⟨by omega, by omega⟩]
    rw [e]
    exact q_retMd (i := 0) rfl (E.of (el_lst (a_cons (e_int _) a_nil)))
  · have h : i = 0 ∨ 0 < m.cc := by
      by_cases c : i = 0
      · exact .inl c
      · right
        have h : ¬ (i : Int) = 0 → (0 : Int) < (m.cc : Int) := by simpa using h
        have := h (by omega)
        omega
    have e : stepI m i ns ls = opI i m ns ls := by
      unfold stepI
      rw [if_neg (by omega)]
    have hpre : preI i m ns ls := ⟨by
      rcases h with h | h
      · exact .inl h
      · rcases ok with k | k
        · omega
        · exact .inr k, ha⟩
    rw [e]
    refine q_next (q_asg (P := Rv f) (e_call ((i : Int), f) hf (a_cons (e_var rfl) a_nil)) ?_)
    exact s_retOp hpre
theorem ok_answer_to : FnOk P w K mg base CX0 12 (n.ad 79) (n.fd 79) ["model", "number", "arguments"] (spAT n) :=
  ⟨fun vs H Q E ⟨i, hi, h⟩ => (at_one (P := P) (w := w) (mg := mg) (base := base) T i hi).len vs H Q E h, fun A outer s H args us vs Q E hr he hb hv ⟨i, hi, h⟩ => (at_one (P := P) (w := w) (mg := mg) (base := base) T i hi).run A outer s H args us vs Q E hr he hb hv h⟩
end
end Lf
end
section
set_option Elab.async false
set_option linter.all false
set_option maxRecDepth 100000
set_option maxHeartbeats 2000000
local macro_rules | `(tactic| decreasing_trivial) => `(tactic| ((repeat (first | exact Ty.st_nil | apply Ty.st_im | apply Ty.st_any | apply Ty.se_0 | apply Ty.se_im | apply Ty.se_any | exact Ty.pu_nil | apply Ty.pu_im | apply Ty.pu_any | apply Ty.pe_0 | apply Ty.pe_imE | apply Ty.pe_anyE | exact Ty.sub_nil | apply Ty.sub_cons | apply Ty.sub_any)); done))
namespace Lf
open PySem PySem.Spec PyProof.Rows L2 Ty NB
/-! how long answers are -/
theorem frl_len (q : Rat) : (frL q).length = 2 := rfl
theorem flat2 (f : Int → Rat) : ∀ l : List Int, (l.flatMap fun z => frL (f z)).length = 2 * l.length
  | [] => rfl
  | x :: l => by rw [List.flatMap_cons, List.length_append, flat2 f l, frl_len, List.length_cons]; omega
theorem told_len (m : ModD) (v : List Int) (a : Int) : (aTold m v a).length ≤ 100 := by
  unfold aTold
  split
  · decide
  · split
    · decide
    · show 1 + 1 + 1 + 1 + 1 ≤ 100; decide
theorem opI_len {op : Nat} {m : ModD} {ns : List Int} {ls : List (List Int)} (h : OkM m) : (opI op m ns ls).2.length ≤ 100 := by
  unfold opI
  split
  · split <;> (show 1 ≤ 100; decide)
  · split
    · show 1 ≤ 100; decide
    · split <;> (show 1 ≤ 100; decide)
  · split <;> (show 1 ≤ 100; decide)
  · split
    · show 1 ≤ 100; decide
    · split <;> (show 1 ≤ 100; decide)
  · split <;> (show 1 ≤ 100; decide)
  · show 1 ≤ 100; decide
  · rename_i i
    show (aGet m i.toNat).length ≤ 100
    unfold aGet
    split
    · decide
    · rename_i q
      have q : m.hasRow ((i.toNat : Nat) : Int) = true := by simpa using q
      have := rowAt_bd h (hasRow_lt q)
      have := h.c8
      show (rowAt m i.toNat).length + 1 ≤ 100
      omega
  · show 2 ≤ 100; decide
  · show (aCoef m).length ≤ 100
    unfold aCoef
    split
    · decide
    · rw [List.length_cons, flat2, solM_len h]
      have := h.c8
      omega
  · exact told_len _ _ _
  · show (aCov m _ _).length ≤ 100
    unfold aCov
    split
    · decide
    · split
      · show 3 ≤ 100; decide
      · decide
  · show (aSq m _).length ≤ 100
    unfold aSq
    split
    · decide
    · split
      · decide
      · split
        · decide
        · split
          · decide
          · split
            · decide
            · show 3 ≤ 100; decide
  · show (aFit m _).length ≤ 100
    unfold aFit
    split
    · decide
    · show 5 ≤ 100; decide
  · show (aLev m _).length ≤ 100
    unfold aLev
    split
    · decide
    · show 3 ≤ 100; decide
  · show (aDel m _).length ≤ 100
    unfold aDel
    split
    · decide
    · split
      · decide
      · show 3 ≤ 100; decide
  · show 3 ≤ 100; decide
  · show (aVar m).length ≤ 100
    unfold aVar
    split
    · decide
    · show 3 ≤ 100; decide
  · show (seqUp m m.tc).length ≤ 100
    rw [seqUp_len]
    have := tc_le h
    omega
  · show (marUp m m.tc).length ≤ 100
    rw [marUp_len]
    have := tc_le h
    omega
  · show (aF m _).length ≤ 100
    unfold aF
    split
    · decide
    · split
      · decide
      · split
        · decide
        · split
          · decide
          · show 3 ≤ 100; decide
  · show 6 ≤ 100; decide
  · exact told_len _ _ _
  · show (aLost m _).length ≤ 100
    unfold aLost
    split
    · decide
    · split
      · decide
      · show 3 ≤ 100; decide
  · show (aNorm m).length ≤ 100
    have := normUp_len h (List.zipWith (fun (p : List Int) (z : Int) => p ++ [z]) (prodsM m) (momM m)).length
    unfold normUp at this
    rw [List.take_length] at this
    exact this
  · rename_i k c l q
    show (aStat k.toNat c l q).length ≤ 100
    unfold aStat
    split
    · decide
    · rename_i hs
      have hs : isSurf k.toNat c l q = true := by simpa using hs
      split
      · decide
      · rename_i h0
        obtain ⟨z, hz, zl, _⟩ := (pt_ok hs).2 h0
        obtain ⟨_, k4, _⟩ := surf_parts hs
        rw [hz]
        show (_ :: (_ ++ _)).length ≤ 100
        rw [List.length_cons, List.length_append, flat2 (fun n => (n : Rat) / (z.2 : Rat)), frl_len]
        omega
  · show 3 ≤ 100; decide
  · exact Nat.zero_le _
theorem step_len {m : ModD} (h : OkS m) {c : List (List Int)} (hc : CallOk c) : (stepC m c).2.length ≤ 100 := by
  obtain ⟨p, nums, rows, rfl, _, _, ha⟩ := hc
  show (stepI m p.toNat nums rows).2.length ≤ 100
  unfold stepI
  split
  · show 1 ≤ 100; decide
  · rename_i q
    rcases h with h | h
    · have hop : p.toNat = 0 := Classical.byContradiction fun z => q ⟨z, h⟩
      rw [hop] at ha ⊢
      obtain ⟨⟨c, rfl, _⟩, rfl⟩ := ha
      show (if c < 1 ∨ 8 < c then (m, [-22]) else (newM c.toNat, [0]) : ModD × List Int).2.length ≤ 100
      split <;> (show 1 ≤ 100; decide)
    · exact opI_len h
theorem tAt_len {cs : List (List (List Int))} (h : ∀ c ∈ cs, CallOk c) : ∀ i, i ≤ cs.length → (tAt cs i).length ≤ 101 * i
  | 0, _ => Nat.zero_le _
  | i + 1, hi => by
    have ih := tAt_len h i (by omega)
    have := step_len (okAt h i) (h _ (SV.getD_in (d := []) (show i < cs.length by omega)))
    show (tAt cs i ++ tell _).length ≤ _
    unfold tell
    rw [List.length_append, List.length_cons]
    omega
end Lf
end
section
set_option Elab.async false
set_option linter.all false
set_option maxRecDepth 100000
set_option maxHeartbeats 2000000
local macro_rules | `(tactic| decreasing_trivial) => `(tactic| ((repeat (first | exact Ty.st_nil | apply Ty.st_im | apply Ty.st_any | apply Ty.se_0 | apply Ty.se_im | apply Ty.se_any | exact Ty.pu_nil | apply Ty.pu_im | apply Ty.pu_any | apply Ty.pe_0 | apply Ty.pe_imE | apply Ty.pe_anyE | exact Ty.sub_nil | apply Ty.sub_cons | apply Ty.sub_any)); done))
namespace Lf
open PySem PySem.Spec PyProof.Rows L2 Ty NB
def mdl0 (n : Nm) (m : ModD) : SP := ⟨fun H0 o F H => ∃ p dx t lr ly rows, o = some (.ref p) ∧ H0 p = none ∧ H0 lr = none ∧ H0 ly = none ∧ MdH n F H p dx m t lr ly rows,
  fun g ⟨p, dx, t, lr, ly, rows, e, h1, h2, h3, h⟩ => ⟨p, dx, t, lr, ly, rows, e, h1, h2, h3, h.grow g⟩⟩
def mdlF (n : Nm) (l : Addr) (m : ModD) : SP := ⟨fun H0 o F H => ∃ p dx t lr ly rows, o = some (.ref p) ∧ H0 p = none ∧ H0 lr = none ∧ H0 ly = none ∧ lr ≠ l ∧ ly ≠ l ∧ MdH n F H p dx m t lr ly rows,
  fun g ⟨p, dx, t, lr, ly, rows, e, h1, h2, h3, h4, h5, h⟩ => ⟨p, dx, t, lr, ly, rows, e, h1, h2, h3, h4, h5, h.grow g⟩⟩
def ownA (l : Addr) (ts : List Int) : SP := ⟨fun H0 o F H => o = some (.ref l) ∧ H0 l = none ∧ F l = none ∧ H l = some (.lst (ts.map V.int)),
  fun g ⟨e, h0, hF, hl⟩ => ⟨e, h0, (g.o l (ne_none hl)).trans hF, g.h _ _ hl⟩⟩
section
variable {G2 : List SP} {K : PySem.W.Frag} {n : Nm} {m : ModD} {R P0 : VP} {tw : TS} {l : Addr} {ts : List Int}
/-- model = Model() -/
theorem q_model (k : S [im P0, mdl0 n (newM 0), any, any, any] tw G2 R) : S [im P0, any, any, any, any] (tSeq (tAsg (tMake (n.cl 4) (spNew n) [] E0 tNil) (gName 1)) tw) G2 R := fun F0 H0 D s F H a nx rt => by
  match s, a with
  | [v0, v1, v2, v3, v4], ⟨g, h0, _, _, _, _, _⟩ =>
    intro x dx hx hd ne
    have hF : F x = none := g.i.free hx
    have s1 : Same H (del (upd (upd H dx (.own x)) x (.ins (n.cl 4) dx [])) x) := fun b o e => by
      have nb := ne_of_none e hx
      rw [del_ne nb, upd_ne nb, upd_ne (ne_of_none e hd)]; exact e
    refine ⟨F, x, dx, rfl, upd_same, hF, fun b o e => del_sub _ _ (s1 b o (g.i b o e)), fun F' H' t lr ly g2 hm c1 c2 => ⟨rfl, ?_⟩⟩
    have g3 : Gr F H F' H' := ⟨g2.f, s1.trans g2.h, g2.i, fun b z => g2.o b (Same.some s1 z)⟩
    exact k F0 H0 D _ F' H' ⟨g.trans g3, (im P0).mono g3 h0, ⟨x, dx, t, lr, ly, [], rfl, g.h.free hx, g.h.free (s1.free c1), g.h.free (s1.free c2), hm⟩, trivial, trivial, trivial, trivial⟩ nx rt
/-- told = [] -/
theorem q_told (k : ∀ l, S [im P0, mdlF n l m, ownA l [], any, any] tw G2 R) : S [im P0, mdl0 n m, any, any, any] (tSeq (tAsg (tLst tNil) (gName 2)) tw) G2 R := fun F0 H0 D s F H a nx rt => by
  match s, a with
  | [v0, v1, v2, v3, v4], ⟨g, h0, ⟨p, dx, t, lr, ly, rows, e, b1, b2, b3, hm⟩, _, _, _, _⟩ =>
    refine ⟨Nat.zero_le _, fun l hl => ?_⟩
    have lF := g.i.free hl
    have g3 : Gr F H F (upd H l (.lst [])) := (Gr.refl g.i).move hl lF
    exact k l F0 H0 D _ F _ ⟨g.trans g3, (im P0).mono g3 h0, ⟨p, dx, t, lr, ly, rows, e, b1, b2, b3, ne_of_none hm.hr hl, ne_of_none hm.hy hl, hm.grow g3⟩, ⟨rfl, g.h.free hl, lF, upd_same⟩, trivial, trivial, trivial⟩ nx rt
/-- one call -/
theorem s_body {c : List (List Int)} (hc : CallOk c) (ok : OkS m) (hl1 : (stepC m c).2.length ≤ 100) (hl2 : ts.length + 200 ≤ 1000000) :
    S [im P0, mdlF n l m, ownA l ts, im (cV c), any] (tSeq (tAsg (tCall (spAT n) [] E0 (tCons (tVar 1) (tCons (tOp (rIxT K) (tVar 3) (tC (.int 0))) (tCons (tOp (rIxT K) (tVar 3) (tC (.int 1))) tNil)))) (gName 4))
      (tSeq (tDrop (tBM K "list" rAppend (tVar 2) (tCons (tCB (rLenQ K) (tCons (tVar 4) tNil)) tNil))) (tDrop (tBM K "list" rExtend (tVar 2) (tCons (tVar 4) tNil)))))
      [im P0, mdlF n l (stepC m c).1, ownA l (ts ++ tell (stepC m c).2), any, any] R := fun F0 H0 D s F H a nx rt => by
  obtain ⟨op, nums, rowsL, rfl, o0, o26, ha⟩ := hc
  match s, a with
  | [v0, v1, v2, v3, v4], ⟨g, h0, ⟨p, dx, t, lr, ly, rows, e1, b1, b2, b3, n1, n2, hm⟩, ⟨e2, l0, lF, lH⟩, ⟨xc, e3, hcv⟩, _, _⟩ =>
    obtain ⟨tp, xs, rfl, htp, al⟩ := hcv
    obtain ⟨x0, x1, rfl, hx0, hx1⟩ := all2 al
    have hx0 : x0 = .int op := hx0
    subst e1 e2 e3 hx0
    have st := SqT.of (K := K) (g.i _ _ htp)
    refine ⟨.ref p, rfl, .ref tp, rfl, tp, _, ((0 : Nat) : Int), _, rfl, rfl, st, atI_nat rfl, .ref tp, rfl, tp, _, ((1 : Nat) : Int), _, rfl, rfl, st, atI_nat rfl, ?_⟩
    have eop : ((op.toNat : Nat) : Int) = op := by omega
    refine ⟨op.toNat, by omega, m, nums, rowsL, F, p, dx, x1, t, lr, ly, rows, ok, ha, g.i, by rw [eop]; rfl, hx1, hm, fun F' H' q t' lr' ly' rows' g2 hm2 c1 c2 hq hor => ?_⟩
    have nlp : l ≠ p := ne_of lH hm.hp (by intro z; cases z)
    have dlH : dl H p lr ly l = some (.lst (ts.map V.int)) := by rw [dl_ne nlp n1.symm n2.symm]; exact lH
    have lH' := g2.h _ _ dlH
    have lF' : F' l = none := (g2.o l (ne_none dlH)).trans lF
    have nql : q ≠ l := fun z => by
      rw [z] at hor
      rcases hor with y | y
      · exact y lF'
      · rw [dlH] at y; cases y
    have nlr : lr' ≠ l := fun z => by rw [z, dlH] at c1; cases c1
    have nly : ly' ≠ l := fun z => by rw [z, dlH] at c2; cases c2
    have hB : ∀ a, dl H p lr ly a = none → H0 a = none := fun q z => by
      by_cases q1 : q = p
      · rw [q1]; exact b1
      · by_cases q2 : q = lr
        · rw [q2]; exact b2
        · by_cases q3 : q = ly
          · rw [q3]; exact b3
          · rw [dl_ne q1 q2 q3] at z
            exact g.h.free z
    have hB2 : ∀ a u, H0 a = some u → dl H p lr ly a = some u := fun a u e => by
      rw [dl_ne (fun q => by rw [q, b1] at e; cases e) (fun q => by rw [q, b2] at e; cases e) (fun q => by rw [q, b3] at e; cases e)]
      exact g.h a u e
    have g3 : Gr F0 H0 F' H' := ⟨g.f.trans g2.f, fun a u e => g2.h a u (hB2 a u e), g2.i, fun a z => by
      cases e : H0 a with
      | none => exact absurd e z
      | some u => exact (g2.o a (by rw [hB2 a u e]; intro q; cases q)).trans (g.o a z)⟩
    have er : (stepI m op.toNat nums rowsL) = stepC m ((op :: nums) :: rowsL) := rfl
    rw [er] at hm2 hq
    generalize stepC m ((op :: nums) :: rowsL) = res at *
    refine ⟨.ref l, rfl, .inl ⟨rfl, _, SqL.of lH'⟩, .ref q, rfl, q, _, rfl, .inl (SqL.of hq), l, _, _, rfl, rfl, lH', ?_, ?_⟩
    · rw [List.length_map]; exact Nat.lt_of_lt_of_le (m := 1000000) (by omega) (by decide)
    refine ⟨.ref l, rfl, .inl ⟨rfl, _, SqL.of upd_same⟩, .ref q, rfl, l, q, _, _, rfl, rfl, upd_same, (by rw [upd_ne nql]; exact hq), ?_, ?_⟩
    · rw [List.length_append, List.length_map, List.length_map, List.length_singleton]
      exact Nat.le_trans (m := 1000000) (by omega) (by decide)
    have en : ((ts.map V.int ++ [V.int ((res.2.map V.int).length : Nat)]) ++ res.2.map V.int) = (ts ++ tell res.2).map V.int := by
      unfold tell
      rw [List.length_map, List.map_append, List.map_cons, List.append_assoc]; rfl
    refine nx _ F' _ ⟨(g3.move l0 lF').move l0 lF', ?_, ⟨p, dx, t', lr', ly', rows', rfl, b1, hB _ c1, hB _ c2, nlr, nly, ?_⟩, ⟨rfl, l0, lF', by rw [upd_same, ← en]⟩, trivial, trivial, trivial⟩
    · obtain ⟨v, e, hv⟩ := h0
      exact ⟨v, e, P0.mono g2.f hv⟩
    · exact ⟨hm2.fp, hm2.fr, hm2.fy, by rw [upd_ne nlp.symm, upd_ne nlp.symm]; exact hm2.hp, by rw [upd_ne nlr, upd_ne nlr]; exact hm2.hr, by rw [upd_ne nly, upd_ne nly]; exact hm2.hy, hm2.ft, hm2.al, hm2.ne⟩
theorem s_retA {G : List SP} (hi : G[2]? = some (ownA l ts)) : S G (tRet (tVar 2)) G2 (Li ts) := fun F0 H0 D s F H a nx rt => by
  obtain ⟨o, e1, e2, l0, lF, lH⟩ := a.s.get hi
  subst e2
  exact ⟨.ref l, e1, rt _ _ H (a.g.fix l0 lF lH) ⟨l, _, rfl, upd_same, int_vals⟩⟩
end
section
variable {P : Program} {w : World} {K : PySem.W.Frag} {mg : Str → Option Value} {base : Heap} {n : Nm} (T : Txt K mg n)
include T
theorem ok_answers : FnOk P w K mg base CX0 13 (n.ad 80) (n.fd 80) ["calls"] (spF (fun x : List Int × List (List (List Int)) => [Lk K x.1]) (fun x => Asked x.1 x.2 ∧ x.1.length ≤ 100000) (fun x => Li (tAt x.2 x.2.length))) := by
  have G_Model_init := ok_Model_init (P := P) (w := w) (base := base) T
  have G_answer_to := ok_answer_to (P := P) (w := w) (base := base) T
  have G_read_calls := ok_read_calls (P := P) (w := w) (base := base) T
  refine fn_ty T.f_answers sc_answers (fun _ => rfl) fun cdv Ar outer s H E' hr => ⟨_, (pss_cons (ps_set (i := 1) sc_answers.nd rfl (Or.inl rfl) (pe_make0 T.mk_Model G_Model_init (hr.mono (by decide)) rfl T.g_Model T.b_Model_init .nil pass0))
        (pss_cons (ps_set (i := 2) sc_answers.nd rfl (Or.inl rfl) (pe_lst pa_nil))
        (pss_cons (ps_for PassesOwn.never rfl (pi_list (pe_call G_read_calls (hr.mono (by decide)) rfl T.g_read_calls T.f_read_calls.kp T.b_read_calls .nil pass0 (pa_cons (pv 0) pa_nil))) (pg_name (i := 3) sc_answers.nd rfl (Or.inl rfl)) (pss_cons (ps_set (i := 4) sc_answers.nd rfl (Or.inl rfl) (pe_call G_answer_to hr rfl T.g_answer_to T.f_answer_to.kp T.b_answer_to .nil pass0 (pa_cons (pv 1) (pa_cons (pe_ix ix_tup (pv 3) pe_int (fun _ _ => rfl)) (pa_cons (pe_ix ix_tup (pv 3) pe_int (fun _ _ => rfl)) pa_nil)))))
        (pss_cons (ps_expr (pe_bm PySem.F.plainAttrs_list PySem.F.slot_list_append PySem.F.type_list_append mt_append (pv 2) (pa_cons (pe_callB call_len_seq (by rfl) T.b_len (by decide +kernel) (pa_cons (pv 4) pa_nil)) pa_nil)))
        (pss_one (ps_expr (pe_bm PySem.F.plainAttrs_list PySem.F.slot_list_extend PySem.F.type_list_extend mt_extend (pv 2) (pa_cons (pv 4) pa_nil)))))))
        (pss_one (ps_ret (pv 2)))))), ?_⟩
  rintro ⟨ns, cs⟩ ⟨hA, hz⟩
  have hA : Asked ns cs := hA
  have hz : ns.length ≤ 100000 := hz
  have h200 := hA.n200
  refine q_model (P0 := Lk K ns) ?_
  refine q_told (P0 := Lk K ns) fun l => ?_
  refine q_for (s_forM (j := 3) (f := cV) (l := cs) (fun i => [im (Lk K ns), mdlF n l (mAt cs i), ownA l (tAt cs i), any, any]) (e_call (ns, cs) ⟨hz, by show cs.length ≤ 1000; omega, _, hA.rd⟩ (a_cons (e_var rfl) a_nil)) sub_refl fun i c hc => ?_) ?_
  · have hi : i < cs.length := (List.getElem?_eq_some_iff.mp hc).1
    have hm : c ∈ cs := List.mem_of_getElem? hc
    have ec : cs.getD i [] = c := by rw [List.getD_eq_getElem?_getD, hc]; rfl
    rw [mAt_succ hc]
    show S [im (Lk K ns), mdlF n l (mAt cs i), ownA l (tAt cs i), im (cV c), any] _ [im (Lk K ns), mdlF n l (stepC (mAt cs i) c).1, ownA l (tAt cs i ++ tell (stepC (mAt cs i) (cs.getD i [])).2), any, any] _
    rw [ec]
    have := tAt_len hA.ok i (by omega)
    exact s_body (hA.ok c hm) (okAt hA.ok i) (step_len (okAt hA.ok i) (hA.ok c hm)) (by omega)
  · exact s_retA rfl
end
end Lf
end
section
set_option Elab.async false
set_option linter.all false
set_option maxRecDepth 100000
set_option maxHeartbeats 2000000
namespace Lf
open PySem PySem.Spec PyProof.Rows L2 Ty
def spAll (K : PySem.W.Frag) : Sp := spF (fun x : List Int × List (List (List Int)) => [Lk K x.1]) (fun x => Asked x.1 x.2 ∧ x.1.length ≤ 100000) (fun x => Li (tAt x.2 x.2.length))
theorem fin_F (w : World) (mg : Str → Option Value) (fa : Addr) (h : Heap) (Y : hkS.says w h) (G : h.Ns mainGlobals mg) (hmg : mg "answers" = some (.ref fa)) :
    ∃ (K : PySem.W.Frag) (fd : FuncData), K.In h ∧ (∀ (s : Shared) (us : List Value), us.length = (["calls"] : List Str).length → BindsTo s fd ⟨us, []⟩ ((["calls"] : List Str).zip us)) ∧
      ∀ base : Heap, K.In base → base.Ns mainGlobals mg → FnOk rowS.prog w K mg base CX0 13 fa fd ["calls"] (spAll K) := by
  obtain ⟨K, KX, c⟩ := Y
  have T := txt_of KX G c
  have e := hmg.symm.trans T.g_answers
  cases e
  have F80 := fun_of (K := K) (x := "answers") (q := "answers") (st := st_answers) (f := nmA K 80) (c.2.def_ 80 (d := dd_answers) rfl)
  exact ⟨K, _, KX, FunD.bindsA F80.2 fun _ _ _ _ _ _ us hl => match us, hl with | [_], _ => rfl, fun base _ _ => ok_answers T⟩
end Lf
open PySem PySem.W PySem.Calls PyProof.Rows
set_option maxRecDepth 100000 in
set_option maxHeartbeats 0 in
theorem PySem.Challenge.cw_linearfits_s01_answers_holds : PySem.Challenge.rw_linearfits_s01_answers.Holds := by
  w_on
  refine HandSHeadRun.head_spec (r := PySem.Challenge.rw_linearfits_s01_answers) (q := Lf.vwS) (H := Lf.hkS) (ob := Lf.obS) (M := 6000) (loose := Lf.lsL) (d := HandSHeadRun.topDef PySem.Challenge.rw_linearfits_s01_answers.prog 84) (kwd := []) Lf.obS_eq
    (by kernel_rfl) (fun s => by kernel_rfl) Lf.runS (by kernel_rfl) (by kernel_rfl) (by kernel_rfl) os_shapes (by first | assumption | decide +kernel) (by decide +kernel) ⟨rfl, rfl, rfl, rfl, rfl, by decide +kernel⟩ ?hw ?hc
  case hw => exact ⟨[.list [.int 0, .int 1]], by decide +kernel, by decide +kernel⟩
  case hc =>
    refine Lf.walk_any (r := PySem.Challenge.rw_linearfits_s01_answers) (k := 13) (ps := ["calls"]) (sp := Lf.spAll) (by first | assumption | decide +kernel) rfl ⟨rfl, by decide, by decide⟩ ?F ?S
    case F =>
      intro w mg fa h Y G hmg
      have en : (HandSHeadRun.topDef PySem.Challenge.rw_linearfits_s01_answers.prog 84).name = ("answers" : PySem.Str) := by kernel_rfl
      rw [en] at hmg
      exact Lf.fin_F w mg fa h Y G hmg
    case S =>
      intro K H xs a hO hwi hask hx
      cases hx with
      | cons h1 h2 =>
        cases h2
        cases h1 with
        | lst hs ha =>
          have e := L2.ints_dw a.1 _ ha
          subst e
          have q : ((Codec.inLen 0 25000 a.1 && a.1.all (Codec.inInt (-2147483648) 4294967295)) && true) = true := hwi
          rw [Bool.and_eq_true, Bool.and_eq_true] at q
          have hl := (Codec.inNat_iff.mp q.1.1).2
          obtain ⟨cs, hA⟩ := Lf.asked_of (ns := a.1) hask
          refine ⟨(a.1, cs), H, ⟨hA, Nat.le_trans hl (by decide)⟩, L2.Same.refl H, ⟨⟨_, rfl, hs⟩, trivial⟩, fun v F' H' g hv => ?_⟩
          obtain ⟨p, ys, rfl, hp, al⟩ := hv
          have ey := Ty.vals_int al
          subst ey
          have et : Lf.tAt cs cs.length = PyKxd4.answers a.1 := (Lf.told_spec hA).symm
          have hp' := g.i _ _ hp
          rw [et] at hp'
          exact .lst (L2.SqL.of hp') (L2.dw_ints _)
end
