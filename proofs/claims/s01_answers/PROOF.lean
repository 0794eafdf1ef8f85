import PyProof.Rows.All
import Wide.All
import OpenK.AllK
import Wide.FinOn
import Open.SpecLaws
import KE.OsGo
import HandS.ForSpec
import HandS.Dict
import HandS.WordsDict
import HandS.Iter
import HandS.More
import HandS.Comp
import HandS.Walk
import PySem.Challenge.RW_cutbylikeness_s01_answers
import PyFlatLaws
set_option Elab.async false
set_option maxRecDepth 100000
set_option maxHeartbeats 4000000
namespace Cl

/-! Sums. -/
def sumTo : Nat → (Nat → Int) → Int
  | 0, _ => 0
  | n + 1, f => sumTo n f + f n

theorem sumTo_congr {n : Nat} {f g : Nat → Int} (h : ∀ i, i < n → f i = g i) : sumTo n f = sumTo n g := by
  induction n with
  | zero => rfl
  | succ n ih =>
    simp only [sumTo]
    rw [ih (fun i hi => h i (by omega)), h n (by omega)]

theorem sumTo_le {n : Nat} {f g : Nat → Int} (h : ∀ i, i < n → f i ≤ g i) : sumTo n f ≤ sumTo n g := by
  induction n with
  | zero => exact Int.le_refl _
  | succ n ih =>
    simp only [sumTo]
    have h1 := ih (fun i hi => h i (by omega))
    have h2 := h n (by omega)
    omega

theorem sumTo_const {n : Nat} {c : Int} : sumTo n (fun _ => c) = n * c := by
  induction n with
  | zero => simp [sumTo]
  | succ n ih =>
    simp only [sumTo]
    rw [ih, Int.natCast_add, Int.add_mul]
    simp

theorem sumTo_add {n : Nat} {f g : Nat → Int} : sumTo n (fun i => f i + g i) = sumTo n f + sumTo n g := by
  induction n with
  | zero => rfl
  | succ n ih => simp only [sumTo]; rw [ih]; omega

theorem sumTo_upd {n i : Nat} {f g : Nat → Int} (hi : i < n) (h : ∀ j, j < n → j ≠ i → g j = f j) :
    sumTo n g = sumTo n f + (g i - f i) := by
  induction n with
  | zero => omega
  | succ n ih =>
    simp only [sumTo]
    by_cases e : i = n
    · subst e
      rw [sumTo_congr (f := g) (g := f) (fun j hj => h j (by omega) (by omega))]
      omega
    · rw [ih (by omega) (fun j hj hne => h j (by omega) hne), h n (by omega) (by omega)]
      omega

theorem sumTo_nonneg {n : Nat} {f : Nat → Int} (h : ∀ i, i < n → 0 ≤ f i) : 0 ≤ sumTo n f := by
  have := sumTo_le (n := n) (f := fun _ => 0) (g := f) h
  rw [sumTo_const] at this
  simpa using this

theorem sumTo_zero {n : Nat} {f : Nat → Int} (h : ∀ i, i < n → 0 ≤ f i) (h0 : sumTo n f = 0) :
    ∀ i, i < n → f i = 0 := by
  induction n with
  | zero => intro i hi; omega
  | succ n ih =>
    intro i hi
    have a := sumTo_nonneg (n := n) (f := f) (fun i hi => h i (by omega))
    have b := h n (by omega)
    simp only [sumTo] at h0
    by_cases e : i = n
    · subst e; omega
    · exact ih (fun i hi => h i (by omega)) (by omega) i (by omega)

theorem sumTo_strict {n i : Nat} {f g : Nat → Int} {c : Int} (hi : i < n) (h : ∀ j, j < n → f j ≤ g j) (hc : f i + c ≤ g i) :
    sumTo n f + c ≤ sumTo n g := by
  induction n with
  | zero => omega
  | succ n ih =>
    simp only [sumTo]
    by_cases e : i = n
    · subst e
      have := sumTo_le (n := i) (f := f) (g := g) (fun j hj => h j (by omega))
      omega
    · have := ih (by omega) (fun j hj => h j (by omega))
      have := h n (by omega)
      omega

def sum2 (n : Nat) (F : Nat → Nat → Int) : Int := sumTo n fun a => sumTo n fun b => F a b

theorem sum2_congr {n : Nat} {F G : Nat → Nat → Int} (h : ∀ a b, a < n → b < n → F a b = G a b) : sum2 n F = sum2 n G :=
  sumTo_congr fun a ha => sumTo_congr fun b hb => h a b ha hb

theorem sum2_upd {n u v : Nat} {F G : Nat → Nat → Int} (hu : u < n) (hv : v < n)
    (h : ∀ a b, a < n → b < n → ¬(a = u ∧ b = v) → G a b = F a b) : sum2 n G = sum2 n F + (G u v - F u v) := by
  unfold sum2
  rw [sumTo_upd (f := fun a => sumTo n fun b => F a b) (i := u) hu]
  · have := sumTo_upd (n := n) (i := v) (f := F u) (g := G u) hv (fun b hb hne => h u b hu hb (by omega))
    show _ + (sumTo n (G u) - sumTo n (F u)) = _
    omega
  · intro a ha hne
    exact sumTo_congr fun b hb => h a b ha hb (by omega)

theorem sum2_nonneg {n : Nat} {F : Nat → Nat → Int} (h : ∀ a b, a < n → b < n → 0 ≤ F a b) : 0 ≤ sum2 n F :=
  sumTo_nonneg fun a ha => sumTo_nonneg fun b hb => h a b ha hb

theorem sum2_zero {n : Nat} {F : Nat → Nat → Int} (h : ∀ a b, a < n → b < n → 0 ≤ F a b) (h0 : sum2 n F = 0) :
    ∀ a b, a < n → b < n → F a b = 0 := by
  intro a b ha hb
  have := sumTo_zero (fun a ha => sumTo_nonneg fun b hb => h a b ha hb) h0 a ha
  exact sumTo_zero (fun b hb => h a b ha hb) this b hb

theorem sum2_le {n : Nat} {F G : Nat → Nat → Int} (h : ∀ a b, a < n → b < n → F a b ≤ G a b) : sum2 n F ≤ sum2 n G :=
  sumTo_le fun a ha => sumTo_le fun b hb => h a b ha hb

theorem sum2_strict {n u v : Nat} {F G : Nat → Nat → Int} {c : Int} (hu : u < n) (hv : v < n)
    (h : ∀ a b, a < n → b < n → F a b ≤ G a b) (hc : F u v + c ≤ G u v) : sum2 n F + c ≤ sum2 n G :=
  sumTo_strict hu (fun a ha => sumTo_le fun b hb => h a b ha hb) (sumTo_strict hv (fun b hb => h u b hu hb) hc)

/-! What is left, as a function; a region, as a test. -/
def cut (n : Nat) (R : Nat → Nat → Nat) (S : Nat → Bool) : Int := sum2 n fun a b => if S a && !S b then (R a b : Int) else 0
def upd2 (R : Nat → Nat → Nat) (u v x : Nat) : Nat → Nat → Nat := fun a b => if a = u ∧ b = v then x else R a b
def aug (R : Nat → Nat → Nat) (u v k : Nat) : Nat → Nat → Nat := upd2 (upd2 R u v (R u v - k)) v u (R v u + k)
def ind (S : Nat → Bool) (a : Nat) : Int := if S a then 1 else 0

theorem cut_nonneg {n : Nat} {R : Nat → Nat → Nat} {S : Nat → Bool} : 0 ≤ cut n R S := by
  refine sum2_nonneg fun a b _ _ => ?_
  split
  · exact Int.natCast_nonneg _
  · exact Int.le_refl _

theorem cut_congr {n : Nat} {R T : Nat → Nat → Nat} {S : Nat → Bool} (h : ∀ a b, a < n → b < n → R a b = T a b) : cut n R S = cut n T S :=
  sum2_congr fun a b ha hb => by rw [h a b ha hb]

theorem cut_congr_set {n : Nat} {R : Nat → Nat → Nat} {S T : Nat → Bool} (h : ∀ a, a < n → S a = T a) : cut n R S = cut n R T :=
  sum2_congr fun a b ha hb => by rw [h a ha, h b hb]

theorem cut_upd2 {n u v x : Nat} {R : Nat → Nat → Nat} {S : Nat → Bool} (hu : u < n) (hv : v < n) :
    cut n (upd2 R u v x) S = cut n R S + (if S u && !S v then (x : Int) - R u v else 0) := by
  unfold cut
  rw [sum2_upd (F := fun a b => if S a && !S b then (R a b : Int) else 0) hu hv]
  · simp only [upd2]
    by_cases h : (S u && !S v) = true
    · simp [h]
    · simp [h]
  · intro a b _ _ hne
    simp only [upd2, if_neg hne]

theorem cut_aug {n u v k : Nat} {R : Nat → Nat → Nat} {S : Nat → Bool} (hu : u < n) (hv : v < n) (hne : u ≠ v) (hk : k ≤ R u v) :
    cut n (aug R u v k) S = cut n R S - k * (ind S u - ind S v) := by
  unfold aug
  rw [cut_upd2 hv hu, cut_upd2 hu hv]
  have e : upd2 R u v (R u v - k) v u = R v u := by
    unfold upd2
    rw [if_neg (by omega)]
  rw [e]
  unfold ind
  cases S u <;> cases S v <;> simp <;> omega

/-! Ways. -/
def Chn (P : Nat → Nat → Prop) : List Nat → Prop
  | u :: v :: l => P u v ∧ Chn P (v :: l)
  | _ => True

def sendF (R : Nat → Nat → Nat) (l : List (Nat × Nat)) (k : Nat) : Nat → Nat → Nat := l.foldl (fun R x => aug R x.1 x.2 k) R

theorem pairs_cons2 (u v : Nat) (l : List Nat) : Ie10.pairs (u :: v :: l) = (u, v) :: Ie10.pairs (v :: l) := rfl
theorem pairs_one (u : Nat) : Ie10.pairs [u] = [] := rfl
theorem pairs_nil : Ie10.pairs [] = [] := rfl

theorem aug_other {R : Nat → Nat → Nat} {u v k a b : Nat} (h1 : ¬(a = u ∧ b = v)) (h2 : ¬(a = v ∧ b = u)) : aug R u v k a b = R a b := by
  unfold aug upd2
  rw [if_neg h2, if_neg h1]

theorem aug_fwd {R : Nat → Nat → Nat} {u v k : Nat} (h : u ≠ v) : aug R u v k u v = R u v - k := by
  unfold aug upd2
  rw [if_neg (by omega), if_pos ⟨rfl, rfl⟩]

theorem aug_back {R : Nat → Nat → Nat} {u v k : Nat} : aug R u v k v u = R v u + k := by
  unfold aug upd2
  rw [if_pos ⟨rfl, rfl⟩]

theorem send_other {k a b : Nat} : ∀ (l : List (Nat × Nat)) (R : Nat → Nat → Nat),
    (∀ x, x ∈ l → ¬(a = x.1 ∧ b = x.2) ∧ ¬(a = x.2 ∧ b = x.1)) → sendF R l k a b = R a b
  | [], _, _ => rfl
  | x :: l, R, h => by
    show sendF (aug R x.1 x.2 k) l k a b = R a b
    rw [send_other l _ (fun y hy => h y (List.mem_cons_of_mem _ hy))]
    have := h x List.mem_cons_self
    exact aug_other this.1 this.2

/-- a way with levels that rise by one -/
def Lvl (n : Nat) (R : Nat → Nat → Nat) (d : Nat → Nat) : List Nat → Prop :=
  Chn fun u v => u < n ∧ v < n ∧ 0 < R u v ∧ d v = d u + 1

theorem chn_pairs {P : Nat → Nat → Prop} : ∀ {w : List Nat}, Chn P w → ∀ x, x ∈ Ie10.pairs w → P x.1 x.2
  | [], _, x, hx => by cases hx
  | [_], _, x, hx => by cases hx
  | u :: v :: l, h, x, hx => by
    rw [pairs_cons2] at hx
    cases hx with
    | head => exact h.1
    | tail _ hx => exact chn_pairs h.2 x hx

theorem chn_mono {P Q : Nat → Nat → Prop} (hPQ : ∀ u v, P u v → Q u v) : ∀ {w : List Nat}, Chn P w → Chn Q w
  | [], _ => trivial
  | [_], _ => trivial
  | _ :: _ :: _, h => ⟨hPQ _ _ h.1, chn_mono hPQ h.2⟩

theorem chn_of_pairs {P : Nat → Nat → Prop} : ∀ {w : List Nat}, (∀ x, x ∈ Ie10.pairs w → P x.1 x.2) → Chn P w
  | [], _ => trivial
  | [_], _ => trivial
  | u :: v :: l, h => ⟨h (u, v) (by rw [pairs_cons2]; exact List.mem_cons_self), chn_of_pairs fun x hx => h x (by rw [pairs_cons2]; exact List.mem_cons_of_mem _ hx)⟩

theorem up_pairs {d : Nat → Nat} : ∀ {v : Nat} {l : List Nat}, Chn (fun a b => d b = d a + 1) (v :: l) →
    ∀ x, x ∈ Ie10.pairs (v :: l) → d v ≤ d x.1 ∧ d x.2 = d x.1 + 1
  | v, [], _, x, hx => by cases hx
  | v, w :: l, h, x, hx => by
    rw [pairs_cons2] at hx
    cases hx with
    | head => exact ⟨Nat.le_refl _, h.1⟩
    | tail _ hx =>
      have := up_pairs h.2 x hx
      have := h.1
      omega

theorem send_on {k : Nat} {d : Nat → Nat} : ∀ (w : List Nat) (R : Nat → Nat → Nat), Chn (fun a b => d b = d a + 1) w →
    ∀ x, x ∈ Ie10.pairs w → sendF R (Ie10.pairs w) k x.1 x.2 = R x.1 x.2 - k ∧ sendF R (Ie10.pairs w) k x.2 x.1 = R x.2 x.1 + k
  | [], _, _, x, hx => by cases hx
  | [_], _, _, x, hx => by cases hx
  | u :: v :: l, R, h, x, hx => by
    rw [pairs_cons2] at hx ⊢
    show sendF (aug R u v k) _ k x.1 x.2 = _ ∧ sendF (aug R u v k) _ k x.2 x.1 = _
    have hd := h.1
    cases hx with
    | head =>
      show sendF (aug R u v k) _ k u v = R u v - k ∧ sendF (aug R u v k) _ k v u = R v u + k
      have hne : u ≠ v := by intro e; subst e; omega
      rw [send_other, send_other]
      · exact ⟨aug_fwd hne, aug_back⟩
      · intro y hy
        have := up_pairs h.2 y hy
        constructor
        · rintro ⟨rfl, rfl⟩; omega
        · rintro ⟨rfl, rfl⟩; omega
      · intro y hy
        have := up_pairs h.2 y hy
        constructor
        · rintro ⟨rfl, rfl⟩; omega
        · rintro ⟨rfl, rfl⟩; omega
    | tail _ hx =>
      have ih := send_on (k := k) (v :: l) (aug R u v k) h.2 x hx
      rw [ih.1, ih.2]
      have := up_pairs h.2 x hx
      rw [aug_other, aug_other]
      · exact ⟨rfl, rfl⟩
      · rintro ⟨e, f⟩; have e' := congrArg d e; have f' := congrArg d f; omega
      · rintro ⟨e, f⟩; have e' := congrArg d e; have f' := congrArg d f; omega
      · rintro ⟨e, f⟩; have e' := congrArg d e; have f' := congrArg d f; omega
      · rintro ⟨e, f⟩; have e' := congrArg d e; have f' := congrArg d f; omega

def lastD : Nat → List Nat → Nat
  | a, [] => a
  | _, b :: l => lastD b l

/-- What goes over a region's side changes by what is sent. -/
theorem cut_send {n k : Nat} {d : Nat → Nat} {S : Nat → Bool} : ∀ (l : List Nat) (u : Nat) (R : Nat → Nat → Nat),
    Chn (fun a b => a < n ∧ b < n ∧ d b = d a + 1 ∧ k ≤ R a b) (u :: l) →
    cut n (sendF R (Ie10.pairs (u :: l)) k) S = cut n R S - k * (ind S u - ind S (lastD u l))
  | [], u, R, _ => by
    show cut n R S = cut n R S - k * (ind S u - ind S u)
    rw [Int.sub_self, Int.mul_zero, Int.sub_zero]
  | v :: l, u, R, h => by
    rw [pairs_cons2]
    show cut n (sendF (aug R u v k) (Ie10.pairs (v :: l)) k) S = _
    obtain ⟨⟨hu, hv, hd, hk⟩, h2⟩ := h
    have hne : u ≠ v := by intro e; subst e; omega
    rw [cut_send l v (aug R u v k), cut_aug hu hv hne hk]
    · show _ - (k : Int) * (ind S v - ind S (lastD v l)) = _ - (k : Int) * (ind S u - ind S (lastD v l))
      rw [Int.mul_sub, Int.mul_sub, Int.mul_sub]
      omega
    · refine chn_of_pairs fun x hx => ?_
      have a := chn_pairs h2 x hx
      have b := up_pairs (d := d) (chn_mono (fun _ _ h => h.2.2.1) h2) x hx
      refine ⟨a.1, a.2.1, a.2.2.1, ?_⟩
      rw [aug_other]
      · exact a.2.2.2
      · rintro ⟨e, f⟩; have e' := congrArg d e; have f' := congrArg d f; omega
      · rintro ⟨e, f⟩; have e' := congrArg d e; have f' := congrArg d f; omega

end Cl
namespace Cl

/-! Lists without doubles below a bound are short. -/
theorem nodup_len : ∀ (l m : List Nat), l.Nodup → (∀ x, x ∈ l → x ∈ m) → l.length ≤ m.length
  | [], _, _, _ => Nat.zero_le _
  | a :: l, m, hn, hs => by
    have ha : a ∈ m := hs a List.mem_cons_self
    have hn' := List.nodup_cons.mp hn
    have := nodup_len l (m.erase a) hn'.2 (fun x hx => by
      have hne : x ≠ a := fun e => hn'.1 (e ▸ hx)
      exact (List.mem_erase_of_ne hne).mpr (hs x (List.mem_cons_of_mem _ hx)))
    rw [List.length_erase_of_mem ha] at this
    have : 0 < m.length := List.length_pos_of_mem ha
    simp only [List.length_cons]
    omega

theorem nodup_lt {l : List Nat} {n : Nat} (hn : l.Nodup) (h : ∀ x, x ∈ l → x < n) : l.length ≤ n := by
  have := nodup_len l (List.range n) hn (fun x hx => List.mem_range.mpr (h x hx))
  simpa using this

abbrev keys (m : List (Nat × Nat)) : List Nat := m.map (·.1)

/-- what the search has found when it ends -/
structure Bfs (n : Nat) (R : Nat → Nat → Nat) (ins : List Nat) (m : List (Nat × Nat)) (d : Nat → Nat) : Prop where
  nd : (keys m).Nodup
  lt : ∀ x, x ∈ keys m → x < n
  root : ∀ a, a ∈ ins → a ∈ keys m
  tree : ∀ x, x ∈ m → (x.2 = x.1 ∧ x.1 ∈ ins ∧ d x.1 = 0) ∨ (x.2 ∈ keys m ∧ x.2 ≠ x.1 ∧ 0 < R x.2 x.1 ∧ d x.1 = d x.2 + 1)
  closed : ∀ a, a ∈ keys m → ∀ b, b < n → 0 < R a b → b ∈ keys m ∧ d b ≤ d a + 1
  out : ∀ v, v ∉ keys m → d v = n
  small : ∀ v, v ∈ keys m → d v < n
  zero : ∀ a, a ∈ ins → d a = 0

structure SInv (n : Nat) (R : Nat → Nat → Nat) (ins p q : List Nat) (m : List (Nat × Nat)) (d : Nat → Nat) : Prop where
  spl : keys m = p ++ q
  nd : (keys m).Nodup
  lt : ∀ x, x ∈ keys m → x < n
  root : ∀ a, a ∈ ins → a ∈ keys m
  tree : ∀ x, x ∈ m → (x.2 = x.1 ∧ x.1 ∈ ins ∧ d x.1 = 0) ∨ (x.2 ∈ p ∧ x.2 ≠ x.1 ∧ 0 < R x.2 x.1 ∧ d x.1 = d x.2 + 1)
  closed : ∀ a, a ∈ p → ∀ b, b < n → 0 < R a b → b ∈ keys m ∧ d b ≤ d a + 1
  mono : (keys m).Pairwise fun x y => d x ≤ d y
  top : ∀ x, x ∈ keys m → ∀ a, a ∈ q → d x ≤ d a + 1
  out : ∀ v, v ∉ keys m → d v = n
  small : ∀ x, x ∈ keys m → d x < (keys m).length
  zero : ∀ a, a ∈ ins → d a = 0

theorem SInv.bfs {n : Nat} {R : Nat → Nat → Nat} {ins p : List Nat} {m : List (Nat × Nat)} {d : Nat → Nat}
    (h : SInv n R ins p [] m d) : Bfs n R ins m d := by
  have e : keys m = p := by rw [h.spl, List.append_nil]
  refine ⟨h.nd, h.lt, h.root, ?_, ?_, h.out, ?_, h.zero⟩
  · rw [e]; exact h.tree
  · rw [e]
    have := h.closed
    rw [e] at this
    exact this
  · intro v hv
    exact Nat.lt_of_lt_of_le (h.small v hv) (nodup_lt h.nd h.lt)

def fresh (R : Nat → Nat → Nat) (n a : Nat) (m : List (Nat × Nat)) : List Nat :=
  (List.range n).filter fun b => decide (0 < R a b) && !(m.any fun x => x.1 == b)

theorem mem_fresh {R : Nat → Nat → Nat} {n a b : Nat} {m : List (Nat × Nat)} :
    b ∈ fresh R n a m ↔ b < n ∧ 0 < R a b ∧ b ∉ keys m := by
  unfold fresh keys
  rw [List.mem_filter, List.mem_range, Bool.and_eq_true, decide_eq_true_eq, Bool.not_eq_true', List.any_eq_false, List.mem_map]
  constructor
  · rintro ⟨h1, h2, h3⟩
    refine ⟨h1, h2, ?_⟩
    rintro ⟨x, hx, e⟩
    exact h3 x hx (by simpa using e)
  · rintro ⟨h1, h2, h3⟩
    refine ⟨h1, h2, ?_⟩
    intro x hx e
    exact h3 ⟨x, hx, by simpa using e⟩

theorem SInv.step {n : Nat} {R : Nat → Nat → Nat} {ins p q : List Nat} {a : Nat} {m : List (Nat × Nat)} {d : Nat → Nat}
    (h : SInv n R ins p (a :: q) m d) :
    SInv n R ins (p ++ [a]) (q ++ fresh R n a m) (m ++ (fresh R n a m).map fun b => (b, a))
      (fun v => if v ∈ fresh R n a m then d a + 1 else d v) := by
  have hk : keys (m ++ (fresh R n a m).map fun b => (b, a)) = keys m ++ fresh R n a m := by
    simp [keys, List.map_append, List.map_map, Function.comp_def]
  have ha : a ∈ keys m := by rw [h.spl]; simp
  have hold : ∀ v, v ∈ keys m → (if v ∈ fresh R n a m then d a + 1 else d v) = d v := by
    intro v hv
    rw [if_neg]
    intro hf
    exact (mem_fresh.mp hf).2.2 hv
  have hnew : ∀ v, v ∈ fresh R n a m → (if v ∈ fresh R n a m then d a + 1 else d v) = d a + 1 := fun v hv => if_pos hv
  have hmono := h.mono
  refine ⟨?_, ?_, ?_, ?_, ?_, ?_, ?_, ?_, ?_, ?_, ?_⟩
  · rw [hk, h.spl]; simp
  · rw [hk, List.nodup_append]
    refine ⟨h.nd, List.Nodup.sublist List.filter_sublist List.nodup_range, ?_⟩
    intro x hx y hy e
    subst e
    exact (mem_fresh.mp hy).2.2 hx
  · rw [hk]
    intro x hx
    cases List.mem_append.mp hx with
    | inl hx => exact h.lt x hx
    | inr hx => exact (mem_fresh.mp hx).1
  · rw [hk]
    intro x hx
    exact List.mem_append_left _ (h.root x hx)
  · intro x hx
    cases List.mem_append.mp hx with
    | inl hx =>
      have hx1 : x.1 ∈ keys m := List.mem_map_of_mem hx
      cases h.tree x hx with
      | inl t => exact .inl ⟨t.1, t.2.1, by rw [hold _ hx1]; exact t.2.2⟩
      | inr t =>
        refine .inr ⟨List.mem_append_left _ t.1, t.2.1, t.2.2.1, ?_⟩
        have h2 : x.2 ∈ keys m := by rw [h.spl]; exact List.mem_append_left _ t.1
        try dsimp only
        rw [hold _ hx1, hold _ h2]
        exact t.2.2.2
    | inr hx =>
      obtain ⟨b, hb, e⟩ := List.mem_map.mp hx
      subst e
      refine .inr ⟨by simp, ?_, (mem_fresh.mp hb).2.1, ?_⟩
      · intro e
        dsimp only at e
        subst e
        exact (mem_fresh.mp hb).2.2 ha
      · dsimp only
        rw [hnew b hb, hold a ha]
  · rw [hk]
    intro c hc b hb hR
    cases List.mem_append.mp hc with
    | inl hc =>
      have hcm : c ∈ keys m := by rw [h.spl]; exact List.mem_append_left _ hc
      have := h.closed c hc b hb hR
      refine ⟨List.mem_append_left _ this.1, ?_⟩
      try dsimp only
      rw [hold b this.1, hold c hcm]
      exact this.2
    | inr hc =>
      have hc : c = a := by simpa using hc
      subst hc
      by_cases hbm : b ∈ keys m
      · refine ⟨List.mem_append_left _ hbm, ?_⟩
        try dsimp only
        rw [hold b hbm, hold c ha]
        exact h.top b hbm c List.mem_cons_self
      · have hbf := mem_fresh.mpr ⟨hb, hR, hbm⟩
        refine ⟨List.mem_append_right _ hbf, ?_⟩
        try dsimp only
        rw [hnew b hbf, hold c ha]
        exact Nat.le_refl _
  · rw [hk, List.pairwise_append]
    refine ⟨?_, ?_, ?_⟩
    · refine List.Pairwise.imp_of_mem ?_ hmono
      intro x y hx hy hxy
      rw [hold x hx, hold y hy]
      exact hxy
    · refine List.Pairwise.imp_of_mem (R := fun _ _ => True) ?_ (List.pairwise_of_forall (fun _ _ => trivial))
      intro x y hx hy _
      rw [hnew x hx, hnew y hy]
      exact Nat.le_refl _
    · intro x hx y hy
      rw [hold x hx, hnew y hy]
      exact h.top x hx a List.mem_cons_self
  · rw [hk]
    intro x hx y hy
    try dsimp only
    have hx' : (if x ∈ fresh R n a m then d a + 1 else d x) ≤ d a + 1 := by
      cases List.mem_append.mp hx with
      | inl hx => rw [hold x hx]; exact h.top x hx a List.mem_cons_self
      | inr hx => rw [hnew x hx]; exact Nat.le_refl _
    cases List.mem_append.mp hy with
    | inl hy =>
      have hym : y ∈ keys m := by rw [h.spl]; simp [hy]
      rw [hold y hym]
      rw [h.spl, List.pairwise_append, List.pairwise_cons] at hmono
      have := hmono.2.1.1 y hy
      omega
    | inr hy =>
      rw [hnew y hy]
      omega
  · rw [hk]
    intro v hv
    rw [List.mem_append] at hv
    try dsimp only
    rw [if_neg (fun hf => hv (.inr hf))]
    exact h.out v (fun hf => hv (.inl hf))
  · rw [hk]
    intro x hx
    try dsimp only
    rw [List.length_append]
    cases List.mem_append.mp hx with
    | inl hx => rw [hold x hx]; have := h.small x hx; omega
    | inr hx =>
      rw [hnew x hx]
      have := h.small a ha
      have := List.length_pos_of_mem hx
      omega
  · intro x hx
    try dsimp only
    rw [hold x (h.root x hx)]
    exact h.zero x hx

theorem search_bfs {n : Nat} {r : Ie10.Left} {ins : List Nat} : ∀ (k : Nat) (p q : List Nat) (m : List (Nat × Nat)) (d : Nat → Nat),
    SInv n (Ie10.left r) ins p q m d → n + 1 ≤ k + p.length → ∃ d', Bfs n (Ie10.left r) ins (Ie10.search r n k q m) d'
  | 0, p, q, m, d, h, hk => by
    exfalso
    have := nodup_lt h.nd h.lt
    rw [h.spl, List.length_append] at this
    omega
  | k + 1, p, [], m, d, h, _ => ⟨d, h.bfs⟩
  | k + 1, p, a :: q, m, d, h, hk => by
    have := search_bfs k (p ++ [a]) _ _ _ h.step (by rw [List.length_append]; simp; omega)
    exact this

theorem from_bfs {n : Nat} {r : Ie10.Left} {ins : List Nat} (hn : ins.Nodup) (hl : ∀ a, a ∈ ins → a < n) :
    ∃ d, Bfs n (Ie10.left r) ins (Ie10.from_ r n ins) d := by
  unfold Ie10.from_
  have e : keys (ins.map fun a => (a, a)) = ins := by simp [keys, List.map_map, Function.comp_def]
  refine search_bfs (n + 1) [] ins _ (fun v => if v ∈ ins then 0 else n) ?_ (by simp)
  refine ⟨by rw [e]; rfl, by rw [e]; exact hn, by rw [e]; exact hl, by rw [e]; exact fun a h => h, ?_, ?_, ?_, ?_, ?_, ?_, ?_⟩
  · intro x hx
    obtain ⟨a, ha, e⟩ := List.mem_map.mp hx
    subst e
    exact .inl ⟨rfl, ha, if_pos ha⟩
  · intro a ha; cases ha
  · rw [e]
    refine List.Pairwise.imp_of_mem (R := fun _ _ => True) ?_ (List.pairwise_of_forall (fun _ _ => trivial))
    intro x y hx hy _
    rw [if_pos hx]
    exact Nat.zero_le _
  · rw [e]
    intro x hx a ha
    try dsimp only
    rw [if_pos hx]
    exact Nat.zero_le _
  · rw [e]
    intro v hv
    exact if_neg hv
  · rw [e]
    intro x hx
    try dsimp only
    rw [if_pos hx]
    exact List.length_pos_of_mem hx
  · intro a ha
    exact if_pos ha

/-! The way back. -/
theorem trace_ok {n : Nat} {R : Nat → Nat → Nat} {ins : List Nat} {m : List (Nat × Nat)} {d : Nat → Nat} (h : Bfs n R ins m d) :
    ∀ (k b : Nat), b ∈ keys m → d b < k → ∃ a l, Ie10.trace m k b = a :: l ∧ a ∈ ins ∧ lastD a l = b ∧ Lvl n R d (a :: l) ∧
      ∀ x, x ∈ a :: l → x ∈ keys m ∧ d x ≤ d b
  | 0, b, _, hk => absurd hk (Nat.not_lt_zero _)
  | k + 1, b, hb, hk => by
    unfold Ie10.trace
    obtain ⟨y, hy, ey⟩ := List.mem_map.mp hb
    have hs : (m.find? fun x => x.1 == b).isSome := by
      rw [List.find?_isSome]
      exact ⟨y, hy, by simpa using ey⟩
    cases hf : m.find? fun x => x.1 == b with
    | none => rw [hf] at hs; cases hs
    | some x =>
      have hxm := List.mem_of_find?_eq_some hf
      have hxb : x.1 = b := by
        have := List.find?_some hf
        simpa using this
      dsimp only
      cases h.tree x hxm with
      | inl t =>
        rw [if_pos (t.1.trans hxb)]
        refine ⟨b, [], rfl, hxb ▸ t.2.1, rfl, trivial, ?_⟩
        intro z hz
        have : z = b := by simpa using hz
        subst this
        exact ⟨hb, Nat.le_refl _⟩
      | inr t =>
        rw [if_neg (fun e => t.2.1 (e.trans hxb.symm))]
        have hd : d b = d x.2 + 1 := hxb ▸ t.2.2.2
        obtain ⟨a, l, e, ha, hl, hw, hall⟩ := trace_ok h k x.2 t.1 (by omega)
        rw [e]
        refine ⟨a, l ++ [b], rfl, ha, ?_, ?_, ?_⟩
        · clear e hw hall hl ha
          induction l generalizing a with
          | nil => rfl
          | cons c l ih => exact ih c
        · have hR : 0 < R x.2 b := hxb ▸ t.2.2.1
          have h2 := h.lt _ t.1
          have hb' := h.lt _ hb
          clear e ha hall
          show Lvl n R d ((a :: l) ++ [b])
          induction l generalizing a with
          | nil =>
            have : a = x.2 := hl
            subst this
            exact ⟨⟨h2, hb', hR, hd⟩, trivial⟩
          | cons c l ih => exact ⟨hw.1, ih c hl hw.2⟩
        · intro z hz
          have hz : z ∈ (a :: l) ++ [b] := hz
          cases List.mem_append.mp hz with
          | inl hz => have := hall z hz; exact ⟨this.1, by omega⟩
          | inr hz =>
            have : z = b := by simpa using hz
            subst this
            exact ⟨hb, Nat.le_refl _⟩

/-- levels are the greatest -/
theorem Bfs.ge {n : Nat} {R : Nat → Nat → Nat} {ins : List Nat} {m : List (Nat × Nat)} {d g : Nat → Nat} (h : Bfs n R ins m d)
    (hn : ∀ v, g v ≤ n) (h0 : ∀ a, a ∈ ins → g a = 0) (hs : ∀ a b, a < n → b < n → 0 < R a b → g b ≤ g a + 1) : ∀ v, g v ≤ d v := by
  have main : ∀ (j v : Nat), v ∈ keys m → d v = j → g v ≤ j := by
    intro j
    induction j with
    | zero =>
      intro v hv e
      obtain ⟨x, hx, ex⟩ := List.mem_map.mp hv
      cases h.tree x hx with
      | inl t => rw [← ex, h0 _ t.2.1]; exact Nat.le_refl _
      | inr t => exfalso; have := t.2.2.2; rw [ex] at this; omega
    | succ j ih =>
      intro v hv e
      obtain ⟨x, hx, ex⟩ := List.mem_map.mp hv
      try dsimp only at ex
      cases h.tree x hx with
      | inl t => exfalso; have := t.2.2; rw [ex] at this; omega
      | inr t =>
        have h1 := t.2.2.2
        rw [ex] at h1
        have h2 := ih x.2 t.1 (by omega)
        have h3 := t.2.2.1
        rw [ex] at h3
        have := hs x.2 v (h.lt _ t.1) (h.lt _ hv) h3
        omega
  intro v
  by_cases hv : v ∈ keys m
  · exact main _ v hv rfl
  · rw [h.out v hv]; exact hn v

theorem Bfs.le_n {n : Nat} {R : Nat → Nat → Nat} {ins : List Nat} {m : List (Nat × Nat)} {d : Nat → Nat} (h : Bfs n R ins m d) (v : Nat) : d v ≤ n := by
  by_cases hv : v ∈ keys m
  · exact Nat.le_of_lt (h.small v hv)
  · exact Nat.le_of_eq (h.out v hv)

end Cl
namespace Cl

/-! Cells come to, round by round. -/
def Closed (n : Nat) (ok : Nat → Nat → Bool) (l : List Nat) : Prop := ∀ a, a ∈ l → ∀ b, b < n → ok a b = true → b ∈ l
def round (n : Nat) (ok : Nat → Nat → Bool) (l : List Nat) : List Nat :=
  (List.range n).filter fun b => l.contains b || l.any fun a => ok a b

theorem mem_round {n : Nat} {ok : Nat → Nat → Bool} {l : List Nat} {b : Nat} :
    b ∈ round n ok l ↔ b < n ∧ (b ∈ l ∨ ∃ a, a ∈ l ∧ ok a b = true) := by
  unfold round
  rw [List.mem_filter, List.mem_range, Bool.or_eq_true, List.contains_iff_mem, List.any_eq_true]

theorem round_closed {n : Nat} {ok : Nat → Nat → Bool} {l : List Nat} (hl : ∀ x, x ∈ l → x < n) (h : Closed n ok l) :
    ∀ x, x ∈ round n ok l ↔ x ∈ l := by
  intro x
  rw [mem_round]
  constructor
  · rintro ⟨hx, h1 | ⟨a, ha, ho⟩⟩
    · exact h1
    · exact h a ha x hx ho
  · intro hx
    exact ⟨hl x hx, .inl hx⟩

theorem Closed.of_iff {n : Nat} {ok : Nat → Nat → Bool} {l m : List Nat} (e : ∀ x, x ∈ m ↔ x ∈ l) (h : Closed n ok l) : Closed n ok m :=
  fun a ha b hb ho => (e b).mpr (h a ((e a).mp ha) b hb ho)

theorem rounds_keep {n : Nat} {ok : Nat → Nat → Bool} : ∀ (k : Nat) (l : List Nat), (∀ x, x ∈ l → x < n) → Closed n ok l →
    Closed n ok (Ie10.reachRounds n ok k l)
  | 0, _, _, h => h
  | k + 1, l, hl, h => by
    show Closed n ok (Ie10.reachRounds n ok k (round n ok l))
    exact rounds_keep k _ (fun x hx => (mem_round.mp hx).1) (h.of_iff (round_closed hl h))

theorem rounds_closed {n : Nat} {ok : Nat → Nat → Bool} : ∀ (k : Nat) (l : List Nat), (∀ x, x ∈ l → x < n) →
    n ≤ k + ((List.range n).filter fun b => l.contains b).length → Closed n ok (Ie10.reachRounds n ok k l)
  | 0, l, hl, hk => by
    intro a _ b hb _
    show b ∈ l
    have hs : ((List.range n).filter fun b => l.contains b) = List.range n := by
      refine List.Sublist.eq_of_length_le List.filter_sublist ?_
      rw [List.length_range]
      omega
    have : b ∈ ((List.range n).filter fun b => l.contains b) := by rw [hs]; exact List.mem_range.mpr hb
    have := (List.mem_filter.mp this).2
    exact List.contains_iff_mem.mp this
  | k + 1, l, hl, hk => by
    show Closed n ok (Ie10.reachRounds n ok k (round n ok l))
    by_cases h : Closed n ok l
    · exact rounds_keep k _ (fun x hx => (mem_round.mp hx).1) (h.of_iff (round_closed hl h))
    · refine rounds_closed k _ (fun x hx => (mem_round.mp hx).1) ?_
      have hex : ∃ a b, a ∈ l ∧ b < n ∧ ok a b = true ∧ b ∉ l := by
        apply Classical.byContradiction
        intro hno
        refine h fun a ha b hb ho => ?_
        apply Classical.byContradiction
        intro hbl
        exact hno ⟨a, b, ha, hb, ho, hbl⟩
      obtain ⟨a, b, ha, hb, ho, hbl⟩ := hex
      have := nodup_len (b :: (List.range n).filter fun b => l.contains b) ((List.range n).filter fun b => (round n ok l).contains b)
        (List.nodup_cons.mpr ⟨fun hm => hbl (List.contains_iff_mem.mp (List.mem_filter.mp hm).2), List.Nodup.sublist List.filter_sublist List.nodup_range⟩)
        (fun x hx => by
          rw [List.mem_filter, List.mem_range, List.contains_iff_mem, mem_round]
          cases List.mem_cons.mp hx with
          | inl e => subst e; exact ⟨hb, hb, .inr ⟨a, ha, ho⟩⟩
          | inr hx =>
            have hx := List.mem_filter.mp hx
            have h1 := List.mem_range.mp hx.1
            exact ⟨h1, h1, .inl (List.contains_iff_mem.mp hx.2)⟩)
      rw [List.length_cons] at this
      omega

theorem rounds_sub {n : Nat} {ok : Nat → Nat → Bool} : ∀ (k : Nat) (l : List Nat), (∀ x, x ∈ l → x < n) →
    ∀ x, x ∈ l → x ∈ Ie10.reachRounds n ok k l
  | 0, _, _, _, hx => hx
  | k + 1, l, hl, x, hx => rounds_sub k (round n ok l) (fun x hx => (mem_round.mp hx).1) x (mem_round.mpr ⟨hl x hx, .inl hx⟩)

theorem rounds_lt {n : Nat} {ok : Nat → Nat → Bool} : ∀ (k : Nat) (l : List Nat), (∀ x, x ∈ l → x < n) →
    ∀ x, x ∈ Ie10.reachRounds n ok k l → x < n
  | 0, _, hl, x, hx => hl x hx
  | k + 1, l, _, x, hx => rounds_lt k (round n ok l) (fun x hx => (mem_round.mp hx).1) x hx

theorem rounds_least {n : Nat} {ok : Nat → Nat → Bool} {P : Nat → Prop} (hc : ∀ a b, P a → b < n → ok a b = true → P b) :
    ∀ (k : Nat) (l : List Nat), (∀ x, x ∈ l → P x) → ∀ x, x ∈ Ie10.reachRounds n ok k l → P x
  | 0, _, hl, x, hx => hl x hx
  | k + 1, l, hl, x, hx => rounds_least hc k (round n ok l) (fun x hx => by
      obtain ⟨hxn, h1 | ⟨a, ha, ho⟩⟩ := mem_round.mp hx
      · exact hl x h1
      · exact hc a x (hl a ha) hxn ho) x hx

theorem rounds_filter {n : Nat} {ok : Nat → Nat → Bool} : ∀ (k : Nat) (l : List Nat), l.Sublist (List.range n) →
    (Ie10.reachRounds n ok k l).Sublist (List.range n)
  | 0, _, h => h
  | k + 1, l, _ => rounds_filter k (round n ok l) List.filter_sublist

theorem sublist_range_eq {n : Nat} {l : List Nat} (h : l.Sublist (List.range n)) : l = (List.range n).filter fun b => l.contains b := by
  have hn : l.Nodup := List.Nodup.sublist h List.nodup_range
  refine List.Sublist.eq_of_length_le (?_ : l.Sublist ((List.range n).filter fun b => l.contains b)) ?_
  · have h2 := h.filter (fun b => l.contains b)
    have e : l.filter (fun b => l.contains b) = l := by
      rw [List.filter_eq_self]
      intro a ha
      exact List.contains_iff_mem.mpr ha
    rwa [e] at h2
  · exact nodup_len _ _ (List.Nodup.sublist List.filter_sublist List.nodup_range) (fun x hx => List.contains_iff_mem.mp (List.mem_filter.mp hx).2)

structure Reach (n : Nat) (ok : Nat → Nat → Bool) (l : List Nat) (S : List Nat) : Prop where
  lt : ∀ x, x ∈ S → x < n
  sub : ∀ x, x ∈ l → x ∈ S
  closed : Closed n ok S
  least : ∀ P : Nat → Prop, (∀ a b, P a → b < n → ok a b = true → P b) → (∀ x, x ∈ l → P x) → ∀ x, x ∈ S → P x

theorem reach_ok {n : Nat} {ok : Nat → Nat → Bool} {l : List Nat} (hl : ∀ x, x ∈ l → x < n) : Reach n ok l (Ie10.reach n ok l) :=
  ⟨rounds_lt n l hl, rounds_sub n l hl, rounds_closed n l hl (Nat.le_add_right _ _), fun _ hc h0 => rounds_least hc n l h0⟩

theorem reach_sorted {n : Nat} {ok : Nat → Nat → Bool} {l : List Nat} (h : l.Sublist (List.range n)) :
    (Ie10.reach n ok l).Sublist (List.range n) := rounds_filter n l h

theorem Reach.iff {n : Nat} {ok : Nat → Nat → Bool} {l S T : List Nat} (h : Reach n ok l S) (g : Reach n ok l T) : ∀ x, x ∈ S ↔ x ∈ T :=
  fun x => ⟨h.least (· ∈ T) (fun a b ha hb ho => g.closed a ha b hb ho) g.sub x, g.least (· ∈ S) (fun a b ha hb ho => h.closed a ha b hb ho) h.sub x⟩

/-! Cheapest regions. -/
def Valid (ins outs : List Nat) (S : Nat → Bool) : Prop := (∀ a, a ∈ ins → S a = true) ∧ ∀ b, b ∈ outs → S b = false

structure Best (n : Nat) (C : Nat → Nat → Nat) (ins outs : List Nat) (val : Int) (L G : Nat → Bool) : Prop where
  vL : Valid ins outs L
  vG : Valid ins outs G
  cL : cut n C L = val
  cG : cut n C G = val
  low : ∀ S, Valid ins outs S → val ≤ cut n C S
  between : ∀ S, Valid ins outs S → cut n C S = val → ∀ a, a < n → (L a = true → S a = true) ∧ (S a = true → G a = true)

theorem Best.same {n : Nat} {C : Nat → Nat → Nat} {ins outs : List Nat} {v v' : Int} {L G L' G' : Nat → Bool}
    (h : Best n C ins outs v L G) (g : Best n C ins outs v' L' G') : v = v' ∧ ∀ a, a < n → L a = L' a ∧ G a = G' a := by
  have e : v = v' := by
    have a := h.low _ g.vL
    have b := g.low _ h.vL
    rw [g.cL] at a
    rw [h.cL] at b
    omega
  subst e
  refine ⟨rfl, fun a ha => ⟨?_, ?_⟩⟩
  · have p := (h.between _ g.vL g.cL a ha).1
    have q := (g.between _ h.vL h.cL a ha).1
    cases hL : L a <;> cases hL' : L' a <;> simp_all
  · have p := (h.between _ g.vG g.cG a ha).2
    have q := (g.between _ h.vG h.cG a ha).2
    cases hL : G a <;> cases hL' : G' a <;> simp_all

theorem cut_zero {n : Nat} {R : Nat → Nat → Nat} {S : Nat → Bool} (h : ∀ a b, a < n → b < n → S a = true → 0 < R a b → S b = true) : cut n R S = 0 := by
  unfold cut
  rw [sum2_congr (G := fun _ _ => 0)]
  · unfold sum2
    simp [sumTo_const]
  · intro a b ha hb
    split
    · rename_i hh
      rw [Bool.and_eq_true, Bool.not_eq_true'] at hh
      have : ¬ 0 < R a b := fun hR => by
        have := h a b ha hb hh.1 hR
        rw [hh.2] at this
        cases this
      omega
    · rfl

theorem zero_cut {n : Nat} {R : Nat → Nat → Nat} {S : Nat → Bool} (h0 : cut n R S = 0) :
    ∀ a b, a < n → b < n → S a = true → 0 < R a b → S b = true := by
  intro a b ha hb hS hR
  have := sum2_zero (n := n) (F := fun a b => if S a && !S b then (R a b : Int) else 0) (fun a b _ _ => by
    split
    · exact Int.natCast_nonneg _
    · exact Int.le_refl _) h0 a b ha hb
  cases hb' : S b with
  | true => rfl
  | false =>
    exfalso
    try dsimp only at this
    rw [hS, hb'] at this
    simp at this
    omega

theorem best_of {n : Nat} {C R : Nat → Nat → Nat} {ins outs : List Nat} {val : Int} {L G : Nat → Bool}
    (J : ∀ S, Valid ins outs S → cut n R S + val = cut n C S)
    (vL : Valid ins outs L) (vG : Valid ins outs G)
    (cL : ∀ a b, a < n → b < n → L a = true → 0 < R a b → L b = true)
    (cG : ∀ a b, a < n → b < n → G a = true → 0 < R a b → G b = true)
    (mL : ∀ S, Valid ins outs S → (∀ a b, a < n → b < n → S a = true → 0 < R a b → S b = true) → ∀ a, a < n → L a = true → S a = true)
    (mG : ∀ S, Valid ins outs S → (∀ a b, a < n → b < n → S a = true → 0 < R a b → S b = true) → ∀ a, a < n → S a = true → G a = true) :
    Best n C ins outs val L G := by
  refine ⟨vL, vG, ?_, ?_, ?_, ?_⟩
  · rw [← J L vL, cut_zero cL, Int.zero_add]
  · rw [← J G vG, cut_zero cG, Int.zero_add]
  · intro S hS
    have := J S hS
    have := cut_nonneg (n := n) (R := R) (S := S)
    omega
  · intro S hS e a ha
    have hj := J S hS
    have hc := zero_cut (n := n) (R := R) (S := S) (by omega)
    exact ⟨mL S hS hc a ha, mG S hS hc a ha⟩

end Cl
namespace Cl
open Ie10 (St Left left)

/-! What is left, as it lies in lists. -/
structure Shape (n : Nat) (r : Left) : Prop where
  rows : r.length = n
  cols : ∀ a, a < n → (r.getD a []).length = n

theorem left_set {n : Nat} {r : Left} (h : Shape n r) {u v x : Nat} (hu : u < n) (hv : v < n) :
    left (Ie10.setLeft r u v x) = upd2 (left r) u v x := by
  funext a b
  unfold left Ie10.setLeft upd2
  have hr := h.rows
  have hc := h.cols u hu
  by_cases ha : a = u
  · subst ha
    rw [List.getD_eq_getElem?_getD (l := r.set a _), List.getElem?_set_self (by omega), Option.getD_some]
    by_cases hb : b = v
    · subst hb
      rw [List.getD_eq_getElem?_getD, List.getElem?_set_self (by omega), if_pos (by simp)]
      rfl
    · rw [List.getD_eq_getElem?_getD, List.getElem?_set_ne (fun e => hb e.symm), if_neg (fun e => hb e.2), ← List.getD_eq_getElem?_getD]
  · rw [List.getD_eq_getElem?_getD (l := r.set u _), List.getElem?_set_ne (fun e => ha e.symm), if_neg (fun e => ha e.1), ← List.getD_eq_getElem?_getD]

theorem Shape.set {n : Nat} {r : Left} (h : Shape n r) {u v x : Nat} (hu : u < n) : Shape n (Ie10.setLeft r u v x) := by
  refine ⟨by unfold Ie10.setLeft; rw [List.length_set]; exact h.rows, ?_⟩
  intro a ha
  unfold Ie10.setLeft
  by_cases e : a = u
  · subst e
    rw [List.getD_eq_getElem?_getD, List.getElem?_set_self (by rw [h.rows]; exact ha), Option.getD_some, List.length_set]
    exact h.cols a ha
  · rw [List.getD_eq_getElem?_getD, List.getElem?_set_ne (fun e' => e e'.symm), ← List.getD_eq_getElem?_getD]
    exact h.cols a ha

theorem send_left {n k : Nat} : ∀ (l : List (Nat × Nat)) (r : Left), Shape n r → (∀ x, x ∈ l → x.1 < n ∧ x.2 < n) →
    Shape n (Ie10.send r l k) ∧ left (Ie10.send r l k) = sendF (left r) l k
  | [], _, h, _ => ⟨h, rfl⟩
  | x :: l, r, h, hx => by
    have h1 := hx x List.mem_cons_self
    have h2 : Shape n (Ie10.setLeft r x.1 x.2 (left r x.1 x.2 - k)) := h.set h1.1
    have h3 := h2.set (v := x.1) (x := left r x.2 x.1 + k) h1.2
    have ih := send_left (k := k) l _ h3 (fun y hy => hx y (List.mem_cons_of_mem _ hy))
    refine ⟨ih.1, ?_⟩
    refine ih.2.trans ?_
    rw [left_set h2 h1.2 h1.1, left_set h h1.1 h1.2]
    rfl

theorem left_full {s : St} {a b : Nat} (ha : a < s.n) (hb : b < s.n) : left (Ie10.full s) a b = Ie10.price s a b := by
  unfold left Ie10.full
  have e : ((List.range s.n).map fun a => (List.range s.n).map (Ie10.price s a)).getD a [] = (List.range s.n).map (Ie10.price s a) := by
    rw [List.getD_eq_getElem?_getD, List.getElem?_map, List.getElem?_range ha]
    rfl
  rw [e, List.getD_eq_getElem?_getD, List.getElem?_map, List.getElem?_range hb]
  rfl

theorem shape_full {s : St} : Shape s.n (Ie10.full s) := by
  refine ⟨by unfold Ie10.full; simp, ?_⟩
  intro a ha
  unfold Ie10.full
  rw [List.getD_eq_getElem?_getD, List.getElem?_map, List.getElem?_range ha]
  simp

/-! The least along a way. -/
theorem foldl_min {f : Nat × Nat → Nat} : ∀ (l : List (Nat × Nat)) (z : Nat),
    (l.foldl (fun m y => min m (f y)) z ≤ z) ∧ (∀ y, y ∈ l → l.foldl (fun m y => min m (f y)) z ≤ f y) ∧
    (l.foldl (fun m y => min m (f y)) z = z ∨ ∃ y, y ∈ l ∧ l.foldl (fun m y => min m (f y)) z = f y)
  | [], z => ⟨Nat.le_refl _, fun _ h => (by cases h), .inl rfl⟩
  | x :: l, z => by
    have ih := foldl_min (f := f) l (min z (f x))
    simp only [List.foldl_cons]
    refine ⟨Nat.le_trans ih.1 (Nat.min_le_left _ _), ?_, ?_⟩
    · intro y hy
      cases List.mem_cons.mp hy with
      | inl e => subst e; exact Nat.le_trans ih.1 (Nat.min_le_right _ _)
      | inr hy => exact ih.2.1 y hy
    · cases ih.2.2 with
      | inl e =>
        rw [e]
        rcases Nat.le_total z (f x) with h | h
        · rw [Nat.min_eq_left h]; exact .inl rfl
        · rw [Nat.min_eq_right h]; exact .inr ⟨x, List.mem_cons_self, rfl⟩
      | inr e =>
        obtain ⟨y, hy, e⟩ := e
        exact .inr ⟨y, List.mem_cons_of_mem _ hy, e⟩

theorem leastOf_ok {r : Left} {p : List (Nat × Nat)} (hp : p ≠ []) :
    (∀ y, y ∈ p → Ie10.leastOf r p ≤ left r y.1 y.2) ∧ ∃ y, y ∈ p ∧ Ie10.leastOf r p = left r y.1 y.2 := by
  cases p with
  | nil => exact absurd rfl hp
  | cons x l =>
    have h := foldl_min (f := fun y => left r y.1 y.2) l (left r x.1 x.2)
    have e : Ie10.leastOf r (x :: l) = l.foldl (fun m y => min m (left r y.1 y.2)) (left r x.1 x.2) := rfl
    rw [e]
    refine ⟨?_, ?_⟩
    · intro y hy
      cases List.mem_cons.mp hy with
      | inl e => subst e; exact h.1
      | inr hy => exact h.2.1 y hy
    · cases h.2.2 with
      | inl e => exact ⟨x, List.mem_cons_self, e⟩
      | inr e => obtain ⟨y, hy, e⟩ := e; exact ⟨y, List.mem_cons_of_mem _ hy, e⟩

/-! Each sending brings a number down by two. -/
def bes (w a b : Nat) : Bool := Ie10.gap (a % w) (b % w) + Ie10.gap (a / w) (b / w) == 1

theorem gap_comm (a b : Nat) : Ie10.gap a b = Ie10.gap b a := by unfold Ie10.gap; omega

theorem bes_comm (w a b : Nat) : bes w a b = bes w b a := by
  unfold bes
  rw [gap_comm (a % w), gap_comm (a / w)]

theorem bes_ne {w a b : Nat} (h : bes w a b = true) : a ≠ b := by
  intro e
  subst e
  unfold bes Ie10.gap at h
  simp at h

def potF (n w : Nat) (R : Nat → Nat → Nat) (d : Nat → Nat) (a b : Nat) : Int :=
  if bes w a b then (if 0 < R a b then (n : Int) + 1 - d a else (n : Int) - d b) else 0
def pot (n w : Nat) (R : Nat → Nat → Nat) (d : Nat → Nat) : Int := sum2 n (potF n w R d)

theorem pot_nonneg {n w : Nat} {R : Nat → Nat → Nat} {d : Nat → Nat} (h : ∀ v, d v ≤ n) : 0 ≤ pot n w R d := by
  refine sum2_nonneg fun a b _ _ => ?_
  unfold potF
  have := h a
  have := h b
  split
  · split <;> omega
  · omega

theorem pot_down {n w k : Nat} {R : Nat → Nat → Nat} {d d' : Nat → Nat} {p : List Nat}
    (hd : ∀ v, d v ≤ d' v) (hw : Lvl n R d p) (hk : 0 < k)
    {x : Nat × Nat} (hx : x ∈ Ie10.pairs p) (hxk : R x.1 x.2 = k) (hb : bes w x.1 x.2 = true) :
    pot n w (sendF R (Ie10.pairs p) k) d' + 2 ≤ pot n w R d := by
  have hup : Chn (fun a b => d b = d a + 1) p := chn_mono (fun _ _ h => h.2.2.2) hw
  have hx' := chn_pairs hw x hx
  refine sum2_strict hx'.1 hx'.2.1 ?_ ?_
  · intro a b _ _
    unfold potF
    have da := hd a
    have db := hd b
    split
    · by_cases h1 : (a, b) ∈ Ie10.pairs p
      · have hs := (send_on (k := k) p R hup (a, b) h1).1
        have hc := chn_pairs hw (a, b) h1
        dsimp only at hs hc
        rw [hs, if_pos hc.2.2.1]
        split <;> omega
      · by_cases h2 : (b, a) ∈ Ie10.pairs p
        · have hs := (send_on (k := k) p R hup (b, a) h2).2
          have hc := chn_pairs hw (b, a) h2
          dsimp only at hs hc
          rw [hs, if_pos (by omega)]
          split <;> omega
        · rw [send_other]
          · split <;> omega
          · intro y hy
            constructor
            · rintro ⟨e, f⟩; subst e; subst f; exact h1 hy
            · rintro ⟨e, f⟩; subst e; subst f; exact h2 hy
    · exact Int.le_refl _
  · unfold potF
    have hs := (send_on (k := k) p R hup x hx).1
    have d2 := hd x.2
    rw [if_pos hb, if_pos hb, hs, if_neg (by omega), if_pos hx'.2.2.1]
    omega

def besCount (w h : Nat) : Int := sum2 (w * h) fun a b => if bes w a b then (w * h : Int) + 1 else 0

theorem pot_start {w h : Nat} {R : Nat → Nat → Nat} {d : Nat → Nat} : pot (w * h) w R d ≤ besCount w h := by
  refine sum2_le fun a b _ _ => ?_
  unfold potF
  split
  · split <;> (rw [Int.natCast_mul]; omega)
  · exact Int.le_refl _

def small5 : List Nat := [1, 2, 3, 4, 5]
theorem besCount_all : (small5.all fun w => small5.all fun h => decide (besCount w h ≤ 2 * ((w * h * (w * h) * 4 : Nat) : Int))) = true := by
  decide +kernel

theorem besCount_le {w h : Nat} (hw : 1 ≤ w) (hw5 : w ≤ 5) (hh : 1 ≤ h) (hh5 : h ≤ 5) :
    besCount w h ≤ 2 * ((w * h * (w * h) * 4 : Nat) : Int) := by
  have a := List.all_eq_true.mp besCount_all w (by
    have : w = 1 ∨ w = 2 ∨ w = 3 ∨ w = 4 ∨ w = 5 := by omega
    rcases this with rfl | rfl | rfl | rfl | rfl <;> decide)
  have b := List.all_eq_true.mp a h (by
    have : h = 1 ∨ h = 2 ∨ h = 3 ∨ h = 4 ∨ h = 5 := by omega
    rcases this with rfl | rfl | rfl | rfl | rfl <;> decide)
  exact of_decide_eq_true b

/-! The flow. -/
structure Seeds (s : St) : Prop where
  w1 : 1 ≤ s.w
  w5 : s.w ≤ 5
  h1 : 1 ≤ s.h
  h5 : s.h ≤ 5
  insN : s.ins.Nodup
  insL : ∀ a, a ∈ s.ins → a < s.n
  outsL : ∀ a, a ∈ s.outs → a < s.n
  apart : ∀ a, a ∈ s.ins → a ∉ s.outs

theorem way_some {s : St} (g : Seeds s) {r : Left} {m : List (Nat × Nat)} {d : Nat → Nat}
    (em : Ie10.from_ r s.n s.ins = m) (hb : Bfs s.n (left r) s.ins m d) {p : List Nat} (h : Ie10.wayThrough s r = some p) :
    ∃ a l, p = a :: l ∧ a ∈ s.ins ∧ lastD a l ∈ s.outs ∧ Lvl s.n (left r) d p ∧ Ie10.pairs p ≠ [] := by
  unfold Ie10.wayThrough at h
  dsimp only at h
  rw [em] at h
  cases hf : m.find? fun x => s.outs.contains x.1 with
  | none => rw [hf] at h; cases h
  | some x =>
    rw [hf] at h
    have e : Ie10.trace m (s.n + 1) x.1 = p := Option.some.inj h
    have hxm := List.mem_of_find?_eq_some hf
    have hxo : x.1 ∈ s.outs := by
      have := List.find?_some hf
      exact List.contains_iff_mem.mp this
    have hk : x.1 ∈ keys m := List.mem_map_of_mem hxm
    obtain ⟨a, l, e2, ha, hl, hw, _⟩ := trace_ok hb (s.n + 1) x.1 hk (Nat.lt_of_lt_of_le (hb.small _ hk) (Nat.le_succ _))
    rw [e] at e2
    subst e2
    refine ⟨a, l, rfl, ha, by rw [hl]; exact hxo, hw, ?_⟩
    cases l with
    | nil =>
      exfalso
      have : a = x.1 := hl
      exact g.apart a ha (this ▸ hxo)
    | cons b l => rw [pairs_cons2]; exact List.cons_ne_nil _ _

theorem way_none {s : St} {r : Left} {m : List (Nat × Nat)} (em : Ie10.from_ r s.n s.ins = m)
    (h : Ie10.wayThrough s r = none) : ∀ b, b ∈ s.outs → b ∉ keys m := by
  unfold Ie10.wayThrough at h
  dsimp only at h
  rw [em] at h
  intro b hb hk
  obtain ⟨x, hx, e⟩ := List.mem_map.mp hk
  cases hf : m.find? fun x => s.outs.contains x.1 with
  | none =>
    have := List.find?_eq_none.mp hf x hx
    exact this (List.contains_iff_mem.mpr (e ▸ hb))
  | some y => rw [hf] at h; cases h

def Sup (w : Nat) (r : Left) : Prop := ∀ a b, 0 < left r a b → bes w a b = true

theorem flow_ok {s : St} (g : Seeds s) : ∀ (k : Nat) (r : Left) (d : Nat → Nat), Shape s.n r → Sup s.w r →
    Bfs s.n (left r) s.ins (Ie10.from_ r s.n s.ins) d → pot s.n s.w (left r) d ≤ 2 * (k : Int) →
    Ie10.wayThrough s (Ie10.flow s k r).2 = none ∧
    ∀ S, Valid s.ins s.outs S → cut s.n (left (Ie10.flow s k r).2) S + ((Ie10.flow s k r).1 : Int) = cut s.n (left r) S := by
  have turn : ∀ (r : Left) (d : Nat → Nat), Shape s.n r → Sup s.w r → Bfs s.n (left r) s.ins (Ie10.from_ r s.n s.ins) d →
      ∀ p, Ie10.wayThrough s r = some p → Shape s.n (Ie10.send r (Ie10.pairs p) (Ie10.leastOf r (Ie10.pairs p))) ∧
        Sup s.w (Ie10.send r (Ie10.pairs p) (Ie10.leastOf r (Ie10.pairs p))) ∧
        (∀ S, Valid s.ins s.outs S → cut s.n (left (Ie10.send r (Ie10.pairs p) (Ie10.leastOf r (Ie10.pairs p)))) S +
          (Ie10.leastOf r (Ie10.pairs p) : Int) = cut s.n (left r) S) ∧
        ∃ d', Bfs s.n (left (Ie10.send r (Ie10.pairs p) (Ie10.leastOf r (Ie10.pairs p)))) s.ins
            (Ie10.from_ (Ie10.send r (Ie10.pairs p) (Ie10.leastOf r (Ie10.pairs p))) s.n s.ins) d' ∧
          pot s.n s.w (left (Ie10.send r (Ie10.pairs p) (Ie10.leastOf r (Ie10.pairs p)))) d' + 2 ≤ pot s.n s.w (left r) d := by
    intro r d hs hsup hb p hp
    obtain ⟨a, l, e, ha, hl, hw, hne⟩ := way_some g rfl hb hp
    have hlo := leastOf_ok (r := r) hne
    generalize hk : Ie10.leastOf r (Ie10.pairs p) = k at hlo ⊢
    obtain ⟨hmin, y, hy, hyk⟩ := hlo
    have hyw := chn_pairs hw y hy
    have hk0 : 0 < k := by rw [hyk]; exact hyw.2.2.1
    have hup : Chn (fun a b => d b = d a + 1) p := chn_mono (fun _ _ h => h.2.2.2) hw
    have hsl := send_left (k := k) (Ie10.pairs p) r hs (fun x hx => ⟨(chn_pairs hw x hx).1, (chn_pairs hw x hx).2.1⟩)
    obtain ⟨d', hb'⟩ := from_bfs (n := s.n) (r := Ie10.send r (Ie10.pairs p) k) g.insN g.insL
    refine ⟨hsl.1, ?_, ?_, d', hb', ?_⟩
    · intro a b hab
      rw [hsl.2] at hab
      by_cases h1 : (a, b) ∈ Ie10.pairs p
      · exact hsup a b (chn_pairs hw (a, b) h1).2.2.1
      · by_cases h2 : (b, a) ∈ Ie10.pairs p
        · rw [bes_comm]
          exact hsup b a (chn_pairs hw (b, a) h2).2.2.1
        · rw [send_other] at hab
          · exact hsup a b hab
          · intro y hy
            constructor
            · rintro ⟨e, f⟩; subst e; subst f; exact h1 hy
            · rintro ⟨e, f⟩; subst e; subst f; exact h2 hy
    · intro S hS
      rw [hsl.2]
      subst e
      rw [cut_send (d := d)]
      · unfold ind
        rw [hS.1 a ha, hS.2 _ hl]
        simp
      · refine chn_of_pairs fun x hx => ?_
        have := chn_pairs hw x hx
        exact ⟨this.1, this.2.1, this.2.2.2, hmin x hx⟩
    · rw [hsl.2] at hb' ⊢
      refine pot_down ?_ hw hk0 hy hyk.symm (hsup _ _ hyw.2.2.1)
      refine hb'.ge hb.le_n hb.zero ?_
      intro a b ha hbn hR
      by_cases h1 : (a, b) ∈ Ie10.pairs p
      · have := (chn_pairs hw (a, b) h1).2.2.2
        dsimp only at this
        omega
      · by_cases h2 : (b, a) ∈ Ie10.pairs p
        · have := (chn_pairs hw (b, a) h2).2.2.2
          dsimp only at this
          omega
        · rw [send_other] at hR
          · by_cases hak : a ∈ keys (Ie10.from_ r s.n s.ins)
            · exact (hb.closed a hak b hbn hR).2
            · rw [hb.out a hak]
              have := hb.le_n b
              omega
          · intro y hy
            constructor
            · rintro ⟨e, f⟩; subst e; subst f; exact h1 hy
            · rintro ⟨e, f⟩; subst e; subst f; exact h2 hy
  intro k
  induction k with
  | zero =>
    intro r d hs hsup hb hpot
    unfold Ie10.flow
    refine ⟨?_, fun S _ => by simp⟩
    cases hp : Ie10.wayThrough s r with
    | none => rfl
    | some p =>
      exfalso
      obtain ⟨_, _, _, d', hb', hlt⟩ := turn r d hs hsup hb p hp
      have := pot_nonneg (w := s.w) (R := left (Ie10.send r (Ie10.pairs p) (Ie10.leastOf r (Ie10.pairs p)))) hb'.le_n
      omega
  | succ k ih =>
    intro r d hs hsup hb hpot
    unfold Ie10.flow
    cases hp : Ie10.wayThrough s r with
    | none => exact ⟨hp, fun S _ => by simp⟩
    | some p =>
      obtain ⟨hs', hsup', hJ, d', hb', hlt⟩ := turn r d hs hsup hb p hp
      have := ih _ d' hs' hsup' hb' (by omega)
      refine ⟨this.1, fun S hS => ?_⟩
      have h1 := this.2 S hS
      have h2 := hJ S hS
      dsimp only
      omega

theorem price_pos_bes {s : St} {a b : Nat} (h : 0 < Ie10.price s a b) : bes s.w a b = true := by
  unfold Ie10.price at h
  split at h
  · rename_i hb; exact hb
  · omega

theorem flowed_ok {s : St} (g : Seeds s) : Ie10.wayThrough s (Ie10.flowed s).2 = none ∧
    ∀ S, Valid s.ins s.outs S → cut s.n (left (Ie10.flowed s).2) S + ((Ie10.flowed s).1 : Int) = cut s.n (Ie10.price s) S := by
  obtain ⟨d, hb⟩ := from_bfs (n := s.n) (r := Ie10.full s) g.insN g.insL
  have h := flow_ok g (s.n * s.n * 4) (Ie10.full s) d shape_full ?_ hb ?_
  · refine ⟨h.1, fun S hS => ?_⟩
    have := h.2 S hS
    rw [cut_congr (T := Ie10.price s) (fun a b ha hb => left_full ha hb)] at this
    exact this
  · intro a b hab
    by_cases ha : a < s.n
    · by_cases hb : b < s.n
      · rw [left_full ha hb] at hab
        exact price_pos_bes hab
      · exfalso
        unfold left at hab
        rw [List.getD_eq_getElem?_getD, List.getElem?_eq_none (by rw [shape_full.cols a ha]; omega)] at hab
        simp at hab
    · exfalso
      unfold left at hab
      rw [List.getD_eq_getElem?_getD (l := Ie10.full s), List.getElem?_eq_none (by rw [shape_full.rows]; omega)] at hab
      simp at hab
  · refine Int.le_trans pot_start ?_
    exact besCount_le g.w1 g.w5 g.h1 g.h5

/-- **What the specification tells of a cut is the cheapest, the least and the greatest.** -/
theorem spec_best {s : St} (g : Seeds s) : Best s.n (Ie10.price s) s.ins s.outs (Ie10.flowed s).1
    (fun a => (Ie10.least s).contains a) (fun a => (Ie10.greatest s).contains a) := by
  have hf := flowed_ok g
  generalize hr : (Ie10.flowed s).2 = r at hf
  obtain ⟨hway, hJ⟩ := hf
  obtain ⟨d, hb⟩ := from_bfs (n := s.n) (r := r) g.insN g.insL
  have hno := way_none rfl hway
  have memL : ∀ a, (Ie10.least s).contains a = true ↔ a ∈ keys (Ie10.from_ r s.n s.ins) := by
    intro a
    rw [List.contains_iff_mem]
    unfold Ie10.least
    rw [hr]
    dsimp only
    rw [List.mem_filter, List.mem_range, List.any_eq_true]
    constructor
    · rintro ⟨_, x, hx, e⟩
      exact List.mem_map.mpr ⟨x, hx, by simpa using e⟩
    · intro h
      obtain ⟨x, hx, e⟩ := List.mem_map.mp h
      exact ⟨hb.lt a h, x, hx, by simpa using e⟩
  have hreach := reach_ok (n := s.n) (ok := fun a b => decide (0 < left r b a)) (l := s.outs) g.outsL
  have memG : ∀ a, (Ie10.greatest s).contains a = true ↔ a < s.n ∧ a ∉ Ie10.reach s.n (fun a b => decide (0 < left r b a)) s.outs := by
    intro a
    rw [List.contains_iff_mem]
    unfold Ie10.greatest
    rw [hr]
    dsimp only
    rw [List.mem_filter, List.mem_range, Bool.not_eq_true', ← Bool.not_eq_true, List.contains_iff_mem]
  have hclosed : ∀ a b, a < s.n → b < s.n → (Ie10.least s).contains a = true → 0 < left r a b → (Ie10.least s).contains b = true := by
    intro a b _ hbn h1 h2
    rw [memL] at h1 ⊢
    exact (hb.closed a h1 b hbn h2).1
  have hvL : Valid s.ins s.outs fun a => (Ie10.least s).contains a := by
    refine ⟨fun a ha => (memL a).mpr (hb.root a ha), fun b hbo => ?_⟩
    cases hc : (Ie10.least s).contains b with
    | false => exact hc
    | true => exact absurd ((memL b).mp hc) (hno b hbo)
  refine best_of hJ hvL ?_ hclosed ?_ ?_ ?_
  · constructor
    · intro a ha
      refine (memG a).mpr ⟨g.insL a ha, ?_⟩
      intro hra
      have := hreach.least (fun x => x < s.n ∧ ¬ ((Ie10.least s).contains x = true)) ?_ ?_ a hra
      · exact this.2 (hvL.1 a ha)
      · rintro x y ⟨hxn, hx⟩ hy hxy
        exact ⟨hy, fun hcy => hx (hclosed y x hy hxn hcy (of_decide_eq_true hxy))⟩
      · intro x hx
        refine ⟨g.outsL x hx, fun hcx => ?_⟩
        have h2 : (Ie10.least s).contains x = false := hvL.2 x hx
        rw [hcx] at h2
        cases h2
    · intro b hbo
      cases hc : (Ie10.greatest s).contains b with
      | false => exact hc
      | true => exact absurd (hreach.sub b hbo) ((memG b).mp hc).2
  · intro a b _ hbn h1 h2
    rw [memG] at h1 ⊢
    refine ⟨hbn, fun hrb => h1.2 (hreach.closed b hrb a h1.1 (decide_eq_true h2))⟩
  · intro S hS hc a ha hL
    have hk := (memL a).mp hL
    have main : ∀ (j v : Nat), v ∈ keys (Ie10.from_ r s.n s.ins) → d v = j → S v = true := by
      intro j
      induction j with
      | zero =>
        intro v hv e
        obtain ⟨x, hx, ex⟩ := List.mem_map.mp hv
        subst ex
        cases hb.tree x hx with
        | inl t => exact hS.1 _ t.2.1
        | inr t => exfalso; have := t.2.2.2; omega
      | succ j ih =>
        intro v hv e
        obtain ⟨x, hx, ex⟩ := List.mem_map.mp hv
        subst ex
        cases hb.tree x hx with
        | inl t => exact hS.1 _ t.2.1
        | inr t => exact hc x.2 x.1 (hb.lt _ t.1) (hb.lt _ hv) (ih x.2 t.1 (by have := t.2.2.2; omega)) t.2.2.1
    exact main _ a hk rfl
  · intro S hS hc a ha hSa
    refine (memG a).mpr ⟨ha, fun hra => ?_⟩
    have := hreach.least (fun x => x < s.n ∧ S x = false) ?_ ?_ a hra
    · rw [hSa] at this; cases this.2
    · rintro x y ⟨hxn, hx⟩ hy hxy
      refine ⟨hy, ?_⟩
      cases hSy : S y with
      | false => rfl
      | true =>
        have := hc y x hy hxn hSy (of_decide_eq_true hxy)
        rw [hx] at this
        cases this
    · intro x hx
      exact ⟨g.outsL x hx, hS.2 x hx⟩

end Cl
namespace Cl

abbrev iz (l : List Nat) : List Int := l.map fun (n : Nat) => (n : Int)
theorem iz_of {l : List Int} (h : ∀ x, x ∈ l → 0 ≤ x) : ∃ m : List Nat, l = iz m := by
  refine ⟨l.map Int.toNat, ?_⟩
  unfold iz
  rw [List.map_map]
  conv => lhs; rw [← List.map_id l]
  refine List.map_congr_left fun x hx => ?_
  have := h x hx
  show x = ((x.toNat : Nat) : Int)
  omega

/-- a call's numbers, as they stand in the list -/
def enc : Ie10.Call → List Nat
  | .page w h l => 0 :: w :: h :: l.length :: l
  | .sharp k => [1, k]
  | .like c t => [2, c, t]
  | .steps c t => [3, c, t]
  | .ins l => 4 :: l.length :: l
  | .outs l => 5 :: l.length :: l
  | .cut => [6]
  | .wide => [7]
  | .cost l => 8 :: l.length :: l
  | .edge => [9]
  | .price a b => [10, a, b]
/-- rows aren't long -/
def Short : Ie10.Call → Prop
  | .page _ _ l => l.length ≤ 30
  | .ins l => l.length ≤ 30
  | .outs l => l.length ≤ 30
  | .cost l => l.length ≤ 30
  | _ => True
/-- what is answered to calls from a state on -/
def tell : Ie10.St → List Ie10.Call → List Int
  | _, [] => []
  | s, c :: r => ((Ie10.step s c).2.length : Int) :: (Ie10.step s c).2 ++ tell (Ie10.step s c).1 r

/-- a call's number, its whole numbers, whether it has a row, its row -/
def num : Ie10.Call → Nat
  | .page .. => 0 | .sharp _ => 1 | .like .. => 2 | .steps .. => 3 | .ins _ => 4 | .outs _ => 5 | .cut => 6 | .wide => 7 | .cost _ => 8 | .edge => 9 | .price .. => 10
def whl : Ie10.Call → List Nat
  | .page w h _ => [w, h] | .sharp k => [k] | .like c t => [c, t] | .steps c t => [c, t] | .price a b => [a, b] | _ => []
def hasR : Ie10.Call → Bool
  | .page .. => true | .ins _ => true | .outs _ => true | .cost _ => true | _ => false
def rowOf : Ie10.Call → List Nat
  | .page _ _ l => l | .ins l => l | .outs l => l | .cost l => l | _ => []
theorem enc_parts (c : Ie10.Call) : enc c = num c :: (whl c ++ if hasR c then (rowOf c).length :: rowOf c else []) := by
  cases c <;> rfl
theorem row_none {c : Ie10.Call} (h : hasR c = false) : rowOf c = [] := by
  cases c <;> first | rfl | cases h

theorem callOf_iz {l : List Nat} (h : ∀ x, x ∈ l → x ≤ 4294967295) : Ie10Neutral.callOf (iz l) = Ie10Neutral.callIn l := by
  unfold Ie10Neutral.callOf
  have e : (iz l).all Ie10Neutral.nat = true := by
    rw [List.all_eq_true]
    intro x hx
    obtain ⟨n, hn, rfl⟩ := List.mem_map.mp hx
    have := h n hn
    unfold Ie10Neutral.nat
    rw [Bool.and_eq_true]
    exact ⟨decide_eq_true (by omega), decide_eq_true (by have : (2 : Int) ^ 32 = 4294967296 := by decide
                                                         omega)⟩
  rw [if_neg (by rw [e]; exact Bool.noConfusion)]
  congr 1
  unfold iz
  rw [List.map_map]
  conv => rhs; rw [← List.map_id l]
  exact List.map_congr_left fun x _ => by show Int.toNat (x : Int) = x; omega

theorem one_call {c : List (List Int)} (hc : PyFlat.okCall PyIe10.shape c) (hb : PyInside.call PyIe10.bound c = true) (hn : ∀ x, x ∈ PyFlat.put1 c → 0 ≤ x ∧ x ≤ 4294967295) :
    ∃ ic : Ie10.Call, PyFlat.put1 c = iz (enc ic) ∧ Short ic ∧ Ie10Neutral.callOf ((PyIe10.whole c).headD []) = some ic := by
  obtain ⟨p, a, xs, rfl, hs⟩ := hc
  have ha0 : ∀ x, x ∈ a → 0 ≤ x := fun x hx => (hn x (by unfold PyFlat.put1; simp [hx])).1
  obtain ⟨ma, rfl⟩ := iz_of ha0
  have hma : ∀ x, x ∈ ma → x ≤ 4294967295 := fun x hx => by
    have := (hn (x : Int) (by unfold PyFlat.put1; exact List.mem_append_left _ (List.mem_cons_of_mem _ (List.mem_map.mpr ⟨x, hx, rfl⟩)))).2
    omega
  -- a row
  have row : ∀ r : List Int, xs = [r] → ∃ m : List Nat, r = iz m ∧ ∀ x, x ∈ m → x ≤ 4294967295 := by
    intro r e
    subst e
    have hr : ∀ x, x ∈ r → 0 ≤ x ∧ x ≤ 4294967295 := fun x hx => hn x (by unfold PyFlat.put1 PyFlat.putRows PyFlat.putRow; simp [hx])
    obtain ⟨m, rfl⟩ := iz_of fun x hx => (hr x hx).1
    refine ⟨m, rfl, fun x hx => ?_⟩
    have := (hr (x : Int) (List.mem_map.mpr ⟨x, hx, rfl⟩)).2
    omega
  have rowL : ∀ m : List Nat, PyFlat.putRows [iz m] = iz (m.length :: m) := by
    intro m
    unfold PyFlat.putRows PyFlat.putRow PyFlat.putRows iz
    simp
  have nil0 : ∀ {l : List Nat}, (iz l).length = 0 → l = [] := fun {l} h => List.eq_nil_of_length_eq_zero (by simpa [iz] using h)
  have nilx : xs.length = 0 → xs = [] := fun h => List.eq_nil_of_length_eq_zero h
  have one1 : ∀ {l : List Nat}, (iz l).length = 1 → ∃ x, l = [x] := fun {l} h => List.length_eq_one_iff.mp (by simpa [iz] using h)
  have onex : xs.length = 1 → ∃ r, xs = [r] := fun h => List.length_eq_one_iff.mp h
  have two2 : ∀ {l : List Nat}, (iz l).length = 2 → ∃ x y, l = [x, y] := fun {l} h => by
    have h : l.length = 2 := by simpa [iz] using h
    match l, h with
    | [x, y], _ => exact ⟨x, y, rfl⟩
  unfold PyIe10.shape at hs
  by_cases e0 : p = 0
  · subst e0
    have e := Option.some.inj hs
    obtain ⟨x, y, rfl⟩ := two2 (congrArg Prod.fst e).symm
    obtain ⟨r, rfl⟩ := onex (congrArg Prod.snd e).symm
    obtain ⟨m, rfl, hm⟩ := row r rfl
    refine ⟨.page x y m, ?_, ?_, ?_⟩
    · show _ ++ PyFlat.putRows [iz m] = _
      rw [rowL]; rfl
    · unfold PyInside.call at hb
      rw [Bool.and_eq_true] at hb
      have h2 := hb.2
      unfold PyIe10.bound PyInside.lists at h2
      simp only [if_true, Bool.and_eq_true, decide_eq_true_eq] at h2
      show m.length ≤ 30
      simpa [iz] using h2.1.1.2
    · exact (callOf_iz (l := 0 :: x :: y :: m) (by
        intro z hz
        rcases List.mem_cons.mp hz with rfl | hz
        · omega
        rcases List.mem_cons.mp hz with rfl | hz
        · exact hma _ (by simp)
        rcases List.mem_cons.mp hz with rfl | hz
        · exact hma _ (by simp)
        · exact hm z hz)).trans rfl
  rw [if_neg e0] at hs
  by_cases e1 : p = 1
  · subst e1
    have e := Option.some.inj hs
    obtain ⟨x, rfl⟩ := one1 (congrArg Prod.fst e).symm
    have := nilx (congrArg Prod.snd e).symm
    subst this
    refine ⟨.sharp x, rfl, trivial, ?_⟩
    exact (callOf_iz (l := [1, x]) (by
      intro z hz
      rcases List.mem_cons.mp hz with rfl | hz
      · omega
      · exact hma z hz)).trans rfl
  rw [if_neg e1] at hs
  by_cases e2 : p = 2
  · subst e2
    have e := Option.some.inj hs
    obtain ⟨x, y, rfl⟩ := two2 (congrArg Prod.fst e).symm
    have := nilx (congrArg Prod.snd e).symm
    subst this
    refine ⟨.like x y, rfl, trivial, ?_⟩
    exact (callOf_iz (l := [2, x, y]) (by
      intro z hz
      rcases List.mem_cons.mp hz with rfl | hz
      · omega
      · exact hma z hz)).trans rfl
  rw [if_neg e2] at hs
  by_cases e3 : p = 3
  · subst e3
    have e := Option.some.inj hs
    obtain ⟨x, y, rfl⟩ := two2 (congrArg Prod.fst e).symm
    have := nilx (congrArg Prod.snd e).symm
    subst this
    refine ⟨.steps x y, rfl, trivial, ?_⟩
    exact (callOf_iz (l := [3, x, y]) (by
      intro z hz
      rcases List.mem_cons.mp hz with rfl | hz
      · omega
      · exact hma z hz)).trans rfl
  rw [if_neg e3] at hs
  by_cases e4 : p = 4
  · subst e4
    have e := Option.some.inj hs
    have := nil0 (congrArg Prod.fst e).symm
    subst this
    obtain ⟨r, rfl⟩ := onex (congrArg Prod.snd e).symm
    obtain ⟨m, rfl, hm⟩ := row r rfl
    refine ⟨.ins m, ?_, ?_, ?_⟩
    · show _ ++ PyFlat.putRows [iz m] = _
      rw [rowL]; rfl
    · unfold PyInside.call at hb
      rw [Bool.and_eq_true] at hb
      have h2 := hb.2
      have h3 : PyInside.lists [(0, 4294967295, 0, 30)] [iz m] = true := h2
      unfold PyInside.lists at h3
      simp only [Bool.and_eq_true, decide_eq_true_eq] at h3
      show m.length ≤ 30
      simpa [iz] using h3.1.1.2
    · exact (callOf_iz (l := 4 :: m) (by
        intro z hz
        rcases List.mem_cons.mp hz with rfl | hz
        · omega
        · exact hm z hz)).trans rfl
  rw [if_neg e4] at hs
  by_cases e5 : p = 5
  · subst e5
    have e := Option.some.inj hs
    have := nil0 (congrArg Prod.fst e).symm
    subst this
    obtain ⟨r, rfl⟩ := onex (congrArg Prod.snd e).symm
    obtain ⟨m, rfl, hm⟩ := row r rfl
    refine ⟨.outs m, ?_, ?_, ?_⟩
    · show _ ++ PyFlat.putRows [iz m] = _
      rw [rowL]; rfl
    · unfold PyInside.call at hb
      rw [Bool.and_eq_true] at hb
      have h2 := hb.2
      have h3 : PyInside.lists [(0, 4294967295, 0, 30)] [iz m] = true := h2
      unfold PyInside.lists at h3
      simp only [Bool.and_eq_true, decide_eq_true_eq] at h3
      show m.length ≤ 30
      simpa [iz] using h3.1.1.2
    · exact (callOf_iz (l := 5 :: m) (by
        intro z hz
        rcases List.mem_cons.mp hz with rfl | hz
        · omega
        · exact hm z hz)).trans rfl
  rw [if_neg e5] at hs
  by_cases e6 : p = 6
  · subst e6
    have e := Option.some.inj hs
    have := nil0 (congrArg Prod.fst e).symm
    subst this
    have := nilx (congrArg Prod.snd e).symm
    subst this
    exact ⟨.cut, rfl, trivial, (callOf_iz (l := [6]) (by simp)).trans rfl⟩
  rw [if_neg e6] at hs
  by_cases e7 : p = 7
  · subst e7
    have e := Option.some.inj hs
    have := nil0 (congrArg Prod.fst e).symm
    subst this
    have := nilx (congrArg Prod.snd e).symm
    subst this
    exact ⟨.wide, rfl, trivial, (callOf_iz (l := [7]) (by simp)).trans rfl⟩
  rw [if_neg e7] at hs
  by_cases e8 : p = 8
  · subst e8
    have e := Option.some.inj hs
    have := nil0 (congrArg Prod.fst e).symm
    subst this
    obtain ⟨r, rfl⟩ := onex (congrArg Prod.snd e).symm
    obtain ⟨m, rfl, hm⟩ := row r rfl
    refine ⟨.cost m, ?_, ?_, ?_⟩
    · show _ ++ PyFlat.putRows [iz m] = _
      rw [rowL]; rfl
    · unfold PyInside.call at hb
      rw [Bool.and_eq_true] at hb
      have h2 := hb.2
      have h3 : PyInside.lists [(0, 4294967295, 0, 30)] [iz m] = true := h2
      unfold PyInside.lists at h3
      simp only [Bool.and_eq_true, decide_eq_true_eq] at h3
      show m.length ≤ 30
      simpa [iz] using h3.1.1.2
    · exact (callOf_iz (l := 8 :: m) (by
        intro z hz
        rcases List.mem_cons.mp hz with rfl | hz
        · omega
        · exact hm z hz)).trans rfl
  rw [if_neg e8] at hs
  by_cases e9 : p = 9
  · subst e9
    have e := Option.some.inj hs
    have := nil0 (congrArg Prod.fst e).symm
    subst this
    have := nilx (congrArg Prod.snd e).symm
    subst this
    exact ⟨.edge, rfl, trivial, (callOf_iz (l := [9]) (by simp)).trans rfl⟩
  rw [if_neg e9] at hs
  by_cases e10 : p = 10
  · subst e10
    have e := Option.some.inj hs
    obtain ⟨x, y, rfl⟩ := two2 (congrArg Prod.fst e).symm
    have := nilx (congrArg Prod.snd e).symm
    subst this
    refine ⟨.price x y, rfl, trivial, ?_⟩
    exact (callOf_iz (l := [10, x, y]) (by
      intro z hz
      rcases List.mem_cons.mp hz with rfl | hz
      · omega
      · exact hma z hz)).trans rfl
  rw [if_neg e10] at hs
  cases hs

theorem all_calls : ∀ (raw : List (List (List Int))) (s : Ie10.St), (∀ c, c ∈ raw → PyFlat.okCall PyIe10.shape c) → (∀ c, c ∈ raw → PyInside.call PyIe10.bound c = true) →
    (∀ x, x ∈ PyFlat.put raw → 0 ≤ x ∧ x ≤ 4294967295) →
    ∃ cs : List Ie10.Call, PyFlat.put raw = iz (cs.flatMap enc) ∧ (∀ c, c ∈ cs → Short c) ∧ cs.length = raw.length ∧
      PyFlat.told (PyFlat.played (fun s c => Ie10Neutral.step s (c.headD [])) s (raw.map PyIe10.whole)) = tell s cs
  | [], s, _, _, _ => ⟨[], rfl, fun c hc => (by cases hc), rfl, rfl⟩
  | c :: raw, s, ho, hb, hn => by
    have hp : PyFlat.put (c :: raw) = PyFlat.put1 c ++ PyFlat.put raw := rfl
    rw [hp] at hn
    obtain ⟨ic, e1, h1, e2⟩ := one_call (ho c List.mem_cons_self) (hb c List.mem_cons_self) (fun x hx => hn x (List.mem_append_left _ hx))
    obtain ⟨cs, e3, h3, hl, e4⟩ := all_calls raw (Ie10.step s ic).1 (fun d hd => ho d (List.mem_cons_of_mem _ hd)) (fun d hd => hb d (List.mem_cons_of_mem _ hd)) (fun x hx => hn x (List.mem_append_right _ hx))
    have es : Ie10Neutral.step s ((PyIe10.whole c).headD []) = Ie10.step s ic := by
      unfold Ie10Neutral.step
      rw [e2]
    refine ⟨ic :: cs, ?_, ?_, by simp [hl], ?_⟩
    · rw [hp, e1, e3]
      simp [iz]
    · intro d hd
      rcases List.mem_cons.mp hd with rfl | hd
      · exact h1
      · exact h3 d hd
    · show ((Ie10Neutral.step s ((PyIe10.whole c).headD [])).2.length : Int) :: (Ie10Neutral.step s ((PyIe10.whole c).headD [])).2 ++
        PyFlat.told (PyFlat.played _ (Ie10Neutral.step s ((PyIe10.whole c).headD [])).1 (raw.map PyIe10.whole)) = _
      rw [es, e4]
      rfl

/-- **What is handed in is calls one behind another; what is due is what they're answered.** -/
theorem flat_calls {ns : List Int} (hn : ∀ x, x ∈ ns → 0 ≤ x ∧ x ≤ 4294967295) (ha : PyIe10.answers_asked ns = true) :
    ∃ cs : List Ie10.Call, ns = iz (cs.flatMap enc) ∧ (∀ c, c ∈ cs → Short c) ∧ cs.length ≤ 40 ∧ PyIe10.answers ns = tell Ie10.init cs ∧ (PyIe10.answers ns).length ≤ 10000000 := by
  unfold PyIe10.answers_asked at ha
  cases e : PyFlat.calls PyIe10.shape ns.length ns with
  | none => rw [e] at ha; cases ha
  | some raw =>
    rw [e] at ha
    dsimp only at ha
    rw [Bool.and_eq_true, Bool.and_eq_true, Bool.and_eq_true, Bool.and_eq_true] at ha
    obtain ⟨⟨⟨⟨_, h40⟩, hin⟩, _⟩, hsh⟩ := ha
    obtain ⟨hp, ho⟩ := PyFlat.put_calls _ _ _ e
    have hb := List.all_eq_true.mp hin
    obtain ⟨cs, e1, h1, hl, e2⟩ := all_calls raw Ie10.init ho (fun c hc => hb c hc) (by rw [← hp]; exact hn)
    refine ⟨cs, hp.trans e1, h1, ?_, ?_, of_decide_eq_true hsh⟩
    · rw [hl]
      exact of_decide_eq_true h40
    · unfold PyIe10.answers PyIe10.calls
      rw [e]
      exact e2

end Cl
namespace Cl

theorem rising_pair : ∀ (l : List Nat), Ie10.rising l = true → l.Pairwise (· < ·)
  | [], _ => List.Pairwise.nil
  | [a], _ => List.pairwise_singleton _ _
  | a :: b :: l, h => by
    have h : (decide (a < b) && Ie10.rising (b :: l)) = true := h
    rw [Bool.and_eq_true, decide_eq_true_eq] at h
    have ih := rising_pair (b :: l) h.2
    refine List.pairwise_cons.mpr ⟨fun x hx => ?_, ih⟩
    rcases List.mem_cons.mp hx with rfl | hx
    · exact h.1
    · exact Nat.lt_trans h.1 ((List.pairwise_cons.mp ih).1 x hx)
theorem cells_pair {s : Ie10.St} {l : List Nat} (h : Ie10.isCells s l = true) : l.Pairwise (· < ·) := by
  unfold Ie10.isCells at h
  rw [Bool.and_eq_true] at h
  exact rising_pair l h.1
theorem cells_nodup {s : Ie10.St} {l : List Nat} (h : Ie10.isCells s l = true) : l.Nodup :=
  (cells_pair h).imp fun h => Nat.ne_of_lt h
theorem cells_lt {s : Ie10.St} {l : List Nat} (h : Ie10.isCells s l = true) : ∀ a, a ∈ l → a < s.n := by
  unfold Ie10.isCells at h
  rw [Bool.and_eq_true] at h
  intro a ha
  exact of_decide_eq_true (List.all_eq_true.mp h.2 a ha)
theorem range_pair {n : Nat} {l : List Nat} (h : l.Pairwise (· < ·)) (hl : ∀ a, a ∈ l → a < n) : l = (List.range n).filter fun a => l.contains a := by
  refine List.Perm.eq_of_pairwise (le := (· < ·)) (fun a b _ _ h1 h2 => absurd h1 (Nat.lt_asymm h2)) h (List.Pairwise.sublist List.filter_sublist List.pairwise_lt_range) ?_
  refine (List.perm_ext_iff_of_nodup (h.imp fun h => Nat.ne_of_lt h) (List.Nodup.sublist List.filter_sublist List.nodup_range)).mpr fun a => ?_
  rw [List.mem_filter, List.mem_range, List.contains_iff_mem]
  exact ⟨fun ha => ⟨hl a ha, ha⟩, fun ha => ha.2⟩

/-! What a region costs is what goes over its side. -/
def sumL (l : List Int) : Int := l.foldr (· + ·) 0
theorem sumL_app (a b : List Int) : sumL (a ++ b) = sumL a + sumL b := by
  induction a with
  | nil => simp [sumL]
  | cons x a ih =>
    show x + sumL (a ++ b) = x + sumL a + sumL b
    rw [ih]; omega
theorem foldl_sum : ∀ (l : List Nat) (z : Nat), ((l.foldl (fun a b => a + b) z : Nat) : Int) = z + sumL (l.map fun (n : Nat) => (n : Int))
  | [], z => by simp [sumL]
  | x :: l, z => by
    rw [List.foldl_cons, foldl_sum l (z + x)]
    show ((z + x : Nat) : Int) + _ = z + ((x : Int) + sumL _)
    omega
theorem sumL_range {f : Nat → Int} {p : Nat → Bool} : ∀ (n : Nat), sumL (((List.range n).filter p).map f) = sumTo n fun i => if p i then f i else 0
  | 0 => rfl
  | n + 1 => by
    rw [List.range_succ, List.filter_append, List.map_append, sumL_app, sumL_range n]
    show _ = _ + (if p n then f n else 0)
    cases h : p n
    · simp [h, sumL]
    · simp [h, sumL]
theorem sumL_flat {f : Nat → List Int} : ∀ (l : List Nat), sumL (l.flatMap f) = sumL (l.map fun a => sumL (f a))
  | [] => rfl
  | a :: l => by
    rw [List.flatMap_cons, sumL_app, sumL_flat l]
    rfl

/-- with cells told rising, what the specification calls its cost -/
theorem cost_cut {s : Ie10.St} {g : List Nat} (h : g.Pairwise (· < ·)) (hl : ∀ a, a ∈ g → a < s.n) :
    (Ie10.cost s g : Int) = cut s.n (Ie10.price s) (fun a => g.contains a) := by
  have e : (Ie10.cost s g : Int) = sumL (g.map fun a => sumTo s.n fun b => if (!g.contains b && Ie10.beside s a b) then (Ie10.price s a b : Int) else 0) := by
    unfold Ie10.cost Ie10.parted
    rw [foldl_sum, List.map_flatMap, List.map_flatMap, sumL_flat]
    show 0 + _ = _
    rw [Int.zero_add]
    congr 1
    refine List.map_congr_left fun a _ => ?_
    rw [List.map_map, List.map_map]
    exact sumL_range s.n
  rw [e]
  conv => lhs; rw [range_pair h hl]
  rw [sumL_range]
  unfold cut sum2
  have e2 : ∀ a, a ∈ ((List.range s.n).filter fun a => g.contains a) ↔ a ∈ g := fun a => by rw [← range_pair h hl]
  have e3 : ∀ a, ((List.range s.n).filter fun a => g.contains a).contains a = g.contains a := fun a => by rw [← range_pair h hl]
  refine sumTo_congr fun a ha => ?_
  by_cases hg : g.contains a = true
  · rw [if_pos hg]
    refine sumTo_congr fun b hb => ?_
    rw [e3]
    show _ = if (g.contains a && !g.contains b) = true then (Ie10.price s a b : Int) else 0
    rw [hg]
    cases hb' : g.contains b
    · cases hbs : Ie10.beside s a b
      · have : Ie10.price s a b = 0 := by unfold Ie10.price; rw [hbs]; rfl
        simp [this]
      · simp
    · simp
  · rw [if_neg hg]
    have hg := Bool.eq_false_iff.mpr hg
    have : (sumTo s.n fun b => if (g.contains a && !g.contains b) = true then (Ie10.price s a b : Int) else 0) = sumTo s.n fun _ => 0 := by
      refine sumTo_congr fun b _ => ?_
      rw [hg]
      rfl
    rw [this, sumTo_const]
    simp

end Cl
namespace Cl
open Ie10 (St Left left)

/-! Ways, pair by pair, from behind. -/
theorem lastD_snoc : ∀ (l : List Nat) (a c : Nat), lastD a (l ++ [c]) = c
  | [], _, _ => rfl
  | b :: l, _, c => lastD_snoc l b c
theorem pairs_snoc : ∀ (l : List Nat) (a c : Nat), Ie10.pairs ((a :: l) ++ [c]) = Ie10.pairs (a :: l) ++ [(lastD a l, c)]
  | [], _, _ => rfl
  | b :: l, a, c => by
    show Ie10.pairs (a :: b :: (l ++ [c])) = Ie10.pairs (a :: b :: l) ++ [(lastD b l, c)]
    rw [pairs_cons2, pairs_cons2, List.cons_append]
    have := pairs_snoc l b c
    rw [← this]
    rfl

theorem key_uniq : ∀ (m : List (Nat × Nat)), (keys m).Nodup → ∀ {x y : Nat × Nat}, x ∈ m → y ∈ m → x.1 = y.1 → x = y
  | [], _, _, _, hx, _, _ => by cases hx
  | z :: m, nd, x, y, hx, hy, e => by
    have nd := List.nodup_cons.mp nd
    rcases List.mem_cons.mp hx with rfl | hx1
    · rcases List.mem_cons.mp hy with rfl | hy1
      · rfl
      · exact absurd (List.mem_map.mpr ⟨y, hy1, e.symm⟩) nd.1
    · rcases List.mem_cons.mp hy with rfl | hy1
      · exact absurd (List.mem_map.mpr ⟨x, hx1, e⟩ : y.1 ∈ m.map (·.1)) nd.1
      · exact key_uniq m nd.2 hx1 hy1 e

/-- one step back -/
theorem trace_step {n : Nat} {R : Nat → Nat → Nat} {ins : List Nat} {m : List (Nat × Nat)} {d : Nat → Nat} (h : Bfs n R ins m d) {k c : Nat} {x : Nat × Nat}
    (hx : x ∈ m) (e : x.1 = c) (hk : d c < k + 1) :
    (x.2 = c → Ie10.trace m (k + 1) c = [c]) ∧
    (x.2 ≠ c → d x.2 < k ∧ d c = d x.2 + 1 ∧ x.2 ∈ keys m ∧ (Ie10.pairs (Ie10.trace m (k + 1) c)).reverse = (x.2, c) :: (Ie10.pairs (Ie10.trace m k x.2)).reverse) := by
  have hf : m.find? (fun y => y.1 == c) = some x := by
    cases hf : m.find? (fun y => y.1 == c) with
    | none => exact absurd (List.find?_eq_none.mp hf x hx) (by simp [e])
    | some y =>
      have hy := List.mem_of_find?_eq_some hf
      have ey : y.1 = c := by simpa using List.find?_some hf
      rw [key_uniq m h.nd hy hx (ey.trans e.symm)]
  have ht : Ie10.trace m (k + 1) c = if x.2 = c then [c] else Ie10.trace m k x.2 ++ [c] := by
    show (match m.find? fun x => x.1 == c with
      | none => []
      | some x => if x.2 = c then [c] else Ie10.trace m k x.2 ++ [c]) = _
    rw [hf]
  refine ⟨fun hc => by rw [ht, if_pos hc], fun hc => ?_⟩
  cases h.tree x hx with
  | inl t => exact absurd (t.1.trans e) hc
  | inr t =>
    have hd : d c = d x.2 + 1 := e ▸ t.2.2.2
    refine ⟨by omega, hd, t.1, ?_⟩
    rw [ht, if_neg hc]
    obtain ⟨a, l, e2, _, hl, _⟩ := trace_ok h k x.2 t.1 (by omega)
    rw [e2, pairs_snoc, hl, List.reverse_append]
    rfl

/-! Sending along pairs that don't meet. -/
def Off (x y : Nat × Nat) : Prop := ¬(x.1 = y.1 ∧ x.2 = y.2) ∧ ¬(x.1 = y.2 ∧ x.2 = y.1)
theorem Off.symm {x y : Nat × Nat} (h : Off x y) : Off y x := ⟨fun z => h.1 ⟨z.1.symm, z.2.symm⟩, fun z => h.2 ⟨z.2.symm, z.1.symm⟩⟩
theorem send_at {k : Nat} : ∀ (ps : List (Nat × Nat)) (R : Nat → Nat → Nat), ps.Pairwise Off → (∀ x, x ∈ ps → x.1 ≠ x.2) →
    ∀ a b, sendF R ps k a b = if (a, b) ∈ ps then R a b - k else if (b, a) ∈ ps then R a b + k else R a b
  | [], R, _, _, a, b => by simp [sendF]
  | x :: ps, R, hp, hn, a, b => by
    show sendF (aug R x.1 x.2 k) ps k a b = _
    rw [send_at ps _ (List.pairwise_cons.mp hp).2 (fun y hy => hn y (List.mem_cons_of_mem _ hy))]
    have hx := (List.pairwise_cons.mp hp).1
    have hxn := hn x List.mem_cons_self
    by_cases h1 : (a, b) = x
    · subst h1
      have n1 : (a, b) ∉ ps := fun z => (hx _ z).1 ⟨rfl, rfl⟩
      have n2 : (b, a) ∉ ps := fun z => (hx _ z).2 ⟨rfl, rfl⟩
      rw [if_neg n1, if_neg n2, if_pos List.mem_cons_self]
      exact aug_fwd hxn
    · by_cases h2 : (b, a) = x
      · subst h2
        have n1 : (a, b) ∉ ps := fun z => (hx _ z).2 ⟨rfl, rfl⟩
        have n2 : (b, a) ∉ ps := fun z => (hx _ z).1 ⟨rfl, rfl⟩
        have n3 : (a, b) ∉ (b, a) :: ps := fun z => (List.mem_cons.mp z).elim h1 n1
        rw [if_neg n1, if_neg n2, if_neg n3, if_pos List.mem_cons_self]
        exact aug_back
      · have e : aug R x.1 x.2 k a b = R a b := aug_other (fun z => h1 (Prod.ext z.1 z.2)) (fun z => h2 (Prod.ext z.2 z.1))
        have m1 : ((a, b) ∈ x :: ps) ↔ (a, b) ∈ ps := ⟨fun z => (List.mem_cons.mp z).elim (fun q => absurd q h1) id, List.mem_cons_of_mem _⟩
        have m2 : ((b, a) ∈ x :: ps) ↔ (b, a) ∈ ps := ⟨fun z => (List.mem_cons.mp z).elim (fun q => absurd q h2) id, List.mem_cons_of_mem _⟩
        simp only [e, m1, m2]

theorem send_rev {k : Nat} {ps : List (Nat × Nat)} {R : Nat → Nat → Nat} (hp : ps.Pairwise Off) (hn : ∀ x, x ∈ ps → x.1 ≠ x.2) : sendF R ps.reverse k = sendF R ps k := by
  funext a b
  rw [send_at ps R hp hn, send_at ps.reverse R (List.pairwise_reverse.mpr (hp.imp fun h => h.symm)) (fun x hx => hn x (List.mem_reverse.mp hx))]
  simp only [List.mem_reverse]

theorem up_off {d : Nat → Nat} : ∀ {w : List Nat}, Chn (fun a b => d b = d a + 1) w → (Ie10.pairs w).Pairwise Off ∧ ∀ x, x ∈ Ie10.pairs w → x.1 ≠ x.2
  | [], _ => ⟨List.Pairwise.nil, fun _ h => by cases h⟩
  | [_], _ => ⟨List.Pairwise.nil, fun _ h => by cases h⟩
  | u :: v :: l, h => by
    have ih := up_off h.2
    rw [pairs_cons2]
    have hd := h.1
    refine ⟨List.pairwise_cons.mpr ⟨fun y hy => ?_, ih.1⟩, fun x hx => ?_⟩
    · have := up_pairs h.2 y hy
      constructor
      · rintro ⟨e, f⟩; have e' := congrArg d e; have f' := congrArg d f; dsimp only at e' f'; omega
      · rintro ⟨e, f⟩; have e' := congrArg d e; have f' := congrArg d f; dsimp only at e' f'; omega
    · rcases List.mem_cons.mp hx with rfl | hx
      · intro e; have e' := congrArg d e; dsimp only at e'; omega
      · exact ih.2 x hx

/-! The flow, round by round. -/
theorem flow_none {s : St} {r : Left} (h : Ie10.wayThrough s r = none) : ∀ k, (Ie10.flow s k r).2 = r
  | 0 => rfl
  | k + 1 => by unfold Ie10.flow; rw [h]
theorem flow_some {s : St} {r : Left} {p : List Nat} (h : Ie10.wayThrough s r = some p) (k : Nat) :
    (Ie10.flow s (k + 1) r).2 = (Ie10.flow s k (Ie10.send r (Ie10.pairs p) (Ie10.leastOf r (Ie10.pairs p)))).2 := by
  conv => lhs; unfold Ie10.flow
  rw [h]

/-- what a way with room is, and what sending along it leaves -/
structure WayOk (s : St) (r : Left) (ps : List (Nat × Nat)) (k : Nat) (r' : Left) : Prop where
  ne : ps ≠ []
  lt : ∀ x, x ∈ ps → x.1 < s.n ∧ x.2 < s.n ∧ bes s.w x.1 x.2 = true ∧ k ≤ left r x.1 x.2
  off : ps.Pairwise Off
  nn : ∀ x, x ∈ ps → x.1 ≠ x.2
  least : ∃ x, x ∈ ps ∧ k = left r x.1 x.2
  eq : left r' = sendF (left r) ps k
  shape : Shape s.n r'
  sup : Sup s.w r'

theorem way_ok {s : St} (g : Seeds s) {r : Left} (hs : Shape s.n r) (hsup : Sup s.w r) {p : List Nat} (h : Ie10.wayThrough s r = some p) :
    WayOk s r (Ie10.pairs p).reverse (Ie10.leastOf r (Ie10.pairs p)) (Ie10.send r (Ie10.pairs p) (Ie10.leastOf r (Ie10.pairs p))) := by
  obtain ⟨d, hb⟩ := from_bfs (n := s.n) (r := r) g.insN g.insL
  obtain ⟨a, l, e, ha, hl, hw, hne⟩ := way_some g rfl hb h
  have hlo := leastOf_ok (r := r) hne
  generalize Ie10.leastOf r (Ie10.pairs p) = k at hlo ⊢
  obtain ⟨hmin, y, hy, hyk⟩ := hlo
  have hup : Chn (fun a b => d b = d a + 1) p := chn_mono (fun _ _ h => h.2.2.2) hw
  have hoff := up_off hup
  have hsl := send_left (k := k) (Ie10.pairs p) r hs (fun x hx => ⟨(chn_pairs hw x hx).1, (chn_pairs hw x hx).2.1⟩)
  refine ⟨by simpa using hne, fun x hx => ?_, List.pairwise_reverse.mpr (hoff.1.imp fun h => h.symm), fun x hx => hoff.2 x (List.mem_reverse.mp hx), ⟨y, List.mem_reverse.mpr hy, hyk⟩, ?_, hsl.1, ?_⟩
  · have hx := List.mem_reverse.mp hx
    have := chn_pairs hw x hx
    exact ⟨this.1, this.2.1, hsup _ _ this.2.2.1, hmin x hx⟩
  · rw [hsl.2, send_rev hoff.1 hoff.2]
  · intro a b hab
    rw [hsl.2, send_at _ _ hoff.1 hoff.2] at hab
    by_cases h1 : (a, b) ∈ Ie10.pairs p
    · exact hsup a b (chn_pairs hw (a, b) h1).2.2.1
    · rw [if_neg h1] at hab
      by_cases h2 : (b, a) ∈ Ie10.pairs p
      · rw [bes_comm]
        exact hsup b a (chn_pairs hw (b, a) h2).2.2.1
      · rw [if_neg h2] at hab
        exact hsup a b hab

theorem sup_full {s : St} : Sup s.w (Ie10.full s) := by
  intro a b h
  by_cases ha : a < s.n
  · by_cases hb : b < s.n
    · rw [left_full ha hb] at h
      exact price_pos_bes h
    · exfalso
      have hc := (shape_full (s := s)).cols a ha
      unfold left at h
      rw [List.getD_eq_getElem?_getD, List.getElem?_eq_none (by omega)] at h
      exact absurd h (by decide)
  · exfalso
    have hc := (shape_full (s := s)).rows
    unfold left at h
    rw [List.getD_eq_getElem?_getD (l := Ie10.full s), List.getElem?_eq_none (by omega)] at h
    simp at h

/-! The least and the greatest, from both sides. -/
def flip (s : St) : St := { s with ins := s.outs, outs := s.ins }
theorem price_comm {s : St} {a b : Nat} : Ie10.price s a b = Ie10.price s b a := by
  unfold Ie10.price
  have h1 : Ie10.beside s a b = Ie10.beside s b a := bes_comm s.w a b
  rw [h1, gap_comm (Ie10.val s a)]
theorem sumTo_swap (n : Nat) (F : Nat → Nat → Int) : ∀ m, sumTo m (fun a => sumTo n fun b => F a b) = sumTo n fun b => sumTo m fun a => F a b
  | 0 => by
    show (0 : Int) = sumTo n fun _ => 0
    rw [sumTo_const]
    simp
  | m + 1 => by
    show sumTo m (fun a => sumTo n fun b => F a b) + sumTo n (fun b => F m b) = sumTo n fun b => sumTo m (fun a => F a b) + F m b
    rw [sumTo_swap n F m, ← sumTo_add]
theorem cut_flip {n : Nat} {C : Nat → Nat → Nat} {S : Nat → Bool} (h : ∀ a b, C a b = C b a) : cut n C (fun a => !S a) = cut n C S := by
  unfold cut sum2
  rw [sumTo_swap]
  refine sumTo_congr fun a _ => sumTo_congr fun b _ => ?_
  rw [h b a]
  dsimp only
  rw [Bool.not_not, Bool.and_comm]
theorem Best.flip {n : Nat} {C : Nat → Nat → Nat} {ins outs : List Nat} {v : Int} {L G : Nat → Bool} (hC : ∀ a b, C a b = C b a) (h : Best n C ins outs v L G) :
    Best n C outs ins v (fun a => !G a) (fun a => !L a) := by
  have hv : ∀ S : Nat → Bool, Valid ins outs S → Valid outs ins fun a => !S a := fun S hS => ⟨fun a ha => by show (!S a) = true; rw [hS.2 a ha]; rfl, fun b hb => by show (!S b) = false; rw [hS.1 b hb]; rfl⟩
  have hv' : ∀ S : Nat → Bool, Valid outs ins S → Valid ins outs fun a => !S a := fun S hS => ⟨fun a ha => by show (!S a) = true; rw [hS.2 a ha]; rfl, fun b hb => by show (!S b) = false; rw [hS.1 b hb]; rfl⟩
  refine ⟨hv _ h.vG, hv _ h.vL, (cut_flip hC).trans h.cG, (cut_flip hC).trans h.cL, fun S hS => ?_, fun S hS e a ha => ?_⟩
  · rw [← cut_flip hC]
    exact h.low _ (hv' S hS)
  · have := h.between _ (hv' S hS) ((cut_flip hC).trans e) a ha
    cases hL : L a <;> cases hG : G a <;> cases hSa : S a <;> simp_all

theorem greatest_flip {s : St} (g : Seeds s) (g' : Seeds (flip s)) : (List.range s.n).filter (fun a => !(Ie10.least (flip s)).contains a) = Ie10.greatest s := by
  have b1 := (spec_best g).flip (fun _ _ => price_comm)
  have b2 : Best s.n (Ie10.price s) s.outs s.ins (Ie10.flowed (flip s)).1 (fun a => (Ie10.least (flip s)).contains a) (fun a => (Ie10.greatest (flip s)).contains a) := spec_best g'
  have e := (b1.same b2).2
  have hs : (Ie10.greatest s).Sublist (List.range s.n) := by
    unfold Ie10.greatest
    exact List.filter_sublist
  rw [sublist_range_eq hs]
  refine List.filter_congr fun a ha => ?_
  have := (e a (List.mem_range.mp ha)).1
  rw [← this, Bool.not_not]

theorem least_sub {s : St} : (Ie10.least s).Sublist (List.range s.n) := by
  unfold Ie10.least
  exact List.filter_sublist
theorem greatest_sub {s : St} : (Ie10.greatest s).Sublist (List.range s.n) := by
  unfold Ie10.greatest
  exact List.filter_sublist
theorem sub_pair {n : Nat} {l : List Nat} (h : l.Sublist (List.range n)) : l.Pairwise (· < ·) := List.Pairwise.sublist h List.pairwise_lt_range
theorem sub_lt {n : Nat} {l : List Nat} (h : l.Sublist (List.range n)) : ∀ a, a ∈ l → a < n := fun _ ha => List.mem_range.mp (h.subset ha)
theorem cost_least {s : St} (g : Seeds s) : Ie10.cost s (Ie10.least s) = (Ie10.flowed s).1 := by
  have := (cost_cut (s := s) (sub_pair least_sub) (sub_lt least_sub)).trans (spec_best g).cL
  exact Int.ofNat.inj this
theorem cost_greatest {s : St} (g : Seeds s) : Ie10.cost s (Ie10.greatest s) = (Ie10.flowed s).1 := by
  have := (cost_cut (s := s) (sub_pair greatest_sub) (sub_lt greatest_sub)).trans (spec_best g).cG
  exact Int.ofNat.inj this

/-- what is left at the end, and who is come to then -/
theorem least_keys {s : St} (g : Seeds s) {r : Left} (h : (Ie10.flowed s).2 = r) : (keys (Ie10.from_ r s.n s.ins)).Nodup ∧ (∀ x, x ∈ keys (Ie10.from_ r s.n s.ins) → x < s.n) ∧ ∀ x, x ∈ keys (Ie10.from_ r s.n s.ins) ↔ x ∈ Ie10.least s := by
  obtain ⟨d, hb⟩ := from_bfs (n := s.n) (r := r) g.insN g.insL
  refine ⟨hb.nd, hb.lt, fun a => ?_⟩
  unfold Ie10.least
  rw [h]
  dsimp only
  rw [List.mem_filter, List.mem_range, List.any_eq_true]
  constructor
  · intro h
    obtain ⟨x, hx, e⟩ := List.mem_map.mp h
    exact ⟨hb.lt a h, x, hx, by simpa using e⟩
  · rintro ⟨_, x, hx, e⟩
    exact List.mem_map.mpr ⟨x, hx, by simpa using e⟩

/-- the least number with a property -/
theorem least_ex {P : Nat → Prop} : ∀ k, P k → ∃ j, P j ∧ ∀ i, P i → j ≤ i := by
  intro k
  induction k using Nat.strongRecOn with
  | _ k ih =>
    intro h
    by_cases hz : ∃ i, i < k ∧ P i
    · obtain ⟨i, hi, hp⟩ := hz
      exact ih i hi hp
    · exact ⟨k, h, fun i hi => Nat.le_of_not_lt fun z => hz ⟨i, z, hi⟩⟩
open Classical in
noncomputable def lk (P : Nat → Prop) : Nat := if h : ∃ j, P j ∧ ∀ i, P i → j ≤ i then h.choose else 0
theorem lk_ok {P : Nat → Prop} {k : Nat} (h : P k) : P (lk P) ∧ ∀ i, P i → lk P ≤ i := by
  have hz := least_ex k h
  unfold lk
  rw [dif_pos hz]
  exact hz.choose_spec

end Cl
namespace Cl
open PySem PySem.Spec PyProof.Rows L2

def top (i : Nat) : Stmt := PySem.Challenge.pw_cutbylikeness_s01_answers.main.body.getD i (.Pass ⟨0, 0, 0, 0⟩)
abbrev s_Page_init : Stmt := inClass (top 20) 0
abbrev s_is_side : Stmt := top 21
abbrev s_is_cell : Stmt := top 22
abbrev s_are_rising_cells : Stmt := top 23
abbrev s_cells_beside : Stmt := top 24
abbrev s_difference : Stmt := top 25
abbrev s_cells_reached : Stmt := top 26
abbrev s_parting : Stmt := top 27
abbrev s_parted_pairs : Stmt := top 28
abbrev s_cost_of : Stmt := top 29
abbrev s_whole_room : Stmt := top 30
abbrev s_reached_through : Stmt := top 31
abbrev s_way_with_room : Stmt := top 32
abbrev s_lead_along : Stmt := top 33
abbrev s_least_region : Stmt := top 34
abbrev s_greatest_region : Stmt := top 35
abbrev s_put_page : Stmt := top 36
abbrev s_put_sharp : Stmt := top 37
abbrev s_choose : Stmt := top 38
abbrev s_seeds_answer : Stmt := top 39
abbrev s_put_within : Stmt := top 40
abbrev s_put_without : Stmt := top 41
abbrev s_tell_region : Stmt := top 42
abbrev s_tell_pairs : Stmt := top 43
abbrev s_tell_cheapest : Stmt := top 44
abbrev s_tell_cost : Stmt := top 45
abbrev s_tell_price : Stmt := top 46
abbrev s_answer_to : Stmt := top 47
abbrev s_answers : Stmt := top 48
theorem sc_Page_init : FnScope ["self"] ["self"] (defScope s_Page_init) := ⟨rfl, rfl, rfl, by decide +kernel, rfl, by decide +kernel, by decide +kernel⟩
theorem sc_is_side : FnScope ["length"] ["length"] (defScope s_is_side) := ⟨rfl, rfl, rfl, by decide +kernel, rfl, by decide +kernel, by decide +kernel⟩
theorem sc_is_cell : FnScope ["page", "cell"] ["page", "cell"] (defScope s_is_cell) := ⟨rfl, rfl, rfl, by decide +kernel, rfl, by decide +kernel, by decide +kernel⟩
theorem sc_are_rising_cells : FnScope ["page", "cells", "least", "cell"] ["page", "cells"] (defScope s_are_rising_cells) := ⟨rfl, rfl, rfl, by decide +kernel, rfl, by decide +kernel, by decide +kernel⟩
theorem sc_cells_beside : FnScope ["page", "cell", "column", "beside"] ["page", "cell"] (defScope s_cells_beside) := ⟨rfl, rfl, rfl, by decide +kernel, rfl, by decide +kernel, by decide +kernel⟩
theorem sc_difference : FnScope ["page", "one", "other"] ["page", "one", "other"] (defScope s_difference) := ⟨rfl, rfl, rfl, by decide +kernel, rfl, by decide +kernel, by decide +kernel⟩
theorem sc_cells_reached : FnScope ["page", "start", "bound", "by_steps", "reached", "waiting", "cell", "model", "other"] ["page", "start", "bound", "by_steps"] (defScope s_cells_reached) := ⟨rfl, rfl, rfl, by decide +kernel, rfl, by decide +kernel, by decide +kernel⟩
theorem sc_parting : FnScope ["page", "one", "other"] ["page", "one", "other"] (defScope s_parting) := ⟨rfl, rfl, rfl, by decide +kernel, rfl, by decide +kernel, by decide +kernel⟩
theorem sc_parted_pairs : FnScope ["page", "region", "pairs", "cell", "other"] ["page", "region"] (defScope s_parted_pairs) := ⟨rfl, rfl, rfl, by decide +kernel, rfl, by decide +kernel, by decide +kernel⟩
theorem sc_cost_of : FnScope ["page", "region", "one", "other"] ["page", "region"] (defScope s_cost_of) := ⟨rfl, rfl, rfl, by decide +kernel, rfl, by decide +kernel, by decide +kernel⟩
theorem sc_whole_room : FnScope ["page", "room", "cell", "to", "other"] ["page"] (defScope s_whole_room) := ⟨rfl, rfl, rfl, by decide +kernel, rfl, by decide +kernel, by decide +kernel⟩
theorem sc_reached_through : FnScope ["room", "starts", "before", "cell", "waiting", "at", "other"] ["room", "starts"] (defScope s_reached_through) := ⟨rfl, rfl, rfl, by decide +kernel, rfl, by decide +kernel, by decide +kernel⟩
theorem sc_way_with_room : FnScope ["room", "starts", "ends", "before", "reached", "pairs", "cell"] ["room", "starts", "ends"] (defScope s_way_with_room) := ⟨rfl, rfl, rfl, by decide +kernel, rfl, by decide +kernel, by decide +kernel⟩
theorem sc_lead_along : FnScope ["room", "way", "much", "one", "other"] ["room", "way"] (defScope s_lead_along) := ⟨rfl, rfl, rfl, by decide +kernel, rfl, by decide +kernel, by decide +kernel⟩
theorem sc_least_region : FnScope ["page", "own_seeds", "other_seeds", "room", "way"] ["page", "own_seeds", "other_seeds"] (defScope s_least_region) := ⟨rfl, rfl, rfl, by decide +kernel, rfl, by decide +kernel, by decide +kernel⟩
theorem sc_greatest_region : FnScope ["page", "left_out", "cell"] ["page"] (defScope s_greatest_region) := ⟨rfl, rfl, rfl, by decide +kernel, rfl, by decide +kernel, by decide +kernel⟩
theorem sc_put_page : FnScope ["page", "columns", "rows", "numbers", "number"] ["page", "columns", "rows", "numbers"] (defScope s_put_page) := ⟨rfl, rfl, rfl, by decide +kernel, rfl, by decide +kernel, by decide +kernel⟩
theorem sc_put_sharp : FnScope ["page", "sharp"] ["page", "sharp"] (defScope s_put_sharp) := ⟨rfl, rfl, rfl, by decide +kernel, rfl, by decide +kernel, by decide +kernel⟩
theorem sc_choose : FnScope ["page", "start", "bound", "by_steps", "cells"] ["page", "start", "bound", "by_steps"] (defScope s_choose) := ⟨rfl, rfl, rfl, by decide +kernel, rfl, by decide +kernel, by decide +kernel⟩
theorem sc_seeds_answer : FnScope ["page", "cells", "other_side", "cell"] ["page", "cells", "other_side"] (defScope s_seeds_answer) := ⟨rfl, rfl, rfl, by decide +kernel, rfl, by decide +kernel, by decide +kernel⟩
theorem sc_put_within : FnScope ["page", "cells", "answer"] ["page", "cells"] (defScope s_put_within) := ⟨rfl, rfl, rfl, by decide +kernel, rfl, by decide +kernel, by decide +kernel⟩
theorem sc_put_without : FnScope ["page", "cells", "answer"] ["page", "cells"] (defScope s_put_without) := ⟨rfl, rfl, rfl, by decide +kernel, rfl, by decide +kernel, by decide +kernel⟩
theorem sc_tell_region : FnScope ["page", "region"] ["page", "region"] (defScope s_tell_region) := ⟨rfl, rfl, rfl, by decide +kernel, rfl, by decide +kernel, by decide +kernel⟩
theorem sc_tell_pairs : FnScope ["pairs", "told", "one", "other"] ["pairs"] (defScope s_tell_pairs) := ⟨rfl, rfl, rfl, by decide +kernel, rfl, by decide +kernel, by decide +kernel⟩
theorem sc_tell_cheapest : FnScope ["page", "call", "region"] ["page", "call"] (defScope s_tell_cheapest) := ⟨rfl, rfl, rfl, by decide +kernel, rfl, by decide +kernel, by decide +kernel⟩
theorem sc_tell_cost : FnScope ["page", "cells"] ["page", "cells"] (defScope s_tell_cost) := ⟨rfl, rfl, rfl, by decide +kernel, rfl, by decide +kernel, by decide +kernel⟩
theorem sc_tell_price : FnScope ["page", "one", "other"] ["page", "one", "other"] (defScope s_tell_price) := ⟨rfl, rfl, rfl, by decide +kernel, rfl, by decide +kernel, by decide +kernel⟩
theorem sc_answer_to : FnScope ["page", "call", "wholes", "row"] ["page", "call", "wholes", "row"] (defScope s_answer_to) := ⟨rfl, rfl, rfl, by decide +kernel, rfl, by decide +kernel, by decide +kernel⟩
theorem sc_answers : FnScope ["calls", "page", "given", "at", "call", "behind", "wholes", "row", "first", "answer"] ["calls"] (defScope s_answers) := ⟨rfl, rfl, rfl, by decide +kernel, rfl, by decide +kernel, by decide +kernel⟩

/-! The heap. -/
abbrev nv (l : List Nat) : List V := l.map fun (n : Nat) => V.int (n : Int)
def pF (w : Nat) (an : Addr) (k : Nat) (ai ao : Addr) : List (Str × V) :=
  [("columns", .int w), ("numbers", .ref an), ("sharp", .int k), ("within", .ref ai), ("without", .ref ao)]
theorem lk_here {k : Str} {v : V} {r : List (Str × V)} : List.lookup k ((k, v) :: r) = some v := by
  have e : (k == k) = true := beq_self_eq_true k
  simp only [List.lookup, e]
theorem lk_past {k g : Str} {v : V} {r : List (Str × V)} (h : (k == g) = false) : List.lookup k ((g, v) :: r) = List.lookup k r := by
  simp only [List.lookup, h]
section
variable {w k : Nat} {an ai ao : Addr}
theorem pF_columns : (pF w an k ai ao).lookup ("columns" : Str) = some (.int w) := lk_here
theorem pF_numbers : (pF w an k ai ao).lookup ("numbers" : Str) = some (.ref an) := (lk_past (by decide +kernel)).trans lk_here
theorem pF_sharp : (pF w an k ai ao).lookup ("sharp" : Str) = some (.int k) := (lk_past (by decide +kernel)).trans ((lk_past (by decide +kernel)).trans lk_here)
theorem pF_within : (pF w an k ai ao).lookup ("within" : Str) = some (.ref ai) := (lk_past (by decide +kernel)).trans ((lk_past (by decide +kernel)).trans ((lk_past (by decide +kernel)).trans lk_here))
theorem pF_without : (pF w an k ai ao).lookup ("without" : Str) = some (.ref ao) := (lk_past (by decide +kernel)).trans ((lk_past (by decide +kernel)).trans ((lk_past (by decide +kernel)).trans ((lk_past (by decide +kernel)).trans lk_here)))
end
/-- what holds of a page between two calls -/
structure Good (s : Ie10.St) : Prop where
  w1 : 1 ≤ s.w
  w5 : s.w ≤ 5
  h1 : 1 ≤ s.h
  h5 : s.h ≤ 5
  len : s.v.length = s.w * s.h
  v255 : ∀ x, x ∈ s.v → x ≤ 255
  k1 : 1 ≤ s.sharp
  k255 : s.sharp ≤ 255
  insC : Ie10.isCells s s.ins = true
  outsC : Ie10.isCells s s.outs = true
  apart : ∀ a, a ∈ s.ins → a ∉ s.outs
structure PageAt (C : Addr) (H : Hp) (pg dx an ai ao : Addr) (s : Ie10.St) : Prop where
  obj : H pg = some (.ins C dx (pF s.w an s.sharp ai ao))
  num : H an = some (.lst (nv s.v))
  wi : H ai = some (.lst (nv s.ins))
  wo : H ao = some (.lst (nv s.outs))
  good : Good s
section
variable {C : Addr} {H H' : Hp} {pg dx an ai ao : Addr} {s : Ie10.St}
theorem PageAt.same (p : PageAt C H pg dx an ai ao s) (h : Same H H') : PageAt C H' pg dx an ai ao s :=
  ⟨h _ _ p.obj, h _ _ p.num, h _ _ p.wi, h _ _ p.wo, p.good⟩
theorem PageAt.w1 (p : PageAt C H pg dx an ai ao s) : 1 ≤ s.w := p.good.w1
theorem PageAt.w5 (p : PageAt C H pg dx an ai ao s) : s.w ≤ 5 := p.good.w5
theorem PageAt.h1 (p : PageAt C H pg dx an ai ao s) : 1 ≤ s.h := p.good.h1
theorem PageAt.h5 (p : PageAt C H pg dx an ai ao s) : s.h ≤ 5 := p.good.h5
theorem PageAt.len (p : PageAt C H pg dx an ai ao s) : s.v.length = s.w * s.h := p.good.len
theorem PageAt.n25 (p : PageAt C H pg dx an ai ao s) : s.v.length ≤ 25 := by
  rw [p.len]
  exact Nat.mul_le_mul p.w5 p.h5
end
def PgAt (C : Addr) (H : Hp) (pg : Addr) (s : Ie10.St) : Prop := ∃ dx an ai ao, PageAt C H pg dx an ai ao s
/-- the same, its lists lying elsewhere than at g -/
def PgOff (C g : Addr) (H : Hp) (pg : Addr) (s : Ie10.St) : Prop := ∃ dx an ai ao, PageAt C H pg dx an ai ao s ∧ an ≠ g ∧ ai ≠ g ∧ ao ≠ g
/-- all stands as it was, but what is at one place -/
def Keeps (pg : Addr) (H H' : Hp) : Prop := ∀ b o, H b = some o → b ≠ pg → H' b = some o

structure Txt (K : PySem.W.Frag) (mg : Str → Option Value) (C : Addr) : Prop where
  cl : Cls K C
  a_columns : NoAttr K C "columns"
  a_numbers : NoAttr K C "numbers"
  a_sharp : NoAttr K C "sharp"
  a_within : NoAttr K C "within"
  a_without : NoAttr K C "without"
  g_LONGEST_SIDE : ∃ t, mg "LONGEST_SIDE" = some (.int 5 t)
  g_GREATEST_NUMBER : ∃ t, mg "GREATEST_NUMBER" = some (.int 255 t)
  g_NO_PLACE : ∃ t, mg "NO_PLACE" = some (.int (-1) t)
  g_OUT_OF_BOUNDS : ∃ t, mg "OUT_OF_BOUNDS" = some (.int (-2) t)
  g_OTHER_SIDE : ∃ t, mg "OTHER_SIDE" = some (.int (-6) t)
  g_PAGE : ∃ t, mg "PAGE" = some (.int (0) t)
  g_SHARP : ∃ t, mg "SHARP" = some (.int (1) t)
  g_LIKE : ∃ t, mg "LIKE" = some (.int (2) t)
  g_STEPS : ∃ t, mg "STEPS" = some (.int (3) t)
  g_WITHIN : ∃ t, mg "WITHIN" = some (.int (4) t)
  g_WITHOUT : ∃ t, mg "WITHOUT" = some (.int (5) t)
  g_CUT : ∃ t, mg "CUT" = some (.int (6) t)
  g_WIDE : ∃ t, mg "WIDE" = some (.int (7) t)
  g_COST : ∃ t, mg "COST" = some (.int (8) t)
  g_PRICE : ∃ t, mg "PRICE" = some (.int (10) t)
  g_NO_SEEDS : ∃ t, mg "NO_SEEDS" = some (.int (-4) t)
  g_GREATEST_PARTING : ∃ t, mg "GREATEST_PARTING" = some (.int (255) t)
  n_len : mg "len" = none
  n_max : mg "max" = none
  n_min : mg "min" = none
  n_sum : mg "sum" = none
  n_range : mg "range" = none
  n_abs : mg "abs" = none
  n_list : mg "list" = none
  n_sorted : mg "sorted" = none
  g_Page : mg "Page" = some (.ref C)
  e_WHOLES : ∃ a, mg "WHOLES" = some (.ref a) ∧ ∀ H, SqT K H a ([2, 1, 2, 2, 0, 0, 0, 0, 0, 0, 2].map V.int)
  e_HAS_ROW : ∃ a, mg "HAS_ROW" = some (.ref a) ∧ ∀ H, SqT K H a ([true, false, false, false, true, true, false, false, true, false, false].map V.bl)

/-- a def that stands, and what it keeps -/
structure DefAt (P : Program) (w : World) (K : PySem.W.Frag) (mg : Str → Option Value) (base : Heap) (k : Nat) (name : Str) (ps : List Str) (sp : Sp) (f : Addr) (fd : FuncData) : Prop where
  ok : FnOk P w K mg base CX0 k f fd ps sp
  b : Binds K fd ps []
  g : mg name = some (.ref f)
  kp : PySem.W.keepIn K (.ref f) = true

theorem nv_get {l : List Nat} {i : Nat} {x : V} (h : (nv l)[i]? = some x) : ∃ c : Nat, l[i]? = some c ∧ x = .int (c : Int) := by
  rw [List.getElem?_map] at h
  cases e : l[i]? with
  | none => rw [e] at h; cases h
  | some c => rw [e] at h; exact ⟨c, rfl, (Option.some.inj h).symm⟩

theorem drop_of_get {α : Type} {l : List α} {i : Nat} {c : α} (h : l[i]? = some c) : l.drop i = c :: l.drop (i + 1) := by
  obtain ⟨hi, e⟩ := List.getElem?_eq_some_iff.mp h
  rw [List.drop_eq_getElem_cons hi, e]

theorem nv_len (l : List Nat) : (nv l).length = l.length := List.length_map ..

end Cl
namespace Cl
open PySem PySem.Spec PyProof.Rows L2
section
variable {P : Program} {w : World} {K : PySem.W.Frag} {mg : Str → Option Value} {base : Heap} {C : Addr}

def spIsSide : Sp := fun vs H Q _ => ∃ i : Nat, vs = [.int i] ∧ Q (.bl (decide (1 ≤ i ∧ i ≤ 5))) H
theorem ok_is_side {f : Addr} {fd : FuncData} (F : Fun K "is_side" "is_side" s_is_side f fd) (T : Txt K mg C) :
    FnOk P w K mg base CX0 1 f fd ["length"] spIsSide := by
  refine F.ok sc_is_side (fun vs H Q E h => ?_) (fun cdv A outer s H vs Q E hr h => ⟨_, (pss_one (ps_ret (pe_and (pe_cmpR op_le pe_int (pv 0) (nomark _)) (pe_one (pe_cmpR op_le (pv 0) (pe_glob (v := .int (5)) rfl (Exists.choose_spec T.g_LONGEST_SIDE) ⟨_, rfl⟩) (nomark _)))))), ?_⟩)
  · obtain ⟨i, rfl, _⟩ := h
    rfl
  · obtain ⟨i, rfl, k⟩ := h
    refine ⟨_, rfl, _, _, rfl, rfl, _, rfl, ite2 (fun h1 => ?_) (fun h1 => ?_)⟩
    · have h1 := of_decide_eq_true h1
      refine ⟨_, rfl, _, _, rfl, rfl, ?_⟩
      have e : decide (1 ≤ i ∧ i ≤ 5) = decide ((i : Int) ≤ 5) := decide_eq_decide.mpr (by omega)
      rw [e] at k
      exact k
    · have e : decide (1 ≤ i ∧ i ≤ 5) = false := decide_eq_false (by
        intro h
        exact h1 (decide_eq_true (by omega)))
      rw [e] at k
      exact k

def spIsCell (C : Addr) : Sp := fun vs H Q _ => ∃ (pg dx an ai ao : Addr) (s : Ie10.St) (c : Nat), vs = [.ref pg, .int c] ∧ PageAt C H pg dx an ai ao s ∧
  Q (.bl (decide (c < s.v.length))) H
theorem ok_is_cell {f : Addr} {fd : FuncData} (F : Fun K "is_cell" "is_cell" s_is_cell f fd) (T : Txt K mg C) :
    FnOk P w K mg base CX0 1 f fd ["page", "cell"] (spIsCell C) := by
  refine F.ok sc_is_cell (fun vs H Q E h => ?_) (fun cdv A outer s H vs Q E hr h => ⟨_, (pss_one (ps_ret (pe_cmpR op_lt (pv 1) (pe_callB call_len_seq (by rfl) T.n_len PySem.boot_len (pa_cons (pe_fld (pv 0) rfl) pa_nil)) (nomark _)))), ?_⟩)
  · obtain ⟨_, _, _, _, _, _, _, rfl, _⟩ := h
    rfl
  · obtain ⟨pg, dx, an, ai, ao, s, c, rfl, p, k⟩ := h
    refine ⟨_, rfl, _, rfl, pg, C, dx, _, _, rfl, p.obj, T.cl, T.a_numbers, pF_numbers, an, _, rfl, .inl (SqL.of p.num), _, _, rfl, rfl, ?_⟩
    have e : decide (c < s.v.length) = decide ((c : Int) < ((nv s.v).length : Int)) := decide_eq_decide.mpr (by rw [nv_len]; omega)
    rw [e] at k
    exact k

/-- from a least one on: below n, rising -/
def rf (n : Nat) : Nat → List Nat → Bool
  | _, [] => true
  | m, c :: r => if c < m ∨ ¬ c < n then false else rf n (c + 1) r

theorem rf_stop {n m c : Nat} {r : List Nat} (h : c < m ∨ ¬ c < n) : rf n m (c :: r) = false := if_pos h
theorem rf_go {n m c : Nat} {r : List Nat} (h : ¬ (c < m ∨ ¬ c < n)) : rf n m (c :: r) = rf n (c + 1) r := if_neg h
theorem rf_rising {n : Nat} : ∀ (l : List Nat) (m : Nat), rf n m l = (Ie10.rising l && (l.all fun a => decide (a < n)) && (match l with | [] => true | a :: _ => decide (m ≤ a)))
  | [], m => rfl
  | [a], m => by
    unfold rf
    by_cases h : a < m ∨ ¬ a < n
    · rw [if_pos h]
      simp [Ie10.rising]
      omega
    · rw [if_neg h]
      simp [Ie10.rising, rf]
      omega
  | a :: b :: l, m => by
    unfold rf
    rw [rf_rising (b :: l) (a + 1)]
    by_cases h : a < m ∨ ¬ a < n
    · rw [if_pos h]
      simp [Ie10.rising]
      omega
    · rw [if_neg h]
      have h1 : m ≤ a := by omega
      have h2 : a < n := by omega
      simp only [Ie10.rising, List.all_cons, h1, h2, decide_true, Bool.true_and, Bool.and_true]
      simp only [Nat.lt_iff_add_one_le]
      cases decide (a + 1 ≤ b) <;> simp

theorem rf_isCells {s : Ie10.St} {l : List Nat} (e : s.v.length = s.w * s.h) : rf s.v.length 0 l = Ie10.isCells s l := by
  rw [rf_rising]
  unfold Ie10.isCells Ie10.St.n
  rw [e]
  cases l <;> simp

def spRising (C : Addr) : Sp := fun vs H Q _ => ∃ (pg dx an ai ao : Addr) (s : Ie10.St) (ca : Addr) (l : List Nat), vs = [.ref pg, .ref ca] ∧ PageAt C H pg dx an ai ao s ∧
  H ca = some (.lst (nv l)) ∧ Q (.bl (Ie10.isCells s l)) H
theorem ok_rising {f f1 : Addr} {fd fd1 : FuncData} (F : Fun K "are_rising_cells" "are_rising_cells" s_are_rising_cells f fd) (T : Txt K mg C)
    (D_is_cell : DefAt P w K mg base 1 "is_cell" ["page", "cell"] (spIsCell C) f1 fd1) :
    FnOk P w K mg base CX0 2 f fd ["page", "cells"] (spRising C) := by
  refine F.ok sc_are_rising_cells (fun vs H Q E h => ?_) (fun cdv A outer s H vs Q E hr h => ⟨_, (pss_cons (ps_set (i := 2) sc_are_rising_cells.nd rfl (Or.inl rfl) pe_int)
 (pss_cons (ps_for PassesOwn.never rfl (pi_list (pv 1)) (pg_name (i := 3) sc_are_rising_cells.nd rfl (Or.inl rfl))
 (pss_cons (ps_if (PW.pt (pw_or (pt_cmpR op_lt (pv 3) (pv 2) (nomark _)) (pw_or1 (pt_not (pt_val (pe_call D_is_cell.ok (hr.mono (by decide)) rfl D_is_cell.g D_is_cell.kp D_is_cell.b .nil pass0 (pa_cons (pv 0) (pa_cons (pv 3) pa_nil))))))))
 (pss_one (ps_ret pe_bl))
 pss_nil)
 (pss_one (ps_set (i := 2) sc_are_rising_cells.nd rfl (Or.inl rfl) (pe_op op_add (pv 3) pe_int)))))
 (pss_one (ps_ret pe_bl)))), ?_⟩)
  · obtain ⟨_, _, _, _, _, _, _, _, rfl, _⟩ := h
    rfl
  · obtain ⟨pg, dx, an, ai, ao, s, ca, l, rfl, p, hc, k⟩ := h
    have hS : SqL K H ca (nv l) := SqL.of hc
    rw [← rf_isCells p.len] at k
    refine ⟨_, rfl, ca, rfl, ⟨_, hS⟩, for_list (K := K) (a := ca) (xs := nv l) (fun i σ H' => H' = H ∧ ∃ (m : Nat) (v : Option V), σ = [some (.ref pg), some (.ref ca), some (.int (m : Int)), v] ∧ rf s.v.length 0 l = rf s.v.length m (l.drop i))
      ⟨rfl, 0, none, rfl, rfl⟩ (fun i σ H' _ h => by rw [h.1]; exact hS) ?_ ?_⟩
    · rintro i x σ H' hi ⟨rfl, m, v, rfl, hm⟩
      obtain ⟨c, hc, rfl⟩ := nv_get hi
      rw [drop_of_get hc] at hm
      refine ⟨_, rfl, _, rfl, _, _, rfl, rfl, _, rfl, ite2 (fun h1 => ?_) (fun h1 => ?_)⟩
      · have h1 := of_decide_eq_true h1
        refine iteT ?_
        rw [rf_stop (Or.inl (by omega))] at hm
        rw [hm] at k
        exact k
      · have h1 : ¬ ((c : Int) < (m : Int)) := fun h => h1 (decide_eq_true h)
        refine ⟨_, rfl, _, rfl, pg, dx, an, ai, ao, s, c, rfl, p, _, rfl, ?_⟩
        by_cases h2 : c < s.v.length
        · rw [decide_eq_true h2]
          refine iteF ?_
          refine ⟨_, rfl, _, _, rfl, rfl, rfl, c + 1, _, rfl, ?_⟩
          rw [hm, rf_go (by omega)]
        · rw [decide_eq_false h2]
          refine iteT ?_
          rw [rf_stop (Or.inr h2)] at hm
          rw [hm] at k
          exact k
    · rintro σ H' ⟨rfl, m, v, rfl, hm⟩
      rw [nv_len, List.drop_length] at hm
      rw [hm] at k
      exact k
end
end Cl
namespace Cl
open PySem PySem.Spec PyProof.Rows L2

theorem upd_upd {H : Hp} {l : Addr} {o o' : HO} : upd (upd H l o) l o' = upd H l o' := by
  funext b
  by_cases e : b = l
  · subst e; rw [upd_same, upd_same]
  · rw [upd_ne e, upd_ne e, upd_ne e]
theorem upd_eq {H : Hp} {l : Addr} {o : HO} (h : H l = some o) : upd H l o = H := by
  funext b
  by_cases e : b = l
  · subst e; rw [upd_same, h]
  · rw [upd_ne e]
theorem same_upd {H : Hp} {l : Addr} {o : HO} (h : H l = none) : Same H (upd H l o) := fun b o' e => by
  rw [upd_ne (ne_of_none e h)]
  exact e
theorem at_slots {t : TS} {D : Ends} {σ σ' : L2.St} {H : Hp} (e : σ = σ') (h : t D σ' H) : t D σ H := e ▸ h
/-- if test: xs.append(e) -/
theorem app_if {K : PySem.W.Frag} {D : Ends} {σ : L2.St} {H : Hp} {l : Addr} {xs : List V} {x : V} {c : Prop} [Decidable c] {tt : TT} {e : TE} {i : Nat}
    (ht : ∀ Q : Bool → Hp → Prop, Q (decide c) H → tt σ H Q) (he : c → ∀ Q : V → Hp → Prop, Q x H → e σ H Q)
    (hs : σ[i]? = some (some (.ref l))) (hl : H l = some (.lst xs)) (hz : xs.length < sizeLine)
    {u : TS} (k : u D σ (upd H l (.lst (xs ++ if c then [x] else [])))) :
    tSeq (tIfS tt (tDrop (tBM K "list" rAppend (tVar i) (tCons e tNil))) tNext) u D σ H := by
  refine ht _ (ite2 (fun h => ?_) (fun h => ?_))
  · have h := of_decide_eq_true h
    rw [if_pos h] at k
    exact ⟨_, hs, .inl ⟨rfl, _, SqL.of hl⟩, he h _ ⟨l, xs, x, rfl, rfl, hl, hz, k⟩⟩
  · have h : ¬ c := fun h' => h (decide_eq_true h')
    rw [if_neg h, List.append_nil, upd_eq hl] at k
    exact k

section
variable {P : Program} {w : World} {K : PySem.W.Frag} {mg : Str → Option Value} {base : Heap} {C : Addr}

/-- the cells beside one, as the program tells them -/
def besL (w n c : Nat) : List Nat :=
  (((if w ≤ c then [c - w] else []) ++ (if 0 < c % w then [c - 1] else [])) ++ (if c % w + 1 < w then [c + 1] else [])) ++ (if c + w < n then [c + w] else [])

theorem nv_if {c : Prop} [Decidable c] {x : Nat} : nv (if c then [x] else []) = if c then [V.int (x : Int)] else [] := by
  by_cases h : c
  · rw [if_pos h, if_pos h]; rfl
  · rw [if_neg h, if_neg h]; rfl

def spBeside (C : Addr) : Sp := fun vs H Q _ => ∃ (pg dx an ai ao : Addr) (s : Ie10.St) (c : Nat), vs = [.ref pg, .int c] ∧ PageAt C H pg dx an ai ao s ∧
  ∀ (H' : Hp) (p : Addr), Same H H' → H p = none → H' p = some (.lst (nv (besL s.w s.v.length c))) → Q (.ref p) H'
theorem ok_beside {f : Addr} {fd : FuncData} (F : Fun K "cells_beside" "cells_beside" s_cells_beside f fd) (T : Txt K mg C) :
    FnOk P w K mg base CX0 1 f fd ["page", "cell"] (spBeside C) := by
  refine F.ok sc_cells_beside (fun vs H Q E h => ?_) (fun cdv A outer s H vs Q E hr h => ⟨_, (pss_cons (ps_set (i := 2) sc_cells_beside.nd rfl (Or.inl rfl) (pe_op op_modN (pv 1) (pe_fld (pv 0) rfl)))
 (pss_cons (ps_set (i := 3) sc_cells_beside.nd rfl (Or.inl rfl) (pe_lst pa_nil))
 (pss_cons (ps_if (pt_cmpR op_ge (pv 1) (pe_fld (pv 0) rfl) (nomark _))
 (pss_one (ps_expr (pe_bm PySem.F.plainAttrs_list PySem.F.slot_list_append PySem.F.type_list_append mt_append (pv 3) (pa_cons (pe_op op_sub (pv 1) (pe_fld (pv 0) rfl)) pa_nil))))
 pss_nil)
 (pss_cons (ps_if (pt_cmpR op_gt (pv 2) pe_int (nomark _))
 (pss_one (ps_expr (pe_bm PySem.F.plainAttrs_list PySem.F.slot_list_append PySem.F.type_list_append mt_append (pv 3) (pa_cons (pe_op op_sub (pv 1) pe_int) pa_nil))))
 pss_nil)
 (pss_cons (ps_if (pt_cmpR op_lt (pe_op op_add (pv 2) pe_int) (pe_fld (pv 0) rfl) (nomark _))
 (pss_one (ps_expr (pe_bm PySem.F.plainAttrs_list PySem.F.slot_list_append PySem.F.type_list_append mt_append (pv 3) (pa_cons (pe_op op_add (pv 1) pe_int) pa_nil))))
 pss_nil)
 (pss_cons (ps_if (pt_cmpR op_lt (pe_op op_add (pv 1) (pe_fld (pv 0) rfl)) (pe_callB call_len_seq (by rfl) T.n_len PySem.boot_len (pa_cons (pe_fld (pv 0) rfl) pa_nil)) (nomark _))
 (pss_one (ps_expr (pe_bm PySem.F.plainAttrs_list PySem.F.slot_list_append PySem.F.type_list_append mt_append (pv 3) (pa_cons (pe_op op_add (pv 1) (pe_fld (pv 0) rfl)) pa_nil))))
 pss_nil)
 (pss_one (ps_ret (pv 3))))))))), ?_⟩)
  · obtain ⟨_, _, _, _, _, _, _, rfl, _⟩ := h
    rfl
  · obtain ⟨pg, dx, an, ai, ao, s, c, rfl, p, k⟩ := h
    have w0 := p.w1
    refine ⟨_, rfl, _, rfl, pg, C, dx, _, _, rfl, p.obj, T.cl, T.a_columns, pF_columns, _, _, rfl, rfl, (by omega), (by show 0 ≤ sizeLine; decide), fun l hl => ?_⟩
    have hpg : pg ≠ l := ne_of_none p.obj hl
    have han : an ≠ l := ne_of_none p.num hl
    have em : Int.fmod (c : Int) (s.w : Int) = ((c % s.w : Nat) : Int) := by
      rw [Int.fmod_eq_emod_of_nonneg _ (by omega)]
      rfl
    have obj : ∀ o, upd H l o pg = some (.ins C dx (pF s.w an s.sharp ai ao)) := fun o => by rw [upd_ne hpg]; exact p.obj
    have num : ∀ o, upd H l o an = some (.lst (nv s.v)) := fun o => by rw [upd_ne han]; exact p.num
    dsimp only [gName]
    refine at_slots (σ' := [some (.ref pg), some (.int c), some (.int (Int.fmod (c : Int) (s.w : Int))), some (.ref l)]) rfl ?_
    rw [em]
    refine app_if (c := s.w ≤ c) (x := .int ((c - s.w : Nat) : Int)) (l := l) (xs := []) ?_ ?_ (by rfl) upd_same (by decide) ?_
    · intro Q h
      refine ⟨_, rfl, _, rfl, pg, C, dx, _, _, rfl, obj _, T.cl, T.a_columns, pF_columns, _, _, rfl, rfl, _, rfl, ?_⟩
      have e : decide (s.w ≤ c) = decide ((s.w : Int) ≤ (c : Int)) := decide_eq_decide.mpr (by omega)
      rw [e] at h
      exact h
    · intro hc Q h
      refine ⟨_, rfl, _, rfl, pg, C, dx, _, _, rfl, obj _, T.cl, T.a_columns, pF_columns, _, _, rfl, rfl, ?_⟩
      have e : ((c - s.w : Nat) : Int) = (c : Int) - (s.w : Int) := by omega
      rw [e] at h
      exact h
    rw [upd_upd, List.nil_append]
    refine app_if (c := 0 < c % s.w) (x := .int ((c - 1 : Nat) : Int)) (l := l) ?_ ?_ (by rfl) upd_same (small1000 (by split <;> simp)) ?_
    · intro Q h
      refine ⟨_, rfl, _, _, rfl, rfl, _, rfl, ?_⟩
      have e : decide (0 < c % s.w) = decide ((0 : Int) < ((c % s.w : Nat) : Int)) := decide_eq_decide.mpr (by omega)
      rw [e] at h
      exact h
    · intro hc Q h
      refine ⟨_, rfl, _, _, rfl, rfl, ?_⟩
      have h1 : c % s.w ≤ c := Nat.mod_le _ _
      have e : ((c - 1 : Nat) : Int) = (c : Int) - 1 := by omega
      rw [e] at h
      exact h
    rw [upd_upd]
    refine app_if (c := c % s.w + 1 < s.w) (x := .int ((c + 1 : Nat) : Int)) (l := l) ?_ ?_ (by rfl) upd_same (small1000 (by split <;> split <;> simp)) ?_
    · intro Q h
      refine ⟨_, rfl, _, _, rfl, rfl, _, rfl, pg, C, dx, _, _, rfl, obj _, T.cl, T.a_columns, pF_columns, _, _, rfl, rfl, _, rfl, ?_⟩
      have e : decide (c % s.w + 1 < s.w) = decide (((c % s.w : Nat) : Int) + 1 < (s.w : Int)) := decide_eq_decide.mpr (by omega)
      rw [e] at h
      exact h
    · intro hc Q h
      exact ⟨_, rfl, _, _, rfl, rfl, h⟩
    rw [upd_upd]
    refine app_if (c := c + s.w < s.v.length) (x := .int ((c + s.w : Nat) : Int)) (l := l) ?_ ?_ (by rfl) upd_same (small1000 (by split <;> split <;> split <;> simp)) ?_
    · intro Q h
      refine ⟨_, rfl, _, rfl, pg, C, dx, _, _, rfl, obj _, T.cl, T.a_columns, pF_columns, _, _, rfl, rfl, _, rfl, pg, C, dx, _, _, rfl, obj _, T.cl, T.a_numbers, pF_numbers, an, _, rfl, .inl (SqL.of (num _)), _, _, rfl, rfl, _, rfl, ?_⟩
      have e : decide (c + s.w < s.v.length) = decide ((c : Int) + (s.w : Int) < ((nv s.v).length : Int)) := decide_eq_decide.mpr (by rw [nv_len]; omega)
      rw [e] at h
      exact h
    · intro hc Q h
      exact ⟨_, rfl, _, rfl, pg, C, dx, _, _, rfl, obj _, T.cl, T.a_columns, pF_columns, _, _, rfl, rfl, h⟩
    rw [upd_upd]
    refine ⟨_, rfl, k _ l (same_upd hl) hl ?_⟩
    rw [upd_same]
    unfold besL
    simp only [nv, List.map_append]
    simp only [← nv_if]

/-- which cells these are -/
def besOk (w h : Nat) : Bool := (List.range (w * h)).all fun c => (List.range (w * h)).all fun b => (besL w (w * h) c).contains b == bes w c b
def besLt (w h : Nat) : Bool := (List.range (w * h)).all fun c => (besL w (w * h) c).all fun b => decide (b < w * h)
theorem besOk_all : (small5.all fun w => small5.all fun h => besOk w h && besLt w h) = true := by decide +kernel
theorem mem_small5 {w : Nat} (h1 : 1 ≤ w) (h5 : w ≤ 5) : w ∈ small5 := by
  have : w = 1 ∨ w = 2 ∨ w = 3 ∨ w = 4 ∨ w = 5 := by omega
  rcases this with rfl | rfl | rfl | rfl | rfl <;> decide
theorem mem_besL {w h c b : Nat} (w1 : 1 ≤ w) (w5 : w ≤ 5) (h1 : 1 ≤ h) (h5 : h ≤ 5) (hc : c < w * h) : b ∈ besL w (w * h) c ↔ b < w * h ∧ bes w c b = true := by
  have a := List.all_eq_true.mp (List.all_eq_true.mp besOk_all w (mem_small5 w1 w5)) h (mem_small5 h1 h5)
  rw [Bool.and_eq_true] at a
  have a1 := List.all_eq_true.mp a.1 c (List.mem_range.mpr hc)
  have a2 := List.all_eq_true.mp (List.all_eq_true.mp a.2 c (List.mem_range.mpr hc))
  constructor
  · intro hb
    have hb' := of_decide_eq_true (a2 b hb)
    have := List.all_eq_true.mp a1 b (List.mem_range.mpr hb')
    rw [List.contains_iff_mem.mpr hb] at this
    exact ⟨hb', by simpa using this⟩
  · rintro ⟨hb, e⟩
    have := List.all_eq_true.mp a1 b (List.mem_range.mpr hb)
    rw [e] at this
    exact List.contains_iff_mem.mp (by simpa using this)

def spDiff (C : Addr) : Sp := fun vs H Q _ => ∃ (pg dx an ai ao : Addr) (s : Ie10.St) (a b : Nat), vs = [.ref pg, .int a, .int b] ∧ PageAt C H pg dx an ai ao s ∧
  a < s.v.length ∧ b < s.v.length ∧ Q (.int (Ie10.gap (Ie10.val s a) (Ie10.val s b) : Nat)) H
theorem get_val {s : Ie10.St} {a : Nat} (h : a < s.v.length) : (nv s.v)[a]? = some (.int (Ie10.val s a : Int)) := by
  rw [List.getElem?_map, List.getElem?_eq_getElem h]
  unfold Ie10.val
  rw [List.getD_eq_getElem?_getD, List.getElem?_eq_getElem h]
  rfl
theorem ok_diff {f : Addr} {fd : FuncData} (F : Fun K "difference" "difference" s_difference f fd) (T : Txt K mg C) :
    FnOk P w K mg base CX0 1 f fd ["page", "one", "other"] (spDiff C) := by
  refine F.ok sc_difference (fun vs H Q E h => ?_) (fun cdv A outer s H vs Q E hr h => ⟨_, (pss_one (ps_ret (pe_callB call_abs (by rfl) T.n_abs (by decide +kernel) (pa_cons (pe_op op_sub (pe_ix ix_list (pe_fld (pv 0) rfl) (pv 1) (fun _ _ => rfl)) (pe_ix ix_list (pe_fld (pv 0) rfl) (pv 2) (fun _ _ => rfl))) pa_nil)))), ?_⟩)
  · obtain ⟨_, _, _, _, _, _, _, _, rfl, _⟩ := h
    rfl
  · obtain ⟨pg, dx, an, ai, ao, s, a, b, rfl, p, ha, hb, k⟩ := h
    refine ⟨_, rfl, pg, C, dx, _, _, rfl, p.obj, T.cl, T.a_numbers, pF_numbers, _, rfl, an, _, _, _, rfl, rfl, SqL.of p.num, atI_nat (get_val ha), _, rfl, pg, C, dx, _, _, rfl, p.obj, T.cl, T.a_numbers, pF_numbers, _, rfl, an, _, _, _, rfl, rfl, SqL.of p.num, atI_nat (get_val hb), _, _, rfl, rfl, _, rfl, ?_⟩
    have e : ((Ie10.gap (Ie10.val s a) (Ie10.val s b) : Nat) : Int) = if (Ie10.val s a : Int) - (Ie10.val s b : Int) < 0 then -((Ie10.val s a : Int) - (Ie10.val s b : Int)) else (Ie10.val s a : Int) - (Ie10.val s b : Int) := by
      unfold Ie10.gap
      split <;> omega
    rw [e] at k
    exact k
end
end Cl
namespace Cl
open PySem PySem.Spec PyProof.Rows L2

/-! A dict of cells. -/
abbrev dk (ks : List Nat) : List (Key × V) := ks.map fun (n : Nat) => ((Sum.inl (n : Int) : Key), V.bl true)
theorem dk_val {b : Nat} : ∀ (ks : List Nat), valV (dk ks) (Sum.inl (b : Int)) = if b ∈ ks then some (.bl true) else none
  | [] => rfl
  | a :: ks => by
    by_cases e : a = b
    · subst e
      rw [if_pos List.mem_cons_self]
      exact valV_pos rfl
    · have h : ¬ ((Sum.inl (a : Int) : Key) = Sum.inl (b : Int)) := fun h => e (Int.ofNat.inj (Sum.inl.inj h))
      have ih := dk_val (b := b) ks
      show valV ((Sum.inl (a : Int), V.bl true) :: dk ks) _ = _
      rw [valV_neg h, ih]
      by_cases hb : b ∈ ks
      · rw [if_pos hb, if_pos (List.mem_cons_of_mem _ hb)]
      · rw [if_neg hb, if_neg (fun h => (List.mem_cons.mp h).elim (fun z => e z.symm) hb)]
theorem dk_some {ks : List Nat} {b : Nat} : (valV (dk ks) (Sum.inl (b : Int))).isSome = decide (b ∈ ks) := by
  rw [dk_val]
  by_cases h : b ∈ ks <;> simp [h]
theorem dk_put {ks : List Nat} {b : Nat} (h : b ∉ ks) : putK (dk ks) (Sum.inl (b : Int)) (.bl true) = dk (ks ++ [b]) := by
  unfold putK
  rw [valV_any, dk_some, decide_eq_false h, if_neg Bool.false_ne_true]
  simp [dk]

/-! The search. -/
structure Srch (n : Nat) (ok : Nat → Nat → Bool) (S : List Nat) (c : Nat) (ks ws : List Nat) (Ex : Nat → Prop) : Prop where
  nd : ks.Nodup
  lt : ∀ x, x ∈ ks → x < n
  start : c ∈ ks
  sub : ∀ x, x ∈ ks → x ∈ S
  wsub : ∀ x, x ∈ ws → x ∈ ks
  wl : ws.length ≤ ks.length
  done : ∀ x, x ∈ ks → x ∉ ws → ¬ Ex x → ∀ b, b < n → ok x b = true → b ∈ ks

theorem Srch.add {n : Nat} {ok : Nat → Nat → Bool} {S : List Nat} {c : Nat} {ks ws : List Nat} {Ex : Nat → Prop} (h : Srch n ok S c ks ws Ex) (r : Reach n ok [c] S) {a b : Nat}
    (ha : a ∈ ks) (hb : b < n) (ho : ok a b = true) (hn : b ∉ ks) : Srch n ok S c (ks ++ [b]) (ws ++ [b]) Ex := by
  refine ⟨?_, ?_, List.mem_append_left _ h.start, ?_, ?_, by rw [List.length_append, List.length_append]; exact Nat.add_le_add_right h.wl _, ?_⟩
  · rw [List.nodup_append]
    refine ⟨h.nd, by simp, ?_⟩
    intro x hx y hy e
    have : y = b := by simpa using hy
    subst this; subst e
    exact hn hx
  · intro x hx
    rcases List.mem_append.mp hx with hx | hx
    · exact h.lt x hx
    · have : x = b := by simpa using hx
      subst this; exact hb
  · intro x hx
    rcases List.mem_append.mp hx with hx | hx
    · exact h.sub x hx
    · have : x = b := by simpa using hx
      subst this
      exact r.closed a (h.sub a ha) x hb ho
  · intro x hx
    rcases List.mem_append.mp hx with hx | hx
    · exact List.mem_append_left _ (h.wsub x hx)
    · exact List.mem_append_right _ hx
  · intro x hx hw he y hy hxy
    rcases List.mem_append.mp hx with hx | hx
    · exact List.mem_append_left _ (h.done x hx (fun z => hw (List.mem_append_left _ z)) he y hy hxy)
    · exact absurd (List.mem_append_right _ hx) hw

theorem Srch.pop {n : Nat} {ok : Nat → Nat → Bool} {S : List Nat} {c a : Nat} {ks ws : List Nat} (h : Srch n ok S c ks (ws ++ [a]) (fun _ => False)) : Srch n ok S c ks ws (· = a) :=
  ⟨h.nd, h.lt, h.start, h.sub, fun x hx => h.wsub x (List.mem_append_left _ hx), (by have := h.wl; rw [List.length_append] at this; omega), fun x hx hw he => h.done x hx (fun z => by
    rcases List.mem_append.mp z with z | z
    · exact hw z
    · exact he (by simpa using z)) (fun z => z)⟩

theorem Srch.fill {n : Nat} {ok : Nat → Nat → Bool} {S : List Nat} {c a : Nat} {ks ws : List Nat} (h : Srch n ok S c ks ws (· = a)) (ha : ∀ b, b < n → ok a b = true → b ∈ ks) :
    Srch n ok S c ks ws (fun _ => False) :=
  ⟨h.nd, h.lt, h.start, h.sub, h.wsub, h.wl, fun x hx hw _ b hb ho => by
    by_cases e : x = a
    · subst e; exact ha b hb ho
    · exact h.done x hx hw e b hb ho⟩

theorem Srch.all {n : Nat} {ok : Nat → Nat → Bool} {S : List Nat} {c : Nat} {ks : List Nat} (h : Srch n ok S c ks [] (fun _ => False)) (r : Reach n ok [c] S) : ∀ x, x ∈ ks ↔ x ∈ S :=
  fun x => ⟨h.sub x, r.least (· ∈ ks) (fun a b ha hb ho => h.done a ha (by simp) (fun z => z) b hb ho) (fun y hy => by
    have : y = c := by simpa using hy
    subst this; exact h.start) x⟩

theorem sorted_is {n : Nat} {S ks : List Nat} {ys : List Int} (hS : S.Sublist (List.range n)) (nd : ks.Nodup) (h : ∀ x, x ∈ ks ↔ x ∈ S)
    (p : ys.Perm (ks.map fun (n : Nat) => (n : Int))) (q : ys.Pairwise (· ≤ ·)) : ys = S.map fun (n : Nat) => (n : Int) := by
  have e : ks.Perm S := (List.perm_ext_iff_of_nodup nd (List.Nodup.sublist hS List.nodup_range)).mpr h
  have e2 := p.trans (e.map fun (n : Nat) => (n : Int))
  refine List.Perm.eq_of_pairwise (le := (· ≤ ·)) (fun a b _ _ h1 h2 => Int.le_antisymm h1 h2) q ?_ e2
  rw [List.pairwise_map]
  have hp : S.Pairwise (· < ·) := List.Pairwise.sublist hS List.pairwise_lt_range
  exact hp.imp fun {a b} (h : a < b) => by omega

def okP (s : Ie10.St) (by_ : Bool) (c t x b : Nat) : Bool := bes s.w x b && decide (Ie10.gap (Ie10.val s b) (Ie10.val s (if by_ then x else c)) ≤ t)
def reached (s : Ie10.St) (by_ : Bool) (c t : Nat) : List Nat := if by_ then Ie10.steps s c t else Ie10.like s c t

theorem reached_eq {s : Ie10.St} {by_ : Bool} {c t : Nat} : reached s by_ c t = Ie10.reach s.n (okP s by_ c t) [c] := by
  unfold reached
  cases by_
  · rfl
  · show Ie10.reach _ _ _ = Ie10.reach _ _ _
    congr 1
    funext a b
    unfold okP
    rw [gap_comm (Ie10.val s a)]
    rfl

theorem reached_reach {s : Ie10.St} {by_ : Bool} {c t : Nat} (hc : c < s.n) : Reach s.n (okP s by_ c t) [c] (reached s by_ c t) := by
  rw [reached_eq]
  exact reach_ok (fun x hx => by
    have : x = c := by simpa using hx
    subst this; exact hc)

theorem reached_sorted {s : Ie10.St} {by_ : Bool} {c t : Nat} (hc : c < s.n) : (reached s by_ c t).Sublist (List.range s.n) := by
  rw [reached_eq]
  exact reach_sorted (List.singleton_sublist.mpr (List.mem_range.mpr hc))

theorem pick {b : Bool} {t u : TE} {σ : L2.St} {H : Hp} {Q : VK} {x y : V} (ht : ∀ Q : VK, Q x H → t σ H Q) (hu : ∀ Q : VK, Q y H → u σ H Q) (k : Q (if b then x else y) H) :
    if b = true then t σ H Q else u σ H Q := by
  cases b
  · exact iteF (hu _ k)
  · exact iteT (ht _ k)

def dsz (H : Hp) (d : Addr) : Nat := match H d with | some (.dK kvs) => kvs.length | _ => 0
def lsz (H : Hp) (l : Addr) : Nat := match H l with | some (.lst xs) => xs.length | _ => 0
theorem dsz_of {H : Hp} {d : Addr} {kvs : List (Key × V)} (h : H d = some (.dK kvs)) : dsz H d = kvs.length := by unfold dsz; rw [h]
theorem lsz_of {H : Hp} {d : Addr} {xs : List V} (h : H d = some (.lst xs)) : lsz H d = xs.length := by unfold lsz; rw [h]

section
variable {P : Program} {w : World} {K : PySem.W.Frag} {mg : Str → Option Value} {base : Heap} {C : Addr}

def spReached (C : Addr) : Sp := fun vs H Q _ => ∃ (pg dx an ai ao : Addr) (s : Ie10.St) (c t : Nat) (by_ : Bool), vs = [.ref pg, .int c, .int t, .bl by_] ∧ PageAt C H pg dx an ai ao s ∧ c < s.v.length ∧
  ∀ (H' : Hp) (p : Addr), Same H H' → H p = none → H' p = some (.lst (nv (reached s by_ c t))) → Q (.ref p) H'
theorem ok_reached {f f1 f2 : Addr} {fd fd1 fd2 : FuncData} (F : Fun K "cells_reached" "cells_reached" s_cells_reached f fd) (T : Txt K mg C)
    (D_cells_beside : DefAt P w K mg base 1 "cells_beside" ["page", "cell"] (spBeside C) f1 fd1) (D_difference : DefAt P w K mg base 1 "difference" ["page", "one", "other"] (spDiff C) f2 fd2) :
    FnOk P w K mg base CX0 2 f fd ["page", "start", "bound", "by_steps"] (spReached C) := by
  refine F.ok sc_cells_reached (fun vs H Q E h => ?_) (fun cdv A outer s H vs Q E hr h => ⟨_, have hu := hu_of hr; (pss_cons (ps_set (i := 4) sc_cells_reached.nd rfl (Or.inl rfl) (pe_disp (pps_cons (pv 1) pe_bl pps_nil) (by rfl) (by rfl) (fun z => by cases z) (by decide)))
 (pss_cons (ps_set (i := 5) sc_cells_reached.nd rfl (Or.inl rfl) (pe_lst (pa_cons (pv 1) pa_nil)))
 (pss_cons (ps_while PassesOwn.never (pt_cmpR op_gt (pe_callB call_len_seq (by rfl) T.n_len PySem.boot_len (pa_cons (pv 5) pa_nil)) pe_int (nomark _))
 (pss_cons (ps_set (i := 6) sc_cells_reached.nd rfl (Or.inl rfl) (pe_bm0 PySem.F.plainAttrs_list PySem.F.slot_list_pop PySem.F.type_list_pop mt_pop (pv 5)))
 (pss_cons (ps_set (i := 7) sc_cells_reached.nd rfl (Or.inl rfl) (pe_ifExp (pt_val (pv 3)) (pv 6) (pv 1)))
 (pss_one (ps_for PassesOwn.never rfl (pi_list (pe_call D_cells_beside.ok (hr.mono (by decide)) rfl D_cells_beside.g D_cells_beside.kp D_cells_beside.b .nil pass0 (pa_cons (pv 0) (pa_cons (pv 6) pa_nil)))) (pg_name (i := 8) sc_cells_reached.nd rfl (Or.inl rfl))
 (pss_one (ps_if (PW.pt (pw_and (pt_cmp (pc_dnotin hu (pv 8) (pv 4))) (pw_and1 (pt_cmpR op_le (pe_call D_difference.ok (hr.mono (by decide)) rfl D_difference.g D_difference.kp D_difference.b .nil pass0 (pa_cons (pv 0) (pa_cons (pv 8) (pa_cons (pv 7) pa_nil)))) (pv 2) (nomark _)))))
 (pss_cons (ps_dput hu (pv 4) (pv 8) pe_bl rfl)
 (pss_one (ps_expr (pe_bm PySem.F.plainAttrs_list PySem.F.slot_list_append PySem.F.type_list_append mt_append (pv 5) (pa_cons (pv 8) pa_nil)))))
 pss_nil)))))))
 (pss_one (ps_ret (pe_callB (call_sortedDI rfl) (by rfl) T.n_sorted (by decide +kernel) (pa_cons (pv 4) pa_nil))))))), ?_⟩)
  · obtain ⟨_, _, _, _, _, _, _, _, _, rfl, _⟩ := h
    rfl
  · obtain ⟨pg, dx, an, ai, ao, s, c, t, by_, rfl, p, hc, k⟩ := h
    -- reached = {start: True}
    intro d hd
    refine ⟨_, rfl, upd_same, [(Sum.inl (c : Int), .bl true)], rfl, by show 1 ≤ 15; decide, ?_⟩
    rw [upd_upd]
    -- waiting = [start]
    refine ⟨_, rfl, (by show 1 ≤ sizeLine; decide), fun l hl => ?_⟩
    have hdl : d ≠ l := ne_of_none upd_same hl
    have hl0 : H l = none := by rw [upd_ne hdl.symm] at hl; exact hl
    have hsn : s.n = s.v.length := p.len.symm
    have n25 := p.n25
    have hR := reached_reach (s := s) (by_ := by_) (c := c) (t := t) (by rw [hsn]; exact hc)
    dsimp only [gName]
    refine at_slots (σ' := [some (.ref pg), some (.int c), some (.int t), some (.bl by_), some (.ref d), some (.ref l), none, none, none]) rfl ?_
    refine while_by (fun σ H' => ∃ (ks ws : List Nat) (v6 v7 v8 : Option V), σ = [some (.ref pg), some (.int c), some (.int t), some (.bl by_), some (.ref d), some (.ref l), v6, v7, v8] ∧
        Same H H' ∧ H' d = some (.dK (dk ks)) ∧ H' l = some (.lst (nv ws)) ∧ Srch s.n (okP s by_ c t) (reached s by_ c t) c ks ws (fun _ => False))
      (fun _ H' => 2 * (25 - dsz H' d) + lsz H' l) ?_ ?_ ?_
    · refine ⟨[c], [c], none, none, none, rfl, (same_upd hd).trans (same_upd hl), ?_, upd_same, ?_⟩
      · rw [upd_ne hdl]; exact upd_same
      · refine ⟨by simp, fun x hx => ?_, by simp, fun x hx => ?_, fun x hx => hx, Nat.le_refl _, fun x hx hw => absurd hx hw⟩
        · have : x = c := by simpa using hx
          subst this; rw [hsn]; exact hc
        · exact hR.sub x hx
    · rintro σ H' ⟨ks, ws, v6, v7, v8, rfl, sm, hdk, hlw, I⟩
      refine ⟨_, rfl, l, _, rfl, .inl (SqL.of hlw), _, _, rfl, rfl, _, rfl, ite2 (fun hlen => ?_) (fun hlen => ?_)⟩
      · have hlen := of_decide_eq_true hlen
        rw [nv_len] at hlen
        obtain ⟨ws', a, rfl⟩ : ∃ ws' a, ws = ws' ++ [a] := ⟨ws.dropLast, ws.getLast (by intro e; subst e; simp at hlen), (List.dropLast_concat_getLast _).symm⟩
        have nva : nv (ws' ++ [a]) = nv ws' ++ [V.int (a : Int)] := by simp [nv]
        rw [nva] at hlw
        -- cell = waiting.pop()
        refine ⟨_, rfl, .inl ⟨rfl, _, SqL.of hlw⟩, l, _, .int (a : Int), rfl, rfl, hlw, by simp, ?_⟩
        rw [List.dropLast_concat]
        -- model = cell if by_steps else start
        refine ⟨_, rfl, _, rfl, pick (x := .int (a : Int)) (y := .int (c : Int)) (fun Q h => ⟨_, rfl, h⟩) (fun Q h => ⟨_, rfl, h⟩) ?_⟩
        obtain ⟨md, emd⟩ : ∃ md : Nat, (if by_ then a else c) = md := ⟨_, rfl⟩
        have e7 : (if by_ then V.int (a : Int) else V.int (c : Int)) = V.int (md : Int) := by rw [← emd]; cases by_ <;> rfl
        have hak : a ∈ ks := I.wsub a (by simp)
        have han : a < s.v.length := by have := I.lt a hak; rw [hsn] at this; exact this
        have hmd : md < s.v.length := by rw [← emd]; cases by_ <;> simp [han, hc]
        rw [e7]
        dsimp only [gName]
        refine at_slots (σ' := [some (.ref pg), some (.int c), some (.int t), some (.bl by_), some (.ref d), some (.ref l), some (.int (a : Int)), some (.int (md : Int)), v8]) rfl ?_
        have sm1 : Same H (upd H' l (.lst (nv ws'))) := fun b o e => by
          rw [upd_ne (ne_of_none e hl0)]
          exact sm b o e
        have hdk1 : upd H' l (.lst (nv ws')) d = some (.dK (dk ks)) := by rw [upd_ne hdl]; exact hdk
        -- for other in cells_beside(page, cell)
        refine ⟨_, rfl, _, rfl, pg, dx, an, ai, ao, s, a, rfl, p.same sm1, fun H2 q sm2 hq hql => ⟨q, rfl, ⟨_, SqL.of hql⟩, ?_⟩⟩
        have sz0 : dsz H' d = ks.length := by rw [dsz_of hdk]; simp [dk]
        have lz0 : lsz H' l = ws'.length + 1 := by rw [lsz_of hlw]; simp [nv]
        have hqd : q ≠ d := (ne_of_none hdk1 hq).symm
        have hql' : q ≠ l := (ne_of_none upd_same hq).symm
        have hqH : H q = none := sm1.free hq
        refine for_list (K := K) (a := q) (xs := nv (besL s.w s.v.length a)) (fun i σ H3 => ∃ (ks' ws1 : List Nat) (v8 : Option V), σ = [some (.ref pg), some (.int c), some (.int t), some (.bl by_), some (.ref d), some (.ref l), some (.int (a : Int)), some (.int (md : Int)), v8] ∧
            Same H H3 ∧ H3 q = some (.lst (nv (besL s.w s.v.length a))) ∧ H3 d = some (.dK (dk ks')) ∧ H3 l = some (.lst (nv ws1)) ∧ Srch s.n (okP s by_ c t) (reached s by_ c t) c ks' ws1 (· = a) ∧ a ∈ ks' ∧
            (∀ b, b ∈ (besL s.w s.v.length a).take i → okP s by_ c t a b = true → b ∈ ks') ∧ 2 * (25 - ks'.length) + ws1.length < 2 * (25 - ks.length) + (ws'.length + 1)) ?_ ?_ ?_ ?_
        · exact ⟨ks, ws', v8, rfl, sm1.trans sm2, hql, sm2 _ _ hdk1, sm2 _ _ upd_same, I.pop, hak, fun b hb => (by simp at hb), by omega⟩
        · rintro i σ H3 _ ⟨ks', ws1, v8, rfl, sm3, hq3, _⟩
          exact SqL.of hq3
        · rintro i x σ H3 hi ⟨ks', ws1, v8, rfl, sm3, hq3, hd3, hl3, I3, ha3, hb3, hm3⟩
          obtain ⟨b, hb, rfl⟩ := nv_get hi
          have hbm : b ∈ besL s.w s.v.length a := List.mem_of_getElem? hb
          have hbb := hbm
          rw [p.len, mem_besL p.w1 p.w5 p.h1 p.h5 (by rw [← p.len]; exact han), ← p.len] at hbb
          have htk : (besL s.w s.v.length a).take (i + 1) = (besL s.w s.v.length a).take i ++ [b] := by
            rw [List.take_add_one, hb]; rfl
          have len25 : ks'.length ≤ 25 := Nat.le_trans (nodup_lt I3.nd I3.lt) (by rw [hsn]; exact n25)
          have hok : okP s by_ c t a b = decide (Ie10.gap (Ie10.val s b) (Ie10.val s md) ≤ t) := by
            unfold okP
            rw [hbb.2, emd]
            rfl
          -- if other not in reached and ..
          refine ⟨_, rfl, _, rfl, d, _, rfl, DGet.k (k := Sum.inl (b : Int)) hd3, _, rfl, ?_⟩
          rw [dk_some]
          by_cases hin : b ∈ ks'
          · rw [decide_eq_true hin]
            refine iteF (iteF ?_)
            refine ⟨ks', ws1, _, rfl, sm3, hq3, hd3, hl3, I3, ha3, ?_, hm3⟩
            intro y hy ho
            rw [htk] at hy
            rcases List.mem_append.mp hy with hy | hy
            · exact hb3 y hy ho
            · have : y = b := by simpa using hy
              subst this; exact hin
          · rw [decide_eq_false hin]
            refine iteT ⟨_, rfl, _, rfl, _, rfl, pg, dx, an, ai, ao, s, b, md, rfl, p.same sm3, hbb.1, hmd, _, rfl, _, _, rfl, rfl, _, rfl, ite2 (fun hle => ?_) (fun hle => ?_)⟩
            · have hle := of_decide_eq_true hle
              have hok1 : okP s by_ c t a b = true := by rw [hok]; exact decide_eq_true (by omega)
              have hlen1 : (dk ks').length < sizeLine := small1000 (by simp [dk]; omega)
              refine ⟨_, rfl, _, rfl, d, _, rfl, DPut.k (k := Sum.inl (b : Int)) hd3 hlen1, ?_⟩
              rw [dk_put hin]
              have hl4 : upd H3 d (.dK (dk (ks' ++ [b]))) l = some (.lst (nv ws1)) := by rw [upd_ne hdl.symm]; exact hl3
              have wlen : ws1.length ≤ 100 := by have := I3.wl; omega
              refine ⟨_, rfl, .inl ⟨rfl, _, SqL.of hl4⟩, _, rfl, l, _, _, rfl, rfl, hl4, small1000 (by rw [nv_len]; omega), ?_⟩
              have I4 := I3.add hR ha3 (by rw [hsn]; exact hbb.1) hok1 hin
              have len25' : (ks' ++ [b]).length ≤ 25 := Nat.le_trans (nodup_lt I4.nd I4.lt) (by rw [hsn]; exact n25)
              refine ⟨ks' ++ [b], ws1 ++ [b], _, rfl, ?_, ?_, ?_, ?_, I4, List.mem_append_left _ ha3, ?_, ?_⟩
              · intro z o e
                rw [upd_ne (ne_of_none e hl0), upd_ne (ne_of_none e hd)]
                exact sm3 z o e
              · rw [upd_ne hql', upd_ne hqd]; exact hq3
              · rw [upd_ne hdl]; exact upd_same
              · rw [upd_same]; simp [nv]
              · intro y hy ho
                rw [htk] at hy
                rcases List.mem_append.mp hy with hy | hy
                · exact List.mem_append_left _ (hb3 y hy ho)
                · exact List.mem_append_right _ hy
              · rw [List.length_append, List.length_append] at *
                simp only [List.length_singleton] at *
                omega
            · have hle : ¬ ((Ie10.gap (Ie10.val s b) (Ie10.val s md) : Nat) : Int) ≤ (t : Int) := fun h => hle (decide_eq_true h)
              refine ⟨ks', ws1, _, rfl, sm3, hq3, hd3, hl3, I3, ha3, ?_, hm3⟩
              intro y hy ho
              rw [htk] at hy
              rcases List.mem_append.mp hy with hy | hy
              · exact hb3 y hy ho
              · have : y = b := by simpa using hy
                subst this
                rw [hok] at ho
                have := of_decide_eq_true ho
                omega
        · rintro σ H3 ⟨ks', ws1, v8, rfl, sm3, hq3, hd3, hl3, I3, ha3, hb3, hm3⟩
          rw [nv_len, List.take_length] at hb3
          refine ⟨⟨ks', ws1, _, _, _, rfl, sm3, hd3, hl3, I3.fill ?_⟩, ?_⟩
          · intro b hb ho
            refine hb3 b ?_ ho
            rw [p.len, mem_besL p.w1 p.w5 p.h1 p.h5 (by rw [← p.len]; exact han)]
            refine ⟨hb, ?_⟩
            unfold okP at ho
            rw [Bool.and_eq_true] at ho
            exact ho.1
          · rw [sz0, lz0, dsz_of hd3, lsz_of hl3]
            simp only [List.length_map]
            omega
      · have hlen : ¬ (0 : Int) < ((nv ws).length : Int) := fun h => hlen (decide_eq_true h)
        rw [nv_len] at hlen
        have hw0 : ws = [] := List.eq_nil_of_length_eq_zero (by omega)
        subst hw0
        have len25 : ks.length ≤ 25 := Nat.le_trans (nodup_lt I.nd I.lt) (by rw [hsn]; exact n25)
        refine ⟨_, rfl, d, _, ks.map (fun (n : Nat) => (n : Int)), rfl, .inl hdk, by simp [dk, List.map_map, Function.comp_def], by rw [List.length_map]; omega, fun ys q hp hsrt hq => ?_⟩
        have ey := sorted_is (reached_sorted (by rw [hsn]; exact hc)) I.nd (I.all hR) hp hsrt
        refine k _ q (sm.trans (same_upd hq)) (sm.free hq) ?_
        rw [upd_same, ey]
        simp [nv, List.map_map, Function.comp_def]
    · rintro σ H' Q1 Q2 himp ⟨v, hv, a, b, e1, h2, i, j, e3, e4, kk, e5, h6⟩
      exact ⟨v, hv, a, b, e1, h2, i, j, e3, e4, kk, e5, himp _ _ h6⟩
end
end Cl
namespace Cl
open PySem PySem.Spec PyProof.Rows L2

theorem put_here {f : Str} {v x : V} {r : List (Str × V)} : putF f v ((f, x) :: r) = (f, v) :: r := if_pos rfl
theorem put_past {f g : Str} {v x : V} {r : List (Str × V)} (h : ¬ g = f) : putF f v ((g, x) :: r) = (g, x) :: putF f v r := if_neg h
section
variable {w k w' k' : Nat} {an ai ao b : Addr}
theorem put_columns : putF "columns" (.int (w' : Int)) (pF w an k ai ao) = pF w' an k ai ao := put_here
theorem put_numbers : putF "numbers" (.ref b) (pF w an k ai ao) = pF w b k ai ao := (put_past (by decide +kernel)).trans (congrArg _ put_here)
theorem put_sharp : putF "sharp" (.int (k' : Int)) (pF w an k ai ao) = pF w an k' ai ao :=
  (put_past (by decide +kernel)).trans (congrArg _ ((put_past (by decide +kernel)).trans (congrArg _ put_here)))
theorem put_within : putF "within" (.ref b) (pF w an k ai ao) = pF w an k b ao :=
  (put_past (by decide +kernel)).trans (congrArg _ ((put_past (by decide +kernel)).trans (congrArg _ ((put_past (by decide +kernel)).trans (congrArg _ put_here)))))
theorem put_without : putF "without" (.ref b) (pF w an k ai ao) = pF w an k ai b :=
  (put_past (by decide +kernel)).trans (congrArg _ ((put_past (by decide +kernel)).trans (congrArg _ ((put_past (by decide +kernel)).trans (congrArg _ ((put_past (by decide +kernel)).trans (congrArg _ put_here)))))))
end

section
variable {P : Program} {w : World} {K : PySem.W.Frag} {mg : Str → Option Value} {base : Heap} {C : Addr}

/-- a call that changes the page and answers one number -/
def spOne (C g : Addr) (pg : Addr) (H : Hp) (s : Ie10.St) (c : Ie10.Call) (Q : VK) : Prop :=
  ∀ (H' : Hp) (a : Int), PgOff C g H' pg (Ie10.step s c).1 → Keeps pg H H' → (Ie10.step s c).2 = [a] → Q (.int a) H'

def spPutPage (C : Addr) : Sp := fun vs H Q _ => ∃ (pg dx an ai ao g : Addr) (s : Ie10.St) (w h : Nat) (na : Addr) (l : List Nat), vs = [.ref pg, .int w, .int h, .ref na] ∧ PageAt C H pg dx an ai ao s ∧ (an ≠ g ∧ ai ≠ g ∧ ao ≠ g) ∧ H g ≠ none ∧
  H na = some (.lst (nv l)) ∧ spOne C g pg H s (.page w h l) Q

theorem page_no {s : Ie10.St} {w h : Nat} {l : List Nat} (c : w < 1 ∨ 5 < w ∨ h < 1 ∨ 5 < h ∨ l.length ≠ w * h) : Ie10.step s (.page w h l) = (s, [-1]) := if_pos c
theorem page_far {s : Ie10.St} {w h : Nat} {l : List Nat} (c : ¬ (w < 1 ∨ 5 < w ∨ h < 1 ∨ 5 < h ∨ l.length ≠ w * h)) (d : (l.all fun x => decide (x ≤ 255)) = false) : Ie10.step s (.page w h l) = (s, [-2]) := (if_neg c).trans (if_pos d)
theorem page_ok {s : Ie10.St} {w h : Nat} {l : List Nat} (c : ¬ (w < 1 ∨ 5 < w ∨ h < 1 ∨ 5 < h ∨ l.length ≠ w * h)) (d : (l.all fun x => decide (x ≤ 255)) = true) : Ie10.step s (.page w h l) = (⟨w, h, l, s.sharp, [], []⟩, [0]) :=
  (if_neg c).trans (if_neg (by rw [d]; exact Bool.noConfusion))

theorem ok_put_page {f f1 : Addr} {fd fd1 : FuncData} (F : Fun K "put_page" "put_page" s_put_page f fd) (T : Txt K mg C)
    (D_is_side : DefAt P w K mg base 1 "is_side" ["length"] spIsSide f1 fd1) :
    FnOk P w K mg base CX0 2 f fd ["page", "columns", "rows", "numbers"] (spPutPage C) := by
  refine F.ok sc_put_page (fun vs H Q E h => ?_) (fun cdv A outer s H vs Q E hr h => ⟨_, (pss_cons (ps_if (PW.pt (pw_or (pt_not (pt_val (pe_call D_is_side.ok (hr.mono (by decide)) rfl D_is_side.g D_is_side.kp D_is_side.b .nil pass0 (pa_cons (pv 1) pa_nil)))) (pw_or (pt_not (pt_val (pe_call D_is_side.ok (hr.mono (by decide)) rfl D_is_side.g D_is_side.kp D_is_side.b .nil pass0 (pa_cons (pv 2) pa_nil)))) (pw_or1 (pt_cmpR op_ne (pe_callB call_len_seq (by rfl) T.n_len PySem.boot_len (pa_cons (pv 3) pa_nil)) (pe_op op_mul (pv 1) (pv 2)) (nomark _))))))
 (pss_one (ps_ret (pe_glob (v := .int (-1)) rfl (Exists.choose_spec T.g_NO_PLACE) ⟨_, rfl⟩)))
 pss_nil)
 (pss_cons (ps_for PassesOwn.never rfl (pi_list (pv 3)) (pg_name (i := 4) sc_put_page.nd rfl (Or.inl rfl))
 (pss_one (ps_if (pt_cmpR op_gt (pv 4) (pe_glob (v := .int (255)) rfl (Exists.choose_spec T.g_GREATEST_NUMBER) ⟨_, rfl⟩) (nomark _))
 (pss_one (ps_ret (pe_glob (v := .int (-2)) rfl (Exists.choose_spec T.g_OUT_OF_BOUNDS) ⟨_, rfl⟩)))
 pss_nil)))
 (pss_cons (ps_fld (pv 0) (pv 1) rfl)
 (pss_cons (ps_fld (pv 0) (pe_callTy call_list_of (by rfl) T.n_list (by decide +kernel) (pa_cons (pv 3) pa_nil)) rfl)
 (pss_cons (ps_fld (pv 0) (pe_lst pa_nil) rfl)
 (pss_cons (ps_fld (pv 0) (pe_lst pa_nil) rfl)
 (pss_one (ps_ret pe_int)))))))), ?_⟩)
  · obtain ⟨_, _, _, _, _, _, _, _, _, _, _, rfl, _⟩ := h
    rfl
  · obtain ⟨pg, dx, an, ai, ao, g, s, w', h', na, l, rfl, p, off, hg, hna, k⟩ := h
    have hS : SqL K H na (nv l) := SqL.of hna
    have npg : na ≠ pg := ne_of hna p.obj (by intro z; cases z)
    have no : (w' < 1 ∨ 5 < w' ∨ h' < 1 ∨ 5 < h' ∨ l.length ≠ w' * h') → Q (.int (-1)) H := fun c => by
      refine k H (-1) ?_ (fun b o e _ => e) ?_
      · rw [page_no c]; exact ⟨dx, an, ai, ao, p, off⟩
      · rw [page_no c]
    refine ⟨_, rfl, w', rfl, _, rfl, ?_⟩
    by_cases c1 : 1 ≤ w' ∧ w' ≤ 5
    · rw [decide_eq_true c1]
      refine iteF ⟨_, rfl, h', rfl, _, rfl, ?_⟩
      by_cases c2 : 1 ≤ h' ∧ h' ≤ 5
      · rw [decide_eq_true c2]
        refine iteF ⟨_, rfl, na, _, rfl, .inl hS, _, rfl, _, rfl, _, _, rfl, rfl, .inl ⟨by omega, by omega⟩, ?_⟩
        refine ⟨rfl, _, rfl, ?_⟩
        by_cases c3 : l.length = w' * h'
        · have c3' : (V.int ((nv l).length : Int)) = V.int ((w' : Int) * (h' : Int)) := by rw [nv_len, c3, Int.natCast_mul]
          have cc : ¬ (w' < 1 ∨ 5 < w' ∨ h' < 1 ∨ 5 < h' ∨ l.length ≠ w' * h') := by omega
          rw [decide_eq_true c3']
          refine iteF ?_
          -- for number in numbers
          refine ⟨_, rfl, na, rfl, ⟨_, hS⟩, for_list (K := K) (a := na) (xs := nv l) (fun i σ H' => H' = H ∧ (∃ v : Option V, σ = [some (.ref pg), some (.int w'), some (.int h'), some (.ref na), v]) ∧ ∀ x, x ∈ l.take i → x ≤ 255)
            ⟨rfl, ⟨none, rfl⟩, fun x hx => by simp at hx⟩ (fun i σ H' _ h => by rw [h.1]; exact hS) ?_ ?_⟩
          · rintro i x σ H' hi ⟨rfl, ⟨v, rfl⟩, hm⟩
            obtain ⟨c, hc, rfl⟩ := nv_get hi
            refine ⟨_, rfl, _, _, rfl, rfl, _, rfl, ite2 (fun h1 => ?_) (fun h1 => ?_)⟩
            · have h1 := of_decide_eq_true h1
              have hall : (l.all fun x => decide (x ≤ 255)) = false := by
                rw [← Bool.not_eq_true, List.all_eq_true]
                intro ha
                have := of_decide_eq_true (ha c (List.mem_of_getElem? hc))
                omega
              refine k H' (-2) ?_ (fun b o e _ => e) ?_
              · rw [page_far cc hall]; exact ⟨dx, an, ai, ao, p, off⟩
              · rw [page_far cc hall]
            · have h1 : ¬ (255 : Int) < (c : Int) := fun h => h1 (decide_eq_true h)
              refine ⟨rfl, ⟨_, rfl⟩, ?_⟩
              intro y hy
              rw [List.take_add_one, hc] at hy
              rcases List.mem_append.mp hy with hy | hy
              · exact hm y hy
              · have : y = c := by simpa using hy
                omega
          · rintro σ H' ⟨rfl, ⟨v, rfl⟩, hm⟩
            rw [nv_len, List.take_length] at hm
            have hall : (l.all fun x => decide (x ≤ 255)) = true := List.all_eq_true.mpr fun x hx => decide_eq_true (hm x hx)
            -- page.columns = columns
            refine ⟨_, rfl, _, rfl, pg, C, dx, _, rfl, p.obj, T.cl, T.a_columns, (by show 5 < 1000; decide), ?_⟩
            rw [put_columns]
            -- page.numbers = list(numbers)
            have hS1 : SqL K (upd H' pg (.ins C dx (pF w' an s.sharp ai ao))) na (nv l) := SqL.of (by rw [upd_ne npg]; exact hna)
            refine ⟨_, rfl, na, _, rfl, .inl hS1, fun l1 n1 => ?_⟩
            have d1 : l1 ≠ pg := (ne_of_none upd_same n1).symm
            have f1 : H' l1 = none := by rw [upd_ne d1] at n1; exact n1
            refine ⟨_, rfl, pg, C, dx, _, rfl, (by rw [upd_ne d1.symm]; exact upd_same), T.cl, T.a_numbers, (by show 5 < 1000; decide), ?_⟩
            rw [put_numbers]
            -- page.within = []
            refine ⟨(by show 0 ≤ sizeLine; decide), fun l2 n2 => ?_⟩
            have d2 : l2 ≠ pg := (ne_of_none upd_same n2).symm
            have d21 : l2 ≠ l1 := by
              intro e; subst e
              rw [upd_ne d2, upd_same] at n2; cases n2
            have f2 : H' l2 = none := by rw [upd_ne d2, upd_ne d21, upd_ne d2] at n2; exact n2
            refine ⟨_, rfl, pg, C, dx, _, rfl, (by rw [upd_ne d2.symm]; exact upd_same), T.cl, T.a_within, (by show 5 < 1000; decide), ?_⟩
            rw [put_within]
            -- page.without = []
            refine ⟨(by show 0 ≤ sizeLine; decide), fun l3 n3 => ?_⟩
            have d3 : l3 ≠ pg := (ne_of_none upd_same n3).symm
            have d32 : l3 ≠ l2 := by
              intro e; subst e
              rw [upd_ne d3, upd_same] at n3; cases n3
            have d31 : l3 ≠ l1 := by
              intro e; subst e
              rw [upd_ne d3, upd_ne d32, upd_ne d3, upd_same] at n3; cases n3
            have f3 : H' l3 = none := by rw [upd_ne d3, upd_ne d32, upd_ne d3, upd_ne d31, upd_ne d3] at n3; exact n3
            refine ⟨_, rfl, pg, C, dx, _, rfl, (by rw [upd_ne d3.symm]; exact upd_same), T.cl, T.a_without, (by show 5 < 1000; decide), ?_⟩
            rw [put_without]
            refine k _ 0 ?_ ?_ ?_
            · rw [page_ok cc hall]
              have fg : ∀ {l : Addr}, H' l = none → l ≠ g := fun h e => hg (e ▸ h)
              refine ⟨dx, l1, l2, l3, ⟨upd_same, ?_, ?_, ?_, ?_⟩, fg f1, fg f2, fg f3⟩
              · rw [upd_ne d1, upd_ne d31.symm, upd_ne d1, upd_ne d21.symm, upd_ne d1]; exact upd_same
              · rw [upd_ne d2, upd_ne d32.symm, upd_ne d2]; exact upd_same
              · rw [upd_ne d3]; exact upd_same
              · exact ⟨c1.1, c1.2, c2.1, c2.2, c3, hm, p.good.k1, p.good.k255, rfl, rfl, fun a ha => (by cases ha)⟩
            · intro b o e hb
              rw [upd_ne hb, upd_ne (ne_of_none e f3), upd_ne hb, upd_ne (ne_of_none e f2), upd_ne hb, upd_ne (ne_of_none e f1), upd_ne hb]
              exact e
            · rw [page_ok cc hall]
        · have c3' : ¬ (V.int ((nv l).length : Int)) = V.int ((w' : Int) * (h' : Int)) := by
            rw [nv_len, ← Int.natCast_mul]
            intro e
            exact c3 (Int.ofNat.inj (V.int.inj e))
          rw [decide_eq_false c3']
          exact iteT (no (by omega))
      · rw [decide_eq_false c2]
        exact iteT (iteT (no (by omega)))
    · rw [decide_eq_false c1]
      exact iteT (iteT (no (by omega)))

def spPutSharp (C : Addr) : Sp := fun vs H Q _ => ∃ (pg dx an ai ao g : Addr) (s : Ie10.St) (n : Nat), vs = [.ref pg, .int n] ∧ PageAt C H pg dx an ai ao s ∧ (an ≠ g ∧ ai ≠ g ∧ ao ≠ g) ∧ spOne C g pg H s (.sharp n) Q
theorem sharp_no {s : Ie10.St} {n : Nat} (c : n < 1 ∨ 255 < n) : Ie10.step s (.sharp n) = (s, [-2]) := if_pos c
theorem sharp_ok {s : Ie10.St} {n : Nat} (c : ¬ (n < 1 ∨ 255 < n)) : Ie10.step s (.sharp n) = ({ s with sharp := n }, [0]) := if_neg c
theorem ok_put_sharp {f : Addr} {fd : FuncData} (F : Fun K "put_sharp" "put_sharp" s_put_sharp f fd) (T : Txt K mg C) :
    FnOk P w K mg base CX0 1 f fd ["page", "sharp"] (spPutSharp C) := by
  refine F.ok sc_put_sharp (fun vs H Q E h => ?_) (fun cdv A outer s H vs Q E hr h => ⟨_, (pss_cons (ps_if (PW.pt (pw_or (pt_cmpR op_lt (pv 1) pe_int (nomark _)) (pw_or1 (pt_cmpR op_gt (pv 1) (pe_glob (v := .int (255)) rfl (Exists.choose_spec T.g_GREATEST_NUMBER) ⟨_, rfl⟩) (nomark _)))))
 (pss_one (ps_ret (pe_glob (v := .int (-2)) rfl (Exists.choose_spec T.g_OUT_OF_BOUNDS) ⟨_, rfl⟩)))
 pss_nil)
 (pss_cons (ps_fld (pv 0) (pv 1) rfl)
 (pss_one (ps_ret pe_int)))), ?_⟩)
  · obtain ⟨_, _, _, _, _, _, _, _, rfl, _⟩ := h
    rfl
  · obtain ⟨pg, dx, an, ai, ao, g0, s, n, rfl, p, off, k⟩ := h
    have no : (n < 1 ∨ 255 < n) → Q (.int (-2)) H := fun c => by
      refine k H (-2) ?_ (fun b o e _ => e) ?_
      · rw [sharp_no c]; exact ⟨dx, an, ai, ao, p, off⟩
      · rw [sharp_no c]
    refine ⟨_, rfl, _, _, rfl, rfl, _, rfl, ite2 (fun h1 => ?_) (fun h1 => ?_)⟩
    · have h1 := of_decide_eq_true h1
      exact iteT (no (by omega))
    · have h1 : ¬ (n : Int) < 1 := fun h => h1 (decide_eq_true h)
      refine ⟨_, rfl, _, _, rfl, rfl, _, rfl, ite2 (fun h2 => ?_) (fun h2 => ?_)⟩
      · have h2 := of_decide_eq_true h2
        exact no (by omega)
      · have h2 : ¬ (255 : Int) < (n : Int) := fun h => h2 (decide_eq_true h)
        have cc : ¬ (n < 1 ∨ 255 < n) := by omega
        refine ⟨_, rfl, _, rfl, pg, C, dx, _, rfl, p.obj, T.cl, T.a_sharp, (by show 5 < 1000; decide), ?_⟩
        rw [put_sharp]
        have g := p.good
        have dn : an ≠ pg := ne_of p.num p.obj (by intro z; cases z)
        have di : ai ≠ pg := ne_of p.wi p.obj (by intro z; cases z)
        have dO : ao ≠ pg := ne_of p.wo p.obj (by intro z; cases z)
        refine k _ 0 ?_ (fun b o e hb => by rw [upd_ne hb]; exact e) ?_
        · rw [sharp_ok cc]
          exact ⟨dx, an, ai, ao, ⟨upd_same, by rw [upd_ne dn]; exact p.num, by rw [upd_ne di]; exact p.wi, by rw [upd_ne dO]; exact p.wo,
            ⟨g.w1, g.w5, g.h1, g.h5, g.len, g.v255, (by show 1 ≤ n; omega), (by show n ≤ 255; omega), g.insC, g.outsC, g.apart⟩⟩, off⟩
        · rw [sharp_ok cc]

/-- a call that leaves the page as it is and answers a new list -/
def spList (H : Hp) (r : List Int) (Q : VK) : Prop := ∀ (H' : Hp) (p : Addr), Same H H' → H p = none → H' p = some (.lst (r.map V.int)) → Q (.ref p) H'

def chosen (s : Ie10.St) (c t : Nat) (by_ : Bool) : List Int := if s.n ≤ c then [-1] else if 255 < t then [-2] else Ie10.told (reached s by_ c t)
def spChoose (C : Addr) : Sp := fun vs H Q _ => ∃ (pg dx an ai ao : Addr) (s : Ie10.St) (c t : Nat) (by_ : Bool), vs = [.ref pg, .int c, .int t, .bl by_] ∧ PageAt C H pg dx an ai ao s ∧ spList H (chosen s c t by_) Q

theorem reached_len {s : Ie10.St} {by_ : Bool} {c t : Nat} (hc : c < s.n) : (reached s by_ c t).length ≤ s.n := by
  have := (reached_sorted (by_ := by_) (t := t) hc).length_le
  rwa [List.length_range] at this

theorem ok_choose {f f1 f2 : Addr} {fd fd1 fd2 : FuncData} (F : Fun K "choose" "choose" s_choose f fd) (T : Txt K mg C)
    (D_is_cell : DefAt P w K mg base 1 "is_cell" ["page", "cell"] (spIsCell C) f1 fd1)
    (D_cells_reached : DefAt P w K mg base 2 "cells_reached" ["page", "start", "bound", "by_steps"] (spReached C) f2 fd2) :
    FnOk P w K mg base CX0 3 f fd ["page", "start", "bound", "by_steps"] (spChoose C) := by
  refine F.ok sc_choose (fun vs H Q E h => ?_) (fun cdv A outer s H vs Q E hr h => ⟨_, (pss_cons (ps_if (pt_not (pt_val (pe_call D_is_cell.ok (hr.mono (by decide)) rfl D_is_cell.g D_is_cell.kp D_is_cell.b .nil pass0 (pa_cons (pv 0) (pa_cons (pv 1) pa_nil)))))
 (pss_one (ps_ret (pe_lst (pa_cons (pe_glob (v := .int (-1)) rfl (Exists.choose_spec T.g_NO_PLACE) ⟨_, rfl⟩) pa_nil))))
 pss_nil)
 (pss_cons (ps_if (pt_cmpR op_gt (pv 2) (pe_glob (v := .int (255)) rfl (Exists.choose_spec T.g_GREATEST_NUMBER) ⟨_, rfl⟩) (nomark _))
 (pss_one (ps_ret (pe_lst (pa_cons (pe_glob (v := .int (-2)) rfl (Exists.choose_spec T.g_OUT_OF_BOUNDS) ⟨_, rfl⟩) pa_nil))))
 pss_nil)
 (pss_cons (ps_set (i := 4) sc_choose.nd rfl (Or.inl rfl) (pe_call D_cells_reached.ok (hr.mono (by decide)) rfl D_cells_reached.g D_cells_reached.kp D_cells_reached.b .nil pass0 (pa_cons (pv 0) (pa_cons (pv 1) (pa_cons (pv 2) (pa_cons (pv 3) pa_nil))))))
 (pss_one (ps_ret (pe_op op_cat (pe_lst (pa_cons (pe_callB call_len_seq (by rfl) T.n_len PySem.boot_len (pa_cons (pv 4) pa_nil)) pa_nil)) (pv 4))))))), ?_⟩)
  · obtain ⟨_, _, _, _, _, _, _, _, _, rfl, _⟩ := h
    rfl
  · obtain ⟨pg, dx, an, ai, ao, s, c, t, by_, rfl, p, k⟩ := h
    have hsn : s.n = s.v.length := p.len.symm
    have n25 := p.n25
    refine ⟨_, rfl, _, rfl, pg, dx, an, ai, ao, s, c, rfl, p, _, rfl, ?_⟩
    by_cases h1 : c < s.v.length
    · rw [decide_eq_true h1]
      refine iteF ⟨_, rfl, _, _, rfl, rfl, _, rfl, ite2 (fun h2 => ?_) (fun h2 => ?_)⟩
      · have h2 := of_decide_eq_true h2
        refine ⟨(by show 1 ≤ sizeLine; decide), fun l hl => k _ l (same_upd hl) hl ?_⟩
        rw [upd_same]
        unfold chosen
        rw [if_neg (by omega), if_pos (by omega)]
        rfl
      · have h2 : ¬ (255 : Int) < (t : Int) := fun h => h2 (decide_eq_true h)
        refine ⟨_, rfl, _, rfl, _, rfl, _, rfl, pg, dx, an, ai, ao, s, c, t, by_, rfl, p, h1, fun H1 q s1 hq hq1 => ?_⟩
        have rl := reached_len (s := s) (by_ := by_) (c := c) (t := t) (by omega)
        refine ⟨_, rfl, q, _, rfl, .inl (SqL.of hq1), (by show 1 ≤ sizeLine; decide), fun l hl => ?_⟩
        have hql : q ≠ l := ne_of_none hq1 hl
        refine ⟨_, rfl, l, q, _, _, rfl, rfl, upd_same, (by rw [upd_ne hql]; exact hq1), ?_, fun m hm => ?_⟩
        · refine Nat.le_of_lt (small1000 ?_)
          rw [nv_len]
          show 1 + _ ≤ 1000
          omega
        · refine k _ m (s1.trans ((same_upd hl).trans (same_upd hm))) ((s1.trans (same_upd hl)).free hm) ?_
          rw [upd_same]
          unfold chosen
          rw [if_neg (by omega), if_neg (by omega)]
          unfold Ie10.told Ie10.ints
          simp [nv, List.map_map, Function.comp_def]
    · rw [decide_eq_false h1]
      refine iteT ⟨(by show 1 ≤ sizeLine; decide), fun l hl => k _ l (same_upd hl) hl ?_⟩
      rw [upd_same]
      unfold chosen
      rw [if_pos (by omega)]
      rfl
end
end Cl
namespace Cl
open PySem PySem.Spec PyProof.Rows L2

theorem inV_nv {c : Nat} : ∀ (o : List Nat), inV (.int (c : Int)) (nv o) = o.contains c
  | [] => rfl
  | a :: o => by
    have ih := inV_nv (c := c) o
    show (eqV (.int (a : Int)) (.int (c : Int)) || inV (.int (c : Int)) (nv o)) = _
    rw [ih, List.contains_cons]
    show ((a : Int) == (c : Int) || _) = _
    have : ((a : Int) == (c : Int)) = (c == a) := by
      rw [Bool.eq_iff_iff]
      simp
      omega
    rw [this]
theorem flat_nv : ∀ (o : List Nat), (nv o).all flatV = true
  | [] => rfl
  | _ :: o => flat_nv o

section
variable {P : Program} {w : World} {K : PySem.W.Frag} {mg : Str → Option Value} {base : Heap} {C : Addr}

def seedsAns (s : Ie10.St) (l o : List Nat) : Int := if Ie10.isCells s l = false then -1 else if l.any o.contains then -6 else (l.length : Int)
def spSeeds (C : Addr) : Sp := fun vs H Q _ => ∃ (pg dx an ai ao : Addr) (s : Ie10.St) (ca ob : Addr) (l o : List Nat), vs = [.ref pg, .ref ca, .ref ob] ∧ PageAt C H pg dx an ai ao s ∧
  H ca = some (.lst (nv l)) ∧ H ob = some (.lst (nv o)) ∧ Q (.int (seedsAns s l o)) H
theorem ok_seeds {f f1 : Addr} {fd fd1 : FuncData} (F : Fun K "seeds_answer" "seeds_answer" s_seeds_answer f fd) (T : Txt K mg C)
    (D_are_rising_cells : DefAt P w K mg base 2 "are_rising_cells" ["page", "cells"] (spRising C) f1 fd1) :
    FnOk P w K mg base CX0 3 f fd ["page", "cells", "other_side"] (spSeeds C) := by
  refine F.ok sc_seeds_answer (fun vs H Q E h => ?_) (fun cdv A outer s H vs Q E hr h => ⟨_, (pss_cons (ps_if (pt_not (pt_val (pe_call D_are_rising_cells.ok (hr.mono (by decide)) rfl D_are_rising_cells.g D_are_rising_cells.kp D_are_rising_cells.b .nil pass0 (pa_cons (pv 0) (pa_cons (pv 1) pa_nil)))))
 (pss_one (ps_ret (pe_glob (v := .int (-1)) rfl (Exists.choose_spec T.g_NO_PLACE) ⟨_, rfl⟩)))
 pss_nil)
 (pss_cons (ps_for PassesOwn.never rfl (pi_list (pv 1)) (pg_name (i := 3) sc_seeds_answer.nd rfl (Or.inl rfl))
 (pss_one (ps_if (pt_cmpR op_in_seq (pv 3) (pv 2) (by rfl))
 (pss_one (ps_ret (pe_glob (v := .int (-6)) rfl (Exists.choose_spec T.g_OTHER_SIDE) ⟨_, rfl⟩)))
 pss_nil)))
 (pss_one (ps_ret (pe_callB call_len_seq (by rfl) T.n_len PySem.boot_len (pa_cons (pv 1) pa_nil)))))), ?_⟩)
  · obtain ⟨_, _, _, _, _, _, _, _, _, _, rfl, _⟩ := h
    rfl
  · obtain ⟨pg, dx, an, ai, ao, s, ca, ob, l, o, rfl, p, hca, hob, k⟩ := h
    refine ⟨_, rfl, _, rfl, pg, dx, an, ai, ao, s, ca, l, rfl, p, hca, _, rfl, ?_⟩
    unfold seedsAns at k
    cases hI : Ie10.isCells s l with
    | false =>
      rw [if_pos hI] at k
      exact iteT k
    | true =>
      rw [if_neg (by rw [hI]; exact Bool.noConfusion)] at k
      refine iteF ⟨_, rfl, ca, rfl, ⟨_, SqL.of hca⟩, for_list (K := K) (a := ca) (xs := nv l) (fun i σ H' => H' = H ∧ (∃ v : Option V, σ = [some (.ref pg), some (.ref ca), some (.ref ob), v]) ∧ ∀ x, x ∈ l.take i → o.contains x = false)
        ⟨rfl, ⟨none, rfl⟩, fun x hx => by simp at hx⟩ (fun i σ H' _ h => by rw [h.1]; exact SqL.of hca) ?_ ?_⟩
      · rintro i x σ H' hi ⟨rfl, ⟨v, rfl⟩, hm⟩
        obtain ⟨c, hc, rfl⟩ := nv_get hi
        refine ⟨_, rfl, _, rfl, ob, _, rfl, .inl (SqL.of hob), rfl, flat_nv o, _, rfl, ?_⟩
        show if inV (.int (c : Int)) (nv o) = true then _ else _
        rw [inV_nv]
        refine ite2 (fun h1 => ?_) (fun h1 => ?_)
        · rw [if_pos (List.any_eq_true.mpr ⟨c, List.mem_of_getElem? hc, h1⟩)] at k
          exact k
        · refine ⟨rfl, ⟨_, rfl⟩, ?_⟩
          intro y hy
          rw [List.take_add_one, hc] at hy
          rcases List.mem_append.mp hy with hy | hy
          · exact hm y hy
          · have : y = c := by simpa using hy
            subst this
            exact Bool.eq_false_iff.mpr h1
      · rintro σ H' ⟨rfl, ⟨v, rfl⟩, hm⟩
        rw [nv_len, List.take_length] at hm
        refine ⟨_, rfl, ca, _, rfl, .inl (SqL.of hca), ?_⟩
        rw [if_neg (by
          rw [List.any_eq_true]
          rintro ⟨x, hx, e⟩
          rw [hm x hx] at e
          cases e)] at k
        rw [nv_len]
        exact k

theorem ins_no {s : Ie10.St} {l : List Nat} (c : Ie10.isCells s l = false) : Ie10.step s (.ins l) = (s, [-1]) := if_pos c
theorem ins_far {s : Ie10.St} {l : List Nat} (c : ¬ Ie10.isCells s l = false) (d : l.any s.outs.contains = true) : Ie10.step s (.ins l) = (s, [-6]) := (if_neg c).trans (if_pos d)
theorem ins_ok {s : Ie10.St} {l : List Nat} (c : ¬ Ie10.isCells s l = false) (d : ¬ l.any s.outs.contains = true) : Ie10.step s (.ins l) = ({ s with ins := l }, Ie10.ints [l.length]) := (if_neg c).trans (if_neg d)
theorem outs_no {s : Ie10.St} {l : List Nat} (c : Ie10.isCells s l = false) : Ie10.step s (.outs l) = (s, [-1]) := if_pos c
theorem outs_far {s : Ie10.St} {l : List Nat} (c : ¬ Ie10.isCells s l = false) (d : l.any s.ins.contains = true) : Ie10.step s (.outs l) = (s, [-6]) := (if_neg c).trans (if_pos d)
theorem outs_ok {s : Ie10.St} {l : List Nat} (c : ¬ Ie10.isCells s l = false) (d : ¬ l.any s.ins.contains = true) : Ie10.step s (.outs l) = ({ s with outs := l }, Ie10.ints [l.length]) := (if_neg c).trans (if_neg d)

def spPutIns (C : Addr) : Sp := fun vs H Q _ => ∃ (pg dx an ai ao g : Addr) (s : Ie10.St) (ca : Addr) (l : List Nat), vs = [.ref pg, .ref ca] ∧ PageAt C H pg dx an ai ao s ∧ (an ≠ g ∧ ai ≠ g ∧ ao ≠ g) ∧ H g ≠ none ∧
  H ca = some (.lst (nv l)) ∧ spOne C g pg H s (.ins l) Q
def spPutOuts (C : Addr) : Sp := fun vs H Q _ => ∃ (pg dx an ai ao g : Addr) (s : Ie10.St) (ca : Addr) (l : List Nat), vs = [.ref pg, .ref ca] ∧ PageAt C H pg dx an ai ao s ∧ (an ≠ g ∧ ai ≠ g ∧ ao ≠ g) ∧ H g ≠ none ∧
  H ca = some (.lst (nv l)) ∧ spOne C g pg H s (.outs l) Q
theorem ok_put_ins {f f1 : Addr} {fd fd1 : FuncData} (F : Fun K "put_within" "put_within" s_put_within f fd) (T : Txt K mg C)
    (D_seeds_answer : DefAt P w K mg base 3 "seeds_answer" ["page", "cells", "other_side"] (spSeeds C) f1 fd1) :
    FnOk P w K mg base CX0 4 f fd ["page", "cells"] (spPutIns C) := by
  refine F.ok sc_put_within (fun vs H Q E h => ?_) (fun cdv A outer s H vs Q E hr h => ⟨_, (pss_cons (ps_set (i := 2) sc_put_within.nd rfl (Or.inl rfl) (pe_call D_seeds_answer.ok (hr.mono (by decide)) rfl D_seeds_answer.g D_seeds_answer.kp D_seeds_answer.b .nil pass0 (pa_cons (pv 0) (pa_cons (pv 1) (pa_cons (pe_fld (pv 0) rfl) pa_nil)))))
 (pss_cons (ps_if (pt_cmpR op_ge (pv 2) pe_int (nomark _))
 (pss_one (ps_fld (pv 0) (pe_callTy call_list_of (by rfl) T.n_list (by decide +kernel) (pa_cons (pv 1) pa_nil)) rfl))
 pss_nil)
 (pss_one (ps_ret (pv 2))))), ?_⟩)
  · obtain ⟨_, _, _, _, _, _, _, _, _, rfl, _⟩ := h
    rfl
  · obtain ⟨pg, dx, an, ai, ao, g0, s, ca, l, rfl, p, off, hg0, hca, k⟩ := h
    refine ⟨_, rfl, _, rfl, _, rfl, pg, C, dx, _, _, rfl, p.obj, T.cl, T.a_without, pF_without, pg, dx, an, ai, ao, s, ca, ao, l, s.outs, rfl, p, hca, p.wo, ?_⟩
    refine ⟨_, rfl, _, _, rfl, rfl, _, rfl, ite2 (fun h1 => ?_) (fun h1 => ?_)⟩
    · have h1 := of_decide_eq_true h1
      have c : ¬ Ie10.isCells s l = false := fun c => by rw [seedsAns, if_pos c] at h1; exact absurd h1 (by decide)
      have d : ¬ l.any s.outs.contains = true := fun d => by rw [seedsAns, if_neg c, if_pos d] at h1; exact absurd h1 (by decide)
      refine ⟨_, rfl, ca, _, rfl, .inl (SqL.of hca), fun l1 n1 => ?_⟩
      have d1 : l1 ≠ pg := (ne_of_none p.obj n1).symm
      refine ⟨_, rfl, pg, C, dx, _, rfl, (by rw [upd_ne d1.symm]; exact p.obj), T.cl, T.a_within, (by show 5 < 1000; decide), ?_⟩
      rw [Cl.put_within]
      have g := p.good
      have dn : an ≠ pg := ne_of p.num p.obj (by intro z; cases z)
      have dO : ao ≠ pg := ne_of p.wo p.obj (by intro z; cases z)
      have e : seedsAns s l s.outs = (l.length : Int) := by rw [seedsAns, if_neg c, if_neg d]
      refine ⟨_, rfl, k _ _ ?_ ?_ ?_⟩
      · rw [ins_ok c d]
        refine ⟨dx, an, l1, ao, ⟨upd_same, ?_, ?_, ?_, ⟨g.w1, g.w5, g.h1, g.h5, g.len, g.v255, g.k1, g.k255, ?_, g.outsC, ?_⟩⟩, off.1, (fun e => hg0 (e ▸ n1)), off.2.2⟩
        · rw [upd_ne dn, upd_ne (ne_of_none p.num n1)]; exact p.num
        · rw [upd_ne d1]; exact upd_same
        · rw [upd_ne dO, upd_ne (ne_of_none p.wo n1)]; exact p.wo
        · exact Bool.not_eq_false _ ▸ c
        · intro a ha hb
          exact d (List.any_eq_true.mpr ⟨a, ha, List.contains_iff_mem.mpr hb⟩)
      · intro b o eb hb
        rw [upd_ne hb, upd_ne (ne_of_none eb n1)]
        exact eb
      · rw [ins_ok c d, e]
        rfl
    · have h1 : ¬ (0 : Int) ≤ seedsAns s l s.outs := fun h => h1 (decide_eq_true h)
      refine ⟨_, rfl, k _ _ ?_ (fun b o e _ => e) ?_⟩
      · by_cases c : Ie10.isCells s l = false
        · rw [ins_no c]; exact ⟨dx, an, ai, ao, p, off⟩
        · by_cases d : l.any s.outs.contains = true
          · rw [ins_far c d]; exact ⟨dx, an, ai, ao, p, off⟩
          · exfalso
            rw [seedsAns, if_neg c, if_neg d] at h1
            omega
      · by_cases c : Ie10.isCells s l = false
        · rw [ins_no c, seedsAns, if_pos c]
        · by_cases d : l.any s.outs.contains = true
          · rw [ins_far c d, seedsAns, if_neg c, if_pos d]
          · exfalso
            rw [seedsAns, if_neg c, if_neg d] at h1
            omega
theorem ok_put_outs {f f1 : Addr} {fd fd1 : FuncData} (F : Fun K "put_without" "put_without" s_put_without f fd) (T : Txt K mg C)
    (D_seeds_answer : DefAt P w K mg base 3 "seeds_answer" ["page", "cells", "other_side"] (spSeeds C) f1 fd1) :
    FnOk P w K mg base CX0 4 f fd ["page", "cells"] (spPutOuts C) := by
  refine F.ok sc_put_without (fun vs H Q E h => ?_) (fun cdv A outer s H vs Q E hr h => ⟨_, (pss_cons (ps_set (i := 2) sc_put_without.nd rfl (Or.inl rfl) (pe_call D_seeds_answer.ok (hr.mono (by decide)) rfl D_seeds_answer.g D_seeds_answer.kp D_seeds_answer.b .nil pass0 (pa_cons (pv 0) (pa_cons (pv 1) (pa_cons (pe_fld (pv 0) rfl) pa_nil)))))
 (pss_cons (ps_if (pt_cmpR op_ge (pv 2) pe_int (nomark _))
 (pss_one (ps_fld (pv 0) (pe_callTy call_list_of (by rfl) T.n_list (by decide +kernel) (pa_cons (pv 1) pa_nil)) rfl))
 pss_nil)
 (pss_one (ps_ret (pv 2))))), ?_⟩)
  · obtain ⟨_, _, _, _, _, _, _, _, _, rfl, _⟩ := h
    rfl
  · obtain ⟨pg, dx, an, ai, ao, g0, s, ca, l, rfl, p, off, hg0, hca, k⟩ := h
    refine ⟨_, rfl, _, rfl, _, rfl, pg, C, dx, _, _, rfl, p.obj, T.cl, T.a_within, pF_within, pg, dx, an, ai, ao, s, ca, ai, l, s.ins, rfl, p, hca, p.wi, ?_⟩
    refine ⟨_, rfl, _, _, rfl, rfl, _, rfl, ite2 (fun h1 => ?_) (fun h1 => ?_)⟩
    · have h1 := of_decide_eq_true h1
      have c : ¬ Ie10.isCells s l = false := fun c => by rw [seedsAns, if_pos c] at h1; exact absurd h1 (by decide)
      have d : ¬ l.any s.ins.contains = true := fun d => by rw [seedsAns, if_neg c, if_pos d] at h1; exact absurd h1 (by decide)
      refine ⟨_, rfl, ca, _, rfl, .inl (SqL.of hca), fun l1 n1 => ?_⟩
      have d1 : l1 ≠ pg := (ne_of_none p.obj n1).symm
      refine ⟨_, rfl, pg, C, dx, _, rfl, (by rw [upd_ne d1.symm]; exact p.obj), T.cl, T.a_without, (by show 5 < 1000; decide), ?_⟩
      rw [Cl.put_without]
      have g := p.good
      have dn : an ≠ pg := ne_of p.num p.obj (by intro z; cases z)
      have di : ai ≠ pg := ne_of p.wi p.obj (by intro z; cases z)
      have e : seedsAns s l s.ins = (l.length : Int) := by rw [seedsAns, if_neg c, if_neg d]
      refine ⟨_, rfl, k _ _ ?_ ?_ ?_⟩
      · rw [outs_ok c d]
        refine ⟨dx, an, ai, l1, ⟨upd_same, ?_, ?_, ?_, ⟨g.w1, g.w5, g.h1, g.h5, g.len, g.v255, g.k1, g.k255, g.insC, ?_, ?_⟩⟩, off.1, off.2.1, (fun e => hg0 (e ▸ n1))⟩
        · rw [upd_ne dn, upd_ne (ne_of_none p.num n1)]; exact p.num
        · rw [upd_ne di, upd_ne (ne_of_none p.wi n1)]; exact p.wi
        · rw [upd_ne d1]; exact upd_same
        · exact Bool.not_eq_false _ ▸ c
        · intro a ha hb
          exact d (List.any_eq_true.mpr ⟨a, hb, List.contains_iff_mem.mpr ha⟩)
      · intro b o eb hb
        rw [upd_ne hb, upd_ne (ne_of_none eb n1)]
        exact eb
      · rw [outs_ok c d, e]
        rfl
    · have h1 : ¬ (0 : Int) ≤ seedsAns s l s.ins := fun h => h1 (decide_eq_true h)
      refine ⟨_, rfl, k _ _ ?_ (fun b o e _ => e) ?_⟩
      · by_cases c : Ie10.isCells s l = false
        · rw [outs_no c]; exact ⟨dx, an, ai, ao, p, off⟩
        · by_cases d : l.any s.ins.contains = true
          · rw [outs_far c d]; exact ⟨dx, an, ai, ao, p, off⟩
          · exfalso
            rw [seedsAns, if_neg c, if_neg d] at h1
            omega
      · by_cases c : Ie10.isCells s l = false
        · rw [outs_no c, seedsAns, if_pos c]
        · by_cases d : l.any s.ins.contains = true
          · rw [outs_far c d, seedsAns, if_neg c, if_pos d]
          · exfalso
            rw [seedsAns, if_neg c, if_neg d] at h1
            omega
end
end Cl
namespace Cl
open PySem PySem.Spec PyProof.Rows L2

theorem with_mid {A u : TS} {D : Ends} {σ : L2.St} {H : Hp} (M : L2.St → Hp → Prop) (h2 : ∀ σ' H', M σ' H' → u D σ' H') (h1 : (∀ σ' H', M σ' H' → u D σ' H') → tSeq A u D σ H) : tSeq A u D σ H := h1 h2
theorem seq_const {v : V} {i : Nat} {u : TS} {D : Ends} {σ : L2.St} {H : Hp} (h : u D (σ.set i (some v)) H) : tSeq (tAsg (tC v) (gName i)) u D σ H := h
theorem nv_app (a b : List Nat) : nv (a ++ b) = nv a ++ nv b := List.map_append ..
theorem cut_mid {a b c : List Nat} {i j : Int} (hi : i = (a.length : Int)) (hj : j = ((a.length + b.length : Nat) : Int)) : cutV (nv (a ++ (b ++ c))) (some i) (some j) = nv b := by
  subst hi; subst hj
  unfold cutV
  rw [HT.sIx_nat, HT.sIx_nat, nv_len]
  have e1 : min a.length (a ++ (b ++ c)).length = a.length := by simp
  have e2 : min (a.length + b.length) (a ++ (b ++ c)).length = a.length + b.length := by simp
  rw [e1, e2, nv_app, nv_app, Nat.add_sub_cancel_left]
  have h1 : (nv a ++ (nv b ++ nv c)).drop a.length = nv b ++ nv c := by
    have := List.drop_left (l₁ := nv a) (l₂ := nv b ++ nv c)
    rwa [nv_len] at this
  rw [h1]
  have := List.take_left (l₁ := nv b) (l₂ := nv c)
  rwa [nv_len] at this
theorem get_mid {a : List Nat} {x : Nat} {c : List Nat} {i : Int} (hi : i = (a.length : Int)) : atI (nv (a ++ x :: c)) i = some (.int (x : Int)) := by
  subst hi
  refine atI_nat ?_
  rw [List.getElem?_map, List.getElem?_append_right (Nat.le_refl _), Nat.sub_self]
  rfl

section
variable {P : Program} {w : World} {K : PySem.W.Frag} {mg : Str → Option Value} {base : Heap} {C : Addr}

def spInit (C : Addr) : Sp := fun vs H Q _ => ∃ (p dx : Addr), vs = [.ref p] ∧ H p = some (.ins C dx []) ∧
  ∀ H' : Hp, PgAt C H' p Ie10.init → Keeps p H H' → Q .non H'
def fL1 : List (Str × V) := [("columns", .int 1)]
def fL2 (an : Addr) : List (Str × V) := [("columns", .int 1), ("numbers", .ref an)]
def fL3 (an : Addr) : List (Str × V) := [("columns", .int 1), ("numbers", .ref an), ("sharp", .int 1)]
def fL4 (an ai : Addr) : List (Str × V) := [("columns", .int 1), ("numbers", .ref an), ("sharp", .int 1), ("within", .ref ai)]
theorem pF_new {an ai ao : Addr} : putF "without" (.ref ao) (putF "within" (.ref ai) (putF "sharp" (.int 1) (putF "numbers" (.ref an) (putF "columns" (.int 1) [])))) = pF 1 an 1 ai ao := by
  have h2 : putF "numbers" (.ref an) (fL1) = fL2 an := (put_past (by decide +kernel)).trans rfl
  have h3 : putF "sharp" (.int 1) (fL2 an) = fL3 an := (put_past (by decide +kernel)).trans (congrArg _ ((put_past (by decide +kernel)).trans rfl))
  have h4 : putF "within" (.ref ai) (fL3 an) = fL4 an ai :=
    (put_past (by decide +kernel)).trans (congrArg _ ((put_past (by decide +kernel)).trans (congrArg _ ((put_past (by decide +kernel)).trans rfl))))
  show putF "without" (.ref ao) (putF "within" (.ref ai) (putF "sharp" (.int 1) (putF "numbers" (.ref an) fL1))) = _
  rw [h2, h3, h4]
  exact (put_past (by decide +kernel)).trans (congrArg _ ((put_past (by decide +kernel)).trans (congrArg _ ((put_past (by decide +kernel)).trans (congrArg _ ((put_past (by decide +kernel)).trans rfl))))))
theorem good_init : Good Ie10.init := by
  refine ⟨?_, ?_, ?_, ?_, ?_, ?_, ?_, ?_, ?_, ?_, ?_⟩ <;> simp [Ie10.init, Ie10.isCells, Ie10.rising]

theorem ok_init {f : Addr} {fd : FuncData} (F : Fun K "__init__" "Page.__init__" s_Page_init f fd) (T : Txt K mg C) :
    FnOk P w K mg base CX0 1 f fd ["self"] (spInit C) := by
  refine F.ok sc_Page_init (fun vs H Q E h => ?_) (fun cdv A outer s H vs Q E hr h => ⟨_, (pss_cons (ps_fld (pv 0) pe_int rfl)
 (pss_cons (ps_fld (pv 0) (pe_lst (pa_cons pe_int pa_nil)) rfl)
 (pss_cons (ps_fld (pv 0) pe_int rfl)
 (pss_cons (ps_fld (pv 0) (pe_lst pa_nil) rfl)
 (pss_one (ps_fld (pv 0) (pe_lst pa_nil) rfl)))))), ?_⟩)
  · obtain ⟨_, _, rfl, _⟩ := h
    rfl
  · obtain ⟨p, dx, rfl, hp, k⟩ := h
    refine ⟨_, rfl, p, C, dx, _, rfl, hp, T.cl, T.a_columns, (by show 0 < 1000; decide), ?_⟩
    refine ⟨(by show 1 ≤ sizeLine; decide), fun l1 n1 => ?_⟩
    have d1 : l1 ≠ p := (ne_of_none upd_same n1).symm
    have f1 : H l1 = none := by rw [upd_ne d1] at n1; exact n1
    refine ⟨_, rfl, p, C, dx, _, rfl, (by rw [upd_ne d1.symm]; exact upd_same), T.cl, T.a_numbers, (by show 1 < 1000; decide), ?_⟩
    refine ⟨_, rfl, p, C, dx, _, rfl, upd_same, T.cl, T.a_sharp, (by show 2 < 1000; decide), ?_⟩
    refine ⟨(by show 0 ≤ sizeLine; decide), fun l2 n2 => ?_⟩
    have d2 : l2 ≠ p := (ne_of_none upd_same n2).symm
    have d21 : l2 ≠ l1 := by
      intro e; subst e
      rw [upd_ne d2, upd_ne d2, upd_same] at n2; cases n2
    have f2 : H l2 = none := by rw [upd_ne d2, upd_ne d2, upd_ne d21, upd_ne d2] at n2; exact n2
    refine ⟨_, rfl, p, C, dx, _, rfl, (by rw [upd_ne d2.symm]; exact upd_same), T.cl, T.a_within, (by show 3 < 1000; decide), ?_⟩
    refine ⟨(by show 0 ≤ sizeLine; decide), fun l3 n3 => ?_⟩
    have d3 : l3 ≠ p := (ne_of_none upd_same n3).symm
    have d32 : l3 ≠ l2 := by
      intro e; subst e
      rw [upd_ne d3, upd_same] at n3; cases n3
    have d31 : l3 ≠ l1 := by
      intro e; subst e
      rw [upd_ne d3, upd_ne d32, upd_ne d3, upd_ne d3, upd_same] at n3; cases n3
    have f3 : H l3 = none := by rw [upd_ne d3, upd_ne d32, upd_ne d3, upd_ne d3, upd_ne d31, upd_ne d3] at n3; exact n3
    refine ⟨_, rfl, p, C, dx, _, rfl, (by rw [upd_ne d3.symm]; exact upd_same), T.cl, T.a_without, (by show 4 < 1000; decide), ?_⟩
    refine k _ ⟨dx, l1, l2, l3, ?_, ?_, ?_, ?_, good_init⟩ ?_
    · rw [upd_same]
      exact congrArg (fun q => some (HO.ins C dx q)) pF_new
    · rw [upd_ne d1, upd_ne d31.symm, upd_ne d1, upd_ne d21.symm, upd_ne d1, upd_ne d1]; exact upd_same
    · rw [upd_ne d2, upd_ne d32.symm, upd_ne d2]; exact upd_same
    · rw [upd_ne d3]; exact upd_same
    · intro b o e hb
      rw [upd_ne hb, upd_ne (ne_of_none e f3), upd_ne hb, upd_ne (ne_of_none e f2), upd_ne hb, upd_ne hb, upd_ne (ne_of_none e f1), upd_ne hb]
      exact e

/-- a call is answered: its number, its whole numbers, its row -/
def spAnswerTo (C : Addr) : Sp := fun vs H Q _ => ∃ (pg g : Addr) (s : Ie10.St) (c : Ie10.Call) (wa ra : Addr), vs = [.ref pg, .int (num c : Nat), .ref wa, .ref ra] ∧ PgOff C g H pg s ∧ H g ≠ none ∧
  H wa = some (.lst (nv (whl c))) ∧ H ra = some (.lst (nv (rowOf c))) ∧ Short c ∧
  ∀ (H' : Hp) (p : Addr), PgOff C g H' pg (Ie10.step s c).1 → Keeps pg H H' → H p = none → H' p = some (.lst ((Ie10.step s c).2.map V.int)) → Q (.ref p) H'

structure InitAt (P : Program) (w : World) (K : PySem.W.Frag) (mg : Str → Option Value) (base : Heap) (C : Addr) (f : Addr) (fd : FuncData) : Prop where
  ok : FnOk P w K mg base CX0 1 f fd ["self"] (spInit C)
  b : Binds K fd ["self"] []
  mkC : Mk K C f

def spAns (K : PySem.W.Frag) : Sp := fun vs H Q _ => ∃ (a : Addr) (ns : List Int), vs = [.ref a] ∧ SqL K H a (ns.map V.int) ∧ ns.length ≤ 1360 ∧
  (∀ x, x ∈ ns → 0 ≤ x ∧ x ≤ 4294967295) ∧ PyIe10.answers_asked ns = true ∧
  ∀ (H' : Hp) (p : Addr), H' p = some (.lst ((PyIe10.answers ns).map V.int)) → Q (.ref p) H'

def atOf (σ : L2.St) (i : Nat) : Nat := match σ[i]? with | some (some (.int z)) => z.toNat | _ => 0

theorem wh_get (c : Ie10.Call) : ([2, 1, 2, 2, 0, 0, 0, 0, 0, 0, 2].map V.int)[num c]? = some (.int ((whl c).length : Int)) := by cases c <;> rfl
theorem hr_get (c : Ie10.Call) : ([true, false, false, false, true, true, false, false, true, false, false].map V.bl)[num c]? = some (.bl (hasR c)) := by cases c <;> rfl

theorem ok_answers {f f1 f2 : Addr} {fd fd1 fd2 : FuncData} (F : Fun K "answers" "answers" s_answers f fd) (T : Txt K mg C)
    (D_init : InitAt P w K mg base C f1 fd1)
    (D_answer_to : DefAt P w K mg base 7 "answer_to" ["page", "call", "wholes", "row"] (spAnswerTo C) f2 fd2) :
    FnOk P w K mg base CX0 8 f fd ["calls"] (spAns K) := by
  obtain ⟨w_WHOLES, g_WHOLES, q_WHOLES⟩ := T.e_WHOLES
  obtain ⟨w_HAS_ROW, g_HAS_ROW, q_HAS_ROW⟩ := T.e_HAS_ROW
  refine F.ok sc_answers (fun vs H Q E h => ?_) (fun cdv A outer s H vs Q E hr h => ⟨_, (pss_cons (ps_set (i := 1) sc_answers.nd rfl (Or.inl rfl) (pe_make0 D_init.mkC D_init.ok (hr.mono (by decide)) rfl T.g_Page D_init.b .nil pass0))
 (pss_cons (ps_set (i := 2) sc_answers.nd rfl (Or.inl rfl) (pe_lst pa_nil))
 (pss_cons (ps_set (i := 3) sc_answers.nd rfl (Or.inl rfl) pe_int)
 (pss_cons (ps_while PassesOwn.never (pt_cmpR op_lt (pv 3) (pe_callB call_len_seq (by rfl) T.n_len PySem.boot_len (pa_cons (pv 0) pa_nil)) (nomark _))
 (pss_cons (ps_set (i := 4) sc_answers.nd rfl (Or.inl rfl) (pe_ix ix_list (pv 0) (pv 3) (fun _ _ => rfl)))
 (pss_cons (ps_set (i := 5) sc_answers.nd rfl (Or.inl rfl) (pe_op op_add (pe_op op_add (pv 3) pe_int) (pe_ix ix_tup (pe_glob (v := .ref w_WHOLES) rfl g_WHOLES rfl) (pv 4) (fun _ _ => rfl))))
 (pss_cons (ps_set (i := 6) sc_answers.nd rfl (Or.inl rfl) (pe_slice sl_list (pv 0) (po_some (pe_op op_add (pv 3) pe_int)) (po_some (pv 5))))
 (pss_cons (ps_set (i := 7) sc_answers.nd rfl (Or.inl rfl) (pe_lst pa_nil))
 (pss_cons (ps_if (pt_val (pe_ix ix_tup (pe_glob (v := .ref w_HAS_ROW) rfl g_HAS_ROW rfl) (pv 4) (fun _ _ => rfl)))
 (pss_cons (ps_set (i := 8) sc_answers.nd rfl (Or.inl rfl) (pe_op op_add (pv 5) pe_int))
 (pss_cons (ps_set (i := 5) sc_answers.nd rfl (Or.inl rfl) (pe_op op_add (pv 8) (pe_ix ix_list (pv 0) (pv 5) (fun _ _ => rfl))))
 (pss_one (ps_set (i := 7) sc_answers.nd rfl (Or.inl rfl) (pe_slice sl_list (pv 0) (po_some (pv 8)) (po_some (pv 5)))))))
 pss_nil)
 (pss_cons (ps_set (i := 9) sc_answers.nd rfl (Or.inl rfl) (pe_call D_answer_to.ok (hr.mono (by decide)) rfl D_answer_to.g D_answer_to.kp D_answer_to.b .nil pass0 (pa_cons (pv 1) (pa_cons (pv 4) (pa_cons (pv 6) (pa_cons (pv 7) pa_nil))))))
 (pss_cons (ps_expr (pe_bm PySem.F.plainAttrs_list PySem.F.slot_list_append PySem.F.type_list_append mt_append (pv 2) (pa_cons (pe_callB call_len_seq (by rfl) T.n_len PySem.boot_len (pa_cons (pv 9) pa_nil)) pa_nil)))
 (pss_cons (ps_expr (pe_bm PySem.F.plainAttrs_list PySem.F.slot_list_extend PySem.F.type_list_extend mt_extend (pv 2) (pa_cons (pv 9) pa_nil)))
 (pss_one (ps_set (i := 3) sc_answers.nd rfl (Or.inl rfl) (pv 5))))))))))))
 (pss_one (ps_ret (pv 2))))))), ?_⟩)
  · obtain ⟨_, _, rfl, _⟩ := h
    rfl
  · obtain ⟨ca, ns, rfl, hS, _, hrange, hask, k⟩ := h
    obtain ⟨cs, ens, hshort, _, etell, hten⟩ := flat_calls hrange hask
    have env : ns.map V.int = nv (cs.flatMap enc) := by rw [ens]; simp [nv, iz, List.map_map, Function.comp_def]
    rw [env] at hS
    rw [etell] at k hten
    clear env ens hask hrange etell
    -- page = Page()
    intro x dx nx nd ne
    refine ⟨x, dx, rfl, upd_same, fun H1 J kp => ⟨rfl, (by show 0 ≤ sizeLine; decide), fun g hg => ?_⟩⟩
    have s1 : Same H H1 := Same.made nx nd kp
    dsimp only [gName]
    refine seq_const ?_
    refine at_slots (σ' := [some (.ref ca), some (.ref x), some (.ref g), some (.int ((0 : Nat) : Int)), none, none, none, none, none, none]) rfl ?_
    have hgH : H g = none := s1.free hg
    have hxg : x ≠ g := by
      obtain ⟨_, _, _, _, J⟩ := J
      exact ne_of_none J.obj hg
    refine while_by (fun σ H' => ∃ (dn rs : List Ie10.Call) (s : Ie10.St) (sf : List Int) (v4 v5 v6 v7 v8 v9 : Option V), σ = [some (.ref ca), some (.ref x), some (.ref g), some (.int (((dn.flatMap enc).length : Nat) : Int)), v4, v5, v6, v7, v8, v9] ∧
        cs = dn ++ rs ∧ Same H H' ∧ PgOff C g H' x s ∧ H' g = some (.lst (sf.map V.int)) ∧ tell Ie10.init cs = sf ++ tell s rs)
      (fun σ _ => (cs.flatMap enc).length - atOf σ 3) ?_ ?_ ?_
    · refine ⟨[], cs, Ie10.init, [], none, none, none, none, none, none, rfl, rfl, s1.trans (same_upd hg), ?_, upd_same, rfl⟩
      obtain ⟨a, b, c, d, J⟩ := J
      exact ⟨a, b, c, d, J.same (same_upd hg), ne_of_none J.num hg, ne_of_none J.wi hg, ne_of_none J.wo hg⟩
    · rintro σ H' ⟨dn, rs, s, sf, v4, v5, v6, v7, v8, v9, rfl, rfl, sm, J', hg', htell⟩
      have hS' : SqL K H' ca (nv ((dn ++ rs).flatMap enc)) := sm.seq hS
      refine ⟨_, rfl, _, rfl, ca, _, rfl, .inl hS', _, _, rfl, rfl, _, rfl, ite2 (fun hlt => ?_) (fun hlt => ?_)⟩
      · have hlt := of_decide_eq_true hlt
        rw [nv_len] at hlt
        cases rs with
        | nil =>
          rw [List.append_nil] at hlt
          omega
        | cons c rs =>
        have efl : (dn ++ c :: rs).flatMap enc = dn.flatMap enc ++ (num c :: (whl c ++ ((if hasR c then (rowOf c).length :: rowOf c else []) ++ rs.flatMap enc))) := by
          rw [List.flatMap_append, List.flatMap_cons, enc_parts]
          simp
        rw [efl] at hS'
        have hshc : Short c := hshort c (by simp)
        generalize hA : dn.flatMap enc = pa at *
        -- call = calls[at]
        refine ⟨_, rfl, _, rfl, ca, _, _, _, rfl, rfl, hS', get_mid rfl, ?_⟩
        -- behind = at + 1 + WHOLES[call]
        refine ⟨_, rfl, _, _, rfl, rfl, _, rfl, w_WHOLES, _, _, _, rfl, rfl, q_WHOLES _, atI_nat (wh_get c), _, _, rfl, rfl, ?_⟩
        -- wholes = calls[at + 1:behind]
        refine ⟨_, rfl, _, rfl, _, _, rfl, rfl, _, rfl, _, rfl, _, rfl, ca, _, rfl, hS', fun wa hwa => ?_⟩
        have ecut : cutV (nv (pa ++ num c :: (whl c ++ ((if hasR c then (rowOf c).length :: rowOf c else []) ++ rs.flatMap enc)))) (some ((pa.length : Int) + 1)) (some ((pa.length : Int) + 1 + ((whl c).length : Int))) = nv (whl c) := by
          have := cut_mid (a := pa ++ [num c]) (b := whl c) (c := (if hasR c then (rowOf c).length :: rowOf c else []) ++ rs.flatMap enc) (i := (pa.length : Int) + 1) (j := (pa.length : Int) + 1 + ((whl c).length : Int)) (by simp) (by simp)
          rw [List.append_assoc] at this
          exact this
        dsimp only [gName]
        rw [ecut]
        refine at_slots (σ' := [some (.ref ca), some (.ref x), some (.ref g), some (.int (pa.length : Int)), some (.int (num c : Int)), some (.int ((pa.length : Int) + 1 + ((whl c).length : Int))), some (.ref wa), v7, v8, v9]) rfl ?_
        -- row = []
        refine ⟨(by show 0 ≤ sizeLine; decide), fun r0 hr0 => ?_⟩
        dsimp only [gName]
        refine at_slots (σ' := [some (.ref ca), some (.ref x), some (.ref g), some (.int (pa.length : Int)), some (.int (num c : Int)), some (.int ((pa.length : Int) + 1 + ((whl c).length : Int))), some (.ref wa), some (.ref r0), v8, v9]) rfl ?_
        have sm2 : Same H' (upd (upd H' wa (.lst (nv (whl c)))) r0 (.lst [])) := (same_upd hwa).trans (same_upd hr0)
        have hw2 : upd (upd H' wa (.lst (nv (whl c)))) r0 (.lst []) wa = some (.lst (nv (whl c))) := same_upd hr0 _ _ upd_same
        have J2 : ∀ H4, Same H' H4 → PgOff C g H4 x s := fun H4 h4 => by
          obtain ⟨a, b, c, d, J', off⟩ := J'
          exact ⟨a, b, c, d, J'.same h4, off⟩
        refine with_mid (M := fun σ' H4 => ∃ (ra : Addr) (v8 : Option V), σ' = [some (.ref ca), some (.ref x), some (.ref g), some (.int (pa.length : Int)), some (.int (num c : Int)), some (.int ((pa.length + (enc c).length : Nat) : Int)), some (.ref wa), some (.ref ra), v8, v9] ∧
          Same H H4 ∧ PgOff C g H4 x s ∧ H4 g = some (.lst (sf.map V.int)) ∧ H4 wa = some (.lst (nv (whl c))) ∧ H4 ra = some (.lst (nv (rowOf c)))) ?_ (fun cont => ?_)
        · rintro σ' H4 ⟨ra, v8, rfl, sm4, J4, hg4, hwa4, hra4⟩
          -- answer = answer_to(page, call, wholes, row)
          refine ⟨_, rfl, _, rfl, _, rfl, _, rfl, x, g, s, c, wa, ra, rfl, J4, (by rw [hg4]; simp), hwa4, hra4, hshc, fun H5 p J5 kp5 hp hp5 => ?_⟩
          have hg5 : H5 g = some (.lst (sf.map V.int)) := kp5 g _ hg4 hxg.symm
          have hpg : p ≠ g := (ne_of_none hg4 hp).symm
          have sm5 : Same H H5 := fun b o e => kp5 b o (sm4 b o e) (ne_of_none e nx)
          have et : tell s (c :: rs) = ((Ie10.step s c).2.length : Int) :: (Ie10.step s c).2 ++ tell (Ie10.step s c).1 rs := rfl
          have hsz : sf.length + 1 + (Ie10.step s c).2.length ≤ 10000000 := by
            rw [htell, et] at hten
            simp only [List.length_append, List.length_cons] at hten
            omega
          have szl : (10000000 : Nat) < sizeLine := by decide
          -- given.append(len(answer))
          refine ⟨_, rfl, .inl ⟨rfl, _, SqL.of hg5⟩, _, rfl, p, _, rfl, .inl (SqL.of hp5), g, _, _, rfl, rfl, hg5, (by rw [List.length_map]; omega), ?_⟩
          -- given.extend(answer)
          refine ⟨_, rfl, .inl ⟨rfl, _, SqL.of upd_same⟩, _, rfl, g, p, _, _, rfl, rfl, upd_same, (by rw [upd_ne hpg]; exact hp5), (by simp only [List.length_append, List.length_map, List.length_cons, List.length_nil]; omega), ?_⟩
          rw [upd_upd]
          -- at = behind
          refine ⟨_, rfl, ⟨dn ++ [c], rs, (Ie10.step s c).1, sf ++ (((Ie10.step s c).2.length : Int) :: (Ie10.step s c).2), some (.int (num c : Int)), some (.int ((pa.length + (enc c).length : Nat) : Int)), some (.ref wa), some (.ref ra), v8, some (.ref p), ?_, by simp, ?_, ?_, ?_, ?_⟩, ?_⟩
          · have : ((dn ++ [c]).flatMap enc).length = pa.length + (enc c).length := by rw [List.flatMap_append, hA]; simp
            rw [this]
            rfl
          · intro b o e
            rw [upd_ne (ne_of_none e hgH)]
            exact sm5 b o e
          · obtain ⟨a, b, d, e, J5, o1, o2, o3⟩ := J5
            exact ⟨a, b, d, e, ⟨by rw [upd_ne hxg]; exact J5.obj, by rw [upd_ne o1]; exact J5.num, by rw [upd_ne o2]; exact J5.wi, by rw [upd_ne o3]; exact J5.wo, J5.good⟩, o1, o2, o3⟩
          · rw [upd_same]
            simp
          · rw [htell, et]
            simp
          · have e1 : atOf ([some (V.ref ca), some (V.ref x), some (V.ref g), some (V.int ((pa.length + (enc c).length : Nat) : Int)), some (.int (num c : Int)), some (.int ((pa.length + (enc c).length : Nat) : Int)), some (.ref wa), some (.ref ra), v8, some (.ref p)]) 3 = pa.length + (enc c).length := rfl
            have e2 : 0 < (enc c).length := by rw [enc_parts]; simp
            have e3 : ∀ {a b c d e f : Option V}, atOf ([some (V.ref ca), some (V.ref x), some (V.ref g), some (V.int (pa.length : Int)), a, b, c, d, e, f]) 3 = pa.length := rfl
            show _ - atOf ([some (V.ref ca), some (V.ref x), some (V.ref g), some (V.int ((pa.length + (enc c).length : Nat) : Int)), some (.int (num c : Int)), some (.int ((pa.length + (enc c).length : Nat) : Int)), some (.ref wa), some (.ref ra), v8, some (.ref p)]) 3 < _ - atOf _ 3
            rw [e1, e3]
            omega
        · -- if HAS_ROW[call]
          refine ⟨_, rfl, w_HAS_ROW, _, _, _, rfl, rfl, q_HAS_ROW _, atI_nat (hr_get c), _, rfl, ite2 (fun hR => ?_) (fun hR => ?_)⟩
          · rw [if_pos hR] at hS'
            have hS2 := sm2.seq hS'
            have el : (enc c).length = 1 + (whl c).length + 1 + (rowOf c).length := by rw [enc_parts, if_pos hR]; simp; omega
            -- first = behind + 1
            refine ⟨_, rfl, _, _, rfl, rfl, ?_⟩
            -- behind = first + calls[behind]
            have eg : atI (nv (pa ++ num c :: (whl c ++ ((rowOf c).length :: rowOf c ++ rs.flatMap enc)))) ((pa.length : Int) + 1 + ((whl c).length : Int)) = some (.int ((rowOf c).length : Int)) := by
              have := get_mid (a := pa ++ num c :: whl c) (x := (rowOf c).length) (c := rowOf c ++ rs.flatMap enc) (i := (pa.length : Int) + 1 + ((whl c).length : Int)) (by simp; omega)
              rw [List.append_assoc] at this
              exact this
            refine ⟨_, rfl, _, rfl, _, rfl, ca, _, _, _, rfl, rfl, hS2, eg, _, _, rfl, rfl, ?_⟩
            -- row = calls[first:behind]
            refine ⟨_, rfl, _, rfl, _, rfl, _, rfl, _, rfl, ca, _, rfl, hS2, fun ra hra => ?_⟩
            have ec : cutV (nv (pa ++ num c :: (whl c ++ ((rowOf c).length :: rowOf c ++ rs.flatMap enc)))) (some ((pa.length : Int) + 1 + ((whl c).length : Int) + 1)) (some ((pa.length : Int) + 1 + ((whl c).length : Int) + 1 + ((rowOf c).length : Int))) = nv (rowOf c) := by
              have := cut_mid (a := pa ++ num c :: (whl c ++ [(rowOf c).length])) (b := rowOf c) (c := rs.flatMap enc) (i := (pa.length : Int) + 1 + ((whl c).length : Int) + 1) (j := (pa.length : Int) + 1 + ((whl c).length : Int) + 1 + ((rowOf c).length : Int)) (by simp; omega) (by simp; omega)
              rw [List.append_assoc, List.cons_append, List.append_assoc] at this
              exact this
            dsimp only [gName]
            rw [ec]
            have sm3 := sm2.trans (same_upd (o := .lst (nv (rowOf c))) hra)
            refine cont _ _ ⟨ra, some (.int ((pa.length : Int) + 1 + ((whl c).length : Int) + 1)), ?_, sm.trans sm3, J2 _ sm3, sm3 _ _ hg', same_upd hra _ _ hw2, upd_same⟩
            have eb : ((pa.length + (enc c).length : Nat) : Int) = (pa.length : Int) + 1 + ((whl c).length : Int) + 1 + ((rowOf c).length : Int) := by rw [el]; omega
            rw [eb]
            rfl
          · have hR : hasR c = false := Bool.eq_false_iff.mpr hR
            have el : (enc c).length = 1 + (whl c).length := by rw [enc_parts, hR]; simp; omega
            refine cont _ _ ⟨r0, v8, ?_, sm.trans sm2, J2 _ sm2, sm2 _ _ hg', hw2, by rw [row_none hR]; exact upd_same⟩
            have eb : ((pa.length + (enc c).length : Nat) : Int) = (pa.length : Int) + 1 + ((whl c).length : Int) := by rw [el]; omega
            rw [eb]
      · have hlt : ¬ (((dn.flatMap enc).length : Nat) : Int) < ((nv ((dn ++ rs).flatMap enc)).length : Int) := fun h => hlt (decide_eq_true h)
        rw [nv_len] at hlt
        have hrs : rs = [] := by
          cases rs with
          | nil => rfl
          | cons c rs =>
            exfalso
            apply hlt
            rw [List.flatMap_append, List.flatMap_cons, enc_parts]
            simp
            omega
        subst hrs
        refine ⟨_, rfl, k _ g ?_⟩
        rw [hg', htell]
        show _ = some (HO.lst ((sf ++ []).map V.int))
        rw [List.append_nil]
    · rintro σ H' Q1 Q2 himp ⟨v, hv, v2, hv2, a, b, e1, h2, i, j, e3, e4, kk, e5, h6⟩
      exact ⟨v, hv, v2, hv2, a, b, e1, h2, i, j, e3, e4, kk, e5, himp _ _ h6⟩
end
end Cl
namespace Cl
open PySem PySem.Spec PyProof.Rows L2

/-! Cells beside one: rising. -/
def besEq (w h : Nat) : Bool := (List.range (w * h)).all fun c => besL w (w * h) c == (List.range (w * h)).filter fun b => bes w c b
theorem besEq_all : (small5.all fun w => small5.all fun h => besEq w h) = true := by decide +kernel
theorem besL_eq {w h c : Nat} (w1 : 1 ≤ w) (w5 : w ≤ 5) (h1 : 1 ≤ h) (h5 : h ≤ 5) (hc : c < w * h) : besL w (w * h) c = (List.range (w * h)).filter fun b => bes w c b := by
  have a := List.all_eq_true.mp (List.all_eq_true.mp besEq_all w (mem_small5 w1 w5)) h (mem_small5 h1 h5)
  exact eq_of_beq (List.all_eq_true.mp a c (List.mem_range.mpr hc))
theorem besL_len {w n c : Nat} : (besL w n c).length ≤ 4 := by
  unfold besL
  simp only [List.length_append]
  have h : ∀ (p : Prop) [Decidable p] (x : Nat), (if p then [x] else []).length ≤ 1 := fun p _ x => by split <;> simp
  have h1 := h (w ≤ c) (c - w)
  have h2 := h (0 < c % w) (c - 1)
  have h3 := h (c % w + 1 < w) (c + 1)
  have h4 := h (c + w < n) (c + w)
  omega
theorem PageAt.bes {C : Addr} {H : Hp} {pg dx an ai ao : Addr} {s : Ie10.St} (p : PageAt C H pg dx an ai ao s) {c : Nat} (hc : c < s.v.length) :
    besL s.w s.v.length c = (List.range s.v.length).filter fun b => Cl.bes s.w c b := by
  rw [p.len] at hc ⊢
  exact besL_eq p.w1 p.w5 p.h1 p.h5 hc
theorem PageAt.besM {C : Addr} {H : Hp} {pg dx an ai ao : Addr} {s : Ie10.St} (p : PageAt C H pg dx an ai ao s) {c b : Nat} (hc : c < s.v.length) :
    b ∈ besL s.w s.v.length c ↔ b < s.v.length ∧ Cl.bes s.w c b = true := by
  rw [p.bes hc, List.mem_filter, List.mem_range]
theorem range_nodup {n : Nat} {p : Nat → Bool} : ((List.range n).filter p).Nodup := List.Nodup.sublist List.filter_sublist List.nodup_range
theorem take_filter {α : Type} {l : List α} {i : Nat} {x : α} {p : α → Bool} (h : l[i]? = some x) : (l.take (i + 1)).filter p = (l.take i).filter p ++ if p x = true then [x] else [] := by
  rw [List.take_add_one, h, List.filter_append]
  cases e : p x <;> simp [e]
theorem take_map {α β : Type} {l : List α} {i : Nat} {x : α} {f : α → β} (h : l[i]? = some x) : (l.take (i + 1)).map f = (l.take i).map f ++ [f x] := by
  rw [List.take_add_one, h, List.map_append]
  rfl

/-! Pairs, each a tuple of its own. -/
structure PairsAt (H : Hp) (l : Addr) (ts : List Addr) (ps : List (Nat × Nat)) : Prop where
  lst : H l = some (.lst (ts.map V.ref))
  len : ts.length = ps.length
  tup : ∀ (i : Nat) (t : Addr) (p : Nat × Nat), ts[i]? = some t → ps[i]? = some p → H t = some (.tup [.int (p.1 : Int), .int (p.2 : Int)])
theorem PairsAt.same {H H' : Hp} {l : Addr} {ts : List Addr} {ps : List (Nat × Nat)} (h : PairsAt H l ts ps) (s : Same H H') : PairsAt H' l ts ps :=
  ⟨s _ _ h.lst, h.len, fun i t p e f => s _ _ (h.tup i t p e f)⟩
theorem PairsAt.at {H : Hp} {l : Addr} {ts : List Addr} {ps : List (Nat × Nat)} (h : PairsAt H l ts ps) {i : Nat} {x : V} (e : (ts.map V.ref)[i]? = some x) :
    ∃ (t : Addr) (p : Nat × Nat), x = .ref t ∧ ps[i]? = some p ∧ H t = some (.tup [.int (p.1 : Int), .int (p.2 : Int)]) := by
  rw [List.getElem?_map] at e
  cases et : ts[i]? with
  | none => rw [et] at e; cases e
  | some t =>
    rw [et] at e
    have hi : i < ps.length := by
      have := (List.getElem?_eq_some_iff.mp et).1
      rw [h.len] at this
      exact this
    exact ⟨t, ps[i], (Option.some.inj e).symm, List.getElem?_eq_getElem hi, h.tup i t _ et (List.getElem?_eq_getElem hi)⟩
theorem PairsAt.add {H : Hp} {l t : Addr} {ts : List Addr} {ps : List (Nat × Nat)} {a b : Nat} (h : PairsAt H l ts ps) (ht : H t = none) :
    PairsAt (upd (upd H t (.tup [.int (a : Int), .int (b : Int)])) l (.lst (ts.map V.ref ++ [.ref t]))) l (ts ++ [t]) (ps ++ [(a, b)]) := by
  refine ⟨?_, by simp [h.len], ?_⟩
  · rw [upd_same, List.map_append]
    rfl
  · intro i u p e f
    by_cases hi : i < ts.length
    · rw [List.getElem?_append_left hi] at e
      rw [List.getElem?_append_left (by rw [← h.len]; exact hi)] at f
      have q := h.tup i u p e f
      rw [upd_ne (ne_of q h.lst (by intro z; cases z)), upd_ne (ne_of_none q ht)]
      exact q
    · rw [List.getElem?_append_right (Nat.le_of_not_lt hi)] at e
      rw [List.getElem?_append_right (by rw [← h.len]; exact Nat.le_of_not_lt hi), ← h.len] at f
      have hz : i - ts.length = 0 := by
        have := (List.getElem?_eq_some_iff.mp e).1
        simp at this
        omega
      rw [hz] at e f
      have e := Option.some.inj e
      have f := Option.some.inj f
      subst e; subst f
      rw [upd_ne (ne_of_none h.lst ht).symm]
      exact upd_same

def part (s : Ie10.St) (a b : Nat) : Nat := max 1 (255 - s.sharp * Ie10.gap (Ie10.val s a) (Ie10.val s b))
theorem price_part {s : Ie10.St} {a b : Nat} (h : bes s.w a b = true) : Ie10.price s a b = part s a b := if_pos h

section
variable {P : Program} {w : World} {K : PySem.W.Frag} {mg : Str → Option Value} {base : Heap} {C : Addr}

def spParting (C : Addr) : Sp := fun vs H Q _ => ∃ (pg dx an ai ao : Addr) (s : Ie10.St) (a b : Nat), vs = [.ref pg, .int a, .int b] ∧ PageAt C H pg dx an ai ao s ∧
  a < s.v.length ∧ b < s.v.length ∧ Q (.int (part s a b : Nat)) H
theorem ok_parting {f f1 : Addr} {fd fd1 : FuncData} (F : Fun K "parting" "parting" s_parting f fd) (T : Txt K mg C)
    (D_difference : DefAt P w K mg base 1 "difference" ["page", "one", "other"] (spDiff C) f1 fd1) :
    FnOk P w K mg base CX0 2 f fd ["page", "one", "other"] (spParting C) := by
  refine F.ok sc_parting (fun vs H Q E h => ?_) (fun cdv A outer s H vs Q E hr h => ⟨_, (pss_one (ps_ret (pe_callB (call_max2 rfl) (by rfl) T.n_max (by decide +kernel) (pa_cons pe_int (pa_cons (pe_op op_sub (pe_glob (v := .int (255)) rfl (Exists.choose_spec T.g_GREATEST_PARTING) ⟨_, rfl⟩) (pe_op op_mul (pe_fld (pv 0) rfl) (pe_call D_difference.ok (hr.mono (by decide)) rfl D_difference.g D_difference.kp D_difference.b .nil pass0 (pa_cons (pv 0) (pa_cons (pv 1) (pa_cons (pv 2) pa_nil)))))) pa_nil))))), ?_⟩)
  · obtain ⟨_, _, _, _, _, _, _, _, rfl, _⟩ := h
    rfl
  · obtain ⟨pg, dx, an, ai, ao, s, a, b, rfl, p, ha, hb, k⟩ := h
    have k255 := p.good.k255
    refine ⟨_, rfl, pg, C, dx, _, _, rfl, p.obj, T.cl, T.a_sharp, pF_sharp, _, rfl, _, rfl, _, rfl, pg, dx, an, ai, ao, s, a, b, rfl, p, ha, hb, _, _, rfl, rfl, .inl ⟨by omega, by omega⟩, _, _, rfl, rfl, _, _, rfl, ?_⟩
    have e : ((part s a b : Nat) : Int) = if (255 : Int) - (s.sharp : Int) * ((Ie10.gap (Ie10.val s a) (Ie10.val s b) : Nat) : Int) > 1 then (255 : Int) - (s.sharp : Int) * ((Ie10.gap (Ie10.val s a) (Ie10.val s b) : Nat) : Int) else 1 := by
      unfold part
      rw [← Int.natCast_mul]
      split <;> omega
    rw [e] at k
    exact k

/-- the pairs as the program tells them -/
def partOf (s : Ie10.St) (g pre : List Nat) : List (Nat × Nat) := pre.flatMap fun a => ((besL s.w s.v.length a).filter fun b => !g.contains b).map fun b => (a, b)
theorem partOf_len {s : Ie10.St} {g : List Nat} : ∀ pre : List Nat, (partOf s g pre).length ≤ 4 * pre.length
  | [] => Nat.le_refl _
  | a :: pre => by
    have ih := partOf_len (s := s) (g := g) pre
    have h4 := Nat.le_trans (List.length_filter_le (fun b => !g.contains b) (besL s.w s.v.length a)) besL_len
    show ((((besL s.w s.v.length a).filter fun b => !g.contains b).map fun b => (a, b)) ++ partOf s g pre).length ≤ _
    rw [List.length_append, List.length_map, List.length_cons]
    omega
theorem partOf_snoc {s : Ie10.St} {g pre : List Nat} {a : Nat} : partOf s g (pre ++ [a]) = partOf s g pre ++ ((besL s.w s.v.length a).filter fun b => !g.contains b).map fun b => (a, b) := by
  unfold partOf
  rw [List.flatMap_append]
  simp
theorem partOf_all {H : Hp} {pg dx an ai ao : Addr} {s : Ie10.St} (p : PageAt C H pg dx an ai ao s) {g : List Nat} (hg : ∀ a, a ∈ g → a < s.v.length) : partOf s g g = Ie10.parted s g := by
  unfold partOf Ie10.parted
  have : ∀ l : List Nat, (∀ a, a ∈ l → a < s.v.length) → (l.flatMap fun a => ((besL s.w s.v.length a).filter fun b => !g.contains b).map fun b => (a, b)) =
      l.flatMap fun a => ((List.range s.n).filter fun b => !g.contains b && Ie10.beside s a b).map fun b => (a, b) := by
    intro l
    induction l with
    | nil => intro _; rfl
    | cons a l ih =>
      intro h
      rw [List.flatMap_cons, List.flatMap_cons, ih (fun b hb => h b (List.mem_cons_of_mem _ hb))]
      congr 1
      rw [p.bes (h a List.mem_cons_self), List.filter_filter]
      have e : s.v.length = s.n := p.len
      rw [e]
      rfl
  exact this g hg

def spParted (C : Addr) : Sp := fun vs H Q _ => ∃ (pg dx an ai ao : Addr) (s : Ie10.St) (ga : Addr) (g : List Nat), vs = [.ref pg, .ref ga] ∧ PageAt C H pg dx an ai ao s ∧
  H ga = some (.lst (nv g)) ∧ (∀ a, a ∈ g → a < s.v.length) ∧ g.length ≤ 30 ∧
  ∀ (H' : Hp) (p : Addr) (ts : List Addr), Same H H' → H p = none → PairsAt H' p ts (Ie10.parted s g) → Q (.ref p) H'
theorem ok_parted {f f1 : Addr} {fd fd1 : FuncData} (F : Fun K "parted_pairs" "parted_pairs" s_parted_pairs f fd) (T : Txt K mg C)
    (D_cells_beside : DefAt P w K mg base 1 "cells_beside" ["page", "cell"] (spBeside C) f1 fd1) :
    FnOk P w K mg base CX0 2 f fd ["page", "region"] (spParted C) := by
  refine F.ok sc_parted_pairs (fun vs H Q E h => ?_) (fun cdv A outer s H vs Q E hr h => ⟨_, (pss_cons (ps_set (i := 2) sc_parted_pairs.nd rfl (Or.inl rfl) (pe_lst pa_nil))
 (pss_cons (ps_for PassesOwn.never rfl (pi_list (pv 1)) (pg_name (i := 3) sc_parted_pairs.nd rfl (Or.inl rfl))
 (pss_one (ps_for PassesOwn.never rfl (pi_list (pe_call D_cells_beside.ok (hr.mono (by decide)) rfl D_cells_beside.g D_cells_beside.kp D_cells_beside.b .nil pass0 (pa_cons (pv 0) (pa_cons (pv 3) pa_nil)))) (pg_name (i := 4) sc_parted_pairs.nd rfl (Or.inl rfl))
 (pss_one (ps_if (pt_cmpR op_notIn_seq (pv 4) (pv 1) (by rfl))
 (pss_one (ps_expr (pe_bm PySem.F.plainAttrs_list PySem.F.slot_list_append PySem.F.type_list_append mt_append (pv 2) (pa_cons (pe_tup (pa_cons (pv 3) (pa_cons (pv 4) pa_nil))) pa_nil))))
 pss_nil)))))
 (pss_one (ps_ret (pv 2))))), ?_⟩)
  · obtain ⟨_, _, _, _, _, _, _, _, rfl, _⟩ := h
    rfl
  · obtain ⟨pg, dx, an, ai, ao, s, ga, g, rfl, p, hga, hg, hg30, k⟩ := h
    refine ⟨(by show 0 ≤ sizeLine; decide), fun l hl => ?_⟩
    dsimp only [gName]
    refine at_slots (σ' := [some (.ref pg), some (.ref ga), some (.ref l), none, none]) rfl ?_
    refine ⟨_, rfl, ga, rfl, ⟨_, SqL.of (same_upd hl _ _ hga)⟩, for_list (K := K) (a := ga) (xs := nv g) (fun i σ H' => (∃ v3 v4 : Option V, σ = [some (.ref pg), some (.ref ga), some (.ref l), v3, v4]) ∧ Same H H' ∧ ∃ ts, PairsAt H' l ts (partOf s g (g.take i)))
      ⟨⟨none, none, rfl⟩, same_upd hl, [], upd_same, rfl, fun i t q e => (by cases e)⟩ (fun i σ H' _ h => SqL.of (h.2.1 _ _ hga)) ?_ ?_⟩
    · rintro i x σ H' hi ⟨⟨v3, v4, rfl⟩, sm, ts, PA⟩
      obtain ⟨c, hc, rfl⟩ := nv_get hi
      have hcn := hg c (List.mem_of_getElem? hc)
      have hil : i < g.length := (List.getElem?_eq_some_iff.mp hc).1
      -- for other in cells_beside(page, cell)
      refine ⟨_, rfl, _, rfl, pg, dx, an, ai, ao, s, c, rfl, p.same sm, fun H2 q sm2 hq hql => ⟨q, rfl, ⟨_, SqL.of hql⟩, ?_⟩⟩
      have hqH : H q = none := sm.free hq
      have hlq : l ≠ q := ne_of_none PA.lst hq
      refine for_list (K := K) (a := q) (xs := nv (besL s.w s.v.length c)) (fun j σ H3 => (∃ v4 : Option V, σ = [some (.ref pg), some (.ref ga), some (.ref l), some (.int (c : Int)), v4]) ∧ Same H H3 ∧ H3 q = some (.lst (nv (besL s.w s.v.length c))) ∧
        ∃ ts, PairsAt H3 l ts (partOf s g (g.take i) ++ (((besL s.w s.v.length c).take j).filter fun b => !g.contains b).map fun b => (c, b))) ?_ ?_ ?_ ?_
      · exact ⟨⟨v4, rfl⟩, sm.trans sm2, hql, ts, by simpa using PA.same sm2⟩
      · rintro j σ H3 _ ⟨_, _, h3, _⟩
        exact SqL.of h3
      · rintro j x σ H3 hj ⟨⟨v4, rfl⟩, sm3, hq3, ts, PA3⟩
        obtain ⟨b, hb, rfl⟩ := nv_get hj
        have hjl : j < (besL s.w s.v.length c).length := (List.getElem?_eq_some_iff.mp hb).1
        refine ⟨_, rfl, _, rfl, ga, _, rfl, .inl (SqL.of (sm3 _ _ hga)), rfl, flat_nv g, _, rfl, ?_⟩
        show if (!inV (.int (b : Int)) (nv g)) = true then _ else _
        rw [inV_nv]
        have htk := take_filter (p := fun b => !g.contains b) hb
        refine ite2 (fun h1 => ?_) (fun h1 => ?_)
        · have lp := partOf_len (s := s) (g := g) (g.take i)
          have l4 : ((((besL s.w s.v.length c).take j).filter fun b => !g.contains b).map fun b => (c, b)).length ≤ 4 := by
            rw [List.length_map]
            refine Nat.le_trans (List.length_filter_le _ _) ?_
            rw [List.length_take]
            exact Nat.le_trans (Nat.min_le_right _ _) besL_len
          have lt := PA3.len
          rw [List.length_append] at lt
          rw [List.length_take] at lp
          refine ⟨_, rfl, .inl ⟨rfl, _, SqL.of PA3.lst⟩, _, rfl, _, rfl, (by show 2 ≤ sizeLine; decide), fun t ht => ⟨l, _, _, rfl, rfl, (by rw [upd_ne (ne_of_none PA3.lst ht)]; exact PA3.lst), small1000 (by rw [List.length_map]; omega), ?_⟩⟩
          refine ⟨⟨_, rfl⟩, ?_, ?_, ts ++ [t], ?_⟩
          · intro z o e
            rw [upd_ne (ne_of_none e hl), upd_ne (ne_of_none (sm3 _ _ e) ht)]
            exact sm3 z o e
          · rw [upd_ne hlq.symm, upd_ne (ne_of_none hq3 ht)]; exact hq3
          · rw [htk, if_pos h1, List.map_append, ← List.append_assoc]
            exact PA3.add ht
        · rw [if_neg h1, List.append_nil] at htk
          exact ⟨⟨_, rfl⟩, sm3, hq3, ts, by rw [htk]; exact PA3⟩
      · rintro σ H3 ⟨⟨v4, rfl⟩, sm3, hq3, ts, PA3⟩
        rw [nv_len, List.take_length] at PA3
        refine ⟨⟨_, _, rfl⟩, sm3, ts, ?_⟩
        rw [List.take_add_one, hc]
        show PairsAt H3 l ts (partOf s g (g.take i ++ [c]))
        rw [partOf_snoc]
        exact PA3
    · rintro σ H' ⟨⟨v3, v4, rfl⟩, sm, ts, PA⟩
      rw [nv_len, List.take_length, partOf_all p hg] at PA
      exact ⟨_, rfl, k H' l ts sm hl PA⟩
end
end Cl
namespace Cl
open PySem PySem.Spec PyProof.Rows L2

theorem yes {σ : L2.St} {H : Hp} {Q : Bool → Hp → Prop} (h : Q true H) : tYes σ H Q := h
theorem sum_foldl (l : List Nat) : (l.map fun (n : Nat) => (n : Int)).sum = ((l.foldl (fun a b => a + b) 0 : Nat) : Int) := by
  rw [foldl_sum]
  show _ = (0 : Int) + sumL _
  rw [Int.zero_add]
  rfl

section
variable {P : Program} {w : World} {K : PySem.W.Frag} {mg : Str → Option Value} {base : Heap} {C : Addr}

theorem parted_ok {s : Ie10.St} {g : List Nat} (hg : ∀ a, a ∈ g → a < s.n) {x : Nat × Nat} (hx : x ∈ Ie10.parted s g) : x.1 < s.n ∧ x.2 < s.n ∧ bes s.w x.1 x.2 = true := by
  unfold Ie10.parted at hx
  obtain ⟨a, ha, hx⟩ := List.mem_flatMap.mp hx
  obtain ⟨b, hb, rfl⟩ := List.mem_map.mp hx
  have hb := List.mem_filter.mp hb
  have h2 := hb.2
  rw [Bool.and_eq_true] at h2
  exact ⟨hg a ha, List.mem_range.mp hb.1, h2.2⟩

def spCost (C : Addr) : Sp := fun vs H Q _ => ∃ (pg dx an ai ao : Addr) (s : Ie10.St) (ga : Addr) (g : List Nat), vs = [.ref pg, .ref ga] ∧ PageAt C H pg dx an ai ao s ∧
  H ga = some (.lst (nv g)) ∧ (∀ a, a ∈ g → a < s.v.length) ∧ g.length ≤ 30 ∧ ∀ H' : Hp, Same H H' → Q (.int (Ie10.cost s g : Nat)) H'
theorem ok_cost {f f1 f2 : Addr} {fd fd1 fd2 : FuncData} (F : Fun K "cost_of" "cost_of" s_cost_of f fd) (T : Txt K mg C)
    (D_parting : DefAt P w K mg base 2 "parting" ["page", "one", "other"] (spParting C) f1 fd1) (D_parted_pairs : DefAt P w K mg base 2 "parted_pairs" ["page", "region"] (spParted C) f2 fd2) :
    FnOk P w K mg base CX0 3 f fd ["page", "region"] (spCost C) := by
  refine F.ok sc_cost_of (fun vs H Q E h => ?_) (fun cdv A outer s H vs Q E hr h => ⟨_, (pss_one (ps_ret (pe_callB (cr_sum rfl) (by rfl) T.n_sum (by decide +kernel) (pa_cons (pe_lc (own := [("one", 2), ("other", 3)]) (g := gTup K 2 (gCons (gName 2) (gCons (gName 3) gNil))) (tt := tYes) rfl sc_cost_of.nd (pi_list (pe_call D_parted_pairs.ok (hr.mono (by decide)) rfl D_parted_pairs.g D_parted_pairs.kp D_parted_pairs.b .nil pass0 (pa_cons (pv 0) (pa_cons (pv 1) pa_nil)))) (blkOk_by (own := [("one", 2), ("other", 3)]) (N := ["page", "region", "one", "other"]) (sc := defScope s_cost_of) (by decide +kernel)) (fun _ _ _ _ _ => (pg_tup rfl (pgs_cons (pg_name (i := 2) sc_cost_of.nd rfl (Or.inl rfl)) (pgs_cons (pg_name (i := 3) sc_cost_of.nd rfl (Or.inl rfl)) pgs_nil)))) (fun _ _ _ _ _ => pts_nil) (fun _ _ _ _ _ => (pe_call D_parting.ok (hr.mono (by decide)) rfl D_parting.g D_parting.kp D_parting.b .nil pass0 (pa_cons (pv 0) (pa_cons (pv 2) (pa_cons (pv 3) pa_nil)))))) pa_nil)))), ?_⟩)
  · obtain ⟨_, _, _, _, _, _, _, _, rfl, _⟩ := h
    rfl
  · obtain ⟨pg, dx, an, ai, ao, s, ga, g, rfl, p, hga, hg, hg30, k⟩ := h
    refine ⟨_, rfl, _, rfl, pg, dx, an, ai, ao, s, ga, g, rfl, p, hga, hg, hg30, fun H1 q ts sm hq PA => ⟨q, rfl, ⟨_, SqL.of PA.lst⟩, fun D hD => ?_⟩⟩
    have hsn : s.v.length = s.n := p.len
    have pl := partOf_len (s := s) (g := g) g
    rw [partOf_all p hg] at pl
    refine lc_list (K := K) (a := q) (xs := ts.map V.ref) (fun i H' => Same H1 H' ∧ H' D = some (.lst (nv (((Ie10.parted s g).take i).map fun x => Ie10.price s x.1 x.2)))) ?_ ?_ ?_ ?_
    · exact ⟨same_upd hD, upd_same⟩
    · rintro i H' _ ⟨sm', _⟩
      exact SqL.of (sm' _ _ PA.lst)
    · rintro i x H' hx ⟨sm', hD'⟩
      obtain ⟨t, y, rfl, hy, ht⟩ := (PA.same sm').at hx
      have hyo := parted_ok (s := s) (fun a ha => by rw [← hsn]; exact hg a ha) (List.mem_of_getElem? hy)
      have hil : i < (Ie10.parted s g).length := (List.getElem?_eq_some_iff.mp hy).1
      refine ⟨t, _, rfl, SqT.of ht, rfl, _, _, rfl, _, _, rfl, rfl, rfl, yes ?_⟩
      refine iteT ?_
      refine ⟨_, rfl, _, rfl, _, rfl, pg, dx, an, ai, ao, s, y.1, y.2, rfl, p.same (sm.trans sm'), by rw [hsn]; exact hyo.1, by rw [hsn]; exact hyo.2.1, _, hD', small1000 (by rw [nv_len, List.length_map, List.length_take]; omega), ?_, ?_⟩
      · intro z o e
        rw [upd_ne (ne_of_none e hD)]
        exact sm' z o e
      · rw [upd_same, take_map hy, nv_app, price_part hyo.2.2]
        rfl
    · rintro H' ⟨sm', hD'⟩
      rw [List.length_map, PA.len, List.take_length] at hD'
      refine ⟨D, ((Ie10.parted s g).map fun x => Ie10.price s x.1 x.2).map (fun (n : Nat) => (n : Int)), rfl, ?_, ?_⟩
      · refine SqL.of ?_
        rw [hD']
        simp [nv, List.map_map, Function.comp_def]
      · rw [sum_foldl]
        exact k H' (sm.trans sm')

/-! Rooms. -/
def rowD (w n : Nat) (R : Nat → Nat → Nat) (a : Nat) : List (Key × V) := (besL w n a).map fun (b : Nat) => ((Sum.inl (b : Int) : Key), V.int (R a b : Int))
structure RoomAt (H : Hp) (ra : Addr) (ds : List Addr) (w n m : Nat) (R : Nat → Nat → Nat) : Prop where
  lst : H ra = some (.lst (ds.map V.ref))
  len : ds.length = m
  nd : ds.Nodup
  row : ∀ (a : Nat) (d : Addr), ds[a]? = some d → H d = some (.dK (rowD w n R a))
theorem RoomAt.same {H H' : Hp} {ra : Addr} {ds : List Addr} {w n m : Nat} {R : Nat → Nat → Nat} (h : RoomAt H ra ds w n m R) (s : Same H H') : RoomAt H' ra ds w n m R :=
  ⟨s _ _ h.lst, h.len, h.nd, fun a d e => s _ _ (h.row a d e)⟩
theorem RoomAt.add {H : Hp} {ra d : Addr} {ds : List Addr} {w n m : Nat} {R : Nat → Nat → Nat} (h : RoomAt H ra ds w n m R) (hd : d ∉ ds) (hr : H d = some (.dK (rowD w n R m))) :
    RoomAt (upd H ra (.lst (ds.map V.ref ++ [.ref d]))) ra (ds ++ [d]) w n (m + 1) R := by
  refine ⟨?_, by simp [h.len], ?_, ?_⟩
  · rw [upd_same, List.map_append]
    rfl
  · rw [List.nodup_append]
    refine ⟨h.nd, by simp, ?_⟩
    intro x hx y hy e
    have : y = d := by simpa using hy
    subst this; subst e
    exact hd hx
  · intro a e f
    by_cases hi : a < ds.length
    · rw [List.getElem?_append_left hi] at f
      have q := h.row a e f
      rw [upd_ne (ne_of q h.lst (by intro z; cases z))]
      exact q
    · rw [List.getElem?_append_right (Nat.le_of_not_lt hi)] at f
      have hz : a - ds.length = 0 := by
        have := (List.getElem?_eq_some_iff.mp f).1
        simp at this
        omega
      rw [hz] at f
      have f := Option.some.inj f
      subst f
      have : a = m := by have := h.len; omega
      subst this
      rw [upd_ne (ne_of hr h.lst (by intro z; cases z))]
      exact hr
theorem rowD_congr {w n : Nat} {R R' : Nat → Nat → Nat} {a : Nat} (h : ∀ b, b ∈ besL w n a → R a b = R' a b) : rowD w n R a = rowD w n R' a := by
  unfold rowD
  refine List.map_congr_left fun b hb => ?_
  rw [h b hb]
theorem RoomAt.congr {H : Hp} {ra : Addr} {ds : List Addr} {w n m : Nat} {R R' : Nat → Nat → Nat} (h : RoomAt H ra ds w n m R) (e : ∀ a b, a < m → b ∈ besL w n a → R a b = R' a b) : RoomAt H ra ds w n m R' :=
  ⟨h.lst, h.len, h.nd, fun a d f => by
    have := (List.getElem?_eq_some_iff.mp f).1
    rw [h.row a d f, rowD_congr fun b hb => e a b (by rw [← h.len]; exact this) hb]⟩
theorem RoomAt.off {H : Hp} {ra d : Addr} {ds : List Addr} {w n m : Nat} {R : Nat → Nat → Nat} {o : HO} (h : RoomAt H ra ds w n m R) (h1 : d ≠ ra) (h2 : d ∉ ds) : RoomAt (upd H d o) ra ds w n m R :=
  ⟨by rw [upd_ne h1.symm]; exact h.lst, h.len, h.nd, fun a e f => by
    rw [upd_ne (fun z : e = d => h2 (z ▸ List.mem_of_getElem? f))]
    exact h.row a e f⟩
/-- a dict that grows -/
theorem map_val {F : Nat → V} {b : Nat} : ∀ (l : List Nat), valV (l.map fun (b : Nat) => ((Sum.inl (b : Int) : Key), F b)) (Sum.inl (b : Int)) = if b ∈ l then some (F b) else none
  | [] => rfl
  | a :: ks => by
    by_cases e : a = b
    · subst e
      rw [if_pos List.mem_cons_self]
      exact valV_pos rfl
    · have h : ¬ ((Sum.inl (a : Int) : Key) = Sum.inl (b : Int)) := fun h => e (Int.ofNat.inj (Sum.inl.inj h))
      have ih := map_val (F := F) (b := b) ks
      show valV ((Sum.inl (a : Int), F a) :: ks.map _) _ = _
      rw [valV_neg h, ih]
      by_cases hb : b ∈ ks
      · rw [if_pos hb, if_pos (List.mem_cons_of_mem _ hb)]
      · rw [if_neg hb, if_neg (fun h => (List.mem_cons.mp h).elim (fun z => e z.symm) hb)]
theorem map_put {F : Nat → V} {b : Nat} {l : List Nat} (h : b ∉ l) : putK (l.map fun (b : Nat) => ((Sum.inl (b : Int) : Key), F b)) (Sum.inl (b : Int)) (F b) = (l ++ [b]).map fun (b : Nat) => ((Sum.inl (b : Int) : Key), F b) := by
  unfold putK
  rw [valV_any, map_val, if_neg h, if_neg (by decide)]
  simp

def spRoom (C : Addr) : Sp := fun vs H Q _ => ∃ (pg dx an ai ao : Addr) (s : Ie10.St), vs = [.ref pg] ∧ PageAt C H pg dx an ai ao s ∧
  ∀ (H' : Hp) (p : Addr) (ds : List Addr), Same H H' → H p = none → (∀ d, d ∈ ds → H d = none) → p ∉ ds → RoomAt H' p ds s.w s.v.length s.v.length (Ie10.price s) → Q (.ref p) H'
theorem ok_room {f f1 f2 : Addr} {fd fd1 fd2 : FuncData} (F : Fun K "whole_room" "whole_room" s_whole_room f fd) (T : Txt K mg C)
    (D_parting : DefAt P w K mg base 2 "parting" ["page", "one", "other"] (spParting C) f1 fd1) (D_cells_beside : DefAt P w K mg base 1 "cells_beside" ["page", "cell"] (spBeside C) f2 fd2) :
    FnOk P w K mg base CX0 3 f fd ["page"] (spRoom C) := by
  refine F.ok sc_whole_room (fun vs H Q E h => ?_) (fun cdv A outer s H vs Q E hr h => ⟨_, have hu := hu_of hr; (pss_cons (ps_set (i := 1) sc_whole_room.nd rfl (Or.inl rfl) (pe_lst pa_nil))
 (pss_cons (ps_for PassesOwn.never rfl (pi_range1 (by rfl) T.n_range (pa_cons (pe_callB call_len_seq (by rfl) T.n_len PySem.boot_len (pa_cons (pe_fld (pv 0) rfl) pa_nil)) pa_nil)) (pg_name (i := 2) sc_whole_room.nd rfl (Or.inl rfl))
 (pss_cons (ps_set (i := 3) sc_whole_room.nd rfl (Or.inl rfl) pe_dnewK)
 (pss_cons (ps_for PassesOwn.never rfl (pi_list (pe_call D_cells_beside.ok (hr.mono (by decide)) rfl D_cells_beside.g D_cells_beside.kp D_cells_beside.b .nil pass0 (pa_cons (pv 0) (pa_cons (pv 2) pa_nil)))) (pg_name (i := 4) sc_whole_room.nd rfl (Or.inl rfl))
 (pss_one (ps_dput hu (pv 3) (pv 4) (pe_call D_parting.ok (hr.mono (by decide)) rfl D_parting.g D_parting.kp D_parting.b .nil pass0 (pa_cons (pv 0) (pa_cons (pv 2) (pa_cons (pv 4) pa_nil)))) rfl)))
 (pss_one (ps_expr (pe_bm PySem.F.plainAttrs_list PySem.F.slot_list_append PySem.F.type_list_append mt_append (pv 1) (pa_cons (pv 3) pa_nil)))))))
 (pss_one (ps_ret (pv 1))))), ?_⟩)
  · obtain ⟨_, _, _, _, _, _, rfl, _⟩ := h
    rfl
  · obtain ⟨pg, dx, an, ai, ao, s, rfl, p, k⟩ := h
    have n25 := p.n25
    refine ⟨(by show 0 ≤ sizeLine; decide), fun l hl => ?_⟩
    dsimp only [gName]
    refine at_slots (σ' := [some (.ref pg), some (.ref l), none, none, none]) rfl ?_
    have p1 := p.same (same_upd (o := .lst []) hl)
    refine ⟨_, rfl, pg, C, dx, _, _, rfl, p1.obj, T.cl, T.a_numbers, pF_numbers, an, _, rfl, .inl (SqL.of p1.num), _, rfl, ?_, ?_, ?_⟩
    · rw [nv_len]; omega
    · rw [nv_len]; omega
    have en : (((nv s.v).length : Nat) : Int).toNat = s.v.length := nv_len _
    refine for_range (lo := 0) (fun i σ H' => ∃ (ds : List Addr) (v2 v3 v4 : Option V), σ = [some (.ref pg), some (.ref l), v2, v3, v4] ∧ Same H H' ∧ (∀ d, d ∈ ds → H d = none) ∧ l ∉ ds ∧ RoomAt H' l ds s.w s.v.length i (Ie10.price s)) ?_ ?_ ?_
    · exact ⟨[], none, none, none, rfl, same_upd hl, (fun d h => by cases h), (by simp), upd_same, rfl, List.nodup_nil, fun a d e => by cases e⟩
    · rintro i σ H' hi ⟨ds, v2, v3, v4, rfl, sm, hds, hlds, RA⟩
      rw [en] at hi
      dsimp only [gName]
      rw [Int.zero_add]
      refine at_slots (σ' := [some (.ref pg), some (.ref l), some (.int (i : Int)), v3, v4]) rfl ?_
      -- to = {}
      intro d hd
      dsimp only [gName]
      refine at_slots (σ' := [some (.ref pg), some (.ref l), some (.int (i : Int)), some (.ref d), v4]) rfl ?_
      have sm1 : Same H (upd H' d (.dK [])) := sm.trans (same_upd hd)
      have hdl : d ≠ l := (ne_of_none RA.lst hd).symm
      have hdds : d ∉ ds := fun h => by
        obtain ⟨a, e⟩ := List.getElem?_of_mem h
        have := RA.row a d e
        rw [hd] at this
        cases this
      -- for other in cells_beside(page, cell)
      refine ⟨_, rfl, _, rfl, pg, dx, an, ai, ao, s, i, rfl, p.same sm1, fun H2 q sm2 hq hql => ⟨q, rfl, ⟨_, SqL.of hql⟩, ?_⟩⟩
      have hqd : q ≠ d := (ne_of_none upd_same hq).symm
      have hdH : H d = none := sm.free hd
      have bnd : (besL s.w s.v.length i).Nodup := by rw [p.bes hi]; exact range_nodup
      refine for_list (K := K) (a := q) (xs := nv (besL s.w s.v.length i)) (fun j σ H3 => (∃ v4 : Option V, σ = [some (.ref pg), some (.ref l), some (.int (i : Int)), some (.ref d), v4]) ∧ Same H H3 ∧ H3 q = some (.lst (nv (besL s.w s.v.length i))) ∧
        RoomAt H3 l ds s.w s.v.length i (Ie10.price s) ∧ H3 d = some (.dK (((besL s.w s.v.length i).take j).map fun (b : Nat) => ((Sum.inl (b : Int) : Key), V.int (Ie10.price s i b : Int))))) ?_ ?_ ?_ ?_
      · exact ⟨⟨v4, rfl⟩, sm1.trans sm2, hql, (RA.same (same_upd hd)).same sm2, sm2 _ _ upd_same⟩
      · rintro j σ H3 _ ⟨_, _, h3, _⟩
        exact SqL.of h3
      · rintro j x σ H3 hj ⟨⟨v4, rfl⟩, sm3, hq3, RA3, hd3⟩
        obtain ⟨b, hb, rfl⟩ := nv_get hj
        have hbb := (p.besM hi).mp (List.mem_of_getElem? hb)
        have hnot : b ∉ (besL s.w s.v.length i).take j := fun h => by
          obtain ⟨m, hm⟩ := List.getElem?_of_mem h
          have hml := (List.getElem?_eq_some_iff.mp hm).1
          rw [List.length_take] at hml
          rw [List.getElem?_take_of_lt (by omega)] at hm
          have := (List.getElem?_inj (by omega) bnd).mp (hm.trans hb.symm)
          omega
        refine ⟨_, rfl, _, rfl, _, rfl, pg, dx, an, ai, ao, s, i, b, rfl, p.same sm3, hi, hbb.1, _, rfl, _, rfl, d, _, rfl, DPut.k (k := Sum.inl (b : Int)) hd3 (small1000 (by
          rw [List.length_map, List.length_take]
          have := besL_len (w := s.w) (n := s.v.length) (c := i)
          omega)), ?_⟩
        rw [← price_part hbb.2, map_put (F := fun b => V.int (Ie10.price s i b : Int)) hnot]
        refine ⟨⟨_, rfl⟩, ?_, ?_, RA3.off hdl hdds, ?_⟩
        · intro z o e
          rw [upd_ne (ne_of_none e hdH)]
          exact sm3 z o e
        · rw [upd_ne hqd]; exact hq3
        · rw [upd_same, List.take_add_one, hb]
          rfl
      · rintro σ H3 ⟨⟨v4, rfl⟩, sm3, hq3, RA3, hd3⟩
        rw [nv_len, List.take_length] at hd3
        refine ⟨_, rfl, .inl ⟨rfl, _, SqL.of RA3.lst⟩, _, rfl, l, _, _, rfl, rfl, RA3.lst, small1000 (by rw [List.length_map, RA3.len]; omega), ?_⟩
        refine ⟨ds ++ [d], _, _, _, rfl, ?_, ?_, ?_, RA3.add hdds hd3⟩
        · intro z o e
          rw [upd_ne (ne_of_none e hl)]
          exact sm3 z o e
        · intro z hz
          rcases List.mem_append.mp hz with hz | hz
          · exact hds z hz
          · have : z = d := by simpa using hz
            subst this; exact hdH
        · intro hz
          rcases List.mem_append.mp hz with hz | hz
          · exact hlds hz
          · exact hdl (List.mem_singleton.mp hz).symm
    · rintro σ H' ⟨ds, v2, v3, v4, rfl, sm, hds, hlds, RA⟩
      rw [en] at RA
      exact ⟨_, rfl, k H' l ds sm hl hds hlds RA⟩
end
end Cl
namespace Cl
open PySem PySem.Spec PyProof.Rows L2

/-! A dict of cells, each with the one before it. -/
abbrev dm (m : List (Nat × Nat)) : List (Key × V) := m.map fun x => ((Sum.inl (x.1 : Int) : Key), V.int (x.2 : Int))
theorem dm_val {b : Nat} : ∀ (m : List (Nat × Nat)), valV (dm m) (Sum.inl (b : Int)) = (m.find? fun x => x.1 == b).map fun x => V.int (x.2 : Int)
  | [] => rfl
  | x :: m => by
    by_cases e : x.1 = b
    · have h : (x.1 == b) = true := by simpa using e
      rw [List.find?_cons, h]
      subst e
      exact valV_pos rfl
    · have h : ¬ ((Sum.inl (x.1 : Int) : Key) = Sum.inl (b : Int)) := fun h => e (Int.ofNat.inj (Sum.inl.inj h))
      have h' : (x.1 == b) = false := by simpa using e
      have ih := dm_val (b := b) m
      show valV ((Sum.inl (x.1 : Int), V.int (x.2 : Int)) :: dm m) _ = _
      rw [valV_neg h, ih, List.find?_cons, h']
theorem dm_some {m : List (Nat × Nat)} {b : Nat} : (valV (dm m) (Sum.inl (b : Int))).isSome = decide (b ∈ keys m) := by
  rw [dm_val, Option.isSome_map, Bool.eq_iff_iff, List.find?_isSome, decide_eq_true_eq]
  constructor
  · rintro ⟨x, hx, e⟩
    exact List.mem_map.mpr ⟨x, hx, by simpa using e⟩
  · intro h
    obtain ⟨x, hx, e⟩ := List.mem_map.mp h
    exact ⟨x, hx, by simpa using e⟩
theorem dm_put {m : List (Nat × Nat)} {a b : Nat} (h : b ∉ keys m) : putK (dm m) (Sum.inl (b : Int)) (.int (a : Int)) = dm (m ++ [(b, a)]) := by
  unfold putK
  rw [valV_any, dm_some, decide_eq_false h, if_neg Bool.false_ne_true]
  simp [dm]
theorem keys_app (m m' : List (Nat × Nat)) : keys (m ++ m') = keys m ++ keys m' := List.map_append ..
theorem keys_new {l : List Nat} {a : Nat} : keys (l.map fun b => (b, a)) = l := by simp [keys, List.map_map, Function.comp_def]
theorem keys_self {l : List Nat} : keys (l.map fun b => (b, b)) = l := by simp [keys, List.map_map, Function.comp_def]
theorem not_taken {l : List Nat} {j b : Nat} (nd : l.Nodup) (hb : l[j]? = some b) : b ∉ l.take j := fun h => by
  obtain ⟨m, hm⟩ := List.getElem?_of_mem h
  have hml := (List.getElem?_eq_some_iff.mp hm).1
  rw [List.length_take] at hml
  rw [List.getElem?_take_of_lt (by omega)] at hm
  have := (List.getElem?_inj (by omega) nd).mp (hm.trans hb.symm)
  omega
theorem mem_any {m : List (Nat × Nat)} {b : Nat} : (m.any fun x => x.1 == b) = decide (b ∈ keys m) := by
  rw [Bool.eq_iff_iff, List.any_eq_true, decide_eq_true_eq]
  constructor
  · rintro ⟨x, hx, e⟩
    exact List.mem_map.mpr ⟨x, hx, by simpa using e⟩
  · intro h
    obtain ⟨x, hx, e⟩ := List.mem_map.mp h
    exact ⟨x, hx, by simpa using e⟩
def newP (r : Ie10.Left) (a : Nat) (m : List (Nat × Nat)) (b : Nat) : Bool := decide (0 < Ie10.left r a b) && !(m.any fun x => x.1 == b)
theorem fresh_bes {s : Ie10.St} (g : Seeds s) {r : Ie10.Left} (hs : Sup s.w r) {a : Nat} {m : List (Nat × Nat)} (ha : a < s.n) : (besL s.w s.n a).filter (newP r a m) = (List.range s.n).filter (newP r a m) := by
  have e : besL s.w s.n a = (List.range s.n).filter fun b => bes s.w a b := besL_eq g.w1 g.w5 g.h1 g.h5 ha
  rw [e, List.filter_filter]
  refine List.filter_congr fun b _ => ?_
  cases h : newP r a m b with
  | false => rfl
  | true =>
    unfold newP at h
    rw [Bool.and_eq_true] at h
    rw [hs a b (of_decide_eq_true h.1)]
    rfl
theorem bes_nodup {s : Ie10.St} (g : Seeds s) {a : Nat} (ha : a < s.n) : (besL s.w s.n a).Nodup := by
  have e : besL s.w s.n a = (List.range s.n).filter fun b => bes s.w a b := besL_eq g.w1 g.w5 g.h1 g.h5 ha
  rw [e]
  exact range_nodup
theorem Seeds.n25 {s : Ie10.St} (g : Seeds s) : s.n ≤ 25 := Nat.mul_le_mul g.w5 g.h5
theorem rowD_val {w n a b : Nat} {R : Nat → Nat → Nat} (h : b ∈ besL w n a) : valV (rowD w n R a) (Sum.inl (b : Int)) = some (.int (R a b : Int)) := by
  unfold rowD
  rw [map_val (F := fun b => V.int (R a b : Int)), if_pos h]
theorem RoomAt.get {H : Hp} {ra : Addr} {ds : List Addr} {w n m : Nat} {R : Nat → Nat → Nat} (h : RoomAt H ra ds w n m R) {a : Nat} (ha : a < m) : ∃ d, ds[a]? = some d ∧ (ds.map V.ref)[a]? = some (.ref d) := by
  have hl := h.len
  refine ⟨ds[a]'(by omega), List.getElem?_eq_getElem (by omega), ?_⟩
  rw [List.getElem?_map, List.getElem?_eq_getElem (by omega)]
  rfl

section
variable {P : Program} {w : World} {K : PySem.W.Frag} {mg : Str → Option Value} {base : Heap} {C : Addr}

def spThrough : Sp := fun vs H Q _ => ∃ (ra sa : Addr) (ds : List Addr) (s : Ie10.St) (r : Ie10.Left), vs = [.ref ra, .ref sa] ∧ RoomAt H ra ds s.w s.n s.n (Ie10.left r) ∧ Seeds s ∧ Sup s.w r ∧
  H sa = some (.lst (nv s.ins)) ∧ ∀ (H' : Hp) (p : Addr), Same H H' → H p = none → H' p = some (.dK (dm (Ie10.from_ r s.n s.ins))) → Q (.ref p) H'
theorem ok_through {f : Addr} {fd : FuncData} (F : Fun K "reached_through" "reached_through" s_reached_through f fd) (T : Txt K mg C) :
    FnOk P w K mg base CX0 1 f fd ["room", "starts"] spThrough := by
  refine F.ok sc_reached_through (fun vs H Q E h => ?_) (fun cdv A outer s H vs Q E hr h => ⟨_, have hu := hu_of hr; (pss_cons (ps_set (i := 2) sc_reached_through.nd rfl (Or.inl rfl) pe_dnewK)
 (pss_cons (ps_for PassesOwn.never rfl (pi_list (pv 1)) (pg_name (i := 3) sc_reached_through.nd rfl (Or.inl rfl))
 (pss_one (ps_dput hu (pv 2) (pv 3) (pv 3) rfl)))
 (pss_cons (ps_set (i := 4) sc_reached_through.nd rfl (Or.inl rfl) (pe_callTy call_list_of (by rfl) T.n_list (by decide +kernel) (pa_cons (pv 1) pa_nil)))
 (pss_cons (ps_set (i := 5) sc_reached_through.nd rfl (Or.inl rfl) pe_int)
 (pss_cons (ps_while PassesOwn.never (pt_cmpR op_lt (pv 5) (pe_callB call_len_seq (by rfl) T.n_len PySem.boot_len (pa_cons (pv 4) pa_nil)) (nomark _))
 (pss_cons (ps_set (i := 3) sc_reached_through.nd rfl (Or.inl rfl) (pe_ix ix_list (pv 4) (pv 5) (fun _ _ => rfl)))
 (pss_cons (ps_lock (ps_for PassesOwn.never rfl (pi_keys (pe_ix ix_list (pv 0) (pv 3) (fun _ _ => rfl))) (pg_name (i := 6) sc_reached_through.nd rfl (Or.inl rfl))
 (pss_one (ps_if (PW.pt (pw_and (pt_cmpR op_gt (pe_dget hu (pe_ix ix_list (pv 0) (pv 3) (fun _ _ => rfl)) (pv 6) (fun _ _ => rfl)) pe_int (nomark _)) (pw_and1 (pt_cmp (pc_dnotin hu (pv 6) (pv 2))))))
 (pss_cons (ps_dput hu (pv 2) (pv 6) (pv 3) rfl)
 (pss_one (ps_expr (pe_bm PySem.F.plainAttrs_list PySem.F.slot_list_append PySem.F.type_list_append mt_append (pv 4) (pa_cons (pv 6) pa_nil)))))
 pss_nil))))
 (pss_one (ps_aug (i := 5) sc_reached_through.nd rfl (Or.inl rfl) pe_int ip_add)))))
 (pss_one (ps_ret (pv 2)))))))), ?_⟩)
  · obtain ⟨_, _, _, _, _, rfl, _⟩ := h
    rfl
  · obtain ⟨ra, sa, ds, s, r, rfl, RA, G, hsup, hsa, k⟩ := h
    have n25 := G.n25
    -- before = {}
    intro d hd
    dsimp only [gName]
    refine at_slots (σ' := [some (.ref ra), some (.ref sa), some (.ref d), none, none, none, none]) rfl ?_
    -- for cell in starts
    refine ⟨_, rfl, sa, rfl, ⟨_, SqL.of (same_upd hd _ _ hsa)⟩, for_list (K := K) (a := sa) (xs := nv s.ins) (fun i σ H' => (∃ v3 : Option V, σ = [some (.ref ra), some (.ref sa), some (.ref d), v3, none, none, none]) ∧ Same H H' ∧ H' d = some (.dK (dm ((s.ins.take i).map fun b => (b, b)))))
      ⟨⟨none, rfl⟩, same_upd hd, upd_same⟩ (fun i σ H' _ h => SqL.of (h.2.1 _ _ hsa)) ?_ ?_⟩
    · rintro i x σ H' hi ⟨⟨v3, rfl⟩, sm, hd'⟩
      obtain ⟨c, hc, rfl⟩ := nv_get hi
      have hl := nodup_lt G.insN G.insL
      refine ⟨_, rfl, _, rfl, _, rfl, d, _, rfl, DPut.k (k := Sum.inl (c : Int)) hd' (small1000 (by simp only [dm, List.length_map, List.length_take]; omega)), ?_⟩
      rw [dm_put (by rw [keys_self]; exact not_taken G.insN hc)]
      refine ⟨⟨_, rfl⟩, ?_, ?_⟩
      · intro z o e
        rw [upd_ne (ne_of_none e hd)]
        exact sm z o e
      · rw [upd_same, take_map hc]
    · rintro σ H1 ⟨⟨v3, rfl⟩, sm1, hd1⟩
      rw [nv_len, List.take_length] at hd1
      -- waiting = list(starts)
      refine ⟨_, rfl, sa, _, rfl, .inl (SqL.of (sm1 _ _ hsa)), fun l hl => ?_⟩
      have hlH : H l = none := sm1.free hl
      have hdl : d ≠ l := ne_of_none hd1 hl
      dsimp only [gName]
      refine seq_const ?_
      refine at_slots (σ' := [some (.ref ra), some (.ref sa), some (.ref d), v3, some (.ref l), some (.int ((0 : Nat) : Int)), none]) rfl ?_
      refine while_by (fun σ H' => ∃ (p q : List Nat) (m : List (Nat × Nat)) (kk : Nat) (v3 v6 : Option V), σ = [some (.ref ra), some (.ref sa), some (.ref d), v3, some (.ref l), some (.int (p.length : Int)), v6] ∧ Same H H' ∧
          H' d = some (.dK (dm m)) ∧ H' l = some (.lst (nv (p ++ q))) ∧ keys m = p ++ q ∧ (p ++ q).Nodup ∧ (∀ x, x ∈ p ++ q → x < s.n) ∧ Ie10.search r s.n kk q m = Ie10.from_ r s.n s.ins ∧ s.n + 1 ≤ kk + p.length)
        (fun σ _ => s.n - atOf σ 5) ?_ ?_ ?_
      · refine ⟨[], s.ins, _, s.n + 1, v3, none, rfl, sm1.trans (same_upd hl), by rw [upd_ne hdl]; exact hd1, upd_same, keys_self, G.insN, G.insL, rfl, by simp⟩
      · rintro σ H' ⟨p, q, m, kk, v3, v6, rfl, sm, hd', hl', hk, nd, hlt, hs, hkk⟩
        refine ⟨_, rfl, _, rfl, l, _, rfl, .inl (SqL.of hl'), _, _, rfl, rfl, _, rfl, ite2 (fun hlen => ?_) (fun hlen => ?_)⟩
        · have hlen := of_decide_eq_true hlen
          rw [nv_len, List.length_append] at hlen
          cases q with
          | nil => simp at hlen
          | cons a q =>
          have plen := nodup_lt nd hlt
          rw [List.length_append, List.length_cons] at plen
          cases kk with
          | zero => omega
          | succ kk =>
          have ha : a < s.n := hlt a (by simp)
          -- cell = waiting[at]
          refine ⟨_, rfl, _, rfl, l, _, _, _, rfl, rfl, SqL.of hl', get_mid rfl, ?_⟩
          dsimp only [gName]
          refine at_slots (σ' := [some (.ref ra), some (.ref sa), some (.ref d), some (.int (a : Int)), some (.ref l), some (.int (p.length : Int)), v6]) rfl ?_
          -- for other in room[cell]
          obtain ⟨rd, hrd, hrv⟩ := RA.get ha
          have hrow := RA.row a rd hrd
          have hrdn : rd ≠ d := ne_of_none hrow hd
          have hrln : rd ≠ l := ne_of_none hrow hlH
          have hrra : ra ≠ rd := ne_of RA.lst hrow (by intro z; cases z)
          refine ⟨rd, _, sm _ _ hrow, trivial, fun od => ?_⟩
          have hra1 : ∀ {H3 : Hp}, (∀ b o, H b = some o → b ≠ rd → H3 b = some o) → H3 ra = some (.lst (ds.map V.ref)) := fun h => h _ _ RA.lst hrra
          have sm1' : ∀ b o, H b = some o → b ≠ rd → upd H' rd (.frz od (.dK (rowD s.w s.n (Ie10.left r) a))) b = some o := fun b o e hb => by rw [upd_ne hb]; exact sm b o e
          refine ⟨_, rfl, _, rfl, ra, _, _, _, rfl, rfl, SqL.of (hra1 sm1'), atI_nat hrv, rd, od, rfl, .inl ⟨_, upd_same, ?_⟩⟩
          refine for_it walk_keys (fun j σ H3 => (∃ v6 : Option V, σ = [some (.ref ra), some (.ref sa), some (.ref d), some (.int (a : Int)), some (.ref l), some (.int (p.length : Int)), v6]) ∧
            (∀ b o, H b = some o → b ≠ rd → H3 b = some o) ∧ H3 rd = some (.frz od (.dK (rowD s.w s.n (Ie10.left r) a))) ∧
            H3 d = some (.dK (dm (m ++ (((besL s.w s.n a).take j).filter (newP r a m)).map fun b => (b, a)))) ∧ H3 l = some (.lst (nv (p ++ a :: q ++ ((besL s.w s.n a).take j).filter (newP r a m))))) ?_ ?_ ?_ ?_
          · refine ⟨⟨v6, rfl⟩, sm1', upd_same, ?_, ?_⟩
            · rw [upd_ne hrdn.symm]
              simpa using hd'
            · rw [upd_ne hrln.symm]
              simpa using hl'
          · rintro j σ H3 _ ⟨_, _, h3, _⟩
            exact h3
          · rintro j x σ H9 H3 hj ⟨⟨v6, rfl⟩, sm3, hr3, hd3, hl3⟩ ⟨rfl, kx, vx, hkx, rfl⟩
            obtain ⟨b, hb, ekv⟩ : ∃ b, (besL s.w s.n a)[j]? = some b ∧ ((Sum.inl (b : Int) : Key), V.int (Ie10.left r a b : Int)) = (kx, vx) := by
              unfold rowD at hkx
              rw [List.getElem?_map] at hkx
              cases e : (besL s.w s.n a)[j]? with
              | none => rw [e] at hkx; cases hkx
              | some b => rw [e] at hkx; exact ⟨b, rfl, Option.some.inj hkx⟩
            cases ekv
            have hbm : b ∈ besL s.w s.n a := List.mem_of_getElem? hb
            have hnot := not_taken (bes_nodup G ha) hb
            have htk := take_filter (p := newP r a m) hb
            have bl4 : (((besL s.w s.n a).take j).filter (newP r a m)).length ≤ 4 := by
              refine Nat.le_trans (List.length_filter_le _ _) ?_
              rw [List.length_take]
              exact Nat.le_trans (Nat.min_le_right _ _) besL_len
            have mlen : m.length = (p ++ a :: q).length := by rw [← hk]; simp [keys]
            rw [List.length_append, List.length_cons] at mlen
            have stay : newP r a m b = false → (∃ v6 : Option V, [some (V.ref ra), some (.ref sa), some (.ref d), some (.int (a : Int)), some (.ref l), some (.int (p.length : Int)), some (.int (b : Int))] = [some (.ref ra), some (.ref sa), some (.ref d), some (.int (a : Int)), some (.ref l), some (.int (p.length : Int)), v6]) ∧
                (∀ b o, H b = some o → b ≠ rd → H3 b = some o) ∧ H3 rd = some (.frz od (.dK (rowD s.w s.n (Ie10.left r) a))) ∧
                H3 d = some (.dK (dm (m ++ (((besL s.w s.n a).take (j + 1)).filter (newP r a m)).map fun b => (b, a)))) ∧ H3 l = some (.lst (nv (p ++ a :: q ++ ((besL s.w s.n a).take (j + 1)).filter (newP r a m)))) := fun h => by
              rw [htk, if_neg (by rw [h]; exact Bool.noConfusion), List.append_nil]
              exact ⟨⟨_, rfl⟩, sm3, hr3, hd3, hl3⟩
            -- if room[cell][other] > 0 and other not in before
            refine ⟨_, rfl, _, rfl, ra, _, _, _, rfl, rfl, SqL.of (hra1 sm3), atI_nat hrv, _, rfl, rd, _, rfl, .inl ⟨_, Sum.inl (b : Int), .inr ⟨od, hr3⟩, rfl, (rowD_val hbm).symm⟩, _, _, rfl, rfl, _, rfl, ite2 (fun h1 => ?_) (fun h1 => ?_)⟩
            · have h1 := of_decide_eq_true h1
              refine ⟨_, rfl, _, rfl, d, _, rfl, DGet.k (k := Sum.inl (b : Int)) hd3, _, rfl, ?_⟩
              rw [dm_some, keys_app, keys_new]
              have hmem : (b ∈ keys m ++ ((besL s.w s.n a).take j).filter (newP r a m)) ↔ b ∈ keys m := by
                rw [List.mem_append]
                exact ⟨fun h => h.elim id (fun h => absurd (List.mem_filter.mp h).1 hnot), .inl⟩
              by_cases hin : b ∈ keys m
              · rw [decide_eq_true (hmem.mpr hin)]
                refine iteF (stay ?_)
                unfold newP
                rw [mem_any, decide_eq_true hin]
                simp
              · rw [decide_eq_false (fun h => hin (hmem.mp h))]
                have hP : newP r a m b = true := by
                  unfold newP
                  rw [mem_any, decide_eq_false hin, decide_eq_true (by omega)]
                  rfl
                refine iteT ⟨_, rfl, _, rfl, _, rfl, d, _, rfl, DPut.k (k := Sum.inl (b : Int)) hd3 (small1000 (by simp only [dm, List.length_map, List.length_append]; omega)), ?_⟩
                rw [dm_put (by rw [keys_app, keys_new]; exact fun h => hin (hmem.mp h))]
                have hl4 : ∀ o, upd H3 d o l = some (.lst (nv (p ++ a :: q ++ ((besL s.w s.n a).take j).filter (newP r a m)))) := fun o => by rw [upd_ne hdl.symm]; exact hl3
                refine ⟨_, rfl, .inl ⟨rfl, _, SqL.of (hl4 _)⟩, _, rfl, l, _, _, rfl, rfl, hl4 _, small1000 (by rw [nv_len]; simp only [List.length_append, List.length_cons]; omega), ?_⟩
                refine ⟨⟨_, rfl⟩, ?_, ?_, ?_, ?_⟩
                · intro z o e hz
                  rw [upd_ne (ne_of_none e hlH), upd_ne (ne_of_none e hd)]
                  exact sm3 z o e hz
                · rw [upd_ne hrln, upd_ne hrdn]; exact hr3
                · rw [upd_ne hdl, upd_same, htk, if_pos hP, List.map_append, List.append_assoc]
                  rfl
                · rw [upd_same, htk, if_pos hP, ← List.append_assoc, nv_app _ [b]]
                  rfl
            · have h1 : ¬ (0 : Int) < (Ie10.left r a b : Int) := fun h => h1 (decide_eq_true h)
              refine iteF (stay ?_)
              unfold newP
              rw [decide_eq_false (by omega)]
              rfl
          · rintro σ H3 ⟨⟨v6, rfl⟩, sm3, hr3, hd3, hl3⟩
            have erl : (rowD s.w s.n (Ie10.left r) a).length = (besL s.w s.n a).length := by unfold rowD; rw [List.length_map]
            rw [erl, List.take_length, fresh_bes G hsup ha] at hd3 hl3
            refine ⟨hr3, ?_⟩
            -- at += 1
            refine ⟨_, rfl, _, _, rfl, rfl, ?_⟩
            have hfn : ∀ x, x ∈ (List.range s.n).filter (newP r a m) → x < s.n ∧ x ∉ keys m := fun x hx => by
              have hx := List.mem_filter.mp hx
              refine ⟨List.mem_range.mp hx.1, fun hm => ?_⟩
              have h2 := hx.2
              unfold newP at h2
              rw [mem_any, decide_eq_true hm] at h2
              simp at h2
            have eapp : p ++ a :: q ++ (List.range s.n).filter (newP r a m) = (p ++ [a]) ++ (q ++ (List.range s.n).filter (newP r a m)) := by simp
            refine ⟨⟨p ++ [a], q ++ (List.range s.n).filter (newP r a m), m ++ ((List.range s.n).filter (newP r a m)).map fun b => (b, a), kk, some (.int (a : Int)), v6, ?_, ?_, ?_, ?_, ?_, ?_, ?_, ?_, ?_⟩, ?_⟩
            · have : ((p ++ [a]).length : Int) = (p.length : Int) + 1 := by simp
              rw [this]
              rfl
            · intro z o e
              by_cases hz : z = rd
              · subst hz
                rw [upd_same, ← hrow, e]
              · rw [upd_ne hz]
                exact sm3 z o e hz
            · rw [upd_ne hrdn.symm]; exact hd3
            · rw [upd_ne hrln.symm, ← eapp]; exact hl3
            · rw [keys_app, keys_new, hk, eapp]
            · rw [← eapp, List.nodup_append]
              refine ⟨nd, range_nodup, fun x hx y hy e => ?_⟩
              subst e
              exact (hfn x hy).2 (by rw [hk]; exact hx)
            · intro x hx
              rw [← eapp] at hx
              rcases List.mem_append.mp hx with hx | hx
              · exact hlt x hx
              · exact (hfn x hx).1
            · rw [← hs]
              rfl
            · rw [List.length_append]
              simp only [List.length_cons, List.length_nil]
              omega
            · have e1 : ∀ {x : Int} {u v w : Option V}, atOf ([some (V.ref ra), some (.ref sa), some (.ref d), u, some (.ref l), some (.int x), w]) 5 = x.toNat := rfl
              show s.n - atOf ([some (V.ref ra), some (.ref sa), some (.ref d), _, some (.ref l), some (.int ((p.length : Int) + 1)), _]) 5 < s.n - atOf ([some (V.ref ra), some (.ref sa), some (.ref d), _, some (.ref l), some (.int (p.length : Int)), _]) 5
              rw [e1 (v := none), e1 (v := none)]
              omega
        · have hlen : ¬ ((p.length : Nat) : Int) < ((nv (p ++ q)).length : Int) := fun h => hlen (decide_eq_true h)
          rw [nv_len, List.length_append] at hlen
          have hq : q = [] := List.eq_nil_of_length_eq_zero (by omega)
          subst hq
          have hs : m = Ie10.from_ r s.n s.ins := by
            rw [← hs]
            cases kk <;> rfl
          refine ⟨_, rfl, k H' d sm hd ?_⟩
          rw [hd', hs]
      · rintro σ H' Q1 Q2 himp ⟨v, hv, v2, hv2, a, b, e1, h2, i, j, e3, e4, kk, e5, h6⟩
        exact ⟨v, hv, v2, hv2, a, b, e1, h2, i, j, e3, e4, kk, e5, himp _ _ h6⟩
end
end Cl
namespace Cl
open PySem PySem.Spec PyProof.Rows L2

theorem unlock_same {H H' : Hp} {d : Addr} {x u : HO} (h : Same (upd H d x) H') (hd : H d = some u) : Same H (upd H' d u) := fun b o e => by
  by_cases hb : b = d
  · subst hb
    rw [upd_same, ← hd, e]
  · rw [upd_ne hb]
    refine h b o ?_
    rw [upd_ne hb]
    exact e
/-- the pairs of a way with room, from behind -/
def wayOf (s : Ie10.St) (r : Ie10.Left) : List (Nat × Nat) := match Ie10.wayThrough s r with
  | none => []
  | some p => (Ie10.pairs p).reverse
theorem first_of {p : Nat → Bool} : ∀ (m : List (Nat × Nat)), match m.find? fun x => p x.1 with
    | none => (keys m).filter p = []
    | some x => ∃ t, (keys m).filter p = x.1 :: t
  | [] => rfl
  | y :: m => by
    have ih := first_of (p := p) m
    have ek : keys (y :: m) = y.1 :: keys m := rfl
    rw [List.find?_cons, ek]
    cases h : p y.1 with
    | true => exact ⟨(keys m).filter p, by rw [List.filter_cons, if_pos h]⟩
    | false =>
      have e : (y.1 :: keys m).filter p = (keys m).filter p := by rw [List.filter_cons, if_neg (by rw [h]; exact Bool.noConfusion)]
      rw [e]
      exact ih
theorem trace_len {m : List (Nat × Nat)} : ∀ (k b : Nat), (Ie10.trace m k b).length ≤ k
  | 0, _ => Nat.le_refl _
  | k + 1, b => by
    unfold Ie10.trace
    cases m.find? fun x => x.1 == b with
    | none => exact Nat.zero_le _
    | some x =>
      dsimp only
      split
      · exact Nat.succ_le_succ (Nat.zero_le _)
      · rw [List.length_append]
        have := trace_len (m := m) k x.2
        simp only [List.length_cons, List.length_nil]
        omega
theorem pairs_len (l : List Nat) : (Ie10.pairs l).length ≤ l.length := by
  unfold Ie10.pairs
  rw [List.length_zip]
  exact Nat.min_le_left _ _
theorem wayOf_len {s : Ie10.St} {r : Ie10.Left} : (wayOf s r).length ≤ s.n + 1 := by
  unfold wayOf Ie10.wayThrough
  dsimp only
  cases (Ie10.from_ r s.n s.ins).find? fun x => s.outs.contains x.1 with
  | none => exact Nat.zero_le _
  | some x =>
    show (Ie10.pairs (Ie10.trace _ _ _)).reverse.length ≤ _
    rw [List.length_reverse]
    exact Nat.le_trans (pairs_len _) (trace_len _ _)

section
variable {P : Program} {w : World} {K : PySem.W.Frag} {mg : Str → Option Value} {base : Heap} {C : Addr}

def spWay : Sp := fun vs H Q _ => ∃ (ra sa ea : Addr) (ds : List Addr) (s : Ie10.St) (r : Ie10.Left), vs = [.ref ra, .ref sa, .ref ea] ∧ RoomAt H ra ds s.w s.n s.n (Ie10.left r) ∧ Seeds s ∧ Sup s.w r ∧
  H sa = some (.lst (nv s.ins)) ∧ H ea = some (.lst (nv s.outs)) ∧ ∀ (H' : Hp) (p : Addr) (ts : List Addr), Same H H' → H p = none → PairsAt H' p ts (wayOf s r) → Q (.ref p) H'
theorem ok_way {f f1 : Addr} {fd fd1 : FuncData} (F : Fun K "way_with_room" "way_with_room" s_way_with_room f fd) (T : Txt K mg C)
    (D_reached_through : DefAt P w K mg base 1 "reached_through" ["room", "starts"] spThrough f1 fd1) :
    FnOk P w K mg base CX0 2 f fd ["room", "starts", "ends"] spWay := by
  refine F.ok sc_way_with_room (fun vs H Q E h => ?_) (fun cdv A outer s H vs Q E hr h => ⟨_, have hu := hu_of hr; (pss_cons (ps_set (i := 3) sc_way_with_room.nd rfl (Or.inl rfl) (pe_call D_reached_through.ok (hr.mono (by decide)) rfl D_reached_through.g D_reached_through.kp D_reached_through.b .nil pass0 (pa_cons (pv 0) (pa_cons (pv 1) pa_nil))))
 (pss_cons (ps_lock (ps_setLc (i := 4) (own := [("cell", 6)]) (g := gName 6) (tt := tTest (tOp (rIn K false) (tVar 6) (tVar 2))) (te := tVar 6) rfl sc_way_with_room.nd rfl rfl (sw_true rfl rfl rfl (by decide +kernel)) (pi_keys (pv 3)) (blkOk_by (own := [("cell", 6)]) (N := ["room", "starts", "ends", "before", "reached", "pairs", "cell"]) (sc := defScope s_way_with_room) (by decide +kernel)) (fun _ _ _ _ _ => (pg_name (i := 6) sc_way_with_room.nd rfl (Or.inl rfl))) (fun _ _ _ _ _ => (pts_one (pt_cmpR op_in_seq (pv 6) (pv 2) (by rfl)))) (fun _ _ _ _ _ => (pv 6))))
 (pss_cons (ps_set (i := 5) sc_way_with_room.nd rfl (Or.inl rfl) (pe_lst pa_nil))
 (pss_cons (ps_if (pt_cmpR op_gt (pe_callB call_len_seq (by rfl) T.n_len PySem.boot_len (pa_cons (pv 4) pa_nil)) pe_int (nomark _))
 (pss_cons (ps_set (i := 6) sc_way_with_room.nd rfl (Or.inl rfl) (pe_ix ix_list (pv 4) pe_int (fun _ _ => rfl)))
 (pss_one (ps_while PassesOwn.never (pt_cmpR op_ne (pe_dget hu (pv 3) (pv 6) (fun _ _ => rfl)) (pv 6) (nomark _))
 (pss_cons (ps_expr (pe_bm PySem.F.plainAttrs_list PySem.F.slot_list_append PySem.F.type_list_append mt_append (pv 5) (pa_cons (pe_tup (pa_cons (pe_dget hu (pv 3) (pv 6) (fun _ _ => rfl)) (pa_cons (pv 6) pa_nil))) pa_nil)))
 (pss_one (ps_set (i := 6) sc_way_with_room.nd rfl (Or.inl rfl) (pe_dget hu (pv 3) (pv 6) (fun _ _ => rfl))))))))
 pss_nil)
 (pss_one (ps_ret (pv 5))))))), ?_⟩)
  · obtain ⟨_, _, _, _, _, _, rfl, _⟩ := h
    rfl
  · obtain ⟨ra, sa, ea, ds, s, r, rfl, RA, G, hsup, hsa, hea, k⟩ := h
    have n25 := G.n25
    -- before = reached_through(room, starts)
    refine ⟨_, rfl, _, rfl, ra, sa, ds, s, r, rfl, RA, G, hsup, hsa, fun H1 d sm1 hd hd1 => ?_⟩
    obtain ⟨dep, B⟩ := from_bfs (n := s.n) (r := r) G.insN G.insL
    have hway : Ie10.wayThrough s r = ((Ie10.from_ r s.n s.ins).find? fun x => s.outs.contains x.1).map fun x => Ie10.trace (Ie10.from_ r s.n s.ins) (s.n + 1) x.1 := rfl
    have hfirst := first_of (p := fun c => s.outs.contains c) (Ie10.from_ r s.n s.ins)
    generalize Ie10.from_ r s.n s.ins = m at hd1 B hway hfirst
    have mlen : m.length ≤ s.n := by
      have := nodup_lt B.nd B.lt
      simpa [keys] using this
    dsimp only [gName]
    refine at_slots (σ' := [some (.ref ra), some (.ref sa), some (.ref ea), some (.ref d), none, none, none]) rfl ?_
    -- reached = [cell for cell in before if cell in ends]
    refine ⟨d, _, hd1, trivial, fun od => ?_⟩
    refine ⟨_, rfl, d, od, rfl, .inl ⟨_, upd_same, fun D hD => ?_⟩⟩
    have hdD : d ≠ D := ne_of_none upd_same hD
    have hea1 : upd H1 d (.frz od (.dK (dm m))) ea = some (.lst (nv s.outs)) := by
      rw [upd_ne (ne_of (sm1 _ _ hea) hd1 (by intro z; cases z))]
      exact sm1 _ _ hea
    refine lc_it walk_keys (fun i H' => Same (upd H1 d (.frz od (.dK (dm m)))) H' ∧ H' D = some (.lst (nv (((keys m).take i).filter fun c => s.outs.contains c)))) ?_ ?_ ?_ ?_
    · exact ⟨same_upd hD, upd_same⟩
    · rintro i H' _ ⟨sm', _⟩
      exact sm' _ _ upd_same
    · rintro i x H9 H' hi ⟨sm', hD'⟩ ⟨rfl, kx, vx, hkx, rfl⟩
      obtain ⟨y, hy, ekv⟩ : ∃ y, m[i]? = some y ∧ ((Sum.inl (y.1 : Int) : Key), V.int (y.2 : Int)) = (kx, vx) := by
        rw [List.getElem?_map] at hkx
        cases e : m[i]? with
        | none => rw [e] at hkx; cases hkx
        | some b => rw [e] at hkx; exact ⟨b, rfl, Option.some.inj hkx⟩
      cases ekv
      have hyk : (keys m)[i]? = some y.1 := by rw [List.getElem?_map, hy]; rfl
      have htk := take_filter (p := fun c => s.outs.contains c) hyk
      have hil : i < m.length := (List.getElem?_eq_some_iff.mp hy).1
      refine ⟨rfl, _, rfl, _, rfl, ea, _, rfl, .inl (SqL.of (sm' _ _ hea1)), rfl, flat_nv s.outs, _, rfl, ?_⟩
      show if inV (.int (y.1 : Int)) (nv s.outs) = true then _ else _
      rw [inV_nv]
      refine ite2 (fun h1 => ?_) (fun h1 => ?_)
      · refine ⟨_, rfl, _, hD', small1000 ?_, ?_, ?_⟩
        · rw [nv_len]
          refine Nat.le_trans (List.length_filter_le _ _) ?_
          rw [List.length_take]
          omega
        · intro z o e
          rw [upd_ne (ne_of_none e hD)]
          exact sm' z o e
        · rw [upd_same, htk, if_pos h1, nv_app]
          rfl
      · rw [htk, if_neg h1, List.append_nil]
        exact ⟨sm', hD'⟩
    · rintro H2 ⟨sm2, hD2⟩
      have eml : (dm m).length = (keys m).length := by simp [dm, keys]
      rw [eml, List.take_length] at hD2
      refine ⟨sm2 _ _ upd_same, ?_⟩
      have sm3 : Same H1 (upd H2 d (.dK (dm m))) := unlock_same sm2 hd1
      have hD3 : upd H2 d (.dK (dm m)) D = some (.lst (nv ((keys m).filter fun c => s.outs.contains c))) := by rw [upd_ne hdD.symm]; exact hD2
      have hd3 : upd H2 d (.dK (dm m)) d = some (.dK (dm m)) := upd_same
      generalize upd H2 d (.dK (dm m)) = H3 at sm3 hD3 hd3
      -- pairs = []
      refine ⟨(by show 0 ≤ sizeLine; decide), fun l hl => ?_⟩
      dsimp only [gName]
      refine at_slots (σ' := [some (.ref ra), some (.ref sa), some (.ref ea), some (.ref d), some (.ref D), some (.ref l), none]) rfl ?_
      have hlH : H l = none := (sm1.trans sm3).free hl
      have sm4 : Same H (upd H3 l (.lst [])) := (sm1.trans sm3).trans (same_upd hl)
      have hD4 : upd H3 l (.lst []) D = some (.lst (nv ((keys m).filter fun c => s.outs.contains c))) := same_upd hl _ _ hD3
      have PA0 : PairsAt (upd H3 l (.lst [])) l [] [] := ⟨upd_same, rfl, fun i t q e => (by cases e)⟩
      -- if len(reached) > 0
      refine ⟨_, rfl, D, _, rfl, .inl (SqL.of hD4), _, _, rfl, rfl, _, rfl, ite2 (fun h1 => ?_) (fun h1 => ?_)⟩
      · have h1 := of_decide_eq_true h1
        rw [nv_len] at h1
        cases hf : m.find? fun x => s.outs.contains x.1 with
        | none =>
          rw [hf] at hfirst
          rw [hfirst] at h1
          simp at h1
        | some x =>
        rw [hf] at hfirst hway
        obtain ⟨t, ht⟩ := hfirst
        have hxm := List.mem_of_find?_eq_some hf
        have hxk : x.1 ∈ keys m := List.mem_map_of_mem hxm
        have ewo : wayOf s r = (Ie10.pairs (Ie10.trace m (s.n + 1) x.1)).reverse := by
          unfold wayOf
          rw [hway]
          rfl
        rw [ht] at hD4
        -- cell = reached[0]
        refine ⟨_, rfl, D, _, _, _, rfl, rfl, SqL.of hD4, get_mid (a := []) (x := x.1) (c := t) rfl, ?_⟩
        dsimp only [gName]
        refine at_slots (σ' := [some (.ref ra), some (.ref sa), some (.ref ea), some (.ref d), some (.ref D), some (.ref l), some (.int (x.1 : Int))]) rfl ?_
        refine while_by (fun σ H' => ∃ (c kk : Nat) (ps : List (Nat × Nat)) (ts : List Addr), σ = [some (.ref ra), some (.ref sa), some (.ref ea), some (.ref d), some (.ref D), some (.ref l), some (.int (c : Int))] ∧ Same H H' ∧ H' d = some (.dK (dm m)) ∧
            PairsAt H' l ts ps ∧ c ∈ keys m ∧ dep c < kk ∧ ps.length + kk = s.n + 1 ∧ ps ++ (Ie10.pairs (Ie10.trace m kk c)).reverse = wayOf s r)
          (fun σ _ => dep (atOf σ 6)) ?_ ?_ ?_
        · refine ⟨x.1, s.n + 1, [], [], rfl, sm4, same_upd hl _ _ hd3, PA0, hxk, Nat.lt_succ_of_lt (B.small _ hxk), by simp, ewo.symm⟩
        · rintro σ H' ⟨c, kk, ps, ts, rfl, sm, hd', PA, hck, hdk, hlen, heq⟩
          cases kk with
          | zero => exact absurd hdk (Nat.not_lt_zero _)
          | succ kk =>
          obtain ⟨y, hy, ey⟩ := List.mem_map.mp hck
          have ey : y.1 = c := ey
          have hval : valV (dm m) (Sum.inl (c : Int)) = some (.int (y.2 : Int)) := by
            rw [dm_val]
            have : m.find? (fun x => x.1 == c) = some y := by
              cases hf2 : m.find? (fun x => x.1 == c) with
              | none => exact absurd (List.find?_eq_none.mp hf2 y hy) (by simp [ey])
              | some z =>
                have ez : z.1 = c := by simpa using List.find?_some hf2
                rw [key_uniq m B.nd (List.mem_of_find?_eq_some hf2) hy (ez.trans ey.symm)]
            rw [this]
            rfl
          have hget : ∀ {H4 : Hp}, H4 d = some (.dK (dm m)) → DGet H4 d (.int (c : Int)) (some (.int (y.2 : Int))) := fun h => .inl ⟨_, Sum.inl (c : Int), .inl h, rfl, hval.symm⟩
          have hst := trace_step B hy ey hdk
          refine ⟨_, rfl, _, rfl, d, _, rfl, hget hd', _, rfl, rfl, _, rfl, ?_⟩
          by_cases hyc : y.2 = c
          · have hz : (V.int (y.2 : Int)) = V.int (c : Int) := by rw [hyc]
            rw [decide_eq_true hz]
            refine iteF ?_
            rw [hst.1 hyc] at heq
            have heq : ps ++ ([] : List (Nat × Nat)).reverse = wayOf s r := heq
            rw [List.reverse_nil, List.append_nil] at heq
            rw [heq] at PA
            exact ⟨_, rfl, k H' l ts sm hlH PA⟩
          · have hz : ¬ (V.int (y.2 : Int)) = V.int (c : Int) := fun z => hyc (Int.ofNat.inj (V.int.inj z))
            rw [decide_eq_false hz]
            refine iteT ?_
            obtain ⟨h1, h2, h3, h4⟩ := hst.2 hyc
            -- pairs.append((before[cell], cell))
            refine ⟨_, rfl, .inl ⟨rfl, _, SqL.of PA.lst⟩, _, rfl, _, rfl, d, _, rfl, hget hd', _, rfl, (by show 2 ≤ sizeLine; decide), fun t ht => ⟨l, _, _, rfl, rfl, (by rw [upd_ne (ne_of_none PA.lst ht)]; exact PA.lst), small1000 (by rw [List.length_map, PA.len]; omega), ?_⟩⟩
            have hd5 : upd (upd H' t (.tup [.int (y.2 : Int), .int (c : Int)])) l (.lst (ts.map V.ref ++ [.ref t])) d = some (.dK (dm m)) := by
              rw [upd_ne (ne_of hd' PA.lst (by intro z; cases z)), upd_ne (ne_of_none hd' ht)]
              exact hd'
            -- cell = before[cell]
            refine ⟨_, rfl, _, rfl, d, _, rfl, hget hd5, ?_⟩
            refine ⟨⟨y.2, kk, ps ++ [(y.2, c)], ts ++ [t], rfl, ?_, hd5, PA.add ht, h3, h1, ?_, ?_⟩, ?_⟩
            · intro z o e
              rw [upd_ne (ne_of_none e hlH), upd_ne (ne_of_none (sm _ _ e) ht)]
              exact sm z o e
            · rw [List.length_append]
              simp only [List.length_cons, List.length_nil]
              omega
            · rw [← heq, h4]
              simp
            · show dep y.2 < dep c
              omega
        · rintro σ H' Q1 Q2 himp ⟨v, hv, v2, hv2, a, b, e1, g1, v3, hv3, e2, kk, e5, h6⟩
          exact ⟨v, hv, v2, hv2, a, b, e1, g1, v3, hv3, e2, kk, e5, himp _ _ h6⟩
      · have h1 : ¬ (0 : Int) < ((nv ((keys m).filter fun c => s.outs.contains c)).length : Int) := fun h => h1 (decide_eq_true h)
        rw [nv_len] at h1
        cases hf : m.find? fun x => s.outs.contains x.1 with
        | some x =>
          rw [hf] at hfirst
          obtain ⟨t, ht⟩ := hfirst
          rw [ht] at h1
          simp at h1
        | none =>
        rw [hf] at hway
        have ewo : wayOf s r = [] := by
          unfold wayOf
          rw [hway]
          rfl
        refine ⟨_, rfl, k _ l [] sm4 hlH ?_⟩
        rw [ewo]
        exact PA0
end
end Cl
namespace Cl
open PySem PySem.Spec PyProof.Rows L2

theorem put_row {u v x : Nat} {R : Nat → Nat → Nat} {l : List Nat} (h : v ∈ l) :
    putK (l.map fun (b : Nat) => ((Sum.inl (b : Int) : Key), V.int (R u b : Int))) (Sum.inl (v : Int)) (.int (x : Int)) = l.map fun (b : Nat) => ((Sum.inl (b : Int) : Key), V.int (upd2 R u v x u b : Int)) := by
  unfold putK
  rw [valV_any, map_val (F := fun b => V.int (R u b : Int)), if_pos h, if_pos (by rfl), List.map_map]
  refine List.map_congr_left fun b _ => ?_
  show (if (Sum.inl (b : Int) : Key) = Sum.inl (v : Int) then ((Sum.inl (b : Int) : Key), V.int (x : Int)) else (Sum.inl (b : Int), V.int (R u b : Int))) = _
  by_cases e : b = v
  · subst e
    rw [if_pos rfl]
    unfold upd2
    rw [if_pos ⟨rfl, rfl⟩]
  · have hne : ¬ ((Sum.inl (b : Int) : Key) = Sum.inl (v : Int)) := fun z => e (Int.ofNat.inj (Sum.inl.inj z))
    rw [if_neg hne]
    unfold upd2
    rw [if_neg (fun z => e z.2)]
theorem RoomAt.put {H : Hp} {ra d : Addr} {ds : List Addr} {w n m : Nat} {R : Nat → Nat → Nat} (h : RoomAt H ra ds w n m R) {u v x : Nat} (hd : ds[u]? = some d) (hv : v ∈ besL w n u) :
    RoomAt (upd H d (.dK (putK (rowD w n R u) (Sum.inl (v : Int)) (.int (x : Int))))) ra ds w n m (upd2 R u v x) := by
  refine ⟨?_, h.len, h.nd, ?_⟩
  · rw [upd_ne (ne_of h.lst (h.row u d hd) (by intro z; cases z))]
    exact h.lst
  · intro a e f
    by_cases ha : a = u
    · subst ha
      have e1 : d = e := Option.some.inj (hd.symm.trans f)
      subst e1
      rw [upd_same]
      unfold rowD
      rw [put_row hv]
    · have hne : e ≠ d := fun z => by
        subst z
        have hl := (List.getElem?_eq_some_iff.mp f).1
        exact ha ((List.getElem?_inj hl h.nd).mp (f.trans hd.symm))
      rw [upd_ne hne, h.row a e f]
      rw [rowD_congr (R := upd2 R u v x) (R' := R)]
      intro b _
      unfold upd2
      rw [if_neg (fun z => ha z.1)]
theorem RoomAt.notin {H : Hp} {ra b : Addr} {ds : List Addr} {w n m : Nat} {R : Nat → Nat → Nat} {o : HO} (h : RoomAt H ra ds w n m R) (hb : H b = some o) (ho : ∀ kvs, o ≠ .dK kvs) : b ∉ ds := fun z => by
  obtain ⟨a, e⟩ := List.getElem?_of_mem z
  have := h.row a b e
  rw [hb] at this
  exact ho _ (Option.some.inj this)
theorem bes_mem {s : Ie10.St} (g : Seeds s) {a b : Nat} (ha : a < s.n) (hb : b < s.n) (h : bes s.w a b = true) : b ∈ besL s.w s.n a := by
  have e : besL s.w s.n a = (List.range s.n).filter fun b => bes s.w a b := besL_eq g.w1 g.w5 g.h1 g.h5 ha
  rw [e, List.mem_filter, List.mem_range]
  exact ⟨hb, h⟩
theorem send_snoc {R : Nat → Nat → Nat} {k : Nat} {l : List (Nat × Nat)} {x : Nat × Nat} : sendF R (l ++ [x]) k = aug (sendF R l k) x.1 x.2 k := by
  unfold sendF
  rw [List.foldl_append]
  rfl

section
variable {P : Program} {w : World} {K : PySem.W.Frag} {mg : Str → Option Value} {base : Heap} {C : Addr}

def spLead : Sp := fun vs H Q _ => ∃ (ra wa : Addr) (ds ts : List Addr) (s : Ie10.St) (r : Ie10.Left) (ps : List (Nat × Nat)) (kk : Nat) (r' : Ie10.Left), vs = [.ref ra, .ref wa] ∧ RoomAt H ra ds s.w s.n s.n (Ie10.left r) ∧ Seeds s ∧
  PairsAt H wa ts ps ∧ ps.length ≤ 100 ∧ WayOk s r ps kk r' ∧ ∀ H' : Hp, (∀ b o, H b = some o → b ∉ ds → H' b = some o) → RoomAt H' ra ds s.w s.n s.n (Ie10.left r') → Q .non H'
theorem ok_lead {f : Addr} {fd : FuncData} (F : Fun K "lead_along" "lead_along" s_lead_along f fd) (T : Txt K mg C) :
    FnOk P w K mg base CX0 1 f fd ["room", "way"] spLead := by
  refine F.ok sc_lead_along (fun vs H Q E h => ?_) (fun cdv A outer s H vs Q E hr h => ⟨_, have hu := hu_of hr; (pss_cons (ps_set (i := 2) sc_lead_along.nd rfl (Or.inl rfl) (pe_callB (cr_min rfl) (by rfl) T.n_min (by decide +kernel) (pa_cons (pe_lc (own := [("one", 3), ("other", 4)]) (g := gTup K 2 (gCons (gName 3) (gCons (gName 4) gNil))) (tt := tYes) (te := tDGet (tOp (rIxL K) (tVar 0) (tVar 3)) (tVar 4)) rfl sc_lead_along.nd (pi_list (pv 1)) (blkOk_by (own := [("one", 3), ("other", 4)]) (N := ["room", "way", "much", "one", "other"]) (sc := defScope s_lead_along) (by decide +kernel)) (fun _ _ _ _ _ => (pg_tup rfl (pgs_cons (pg_name (i := 3) sc_lead_along.nd rfl (Or.inl rfl)) (pgs_cons (pg_name (i := 4) sc_lead_along.nd rfl (Or.inl rfl)) pgs_nil)))) (fun _ _ _ _ _ => pts_nil) (fun _ _ _ _ _ => (pe_dget hu (pe_ix ix_list (pv 0) (pv 3) (fun _ _ => rfl)) (pv 4) (fun _ _ => rfl)))) pa_nil)))
 (pss_one (ps_for PassesOwn.never rfl (pi_list (pv 1)) (pg_tup rfl (pgs_cons (pg_name (i := 3) sc_lead_along.nd rfl (Or.inl rfl)) (pgs_cons (pg_name (i := 4) sc_lead_along.nd rfl (Or.inl rfl)) pgs_nil)))
 (pss_cons (ps_daug hu (pe_ix ix_list (pv 0) (pv 3) (fun _ _ => rfl)) (pv 4) (pv 2) in_sub (fun _ _ _ => rfl))
 (pss_one (ps_daug hu (pe_ix ix_list (pv 0) (pv 4) (fun _ _ => rfl)) (pv 3) (pv 2) in_add (fun _ _ _ => rfl))))))), ?_⟩)
  · obtain ⟨_, _, _, _, _, _, _, _, _, rfl, _⟩ := h
    rfl
  · obtain ⟨ra, wa, ds, ts, s, r, ps, kk, r', rfl, RA, G, PA, hp100, WO, k⟩ := h
    -- much = min([room[one][other] for one, other in way])
    refine ⟨_, rfl, wa, rfl, ⟨_, SqL.of PA.lst⟩, fun D hD => ?_⟩
    refine lc_list (K := K) (a := wa) (xs := ts.map V.ref) (fun i H' => Same H H' ∧ H' D = some (.lst (nv ((ps.take i).map fun x => Ie10.left r x.1 x.2)))) ?_ ?_ ?_ ?_
    · exact ⟨same_upd hD, upd_same⟩
    · rintro i H' _ ⟨sm', _⟩
      exact SqL.of (sm' _ _ PA.lst)
    · rintro i x H' hx ⟨sm', hD'⟩
      obtain ⟨t, y, rfl, hy, ht⟩ := (PA.same sm').at hx
      have hyo := WO.lt y (List.mem_of_getElem? hy)
      have hil : i < ps.length := (List.getElem?_eq_some_iff.mp hy).1
      obtain ⟨rd, hrd, hrv⟩ := RA.get hyo.1
      refine ⟨t, _, rfl, SqT.of ht, rfl, _, _, rfl, _, _, rfl, rfl, rfl, yes ?_⟩
      refine iteT ?_
      refine ⟨_, rfl, _, rfl, ra, _, _, _, rfl, rfl, SqL.of (sm' _ _ RA.lst), atI_nat hrv, _, rfl, rd, _, rfl, .inl ⟨_, Sum.inl (y.2 : Int), .inl (sm' _ _ (RA.row _ _ hrd)), rfl, (rowD_val (bes_mem G hyo.1 hyo.2.1 hyo.2.2.1)).symm⟩,
        _, hD', small1000 (by rw [nv_len, List.length_map, List.length_take]; omega), ?_, ?_⟩
      · intro z o e
        rw [upd_ne (ne_of_none e hD)]
        exact sm' z o e
      · rw [upd_same, take_map hy, nv_app]
        rfl
    · rintro H1 ⟨sm1, hD1⟩
      rw [List.length_map, PA.len, List.take_length] at hD1
      have hps : 0 < ps.length := List.length_pos_iff.mpr WO.ne
      refine ⟨D, (ps.map fun x => Ie10.left r x.1 x.2).map (fun (n : Nat) => (n : Int)), rfl, ?_, by rw [List.length_map, List.length_map]; exact hps, fun mn hmn hle => ?_⟩
      · refine SqL.of ?_
        rw [hD1]
        simp [nv, List.map_map, Function.comp_def]
      have emn : mn = (kk : Int) := by
        obtain ⟨z, hz, ez⟩ := List.mem_map.mp hmn
        obtain ⟨y, hy, ey⟩ := List.mem_map.mp hz
        obtain ⟨y2, hy2, ey2⟩ := WO.least
        have h1 := (WO.lt y hy).2.2.2
        have h2 := hle _ (List.mem_map.mpr ⟨_, List.mem_map.mpr ⟨y2, hy2, rfl⟩, rfl⟩)
        try dsimp only at h2
        omega
      subst emn
      dsimp only [gName]
      refine at_slots (σ' := [some (.ref ra), some (.ref wa), some (.int (kk : Int)), none, none]) rfl ?_
      have offw : wa ∉ ds := RA.notin PA.lst (by intro _ z; cases z)
      -- for one, other in way
      refine ⟨_, rfl, wa, rfl, ⟨_, SqL.of (sm1 _ _ PA.lst)⟩, for_list (K := K) (a := wa) (xs := ts.map V.ref) (fun i σ H' => (∃ v3 v4 : Option V, σ = [some (.ref ra), some (.ref wa), some (.int (kk : Int)), v3, v4]) ∧
        (∀ b o, H b = some o → b ∉ ds → H' b = some o) ∧ RoomAt H' ra ds s.w s.n s.n (sendF (Ie10.left r) (ps.take i) kk))
        ⟨⟨none, none, rfl⟩, fun b o e _ => sm1 b o e, RA.same sm1⟩ (fun i σ H' _ h => SqL.of (h.2.1 _ _ PA.lst offw)) ?_ ?_⟩
      · rintro i x σ H' hx ⟨⟨v3, v4, rfl⟩, fr, RA'⟩
        obtain ⟨t, y, rfl, hy, ht⟩ := PA.at hx
        obtain ⟨u, v⟩ := y
        have hyo := WO.lt (u, v) (List.mem_of_getElem? hy)
        have hyn := WO.nn (u, v) (List.mem_of_getElem? hy)
        dsimp only at hyo hyn ht
        have hil : i < ps.length := (List.getElem?_eq_some_iff.mp hy).1
        have htk : ps.take (i + 1) = ps.take i ++ [(u, v)] := by rw [List.take_add_one, hy]; rfl
        have hoff : ∀ z, z ∈ ps.take i → Off z (u, v) := by
          have h1 : (ps.take (i + 1)).Pairwise Off := WO.off.sublist (List.take_sublist _ _)
          rw [htk, List.pairwise_append] at h1
          exact fun z hz => h1.2.2 z hz _ (by simp)
        have htn : t ∉ ds := RA.notin ht (by intro _ z; cases z)
        have eR : sendF (Ie10.left r) (ps.take i) kk u v = Ie10.left r u v := send_other _ _ fun z hz => by
          have := hoff z hz
          exact ⟨fun q => this.1 ⟨q.1.symm, q.2.symm⟩, fun q => this.2 ⟨q.2.symm, q.1.symm⟩⟩
        obtain ⟨du, hdu, hvu⟩ := RA'.get hyo.1
        obtain ⟨dv, hdv, hvv⟩ := RA'.get hyo.2.1
        have hbu := bes_mem G hyo.1 hyo.2.1 hyo.2.2.1
        have hbv := bes_mem G hyo.2.1 hyo.1 (by rw [bes_comm]; exact hyo.2.2.1)
        have bl : ∀ {R : Nat → Nat → Nat} {a : Nat}, (rowD s.w s.n R a).length < sizeLine := fun {R a} => small1000 (by
          unfold rowD
          rw [List.length_map]
          have := besL_len (w := s.w) (n := s.n) (c := a)
          omega)
        refine ⟨t, _, rfl, SqT.of (fr _ _ ht htn), rfl, _, _, rfl, _, _, rfl, rfl, ?_⟩
        -- room[one][other] -= much
        refine ⟨_, rfl, _, rfl, ra, _, _, _, rfl, rfl, SqL.of RA'.lst, atI_nat hvu, _, rfl, du, _, rfl, .inl ⟨_, Sum.inl (v : Int), .inl (RA'.row _ _ hdu), rfl, (rowD_val hbu).symm⟩, _, rfl, _, _, rfl, rfl, _, DPut.k (k := Sum.inl (v : Int)) (RA'.row _ _ hdu) bl, ?_⟩
        have es : ((sendF (Ie10.left r) (ps.take i) kk u v : Nat) : Int) - (kk : Int) = ((sendF (Ie10.left r) (ps.take i) kk u v - kk : Nat) : Int) := by
          have h2 := hyo.2.2.2
          rw [eR]
          omega
        rw [es]
        have RA2 := RA'.put (x := sendF (Ie10.left r) (ps.take i) kk u v - kk) hdu hbu
        have fr2 : ∀ b o, H b = some o → b ∉ ds → upd H' du (.dK (putK (rowD s.w s.n (sendF (Ie10.left r) (ps.take i) kk) u) (Sum.inl (v : Int)) (.int ((sendF (Ie10.left r) (ps.take i) kk u v - kk : Nat) : Int)))) b = some o := fun b o e hb => by
          rw [upd_ne (fun z : b = du => hb (z ▸ List.mem_of_getElem? hdu))]
          exact fr b o e hb
        generalize hH2 : upd H' du (.dK (putK (rowD s.w s.n (sendF (Ie10.left r) (ps.take i) kk) u) (Sum.inl (v : Int)) (.int ((sendF (Ie10.left r) (ps.take i) kk u v - kk : Nat) : Int)))) = H2 at RA2 fr2
        -- room[other][one] += much
        refine ⟨_, rfl, _, rfl, ra, _, _, _, rfl, rfl, SqL.of RA2.lst, atI_nat hvv, _, rfl, dv, _, rfl, .inl ⟨_, Sum.inl (u : Int), .inl (RA2.row _ _ hdv), rfl, (rowD_val hbv).symm⟩, _, rfl, _, _, rfl, rfl, _, DPut.k (k := Sum.inl (u : Int)) (RA2.row _ _ hdv) bl, ?_⟩
        have e2 : upd2 (sendF (Ie10.left r) (ps.take i) kk) u v (sendF (Ie10.left r) (ps.take i) kk u v - kk) v u = sendF (Ie10.left r) (ps.take i) kk v u := by
          unfold upd2
          rw [if_neg (fun z => hyn z.2)]
        rw [e2]
        have es2 : ((sendF (Ie10.left r) (ps.take i) kk v u : Nat) : Int) + (kk : Int) = ((sendF (Ie10.left r) (ps.take i) kk v u + kk : Nat) : Int) := by omega
        rw [es2]
        refine ⟨⟨_, _, rfl⟩, fun b o e hb => ?_, ?_⟩
        · rw [upd_ne (fun z : b = dv => hb (z ▸ List.mem_of_getElem? hdv))]
          exact fr2 b o e hb
        · rw [htk, send_snoc]
          exact RA2.put (x := sendF (Ie10.left r) (ps.take i) kk v u + kk) hdv hbv
      · rintro σ H' ⟨⟨v3, v4, rfl⟩, fr, RA'⟩
        rw [List.length_map, PA.len, List.take_length, ← WO.eq] at RA'
        exact k H' fr RA'
end
end Cl
namespace Cl
open PySem PySem.Spec PyProof.Rows L2

theorem Good.seeds {s : Ie10.St} (g : Good s) : Seeds s :=
  ⟨g.w1, g.w5, g.h1, g.h5, cells_nodup g.insC, cells_lt g.insC, cells_lt g.outsC, g.apart⟩
theorem Good.flip {s : Ie10.St} (g : Good s) : Seeds (flip s) :=
  ⟨g.w1, g.w5, g.h1, g.h5, cells_nodup (s := s) g.outsC, cells_lt (s := s) g.outsC, cells_lt (s := s) g.insC, fun a h1 h2 => g.apart a h2 h1⟩

theorem range_filter {p : Nat → Bool} (i : Nat) : (List.range (i + 1)).filter p = (List.range i).filter p ++ if p i = true then [i] else [] := by
  rw [List.range_succ, List.filter_append]
  cases e : p i <;> simp [e]
/-- the same page, with other seeds -/
def seeded (s : Ie10.St) (i o : List Nat) : Ie10.St := { s with ins := i, outs := o }

theorem wayOf_none {s : Ie10.St} {r : Ie10.Left} (h : Ie10.wayThrough s r = none) : wayOf s r = [] := by
  unfold wayOf
  rw [h]
theorem wayOf_some {s : Ie10.St} {r : Ie10.Left} {p : List Nat} (h : Ie10.wayThrough s r = some p) : wayOf s r = (Ie10.pairs p).reverse := by
  unfold wayOf
  rw [h]

section
variable {P : Program} {w : World} {K : PySem.W.Frag} {mg : Str → Option Value} {base : Heap} {C : Addr}

def spLeast (C : Addr) : Sp := fun vs H Q _ => ∃ (pg dx an ai ao : Addr) (s : Ie10.St) (oa ea : Addr) (i o : List Nat), vs = [.ref pg, .ref oa, .ref ea] ∧ PageAt C H pg dx an ai ao s ∧ H oa = some (.lst (nv i)) ∧ H ea = some (.lst (nv o)) ∧
  Seeds (seeded s i o) ∧ ∀ (H' : Hp) (p : Addr), Same H H' → H p = none → H' p = some (.lst (nv (Ie10.least (seeded s i o)))) → Q (.ref p) H'

theorem ok_least {f f1 f2 f3 f4 : Addr} {fd fd1 fd2 fd3 fd4 : FuncData} (F : Fun K "least_region" "least_region" s_least_region f fd) (T : Txt K mg C)
    (D_whole_room : DefAt P w K mg base 3 "whole_room" ["page"] (spRoom C) f1 fd1) (D_way_with_room : DefAt P w K mg base 2 "way_with_room" ["room", "starts", "ends"] spWay f2 fd2)
    (D_lead_along : DefAt P w K mg base 1 "lead_along" ["room", "way"] spLead f3 fd3) (D_reached_through : DefAt P w K mg base 1 "reached_through" ["room", "starts"] spThrough f4 fd4) :
    FnOk P w K mg base CX0 4 f fd ["page", "own_seeds", "other_seeds"] (spLeast C) := by
  refine F.ok sc_least_region (fun vs H Q E h => ?_) (fun cdv A outer s H vs Q E hr h => ⟨_, (pss_cons (ps_set (i := 3) sc_least_region.nd rfl (Or.inl rfl) (pe_call D_whole_room.ok (hr.mono (by decide)) rfl D_whole_room.g D_whole_room.kp D_whole_room.b .nil pass0 (pa_cons (pv 0) pa_nil)))
 (pss_cons (ps_set (i := 4) sc_least_region.nd rfl (Or.inl rfl) (pe_call D_way_with_room.ok (hr.mono (by decide)) rfl D_way_with_room.g D_way_with_room.kp D_way_with_room.b .nil pass0 (pa_cons (pv 3) (pa_cons (pv 1) (pa_cons (pv 2) pa_nil)))))
 (pss_cons (ps_while PassesOwn.never (pt_cmpR op_gt (pe_callB call_len_seq (by rfl) T.n_len PySem.boot_len (pa_cons (pv 4) pa_nil)) pe_int (nomark _))
 (pss_cons (ps_expr (pe_call D_lead_along.ok (hr.mono (by decide)) rfl D_lead_along.g D_lead_along.kp D_lead_along.b .nil pass0 (pa_cons (pv 3) (pa_cons (pv 4) pa_nil))))
 (pss_one (ps_set (i := 4) sc_least_region.nd rfl (Or.inl rfl) (pe_call D_way_with_room.ok (hr.mono (by decide)) rfl D_way_with_room.g D_way_with_room.kp D_way_with_room.b .nil pass0 (pa_cons (pv 3) (pa_cons (pv 1) (pa_cons (pv 2) pa_nil))))))))
 (pss_one (ps_ret (pe_callB (call_sortedDI rfl) (by rfl) T.n_sorted (by decide +kernel) (pa_cons (pe_call D_reached_through.ok (hr.mono (by decide)) rfl D_reached_through.g D_reached_through.kp D_reached_through.b .nil pass0 (pa_cons (pv 3) (pa_cons (pv 1) pa_nil))) pa_nil))))))), ?_⟩)
  · obtain ⟨_, _, _, _, _, _, _, _, _, _, rfl, _⟩ := h
    rfl
  · obtain ⟨pg, dx, an, ai, ao, s, oa, ea, i, o, rfl, p, hoa, hea, G, k⟩ := h
    -- room = whole_room(page)
    refine ⟨_, rfl, pg, dx, an, ai, ao, s, rfl, p, fun H1 ra ds sm1 hra hds hrds RA0 => ?_⟩
    have hsn : s.v.length = (seeded s i o).n := p.len
    have hp : Ie10.price s = Ie10.price (seeded s i o) := rfl
    have hw : s.w = (seeded s i o).w := rfl
    have hi : i = (seeded s i o).ins := rfl
    have ho : o = (seeded s i o).outs := rfl
    rw [hsn, hp, hw] at RA0
    rw [hi] at hoa
    rw [ho] at hea
    clear hp hw hi ho p
    generalize seeded s i o = s' at RA0 hoa hea G k hsn
    have n25 := G.n25
    have RA1 : RoomAt H1 ra ds s'.w s'.n s'.n (Ie10.left (Ie10.full s')) := RA0.congr fun a b ha hb => by
      have e : besL s'.w s'.n a = (List.range s'.n).filter fun b => bes s'.w a b := besL_eq G.w1 G.w5 G.h1 G.h5 ha
      rw [e, List.mem_filter, List.mem_range] at hb
      exact (left_full ha hb.1).symm
    dsimp only [gName]
    refine at_slots (σ' := [some (.ref pg), some (.ref oa), some (.ref ea), some (.ref ra), none]) rfl ?_
    -- way = way_with_room(room, own_seeds, other_seeds)
    refine ⟨_, rfl, _, rfl, _, rfl, ra, oa, ea, ds, s', Ie10.full s', rfl, RA1, G, sup_full, sm1 _ _ hoa, sm1 _ _ hea, fun H2 wa ts sm2 hwa PA => ?_⟩
    dsimp only [gName]
    refine at_slots (σ' := [some (.ref pg), some (.ref oa), some (.ref ea), some (.ref ra), some (.ref wa)]) rfl ?_
    obtain ⟨Inv, hInv⟩ : ∃ Inv : Nat → L2.St → Hp → Prop, Inv = fun kk σ H' => ∃ (r : Ie10.Left) (ts : List Addr) (wa : Addr), σ = [some (.ref pg), some (.ref oa), some (.ref ea), some (.ref ra), some (.ref wa)] ∧ Same H H' ∧
      RoomAt H' ra ds s'.w s'.n s'.n (Ie10.left r) ∧ Shape s'.n r ∧ Sup s'.w r ∧ PairsAt H' wa ts (wayOf s' r) ∧ (Ie10.flow s' kk r).2 = (Ie10.flowed s').2 := ⟨_, rfl⟩
    refine while_by (fun σ H' => ∃ kk, Inv kk σ H') (fun σ H' => lk fun kk => Inv kk σ H') ?_ ?_ ?_
    · refine ⟨s'.n * s'.n * 4, ?_⟩
      rw [hInv]
      exact ⟨Ie10.full s', ts, wa, rfl, sm1.trans sm2, RA1.same sm2, shape_full, sup_full, PA, rfl⟩
    · rintro σ H' ⟨k0, hk0⟩
      have hkk := lk_ok (P := fun kk => Inv kk σ H') hk0
      generalize (lk fun kk => Inv kk σ H') = kk at hkk
      have hIk := hkk.1
      rw [hInv] at hIk
      obtain ⟨r, ts, wa, rfl, sm, RA, hsh, hsup, PA, hfl⟩ := hIk
      have hPl := PA.len
      refine ⟨_, rfl, wa, _, rfl, .inl (SqL.of PA.lst), _, _, rfl, rfl, _, rfl, ite2 (fun hlen => ?_) (fun hlen => ?_)⟩
      · have hlen := of_decide_eq_true hlen
        rw [List.length_map] at hlen
        cases hway : Ie10.wayThrough s' r with
        | none =>
          rw [wayOf_none hway] at hPl
          simp at hPl
          rw [hPl] at hlen
          simp at hlen
        | some pth =>
        have WO := way_ok G hsh hsup hway
        cases kk with
        | zero =>
          exfalso
          have h0 : r = (Ie10.flowed s').2 := hfl
          have := (flowed_ok G).1
          rw [← h0, hway] at this
          cases this
        | succ kk =>
        rw [flow_some hway] at hfl
        have hwl := wayOf_len (s := s') (r := r)
        rw [wayOf_some hway] at PA hwl
        generalize Ie10.send r (Ie10.pairs pth) (Ie10.leastOf r (Ie10.pairs pth)) = r' at WO hfl
        -- lead_along(room, way)
        refine ⟨_, rfl, _, rfl, ra, wa, ds, ts, s', r, _, _, r', rfl, RA, G, PA, by omega, WO, fun H3 fr RA3 => ?_⟩
        have sm3 : Same H H3 := fun b o e => fr b o (sm b o e) (fun z => by
          have := hds b z
          rw [e] at this
          cases this)
        -- way = way_with_room(room, own_seeds, other_seeds)
        refine ⟨_, rfl, _, rfl, _, rfl, ra, oa, ea, ds, s', r', rfl, RA3, G, WO.sup, sm3 _ _ hoa, sm3 _ _ hea, fun H4 wa2 ts2 sm4 hwa2 PA2 => ?_⟩
        have hnew : Inv kk [some (.ref pg), some (.ref oa), some (.ref ea), some (.ref ra), some (.ref wa2)] H4 := by
          rw [hInv]
          exact ⟨r', ts2, wa2, rfl, sm3.trans sm4, RA3.same sm4, WO.shape, WO.sup, PA2, hfl⟩
        refine ⟨⟨kk, hnew⟩, Nat.lt_succ_of_le ?_⟩
        exact (lk_ok (P := fun kk => Inv kk [some (.ref pg), some (.ref oa), some (.ref ea), some (.ref ra), some (.ref wa2)] H4) hnew).2 kk hnew
      · have hlen : ¬ (0 : Int) < ((ts.map V.ref).length : Int) := fun h => hlen (decide_eq_true h)
        rw [List.length_map] at hlen
        cases hway : Ie10.wayThrough s' r with
        | some pth =>
          exfalso
          have WO := way_ok G hsh hsup hway
          rw [wayOf_some hway] at hPl
          have := List.length_pos_iff.mpr WO.ne
          omega
        | none =>
        rw [flow_none hway] at hfl
        -- return sorted(reached_through(room, own_seeds))
        refine ⟨_, rfl, _, rfl, ra, oa, ds, s', r, rfl, RA, G, hsup, sm _ _ hoa, fun H3 d sm3 hd hd3 => ?_⟩
        obtain ⟨nd, hlt, hiff⟩ := least_keys G hfl.symm
        have kl := nodup_lt nd hlt
        refine ⟨d, _, (keys (Ie10.from_ r s'.n s'.ins)).map (fun (n : Nat) => (n : Int)), rfl, .inl hd3, by simp [dm, keys, List.map_map, Function.comp_def], by rw [List.length_map]; omega, fun ys q hp hsrt hq => ?_⟩
        have ey := sorted_is least_sub nd hiff hp hsrt
        refine k _ q ((sm.trans sm3).trans (same_upd hq)) ((sm.trans sm3).free hq) ?_
        rw [upd_same, ey]
        simp [nv, List.map_map, Function.comp_def]
    · rintro σ H' Q1 Q2 himp ⟨v, hv, a, b, e1, h2, i, j, e3, e4, kk, e5, h6⟩
      exact ⟨v, hv, a, b, e1, h2, i, j, e3, e4, kk, e5, himp _ _ h6⟩

def spGreatest (C : Addr) : Sp := fun vs H Q _ => ∃ (pg dx an ai ao : Addr) (s : Ie10.St), vs = [.ref pg] ∧ PageAt C H pg dx an ai ao s ∧
  ∀ (H' : Hp) (p : Addr), Same H H' → H p = none → H' p = some (.lst (nv (Ie10.greatest s))) → Q (.ref p) H'
theorem ok_greatest {f f1 : Addr} {fd fd1 : FuncData} (F : Fun K "greatest_region" "greatest_region" s_greatest_region f fd) (T : Txt K mg C)
    (D_least_region : DefAt P w K mg base 4 "least_region" ["page", "own_seeds", "other_seeds"] (spLeast C) f1 fd1) :
    FnOk P w K mg base CX0 5 f fd ["page"] (spGreatest C) := by
  refine F.ok sc_greatest_region (fun vs H Q E h => ?_) (fun cdv A outer s H vs Q E hr h => ⟨_, (pss_cons (ps_set (i := 1) sc_greatest_region.nd rfl (Or.inr rfl) (pe_call D_least_region.ok (hr.mono (by decide)) rfl D_least_region.g D_least_region.kp D_least_region.b .nil pass0 (pa_cons (pv 0) (pa_cons (pe_fld (pv 0) rfl) (pa_cons (pe_fld (pv 0) rfl) pa_nil)))))
 (pss_one (ps_ret (pe_lc (own := [("cell", 2)]) (g := gName 2) (tt := tTest (tOp (rIn K true) (tVar 2) (tVar 1))) (te := tVar 2) rfl sc_greatest_region.nd (pi_range1 (by rfl) T.n_range (pa_cons (pe_callB call_len_seq (by rfl) T.n_len PySem.boot_len (pa_cons (pe_fld (pv 0) rfl) pa_nil)) pa_nil)) (blkOk_by (own := [("cell", 2)]) (N := ["page", "left_out", "cell"]) (sc := defScope s_greatest_region) (by decide +kernel)) (fun _ _ _ _ _ => (pg_name (i := 2) sc_greatest_region.nd rfl (Or.inl rfl))) (fun _ _ _ _ _ => (pts_one (pt_cmpR op_notIn_seq (pv 2) (pv 1) (by rfl)))) (fun _ _ _ _ _ => (pv 2)))))), ?_⟩)
  · obtain ⟨_, _, _, _, _, _, rfl, _⟩ := h
    rfl
  · obtain ⟨pg, dx, an, ai, ao, s, rfl, p, k⟩ := h
    have n25 := p.n25
    -- left_out = least_region(page, page.without, page.within)
    refine ⟨_, rfl, _, rfl, pg, C, dx, _, _, rfl, p.obj, T.cl, T.a_without, pF_without, _, rfl, pg, C, dx, _, _, rfl, p.obj, T.cl, T.a_within, pF_within, pg, dx, an, ai, ao, s, ao, ai, s.outs, s.ins, rfl, p, p.wo, p.wi, p.good.flip, fun H1 q sm1 hq hq1 => ?_⟩
    have hq1 : H1 q = some (.lst (nv (Ie10.least (flip s)))) := hq1
    have p1 := p.same sm1
    dsimp only [gName]
    refine at_slots (σ' := [some (.ref pg), some (.ref q), none]) rfl ?_
    refine ⟨_, rfl, pg, C, dx, _, _, rfl, p1.obj, T.cl, T.a_numbers, pF_numbers, an, _, rfl, .inl (SqL.of p1.num), _, rfl, (by rw [nv_len]; omega), (by rw [nv_len]; omega), fun D hD => ?_⟩
    have en : (((nv s.v).length : Nat) : Int).toNat = s.n := (nv_len _).trans p.len
    have qD : q ≠ D := ne_of_none hq1 hD
    refine lc_range (lo := 0) (fun i H' => Same H1 H' ∧ H' D = some (.lst (nv ((List.range i).filter fun a => !(Ie10.least (flip s)).contains a)))) ?_ ?_ ?_
    · exact ⟨same_upd hD, upd_same⟩
    · rintro i H' hi ⟨sm', hD'⟩
      rw [en] at hi
      have hsn : s.v.length = s.n := p.len
      dsimp only [gName]
      rw [Int.zero_add]
      refine ⟨rfl, _, rfl, _, rfl, q, _, rfl, .inl (SqL.of (sm' _ _ hq1)), rfl, flat_nv _, _, rfl, ?_⟩
      show if (!inV (.int (i : Int)) (nv (Ie10.least (flip s)))) = true then _ else _
      rw [inV_nv]
      have hr1 : (List.range (i + 1)).filter (fun a => !(Ie10.least (flip s)).contains a) = (List.range i).filter (fun a => !(Ie10.least (flip s)).contains a) ++ if (!(Ie10.least (flip s)).contains i) = true then [i] else [] := by
        exact range_filter i
      refine ite2 (fun h1 => ?_) (fun h1 => ?_)
      · refine ⟨_, rfl, _, hD', small1000 ?_, ?_, ?_⟩
        · rw [nv_len]
          refine Nat.le_trans (List.length_filter_le _ _) ?_
          rw [List.length_range]
          omega
        · intro z o e
          rw [upd_ne (ne_of_none e hD)]
          exact sm' z o e
        · rw [upd_same, hr1, if_pos h1, nv_app]
          rfl
      · rw [hr1, if_neg h1, List.append_nil]
        exact ⟨sm', hD'⟩
    · rintro H' ⟨sm', hD'⟩
      rw [en, greatest_flip p.good.seeds p.good.flip] at hD'
      exact k H' D (sm1.trans sm') (sm1.free hD) hD'
end
end Cl
namespace Cl
open PySem PySem.Spec PyProof.Rows L2

theorem skip {a : Nat} {z : Int} {A B : Prop} (h : ¬ ((a : Int) = z)) (hb : B) : if decide (V.int (a : Int) = V.int z) = true then A else B := by
  rw [decide_eq_false (fun q => h (V.int.inj q))]
  exact iteF hb
theorem hit {a : Nat} {z : Int} {A B : Prop} (h : (a : Int) = z) (hb : A) : if decide (V.int (a : Int) = V.int z) = true then A else B := by
  rw [decide_eq_true (congrArg V.int h)]
  exact iteT hb
theorem ready_no {s : Ie10.St} {r : List Int} (h : s.ins.length = 0 ∨ s.outs.length = 0) : Ie10.ready s r = [-4] := by
  unfold Ie10.ready
  refine if_pos ?_
  rw [Bool.or_eq_true, List.isEmpty_iff, List.isEmpty_iff]
  exact h.imp List.eq_nil_of_length_eq_zero List.eq_nil_of_length_eq_zero
theorem ready_yes {s : Ie10.St} {r : List Int} (h1 : ¬ s.ins.length = 0) (h2 : ¬ s.outs.length = 0) : Ie10.ready s r = r := by
  unfold Ie10.ready
  refine if_neg ?_
  rw [Bool.or_eq_true, List.isEmpty_iff, List.isEmpty_iff]
  rintro (e | e)
  · exact h1 (by rw [e]; rfl)
  · exact h2 (by rw [e]; rfl)
theorem sub_len {n : Nat} {l : List Nat} (h : l.Sublist (List.range n)) : l.length ≤ n := by
  have := h.length_le
  rwa [List.length_range] at this

section
variable {P : Program} {w : World} {K : PySem.W.Frag} {mg : Str → Option Value} {base : Heap} {C : Addr}

def spTellRegion (C : Addr) : Sp := fun vs H Q _ => ∃ (pg dx an ai ao : Addr) (s : Ie10.St) (ga : Addr) (g : List Nat), vs = [.ref pg, .ref ga] ∧ PageAt C H pg dx an ai ao s ∧
  H ga = some (.lst (nv g)) ∧ (∀ a, a ∈ g → a < s.v.length) ∧ g.length ≤ 30 ∧ spList H ((Ie10.cost s g : Int) :: Ie10.told g) Q
theorem ok_tell_region {f f1 : Addr} {fd fd1 : FuncData} (F : Fun K "tell_region" "tell_region" s_tell_region f fd) (T : Txt K mg C)
    (D_cost_of : DefAt P w K mg base 3 "cost_of" ["page", "region"] (spCost C) f1 fd1) :
    FnOk P w K mg base CX0 4 f fd ["page", "region"] (spTellRegion C) := by
  refine F.ok sc_tell_region (fun vs H Q E h => ?_) (fun cdv A outer s H vs Q E hr h => ⟨_, (pss_one (ps_ret (pe_op op_cat (pe_lst (pa_cons (pe_call D_cost_of.ok (hr.mono (by decide)) rfl D_cost_of.g D_cost_of.kp D_cost_of.b .nil pass0 (pa_cons (pv 0) (pa_cons (pv 1) pa_nil))) (pa_cons (pe_callB call_len_seq (by rfl) T.n_len PySem.boot_len (pa_cons (pv 1) pa_nil)) pa_nil))) (pv 1)))), ?_⟩)
  · obtain ⟨_, _, _, _, _, _, _, _, rfl, _⟩ := h
    rfl
  · obtain ⟨pg, dx, an, ai, ao, s, ga, g, rfl, p, hga, hg, hg30, k⟩ := h
    refine ⟨_, rfl, _, rfl, pg, dx, an, ai, ao, s, ga, g, rfl, p, hga, hg, hg30, fun H1 sm1 => ?_⟩
    have hga1 := sm1 _ _ hga
    refine ⟨_, rfl, ga, _, rfl, .inl (SqL.of hga1), (by show 2 ≤ sizeLine; decide), fun l hl => ?_⟩
    have hgl : ga ≠ l := ne_of_none hga1 hl
    refine ⟨_, rfl, l, ga, _, _, rfl, rfl, upd_same, (by rw [upd_ne hgl]; exact hga1), Nat.le_of_lt (small1000 (by rw [nv_len]; show 2 + _ ≤ 1000; omega)), fun m hm => ?_⟩
    refine k _ m (sm1.trans ((same_upd hl).trans (same_upd hm))) ((sm1.trans (same_upd hl)).free hm) ?_
    rw [upd_same]
    unfold Ie10.told Ie10.ints
    simp [nv, List.map_map, Function.comp_def]

def flat2 (ps : List (Nat × Nat)) : List Nat := ps.flatMap fun x => [x.1, x.2]
theorem flat2_len : ∀ ps : List (Nat × Nat), (flat2 ps).length = 2 * ps.length
  | [] => rfl
  | x :: ps => by
    have ih := flat2_len ps
    show (x.1 :: x.2 :: flat2 ps).length = _
    simp only [List.length_cons, ih]
    omega
def spTellPairs : Sp := fun vs H Q _ => ∃ (pa : Addr) (ts : List Addr) (ps : List (Nat × Nat)), vs = [.ref pa] ∧ PairsAt H pa ts ps ∧ ps.length ≤ 200 ∧ spList H (Ie10.ints (ps.length :: flat2 ps)) Q
theorem ok_tell_pairs {f : Addr} {fd : FuncData} (F : Fun K "tell_pairs" "tell_pairs" s_tell_pairs f fd) (T : Txt K mg C) :
    FnOk P w K mg base CX0 1 f fd ["pairs"] spTellPairs := by
  refine F.ok sc_tell_pairs (fun vs H Q E h => ?_) (fun cdv A outer s H vs Q E hr h => ⟨_, (pss_cons (ps_set (i := 1) sc_tell_pairs.nd rfl (Or.inl rfl) (pe_lst (pa_cons (pe_callB call_len_seq (by rfl) T.n_len PySem.boot_len (pa_cons (pv 0) pa_nil)) pa_nil)))
 (pss_cons (ps_for PassesOwn.never rfl (pi_list (pv 0)) (pg_tup rfl (pgs_cons (pg_name (i := 2) sc_tell_pairs.nd rfl (Or.inl rfl)) (pgs_cons (pg_name (i := 3) sc_tell_pairs.nd rfl (Or.inl rfl)) pgs_nil)))
 (pss_cons (ps_expr (pe_bm PySem.F.plainAttrs_list PySem.F.slot_list_append PySem.F.type_list_append mt_append (pv 1) (pa_cons (pv 2) pa_nil)))
 (pss_one (ps_expr (pe_bm PySem.F.plainAttrs_list PySem.F.slot_list_append PySem.F.type_list_append mt_append (pv 1) (pa_cons (pv 3) pa_nil))))))
 (pss_one (ps_ret (pv 1))))), ?_⟩)
  · obtain ⟨_, _, _, rfl, _⟩ := h
    rfl
  · obtain ⟨pa, ts, ps, rfl, PA, h200, k⟩ := h
    refine ⟨_, rfl, pa, _, rfl, .inl (SqL.of PA.lst), (by show 1 ≤ sizeLine; decide), fun l hl => ?_⟩
    dsimp only [gName]
    refine at_slots (σ' := [some (.ref pa), some (.ref l), none, none]) rfl ?_
    have e0 : ([V.int ((ts.map V.ref).length : Int)] : List V) = nv (ps.length :: flat2 (ps.take 0)) := by
      rw [List.length_map, PA.len]
      rfl
    rw [e0]
    refine ⟨_, rfl, pa, rfl, ⟨_, SqL.of (same_upd hl _ _ PA.lst)⟩, for_list (K := K) (a := pa) (xs := ts.map V.ref) (fun i σ H' => (∃ v2 v3 : Option V, σ = [some (.ref pa), some (.ref l), v2, v3]) ∧ Same H H' ∧ H' l = some (.lst (nv (ps.length :: flat2 (ps.take i)))))
      ⟨⟨none, none, rfl⟩, same_upd hl, upd_same⟩ (fun i σ H' _ h => SqL.of (h.2.1 _ _ PA.lst)) ?_ ?_⟩
    · rintro i x σ H' hx ⟨⟨v2, v3, rfl⟩, sm, hl'⟩
      obtain ⟨t, y, rfl, hy, ht⟩ := (PA.same sm).at hx
      have hil : i < ps.length := (List.getElem?_eq_some_iff.mp hy).1
      have hfl := flat2_len (ps.take i)
      rw [List.length_take] at hfl
      refine ⟨t, _, rfl, SqT.of ht, rfl, _, _, rfl, _, _, rfl, rfl, ?_⟩
      refine ⟨_, rfl, .inl ⟨rfl, _, SqL.of hl'⟩, _, rfl, l, _, _, rfl, rfl, hl', small1000 (by rw [nv_len, List.length_cons]; omega), ?_⟩
      refine ⟨_, rfl, .inl ⟨rfl, _, SqL.of upd_same⟩, _, rfl, l, _, _, rfl, rfl, upd_same, small1000 (by rw [List.length_append, nv_len, List.length_cons]; simp only [List.length_cons, List.length_nil]; omega), ?_⟩
      rw [upd_upd]
      refine ⟨⟨_, _, rfl⟩, ?_, ?_⟩
      · intro z o e
        rw [upd_ne (ne_of_none e hl)]
        exact sm z o e
      · rw [upd_same, List.take_add_one, hy]
        have : flat2 (ps.take i ++ [y]) = flat2 (ps.take i) ++ [y.1, y.2] := by
          unfold flat2
          rw [List.flatMap_append]
          simp
        show _ = some (HO.lst (nv (ps.length :: flat2 (ps.take i ++ [y]))))
        rw [this, ← List.cons_append, nv_app, List.append_assoc]
        rfl
    · rintro σ H' ⟨⟨v2, v3, rfl⟩, sm, hl'⟩
      rw [List.length_map, PA.len, List.take_length] at hl'
      refine ⟨_, rfl, k H' l sm hl ?_⟩
      rw [hl']
      unfold Ie10.ints
      simp [nv, List.map_map, Function.comp_def]

def spCheapest (C : Addr) : Sp := fun vs H Q _ => ∃ (pg dx an ai ao : Addr) (s : Ie10.St) (c : Ie10.Call), vs = [.ref pg, .int (num c : Nat)] ∧ PageAt C H pg dx an ai ao s ∧ (c = .cut ∨ c = .wide ∨ c = .edge) ∧ spList H (Ie10.step s c).2 Q
theorem ok_cheapest {f f1 f2 f3 f4 f5 : Addr} {fd fd1 fd2 fd3 fd4 fd5 : FuncData} (F : Fun K "tell_cheapest" "tell_cheapest" s_tell_cheapest f fd) (T : Txt K mg C)
    (D_tell_region : DefAt P w K mg base 4 "tell_region" ["page", "region"] (spTellRegion C) f1 fd1) (D_greatest_region : DefAt P w K mg base 5 "greatest_region" ["page"] (spGreatest C) f2 fd2)
    (D_least_region : DefAt P w K mg base 4 "least_region" ["page", "own_seeds", "other_seeds"] (spLeast C) f3 fd3) (D_tell_pairs : DefAt P w K mg base 1 "tell_pairs" ["pairs"] spTellPairs f4 fd4)
    (D_parted_pairs : DefAt P w K mg base 2 "parted_pairs" ["page", "region"] (spParted C) f5 fd5) :
    FnOk P w K mg base CX0 6 f fd ["page", "call"] (spCheapest C) := by
  refine F.ok sc_tell_cheapest (fun vs H Q E h => ?_) (fun cdv A outer s H vs Q E hr h => ⟨_, (pss_cons (ps_if (PW.pt (pw_or (pt_cmpR op_eq (pe_callB call_len_seq (by rfl) T.n_len PySem.boot_len (pa_cons (pe_fld (pv 0) rfl) pa_nil)) pe_int (nomark _)) (pw_or1 (pt_cmpR op_eq (pe_callB call_len_seq (by rfl) T.n_len PySem.boot_len (pa_cons (pe_fld (pv 0) rfl) pa_nil)) pe_int (nomark _)))))
 (pss_one (ps_ret (pe_lst (pa_cons (pe_glob (v := .int (-4)) rfl (Exists.choose_spec T.g_NO_SEEDS) ⟨_, rfl⟩) pa_nil))))
 pss_nil)
 (pss_cons (ps_if (pt_cmpR op_eq (pv 1) (pe_glob (v := .int (7)) rfl (Exists.choose_spec T.g_WIDE) ⟨_, rfl⟩) (nomark _))
 (pss_one (ps_ret (pe_call D_tell_region.ok (hr.mono (by decide)) rfl D_tell_region.g D_tell_region.kp D_tell_region.b .nil pass0 (pa_cons (pv 0) (pa_cons (pe_call D_greatest_region.ok (hr.mono (by decide)) rfl D_greatest_region.g D_greatest_region.kp D_greatest_region.b .nil pass0 (pa_cons (pv 0) pa_nil)) pa_nil)))))
 pss_nil)
 (pss_cons (ps_set (i := 2) sc_tell_cheapest.nd rfl (Or.inl rfl) (pe_call D_least_region.ok (hr.mono (by decide)) rfl D_least_region.g D_least_region.kp D_least_region.b .nil pass0 (pa_cons (pv 0) (pa_cons (pe_fld (pv 0) rfl) (pa_cons (pe_fld (pv 0) rfl) pa_nil)))))
 (pss_cons (ps_if (pt_cmpR op_eq (pv 1) (pe_glob (v := .int (6)) rfl (Exists.choose_spec T.g_CUT) ⟨_, rfl⟩) (nomark _))
 (pss_one (ps_ret (pe_call D_tell_region.ok (hr.mono (by decide)) rfl D_tell_region.g D_tell_region.kp D_tell_region.b .nil pass0 (pa_cons (pv 0) (pa_cons (pv 2) pa_nil)))))
 pss_nil)
 (pss_one (ps_ret (pe_call D_tell_pairs.ok (hr.mono (by decide)) rfl D_tell_pairs.g D_tell_pairs.kp D_tell_pairs.b .nil pass0 (pa_cons (pe_call D_parted_pairs.ok (hr.mono (by decide)) rfl D_parted_pairs.g D_parted_pairs.kp D_parted_pairs.b .nil pass0 (pa_cons (pv 0) (pa_cons (pv 2) pa_nil))) pa_nil)))))))), ?_⟩)
  · obtain ⟨_, _, _, _, _, _, _, rfl, _⟩ := h
    rfl
  · obtain ⟨pg, dx, an, ai, ao, s, c, rfl, p, hc, k⟩ := h
    have n25 := p.n25
    have hsn : s.v.length = s.n := p.len
    have G := p.good.seeds
    have no : (s.ins.length = 0 ∨ s.outs.length = 0) → ∀ (l : Addr), H l = none → Q (.ref l) (upd H l (.lst [.int (-4)])) := fun h l hl => by
      refine k _ l (same_upd hl) hl ?_
      rw [upd_same]
      rcases hc with rfl | rfl | rfl
      · show _ = some (HO.lst ((Ie10.ready s _).map V.int))
        rw [ready_no h]
        rfl
      · show _ = some (HO.lst ((Ie10.ready s _).map V.int))
        rw [ready_no h]
        rfl
      · show _ = some (HO.lst ((Ie10.ready s _).map V.int))
        rw [ready_no h]
        rfl
    refine ⟨_, rfl, pg, C, dx, _, _, rfl, p.obj, T.cl, T.a_within, pF_within, ai, _, rfl, .inl (SqL.of p.wi), rfl, _, rfl, ?_⟩
    by_cases h1 : s.ins.length = 0
    · refine hit (by rw [nv_len, h1]; rfl) (iteT ⟨(by show 1 ≤ sizeLine; decide), fun l hl => no (.inl h1) l hl⟩)
    · refine skip (by rw [nv_len]; omega) ⟨_, rfl, pg, C, dx, _, _, rfl, p.obj, T.cl, T.a_without, pF_without, ao, _, rfl, .inl (SqL.of p.wo), rfl, _, rfl, ?_⟩
      by_cases h2 : s.outs.length = 0
      · refine hit (by rw [nv_len, h2]; rfl) ⟨(by show 1 ≤ sizeLine; decide), fun l hl => no (.inr h2) l hl⟩
      · refine skip (by rw [nv_len]; omega) ?_
        rcases hc with rfl | rfl | rfl
        · -- cut
          refine ⟨_, rfl, rfl, _, rfl, skip (by decide) ?_⟩
          refine ⟨_, rfl, _, rfl, pg, C, dx, _, _, rfl, p.obj, T.cl, T.a_within, pF_within, _, rfl, pg, C, dx, _, _, rfl, p.obj, T.cl, T.a_without, pF_without, pg, dx, an, ai, ao, s, ai, ao, s.ins, s.outs, rfl, p, p.wi, p.wo, G, fun H1 q sm1 hq hq1 => ?_⟩
          have hq1 : H1 q = some (.lst (nv (Ie10.least s))) := hq1
          refine ⟨_, rfl, rfl, _, rfl, hit (by decide) ?_⟩
          refine ⟨_, rfl, _, rfl, pg, dx, an, ai, ao, s, q, Ie10.least s, rfl, p.same sm1, hq1, (by rw [hsn]; exact sub_lt least_sub), (by have := sub_len (least_sub (s := s)); omega), fun H2 m sm2 hm hm2 => ?_⟩
          refine k H2 m (sm1.trans sm2) (sm1.free hm) ?_
          rw [hm2, cost_least G]
          show _ = some (HO.lst ((Ie10.ready s _).map V.int))
          rw [ready_yes h1 h2]
        · -- wide
          refine ⟨_, rfl, rfl, _, rfl, hit (by decide) ?_⟩
          refine ⟨_, rfl, _, rfl, pg, dx, an, ai, ao, s, rfl, p, fun H1 q sm1 hq hq1 => ?_⟩
          refine ⟨pg, dx, an, ai, ao, s, q, Ie10.greatest s, rfl, p.same sm1, hq1, (by rw [hsn]; exact sub_lt greatest_sub), (by have := sub_len (greatest_sub (s := s)); omega), fun H2 m sm2 hm hm2 => ?_⟩
          refine k H2 m (sm1.trans sm2) (sm1.free hm) ?_
          rw [hm2, cost_greatest G]
          show _ = some (HO.lst ((Ie10.ready s _).map V.int))
          rw [ready_yes h1 h2]
        · -- edge
          refine ⟨_, rfl, rfl, _, rfl, skip (by decide) ?_⟩
          refine ⟨_, rfl, _, rfl, pg, C, dx, _, _, rfl, p.obj, T.cl, T.a_within, pF_within, _, rfl, pg, C, dx, _, _, rfl, p.obj, T.cl, T.a_without, pF_without, pg, dx, an, ai, ao, s, ai, ao, s.ins, s.outs, rfl, p, p.wi, p.wo, G, fun H1 q sm1 hq hq1 => ?_⟩
          have hq1 : H1 q = some (.lst (nv (Ie10.least s))) := hq1
          have hlt : ∀ a, a ∈ Ie10.least s → a < s.v.length := by rw [hsn]; exact sub_lt least_sub
          have hll := sub_len (least_sub (s := s))
          have pl := partOf_len (s := s) (g := Ie10.least s) (Ie10.least s)
          rw [partOf_all p hlt] at pl
          refine ⟨_, rfl, rfl, _, rfl, skip (by decide) ?_⟩
          refine ⟨_, rfl, _, rfl, pg, dx, an, ai, ao, s, q, Ie10.least s, rfl, p.same sm1, hq1, hlt, (by omega), fun H2 m ts sm2 hm PA => ?_⟩
          refine ⟨m, ts, _, rfl, PA, (by omega), fun H3 z sm3 hz hz3 => ?_⟩
          refine k H3 z ((sm1.trans sm2).trans sm3) ((sm1.trans sm2).free hz) ?_
          rw [hz3]
          show _ = some (HO.lst ((Ie10.ready s _).map V.int))
          rw [ready_yes h1 h2]
          rfl

def spTellCost (C : Addr) : Sp := fun vs H Q _ => ∃ (pg dx an ai ao : Addr) (s : Ie10.St) (ca : Addr) (l : List Nat), vs = [.ref pg, .ref ca] ∧ PageAt C H pg dx an ai ao s ∧
  H ca = some (.lst (nv l)) ∧ l.length ≤ 30 ∧ ∀ H' : Hp, Same H H' → Q (.int (if Ie10.isCells s l = false then -1 else (Ie10.cost s l : Int))) H'
theorem ok_tell_cost {f f1 f2 : Addr} {fd fd1 fd2 : FuncData} (F : Fun K "tell_cost" "tell_cost" s_tell_cost f fd) (T : Txt K mg C)
    (D_are_rising_cells : DefAt P w K mg base 2 "are_rising_cells" ["page", "cells"] (spRising C) f1 fd1) (D_cost_of : DefAt P w K mg base 3 "cost_of" ["page", "region"] (spCost C) f2 fd2) :
    FnOk P w K mg base CX0 4 f fd ["page", "cells"] (spTellCost C) := by
  refine F.ok sc_tell_cost (fun vs H Q E h => ?_) (fun cdv A outer s H vs Q E hr h => ⟨_, (pss_cons (ps_if (pt_not (pt_val (pe_call D_are_rising_cells.ok (hr.mono (by decide)) rfl D_are_rising_cells.g D_are_rising_cells.kp D_are_rising_cells.b .nil pass0 (pa_cons (pv 0) (pa_cons (pv 1) pa_nil)))))
 (pss_one (ps_ret (pe_glob (v := .int (-1)) rfl (Exists.choose_spec T.g_NO_PLACE) ⟨_, rfl⟩)))
 pss_nil)
 (pss_one (ps_ret (pe_call D_cost_of.ok (hr.mono (by decide)) rfl D_cost_of.g D_cost_of.kp D_cost_of.b .nil pass0 (pa_cons (pv 0) (pa_cons (pv 1) pa_nil)))))), ?_⟩)
  · obtain ⟨_, _, _, _, _, _, _, _, rfl, _⟩ := h
    rfl
  · obtain ⟨pg, dx, an, ai, ao, s, ca, l, rfl, p, hca, hl, k⟩ := h
    refine ⟨_, rfl, _, rfl, pg, dx, an, ai, ao, s, ca, l, rfl, p, hca, _, rfl, ?_⟩
    cases hI : Ie10.isCells s l with
    | false =>
      rw [if_pos hI] at k
      exact iteT (k H (Same.refl H))
    | true =>
      rw [if_neg (by rw [hI]; exact Bool.noConfusion)] at k
      have hlt := cells_lt hI
      have hsn : s.v.length = s.n := p.len
      exact iteF ⟨_, rfl, _, rfl, pg, dx, an, ai, ao, s, ca, l, rfl, p, hca, (by rw [hsn]; exact hlt), hl, k⟩

def spTellPrice (C : Addr) : Sp := fun vs H Q _ => ∃ (pg dx an ai ao : Addr) (s : Ie10.St) (a b : Nat), vs = [.ref pg, .int a, .int b] ∧ PageAt C H pg dx an ai ao s ∧
  ∀ H' : Hp, Same H H' → Q (.int (if s.n ≤ a ∨ s.n ≤ b then -1 else (Ie10.price s a b : Int))) H'
theorem ok_tell_price {f f1 f2 f3 : Addr} {fd fd1 fd2 fd3 : FuncData} (F : Fun K "tell_price" "tell_price" s_tell_price f fd) (T : Txt K mg C)
    (D_is_cell : DefAt P w K mg base 1 "is_cell" ["page", "cell"] (spIsCell C) f1 fd1) (D_cells_beside : DefAt P w K mg base 1 "cells_beside" ["page", "cell"] (spBeside C) f2 fd2)
    (D_parting : DefAt P w K mg base 2 "parting" ["page", "one", "other"] (spParting C) f3 fd3) :
    FnOk P w K mg base CX0 3 f fd ["page", "one", "other"] (spTellPrice C) := by
  refine F.ok sc_tell_price (fun vs H Q E h => ?_) (fun cdv A outer s H vs Q E hr h => ⟨_, (pss_cons (ps_if (PW.pt (pw_or (pt_not (pt_val (pe_call D_is_cell.ok (hr.mono (by decide)) rfl D_is_cell.g D_is_cell.kp D_is_cell.b .nil pass0 (pa_cons (pv 0) (pa_cons (pv 1) pa_nil))))) (pw_or1 (pt_not (pt_val (pe_call D_is_cell.ok (hr.mono (by decide)) rfl D_is_cell.g D_is_cell.kp D_is_cell.b .nil pass0 (pa_cons (pv 0) (pa_cons (pv 2) pa_nil))))))))
 (pss_one (ps_ret (pe_glob (v := .int (-1)) rfl (Exists.choose_spec T.g_NO_PLACE) ⟨_, rfl⟩)))
 pss_nil)
 (pss_cons (ps_if (pt_cmpR op_notIn_seq (pv 2) (pe_call D_cells_beside.ok (hr.mono (by decide)) rfl D_cells_beside.g D_cells_beside.kp D_cells_beside.b .nil pass0 (pa_cons (pv 0) (pa_cons (pv 1) pa_nil))) (by rfl))
 (pss_one (ps_ret pe_int))
 pss_nil)
 (pss_one (ps_ret (pe_call D_parting.ok (hr.mono (by decide)) rfl D_parting.g D_parting.kp D_parting.b .nil pass0 (pa_cons (pv 0) (pa_cons (pv 1) (pa_cons (pv 2) pa_nil)))))))), ?_⟩)
  · obtain ⟨_, _, _, _, _, _, _, _, rfl, _⟩ := h
    rfl
  · obtain ⟨pg, dx, an, ai, ao, s, a, b, rfl, p, k⟩ := h
    have hsn : s.v.length = s.n := p.len
    refine ⟨_, rfl, _, rfl, pg, dx, an, ai, ao, s, a, rfl, p, _, rfl, ?_⟩
    by_cases ha : a < s.v.length
    · rw [decide_eq_true ha]
      refine iteF ⟨_, rfl, _, rfl, pg, dx, an, ai, ao, s, b, rfl, p, _, rfl, ?_⟩
      by_cases hb : b < s.v.length
      · rw [decide_eq_true hb]
        rw [if_neg (by omega)] at k
        refine iteF ⟨_, rfl, _, rfl, _, rfl, pg, dx, an, ai, ao, s, a, rfl, p, fun H1 q sm1 hq hq1 => ?_⟩
        refine ⟨q, _, rfl, .inl (SqL.of hq1), rfl, flat_nv _, _, rfl, ?_⟩
        show if (!inV (.int (b : Int)) (nv (besL s.w s.v.length a))) = true then _ else _
        rw [inV_nv]
        by_cases hm : b ∈ besL s.w s.v.length a
        · rw [List.contains_iff_mem.mpr hm]
          have hbb := ((p.besM ha).mp hm).2
          rw [price_part hbb] at k
          exact iteF ⟨_, rfl, _, rfl, _, rfl, pg, dx, an, ai, ao, s, a, b, rfl, p.same sm1, ha, hb, k H1 sm1⟩
        · have hz : (besL s.w s.v.length a).contains b = false := Bool.eq_false_iff.mpr fun h => hm (List.contains_iff_mem.mp h)
          rw [hz]
          have hp : Ie10.price s a b = 0 := by
            unfold Ie10.price
            refine if_neg fun h => hm ((p.besM ha).mpr ⟨hb, h⟩)
          rw [hp] at k
          exact iteT (k H1 sm1)
      · rw [decide_eq_false hb]
        rw [if_pos (by omega)] at k
        exact iteT (k H (Same.refl H))
    · rw [decide_eq_false ha]
      rw [if_pos (by omega)] at k
      exact iteT (iteT (k H (Same.refl H)))
end
end Cl
namespace Cl
open PySem PySem.Spec PyProof.Rows L2

theorem PgOff.same {C g : Addr} {H H' : Hp} {pg : Addr} {s : Ie10.St} (h : PgOff C g H pg s) (sm : Same H H') : PgOff C g H' pg s := by
  obtain ⟨a, b, c, d, p, off⟩ := h
  exact ⟨a, b, c, d, p.same sm, off⟩
theorem PgOff.ne {C g : Addr} {H : Hp} {pg l : Addr} {s : Ie10.St} (h : PgOff C g H pg s) (hl : H l = none) : l ≠ pg := by
  obtain ⟨a, b, c, d, p, off⟩ := h
  exact (ne_of_none p.obj hl).symm

section
variable {P : Program} {w : World} {K : PySem.W.Frag} {mg : Str → Option Value} {base : Heap} {C : Addr}

/-- a number answered, in a list of its own -/
theorem one_list {C g pg : Addr} {H : Hp} {s : Ie10.St} {c : Ie10.Call} {Q : VK}
    (k : ∀ (H' : Hp) (p : Addr), PgOff C g H' pg (Ie10.step s c).1 → Keeps pg H H' → H p = none → H' p = some (.lst ((Ie10.step s c).2.map V.int)) → Q (.ref p) H')
    {H' : Hp} {a : Int} (J : PgOff C g H' pg (Ie10.step s c).1) (kp : Keeps pg H H') (e : (Ie10.step s c).2 = [a]) (l : Addr) (hl : H' l = none) : Q (.ref l) (upd H' l (.lst [.int a])) := by
  have hne := J.ne hl
  refine k _ l (J.same (same_upd hl)) (fun b o eb hb => same_upd hl _ _ (kp b o eb hb)) ?_ ?_
  · cases h : H l with
    | none => rfl
    | some o =>
      have := kp l o h hne
      rw [hl] at this
      cases this
  · rw [upd_same, e]
    rfl

theorem ok_answer_to {f f1 f2 f3 f4 f5 f6 f7 f8 : Addr} {fd fd1 fd2 fd3 fd4 fd5 fd6 fd7 fd8 : FuncData} (F : Fun K "answer_to" "answer_to" s_answer_to f fd) (T : Txt K mg C)
    (D_put_page : DefAt P w K mg base 2 "put_page" ["page", "columns", "rows", "numbers"] (spPutPage C) f1 fd1) (D_put_sharp : DefAt P w K mg base 1 "put_sharp" ["page", "sharp"] (spPutSharp C) f2 fd2)
    (D_choose : DefAt P w K mg base 3 "choose" ["page", "start", "bound", "by_steps"] (spChoose C) f3 fd3) (D_put_within : DefAt P w K mg base 4 "put_within" ["page", "cells"] (spPutIns C) f4 fd4)
    (D_put_without : DefAt P w K mg base 4 "put_without" ["page", "cells"] (spPutOuts C) f5 fd5) (D_tell_cost : DefAt P w K mg base 4 "tell_cost" ["page", "cells"] (spTellCost C) f6 fd6)
    (D_tell_price : DefAt P w K mg base 3 "tell_price" ["page", "one", "other"] (spTellPrice C) f7 fd7) (D_tell_cheapest : DefAt P w K mg base 6 "tell_cheapest" ["page", "call"] (spCheapest C) f8 fd8) :
    FnOk P w K mg base CX0 7 f fd ["page", "call", "wholes", "row"] (spAnswerTo C) := by
  refine F.ok sc_answer_to (fun vs H Q E h => ?_) (fun cdv A outer s H vs Q E hr h => ⟨_, (pss_cons (ps_if (pt_cmpR op_eq (pv 1) (pe_glob (v := .int (0)) rfl (Exists.choose_spec T.g_PAGE) ⟨_, rfl⟩) (nomark _))
 (pss_one (ps_ret (pe_lst (pa_cons (pe_call D_put_page.ok (hr.mono (by decide)) rfl D_put_page.g D_put_page.kp D_put_page.b .nil pass0 (pa_cons (pv 0) (pa_cons (pe_ix ix_list (pv 2) pe_int (fun _ _ => rfl)) (pa_cons (pe_ix ix_list (pv 2) pe_int (fun _ _ => rfl)) (pa_cons (pv 3) pa_nil))))) pa_nil))))
 pss_nil)
 (pss_cons (ps_if (pt_cmpR op_eq (pv 1) (pe_glob (v := .int (1)) rfl (Exists.choose_spec T.g_SHARP) ⟨_, rfl⟩) (nomark _))
 (pss_one (ps_ret (pe_lst (pa_cons (pe_call D_put_sharp.ok (hr.mono (by decide)) rfl D_put_sharp.g D_put_sharp.kp D_put_sharp.b .nil pass0 (pa_cons (pv 0) (pa_cons (pe_ix ix_list (pv 2) pe_int (fun _ _ => rfl)) pa_nil))) pa_nil))))
 pss_nil)
 (pss_cons (ps_if (pt_cmpR op_eq (pv 1) (pe_glob (v := .int (2)) rfl (Exists.choose_spec T.g_LIKE) ⟨_, rfl⟩) (nomark _))
 (pss_one (ps_ret (pe_call D_choose.ok (hr.mono (by decide)) rfl D_choose.g D_choose.kp D_choose.b .nil pass0 (pa_cons (pv 0) (pa_cons (pe_ix ix_list (pv 2) pe_int (fun _ _ => rfl)) (pa_cons (pe_ix ix_list (pv 2) pe_int (fun _ _ => rfl)) (pa_cons pe_bl pa_nil)))))))
 pss_nil)
 (pss_cons (ps_if (pt_cmpR op_eq (pv 1) (pe_glob (v := .int (3)) rfl (Exists.choose_spec T.g_STEPS) ⟨_, rfl⟩) (nomark _))
 (pss_one (ps_ret (pe_call D_choose.ok (hr.mono (by decide)) rfl D_choose.g D_choose.kp D_choose.b .nil pass0 (pa_cons (pv 0) (pa_cons (pe_ix ix_list (pv 2) pe_int (fun _ _ => rfl)) (pa_cons (pe_ix ix_list (pv 2) pe_int (fun _ _ => rfl)) (pa_cons pe_bl pa_nil)))))))
 pss_nil)
 (pss_cons (ps_if (pt_cmpR op_eq (pv 1) (pe_glob (v := .int (4)) rfl (Exists.choose_spec T.g_WITHIN) ⟨_, rfl⟩) (nomark _))
 (pss_one (ps_ret (pe_lst (pa_cons (pe_call D_put_within.ok (hr.mono (by decide)) rfl D_put_within.g D_put_within.kp D_put_within.b .nil pass0 (pa_cons (pv 0) (pa_cons (pv 3) pa_nil))) pa_nil))))
 pss_nil)
 (pss_cons (ps_if (pt_cmpR op_eq (pv 1) (pe_glob (v := .int (5)) rfl (Exists.choose_spec T.g_WITHOUT) ⟨_, rfl⟩) (nomark _))
 (pss_one (ps_ret (pe_lst (pa_cons (pe_call D_put_without.ok (hr.mono (by decide)) rfl D_put_without.g D_put_without.kp D_put_without.b .nil pass0 (pa_cons (pv 0) (pa_cons (pv 3) pa_nil))) pa_nil))))
 pss_nil)
 (pss_cons (ps_if (pt_cmpR op_eq (pv 1) (pe_glob (v := .int (8)) rfl (Exists.choose_spec T.g_COST) ⟨_, rfl⟩) (nomark _))
 (pss_one (ps_ret (pe_lst (pa_cons (pe_call D_tell_cost.ok (hr.mono (by decide)) rfl D_tell_cost.g D_tell_cost.kp D_tell_cost.b .nil pass0 (pa_cons (pv 0) (pa_cons (pv 3) pa_nil))) pa_nil))))
 pss_nil)
 (pss_cons (ps_if (pt_cmpR op_eq (pv 1) (pe_glob (v := .int (10)) rfl (Exists.choose_spec T.g_PRICE) ⟨_, rfl⟩) (nomark _))
 (pss_one (ps_ret (pe_lst (pa_cons (pe_call D_tell_price.ok (hr.mono (by decide)) rfl D_tell_price.g D_tell_price.kp D_tell_price.b .nil pass0 (pa_cons (pv 0) (pa_cons (pe_ix ix_list (pv 2) pe_int (fun _ _ => rfl)) (pa_cons (pe_ix ix_list (pv 2) pe_int (fun _ _ => rfl)) pa_nil)))) pa_nil))))
 pss_nil)
 (pss_one (ps_ret (pe_call D_tell_cheapest.ok (hr.mono (by decide)) rfl D_tell_cheapest.g D_tell_cheapest.kp D_tell_cheapest.b .nil pass0 (pa_cons (pv 0) (pa_cons (pv 1) pa_nil))))))))))))), ?_⟩)
  · obtain ⟨_, _, _, _, _, _, rfl, _⟩ := h
    rfl
  · obtain ⟨pg, g, s, c, wa, ra, rfl, J, hg, hwa, hra, hsh, k⟩ := h
    have J0 := J
    obtain ⟨dx, an, ai, ao, p, off⟩ := J
    have fin : ∀ {H' : Hp} {r : Addr}, (Ie10.step s c).1 = s → Same H H' → H r = none → H' r = some (.lst ((Ie10.step s c).2.map V.int)) → Q (.ref r) H' := fun e sm hr hr' =>
      k _ _ (by rw [e]; exact J0.same sm) (fun b o eb _ => sm b o eb) hr hr'
    have one : ∀ {H' : Hp} {a : Int}, PgOff C g H' pg (Ie10.step s c).1 → Keeps pg H H' → (Ie10.step s c).2 = [a] → (1 : Nat) ≤ sizeLine ∧ ∀ l, H' l = none → Q (.ref l) (upd H' l (.lst [.int a])) := fun J kp e =>
      ⟨by decide, fun l hl => one_list k J kp e l hl⟩
    cases c with
    | page w h l =>
      refine ⟨_, rfl, rfl, _, rfl, hit (by dsimp only [num]; decide) ?_⟩
      refine ⟨_, rfl, _, rfl, wa, _, _, _, rfl, rfl, SqL.of hwa, get_mid (a := []) (x := w) (c := [h]) rfl, _, rfl, wa, _, _, _, rfl, rfl, SqL.of hwa, get_mid (a := [w]) (x := h) (c := []) rfl, _, rfl, pg, dx, an, ai, ao, g, s, w, h, ra, l, rfl, p, off, hg, hra, fun H' a J' kp e => ?_⟩
      exact one J' kp e
    | sharp n =>
      refine ⟨_, rfl, rfl, _, rfl, skip (by dsimp only [num]; decide) ⟨_, rfl, rfl, _, rfl, hit (by dsimp only [num]; decide) ?_⟩⟩
      refine ⟨_, rfl, _, rfl, wa, _, _, _, rfl, rfl, SqL.of hwa, get_mid (a := []) (x := n) (c := []) rfl, pg, dx, an, ai, ao, g, s, n, rfl, p, off, fun H' a J' kp e => ?_⟩
      exact one J' kp e
    | like c t =>
      refine ⟨_, rfl, rfl, _, rfl, skip (by dsimp only [num]; decide) ⟨_, rfl, rfl, _, rfl, skip (by dsimp only [num]; decide) ⟨_, rfl, rfl, _, rfl, hit (by dsimp only [num]; decide) ?_⟩⟩⟩
      refine ⟨_, rfl, _, rfl, wa, _, _, _, rfl, rfl, SqL.of hwa, get_mid (a := []) (x := c) (c := [t]) rfl, _, rfl, wa, _, _, _, rfl, rfl, SqL.of hwa, get_mid (a := [c]) (x := t) (c := []) rfl, pg, dx, an, ai, ao, s, c, t, false, rfl, p, fun H' r sm hr hr' => ?_⟩
      exact fin rfl sm hr hr'
    | steps c t =>
      refine ⟨_, rfl, rfl, _, rfl, skip (by dsimp only [num]; decide) ⟨_, rfl, rfl, _, rfl, skip (by dsimp only [num]; decide) ⟨_, rfl, rfl, _, rfl, skip (by dsimp only [num]; decide) ⟨_, rfl, rfl, _, rfl, hit (by dsimp only [num]; decide) ?_⟩⟩⟩⟩
      refine ⟨_, rfl, _, rfl, wa, _, _, _, rfl, rfl, SqL.of hwa, get_mid (a := []) (x := c) (c := [t]) rfl, _, rfl, wa, _, _, _, rfl, rfl, SqL.of hwa, get_mid (a := [c]) (x := t) (c := []) rfl, pg, dx, an, ai, ao, s, c, t, true, rfl, p, fun H' r sm hr hr' => ?_⟩
      exact fin rfl sm hr hr'
    | ins l =>
      refine ⟨_, rfl, rfl, _, rfl, skip (by dsimp only [num]; decide) ⟨_, rfl, rfl, _, rfl, skip (by dsimp only [num]; decide) ⟨_, rfl, rfl, _, rfl, skip (by dsimp only [num]; decide) ⟨_, rfl, rfl, _, rfl, skip (by dsimp only [num]; decide) ⟨_, rfl, rfl, _, rfl, hit (by dsimp only [num]; decide) ?_⟩⟩⟩⟩⟩
      refine ⟨_, rfl, _, rfl, pg, dx, an, ai, ao, g, s, ra, l, rfl, p, off, hg, hra, fun H' a J' kp e => ?_⟩
      exact one J' kp e
    | outs l =>
      refine ⟨_, rfl, rfl, _, rfl, skip (by dsimp only [num]; decide) ⟨_, rfl, rfl, _, rfl, skip (by dsimp only [num]; decide) ⟨_, rfl, rfl, _, rfl, skip (by dsimp only [num]; decide) ⟨_, rfl, rfl, _, rfl, skip (by dsimp only [num]; decide) ⟨_, rfl, rfl, _, rfl, skip (by dsimp only [num]; decide) ⟨_, rfl, rfl, _, rfl, hit (by dsimp only [num]; decide) ?_⟩⟩⟩⟩⟩⟩
      refine ⟨_, rfl, _, rfl, pg, dx, an, ai, ao, g, s, ra, l, rfl, p, off, hg, hra, fun H' a J' kp e => ?_⟩
      exact one J' kp e
    | cost l =>
      refine ⟨_, rfl, rfl, _, rfl, skip (by dsimp only [num]; decide) ⟨_, rfl, rfl, _, rfl, skip (by dsimp only [num]; decide) ⟨_, rfl, rfl, _, rfl, skip (by dsimp only [num]; decide) ⟨_, rfl, rfl, _, rfl, skip (by dsimp only [num]; decide) ⟨_, rfl, rfl, _, rfl, skip (by dsimp only [num]; decide) ⟨_, rfl, rfl, _, rfl, skip (by dsimp only [num]; decide) ⟨_, rfl, rfl, _, rfl, hit (by dsimp only [num]; decide) ?_⟩⟩⟩⟩⟩⟩⟩
      refine ⟨_, rfl, _, rfl, pg, dx, an, ai, ao, s, ra, l, rfl, p, hra, hsh, fun H' sm => ?_⟩
      refine one (J0.same sm) (fun b o e _ => sm b o e) ?_
      show (if Ie10.isCells s l = false then [-1] else Ie10.ints [Ie10.cost s l]) = _
      split <;> rfl
    | price a b =>
      refine ⟨_, rfl, rfl, _, rfl, skip (by dsimp only [num]; decide) ⟨_, rfl, rfl, _, rfl, skip (by dsimp only [num]; decide) ⟨_, rfl, rfl, _, rfl, skip (by dsimp only [num]; decide) ⟨_, rfl, rfl, _, rfl, skip (by dsimp only [num]; decide) ⟨_, rfl, rfl, _, rfl, skip (by dsimp only [num]; decide) ⟨_, rfl, rfl, _, rfl, skip (by dsimp only [num]; decide) ⟨_, rfl, rfl, _, rfl, skip (by dsimp only [num]; decide) ⟨_, rfl, rfl, _, rfl, hit (by dsimp only [num]; decide) ?_⟩⟩⟩⟩⟩⟩⟩⟩
      refine ⟨_, rfl, _, rfl, wa, _, _, _, rfl, rfl, SqL.of hwa, get_mid (a := []) (x := a) (c := [b]) rfl, _, rfl, wa, _, _, _, rfl, rfl, SqL.of hwa, get_mid (a := [a]) (x := b) (c := []) rfl, pg, dx, an, ai, ao, s, a, b, rfl, p, fun H' sm => ?_⟩
      refine one (J0.same sm) (fun b o e _ => sm b o e) ?_
      show (if s.n ≤ a ∨ s.n ≤ b then [-1] else Ie10.ints [Ie10.price s a b]) = _
      split <;> rfl
    | cut =>
      refine ⟨_, rfl, rfl, _, rfl, skip (by dsimp only [num]; decide) ⟨_, rfl, rfl, _, rfl, skip (by dsimp only [num]; decide) ⟨_, rfl, rfl, _, rfl, skip (by dsimp only [num]; decide) ⟨_, rfl, rfl, _, rfl, skip (by dsimp only [num]; decide) ⟨_, rfl, rfl, _, rfl, skip (by dsimp only [num]; decide) ⟨_, rfl, rfl, _, rfl, skip (by dsimp only [num]; decide) ⟨_, rfl, rfl, _, rfl, skip (by dsimp only [num]; decide) ⟨_, rfl, rfl, _, rfl, skip (by dsimp only [num]; decide) ?_⟩⟩⟩⟩⟩⟩⟩⟩
      exact ⟨_, rfl, _, rfl, pg, dx, an, ai, ao, s, .cut, rfl, p, .inl rfl, fun H' r sm hr hr' => fin rfl sm hr hr'⟩
    | wide =>
      refine ⟨_, rfl, rfl, _, rfl, skip (by dsimp only [num]; decide) ⟨_, rfl, rfl, _, rfl, skip (by dsimp only [num]; decide) ⟨_, rfl, rfl, _, rfl, skip (by dsimp only [num]; decide) ⟨_, rfl, rfl, _, rfl, skip (by dsimp only [num]; decide) ⟨_, rfl, rfl, _, rfl, skip (by dsimp only [num]; decide) ⟨_, rfl, rfl, _, rfl, skip (by dsimp only [num]; decide) ⟨_, rfl, rfl, _, rfl, skip (by dsimp only [num]; decide) ⟨_, rfl, rfl, _, rfl, skip (by dsimp only [num]; decide) ?_⟩⟩⟩⟩⟩⟩⟩⟩
      exact ⟨_, rfl, _, rfl, pg, dx, an, ai, ao, s, .wide, rfl, p, .inr (.inl rfl), fun H' r sm hr hr' => fin rfl sm hr hr'⟩
    | edge =>
      refine ⟨_, rfl, rfl, _, rfl, skip (by dsimp only [num]; decide) ⟨_, rfl, rfl, _, rfl, skip (by dsimp only [num]; decide) ⟨_, rfl, rfl, _, rfl, skip (by dsimp only [num]; decide) ⟨_, rfl, rfl, _, rfl, skip (by dsimp only [num]; decide) ⟨_, rfl, rfl, _, rfl, skip (by dsimp only [num]; decide) ⟨_, rfl, rfl, _, rfl, skip (by dsimp only [num]; decide) ⟨_, rfl, rfl, _, rfl, skip (by dsimp only [num]; decide) ⟨_, rfl, rfl, _, rfl, skip (by dsimp only [num]; decide) ?_⟩⟩⟩⟩⟩⟩⟩⟩
      exact ⟨_, rfl, _, rfl, pg, dx, an, ai, ao, s, .edge, rfl, p, .inr (.inr rfl), fun H' r sm hr hr' => fin rfl sm hr hr'⟩
end
end Cl
namespace Cl
open PySem PySem.Spec PyProof.Rows L2
theorem all_mk {P : Program} {w : World} {K : PySem.W.Frag} {h : Heap} {mg : Str → Option Value} {fa : Addr} (X : K.In h) (G : h.Ns mainGlobals mg) (hfa : mg "answers" = some (.ref fa))
    {C : Addr}
    {f_init : Addr} {od_init an_init : Option Addr} {sl_init : Array (Option Value)} {oc_init kV_init dc_init pm_init cd_init ct_init : Value}
    {f_is_side : Addr} {od_is_side an_is_side : Option Addr} {sl_is_side : Array (Option Value)} {oc_is_side kV_is_side dc_is_side pm_is_side cd_is_side ct_is_side : Value}
    {f_is_cell : Addr} {od_is_cell an_is_cell : Option Addr} {sl_is_cell : Array (Option Value)} {oc_is_cell kV_is_cell dc_is_cell pm_is_cell cd_is_cell ct_is_cell : Value}
    {f_are_rising_cells : Addr} {od_are_rising_cells an_are_rising_cells : Option Addr} {sl_are_rising_cells : Array (Option Value)} {oc_are_rising_cells kV_are_rising_cells dc_are_rising_cells pm_are_rising_cells cd_are_rising_cells ct_are_rising_cells : Value}
    {f_cells_beside : Addr} {od_cells_beside an_cells_beside : Option Addr} {sl_cells_beside : Array (Option Value)} {oc_cells_beside kV_cells_beside dc_cells_beside pm_cells_beside cd_cells_beside ct_cells_beside : Value}
    {f_difference : Addr} {od_difference an_difference : Option Addr} {sl_difference : Array (Option Value)} {oc_difference kV_difference dc_difference pm_difference cd_difference ct_difference : Value}
    {f_cells_reached : Addr} {od_cells_reached an_cells_reached : Option Addr} {sl_cells_reached : Array (Option Value)} {oc_cells_reached kV_cells_reached dc_cells_reached pm_cells_reached cd_cells_reached ct_cells_reached : Value}
    {f_parting : Addr} {od_parting an_parting : Option Addr} {sl_parting : Array (Option Value)} {oc_parting kV_parting dc_parting pm_parting cd_parting ct_parting : Value}
    {f_parted_pairs : Addr} {od_parted_pairs an_parted_pairs : Option Addr} {sl_parted_pairs : Array (Option Value)} {oc_parted_pairs kV_parted_pairs dc_parted_pairs pm_parted_pairs cd_parted_pairs ct_parted_pairs : Value}
    {f_cost_of : Addr} {od_cost_of an_cost_of : Option Addr} {sl_cost_of : Array (Option Value)} {oc_cost_of kV_cost_of dc_cost_of pm_cost_of cd_cost_of ct_cost_of : Value}
    {f_whole_room : Addr} {od_whole_room an_whole_room : Option Addr} {sl_whole_room : Array (Option Value)} {oc_whole_room kV_whole_room dc_whole_room pm_whole_room cd_whole_room ct_whole_room : Value}
    {f_reached_through : Addr} {od_reached_through an_reached_through : Option Addr} {sl_reached_through : Array (Option Value)} {oc_reached_through kV_reached_through dc_reached_through pm_reached_through cd_reached_through ct_reached_through : Value}
    {f_way_with_room : Addr} {od_way_with_room an_way_with_room : Option Addr} {sl_way_with_room : Array (Option Value)} {oc_way_with_room kV_way_with_room dc_way_with_room pm_way_with_room cd_way_with_room ct_way_with_room : Value}
    {f_lead_along : Addr} {od_lead_along an_lead_along : Option Addr} {sl_lead_along : Array (Option Value)} {oc_lead_along kV_lead_along dc_lead_along pm_lead_along cd_lead_along ct_lead_along : Value}
    {f_least_region : Addr} {od_least_region an_least_region : Option Addr} {sl_least_region : Array (Option Value)} {oc_least_region kV_least_region dc_least_region pm_least_region cd_least_region ct_least_region : Value}
    {f_greatest_region : Addr} {od_greatest_region an_greatest_region : Option Addr} {sl_greatest_region : Array (Option Value)} {oc_greatest_region kV_greatest_region dc_greatest_region pm_greatest_region cd_greatest_region ct_greatest_region : Value}
    {f_put_page : Addr} {od_put_page an_put_page : Option Addr} {sl_put_page : Array (Option Value)} {oc_put_page kV_put_page dc_put_page pm_put_page cd_put_page ct_put_page : Value}
    {f_put_sharp : Addr} {od_put_sharp an_put_sharp : Option Addr} {sl_put_sharp : Array (Option Value)} {oc_put_sharp kV_put_sharp dc_put_sharp pm_put_sharp cd_put_sharp ct_put_sharp : Value}
    {f_choose : Addr} {od_choose an_choose : Option Addr} {sl_choose : Array (Option Value)} {oc_choose kV_choose dc_choose pm_choose cd_choose ct_choose : Value}
    {f_seeds_answer : Addr} {od_seeds_answer an_seeds_answer : Option Addr} {sl_seeds_answer : Array (Option Value)} {oc_seeds_answer kV_seeds_answer dc_seeds_answer pm_seeds_answer cd_seeds_answer ct_seeds_answer : Value}
    {f_put_within : Addr} {od_put_within an_put_within : Option Addr} {sl_put_within : Array (Option Value)} {oc_put_within kV_put_within dc_put_within pm_put_within cd_put_within ct_put_within : Value}
    {f_put_without : Addr} {od_put_without an_put_without : Option Addr} {sl_put_without : Array (Option Value)} {oc_put_without kV_put_without dc_put_without pm_put_without cd_put_without ct_put_without : Value}
    {f_tell_region : Addr} {od_tell_region an_tell_region : Option Addr} {sl_tell_region : Array (Option Value)} {oc_tell_region kV_tell_region dc_tell_region pm_tell_region cd_tell_region ct_tell_region : Value}
    {f_tell_pairs : Addr} {od_tell_pairs an_tell_pairs : Option Addr} {sl_tell_pairs : Array (Option Value)} {oc_tell_pairs kV_tell_pairs dc_tell_pairs pm_tell_pairs cd_tell_pairs ct_tell_pairs : Value}
    {f_tell_cheapest : Addr} {od_tell_cheapest an_tell_cheapest : Option Addr} {sl_tell_cheapest : Array (Option Value)} {oc_tell_cheapest kV_tell_cheapest dc_tell_cheapest pm_tell_cheapest cd_tell_cheapest ct_tell_cheapest : Value}
    {f_tell_cost : Addr} {od_tell_cost an_tell_cost : Option Addr} {sl_tell_cost : Array (Option Value)} {oc_tell_cost kV_tell_cost dc_tell_cost pm_tell_cost cd_tell_cost ct_tell_cost : Value}
    {f_tell_price : Addr} {od_tell_price an_tell_price : Option Addr} {sl_tell_price : Array (Option Value)} {oc_tell_price kV_tell_price dc_tell_price pm_tell_price cd_tell_price ct_tell_price : Value}
    {f_answer_to : Addr} {od_answer_to an_answer_to : Option Addr} {sl_answer_to : Array (Option Value)} {oc_answer_to kV_answer_to dc_answer_to pm_answer_to cd_answer_to ct_answer_to : Value}
    {f_answers : Addr} {od_answers an_answers : Option Addr} {sl_answers : Array (Option Value)} {oc_answers kV_answers dc_answers pm_answers cd_answers ct_answers : Value}
    {t_PAGE : Tok}
    {t_SHARP : Tok}
    {t_LIKE : Tok}
    {t_STEPS : Tok}
    {t_WITHIN : Tok}
    {t_WITHOUT : Tok}
    {t_CUT : Tok}
    {t_WIDE : Tok}
    {t_COST : Tok}
    {t_PRICE : Tok}
    {w_WHOLES : Addr} {od_WHOLES : Option Addr} {sl_WHOLES : Array (Option Value)} {it_WHOLES : Array Value} {nn_WHOLES : Nat}
    {w_HAS_ROW : Addr} {od_HAS_ROW : Option Addr} {sl_HAS_ROW : Array (Option Value)} {it_HAS_ROW : Array Value} {nn_HAS_ROW : Nat}
    {t_NO_PLACE : Tok}
    {t_OUT_OF_BOUNDS : Tok}
    {t_NO_SEEDS : Tok}
    {t_OTHER_SIDE : Tok}
    {t_LONGEST_SIDE : Tok}
    {t_GREATEST_NUMBER : Tok}
    {t_GREATEST_PARTING : Tok}
    (gC : PySem.W.nsIn K mainGlobals "Page" = some (some (.ref C)))
    (a_init : PySem.W.findIn K (.ref C) "__init__" = some (some (.ref f_init)))
    (i_init : PySem.W.isFn K (.ref f_init) = true)
    (l_init : K.lookup f_init = some ⟨oc_init, od_init, .func (PySem.W.fnOf "__init__" "Page.__init__" (defArgs s_Page_init) (defBody s_Page_init) (defScope s_Page_init) .none kV_init dc_init pm_init an_init cd_init ct_init), sl_init⟩)
    (c_init : PySem.W.codeIn K cd_init "Page.__init__" = true)
    (k_init : PySem.W.keepIn K (.ref f_init) = true)
    (pg : PySem.W.plainGet K C Str.empty = true)
    (hd : PySem.W.hasDictIn K C = true)
    (po : PySem.W.plainOver K C = true)
    (sa : PySem.W.findIn K (.ref C) "__setattr__" = some (some (.builtin "object.__setattr__")))
    (mk : PySem.W.makesIn K C = true)
    (kc : PySem.W.keepIn K (.ref C) = true)
    (n_columns : PySem.W.findIn K (.ref C) "columns" = some none)
    (n_numbers : PySem.W.findIn K (.ref C) "numbers" = some none)
    (n_sharp : PySem.W.findIn K (.ref C) "sharp" = some none)
    (n_within : PySem.W.findIn K (.ref C) "within" = some none)
    (n_without : PySem.W.findIn K (.ref C) "without" = some none)
    (a_is_side : PySem.W.nsIn K mainGlobals "is_side" = some (some (.ref f_is_side)))
    (l_is_side : K.lookup f_is_side = some ⟨oc_is_side, od_is_side, .func (PySem.W.fnOf "is_side" "is_side" (defArgs s_is_side) (defBody s_is_side) (defScope s_is_side) .none kV_is_side dc_is_side pm_is_side an_is_side cd_is_side ct_is_side), sl_is_side⟩)
    (c_is_side : PySem.W.codeIn K cd_is_side "is_side" = true)
    (k_is_side : PySem.W.keepIn K (.ref f_is_side) = true)
    (a_is_cell : PySem.W.nsIn K mainGlobals "is_cell" = some (some (.ref f_is_cell)))
    (l_is_cell : K.lookup f_is_cell = some ⟨oc_is_cell, od_is_cell, .func (PySem.W.fnOf "is_cell" "is_cell" (defArgs s_is_cell) (defBody s_is_cell) (defScope s_is_cell) .none kV_is_cell dc_is_cell pm_is_cell an_is_cell cd_is_cell ct_is_cell), sl_is_cell⟩)
    (c_is_cell : PySem.W.codeIn K cd_is_cell "is_cell" = true)
    (k_is_cell : PySem.W.keepIn K (.ref f_is_cell) = true)
    (a_are_rising_cells : PySem.W.nsIn K mainGlobals "are_rising_cells" = some (some (.ref f_are_rising_cells)))
    (l_are_rising_cells : K.lookup f_are_rising_cells = some ⟨oc_are_rising_cells, od_are_rising_cells, .func (PySem.W.fnOf "are_rising_cells" "are_rising_cells" (defArgs s_are_rising_cells) (defBody s_are_rising_cells) (defScope s_are_rising_cells) .none kV_are_rising_cells dc_are_rising_cells pm_are_rising_cells an_are_rising_cells cd_are_rising_cells ct_are_rising_cells), sl_are_rising_cells⟩)
    (c_are_rising_cells : PySem.W.codeIn K cd_are_rising_cells "are_rising_cells" = true)
    (k_are_rising_cells : PySem.W.keepIn K (.ref f_are_rising_cells) = true)
    (a_cells_beside : PySem.W.nsIn K mainGlobals "cells_beside" = some (some (.ref f_cells_beside)))
    (l_cells_beside : K.lookup f_cells_beside = some ⟨oc_cells_beside, od_cells_beside, .func (PySem.W.fnOf "cells_beside" "cells_beside" (defArgs s_cells_beside) (defBody s_cells_beside) (defScope s_cells_beside) .none kV_cells_beside dc_cells_beside pm_cells_beside an_cells_beside cd_cells_beside ct_cells_beside), sl_cells_beside⟩)
    (c_cells_beside : PySem.W.codeIn K cd_cells_beside "cells_beside" = true)
    (k_cells_beside : PySem.W.keepIn K (.ref f_cells_beside) = true)
    (a_difference : PySem.W.nsIn K mainGlobals "difference" = some (some (.ref f_difference)))
    (l_difference : K.lookup f_difference = some ⟨oc_difference, od_difference, .func (PySem.W.fnOf "difference" "difference" (defArgs s_difference) (defBody s_difference) (defScope s_difference) .none kV_difference dc_difference pm_difference an_difference cd_difference ct_difference), sl_difference⟩)
    (c_difference : PySem.W.codeIn K cd_difference "difference" = true)
    (k_difference : PySem.W.keepIn K (.ref f_difference) = true)
    (a_cells_reached : PySem.W.nsIn K mainGlobals "cells_reached" = some (some (.ref f_cells_reached)))
    (l_cells_reached : K.lookup f_cells_reached = some ⟨oc_cells_reached, od_cells_reached, .func (PySem.W.fnOf "cells_reached" "cells_reached" (defArgs s_cells_reached) (defBody s_cells_reached) (defScope s_cells_reached) .none kV_cells_reached dc_cells_reached pm_cells_reached an_cells_reached cd_cells_reached ct_cells_reached), sl_cells_reached⟩)
    (c_cells_reached : PySem.W.codeIn K cd_cells_reached "cells_reached" = true)
    (k_cells_reached : PySem.W.keepIn K (.ref f_cells_reached) = true)
    (a_parting : PySem.W.nsIn K mainGlobals "parting" = some (some (.ref f_parting)))
    (l_parting : K.lookup f_parting = some ⟨oc_parting, od_parting, .func (PySem.W.fnOf "parting" "parting" (defArgs s_parting) (defBody s_parting) (defScope s_parting) .none kV_parting dc_parting pm_parting an_parting cd_parting ct_parting), sl_parting⟩)
    (c_parting : PySem.W.codeIn K cd_parting "parting" = true)
    (k_parting : PySem.W.keepIn K (.ref f_parting) = true)
    (a_parted_pairs : PySem.W.nsIn K mainGlobals "parted_pairs" = some (some (.ref f_parted_pairs)))
    (l_parted_pairs : K.lookup f_parted_pairs = some ⟨oc_parted_pairs, od_parted_pairs, .func (PySem.W.fnOf "parted_pairs" "parted_pairs" (defArgs s_parted_pairs) (defBody s_parted_pairs) (defScope s_parted_pairs) .none kV_parted_pairs dc_parted_pairs pm_parted_pairs an_parted_pairs cd_parted_pairs ct_parted_pairs), sl_parted_pairs⟩)
    (c_parted_pairs : PySem.W.codeIn K cd_parted_pairs "parted_pairs" = true)
    (k_parted_pairs : PySem.W.keepIn K (.ref f_parted_pairs) = true)
    (a_cost_of : PySem.W.nsIn K mainGlobals "cost_of" = some (some (.ref f_cost_of)))
    (l_cost_of : K.lookup f_cost_of = some ⟨oc_cost_of, od_cost_of, .func (PySem.W.fnOf "cost_of" "cost_of" (defArgs s_cost_of) (defBody s_cost_of) (defScope s_cost_of) .none kV_cost_of dc_cost_of pm_cost_of an_cost_of cd_cost_of ct_cost_of), sl_cost_of⟩)
    (c_cost_of : PySem.W.codeIn K cd_cost_of "cost_of" = true)
    (k_cost_of : PySem.W.keepIn K (.ref f_cost_of) = true)
    (a_whole_room : PySem.W.nsIn K mainGlobals "whole_room" = some (some (.ref f_whole_room)))
    (l_whole_room : K.lookup f_whole_room = some ⟨oc_whole_room, od_whole_room, .func (PySem.W.fnOf "whole_room" "whole_room" (defArgs s_whole_room) (defBody s_whole_room) (defScope s_whole_room) .none kV_whole_room dc_whole_room pm_whole_room an_whole_room cd_whole_room ct_whole_room), sl_whole_room⟩)
    (c_whole_room : PySem.W.codeIn K cd_whole_room "whole_room" = true)
    (k_whole_room : PySem.W.keepIn K (.ref f_whole_room) = true)
    (a_reached_through : PySem.W.nsIn K mainGlobals "reached_through" = some (some (.ref f_reached_through)))
    (l_reached_through : K.lookup f_reached_through = some ⟨oc_reached_through, od_reached_through, .func (PySem.W.fnOf "reached_through" "reached_through" (defArgs s_reached_through) (defBody s_reached_through) (defScope s_reached_through) .none kV_reached_through dc_reached_through pm_reached_through an_reached_through cd_reached_through ct_reached_through), sl_reached_through⟩)
    (c_reached_through : PySem.W.codeIn K cd_reached_through "reached_through" = true)
    (k_reached_through : PySem.W.keepIn K (.ref f_reached_through) = true)
    (a_way_with_room : PySem.W.nsIn K mainGlobals "way_with_room" = some (some (.ref f_way_with_room)))
    (l_way_with_room : K.lookup f_way_with_room = some ⟨oc_way_with_room, od_way_with_room, .func (PySem.W.fnOf "way_with_room" "way_with_room" (defArgs s_way_with_room) (defBody s_way_with_room) (defScope s_way_with_room) .none kV_way_with_room dc_way_with_room pm_way_with_room an_way_with_room cd_way_with_room ct_way_with_room), sl_way_with_room⟩)
    (c_way_with_room : PySem.W.codeIn K cd_way_with_room "way_with_room" = true)
    (k_way_with_room : PySem.W.keepIn K (.ref f_way_with_room) = true)
    (a_lead_along : PySem.W.nsIn K mainGlobals "lead_along" = some (some (.ref f_lead_along)))
    (l_lead_along : K.lookup f_lead_along = some ⟨oc_lead_along, od_lead_along, .func (PySem.W.fnOf "lead_along" "lead_along" (defArgs s_lead_along) (defBody s_lead_along) (defScope s_lead_along) .none kV_lead_along dc_lead_along pm_lead_along an_lead_along cd_lead_along ct_lead_along), sl_lead_along⟩)
    (c_lead_along : PySem.W.codeIn K cd_lead_along "lead_along" = true)
    (k_lead_along : PySem.W.keepIn K (.ref f_lead_along) = true)
    (a_least_region : PySem.W.nsIn K mainGlobals "least_region" = some (some (.ref f_least_region)))
    (l_least_region : K.lookup f_least_region = some ⟨oc_least_region, od_least_region, .func (PySem.W.fnOf "least_region" "least_region" (defArgs s_least_region) (defBody s_least_region) (defScope s_least_region) .none kV_least_region dc_least_region pm_least_region an_least_region cd_least_region ct_least_region), sl_least_region⟩)
    (c_least_region : PySem.W.codeIn K cd_least_region "least_region" = true)
    (k_least_region : PySem.W.keepIn K (.ref f_least_region) = true)
    (a_greatest_region : PySem.W.nsIn K mainGlobals "greatest_region" = some (some (.ref f_greatest_region)))
    (l_greatest_region : K.lookup f_greatest_region = some ⟨oc_greatest_region, od_greatest_region, .func (PySem.W.fnOf "greatest_region" "greatest_region" (defArgs s_greatest_region) (defBody s_greatest_region) (defScope s_greatest_region) .none kV_greatest_region dc_greatest_region pm_greatest_region an_greatest_region cd_greatest_region ct_greatest_region), sl_greatest_region⟩)
    (c_greatest_region : PySem.W.codeIn K cd_greatest_region "greatest_region" = true)
    (k_greatest_region : PySem.W.keepIn K (.ref f_greatest_region) = true)
    (a_put_page : PySem.W.nsIn K mainGlobals "put_page" = some (some (.ref f_put_page)))
    (l_put_page : K.lookup f_put_page = some ⟨oc_put_page, od_put_page, .func (PySem.W.fnOf "put_page" "put_page" (defArgs s_put_page) (defBody s_put_page) (defScope s_put_page) .none kV_put_page dc_put_page pm_put_page an_put_page cd_put_page ct_put_page), sl_put_page⟩)
    (c_put_page : PySem.W.codeIn K cd_put_page "put_page" = true)
    (k_put_page : PySem.W.keepIn K (.ref f_put_page) = true)
    (a_put_sharp : PySem.W.nsIn K mainGlobals "put_sharp" = some (some (.ref f_put_sharp)))
    (l_put_sharp : K.lookup f_put_sharp = some ⟨oc_put_sharp, od_put_sharp, .func (PySem.W.fnOf "put_sharp" "put_sharp" (defArgs s_put_sharp) (defBody s_put_sharp) (defScope s_put_sharp) .none kV_put_sharp dc_put_sharp pm_put_sharp an_put_sharp cd_put_sharp ct_put_sharp), sl_put_sharp⟩)
    (c_put_sharp : PySem.W.codeIn K cd_put_sharp "put_sharp" = true)
    (k_put_sharp : PySem.W.keepIn K (.ref f_put_sharp) = true)
    (a_choose : PySem.W.nsIn K mainGlobals "choose" = some (some (.ref f_choose)))
    (l_choose : K.lookup f_choose = some ⟨oc_choose, od_choose, .func (PySem.W.fnOf "choose" "choose" (defArgs s_choose) (defBody s_choose) (defScope s_choose) .none kV_choose dc_choose pm_choose an_choose cd_choose ct_choose), sl_choose⟩)
    (c_choose : PySem.W.codeIn K cd_choose "choose" = true)
    (k_choose : PySem.W.keepIn K (.ref f_choose) = true)
    (a_seeds_answer : PySem.W.nsIn K mainGlobals "seeds_answer" = some (some (.ref f_seeds_answer)))
    (l_seeds_answer : K.lookup f_seeds_answer = some ⟨oc_seeds_answer, od_seeds_answer, .func (PySem.W.fnOf "seeds_answer" "seeds_answer" (defArgs s_seeds_answer) (defBody s_seeds_answer) (defScope s_seeds_answer) .none kV_seeds_answer dc_seeds_answer pm_seeds_answer an_seeds_answer cd_seeds_answer ct_seeds_answer), sl_seeds_answer⟩)
    (c_seeds_answer : PySem.W.codeIn K cd_seeds_answer "seeds_answer" = true)
    (k_seeds_answer : PySem.W.keepIn K (.ref f_seeds_answer) = true)
    (a_put_within : PySem.W.nsIn K mainGlobals "put_within" = some (some (.ref f_put_within)))
    (l_put_within : K.lookup f_put_within = some ⟨oc_put_within, od_put_within, .func (PySem.W.fnOf "put_within" "put_within" (defArgs s_put_within) (defBody s_put_within) (defScope s_put_within) .none kV_put_within dc_put_within pm_put_within an_put_within cd_put_within ct_put_within), sl_put_within⟩)
    (c_put_within : PySem.W.codeIn K cd_put_within "put_within" = true)
    (k_put_within : PySem.W.keepIn K (.ref f_put_within) = true)
    (a_put_without : PySem.W.nsIn K mainGlobals "put_without" = some (some (.ref f_put_without)))
    (l_put_without : K.lookup f_put_without = some ⟨oc_put_without, od_put_without, .func (PySem.W.fnOf "put_without" "put_without" (defArgs s_put_without) (defBody s_put_without) (defScope s_put_without) .none kV_put_without dc_put_without pm_put_without an_put_without cd_put_without ct_put_without), sl_put_without⟩)
    (c_put_without : PySem.W.codeIn K cd_put_without "put_without" = true)
    (k_put_without : PySem.W.keepIn K (.ref f_put_without) = true)
    (a_tell_region : PySem.W.nsIn K mainGlobals "tell_region" = some (some (.ref f_tell_region)))
    (l_tell_region : K.lookup f_tell_region = some ⟨oc_tell_region, od_tell_region, .func (PySem.W.fnOf "tell_region" "tell_region" (defArgs s_tell_region) (defBody s_tell_region) (defScope s_tell_region) .none kV_tell_region dc_tell_region pm_tell_region an_tell_region cd_tell_region ct_tell_region), sl_tell_region⟩)
    (c_tell_region : PySem.W.codeIn K cd_tell_region "tell_region" = true)
    (k_tell_region : PySem.W.keepIn K (.ref f_tell_region) = true)
    (a_tell_pairs : PySem.W.nsIn K mainGlobals "tell_pairs" = some (some (.ref f_tell_pairs)))
    (l_tell_pairs : K.lookup f_tell_pairs = some ⟨oc_tell_pairs, od_tell_pairs, .func (PySem.W.fnOf "tell_pairs" "tell_pairs" (defArgs s_tell_pairs) (defBody s_tell_pairs) (defScope s_tell_pairs) .none kV_tell_pairs dc_tell_pairs pm_tell_pairs an_tell_pairs cd_tell_pairs ct_tell_pairs), sl_tell_pairs⟩)
    (c_tell_pairs : PySem.W.codeIn K cd_tell_pairs "tell_pairs" = true)
    (k_tell_pairs : PySem.W.keepIn K (.ref f_tell_pairs) = true)
    (a_tell_cheapest : PySem.W.nsIn K mainGlobals "tell_cheapest" = some (some (.ref f_tell_cheapest)))
    (l_tell_cheapest : K.lookup f_tell_cheapest = some ⟨oc_tell_cheapest, od_tell_cheapest, .func (PySem.W.fnOf "tell_cheapest" "tell_cheapest" (defArgs s_tell_cheapest) (defBody s_tell_cheapest) (defScope s_tell_cheapest) .none kV_tell_cheapest dc_tell_cheapest pm_tell_cheapest an_tell_cheapest cd_tell_cheapest ct_tell_cheapest), sl_tell_cheapest⟩)
    (c_tell_cheapest : PySem.W.codeIn K cd_tell_cheapest "tell_cheapest" = true)
    (k_tell_cheapest : PySem.W.keepIn K (.ref f_tell_cheapest) = true)
    (a_tell_cost : PySem.W.nsIn K mainGlobals "tell_cost" = some (some (.ref f_tell_cost)))
    (l_tell_cost : K.lookup f_tell_cost = some ⟨oc_tell_cost, od_tell_cost, .func (PySem.W.fnOf "tell_cost" "tell_cost" (defArgs s_tell_cost) (defBody s_tell_cost) (defScope s_tell_cost) .none kV_tell_cost dc_tell_cost pm_tell_cost an_tell_cost cd_tell_cost ct_tell_cost), sl_tell_cost⟩)
    (c_tell_cost : PySem.W.codeIn K cd_tell_cost "tell_cost" = true)
    (k_tell_cost : PySem.W.keepIn K (.ref f_tell_cost) = true)
    (a_tell_price : PySem.W.nsIn K mainGlobals "tell_price" = some (some (.ref f_tell_price)))
    (l_tell_price : K.lookup f_tell_price = some ⟨oc_tell_price, od_tell_price, .func (PySem.W.fnOf "tell_price" "tell_price" (defArgs s_tell_price) (defBody s_tell_price) (defScope s_tell_price) .none kV_tell_price dc_tell_price pm_tell_price an_tell_price cd_tell_price ct_tell_price), sl_tell_price⟩)
    (c_tell_price : PySem.W.codeIn K cd_tell_price "tell_price" = true)
    (k_tell_price : PySem.W.keepIn K (.ref f_tell_price) = true)
    (a_answer_to : PySem.W.nsIn K mainGlobals "answer_to" = some (some (.ref f_answer_to)))
    (l_answer_to : K.lookup f_answer_to = some ⟨oc_answer_to, od_answer_to, .func (PySem.W.fnOf "answer_to" "answer_to" (defArgs s_answer_to) (defBody s_answer_to) (defScope s_answer_to) .none kV_answer_to dc_answer_to pm_answer_to an_answer_to cd_answer_to ct_answer_to), sl_answer_to⟩)
    (c_answer_to : PySem.W.codeIn K cd_answer_to "answer_to" = true)
    (k_answer_to : PySem.W.keepIn K (.ref f_answer_to) = true)
    (a_answers : PySem.W.nsIn K mainGlobals "answers" = some (some (.ref f_answers)))
    (l_answers : K.lookup f_answers = some ⟨oc_answers, od_answers, .func (PySem.W.fnOf "answers" "answers" (defArgs s_answers) (defBody s_answers) (defScope s_answers) .none kV_answers dc_answers pm_answers an_answers cd_answers ct_answers), sl_answers⟩)
    (c_answers : PySem.W.codeIn K cd_answers "answers" = true)
    (k_answers : PySem.W.keepIn K (.ref f_answers) = true)
    (g_PAGE : PySem.W.nsIn K mainGlobals "PAGE" = some (some (.int (0) t_PAGE)))
    (g_SHARP : PySem.W.nsIn K mainGlobals "SHARP" = some (some (.int (1) t_SHARP)))
    (g_LIKE : PySem.W.nsIn K mainGlobals "LIKE" = some (some (.int (2) t_LIKE)))
    (g_STEPS : PySem.W.nsIn K mainGlobals "STEPS" = some (some (.int (3) t_STEPS)))
    (g_WITHIN : PySem.W.nsIn K mainGlobals "WITHIN" = some (some (.int (4) t_WITHIN)))
    (g_WITHOUT : PySem.W.nsIn K mainGlobals "WITHOUT" = some (some (.int (5) t_WITHOUT)))
    (g_CUT : PySem.W.nsIn K mainGlobals "CUT" = some (some (.int (6) t_CUT)))
    (g_WIDE : PySem.W.nsIn K mainGlobals "WIDE" = some (some (.int (7) t_WIDE)))
    (g_COST : PySem.W.nsIn K mainGlobals "COST" = some (some (.int (8) t_COST)))
    (g_PRICE : PySem.W.nsIn K mainGlobals "PRICE" = some (some (.int (10) t_PRICE)))
    (g_WHOLES : PySem.W.nsIn K mainGlobals "WHOLES" = some (some (.ref w_WHOLES)))
    (l_WHOLES : K.lookup w_WHOLES = some ⟨.type "tuple", od_WHOLES, .seq it_WHOLES nn_WHOLES, sl_WHOLES⟩)
    (v_WHOLES : Vals [.int (2), .int (1), .int (2), .int (2), .int (0), .int (0), .int (0), .int (0), .int (0), .int (0), .int (2)] it_WHOLES.toList)
    (g_HAS_ROW : PySem.W.nsIn K mainGlobals "HAS_ROW" = some (some (.ref w_HAS_ROW)))
    (l_HAS_ROW : K.lookup w_HAS_ROW = some ⟨.type "tuple", od_HAS_ROW, .seq it_HAS_ROW nn_HAS_ROW, sl_HAS_ROW⟩)
    (v_HAS_ROW : Vals [.bl true, .bl false, .bl false, .bl false, .bl true, .bl true, .bl false, .bl false, .bl true, .bl false, .bl false] it_HAS_ROW.toList)
    (g_NO_PLACE : PySem.W.nsIn K mainGlobals "NO_PLACE" = some (some (.int (-1) t_NO_PLACE)))
    (g_OUT_OF_BOUNDS : PySem.W.nsIn K mainGlobals "OUT_OF_BOUNDS" = some (some (.int (-2) t_OUT_OF_BOUNDS)))
    (g_NO_SEEDS : PySem.W.nsIn K mainGlobals "NO_SEEDS" = some (some (.int (-4) t_NO_SEEDS)))
    (g_OTHER_SIDE : PySem.W.nsIn K mainGlobals "OTHER_SIDE" = some (some (.int (-6) t_OTHER_SIDE)))
    (g_LONGEST_SIDE : PySem.W.nsIn K mainGlobals "LONGEST_SIDE" = some (some (.int (5) t_LONGEST_SIDE)))
    (g_GREATEST_NUMBER : PySem.W.nsIn K mainGlobals "GREATEST_NUMBER" = some (some (.int (255) t_GREATEST_NUMBER)))
    (g_GREATEST_PARTING : PySem.W.nsIn K mainGlobals "GREATEST_PARTING" = some (some (.int (255) t_GREATEST_PARTING)))
    (z_len : PySem.W.nsIn K mainGlobals "len" = some none)
    (z_abs : PySem.W.nsIn K mainGlobals "abs" = some none)
    (z_list : PySem.W.nsIn K mainGlobals "list" = some none)
    (z_sorted : PySem.W.nsIn K mainGlobals "sorted" = some none)
    (z_max : PySem.W.nsIn K mainGlobals "max" = some none)
    (z_min : PySem.W.nsIn K mainGlobals "min" = some none)
    (z_sum : PySem.W.nsIn K mainGlobals "sum" = some none)
    (z_range : PySem.W.nsIn K mainGlobals "range" = some none) :
    ∃ fd : FuncData, (∀ (s : Shared) (us : List Value), us.length = (["calls"] : List Str).length → BindsTo s fd ⟨us, []⟩ ((["calls"] : List Str).zip us)) ∧ ∀ base : Heap, K.In base → base.Ns mainGlobals mg → FnOk P w K mg base CX0 8 fa fd ["calls"] (spAns K) := by
  have e := hfa.symm.trans (PySem.W.mg_of X G a_answers)
  cases e
  have F_init := fun_mk (st := s_Page_init) l_init c_init k_init
  have b_init := F_init.binds (ps := ["self"]) fun _ _ _ _ _ _ us hl => match us, hl with | [_], _ => rfl
  have F_is_side := fun_mk (st := s_is_side) l_is_side c_is_side k_is_side
  have b_is_side := F_is_side.binds (ps := ["length"]) fun _ _ _ _ _ _ us hl => match us, hl with | [_], _ => rfl
  have F_is_cell := fun_mk (st := s_is_cell) l_is_cell c_is_cell k_is_cell
  have b_is_cell := F_is_cell.binds (ps := ["page", "cell"]) fun _ _ _ _ _ _ us hl => match us, hl with | [_, _], _ => rfl
  have F_are_rising_cells := fun_mk (st := s_are_rising_cells) l_are_rising_cells c_are_rising_cells k_are_rising_cells
  have b_are_rising_cells := F_are_rising_cells.binds (ps := ["page", "cells"]) fun _ _ _ _ _ _ us hl => match us, hl with | [_, _], _ => rfl
  have F_cells_beside := fun_mk (st := s_cells_beside) l_cells_beside c_cells_beside k_cells_beside
  have b_cells_beside := F_cells_beside.binds (ps := ["page", "cell"]) fun _ _ _ _ _ _ us hl => match us, hl with | [_, _], _ => rfl
  have F_difference := fun_mk (st := s_difference) l_difference c_difference k_difference
  have b_difference := F_difference.binds (ps := ["page", "one", "other"]) fun _ _ _ _ _ _ us hl => match us, hl with | [_, _, _], _ => rfl
  have F_cells_reached := fun_mk (st := s_cells_reached) l_cells_reached c_cells_reached k_cells_reached
  have b_cells_reached := F_cells_reached.binds (ps := ["page", "start", "bound", "by_steps"]) fun _ _ _ _ _ _ us hl => match us, hl with | [_, _, _, _], _ => rfl
  have F_parting := fun_mk (st := s_parting) l_parting c_parting k_parting
  have b_parting := F_parting.binds (ps := ["page", "one", "other"]) fun _ _ _ _ _ _ us hl => match us, hl with | [_, _, _], _ => rfl
  have F_parted_pairs := fun_mk (st := s_parted_pairs) l_parted_pairs c_parted_pairs k_parted_pairs
  have b_parted_pairs := F_parted_pairs.binds (ps := ["page", "region"]) fun _ _ _ _ _ _ us hl => match us, hl with | [_, _], _ => rfl
  have F_cost_of := fun_mk (st := s_cost_of) l_cost_of c_cost_of k_cost_of
  have b_cost_of := F_cost_of.binds (ps := ["page", "region"]) fun _ _ _ _ _ _ us hl => match us, hl with | [_, _], _ => rfl
  have F_whole_room := fun_mk (st := s_whole_room) l_whole_room c_whole_room k_whole_room
  have b_whole_room := F_whole_room.binds (ps := ["page"]) fun _ _ _ _ _ _ us hl => match us, hl with | [_], _ => rfl
  have F_reached_through := fun_mk (st := s_reached_through) l_reached_through c_reached_through k_reached_through
  have b_reached_through := F_reached_through.binds (ps := ["room", "starts"]) fun _ _ _ _ _ _ us hl => match us, hl with | [_, _], _ => rfl
  have F_way_with_room := fun_mk (st := s_way_with_room) l_way_with_room c_way_with_room k_way_with_room
  have b_way_with_room := F_way_with_room.binds (ps := ["room", "starts", "ends"]) fun _ _ _ _ _ _ us hl => match us, hl with | [_, _, _], _ => rfl
  have F_lead_along := fun_mk (st := s_lead_along) l_lead_along c_lead_along k_lead_along
  have b_lead_along := F_lead_along.binds (ps := ["room", "way"]) fun _ _ _ _ _ _ us hl => match us, hl with | [_, _], _ => rfl
  have F_least_region := fun_mk (st := s_least_region) l_least_region c_least_region k_least_region
  have b_least_region := F_least_region.binds (ps := ["page", "own_seeds", "other_seeds"]) fun _ _ _ _ _ _ us hl => match us, hl with | [_, _, _], _ => rfl
  have F_greatest_region := fun_mk (st := s_greatest_region) l_greatest_region c_greatest_region k_greatest_region
  have b_greatest_region := F_greatest_region.binds (ps := ["page"]) fun _ _ _ _ _ _ us hl => match us, hl with | [_], _ => rfl
  have F_put_page := fun_mk (st := s_put_page) l_put_page c_put_page k_put_page
  have b_put_page := F_put_page.binds (ps := ["page", "columns", "rows", "numbers"]) fun _ _ _ _ _ _ us hl => match us, hl with | [_, _, _, _], _ => rfl
  have F_put_sharp := fun_mk (st := s_put_sharp) l_put_sharp c_put_sharp k_put_sharp
  have b_put_sharp := F_put_sharp.binds (ps := ["page", "sharp"]) fun _ _ _ _ _ _ us hl => match us, hl with | [_, _], _ => rfl
  have F_choose := fun_mk (st := s_choose) l_choose c_choose k_choose
  have b_choose := F_choose.binds (ps := ["page", "start", "bound", "by_steps"]) fun _ _ _ _ _ _ us hl => match us, hl with | [_, _, _, _], _ => rfl
  have F_seeds_answer := fun_mk (st := s_seeds_answer) l_seeds_answer c_seeds_answer k_seeds_answer
  have b_seeds_answer := F_seeds_answer.binds (ps := ["page", "cells", "other_side"]) fun _ _ _ _ _ _ us hl => match us, hl with | [_, _, _], _ => rfl
  have F_put_within := fun_mk (st := s_put_within) l_put_within c_put_within k_put_within
  have b_put_within := F_put_within.binds (ps := ["page", "cells"]) fun _ _ _ _ _ _ us hl => match us, hl with | [_, _], _ => rfl
  have F_put_without := fun_mk (st := s_put_without) l_put_without c_put_without k_put_without
  have b_put_without := F_put_without.binds (ps := ["page", "cells"]) fun _ _ _ _ _ _ us hl => match us, hl with | [_, _], _ => rfl
  have F_tell_region := fun_mk (st := s_tell_region) l_tell_region c_tell_region k_tell_region
  have b_tell_region := F_tell_region.binds (ps := ["page", "region"]) fun _ _ _ _ _ _ us hl => match us, hl with | [_, _], _ => rfl
  have F_tell_pairs := fun_mk (st := s_tell_pairs) l_tell_pairs c_tell_pairs k_tell_pairs
  have b_tell_pairs := F_tell_pairs.binds (ps := ["pairs"]) fun _ _ _ _ _ _ us hl => match us, hl with | [_], _ => rfl
  have F_tell_cheapest := fun_mk (st := s_tell_cheapest) l_tell_cheapest c_tell_cheapest k_tell_cheapest
  have b_tell_cheapest := F_tell_cheapest.binds (ps := ["page", "call"]) fun _ _ _ _ _ _ us hl => match us, hl with | [_, _], _ => rfl
  have F_tell_cost := fun_mk (st := s_tell_cost) l_tell_cost c_tell_cost k_tell_cost
  have b_tell_cost := F_tell_cost.binds (ps := ["page", "cells"]) fun _ _ _ _ _ _ us hl => match us, hl with | [_, _], _ => rfl
  have F_tell_price := fun_mk (st := s_tell_price) l_tell_price c_tell_price k_tell_price
  have b_tell_price := F_tell_price.binds (ps := ["page", "one", "other"]) fun _ _ _ _ _ _ us hl => match us, hl with | [_, _, _], _ => rfl
  have F_answer_to := fun_mk (st := s_answer_to) l_answer_to c_answer_to k_answer_to
  have b_answer_to := F_answer_to.binds (ps := ["page", "call", "wholes", "row"]) fun _ _ _ _ _ _ us hl => match us, hl with | [_, _, _, _], _ => rfl
  have F_answers := fun_mk (st := s_answers) l_answers c_answers k_answers
  have b_answers := F_answers.binds (ps := ["calls"]) fun _ _ _ _ _ _ us hl => match us, hl with | [_], _ => rfl
  have T : Txt K mg C := { cl := ⟨pg, hd, po, sa⟩, a_columns := n_columns, a_numbers := n_numbers, a_sharp := n_sharp, a_within := n_within, a_without := n_without, g_LONGEST_SIDE := ⟨_, PySem.W.mg_of X G g_LONGEST_SIDE⟩, g_GREATEST_NUMBER := ⟨_, PySem.W.mg_of X G g_GREATEST_NUMBER⟩, g_NO_PLACE := ⟨_, PySem.W.mg_of X G g_NO_PLACE⟩, g_OUT_OF_BOUNDS := ⟨_, PySem.W.mg_of X G g_OUT_OF_BOUNDS⟩, g_OTHER_SIDE := ⟨_, PySem.W.mg_of X G g_OTHER_SIDE⟩, g_PAGE := ⟨_, PySem.W.mg_of X G g_PAGE⟩, g_SHARP := ⟨_, PySem.W.mg_of X G g_SHARP⟩, g_LIKE := ⟨_, PySem.W.mg_of X G g_LIKE⟩, g_STEPS := ⟨_, PySem.W.mg_of X G g_STEPS⟩, g_WITHIN := ⟨_, PySem.W.mg_of X G g_WITHIN⟩, g_WITHOUT := ⟨_, PySem.W.mg_of X G g_WITHOUT⟩, g_CUT := ⟨_, PySem.W.mg_of X G g_CUT⟩, g_WIDE := ⟨_, PySem.W.mg_of X G g_WIDE⟩, g_COST := ⟨_, PySem.W.mg_of X G g_COST⟩, g_PRICE := ⟨_, PySem.W.mg_of X G g_PRICE⟩, g_NO_SEEDS := ⟨_, PySem.W.mg_of X G g_NO_SEEDS⟩, g_GREATEST_PARTING := ⟨_, PySem.W.mg_of X G g_GREATEST_PARTING⟩, n_len := PySem.W.mg_none_of X G z_len, n_max := PySem.W.mg_none_of X G z_max, n_min := PySem.W.mg_none_of X G z_min, n_sum := PySem.W.mg_none_of X G z_sum, n_range := PySem.W.mg_none_of X G z_range, n_abs := PySem.W.mg_none_of X G z_abs, n_list := PySem.W.mg_none_of X G z_list, n_sorted := PySem.W.mg_none_of X G z_sorted, g_Page := PySem.W.mg_of X G gC, e_WHOLES := ⟨w_WHOLES, PySem.W.mg_of X G g_WHOLES, fun H => .inr ⟨_, it_WHOLES, nn_WHOLES, l_WHOLES, rfl, rfl, (by rw [← Array.length_toList, ← v_WHOLES.length]; decide), v_WHOLES⟩⟩, e_HAS_ROW := ⟨w_HAS_ROW, PySem.W.mg_of X G g_HAS_ROW, fun H => .inr ⟨_, it_HAS_ROW, nn_HAS_ROW, l_HAS_ROW, rfl, rfl, (by rw [← Array.length_toList, ← v_HAS_ROW.length]; decide), v_HAS_ROW⟩⟩ }
  refine ⟨PySem.W.fnOf "answers" "answers" (defArgs s_answers) (defBody s_answers) (defScope s_answers) .none kV_answers dc_answers pm_answers an_answers cd_answers ct_answers, fun s us hu => match us, hu with | [_], _ => .of_eq rfl, fun base _ _ => ?_⟩
  have D_is_side : DefAt P w K mg base 1 "is_side" ["length"] spIsSide f_is_side _ := ⟨ok_is_side F_is_side T, b_is_side, PySem.W.mg_of X G a_is_side, k_is_side⟩
  have D_is_cell : DefAt P w K mg base 1 "is_cell" ["page", "cell"] (spIsCell C) f_is_cell _ := ⟨ok_is_cell F_is_cell T, b_is_cell, PySem.W.mg_of X G a_is_cell, k_is_cell⟩
  have D_are_rising_cells : DefAt P w K mg base 2 "are_rising_cells" ["page", "cells"] (spRising C) f_are_rising_cells _ := ⟨ok_rising F_are_rising_cells T D_is_cell, b_are_rising_cells, PySem.W.mg_of X G a_are_rising_cells, k_are_rising_cells⟩
  have D_cells_beside : DefAt P w K mg base 1 "cells_beside" ["page", "cell"] (spBeside C) f_cells_beside _ := ⟨ok_beside F_cells_beside T, b_cells_beside, PySem.W.mg_of X G a_cells_beside, k_cells_beside⟩
  have D_difference : DefAt P w K mg base 1 "difference" ["page", "one", "other"] (spDiff C) f_difference _ := ⟨ok_diff F_difference T, b_difference, PySem.W.mg_of X G a_difference, k_difference⟩
  have D_cells_reached : DefAt P w K mg base 2 "cells_reached" ["page", "start", "bound", "by_steps"] (spReached C) f_cells_reached _ := ⟨ok_reached F_cells_reached T D_cells_beside D_difference, b_cells_reached, PySem.W.mg_of X G a_cells_reached, k_cells_reached⟩
  have D_parting : DefAt P w K mg base 2 "parting" ["page", "one", "other"] (spParting C) f_parting _ := ⟨ok_parting F_parting T D_difference, b_parting, PySem.W.mg_of X G a_parting, k_parting⟩
  have D_parted_pairs : DefAt P w K mg base 2 "parted_pairs" ["page", "region"] (spParted C) f_parted_pairs _ := ⟨ok_parted F_parted_pairs T D_cells_beside, b_parted_pairs, PySem.W.mg_of X G a_parted_pairs, k_parted_pairs⟩
  have D_cost_of : DefAt P w K mg base 3 "cost_of" ["page", "region"] (spCost C) f_cost_of _ := ⟨ok_cost F_cost_of T D_parting D_parted_pairs, b_cost_of, PySem.W.mg_of X G a_cost_of, k_cost_of⟩
  have D_whole_room : DefAt P w K mg base 3 "whole_room" ["page"] (spRoom C) f_whole_room _ := ⟨ok_room F_whole_room T D_parting D_cells_beside, b_whole_room, PySem.W.mg_of X G a_whole_room, k_whole_room⟩
  have D_reached_through : DefAt P w K mg base 1 "reached_through" ["room", "starts"] spThrough f_reached_through _ := ⟨ok_through F_reached_through T, b_reached_through, PySem.W.mg_of X G a_reached_through, k_reached_through⟩
  have D_way_with_room : DefAt P w K mg base 2 "way_with_room" ["room", "starts", "ends"] spWay f_way_with_room _ := ⟨ok_way F_way_with_room T D_reached_through, b_way_with_room, PySem.W.mg_of X G a_way_with_room, k_way_with_room⟩
  have D_lead_along : DefAt P w K mg base 1 "lead_along" ["room", "way"] spLead f_lead_along _ := ⟨ok_lead F_lead_along T, b_lead_along, PySem.W.mg_of X G a_lead_along, k_lead_along⟩
  have D_least_region : DefAt P w K mg base 4 "least_region" ["page", "own_seeds", "other_seeds"] (spLeast C) f_least_region _ := ⟨ok_least F_least_region T D_whole_room D_way_with_room D_lead_along D_reached_through, b_least_region, PySem.W.mg_of X G a_least_region, k_least_region⟩
  have D_greatest_region : DefAt P w K mg base 5 "greatest_region" ["page"] (spGreatest C) f_greatest_region _ := ⟨ok_greatest F_greatest_region T D_least_region, b_greatest_region, PySem.W.mg_of X G a_greatest_region, k_greatest_region⟩
  have D_put_page : DefAt P w K mg base 2 "put_page" ["page", "columns", "rows", "numbers"] (spPutPage C) f_put_page _ := ⟨ok_put_page F_put_page T D_is_side, b_put_page, PySem.W.mg_of X G a_put_page, k_put_page⟩
  have D_put_sharp : DefAt P w K mg base 1 "put_sharp" ["page", "sharp"] (spPutSharp C) f_put_sharp _ := ⟨ok_put_sharp F_put_sharp T, b_put_sharp, PySem.W.mg_of X G a_put_sharp, k_put_sharp⟩
  have D_choose : DefAt P w K mg base 3 "choose" ["page", "start", "bound", "by_steps"] (spChoose C) f_choose _ := ⟨ok_choose F_choose T D_is_cell D_cells_reached, b_choose, PySem.W.mg_of X G a_choose, k_choose⟩
  have D_seeds_answer : DefAt P w K mg base 3 "seeds_answer" ["page", "cells", "other_side"] (spSeeds C) f_seeds_answer _ := ⟨ok_seeds F_seeds_answer T D_are_rising_cells, b_seeds_answer, PySem.W.mg_of X G a_seeds_answer, k_seeds_answer⟩
  have D_put_within : DefAt P w K mg base 4 "put_within" ["page", "cells"] (spPutIns C) f_put_within _ := ⟨ok_put_ins F_put_within T D_seeds_answer, b_put_within, PySem.W.mg_of X G a_put_within, k_put_within⟩
  have D_put_without : DefAt P w K mg base 4 "put_without" ["page", "cells"] (spPutOuts C) f_put_without _ := ⟨ok_put_outs F_put_without T D_seeds_answer, b_put_without, PySem.W.mg_of X G a_put_without, k_put_without⟩
  have D_tell_region : DefAt P w K mg base 4 "tell_region" ["page", "region"] (spTellRegion C) f_tell_region _ := ⟨ok_tell_region F_tell_region T D_cost_of, b_tell_region, PySem.W.mg_of X G a_tell_region, k_tell_region⟩
  have D_tell_pairs : DefAt P w K mg base 1 "tell_pairs" ["pairs"] spTellPairs f_tell_pairs _ := ⟨ok_tell_pairs F_tell_pairs T, b_tell_pairs, PySem.W.mg_of X G a_tell_pairs, k_tell_pairs⟩
  have D_tell_cheapest : DefAt P w K mg base 6 "tell_cheapest" ["page", "call"] (spCheapest C) f_tell_cheapest _ := ⟨ok_cheapest F_tell_cheapest T D_tell_region D_greatest_region D_least_region D_tell_pairs D_parted_pairs, b_tell_cheapest, PySem.W.mg_of X G a_tell_cheapest, k_tell_cheapest⟩
  have D_tell_cost : DefAt P w K mg base 4 "tell_cost" ["page", "cells"] (spTellCost C) f_tell_cost _ := ⟨ok_tell_cost F_tell_cost T D_are_rising_cells D_cost_of, b_tell_cost, PySem.W.mg_of X G a_tell_cost, k_tell_cost⟩
  have D_tell_price : DefAt P w K mg base 3 "tell_price" ["page", "one", "other"] (spTellPrice C) f_tell_price _ := ⟨ok_tell_price F_tell_price T D_is_cell D_cells_beside D_parting, b_tell_price, PySem.W.mg_of X G a_tell_price, k_tell_price⟩
  have D_answer_to : DefAt P w K mg base 7 "answer_to" ["page", "call", "wholes", "row"] (spAnswerTo C) f_answer_to _ := ⟨ok_answer_to F_answer_to T D_put_page D_put_sharp D_choose D_put_within D_put_without D_tell_cost D_tell_price D_tell_cheapest, b_answer_to, PySem.W.mg_of X G a_answer_to, k_answer_to⟩
  exact ok_answers F_answers T ⟨ok_init F_init T, b_init, ⟨mk, a_init, i_init, kc⟩⟩ D_answer_to
end Cl
open PySem PySem.W PyProof.Rows
set_option maxRecDepth 100000 in
set_option maxHeartbeats 8000000 in
theorem PySem.Challenge.cw_cutbylikeness_s01_answers_holds : PySem.Challenge.rw_cutbylikeness_s01_answers.Holds := by
  w_on; k_headS; (case hw => exact ⟨[.list [.int 6]], by decide +kernel, by decide +kernel⟩)
  k_fillS
  refine L2.walk_specK (r := PySem.Challenge.rw_cutbylikeness_s01_answers) (k := 8) (CX := L2.CX0) (ps := ["calls"]) (sp := Cl.spAns) (by decide +kernel) rfl rfl ⟨rfl, by decide, by decide⟩ (fun w h Y => PySem.W.kIn_of Y) ?F ?S (fun _ _ _ _ z => z)
  case F =>
    intro w mg fa h Y KX G hmg
    refine' Cl.all_mk KX G hmg ?gC ?a_init ?i_init ?l_init ?c_init ?k_init ?pg ?hd ?po ?sa ?mk ?kc ?n_columns ?n_numbers ?n_sharp ?n_within ?n_without ?a_is_side ?l_is_side ?c_is_side ?k_is_side ?a_is_cell ?l_is_cell ?c_is_cell ?k_is_cell ?a_are_rising_cells ?l_are_rising_cells ?c_are_rising_cells ?k_are_rising_cells ?a_cells_beside ?l_cells_beside ?c_cells_beside ?k_cells_beside ?a_difference ?l_difference ?c_difference ?k_difference ?a_cells_reached ?l_cells_reached ?c_cells_reached ?k_cells_reached ?a_parting ?l_parting ?c_parting ?k_parting ?a_parted_pairs ?l_parted_pairs ?c_parted_pairs ?k_parted_pairs ?a_cost_of ?l_cost_of ?c_cost_of ?k_cost_of ?a_whole_room ?l_whole_room ?c_whole_room ?k_whole_room ?a_reached_through ?l_reached_through ?c_reached_through ?k_reached_through ?a_way_with_room ?l_way_with_room ?c_way_with_room ?k_way_with_room ?a_lead_along ?l_lead_along ?c_lead_along ?k_lead_along ?a_least_region ?l_least_region ?c_least_region ?k_least_region ?a_greatest_region ?l_greatest_region ?c_greatest_region ?k_greatest_region ?a_put_page ?l_put_page ?c_put_page ?k_put_page ?a_put_sharp ?l_put_sharp ?c_put_sharp ?k_put_sharp ?a_choose ?l_choose ?c_choose ?k_choose ?a_seeds_answer ?l_seeds_answer ?c_seeds_answer ?k_seeds_answer ?a_put_within ?l_put_within ?c_put_within ?k_put_within ?a_put_without ?l_put_without ?c_put_without ?k_put_without ?a_tell_region ?l_tell_region ?c_tell_region ?k_tell_region ?a_tell_pairs ?l_tell_pairs ?c_tell_pairs ?k_tell_pairs ?a_tell_cheapest ?l_tell_cheapest ?c_tell_cheapest ?k_tell_cheapest ?a_tell_cost ?l_tell_cost ?c_tell_cost ?k_tell_cost ?a_tell_price ?l_tell_price ?c_tell_price ?k_tell_price ?a_answer_to ?l_answer_to ?c_answer_to ?k_answer_to ?a_answers ?l_answers ?c_answers ?k_answers ?g_PAGE ?g_SHARP ?g_LIKE ?g_STEPS ?g_WITHIN ?g_WITHOUT ?g_CUT ?g_WIDE ?g_COST ?g_PRICE ?g_WHOLES ?l_WHOLES ?v_WHOLES ?g_HAS_ROW ?l_HAS_ROW ?v_HAS_ROW ?g_NO_PLACE ?g_OUT_OF_BOUNDS ?g_NO_SEEDS ?g_OTHER_SIDE ?g_LONGEST_SIDE ?g_GREATEST_NUMBER ?g_GREATEST_PARTING ?z_len ?z_abs ?z_list ?z_sorted ?z_max ?z_min ?z_sum ?z_range
    (case gC => k_is)
    (case a_init => k_is)
    (case i_init => k_is)
    (case l_init => k_is)
    (case c_init => k_is)
    (case k_init => k_is)
    (case pg => k_is)
    (case hd => k_is)
    (case po => k_is)
    (case sa => k_is)
    (case mk => k_is)
    (case kc => k_is)
    (case n_columns => k_is)
    (case n_numbers => k_is)
    (case n_sharp => k_is)
    (case n_within => k_is)
    (case n_without => k_is)
    (case a_is_side => k_is)
    (case l_is_side => k_is)
    (case c_is_side => k_is)
    (case k_is_side => k_is)
    (case a_is_cell => k_is)
    (case l_is_cell => k_is)
    (case c_is_cell => k_is)
    (case k_is_cell => k_is)
    (case a_are_rising_cells => k_is)
    (case l_are_rising_cells => k_is)
    (case c_are_rising_cells => k_is)
    (case k_are_rising_cells => k_is)
    (case a_cells_beside => k_is)
    (case l_cells_beside => k_is)
    (case c_cells_beside => k_is)
    (case k_cells_beside => k_is)
    (case a_difference => k_is)
    (case l_difference => k_is)
    (case c_difference => k_is)
    (case k_difference => k_is)
    (case a_cells_reached => k_is)
    (case l_cells_reached => k_is)
    (case c_cells_reached => k_is)
    (case k_cells_reached => k_is)
    (case a_parting => k_is)
    (case l_parting => k_is)
    (case c_parting => k_is)
    (case k_parting => k_is)
    (case a_parted_pairs => k_is)
    (case l_parted_pairs => k_is)
    (case c_parted_pairs => k_is)
    (case k_parted_pairs => k_is)
    (case a_cost_of => k_is)
    (case l_cost_of => k_is)
    (case c_cost_of => k_is)
    (case k_cost_of => k_is)
    (case a_whole_room => k_is)
    (case l_whole_room => k_is)
    (case c_whole_room => k_is)
    (case k_whole_room => k_is)
    (case a_reached_through => k_is)
    (case l_reached_through => k_is)
    (case c_reached_through => k_is)
    (case k_reached_through => k_is)
    (case a_way_with_room => k_is)
    (case l_way_with_room => k_is)
    (case c_way_with_room => k_is)
    (case k_way_with_room => k_is)
    (case a_lead_along => k_is)
    (case l_lead_along => k_is)
    (case c_lead_along => k_is)
    (case k_lead_along => k_is)
    (case a_least_region => k_is)
    (case l_least_region => k_is)
    (case c_least_region => k_is)
    (case k_least_region => k_is)
    (case a_greatest_region => k_is)
    (case l_greatest_region => k_is)
    (case c_greatest_region => k_is)
    (case k_greatest_region => k_is)
    (case a_put_page => k_is)
    (case l_put_page => k_is)
    (case c_put_page => k_is)
    (case k_put_page => k_is)
    (case a_put_sharp => k_is)
    (case l_put_sharp => k_is)
    (case c_put_sharp => k_is)
    (case k_put_sharp => k_is)
    (case a_choose => k_is)
    (case l_choose => k_is)
    (case c_choose => k_is)
    (case k_choose => k_is)
    (case a_seeds_answer => k_is)
    (case l_seeds_answer => k_is)
    (case c_seeds_answer => k_is)
    (case k_seeds_answer => k_is)
    (case a_put_within => k_is)
    (case l_put_within => k_is)
    (case c_put_within => k_is)
    (case k_put_within => k_is)
    (case a_put_without => k_is)
    (case l_put_without => k_is)
    (case c_put_without => k_is)
    (case k_put_without => k_is)
    (case a_tell_region => k_is)
    (case l_tell_region => k_is)
    (case c_tell_region => k_is)
    (case k_tell_region => k_is)
    (case a_tell_pairs => k_is)
    (case l_tell_pairs => k_is)
    (case c_tell_pairs => k_is)
    (case k_tell_pairs => k_is)
    (case a_tell_cheapest => k_is)
    (case l_tell_cheapest => k_is)
    (case c_tell_cheapest => k_is)
    (case k_tell_cheapest => k_is)
    (case a_tell_cost => k_is)
    (case l_tell_cost => k_is)
    (case c_tell_cost => k_is)
    (case k_tell_cost => k_is)
    (case a_tell_price => k_is)
    (case l_tell_price => k_is)
    (case c_tell_price => k_is)
    (case k_tell_price => k_is)
    (case a_answer_to => k_is)
    (case l_answer_to => k_is)
    (case c_answer_to => k_is)
    (case k_answer_to => k_is)
    (case a_answers => k_is)
    (case l_answers => k_is)
    (case c_answers => k_is)
    (case k_answers => k_is)
    (case g_PAGE => k_is)
    (case g_SHARP => k_is)
    (case g_LIKE => k_is)
    (case g_STEPS => k_is)
    (case g_WITHIN => k_is)
    (case g_WITHOUT => k_is)
    (case g_CUT => k_is)
    (case g_WIDE => k_is)
    (case g_COST => k_is)
    (case g_PRICE => k_is)
    (case g_WHOLES => k_is)
    (case l_WHOLES => k_is)
    (case v_WHOLES => exact (.cons ⟨_, rfl⟩ (.cons ⟨_, rfl⟩ (.cons ⟨_, rfl⟩ (.cons ⟨_, rfl⟩ (.cons ⟨_, rfl⟩ (.cons ⟨_, rfl⟩ (.cons ⟨_, rfl⟩ (.cons ⟨_, rfl⟩ (.cons ⟨_, rfl⟩ (.cons ⟨_, rfl⟩ (.cons ⟨_, rfl⟩ .nil))))))))))))
    (case g_HAS_ROW => k_is)
    (case l_HAS_ROW => k_is)
    (case v_HAS_ROW => exact (.cons rfl (.cons rfl (.cons rfl (.cons rfl (.cons rfl (.cons rfl (.cons rfl (.cons rfl (.cons rfl (.cons rfl (.cons rfl .nil))))))))))))
    (case g_NO_PLACE => k_is)
    (case g_OUT_OF_BOUNDS => k_is)
    (case g_NO_SEEDS => k_is)
    (case g_OTHER_SIDE => k_is)
    (case g_LONGEST_SIDE => k_is)
    (case g_GREATEST_NUMBER => k_is)
    (case g_GREATEST_PARTING => k_is)
    (case z_len => k_is)
    (case z_abs => k_is)
    (case z_list => k_is)
    (case z_sorted => k_is)
    (case z_max => k_is)
    (case z_min => k_is)
    (case z_sum => k_is)
    (case z_range => k_is)
  case S =>
    intro K H xs a hO hwi hask hx
    cases hx with
    | cons h1 h2 =>
      cases h2
      cases h1 with
      | lst hs ha =>
        have e := L2.ints_dw a.1 _ ha
        subst e
        have q : ((Codec.inLen 0 1360 a.1 && a.1.all (Codec.inInt 0 4294967295)) && true) = true := hwi
        rw [Bool.and_eq_true, Bool.and_eq_true] at q
        refine ⟨_, a.1, rfl, hs, (Codec.inNat_iff.mp q.1.1).2, ?_, ?_, fun H' p hp => .lst (L2.SqL.of hp) (L2.dw_ints _)⟩
        · intro x hx
          have := List.all_eq_true.mp q.1.2 x hx
          exact Codec.inInt_iff.mp this
        · exact hask
#print axioms PySem.Challenge.cw_cutbylikeness_s01_answers_holds
