import PyProof.Rows.All
import Wide.All
import OpenK.AllK
import Wide.FinOn
import Lean
import KE.KSortTup
import PyProof.EqAt
import PyProof.EqKinds
import PyProof.TupleCall
import PyProof.Rows.SortShell
import PyProof.Rows.SortWalk
import PyProof.TupleOfSeq
import PyProof.TupleOfGen
import PyProof.ListRange
import PyProof.Draws
import PyProof.EnumMake
import PyProof.EnumFor
import PyProof.TupleIter
import PyProof.DictDisplay
import PyProof.DictTable
import PyProof.DictFindH
import KE.KDictSum
import KE.KRevIter
import PyProof.Rows.SeqMore2
import PyProof.Rows.CountFlat
import PyProof.RulesAs
import KE.KIsAll
import PyProof.ExcArgsOwn
import PyProof.ExcAttrAll.ValueError
import PyProof.CollectIter
import PyProof.CallType
import PyProof.Rows.Tup
import PySem.Challenge.RW_seatturn_k09_refused
set_option Elab.async false
set_option linter.all false
set_option maxRecDepth 100000
set_option maxHeartbeats 4000000
/-! ### the sorting of fewer than 64 items puts things of different ranks in their order -/
namespace L2
open PySem PySem.W PyProof.Rows
abbrev pat (p : Array Nat) (k : Nat) : Nat := p.getD k 0
theorem pat_of {p q : Array Nat} {k j : Nat} (h : p[k]? = q[j]?) : pat p k = pat q j := by
  unfold pat
  rw [Array.getD_eq_getD_getElem?, Array.getD_eq_getD_getElem?, h]
structure Pm (n : Nat) (p : Array Nat) : Prop where
  pm : p.Perm (List.range n).toArray
theorem Pm.size {n : Nat} {p : Array Nat} (h : Pm n p) : p.size = n := by
  have := h.pm.size_eq
  simpa using this
theorem Pm.toList {n : Nat} {p : Array Nat} (h : Pm n p) : p.toList.Perm (List.range n) := by
  have := h.pm.toList
  simpa using this
theorem Pm.get {n : Nat} {p : Array Nat} (h : Pm n p) {k : Nat} (hk : k < n) : p.toList[k]? = some (pat p k) := by
  have hs : k < p.size := by rw [h.size]; exact hk
  unfold pat
  rw [Array.getElem?_toList, Array.getD_eq_getD_getElem?, Array.getElem?_eq_getElem hs]
  rfl
theorem Pm.lt {n : Nat} {p : Array Nat} (h : Pm n p) {k : Nat} (hk : k < n) : pat p k < n :=
  List.mem_range.mp (h.toList.mem_iff.mp (List.mem_of_getElem? (h.get hk)))
theorem Pm.inj {n : Nat} {p : Array Nat} (h : Pm n p) {i j : Nat} (hi : i < n) (hj : j < n) (e : pat p i = pat p j) : i = j := by
  have nd : p.toList.Nodup := h.toList.nodup_iff.mpr List.nodup_range
  have hz : p.toList.length = n := by rw [Array.length_toList, h.size]
  exact (List.getElem?_inj (by omega) nd).mp ((h.get hi).trans (e ▸ (h.get hj).symm))
section
variable {n : Nat} {r : Nat → Int} {I : Shared → Prop} {cmp : Nat → Nat → (Bool → Shared → Prop) → Shared → Prop}
def Asc (r : Nat → Int) (p : Array Nat) (m : Nat) : Prop := ∀ i j, i < j → j < m → r (pat p i) < r (pat p j)
def Dsc (r : Nat → Int) (p : Array Nat) (m : Nat) : Prop := ∀ i j, i < j → j < m → r (pat p j) < r (pat p i)
/-- the question is answered by the ranks -/
def Asks (n : Nat) (r : Nat → Int) (I : Shared → Prop) (cmp : Nat → Nat → (Bool → Shared → Prop) → Shared → Prop) : Prop :=
  ∀ i j C s, i < n → j < n → I s → (∀ s', I s' → C (decide (r i < r j)) s') → cmp i j C s
theorem Asc.snoc {p : Array Nat} {m : Nat} (h : Asc r p m) (h1 : 1 ≤ m) (l : r (pat p (m - 1)) < r (pat p m)) : Asc r p (m + 1) := fun i j hij hj => by
  rcases Nat.lt_or_ge j m with z | z
  · exact h i j hij z
  · obtain rfl : j = m := by omega
    rcases Nat.lt_or_ge i (j - 1) with y | y
    · have := h i (j - 1) y (by omega); omega
    · obtain rfl : i = j - 1 := by omega
      exact l
theorem Dsc.snoc {p : Array Nat} {m : Nat} (h : Dsc r p m) (h1 : 1 ≤ m) (l : r (pat p m) < r (pat p (m - 1))) : Dsc r p (m + 1) := fun i j hij hj => by
  rcases Nat.lt_or_ge j m with z | z
  · exact h i j hij z
  · obtain rfl : j = m := by omega
    rcases Nat.lt_or_ge i (j - 1) with y | y
    · have := h i (j - 1) y (by omega); omega
    · obtain rfl : i = j - 1 := by omega
      exact l
theorem ranks_ne {p : Array Nat} (P : Pm n p) (inj : ∀ i j, i < n → j < n → r i = r j → i = j) {i j : Nat} (hi : i < n) (hj : j < n) (ne : i ≠ j) : r (pat p i) ≠ r (pat p j) := fun e =>
  ne (P.inj hi hj (inj _ _ (P.lt hi) (P.lt hj) e))
theorem asc_go (ask : Asks n r I cmp) (inj : ∀ i j, i < n → j < n → r i = r j → i = j) {p : Array Nat} (P : Pm n p) {G : Nat → Shared → Prop} : ∀ (f a : Nat) (s : Shared), 1 ≤ a → a + f = n → Asc r p a → I s →
    (∀ m s', a ≤ m → m ≤ n → Asc r p m → (m = n ∨ r (pat p m) < r (pat p (m - 1))) → I s' → G m s') → (kas_asc p f a).kasWp cmp G s
  | 0, a, s, h1, h2, A, i, k => k a s (Nat.le_refl _) (by omega) A (.inl (by omega)) i
  | f + 1, a, s, h1, h2, A, i, k => by
    refine ask _ _ _ s (P.lt (by omega)) (P.lt (by omega)) i fun s' i' => ?_
    by_cases c : r (pat p a) < r (pat p (a - 1))
    · rw [decide_eq_true c]
      dsimp only
      rw [if_pos rfl]
      exact k a s' (Nat.le_refl _) (by omega) A (.inr c) i'
    · rw [decide_eq_false c]
      dsimp only
      rw [if_neg Bool.false_ne_true]
      have ne := ranks_ne P inj (i := a) (j := a - 1) (by omega) (by omega) (by omega)
      exact asc_go ask inj P f (a + 1) s' (by omega) (by omega) (A.snoc h1 (by omega)) i' fun m s2 b1 b2 => k m s2 (by omega) b2
theorem desc_go (ask : Asks n r I cmp) (inj : ∀ i j, i < n → j < n → r i = r j → i = j) {p : Array Nat} (P : Pm n p) {G : Array Nat × Nat × Nat → Shared → Prop} : ∀ (f a : Nat) (s : Shared), 1 ≤ a → a + f = n → Dsc r p a → I s →
    (∀ m s', a ≤ m → m ≤ n → Dsc r p m → I s' → G (p, m, 0) s') → (kas_desc f p a 0).kasWp cmp G s
  | 0, a, s, h1, h2, A, i, k => k a s (Nat.le_refl _) (by omega) A i
  | f + 1, a, s, h1, h2, A, i, k => by
    refine ask _ _ _ s (P.lt (by omega)) (P.lt (by omega)) i fun s' i' => ?_
    by_cases c : r (pat p a) < r (pat p (a - 1))
    · rw [decide_eq_true c]
      dsimp only
      rw [if_pos rfl, if_neg (Nat.lt_irrefl 0)]
      exact desc_go ask inj P f (a + 1) s' (by omega) (by omega) (A.snoc h1 c) i' fun m s2 b1 b2 => k m s2 (by omega) b2
    · rw [decide_eq_false c]
      dsimp only
      rw [if_neg Bool.false_ne_true]
      have ne := ranks_ne P inj (i := a) (j := a - 1) (by omega) (by omega) (by omega)
      refine ask _ _ _ s' (P.lt (by omega)) (P.lt (by omega)) i' fun s2 i2 => ?_
      rw [decide_eq_true (show r (p.getD (a - 1) 0) < r (p.getD a 0) by have : ¬ r (p.getD a 0) < r (p.getD (a - 1) 0) := c; have : r (p.getD a 0) ≠ r (p.getD (a - 1) 0) := ne; omega)]
      dsimp only
      rw [if_pos rfl]
      exact k a s2 (Nat.le_refl _) (by omega) A i2
theorem rev_pm {p : Array Nat} (P : Pm n p) (m : Nat) : Pm n (kas_rev p 0 m) := ⟨(mirror_perm p 0 m _).trans P.pm⟩
theorem rev_at {p : Array Nat} (P : Pm n p) {m k : Nat} (hm : m ≤ n) (hk : k < m) : pat (kas_rev p 0 m) k = pat p (m - 1 - k) := by
  refine pat_of ?_
  unfold kas_rev
  rw [getElem?_mirror_all (by rw [P.size]; exact hm), if_pos ⟨Nat.zero_le _, hk⟩]
  congr 1
  omega
theorem Dsc.rev {p : Array Nat} (P : Pm n p) {m : Nat} (hm : m ≤ n) (D : Dsc r p m) : Asc r (kas_rev p 0 m) m := fun i j hij hj => by
  rw [rev_at P hm (by omega), rev_at P hm hj]
  exact D _ _ (by omega) (by omega)
theorem count_go (ask : Asks n r I cmp) (inj : ∀ i j, i < n → j < n → r i = r j → i = j) {p : Array Nat} (P : Pm n p) (h1 : 1 ≤ n) {G : Nat × Array Nat → Shared → Prop} {s : Shared} (i : I s)
    (k : ∀ m p' s', 1 ≤ m → m ≤ n → Pm n p' → Asc r p' m → I s' → G (m, p') s') : (kas_count n p).kasWp cmp G s := by
  unfold kas_count
  rw [KasT.kasWp_bind]
  refine asc_go ask inj P (n - 1) 1 s (Nat.le_refl _) (by omega) (fun a b c d => by omega) i fun m s1 b1 b2 A hm i1 => ?_
  by_cases c1 : (m == n) = true
  · rw [if_pos c1]
    exact k m p s1 b1 b2 P A i1
  rw [if_neg c1]
  have ne : m ≠ n := fun z => c1 (by rw [z]; exact beq_self_eq_true _)
  by_cases c2 : m > 1
  · rw [if_pos c2]
    refine ask _ _ _ s1 (P.lt (by omega)) (P.lt (by omega)) i1 fun s2 i2 => ?_
    have l := A 0 (m - 1) (by omega) (by omega)
    rw [decide_eq_true (show r (p.getD 0 0) < r (p.getD (m - 1) 0) from l)]
    dsimp only
    rw [if_pos rfl]
    exact k m p s2 b1 b2 P A i2
  · rw [if_neg c2]
    obtain rfl : m = 1 := by omega
    have l : r (pat p 1) < r (pat p 0) := by
      rcases hm with z | z
      · exact absurd z ne
      · exact z
    unfold kas_descPart
    rw [KasT.kasWp_bind]
    refine desc_go ask inj P (n - 2) 2 s1 (by omega) (by omega) (fun a b c d => ?_) i1 fun m s2 d1 d2 D i2 => ?_
    · obtain ⟨rfl, rfl⟩ : a = 0 ∧ b = 1 := by omega
      exact l
    · dsimp only
      rw [if_neg (Nat.lt_irrefl 0)]
      unfold kas_tail3
      rw [KasT.kasWp_bind]
      exact asc_go ask inj (rev_pm P m) (n - m) m s2 (by omega) (by omega) (D.rev P d2) i2 fun m' s3 e1 e2 A3 _ i3 => k m' _ s3 (by omega) e2 (rev_pm P m) A3 i3
theorem place_go (ask : Asks n r I cmp) (inj : ∀ i j, i < n → j < n → r i = r j → i = j) {p : Array Nat} (P : Pm n p) {k : Nat} (hk : k < n) (A : Asc r p k) {G : Nat → Shared → Prop}
    (fin : ∀ l s', l ≤ k → (∀ x, x < l → r (pat p x) < r (pat p k)) → (∀ x, l ≤ x → x < k → r (pat p k) < r (pat p x)) → I s' → G l s') :
    ∀ (f l t : Nat) (s : Shared), l ≤ t → t ≤ k → t - l ≤ f → (∀ x, x < l → r (pat p x) < r (pat p k)) → (∀ x, t ≤ x → x < k → r (pat p k) < r (pat p x)) → I s → (kas_place p k f l t).kasWp cmp G s
  | 0, l, t, s, h1, h2, h3, a, b, i => fin l s (by omega) a (fun x hx => b x (by omega)) i
  | f + 1, l, t, s, h1, h2, h3, a, b, i => by
    unfold kas_place
    by_cases c : l ≥ t
    · rw [if_pos c]
      exact fin l s (by omega) a (fun x hx => b x (by omega)) i
    rw [if_neg c]
    refine ask _ _ _ s (P.lt hk) (P.lt (by omega)) i fun s' i' => ?_
    by_cases c2 : r (pat p k) < r (pat p ((l + t) / 2))
    · rw [decide_eq_true c2]
      dsimp only
      rw [if_pos rfl]
      refine place_go ask inj P hk A fin f l ((l + t) / 2) s' (by omega) (by omega) (by omega) a (fun x hx hk' => ?_) i'
      rcases Nat.eq_or_lt_of_le hx with z | z
      · rw [← z]; exact c2
      · have := A _ _ z hk'; omega
    · rw [decide_eq_false c2]
      dsimp only
      rw [if_neg Bool.false_ne_true]
      have ne := ranks_ne P inj (i := k) (j := (l + t) / 2) hk (by omega) (by omega)
      refine place_go ask inj P hk A fin f ((l + t) / 2 + 1) t s' (by omega) h2 (by omega) (fun x hx => ?_) b i'
      rcases Nat.eq_or_lt_of_le (Nat.le_of_lt_succ hx) with z | z
      · rw [z]; omega
      · have := A _ _ z (by omega); omega
theorem bub_pm {p : Array Nat} (P : Pm n p) (k d : Nat) : Pm n (bubble p k d) := ⟨(bubble_perm p k d).trans P.pm⟩
theorem bub_asc {p : Array Nat} (P : Pm n p) {k l : Nat} (hk : k < n) (hl : l ≤ k) (A : Asc r p k) (a : ∀ x, x < l → r (pat p x) < r (pat p k)) (b : ∀ x, l ≤ x → x < k → r (pat p k) < r (pat p x)) : Asc r (bubble p k (k - l)) (k + 1) := by
  have g : ∀ x, x ≤ k → pat (bubble p k (k - l)) x = if x < l then pat p x else if x = l then pat p k else pat p (x - 1) := fun x hx => by
    have e := getElem?_bubble (xs := p) (src := k) (by rw [P.size]; exact hk) (k - l) (by omega) x
    rw [show k - (k - l) = l by omega] at e
    by_cases c1 : x < l
    · rw [if_pos c1]
      rw [if_neg (by omega), if_neg (by omega)] at e
      exact pat_of e
    rw [if_neg c1]
    by_cases c2 : x = l
    · rw [if_pos c2]
      rw [if_pos c2] at e
      exact pat_of e
    · rw [if_neg c2]
      rw [if_neg c2, if_pos (by omega)] at e
      exact pat_of e
  intro i j hij hj
  rw [g i (by omega), g j (by omega)]
  by_cases c1 : j < l
  · rw [if_pos (by omega), if_pos c1]
    exact A _ _ hij (by omega)
  rw [if_neg c1]
  by_cases c2 : j = l
  · rw [if_pos c2, if_pos (by omega)]
    exact a i (by omega)
  rw [if_neg c2]
  by_cases c3 : i < l
  · rw [if_pos c3]
    exact A _ _ (by omega) (by omega)
  rw [if_neg c3]
  by_cases c4 : i = l
  · rw [if_pos c4]
    exact b _ (by omega) (by omega)
  · rw [if_neg c4]
    exact A _ _ (by omega) (by omega)
theorem bin_go (ask : Asks n r I cmp) (inj : ∀ i j, i < n → j < n → r i = r j → i = j) {G : Array Nat → Shared → Prop} (fin : ∀ p s', Pm n p → Asc r p n → I s' → G p s') :
    ∀ (f : Nat) (p : Array Nat) (k : Nat) (s : Shared), k + f = n → Pm n p → Asc r p k → I s → (kas_bin f p k).kasWp cmp G s
  | 0, p, k, s, h, P, A, i => by
    obtain rfl : k = n := by omega
    exact fin p s P A i
  | f + 1, p, k, s, h, P, A, i => by
    unfold kas_bin
    rw [KasT.kasWp_bind]
    exact place_go ask inj P (by omega) A (fun l s' hl a b i' => bin_go ask inj fin f _ (k + 1) s' (by omega) (bub_pm P _ _) (bub_asc P (by omega) hl A a b) i') k 0 k s (Nat.zero_le _) (Nat.le_refl _) (by omega) (fun x hx => by omega) (fun x h1 h2 => by omega) i
theorem kas_sort_go (ask : Asks n r I cmp) (inj : ∀ i j, i < n → j < n → r i = r j → i = j) (h1 : 1 ≤ n) {G : Array Nat → Shared → Prop} {s : Shared} (i : I s) (fin : ∀ p s', Pm n p → Asc r p n → I s' → G p s') : (kas_sort n).kasWp cmp G s := by
  unfold kas_sort
  rw [KasT.kasWp_bind]
  refine count_go ask inj ⟨Array.Perm.refl _⟩ h1 i fun m p s1 b1 b2 P A i1 => ?_
  dsimp only
  by_cases c : m < n
  · rw [if_pos c]
    rw [show max m 1 = m by omega]
    exact bin_go ask inj fin (n - m) p m s1 (by omega) P A i1
  · rw [if_neg c]
    obtain rfl : m = n := by omega
    exact fin p s1 P A i1
end
end L2

set_option Elab.async false
set_option linter.all false
set_option maxRecDepth 100000
namespace L2
open PySem PySem.Spec PyProof.Rows

/-- a key: an int or a str -/
abbrev Key := Sum Int Str
def keyIs : Key → Value → Bool
  | .inl k, v => Value.isInt k v
  | .inr x, v => Value.isStrOf x v
def keyH (w : World) : Key → Int
  | .inl k => hashInt k
  | .inr x => hashStr w x
theorem keyIs_shape : ∀ {k : Key} {v : Value}, keyIs k v = true → (∃ i t, k = Sum.inl i ∧ v = Value.int i t) ∨ (∃ x t, k = Sum.inr x ∧ v = Value.str x t)
  | .inl i, v, h => by
    obtain ⟨t, e⟩ := Value.isInt_shape (k := i) (v := v) h
    exact .inl ⟨i, t, rfl, e⟩
  | .inr x, v, h => by
    obtain ⟨t, e⟩ := Value.isStrOf_shape (x := x) (v := v) h
    exact .inr ⟨x, t, rfl, e⟩
theorem keyIs_int (i : Int) (t : Tok) : keyIs (.inl i) (.int i t) = true := by simp [keyIs, Value.isInt]
theorem keyIs_str (x : Str) (t : Tok) : keyIs (.inr x) (.str x t) = true := by simp [keyIs, Value.isStrOf]
theorem key_ll (a b : Int) : decide ((Sum.inl a : Key) = Sum.inl b) = (a == b) := by
  by_cases e : a = b
  · subst e; simp
  · have h : ¬ (Sum.inl a : Key) = Sum.inl b := fun q => e (Sum.inl.inj q)
    rw [decide_eq_false h]
    exact (beq_eq_false_iff_ne.mpr e).symm
theorem key_rr (a b : Str) : decide ((Sum.inr a : Key) = Sum.inr b) = decide (a = b) := by
  by_cases e : a = b
  · subst e; simp
  · have h : ¬ (Sum.inr a : Key) = Sum.inr b := fun q => e (Sum.inr.inj q)
    rw [decide_eq_false h, decide_eq_false e]
theorem key_lr (a : Int) (b : Str) : decide ((Sum.inl a : Key) = Sum.inr b) = false := decide_eq_false (fun q => nomatch q)
theorem key_rl (a : Str) (b : Int) : decide ((Sum.inr a : Key) = Sum.inl b) = false := decide_eq_false (fun q => nomatch q)

def mixKind (prog : Program) (w : World) : PySem.KeyKind prog w Key where
  is := keyIs
  hash := keyH w
  inj := fun v a b ha hb => by
    rcases keyIs_shape ha with ⟨i, t, rfl, rfl⟩ | ⟨x, t, rfl, rfl⟩
    · rcases keyIs_shape hb with ⟨j, u, rfl, e⟩ | ⟨y, u, rfl, e⟩
      · injection e with e1 _; rw [e1]
      · exact nomatch e
    · rcases keyIs_shape hb with ⟨j, u, rfl, e⟩ | ⟨y, u, rfl, e⟩
      · exact nomatch e
      · injection e with e1 _; rw [e1]
  byValue := fun k v h => by
    rcases keyIs_shape h with ⟨i, t, rfl, rfl⟩ | ⟨x, t, rfl, rfl⟩ <;> rfl
  pyHash := fun hv h => by
    rcases keyIs_shape hv with ⟨i, t, rfl, rfl⟩ | ⟨x, t, rfl, rfl⟩
    · exact wpAny_pyHash_int h
    · exact wpAny_pyHash_str h
  eqBool := fun hu hv h => by
    rcases keyIs_shape hu with ⟨i, t, rfl, rfl⟩ | ⟨x, t, rfl, rfl⟩
    · rcases keyIs_shape hv with ⟨j, u, rfl, rfl⟩ | ⟨y, u, rfl, rfl⟩
      · rw [key_ll] at h; exact wpAny_eqBool_int h
      · rw [key_lr] at h; exact SeqAt.EqAt.int_str i t y u _ _ _ _ h
    · rcases keyIs_shape hv with ⟨j, u, rfl, rfl⟩ | ⟨y, u, rfl, rfl⟩
      · rw [key_rl] at h; exact SeqAt.EqAt.str_int x t j u _ _ _ _ h
      · rw [key_rr] at h; exact wpAny_eqBool_str h
  «strs» := fun k x t v h => by
    rcases keyIs_shape h with ⟨i, u, rfl, e⟩ | ⟨y, u, rfl, e⟩
    · exact nomatch e
    · injection e with e1 _
      subst e1
      cases v <;> rfl

theorem mixKind_is (prog : Program) (w : World) (k : Key) (v : Value) : (mixKind prog w).is k v = keyIs k v := rfl
theorem mixKind_int (prog : Program) (w : World) (i : Int) (t : Tok) : (mixKind prog w).is (.inl i) (.int i t) = true := keyIs_int i t
theorem mixKind_str (prog : Program) (w : World) (x : Str) (t : Tok) : (mixKind prog w).is (.inr x) (.str x t) = true := keyIs_str x t
end L2

namespace L2
open PySem PySem.Spec PyProof.Rows

/-- a value, without the heap -/
inductive V where
  | non | bl (b : Bool) | int (i : Int) | str (x : Str) | byt (b : Array UInt8) | flt (b : UInt64) | ref (a : Addr) | ty (n : String)
  deriving DecidableEq

def RelV : V → Value → Prop
  | .non, u => u = Value.none
  | .bl b, u => u = Value.bool b
  | .int i, u => ∃ t, u = Value.int i t
  | .str x, u => ∃ t, u = Value.str x t
  | .byt b, u => ∃ t, u = Value.bytes b t
  | .flt b, u => ∃ t, u = Value.float b t
  | .ref a, u => u = Value.ref a
  | .ty n, u => u = Value.type n

abbrev Vals : List V → List Value → Prop := Paired RelV
theorem Vals.length {xs : List V} {us : List Value} (r : Vals xs us) : xs.length = us.length := Paired.length r
theorem Vals.get : ∀ {xs : List V} {us : List Value} {i : Nat} {x : V}, Vals xs us → xs[i]? = some x → ∃ u, us[i]? = some u ∧ RelV x u
  | _, _, _, _, .nil, e => by simp at e
  | _, _, 0, _, .cons r _, e => by simp at e; subst e; exact ⟨_, rfl, r⟩
  | _, _, i + 1, x, .cons _ t, e => by
    obtain ⟨u, h1, h2⟩ := Vals.get (i := i) (x := x) t (by simpa using e)
    exact ⟨u, by simpa using h1, h2⟩
theorem Vals.set {x : V} {u : Value} (r : RelV x u) : ∀ {xs : List V} {us : List Value} (i : Nat), Vals xs us → Vals (xs.set i x) (us.set i u)
  | _, _, _, .nil => .nil
  | _, _, 0, .cons _ t => .cons r t
  | _, _, i + 1, .cons q t => .cons q (Vals.set r i t)
theorem Vals.append : ∀ {xs ys : List V} {us ws : List Value}, Vals xs us → Vals ys ws → Vals (xs ++ ys) (us ++ ws)
  | _, _, _, _, .nil, s => s
  | _, _, _, _, .cons r t, s => .cons r (Vals.append t s)
theorem Vals.take : ∀ {xs : List V} {us : List Value} (n : Nat), Vals xs us → Vals (xs.take n) (us.take n)
  | _, _, 0, _ => .nil
  | _, _, _ + 1, .nil => .nil
  | _, _, n + 1, .cons r t => .cons r (Vals.take n t)
theorem Vals.drop : ∀ {xs : List V} {us : List Value} (n : Nat), Vals xs us → Vals (xs.drop n) (us.drop n)
  | _, _, 0, r => r
  | _, _, _ + 1, .nil => .nil
  | _, _, n + 1, .cons _ t => Vals.drop n t
theorem Vals.none_of : ∀ {xs : List V} {us : List Value} {i : Nat}, Vals xs us → xs[i]? = none → us[i]? = none := fun {xs us i} r e => by
  have h1 := r.length
  have h2 : xs.length ≤ i := List.getElem?_eq_none_iff.mp e
  exact List.getElem?_eq_none_iff.mpr (by omega)

def RelO : Option V → Option Value → Prop
  | some v, some u => RelV v u
  | none, none => True
  | _, _ => False
def KV {κ : Type} : List (κ × V) → List (κ × Value) → Prop := Paired fun (p : κ × V) (q : κ × Value) => p.1 = q.1 ∧ RelV p.2 q.2

/-- a key of a dict (00_mix): an int or a text -/
def kV : Key → V
  | .inl i => .int i
  | .inr x => .str x

/-- what stands at a tracked address -/
inductive HO where
  /-- a list -/
  | lst (xs : List V)
  /-- a tuple (never changes) -/
  | tup (xs : List V)
  /-- a dict whose keys are ints and texts; one whose keys are tuples of ints and texts (the empty one is both) -/
  | dK (kvs : List (Key × V)) | dT (kvs : List (List Key × V))
  /-- a set of ints: its members, its size -/
  | set (S : Int → Bool) (n : Nat)
  /-- an instance of the class at C, its dict at dx, its attributes -/
  | ins (C dx : Addr) (fs : List (Str × V))
  /-- the dict of the instance at x -/
  | own (x : Addr)
  /-- the dict of an exception -/
  | xd (fs : List (Str × V))
  /-- a bound method, f of x -/
  | met (f x : Addr)
  /-- a range object lo, lo + 1, .. below hi -/
  | rng (lo hi : Int)
  /-- a thing that is known to the object (the script; a dict while a loop walks it): read, never written while it is so -/
  | frz (o : Obj) (u : HO)
  /-- a code object's table -/
  | tbl (ps : Array Value)
  /-- any other thing, by what is true of its one object (a def of one's own: SetO a S n := HO.ext fun h => ..) -/
  | ext (φ : Heap → Prop)

abbrev Hp := Addr → Option HO
def upd (H : Hp) (a : Addr) (o : HO) : Hp := fun b => if b = a then some o else H b
theorem upd_same {H : Hp} {a : Addr} {o : HO} : upd H a o a = some o := by unfold upd; rw [if_pos rfl]
theorem upd_ne {H : Hp} {a b : Addr} {o : HO} (h : b ≠ a) : upd H a o b = H b := by unfold upd; rw [if_neg h]
theorem upd_upd {H : Hp} {a : Addr} {o u : HO} : upd (upd H a o) a u = upd H a u := by
  funext b; unfold upd; split <;> rfl
/-- two objects of different content stand apart -/
theorem ne_of {H : Hp} {a b : Addr} {o u : HO} (h : H a = some o) (h' : H b = some u) (d : o ≠ u) : a ≠ b := by
  intro e; subst e; rw [h] at h'; exact d (Option.some.inj h')
theorem ne_of_none {H : Hp} {a b : Addr} {o : HO} (h : H a = some o) (h' : H b = none) : a ≠ b := by
  intro e; subst e; rw [h] at h'; cases h'

section
variable (P : Program) (w : World)
def ObjOk (H : Hp) (h : Heap) (a : Addr) : HO → Prop
  | .lst xs => xs.length ≤ sizeLine ∧ ∃ (its : List Value) (n : Nat), Vals xs its ∧ h.get? a = some { cls := .type "list", data := .seq its.toArray n }
  | .tup xs => xs.length ≤ sizeLine ∧ ∃ its : List Value, Vals xs its ∧ IsTup h a its.toArray
  | .dK kvs => kvs.length ≤ sizeLine ∧ (a == sysModules) = false ∧ ∃ vs, KV kvs vs ∧ h.DictOf (mixKind P w) a vs
  | .dT kvs => kvs.length ≤ sizeLine ∧ (a == sysModules) = false ∧ ∃ xs : List (List Key × Addr × Value),
      Paired (fun (p : List Key × V) (q : List Key × Addr × Value) => p.1 = q.1 ∧ H q.2.1 = some (.tup (p.1.map kV)) ∧ RelV p.2 q.2.2) kvs xs ∧
      ∃ o es ep, h.get? a = some o ∧ o.ExactDict ∧ o.data = .dict es ep ∧ es.toList = xs.map (entryOfKey (tupleKind (mixKind P w))) ∧ (xs.map (·.1)).Nodup
  | .set S n => h.SetOf (intKind P w) a S n
  | .ins C dx fs => H dx = some (.own a) ∧ fs.length ≤ 1000 ∧ dx ≠ a ∧ h.get? a = some (PySem.W.instObj C dx) ∧
      ∃ mA, h.Ns1 dx mA ∧ (∀ f, RelO (fs.lookup f) (mA f)) ∧ PySem.Within mA (fs.map (·.1))
  | .own _ => ∃ o, h.get? a = some o
  | .xd fs => ∃ mA, h.Ns1 a mA ∧ ∀ f, RelO (fs.lookup f) (mA f)
  | .rng lo hi => ∃ t u v, h.get? a = some { cls := .type "range", data := .fields #[.int lo t, .int hi u, .int 1 v] }
  | .frz o u => h.get? a = some o ∧ ObjOk H h a u
  | .tbl ps => h.get? a = some { cls := .none, data := .fields ps }
  | .met f x => h.get? a = some (PySem.W.methodObj (.ref f) (.ref x))
  | .ext φ => φ h ∧ (∃ o, h.get? a = some o) ∧ ∀ h1 h2 : Heap, φ h1 → (∀ o, h1.get? a = some o → h2.get? a = some o) → φ h2
/-- the abstract heap is held -/
def HOk (H : Hp) (h : Heap) : Prop := ∀ a o, H a = some o → ObjOk P w H h a o
end

section
variable {P : Program} {w : World} {H H' : Hp} {h h' : Heap} {a : Addr} {o : HO}
theorem ObjOk.lt (x : ObjOk P w H h a o) : a < h.objs.size := by
  cases o with
  | lst xs => obtain ⟨_, _, _, _, e⟩ := x; exact Heap.lt_size e
  | tup xs => obtain ⟨_, _, _, p⟩ := x; exact p.lt
  | dK kvs => obtain ⟨_, _, _, _, o, _, _, e, _⟩ := x; exact Heap.lt_size e
  | dT kvs => obtain ⟨_, _, _, _, o, _, _, e, _⟩ := x; exact Heap.lt_size e
  | set S n => obtain ⟨o, _, _, _, e, _⟩ := x; exact Heap.lt_size e
  | ins C dx fs => obtain ⟨_, _, _, e, _⟩ := x; exact Heap.lt_size e
  | own y => obtain ⟨_, e⟩ := x; exact Heap.lt_size e
  | xd fs => obtain ⟨_, ⟨_, _, _, e, _⟩, _⟩ := x; exact Heap.lt_size e
  | rng lo hi => obtain ⟨_, _, _, e⟩ := x; exact Heap.lt_size e
  | frz ob u => obtain ⟨e, _⟩ := x; exact Heap.lt_size e
  | tbl ps => exact Heap.lt_size (show h.get? a = some _ from x)
  | met f y => exact Heap.lt_size (show h.get? a = some _ from x)
  | ext φ => obtain ⟨_, ⟨_, e⟩, _⟩ := x; exact Heap.lt_size e
theorem Paired.mapP {α β : Type} {F G : α → β → Prop} : ∀ {l₁ : List α} {l₂ : List β}, Paired F l₁ l₂ → (∀ a b, F a b → G a b) → Paired G l₁ l₂
  | _, _, .nil, _ => .nil
  | _, _, .cons r t, f => .cons (f _ _ r) (Paired.mapP t f)
theorem Paired.imp' {α β : Type} {F G : α → β → Prop} (f : ∀ a b, F a b → G a b) {l₁ : List α} {l₂ : List β} (r : Paired F l₁ l₂) : Paired G l₁ l₂ := Paired.mapP r f
/-- what an object's description leans on: its own object, its own dict, the tuples -/
theorem ObjOk.stay (x : ObjOk P w H h a o) (k : ∀ b u, (b = a ∨ H b = some (.own a)) → h.get? b = some u → h'.get? b = some u)
    (ho : ∀ b, H b = some (.own a) → H' b = some (.own a)) (ht : ∀ b xs, H b = some (.tup xs) → H' b = some (.tup xs)) : ObjOk P w H' h' a o := by
  induction o with
  | lst xs => obtain ⟨z, its, n, r, e⟩ := x; exact ⟨z, its, n, r, k _ _ (.inl rfl) e⟩
  | tup xs => obtain ⟨z, its, r, ob, e, c⟩ := x; exact ⟨z, its, r, ob, k _ _ (.inl rfl) e, c⟩
  | dK kvs => obtain ⟨z, y, vs, r, ob, es, ep, e, c⟩ := x; exact ⟨z, y, vs, r, ob, es, ep, k _ _ (.inl rfl) e, c⟩
  | dT kvs =>
    obtain ⟨z, y, xs, r, ob, es, ep, e, c⟩ := x
    exact ⟨z, y, xs, Paired.mapP r fun p q z => ⟨z.1, ht _ _ z.2.1, z.2.2⟩, ob, es, ep, k _ _ (.inl rfl) e, c⟩
  | set S n => obtain ⟨ob, es, ep, t, e, c⟩ := x; exact ⟨ob, es, ep, t, k _ _ (.inl rfl) e, c⟩
  | ins C dx fs =>
    obtain ⟨d, z, ne, e, mA, ⟨od, es, ep, e2, c⟩, r⟩ := x
    exact ⟨ho _ d, z, ne, k _ _ (.inl rfl) e, mA, ⟨od, es, ep, k _ _ (.inr d) e2, c⟩, r⟩
  | own y => obtain ⟨ob, e⟩ := x; exact ⟨ob, k _ _ (.inl rfl) e⟩
  | xd fs => obtain ⟨mA, ⟨od, es, ep, e, c⟩, r⟩ := x; exact ⟨mA, ⟨od, es, ep, k _ _ (.inl rfl) e, c⟩, r⟩
  | rng lo hi => obtain ⟨t, u, v, e⟩ := x; exact ⟨t, u, v, k _ _ (.inl rfl) e⟩
  | frz ob u ih => obtain ⟨e, q⟩ := x; exact ⟨k _ _ (.inl rfl) e, ih q⟩
  | tbl ps =>
    have e : h.get? a = some { cls := .none, data := .fields ps } := x
    show h'.get? a = some { cls := .none, data := .fields ps }
    exact k a _ (.inl rfl) e
  | met f y =>
    have e : h.get? a = some (PySem.W.methodObj (.ref f) (.ref y)) := x
    show h'.get? a = some (PySem.W.methodObj (.ref f) (.ref y))
    exact k a _ (.inl rfl) e
  | ext φ => obtain ⟨p, ⟨o, e⟩, st⟩ := x; exact ⟨st _ _ p fun o q => k _ _ (.inl rfl) q, ⟨o, k _ _ (.inl rfl) e⟩, st⟩
theorem HOk.lt (x : HOk P w H h) (e : H a = some o) : a < h.objs.size := (x a o e).lt
theorem HOk.fresh (x : HOk P w H h) (e : h.objs.size ≤ a) : H a = none := by
  cases q : H a with
  | none => rfl
  | some u => exact absurd (Nat.lt_of_lt_of_le (x.lt q) e) (Nat.lt_irrefl _)
/-- every object of the heap is kept -/
theorem HOk.kept (x : HOk P w H h) (k : ∀ b u, h.get? b = some u → h'.get? b = some u) : HOk P w H h' := fun a o e =>
  (x a o e).stay (fun b u _ q => k b u q) (fun _ q => q) fun _ _ q => q
/-- a new object is laid and tracked -/
theorem HOk.laid (x : HOk P w H h) (k : ∀ b u, h.get? b = some u → h'.get? b = some u) (hp : h.objs.size ≤ a) (new : ObjOk P w (upd H a o) h' a o) : HOk P w (upd H a o) h' := fun b u e => by
  have hn := x.fresh hp
  by_cases hb : b = a
  · subst hb; rw [upd_same] at e; cases e; exact new
  · rw [upd_ne hb] at e
    exact (x b u e).stay (fun c v _ q => k c v q) (fun c q => by rw [upd_ne (ne_of_none q hn)]; exact q) fun c xs q => by rw [upd_ne (ne_of_none q hn)]; exact q
end

/-- what may be read as u: it is u, or a known u -/
def Rd (H : Hp) (a : Addr) (u : HO) : Prop := H a = some u ∨ ∃ o, H a = some (.frz o u)
theorem Rd.of {H : Hp} {a : Addr} {u : HO} (h : H a = some u) : Rd H a u := .inl h
theorem Rd.ok {P : Program} {w : World} {H : Hp} {h : Heap} {a : Addr} {u : HO} (r : Rd H a u) (x : HOk P w H h) : ObjOk P w H h a u := by
  rcases r with r | ⟨o, r⟩
  · exact x a u r
  · obtain ⟨_, q⟩ := x a _ r
    exact q
/-- what may be written -/
def Mut : Option HO → Prop
  | some (.lst _) => True
  | some (.dK _) => True
  | some (.dT _) => True
  | some (.set _ _) => True
  | some (.ins _ _ _) => True
  | some (.ext _) => True
  | _ => False
section
variable {P : Program} {w : World} {H : Hp} {h h' : Heap} {x e : Addr} {o' : HO}
/-- the object at e is changed: x itself, or the dict of the instance x -/
theorem HOk.write (ok : HOk P w H h) (mu : Mut (H x)) (he : e = x ∨ H e = some (.own x)) (k : ∀ b u, b ≠ e → h.get? b = some u → h'.get? b = some u) (heo : ∃ u, h'.get? e = some u)
    (new : ObjOk P w (upd H x o') h' x o') : HOk P w (upd H x o') h' := fun b u q => by
  have nown : ∀ c y, H c = some (.own y) → c ≠ x := fun c y r z => by subst z; rw [r] at mu; exact mu
  have ntup : ∀ c xs, H c = some (.tup xs) → c ≠ x := fun c xs r z => by subst z; rw [r] at mu; exact mu
  by_cases hb : b = x
  · subst hb; rw [upd_same] at q; cases q; exact new
  · rw [upd_ne hb] at q
    by_cases hbe : b = e
    · have q' : H b = some (.own x) := by
        rcases he with z | z
        · exact absurd (hbe.trans z) hb
        · rw [hbe]; exact z
      rw [q] at q'; cases q'
      obtain ⟨v, hv⟩ := heo
      exact ⟨v, by rw [hbe]; exact hv⟩
    · refine (ok b u q).stay (fun c v hc r => k c v ?_ r) (fun c r => by rw [upd_ne (nown c b r)]; exact r) fun c xs r => by rw [upd_ne (ntup c xs r)]; exact r
      rcases hc with rfl | hc
      · exact hbe
      · rintro rfl
        rcases he with z | z
        · exact nown c b hc z
        · rw [hc] at z; cases z; exact hb rfl
end

/-! ### kept unless tracked; of the frames at fs (the callers') the slots may change (an exception that passes writes there); of the records at ex (iterators) nothing is said -/
structure Un (fs ex : List Addr) (H H' : Hp) (h h' : Heap) : Prop where
  keep : ∀ b o, h.get? b = some o → H b = none → b ∉ fs → b ∉ ex → h'.get? b = some o
  slot : ∀ b o, h.get? b = some o → H b = none → b ∈ fs → b ∉ ex → ∃ sl, h'.get? b = some { o with slots := sl }
  free : ∀ b o, h.get? b = some o → H b = none → b ∉ ex → H' b = none
  there : ∀ b o, h.get? b = some o → b ∉ ex → ∃ o', h'.get? b = some o'
  tups : ∀ b xs, H b = some (.tup xs) → H' b = some (.tup xs)
  frzs : ∀ b o u, H b = some (.frz o u) → H' b = some (.frz o u)
  tbls : ∀ b ps, H b = some (.tbl ps) → ∃ more, H' b = some (.tbl (ps ++ more))
section
variable {fs fs' ex ex' : List Addr} {H H1 H2 : Hp} {h h1 h2 h' : Heap} {a x e : Addr} {o : HO}
theorem Un.any (u : Un fs ex H H1 h h1) {b : Addr} {ob : Obj} (q : h.get? b = some ob) (n : H b = none) (hx : b ∉ ex) : ∃ sl, h1.get? b = some { ob with slots := sl } := by
  by_cases hb : b ∈ fs
  · exact u.slot b ob q n hb hx
  · exact ⟨ob.slots, u.keep b ob q n hb hx⟩
theorem Un.trans (a : Un fs ex H H1 h h1) (b : Un fs ex H1 H2 h1 h2) : Un fs ex H H2 h h2 where
  keep := fun c ob q n hc hx => b.keep c ob (a.keep c ob q n hc hx) (a.free c ob q n hx) hc hx
  slot := fun c ob q n hc hx => by
    obtain ⟨sl, e1⟩ := a.slot c ob q n hc hx
    obtain ⟨sl', e2⟩ := b.slot c _ e1 (a.free c ob q n hx) hc hx
    exact ⟨sl', e2⟩
  free := fun c ob q n hx => by
    obtain ⟨o', e1⟩ := a.there c ob q hx
    exact b.free c o' e1 (a.free c ob q n hx) hx
  there := fun c ob q hx => by
    obtain ⟨o', e1⟩ := a.there c ob q hx
    exact b.there c o' e1 hx
  tups := fun c xs q => b.tups c xs (a.tups c xs q)
  frzs := fun c ob xs q => b.frzs c ob xs (a.frzs c ob xs q)
  tbls := fun c ps q => by
    obtain ⟨m1, e1⟩ := a.tbls c ps q
    obtain ⟨m2, e2⟩ := b.tbls c _ e1
    exact ⟨m1 ++ m2, by rw [e2, Array.append_assoc]⟩
theorem Un.kept (k : ∀ b u, h.get? b = some u → h'.get? b = some u) : Un fs ex H H h h' :=
  ⟨fun b ob q _ _ _ => k b ob q, fun b ob q _ _ _ => ⟨ob.slots, k b ob q⟩, fun _ _ _ n _ => n, fun b ob q _ => ⟨ob, k b ob q⟩, fun _ _ q => q, fun _ _ _ q => q, fun _ ps q => ⟨#[], by rw [q]; simp⟩⟩
theorem Un.refl : Un fs ex H H h h := Un.kept fun _ _ q => q
theorem Un.laid (k : ∀ b u, h.get? b = some u → h'.get? b = some u) (hp : h.objs.size ≤ a) (hn : H a = none) : Un fs ex H (upd H a o) h h' where
  keep := fun b u q _ _ _ => k b u q
  slot := fun b u q _ _ _ => ⟨u.slots, k b u q⟩
  free := fun b u q n _ => by rw [upd_ne (Nat.ne_of_lt (Nat.lt_of_lt_of_le (Heap.lt_size q) hp))]; exact n
  there := fun b u q _ => ⟨u, k b u q⟩
  tups := fun b xs q => by rw [upd_ne (ne_of_none q hn)]; exact q
  frzs := fun b u xs q => by rw [upd_ne (ne_of_none q hn)]; exact q
  tbls := fun b ps q => ⟨#[], by rw [upd_ne (ne_of_none q hn), q]; simp⟩
theorem Un.write (mu : Mut (H x)) (he : e = x ∨ H e = some (.own x)) (k : ∀ b u, b ≠ e → h.get? b = some u → h'.get? b = some u) (heo : ∃ u, h'.get? e = some u) : Un fs ex H (upd H x o) h h' := by
  have hx : ∀ b, H b = none → b ≠ x := fun b n z => by subst z; rw [n] at mu; exact mu
  have hb : ∀ b, H b = none → b ≠ e := fun b n z => by
    subst z
    rcases he with r | r
    · exact hx b n r
    · rw [n] at r; cases r
  have hm : ∀ b u, H b = some u → ¬ Mut (some u) → b ≠ x := fun b u q nm z => by subst z; rw [q] at mu; exact nm mu
  refine ⟨fun b u q n _ _ => k b u (hb b n) q, fun b u q n _ _ => ⟨u.slots, k b u (hb b n) q⟩, fun b u q n _ => by rw [upd_ne (hx b n)]; exact n, fun b u q _ => ?_,
    fun b xs q => by rw [upd_ne (hm b _ q fun z => z)]; exact q, fun b u xs q => by rw [upd_ne (hm b _ q fun z => z)]; exact q, fun b ps q => ⟨#[], by rw [upd_ne (hm b _ q fun z => z), q]; simp⟩⟩
  by_cases hbe : b = e
  · subst hbe; exact heo
  · exact ⟨u, k b u hbe q⟩
theorem Un.mono (u : Un fs ex H H1 h h1) (hs : ∀ b ∈ fs, b ∈ fs') (hx : ∀ b ∈ ex, b ∈ ex') : Un fs' ex' H H1 h h1 :=
  ⟨fun b ob q n hb he => u.keep b ob q n (fun z => hb (hs b z)) fun z => he (hx b z), fun _ _ q n _ he => u.any q n fun z => he (hx _ z), fun b ob q n he => u.free b ob q n fun z => he (hx b z), fun b ob q he => u.there b ob q fun z => he (hx b z), u.tups, u.frzs, u.tbls⟩
end

/-! ### the heap without what is tracked -/
def trk (h : Heap) (H : Hp) : List Addr := (List.range h.objs.size).filter fun a => (H a).isSome
def hidT (h : Heap) (H : Hp) : Heap := PySem.W.hideAll h (trk h H)
theorem hidT_size (h : Heap) (H : Hp) : (hidT h H).objs.size = h.objs.size := PySem.W.hideAll_size _ _
theorem hidT_get {h : Heap} {H : Hp} {b : Addr} {o : Obj} (e : h.get? b = some o) (n : H b = none) : (hidT h H).get? b = some o :=
  PySem.W.hideAll_get _ e fun hm => by
    have q : (H b).isSome = true := (List.mem_filter.mp hm).2
    rw [n] at q; simp at q
theorem of_hidT {h : Heap} {H : Hp} {b : Addr} {o : Obj} (e : (hidT h H).get? b = some o) : h.get? b = some o ∧ H b = none := by
  have e' : h.get? b = some o := PySem.W.of_hideAll (trk h H) e
  refine ⟨e', ?_⟩
  cases q : H b with
  | none => rfl
  | some x =>
    have hm : b ∈ trk h H := List.mem_filter.mpr ⟨List.mem_range.mpr (Heap.lt_size e'), by simp [q]⟩
    have z : (hidT h H).get? b = none := PySem.W.hideAll_none (trk h H) hm
    rw [z] at e; cases e

/-! ### OpenK's ledger, filled with every new object but one -/
def allNews (g h : Heap) (L : Addr) : List (Addr × Obj) := (List.range h.objs.size).filterMap fun a => if a = L ∨ (g.get? a).isSome = true then none else (h.get? a).map fun o => (a, o)
theorem mem_allNews {g h : Heap} {L a : Addr} {o : Obj} (h1 : a ≠ L) (h2 : g.get? a = none) (h3 : h.get? a = some o) : (a, o) ∈ allNews g h L :=
  List.mem_filterMap.mpr ⟨a, List.mem_range.mpr (Heap.lt_size h3), by simp [h1, h2, h3]⟩
theorem of_mem_allNews {g h : Heap} {L : Addr} {p : Addr × Obj} (hp : p ∈ allNews g h L) : p.1 ≠ L ∧ g.get? p.1 = none ∧ h.get? p.1 = some p.2 := by
  obtain ⟨b, _, e⟩ := List.mem_filterMap.mp hp
  split at e
  · cases e
  · rename_i hn
    cases q : h.get? b with
    | none => rw [q] at e; simp at e
    | some u =>
      rw [q] at e
      simp only [Option.map_some, Option.some.injEq] at e
      subst e
      refine ⟨fun z => hn (.inl z), ?_, q⟩
      show g.get? b = none
      cases r : g.get? b with
      | none => rfl
      | some v => exact (hn (.inr (by simp [r]))).elim
def rest (g h : Heap) (L d : Addr) : List (Addr × Obj) := (allNews g h L).filter fun p => decide (p.1 ≠ d)
theorem rest_ne {g h : Heap} {L d : Addr} : ∀ p ∈ rest g h L d, p.1 ≠ d := fun p hp => of_decide_eq_true (List.mem_filter.mp hp).2
theorem mem_rest {g h : Heap} {L d a : Addr} {o : Obj} (h1 : a ≠ L) (h2 : g.get? a = none) (h3 : h.get? a = some o) (h4 : a ≠ d) : (a, o) ∈ rest g h L d :=
  List.mem_filter.mpr ⟨mem_allNews h1 h2 h3, decide_eq_true h4⟩
theorem news_all {g h : Heap} {L : Addr} : News g L h (allNews g h L) := fun p hp => let ⟨a, b, c⟩ := of_mem_allNews hp; ⟨c, a, b⟩
theorem news_at {g h : Heap} {L d : Addr} {o : Obj} (h1 : d ≠ L) (h2 : g.get? d = none) (h3 : h.get? d = some o) : News g L h ((d, o) :: rest g h L d) := fun p hp => by
  rcases List.mem_cons.mp hp with rfl | hp
  · exact ⟨h3, h1, h2⟩
  · exact news_all p (List.mem_filter.mp hp).1
/-- behind a rule that changed d alone: all else but the frame is kept -/
theorem kept_of_news {g h h' : Heap} {L d : Addr} {m : Str → Option Value} (k : ∀ b o, g.get? b = some o → h.get? b = some o) (F : Fr g L h' m) (N : News g L h' (rest g h L d)) :
    ∀ b o, b ≠ L → b ≠ d → h.get? b = some o → h'.get? b = some o := fun b o h1 h2 e => by
  cases q : g.get? b with
  | some u =>
    have := k b u q
    rw [e] at this; cases this
    exact F.keep b _ q
  | none => exact (N (b, o) (mem_rest h1 q e h2)).1
end L2

namespace L2
open PySem PySem.Spec PyProof.Rows

/-- the module's facts, over the base: the heap at the law's entry without what is tracked there -/
structure Mod (K : PySem.W.Frag) (mg : Str → Option Value) (base : Heap) : Prop where
  kin : K.In base
  glob : base.Ns mainGlobals mg
  blt : ∃ mb, base.Ns builtinsNs mb ∧ ∀ x : Str, x ≠ "__name__" → mb x = bootBuiltins x
  nolimit : base.NoLimit

/-- the context: a def's body (or a comprehension's block) running. base: fixed through the whole law; s₀, H₀: the entry; outer: the frames whose slots others may change (a def's callers); stack: all frames that run;
   ex: iterators that were made ahead of the entry and are walked here (a comprehension's); fn: the names whose cells were made at the entry (a def: all; a comprehension's block: its own); calm: not within an except suite; pn: pins that every state bears; xe: what is wanted of an exception that leaves the code -/
structure Cx where
  prog : Program
  w : World
  K : PySem.W.Frag
  mg : Str → Option Value
  base : Heap
  A : Around
  N : List Str
  s₀ : Shared
  H₀ : Hp
  env : Env
  outer : List Env
  stack : List Env
  ex : List Addr
  fn : Str → Bool
  calm : Bool
  pn : List (Addr × Obj)
  xe : Value → Shared → Prop
/-- the callers' frames -/
def frs (l : List Env) : List Addr := l.filterMap (·.frame)
abbrev Cx.fs (X : Cx) : List Addr := frs X.outer

def Vis (sc : Scope) (x : Str) : Prop := sc.names.lookup x = some .local ∨ sc.names.lookup x = some .cell ∨ sc.names.lookup x = some .free
def Loc (sc : Scope) (x : Str) : Prop := sc.names.lookup x = some .local ∨ sc.names.lookup x = some .cell
def Look (env : Env) (h : Heap) (m : Str → Option Value) (x : Str) (u : Value) : Prop :=
  (env.kindOf x = some .local ∧ m x = some u) ∨ ((env.kindOf x = some .cell ∨ env.kindOf x = some .free) ∧ ∃ c, env.cells.lookup x = some c ∧ h.IsCell c (some u))

structure Cx.Ok (X : Cx) : Prop where
  mod : Mod X.K X.mg X.base
  kind : X.env.scope.kind = .function
  glob : X.env.globals = mainGlobals
  blt : X.env.builtins = builtinsNs
  above : X.s₀.heap.objs.size ≤ X.env.locals
  inj : ∀ x y c, X.env.cells.lookup x = some c → X.env.cells.lookup y = some c → x = y
  has : ∀ x, (X.env.kindOf x = some .cell ∨ X.env.kindOf x = some .free) → ∃ c, X.env.cells.lookup x = some c
  cab : ∀ x c, X.fn x = true → X.env.cells.lookup x = some c → X.s₀.heap.objs.size ≤ c
  hd : X.calm = true → X.A.handled = none
  frames : X.A.frames = some X.stack
  stk : X.stack = X.outer ∨ (X.stack = X.env :: X.outer ∧ X.env.frame = some X.env.locals)
  exf : ∀ b ∈ X.ex, b ≠ X.env.locals ∧ ∀ x c, X.env.cells.lookup x = some c → c ≠ b
  bs : ∀ b o, X.base.get? b = some o → X.s₀.heap.get? b = some o ∧ X.H₀ b = none
  bsz : X.base.objs.size ≤ X.s₀.heap.objs.size
  noex : ∀ b o, X.base.get? b = some o → b ∉ X.ex
  exfs : ∀ b ∈ X.ex, b ∉ X.fs
  funs : X.s₀.heap.FunFrames X.base X.outer
  frf : ∀ b ∈ X.fs, X.H₀ b = none

structure Inv (X : Cx) (pins : List (Addr × Obj)) (σ : List (Option V)) (H : Hp) (s : Shared) : Prop where
  ok : X.Ok
  os : s.os = X.s₀.os
  bare : AllBare s.gens
  base : Un X.fs X.ex X.H₀ H X.s₀.heap s.heap
  loc : ∃ m, s.heap.Ns X.env.locals m ∧ ∀ (i : Nat) (x : Str) (v : V), X.N[i]? = some x → σ[i]? = some (some v) → Vis X.env.scope x → ∃ u, RelV v u ∧ Look X.env s.heap m x u
  cell : ∀ x c, X.env.cells.lookup x = some c → ∃ v, s.heap.IsCell c v
  free : H X.env.locals = none
  freeC : ∀ x c, X.env.cells.lookup x = some c → H c = none
  pin : ∀ p ∈ X.pn ++ pins, s.heap.get? p.1 = some p.2 ∧ H p.1 = none ∧ p.1 ≠ X.env.locals ∧ p.1 ∉ X.fs ∧ ∀ v, p.2.data ≠ .cell v
  hok : HOk X.prog X.w H s.heap
  len : σ.length = X.N.length

section
variable {X : Cx} {pins : List (Addr × Obj)} {σ : List (Option V)} {H H' : Hp} {s : Shared} {h' : Heap}

theorem Cx.Ok.nofr (ok : X.Ok) {b : Addr} {o : Obj} (e : X.base.get? b = some o) : b ∉ X.fs := fun hb => by
  have := (ok.funs.mem hb).1
  rw [e] at this; cases this
theorem Inv.bs (I : Inv X pins σ H s) : ∀ b o, X.base.get? b = some o → s.heap.get? b = some o ∧ H b = none := fun b o e =>
  ⟨I.base.keep b o (I.ok.bs b o e).1 (I.ok.bs b o e).2 (I.ok.nofr e) (I.ok.noex b o e), I.base.free b o (I.ok.bs b o e).1 (I.ok.bs b o e).2 (I.ok.noex b o e)⟩
theorem Inv.bk (I : Inv X pins σ H s) : ∀ b o, X.base.get? b = some o → s.heap.get? b = some o := fun b o e => (I.bs b o e).1
theorem Inv.mod (I : Inv X pins σ H s) : Mod X.K X.mg X.base := I.ok.mod
theorem Inv.kIn (I : Inv X pins σ H s) : X.K.In s.heap := I.ok.mod.kin.keeps I.bk
theorem Inv.nolimit (I : Inv X pins σ H s) : s.heap.NoLimit := I.ok.mod.nolimit.keeps I.bk
/-- the frame over the base: for OpenK's rules (K.In X.base is I.mod.kin) -/
theorem Inv.fr (I : Inv X pins σ H s) : ∃ m, Fr X.base X.env.locals s.heap m :=
  let ⟨m, hn, _⟩ := I.loc
  ⟨m, hn, I.bk, Nat.le_trans I.ok.bsz I.ok.above⟩
theorem Inv.lt (I : Inv X pins σ H s) : X.env.locals < s.heap.objs.size := let ⟨_, hn, _⟩ := I.loc; hn.lt
theorem Inv.sz (I : Inv X pins σ H s) : X.s₀.heap.objs.size ≤ s.heap.objs.size := Nat.le_trans I.ok.above (Nat.le_of_lt I.lt)
theorem Inv.nofs (I : Inv X pins σ H s) {a : Addr} (h : s.heap.objs.size ≤ a) : a ∉ X.fs := fun hb => by
  obtain ⟨_, o, ho, _⟩ := I.ok.funs.mem hb
  exact absurd (Nat.lt_of_lt_of_le (Heap.lt_size ho) (Nat.le_trans I.sz h)) (Nat.lt_irrefl _)
theorem Inv.cne (I : Inv X pins σ H s) : ∀ x c, X.env.cells.lookup x = some c → c ≠ X.env.locals := fun x c e z => by
  obtain ⟨v, o, ho, hd⟩ := I.cell x c e
  obtain ⟨m, ⟨o', es, ep, ho', hd', _⟩, _⟩ := I.loc
  rw [z, ho'] at ho; cases ho; rw [hd'] at hd; cases hd
theorem Inv.funs (I : Inv X pins σ H s) : s.heap.FunFrames X.base X.outer := by
  have all : ∀ (l : List Env), (∀ b ∈ frs l, b ∈ X.fs) → X.s₀.heap.FunFrames X.base l → s.heap.FunFrames X.base l := by
    intro l
    induction l with
    | nil => intro _ _; trivial
    | cons env r ih =>
      intro hs hl
      obtain ⟨hk, ⟨L, o, hf, hn, ho, hd⟩, hr⟩ := hl
      have hL : L ∈ X.fs := hs L (by unfold frs; rw [List.filterMap_cons, hf]; exact List.mem_cons_self)
      obtain ⟨sl, e⟩ := I.base.slot L o ho (I.ok.frf L hL) hL fun z => I.ok.exfs L z hL
      exact ⟨hk, ⟨L, _, hf, hn, e, hd⟩, ih (fun b hb => hs b (by unfold frs; rw [List.filterMap_cons, hf]; exact List.mem_cons_of_mem _ hb)) hr⟩
  exact all X.outer (fun _ hb => hb) I.ok.funs

/-- the frames that run, for a call -/
theorem Inv.stack (I : Inv X pins σ H s) : s.heap.FunFrames X.base X.stack := by
  rcases I.ok.stk with e | ⟨e, hf⟩
  · rw [e]; exact I.funs
  · rw [e]
    obtain ⟨m, hn, _⟩ := I.loc
    refine .cons (by rw [I.ok.kind]; decide) hf hn ?_ I.funs
    exact Heap.get?_none_of_le (Nat.le_trans I.ok.bsz I.ok.above)
theorem Inv.stkSub (I : Inv X pins σ H s) : ∀ b ∈ frs X.stack, b ∈ X.env.locals :: X.fs := fun b hb => by
  rcases I.ok.stk with e | ⟨e, hf⟩
  · rw [e] at hb; exact List.mem_cons_of_mem _ hb
  · rw [e] at hb
    unfold frs at hb
    rw [List.filterMap_cons, hf] at hb
    exact hb
theorem Inv.stkFree (I : Inv X pins σ H s) : ∀ b ∈ frs X.stack, H b = none := fun b hb => by
  rcases List.mem_cons.mp (I.stkSub b hb) with e | hb
  · rw [e]; exact I.free
  · obtain ⟨_, o, ho, _⟩ := I.ok.funs.mem hb
    exact I.base.free b o ho (I.ok.frf b hb) fun z => I.ok.exfs b z hb

/-- THE STEP: the untracked objects but the frame and the records at ch are kept (the callers' frames up to slots), the frame's map is kept, the new abstract heap is held -/
theorem Inv.step {g' : Array GenState} {t' : Nat} {d' : Drawn} {ch : List Addr} (I : Inv X pins σ H s)
    (hch : ∀ b ∈ ch, (b ∈ X.ex ∨ X.s₀.heap.objs.size ≤ b) ∧ b ≠ X.env.locals ∧ (∀ x c, X.env.cells.lookup x = some c → c ≠ b) ∧ ∀ p ∈ X.pn ++ pins, p.1 ≠ b)
    (keep : ∀ b o, b ≠ X.env.locals → b ∉ X.fs → b ∉ ch → s.heap.get? b = some o → H b = none → h'.get? b = some o)
    (slot : ∀ b o, b ≠ X.env.locals → b ∈ X.fs → b ∉ ch → s.heap.get? b = some o → H b = none → ∃ sl, h'.get? b = some { o with slots := sl }) (free : ∀ b o, b ∉ ch → s.heap.get? b = some o → H b = none → H' b = none)
    (there : ∀ b o, b ∉ ch → s.heap.get? b = some o → ∃ o', h'.get? b = some o')
    (tups : ∀ b xs, H b = some (.tup xs) → H' b = some (.tup xs)) (frzs : ∀ b o u, H b = some (.frz o u) → H' b = some (.frz o u)) (tbls : ∀ b ps, H b = some (.tbl ps) → ∃ more, H' b = some (.tbl (ps ++ more)))
    (ns : ∀ m, s.heap.Ns X.env.locals m → h'.Ns X.env.locals m) (hok : HOk X.prog X.w H' h') (hg : AllBare g') :
    Inv X pins σ H' { s with heap := h', gens := g', drawn := d', toks := t' } := by
  have neL : ∀ b o, X.s₀.heap.get? b = some o → b ≠ X.env.locals := fun b o e => Nat.ne_of_lt (Nat.lt_of_lt_of_le (Heap.lt_size e) I.ok.above)
  have neC : ∀ b o, X.s₀.heap.get? b = some o → b ∉ X.ex → b ∉ ch := fun b o e hx hb => by
    rcases (hch b hb).1 with z | z
    · exact hx z
    · exact absurd (Nat.lt_of_lt_of_le (Heap.lt_size e) z) (Nat.lt_irrefl _)
  have cellK : ∀ x c, X.env.cells.lookup x = some c → ∀ v, s.heap.IsCell c v → h'.IsCell c v := fun x c e v ⟨o, ho, hd⟩ => by
    have nch : c ∉ ch := fun z => (hch c z).2.2.1 x c e rfl
    by_cases hc : c ∈ X.fs
    · obtain ⟨sl, q⟩ := slot c o (I.cne x c e) hc nch ho (I.freeC x c e)
      exact ⟨_, q, hd⟩
    · exact ⟨o, keep c o (I.cne x c e) hc nch ho (I.freeC x c e), hd⟩
  refine ⟨I.ok, I.os, hg, ⟨fun b o e n hb hx => ?_, fun b o e n hb hx => ?_, fun b o e n hx => ?_, fun b o e hx => ?_, fun b xs e => tups b xs (I.base.tups b xs e), fun b o xs e => frzs b o xs (I.base.frzs b o xs e), fun b ps e => ?_⟩, ?_, fun x c e => ?_, ?_, fun x c e => ?_, fun p hp => ?_, hok, I.len⟩
  · exact keep b o (neL b o e) hb (neC b o e hx) (I.base.keep b o e n hb hx) (I.base.free b o e n hx)
  · obtain ⟨sl, e1⟩ := I.base.slot b o e n hb hx
    obtain ⟨sl', e2⟩ := slot b _ (neL b o e) hb (neC b o e hx) e1 (I.base.free b o e n hx)
    exact ⟨sl', e2⟩
  · obtain ⟨o', e1⟩ := I.base.there b o e hx
    exact free b o' (neC b o e hx) e1 (I.base.free b o e n hx)
  · obtain ⟨o', e1⟩ := I.base.there b o e hx
    exact there b o' (neC b o e hx) e1
  · obtain ⟨m1, e1⟩ := I.base.tbls b ps e
    obtain ⟨m2, e2⟩ := tbls b _ e1
    exact ⟨m1 ++ m2, by rw [e2, Array.append_assoc]⟩
  · obtain ⟨m, hn, hl⟩ := I.loc
    refine ⟨m, ns m hn, fun i x v e1 e2 e3 => ?_⟩
    obtain ⟨u, r, l⟩ := hl i x v e1 e2 e3
    refine ⟨u, r, ?_⟩
    rcases l with l | ⟨k, c, e, z⟩
    · exact .inl l
    · exact .inr ⟨k, c, e, cellK x c e _ z⟩
  · obtain ⟨v, z⟩ := I.cell x c e
    exact ⟨v, cellK x c e v z⟩
  · obtain ⟨m, ⟨o, _, _, ho, _⟩, _⟩ := I.loc
    exact free _ o (fun z => (hch _ z).2.1 rfl) ho I.free
  · obtain ⟨v, o, ho, hd⟩ := I.cell x c e
    exact free c o (fun z => (hch c z).2.2.1 x c e rfl) ho (I.freeC x c e)
  · obtain ⟨e, n, ne, nf, d⟩ := I.pin p hp
    have nch : p.1 ∉ ch := fun z => (hch p.1 z).2.2.2 p hp rfl
    exact ⟨keep p.1 p.2 ne nf nch e n, free p.1 p.2 nch e n, ne, nf, d⟩
/-- .. where the frame's own object is kept too -/
theorem Inv.un {t' : Nat} (I : Inv X pins σ H s) (u : Un X.fs [] H H' s.heap h') (hok : HOk X.prog X.w H' h') : Inv X pins σ H' { s with heap := h', toks := t' } := by
  obtain ⟨m, ⟨o, es, ep, ho, r⟩, _⟩ := id I.loc
  obtain ⟨sl, hL⟩ := u.any ho I.free (by simp)
  exact I.step (g' := s.gens) (d' := s.drawn) (ch := []) (fun _ z => nomatch z) (fun b o _ hb _ e n => u.keep b o e n hb (by simp)) (fun b o _ hb _ e n => u.slot b o e n hb (by simp)) (fun b o _ e n => u.free b o e n (by simp)) (fun b o _ e => u.there b o e (by simp)) u.tups u.frzs u.tbls (fun m' hm => by
    obtain ⟨o', es', ep', ho', r'⟩ := hm
    rw [ho] at ho'; cases ho'
    exact ⟨_, es', ep', hL, r'⟩) hok I.bare
/-- behind a call (or a comprehension's block): the slots of this frame may have changed too, the records at ch may have turned -/
theorem Inv.call {g' : Array GenState} {t' : Nat} {d' : Drawn} {ch : List Addr} (I : Inv X pins σ H s) (u : Un (frs X.stack) ch H H' s.heap h') (hok : HOk X.prog X.w H' h') (hg : AllBare g')
    (hch : ∀ b ∈ ch, (b ∈ X.ex ∨ X.s₀.heap.objs.size ≤ b) ∧ b ≠ X.env.locals ∧ (∀ x c, X.env.cells.lookup x = some c → c ≠ b) ∧ ∀ p ∈ X.pn ++ pins, p.1 ≠ b) :
    Inv X pins σ H' { s with heap := h', gens := g', drawn := d', toks := t' } := by
  obtain ⟨m, ⟨o, es, ep, ho, r⟩, _⟩ := id I.loc
  obtain ⟨sl, hL⟩ := u.any ho I.free fun z => (hch _ z).2.1 rfl
  exact I.step (ch := ch) hch (fun b o hL hb hc e n => u.keep b o e n (fun z => (List.mem_cons.mp (I.stkSub b z)).elim hL hb) hc) (fun b o _ _ hc e n => u.any e n hc) (fun b o hc e n => u.free b o e n hc) (fun b o hc e => u.there b o e hc) u.tups u.frzs u.tbls (fun m' hm => by
    obtain ⟨o', es', ep', ho', r'⟩ := hm
    rw [ho] at ho'; cases ho'
    exact ⟨_, es', ep', hL, r'⟩) hok hg
/-- an untracked record of ours (an iterator) has turned -/
theorem Inv.turned {t' : Nat} {it : Addr} (I : Inv X pins σ H s) (k : ∀ b o, b ≠ it → s.heap.get? b = some o → h'.get? b = some o) (hn : H it = none) (hL : it ≠ X.env.locals)
    (h1 : it ∈ X.ex ∨ X.s₀.heap.objs.size ≤ it) (h2 : ∀ x c, X.env.cells.lookup x = some c → c ≠ it) (h3 : ∀ p ∈ X.pn ++ pins, p.1 ≠ it) : Inv X pins σ H { s with heap := h', toks := t' } := by
  have nit : ∀ b u, H b = some u → b ≠ it := fun b u e z => by rw [z, hn] at e; cases e
  refine I.step (g' := s.gens) (d' := s.drawn) (ch := [it]) (fun b hb => ?_) (fun b o _ _ hc e _ => k b o (fun z => hc (by simp [z])) e) (fun b o _ _ hc e _ => ⟨o.slots, k b o (fun z => hc (by simp [z])) e⟩) (fun _ _ _ _ n => n)
    (fun b o hc e => ⟨o, k b o (fun z => hc (by simp [z])) e⟩) (fun _ _ e => e) (fun _ _ _ e => e) (fun b ps e => ⟨#[], by rw [e]; simp⟩) (fun m hm => ?_) (fun b u e => ?_) I.bare
  · have e : b = it := by simpa using hb
    subst e
    exact ⟨h1, hL, h2, h3⟩
  · obtain ⟨o, es, ep, ho, r⟩ := hm
    exact ⟨o, es, ep, k _ o (Ne.symm hL) ho, r⟩
  · refine (I.hok b u e).stay (fun c v hc q => k c v ?_ q) (fun _ q => q) fun _ _ q => q
    rcases hc with z | z
    · rw [z]; exact nit b u e
    · exact nit c _ z
theorem Inv.tok (I : Inv X pins σ H s) (t : Nat) : Inv X pins σ H { s with toks := t } := I.un (h' := s.heap) (t' := t) Un.refl I.hok
/-- all objects kept -/
theorem Inv.kept {t' : Nat} (I : Inv X pins σ H s) (k : ∀ b u, s.heap.get? b = some u → h'.get? b = some u) : Inv X pins σ H { s with heap := h', toks := t' } := I.un (Un.kept k) (I.hok.kept k)
/-- a new object laid and tracked -/
theorem Inv.laid {a : Addr} {o : HO} {t' : Nat} (I : Inv X pins σ H s) (k : ∀ b u, s.heap.get? b = some u → h'.get? b = some u) (hp : s.heap.objs.size ≤ a) (new : ObjOk X.prog X.w (upd H a o) h' a o) :
    Inv X pins σ (upd H a o) { s with heap := h', toks := t' } := I.un (Un.laid k hp (I.hok.fresh hp)) (I.hok.laid k hp new)
/-- an object written -/
theorem Inv.write {x e : Addr} {o : HO} {t' : Nat} (I : Inv X pins σ H s) (mu : Mut (H x)) (he : e = x ∨ H e = some (.own x)) (k : ∀ b u, b ≠ e → s.heap.get? b = some u → h'.get? b = some u) (heo : ∃ u, h'.get? e = some u)
    (new : ObjOk X.prog X.w (upd H x o) h' x o) : Inv X pins σ (upd H x o) { s with heap := h', toks := t' } := I.un (Un.write mu he k heo) (I.hok.write mu he k heo new)
/-- forgetting slots, pins -/
theorem Inv.weak {σ' : List (Option V)} (I : Inv X pins σ H s) (hl : σ'.length = σ.length) (w : ∀ (i : Nat) v, σ'[i]? = some (some v) → σ[i]? = some (some v)) : Inv X pins σ' H s :=
  ⟨I.ok, I.os, I.bare, I.base, let ⟨m, hn, hl'⟩ := I.loc; ⟨m, hn, fun i x v e1 e2 e3 => hl' i x v e1 (w i v e2) e3⟩, I.cell, I.free, I.freeC, I.pin, I.hok, hl.trans I.len⟩
theorem Inv.pins_of {pins' : List (Addr × Obj)} (I : Inv X pins σ H s) (h : ∀ p ∈ pins', s.heap.get? p.1 = some p.2 ∧ H p.1 = none ∧ p.1 ≠ X.env.locals ∧ p.1 ∉ X.fs ∧ ∀ v, p.2.data ≠ .cell v) : Inv X pins' σ H s :=
  ⟨I.ok, I.os, I.bare, I.base, I.loc, I.cell, I.free, I.freeC, fun p hp => (List.mem_append.mp hp).elim (fun z => I.pin p (List.mem_append_left _ z)) (h p), I.hok, I.len⟩

theorem nodup_ix {N : List Str} (hN : N.Nodup) {i j : Nat} {x : Str} (a : N[i]? = some x) (b : N[j]? = some x) : i = j := by
  obtain ⟨h1, e1⟩ := List.getElem?_eq_some_iff.mp a
  obtain ⟨h2, e2⟩ := List.getElem?_eq_some_iff.mp b
  exact (List.getElem_inj hN).mp (e1.trans e2.symm)

/-- a name is stored; what changed -/
theorem store_ok2 {M : Model} {A : Around} {E : Value → Shared → Prop} {i : Nat} {x : Str} {v : V} {u : Value} {Q : Unit → Shared → Prop} (I : Inv X pins σ H s) (hN : X.N.Nodup) (hi : X.N[i]? = some x) (hx : Loc X.env.scope x) (r : RelV v u)
    (h : ∀ s', Inv X pins (σ.set i (some v)) H s' → (∃ a, Heap.SameBut a s.heap s'.heap ∧ (a = X.env.locals ∨ X.env.cells.lookup x = some a)) → Q () s') (hf : X.fn x = true ∨ X.env.scope.names.lookup x = some .local := by first | exact .inl rfl | exact .inr rfl | assumption) : wpAny M A (storeName X.env x u) Q E s := by
  obtain ⟨m, hn, hl⟩ := id I.loc
  have hcls : (X.env.scope.kind == .class || (X.env.scope.kind == .module && X.env.locals != X.env.globals)) = false := by rw [I.ok.kind]; rfl
  have hiσ : i < σ.length := by rw [I.len]; exact (List.getElem?_eq_some_iff.mp hi).1
  have cne := I.cne
  have tracked : ∀ {a : Addr} {h' : Heap}, (∃ o, s.heap.get? a = some o ∧ H a = none) → Heap.SameBut a s.heap h' → HOk X.prog X.w H h' := fun {a h'} ha hs b ob e => by
    obtain ⟨_, _, hfree⟩ := ha
    refine (I.hok b ob e).stay (fun c w' hc q => (hs.2 c ?_).trans q) (fun _ q => q) fun _ _ q => q
    rintro rfl
    rcases hc with rfl | hc
    · rw [hfree] at e; cases e
    · rw [hfree] at hc; cases hc
  rcases hx with hk | hk
  · refine wpAny_storeName_local hk hn (fun h' hn' hs => ?_) hcls
    obtain ⟨oL, _, _, hoL, _⟩ := id hn
    refine h _ ⟨I.ok, I.os, I.bare, ⟨fun b o e n hb hx => ?_, fun b o e n hb hx => ?_, I.base.free, fun b o e hx => ?_, I.base.tups, I.base.frzs, I.base.tbls⟩, ⟨_, hn', fun j y v' e1 e2 e3 => ?_⟩, fun y c e => ?_, I.free, I.freeC, fun p hp => ?_, tracked ⟨oL, hoL, I.free⟩ hs, by simpa using I.len⟩ ⟨_, hs, .inl rfl⟩
    · exact (hs.2 b (Nat.ne_of_lt (Nat.lt_of_lt_of_le (Heap.lt_size e) I.ok.above))).trans (I.base.keep b o e n hb hx)
    · obtain ⟨sl, e1⟩ := I.base.slot b o e n hb hx
      exact ⟨sl, (hs.2 b (Nat.ne_of_lt (Nat.lt_of_lt_of_le (Heap.lt_size e) I.ok.above))).trans e1⟩
    · obtain ⟨o', e1⟩ := I.base.there b o e hx
      exact ⟨o', (hs.2 b (Nat.ne_of_lt (Nat.lt_of_lt_of_le (Heap.lt_size e) I.ok.above))).trans e1⟩
    · by_cases hj : j = i
      · subst hj
        rw [hi] at e1; cases e1
        rw [List.getElem?_set_self hiσ] at e2
        cases e2
        exact ⟨u, r, .inl ⟨hk, by simp⟩⟩
      · rw [List.getElem?_set_ne (Ne.symm hj)] at e2
        obtain ⟨u', r', q⟩ := hl j y v' e1 e2 e3
        refine ⟨u', r', ?_⟩
        rcases q with ⟨k, e⟩ | ⟨k, c, e, z⟩
        · refine .inl ⟨k, ?_⟩
          have : y ≠ x := fun e => hj (nodup_ix hN e1 (e ▸ hi))
          simp [this, e]
        · exact .inr ⟨k, c, e, z.sameBut hs (cne y c e)⟩
    · obtain ⟨w', z⟩ := I.cell y c e
      exact ⟨w', z.sameBut hs (cne y c e)⟩
    · obtain ⟨e, n, ne, nf, d⟩ := I.pin p hp
      exact ⟨(hs.2 p.1 ne).trans e, n, ne, nf, d⟩
  · have hfn : X.fn x = true := by
      rcases hf with z | z
      · exact z
      · rw [z] at hk; cases hk
    obtain ⟨c, hc⟩ := I.ok.has x (.inl hk)
    obtain ⟨w', z⟩ := I.cell x c hc
    refine wpAny_storeName_cell I.ok.kind hk hc z (fun h' hc' hs => ?_)
    obtain ⟨oc, hoc, hocd⟩ := id z
    refine h { s with heap := h' } ⟨I.ok, I.os, I.bare, ⟨fun b o e n hb hx => ?_, fun b o e n hb hx => ?_, I.base.free, fun b o e hx => ?_, I.base.tups, I.base.frzs, I.base.tbls⟩, ⟨m, hn.sameBut hs (Ne.symm (cne x c hc)), fun j y v' e1 e2 e3 => ?_⟩, fun y c' e => ?_, I.free, I.freeC, fun p hp => ?_, tracked ⟨oc, hoc, I.freeC x c hc⟩ hs, by simpa using I.len⟩ ⟨c, hs, .inr hc⟩
    · exact (hs.2 b (Nat.ne_of_lt (Nat.lt_of_lt_of_le (Heap.lt_size e) (I.ok.cab x c hfn hc)))).trans (I.base.keep b o e n hb hx)
    · obtain ⟨sl, e1⟩ := I.base.slot b o e n hb hx
      exact ⟨sl, (hs.2 b (Nat.ne_of_lt (Nat.lt_of_lt_of_le (Heap.lt_size e) (I.ok.cab x c hfn hc)))).trans e1⟩
    · obtain ⟨o', e1⟩ := I.base.there b o e hx
      exact ⟨o', (hs.2 b (Nat.ne_of_lt (Nat.lt_of_lt_of_le (Heap.lt_size e) (I.ok.cab x c hfn hc)))).trans e1⟩
    · by_cases hj : j = i
      · subst hj
        rw [hi] at e1; cases e1
        rw [List.getElem?_set_self hiσ] at e2
        cases e2
        exact ⟨u, r, .inr ⟨.inl hk, c, hc, hc'⟩⟩
      · rw [List.getElem?_set_ne (Ne.symm hj)] at e2
        obtain ⟨u', r', q⟩ := hl j y v' e1 e2 e3
        refine ⟨u', r', ?_⟩
        rcases q with q | ⟨k, c', e, z'⟩
        · exact .inl q
        · refine .inr ⟨k, c', e, z'.sameBut hs ?_⟩
          rintro rfl
          exact hj (nodup_ix hN e1 (I.ok.inj _ _ _ e hc ▸ hi))
    · by_cases hcc : c' = c
      · subst hcc; exact ⟨_, hc'⟩
      · obtain ⟨w2, z2⟩ := I.cell y c' e
        exact ⟨w2, z2.sameBut hs hcc⟩
    · obtain ⟨e, n, ne, nf, d⟩ := I.pin p hp
      refine ⟨(hs.2 p.1 ?_).trans e, n, ne, nf, d⟩
      intro q
      rw [q, hoc] at e
      have q' : oc = p.2 := Option.some.inj e
      exact d w' (by rw [← q']; exact hocd)
theorem store_ok {M : Model} {A : Around} {E : Value → Shared → Prop} {i : Nat} {x : Str} {v : V} {u : Value} {Q : Unit → Shared → Prop} (I : Inv X pins σ H s) (hN : X.N.Nodup) (hi : X.N[i]? = some x) (hx : Loc X.env.scope x) (r : RelV v u)
    (h : ∀ s', Inv X pins (σ.set i (some v)) H s' → Q () s') (hf : X.fn x = true ∨ X.env.scope.names.lookup x = some .local := by first | exact .inl rfl | exact .inr rfl | assumption) : wpAny M A (storeName X.env x u) Q E s :=
  store_ok2 I hN hi hx r (fun s' I' _ => h s' I') hf
/-- behind a call or a block, the state as it is -/
theorem Inv.call' {s' : Shared} {ch : List Addr} (I : Inv X pins σ H s) (ho : s'.os = s.os) (u : Un (frs X.stack) ch H H' s.heap s'.heap) (hok : HOk X.prog X.w H' s'.heap) (hg : AllBare s'.gens)
    (hch : ∀ b ∈ ch, (b ∈ X.ex ∨ X.s₀.heap.objs.size ≤ b) ∧ b ≠ X.env.locals ∧ (∀ x c, X.env.cells.lookup x = some c → c ≠ b) ∧ ∀ p ∈ X.pn ++ pins, p.1 ≠ b) : Inv X pins σ H' s' := by
  obtain ⟨h', g', d', t', o'⟩ := s'
  have e : o' = s.os := ho
  subst e
  exact I.call (g' := g') (t' := t') (d' := d') u hok hg hch
end

/-! ### the judgements -/
/-- an exception: its class, its own dict's address (where it has one), the abstract heap behind it -/
abbrev XK := Value → Option Addr → Hp → Prop
abbrev St := List (Option V)
abbrev VK := V → Hp → Prop
/-- an expression's reading; a test's; an argument list's -/
abbrev TE := St → Hp → VK → Prop
abbrev TT := St → Hp → (Bool → Hp → Prop) → Prop
abbrev TA := St → Hp → (List V → Hp → Prop) → Prop
/-- what is wanted behind a statement -/
structure Ends where
  nx : St → Hp → Prop
  rt : VK
  bk : St → Hp → Prop := fun _ _ => False
  ct : St → Hp → Prop := fun _ _ => False
abbrev TS := Ends → St → Hp → Prop

def EP (X : Cx) (pins : List (Addr × Obj)) (σ : St) (Q : VK) (u : Value) (s' : Shared) : Prop := ∃ v H', Inv X pins σ H' s' ∧ RelV v u ∧ Q v H'
def TP (X : Cx) (pins : List (Addr × Obj)) (σ : St) (Q : Bool → Hp → Prop) (b : Bool) (s' : Shared) : Prop := ∃ H', Inv X pins σ H' s' ∧ Q b H'
def AP (X : Cx) (pins : List (Addr × Obj)) (σ : St) (Q : List V → Hp → Prop) (us : List Value) (s' : Shared) : Prop := ∃ vs H', Inv X pins σ H' s' ∧ Vals vs us ∧ Q vs H'
def SP (X : Cx) (pins : List (Addr × Obj)) (D : Ends) (f : Flow) (s' : Shared) : Prop :=
  match f with
  | .next => ∃ σ' H', Inv X pins σ' H' s' ∧ D.nx σ' H'
  | .brk => ∃ σ' H', Inv X pins σ' H' s' ∧ D.bk σ' H'
  | .cont => ∃ σ' H', Inv X pins σ' H' s' ∧ D.ct σ' H'
  | .ret u => ∃ v σ' H', Inv X pins σ' H' s' ∧ RelV v u ∧ D.rt v H'

def PE (X : Cx) (e : Expr) (t : TE) : Prop :=
  ∀ (pins : List (Addr × Obj)) (s : Shared) (σ : St) (H : Hp) (Q : VK), Inv X pins σ H s → t σ H Q → wpAny (model X.prog X.w) X.A (eval e X.env) (EP X pins σ Q) X.xe s
def PT (X : Cx) (e : Expr) (t : TT) : Prop :=
  ∀ (pins : List (Addr × Obj)) (s : Shared) (σ : St) (H : Hp) (Q : Bool → Hp → Prop), Inv X pins σ H s → t σ H Q → wpAny (model X.prog X.w) X.A (isTrue e X.env (eval e X.env)) (TP X pins σ Q) X.xe s
/-- a test whatever its 'whole' is (and, or) -/
def PW (X : Cx) (e : Expr) (t : TT) : Prop :=
  ∀ (whole : Sem Value) (pins : List (Addr × Obj)) (s : Shared) (σ : St) (H : Hp) (Q : Bool → Hp → Prop), Inv X pins σ H s → t σ H Q → wpAny (model X.prog X.w) X.A (isTrue e X.env whole) (TP X pins σ Q) X.xe s
theorem PW.pt {X : Cx} {e : Expr} {t : TT} (h : PW X e t) : PT X e t := h _
/-- an argument list (no star), from the left -/
def PA (X : Cx) (es : List Expr) (t : TA) : Prop :=
  ∀ (pos : Pos) (pins : List (Addr × Obj)) (s : Shared) (σ : St) (H : Hp) (Q : List V → Hp → Prop), Inv X pins σ H s → t σ H Q → wpAny (model X.prog X.w) X.A (spliced (backTo pos (starEach es X.env))) (AP X pins σ Q) X.xe s
def PS (X : Cx) (st : Stmt) (t : TS) : Prop :=
  ∀ (pins : List (Addr × Obj)) (s : Shared) (σ : St) (H : Hp) (D : Ends), Inv X pins σ H s → t D σ H → wpAny (model X.prog X.w) X.A (exec st X.env) (SP X pins D) X.xe s
def PSs (X : Cx) (st : List Stmt) (t : TS) : Prop :=
  ∀ (pins : List (Addr × Obj)) (s : Shared) (σ : St) (H : Hp) (D : Ends), Inv X pins σ H s → t D σ H → wpAny (model X.prog X.w) X.A (execs st X.env) (SP X pins D) X.xe s
/-- weaken the end -/
theorem thn {α : Type} {t : Sem α} {Q Q' : α → Shared → Prop} {M : Model} {A : Around} {E : Value → Shared → Prop} {s : Shared} (h : wpAny M A t Q E s) (hQ : ∀ a s, Q a s → Q' a s) : wpAny M A t Q' E s := wpAny_mono h hQ fun _ _ x => x
end L2

namespace L2
open PySem PySem.Spec PyProof.Rows
section
variable {X : Cx}

/-- two expressions in a row -/
theorem bin {a b : Expr} {ta tb : TE} (ha : PE X a ta) (hb : PE X b tb) {pins : List (Addr × Obj)} {s : Shared} {σ : St} {H : Hp} {R : V → V → Hp → Prop} (I : Inv X pins σ H s) (h : ta σ H fun x H1 => tb σ H1 fun y H2 => R x y H2)
    {α : Type} {Q : α → Shared → Prop} {f : Value → Value → Sem α}
    (hf : ∀ v u s2 x y H2, Inv X pins σ H2 s2 → RelV x v → RelV y u → R x y H2 → wpAny (model X.prog X.w) X.A (f v u) Q X.xe s2) :
    wpAny (model X.prog X.w) X.A (eval a X.env) (fun v s₁ => wpAny (model X.prog X.w) X.A (eval b X.env) (fun u s₂ => wpAny (model X.prog X.w) X.A (f v u) Q X.xe s₂) X.xe s₁) X.xe s := by
  refine thn (ha pins s σ H _ I h) fun v s1 ⟨x, H1, I1, r1, q1⟩ => ?_
  refine thn (hb pins s1 σ H1 _ I1 q1) fun u s2 ⟨y, H2, I2, r2, q2⟩ => ?_
  exact hf v u s2 x y H2 I2 r1 r2 q2

/-! ### names and constants -/
def tVar (i : Nat) : TE := fun σ H Q => ∃ v, σ[i]? = some (some v) ∧ Q v H
def tC (v : V) : TE := fun _ H Q => Q v H
theorem pe_var {i : Nat} {x : Str} {pos : Pos} (hN : X.N[i]? = some x) (hv : Vis X.env.scope x) (hd : (x == ("__debug__" : Str)) = false := by decide) (hcd : (x == ("__classdict__" : Str)) = false := by decide) : PE X (.Name x pos) (tVar i) := by
  intro pins s σ H Q I h
  obtain ⟨v, e, h⟩ := h
  obtain ⟨m, hn, hl⟩ := I.loc
  obtain ⟨u, r, l⟩ := hl i x v hN e hv
  have fin : EP X pins σ Q u s := ⟨v, H, I, r, h⟩
  rcases l with ⟨hk, hm⟩ | ⟨hk, c, hc, hcell⟩
  · exact wpAny_Name (wpAny_loadName_local I.ok.kind hk hn hm fin) hd
  · rcases hk with hk | hk
    · exact wpAny_Name (wpAny_loadName_cell I.ok.kind hk hc hcell fin) hd
    · exact wpAny_Name (wpAny_loadName_free I.ok.kind hk hc hcell fin hcd) hd
theorem pe_int {i j pos} : PE X (.Constant (.int i) j pos) (tC (.int i)) := fun _ _ _ H _ I h => wpAny_Constant_int ⟨.int i, H, I.tok _, ⟨_, rfl⟩, h⟩
theorem pe_bl {b j pos} : PE X (.Constant (.bool b) j pos) (tC (.bl b)) := fun _ _ _ H _ I h => Constant_bool ⟨.bl b, H, I, rfl, h⟩
theorem pe_non {j pos} : PE X (.Constant .none j pos) (tC .non) := fun _ _ _ H _ I h => Constant_none ⟨.non, H, I, rfl, h⟩
theorem pe_str {x j pos} : PE X (.Constant (.str x) j pos) (tC (.str x)) := fun _ _ _ H _ I h => Calls.Constant_str ⟨.str x, H, I.tok _, ⟨_, rfl⟩, h⟩

/-- a global name of the def -/
def Gl (X : Cx) (x : Str) : Prop := X.env.kindOf x = some .globalImplicit
theorem ld_glob {E : Value → Shared → Prop} {pins : List (Addr × Obj)} {s : Shared} {σ : St} {H : Hp} {x : Str} {u : Value} {pos : Pos} {Q : Value → Shared → Prop} (I : Inv X pins σ H s) (hg : Gl X x) (hm : X.mg x = some u) (h : Q u s)
    (hd : (x == ("__debug__" : Str)) = false := by decide) : wpAny (model X.prog X.w) X.A (eval (.Name x pos) X.env) Q E s :=
  Calls.Name_function_global I.ok.kind hg (Calls.loadGlobal_global (by rw [I.ok.glob]; exact I.mod.glob.keeps I.bk) hm h) hd
theorem ld_blt {E : Value → Shared → Prop} {pins : List (Addr × Obj)} {s : Shared} {σ : St} {H : Hp} {x : Str} {u : Value} {pos : Pos} {Q : Value → Shared → Prop} (I : Inv X pins σ H s) (hg : Gl X x) (hm : X.mg x = none) (hv : bootBuiltins x = some u) (h : Q u s)
    (hn : x ≠ "__name__" := by decide) (hd : (x == ("__debug__" : Str)) = false := by decide) : wpAny (model X.prog X.w) X.A (eval (.Name x pos) X.env) Q E s := by
  obtain ⟨mb, h1, h2⟩ := I.mod.blt
  exact Calls.Name_function_global I.ok.kind hg (Calls.loadGlobal_builtin (by rw [I.ok.glob]; exact I.mod.glob.keeps I.bk) hm (by rw [I.ok.blt]; exact h1.keeps I.bk) ((h2 x hn).trans hv) h) hd
/-- a module's constant, a class, a function, as a value -/
theorem pe_glob {x : Str} {v : V} {u : Value} {pos : Pos} (hg : Gl X x) (hm : X.mg x = some u) (r : RelV v u) (hd : (x == ("__debug__" : Str)) = false := by decide) : PE X (.Name x pos) (tC v) :=
  fun _ _ _ H _ I h => ld_glob I hg hm ⟨v, H, I, r, h⟩ hd
theorem pe_bltn {x : Str} {v : V} {u : Value} {pos : Pos} (hg : Gl X x) (hm : X.mg x = none) (hv : bootBuiltins x = some u) (r : RelV v u) (hn : x ≠ "__name__" := by decide) (hd : (x == ("__debug__" : Str)) = false := by decide) : PE X (.Name x pos) (tC v) :=
  fun _ _ _ H _ I h => ld_blt I hg hm hv ⟨v, H, I, r, h⟩ hn hd

/-! ### arithmetic -/
/-- two ints -/
def t2I (ta tb : TE) (k : Int → Int → Hp → Prop) : St → Hp → Prop := fun σ H => ta σ H fun x H1 => tb σ H1 fun y H2 => ∃ i j, x = .int i ∧ y = .int j ∧ k i j H2
def tAdd (ta tb : TE) : TE := fun σ H Q => t2I ta tb (fun i j H2 => Q (.int (i + j)) H2) σ H
def tSub (ta tb : TE) : TE := fun σ H Q => t2I ta tb (fun i j H2 => Q (.int (i - j)) H2) σ H
/-- the left factor below 2^64 -/
def tMul (ta tb : TE) : TE := fun σ H Q => t2I ta tb (fun i j H2 => (-(2 ^ 64) < i ∧ i < 2 ^ 64) ∧ Q (.int (i * j)) H2) σ H
variable {a b : Expr} {ta tb : TE} {pos : Pos}
theorem pe_add (ha : PE X a ta) (hb : PE X b tb) : PE X (.BinOp a .Add b pos) (tAdd ta tb) := by
  intro pins s σ H Q I h
  refine wpAny_BinOp (bin ha hb I h fun v u s2 x y H2 I2 rx ry q => ?_)
  obtain ⟨i, j, rfl, rfl, q⟩ := q
  obtain ⟨t, rfl⟩ := rx
  obtain ⟨t', rfl⟩ := ry
  exact add_int ⟨.int _, H2, I2.tok _, ⟨_, rfl⟩, q⟩
theorem pe_sub (ha : PE X a ta) (hb : PE X b tb) : PE X (.BinOp a .Sub b pos) (tSub ta tb) := by
  intro pins s σ H Q I h
  refine wpAny_BinOp (bin ha hb I h fun v u s2 x y H2 I2 rx ry q => ?_)
  obtain ⟨i, j, rfl, rfl, q⟩ := q
  obtain ⟨t, rfl⟩ := rx
  obtain ⟨t', rfl⟩ := ry
  exact sub_int ⟨.int _, H2, I2.tok _, ⟨_, rfl⟩, q⟩
theorem pe_mul (ha : PE X a ta) (hb : PE X b tb) : PE X (.BinOp a .Mult b pos) (tMul ta tb) := by
  intro pins s σ H Q I h
  refine wpAny_BinOp (bin ha hb I h fun v u s2 x y H2 I2 rx ry q => ?_)
  obtain ⟨i, j, rfl, rfl, ⟨q1, q2⟩, q⟩ := q
  obtain ⟨t, rfl⟩ := rx
  obtain ⟨t', rfl⟩ := ry
  exact mul_int ⟨.int _, H2, I2.tok _, ⟨_, rfl⟩, q⟩ (.of_left (intBits_le_64 q1 q2))

/-! ### comparisons -/
def PC (X : Cx) (op : CmpOp) (a b : Expr) (t : TE) : Prop :=
  ∀ (pins : List (Addr × Obj)) (s : Shared) (σ : St) (H : Hp) (Q : VK), Inv X pins σ H s → t σ H Q →
    wpAny (model X.prog X.w) X.A (eval a X.env) (fun v s₁ => wpAny (model X.prog X.w) X.A (eval b X.env) (fun u s₂ => wpAny (model X.prog X.w) X.A (compareOp op v u) (EP X pins σ Q) X.xe s₂) X.xe s₁) X.xe s
theorem nobehind (b : Expr) {op : CmpOp} (h : op ≠ .In) (h2 : op ≠ .NotIn) : behindInMarks op b = false := by
  have e1 : (op == CmpOp.In) = false := by cases op <;> first | rfl | exact absurd rfl h
  have e2 : (op == CmpOp.NotIn) = false := by cases op <;> first | rfl | exact absurd rfl h2
  cases b <;> simp [behindInMarks, e1, e2]
def tCmp (p : Int → Int → Bool) (ta tb : TE) : TE := fun σ H Q => t2I ta tb (fun i j H2 => Q (.bl (p i j)) H2) σ H
abbrev tLt : TE → TE → TE := tCmp fun i j => decide (i < j)
abbrev tLe : TE → TE → TE := tCmp fun i j => decide (i ≤ j)
abbrev tGt : TE → TE → TE := tCmp fun i j => decide (j < i)
abbrev tGe : TE → TE → TE := tCmp fun i j => decide (j ≤ i)
abbrev tEqI : TE → TE → TE := tCmp fun i j => decide (i = j)
abbrev tNeI : TE → TE → TE := tCmp fun i j => !decide (i = j)
/-- a comparison of two ints, by its rule -/
theorem pc_int {op : CmpOp} {p : Int → Int → Bool} (ha : PE X a ta) (hb : PE X b tb)
    (rule : ∀ (i j : Int) (t u : Tok) (Q : Value → Shared → Prop) (s : Shared), Q (.bool (p i j)) s → wpAny (model X.prog X.w) X.A (compareOp op (.int i t) (.int j u)) Q X.xe s) : PC X op a b (tCmp p ta tb) := by
  intro pins s σ H Q I h
  refine bin ha hb I h fun v u s2 x y H2 I2 rx ry q => ?_
  obtain ⟨i, j, rfl, rfl, q⟩ := q
  obtain ⟨t, rfl⟩ := rx
  obtain ⟨t', rfl⟩ := ry
  exact rule i j t t' _ s2 ⟨.bl _, H2, I2, rfl, q⟩
theorem pc_lt (ha : PE X a ta) (hb : PE X b tb) : PC X .Lt a b (tLt ta tb) := pc_int ha hb fun _ _ _ _ _ _ h => lt_int h
theorem pc_le (ha : PE X a ta) (hb : PE X b tb) : PC X .LtE a b (tLe ta tb) := pc_int ha hb fun _ _ _ _ _ _ h => le_int h
theorem pc_gt (ha : PE X a ta) (hb : PE X b tb) : PC X .Gt a b (tGt ta tb) := pc_int ha hb fun _ _ _ _ _ _ h => gt_int h
theorem pc_ge (ha : PE X a ta) (hb : PE X b tb) : PC X .GtE a b (tGe ta tb) := pc_int ha hb fun _ _ _ _ _ _ h => ge_int h
theorem pc_eqI (ha : PE X a ta) (hb : PE X b tb) : PC X .Eq a b (tEqI ta tb) := pc_int ha hb fun _ _ _ _ _ _ h => eq_int (by rw [Bool.beq_eq_decide_eq]; exact h)
theorem pc_neI (ha : PE X a ta) (hb : PE X b tb) : PC X .NotEq a b (tNeI ta tb) := pc_int ha hb fun _ _ _ _ _ _ h => ne_int (by rw [bne, Bool.beq_eq_decide_eq]; exact h)
/-- is None -/
def tIsN (ta : TE) : TE := fun σ H Q => ta σ H fun x H1 => Q (.bl (decide (x = .non))) H1
def tNotN (ta : TE) : TE := fun σ H Q => ta σ H fun x H1 => Q (.bl (!decide (x = .non))) H1
theorem RelV.none_iff {x : V} {v : Value} (r : RelV x v) : (v == Value.none) = decide (x = .non) := by
  cases x with
  | non => cases r; rfl
  | bl _ => cases r; rfl
  | int _ => obtain ⟨t, rfl⟩ := r; rfl
  | str _ => obtain ⟨t, rfl⟩ := r; rfl
  | byt _ => obtain ⟨t, rfl⟩ := r; rfl
  | flt _ => obtain ⟨t, rfl⟩ := r; rfl
  | ref _ => cases r; rfl
  | ty _ => cases r; rfl
theorem pc_isN {j pos'} (ha : PE X a ta) : PC X .Is a (.Constant .none j pos') (tIsN ta) := by
  intro pins s σ H Q I h
  refine thn (ha pins s σ H _ I h) fun v s1 ⟨x, H1, I1, r1, q1⟩ => ?_
  exact Constant_none (is_none_gen ⟨.bl _, H1, I1, by rw [r1.none_iff]; rfl, q1⟩)
theorem pc_notN {j pos'} (ha : PE X a ta) : PC X .IsNot a (.Constant .none j pos') (tNotN ta) := by
  intro pins s σ H Q I h
  refine thn (ha pins s σ H _ I h) fun v s1 ⟨x, H1, I1, r1, q1⟩ => ?_
  exact Constant_none (isnot_none_gen ⟨.bl _, H1, I1, by rw [r1.none_iff]; rfl, q1⟩)
/-- a comparison as a value, as a test -/
def tB (t : TE) : TT := fun σ H Q => t σ H fun x H1 => ∃ c, x = .bl c ∧ Q c H1
theorem pe_cmp {op : CmpOp} {t : TE} (h : PC X op a b t) (h1 : behindInMarks op b = false := by first | exact nobehind _ (by decide) (by decide) | rfl) : PE X (.Compare a [op] [b] pos) t := fun pins s σ H Q I hw => wpAny_Compare1 (h pins s σ H Q I hw) h1
theorem pt_cmp {op : CmpOp} {t : TE} (h : PC X op a b t) (h1 : behindInMarks op b = false := by first | exact nobehind _ (by decide) (by decide) | rfl) : PT X (.Compare a [op] [b] pos) (tB t) := by
  intro pins s σ H Q I hw
  refine wpAny_isTrue_Compare1 (thn (h pins s σ H _ I hw) fun v s1 h1 => thn h1 fun u s2 h2 => thn h2 fun c s3 ⟨x, H1, I1, r1, q1⟩ => ?_) h1
  obtain ⟨d, rfl, q⟩ := q1
  cases r1
  exact wpAny_truthy_bool ⟨H1, I1, q⟩
/-- an expression whose value is a bool, as a test -/
theorem pt_val {e : Expr} {t : TE} (h : PE X e t) (he : ∀ whole, isTrue e X.env whole = (do let v ← whole; standAt e.pos; holding [v] (truthy v)) := by intro _; rfl) : PT X e (tB t) := by
  intro pins s σ H Q I hw
  refine isTrue_plain (thn (h pins s σ H _ I hw) fun v s1 ⟨x, H1, I1, r1, q1⟩ => ?_) (he _)
  obtain ⟨d, rfl, q⟩ := q1
  cases r1
  exact wpAny_truthy_bool ⟨H1, I1, q⟩

/-! ### and, or, not -/
variable {tA tB' : TT} {rest : List Expr}
def tAnd (t u : TT) : TT := fun σ H Q => t σ H fun c H1 => if c = true then u σ H1 Q else Q false H1
def tOr (t u : TT) : TT := fun σ H Q => t σ H fun c H1 => if c = true then Q true H1 else u σ H1 Q
def tNot (t : TT) : TT := fun σ H Q => t σ H fun c H1 => Q (!c) H1
theorem pw_and1 (ha : PT X a tA) : PW X (.BoolOp .And [a] pos) tA := by
  intro wh pins s σ H Q I h
  refine isTrue_and (thn (ha pins s σ H Q I h) fun c s1 e => ?_)
  cases c with
  | true => exact isTrue_and_nil e
  | false => exact e
theorem pw_or1 (ha : PT X a tA) : PW X (.BoolOp .Or [a] pos) tA := by
  intro wh pins s σ H Q I h
  refine isTrue_or (thn (ha pins s σ H Q I h) fun c s1 e => ?_)
  cases c with
  | false => exact isTrue_or_nil e
  | true => exact e
theorem pw_and (ha : PT X a tA) (hb : PW X (.BoolOp .And (b :: rest) pos) tB') : PW X (.BoolOp .And (a :: b :: rest) pos) (tAnd tA tB') := by
  intro wh pins s σ H Q I h
  refine isTrue_and (thn (ha pins s σ H _ I h) fun c s1 ⟨H1, I1, q1⟩ => ?_)
  cases c with
  | true => exact hb wh pins s1 σ H1 Q I1 q1
  | false => exact ⟨H1, I1, q1⟩
theorem pw_or (ha : PT X a tA) (hb : PW X (.BoolOp .Or (b :: rest) pos) tB') : PW X (.BoolOp .Or (a :: b :: rest) pos) (tOr tA tB') := by
  intro wh pins s σ H Q I h
  refine isTrue_or (thn (ha pins s σ H _ I h) fun c s1 ⟨H1, I1, q1⟩ => ?_)
  cases c with
  | true => exact ⟨H1, I1, q1⟩
  | false => exact hb wh pins s1 σ H1 Q I1 q1
theorem pt_not (ha : PT X a tA) : PT X (.UnaryOp .Not a pos) (tNot tA) := by
  intro pins s σ H Q I h
  exact isTrue_not (ha pins s σ H (fun c H1 => Q (!c) H1) I h)
/-- .. as values (bools) -/
def tAndV (ta tb : TE) : TE := fun σ H Q => ta σ H fun x H1 => ∃ c, x = .bl c ∧ if c = true then tb σ H1 Q else Q (.bl false) H1
def tOrV (ta tb : TE) : TE := fun σ H Q => ta σ H fun x H1 => ∃ c, x = .bl c ∧ if c = true then Q (.bl true) H1 else tb σ H1 Q
def tNotV (ta : TE) : TE := fun σ H Q => ta σ H fun x H1 => ∃ c, x = .bl c ∧ Q (.bl (!c)) H1
theorem pe_one {op} {t : TE} (h : PE X a t) : PE X (.BoolOp op [a] pos) t := fun pins s σ H Q I hw => BoolOp_one (h pins s σ H Q I hw)
theorem pe_and (ha : PE X a ta) (hb : PE X (.BoolOp .And (b :: rest) pos) tb) : PE X (.BoolOp .And (a :: b :: rest) pos) (tAndV ta tb) := by
  intro pins s σ H Q I h
  refine BoolOp_and (thn (ha pins s σ H _ I h) fun v s1 ⟨x, H1, I1, r1, q1⟩ => ?_)
  obtain ⟨c, rfl, q1⟩ := q1
  cases r1
  refine wpAny_truthy_bool ?_
  cases c with
  | true => exact hb pins s1 σ H1 Q I1 q1
  | false => exact ⟨.bl false, H1, I1, rfl, q1⟩
theorem pe_or (ha : PE X a ta) (hb : PE X (.BoolOp .Or (b :: rest) pos) tb) : PE X (.BoolOp .Or (a :: b :: rest) pos) (tOrV ta tb) := by
  intro pins s σ H Q I h
  refine BoolOp_or (thn (ha pins s σ H _ I h) fun v s1 ⟨x, H1, I1, r1, q1⟩ => ?_)
  obtain ⟨c, rfl, q1⟩ := q1
  cases r1
  refine wpAny_truthy_bool ?_
  cases c with
  | false => exact hb pins s1 σ H1 Q I1 q1
  | true => exact ⟨.bl true, H1, I1, rfl, q1⟩
theorem pe_not (ha : PE X a ta) : PE X (.UnaryOp .Not a pos) (tNotV ta) := by
  intro pins s σ H Q I h
  refine UnaryOp_ (thn (ha pins s σ H _ I h) fun v s1 ⟨x, H1, I1, r1, q1⟩ => ?_)
  obtain ⟨c, rfl, q1⟩ := q1
  cases r1
  exact not_of (wpAny_truthy_bool ⟨.bl (!c), H1, I1, rfl, q1⟩)
/-- a if t else b -/
def tIf (t : TT) (ta tb : TE) : TE := fun σ H Q => t σ H fun c H1 => if c = true then ta σ H1 Q else tb σ H1 Q
theorem pe_ifExp {c : Expr} (hc : PT X c tA) (ha : PE X a ta) (hb : PE X b tb) : PE X (.IfExp c a b pos) (tIf tA ta tb) := by
  intro pins s σ H Q I h
  refine wpAny_IfExp (thn (hc pins s σ H _ I h) fun d s1 ⟨H1, I1, q1⟩ => ?_)
  cases d with
  | true => exact ha pins s1 σ H1 Q I1 q1
  | false => exact hb pins s1 σ H1 Q I1 q1
end
end L2

namespace L2
open PySem PySem.Spec PyProof.Rows

/-! ### a list, a tuple that is read: tracked, frozen, or an object of the module -/
def SqL (K : PySem.W.Frag) (H : Hp) (a : Addr) (xs : List V) : Prop :=
  Rd H a (.lst xs) ∨
    ∃ (o : Obj) (its : Array Value) (n : Nat), K.lookup a = some o ∧ o.cls = .type "list" ∧ o.dict = none ∧ o.data = .seq its n ∧ its.size ≤ sizeLine ∧ Vals xs its.toList
def SqT (K : PySem.W.Frag) (H : Hp) (a : Addr) (xs : List V) : Prop :=
  Rd H a (.tup xs) ∨
    ∃ (o : Obj) (its : Array Value) (n : Nat), K.lookup a = some o ∧ o.cls = .type "tuple" ∧ o.data = .seq its n ∧ its.size ≤ sizeLine ∧ Vals xs its.toList
def absV : Value → Option V
  | .none => some .non
  | .bool b => some (.bl b)
  | .int i _ => some (.int i)
  | .str x _ => some (.str x)
  | .bytes b _ => some (.byt b)
  | .float b _ => some (.flt b)
  | .ref a => some (.ref a)
  | .type n => some (.ty n)
  | _ => none
theorem RelV.abs {x : V} {u : Value} (r : RelV x u) : absV u = some x := by
  cases x with
  | non => cases r; rfl
  | bl _ => cases r; rfl
  | int _ => obtain ⟨t, rfl⟩ := r; rfl
  | str _ => obtain ⟨t, rfl⟩ := r; rfl
  | byt _ => obtain ⟨t, rfl⟩ := r; rfl
  | flt _ => obtain ⟨t, rfl⟩ := r; rfl
  | ref _ => cases r; rfl
  | ty _ => cases r; rfl
theorem RelV.inj {x y : V} {u : Value} (r : RelV x u) (q : RelV y u) : x = y := Option.some.inj (r.abs.symm.trans q.abs)
theorem Vals.inj : ∀ {xs ys : List V} {us : List Value}, Vals xs us → Vals ys us → xs = ys
  | _, _, _, .nil, .nil => rfl
  | _, _, _, .cons r t, .cons r' t' => by rw [r.inj r', Vals.inj t t']
section
variable {X : Cx} {pins : List (Addr × Obj)} {σ : St} {H : Hp} {s : Shared} {a : Addr} {xs ys : List V}
theorem SqL.of {K : PySem.W.Frag} (h : H a = some (.lst xs)) : SqL K H a xs := .inl (.inl h)
theorem SqT.of {K : PySem.W.Frag} (h : H a = some (.tup xs)) : SqT K H a xs := .inl (.inl h)
theorem Inv.list (I : Inv X pins σ H s) (h : SqL X.K H a xs) : ∃ its : List Value, Vals xs its ∧ PlainL s.heap a its.toArray ∧ xs.length ≤ sizeLine := by
  rcases h with h | ⟨o, its, n, hk, hc, hd, hs, hz, r⟩
  · obtain ⟨z, its, n, r, e⟩ := h.ok I.hok
    exact ⟨its, r, ⟨_, n, e, rfl, rfl, rfl⟩, z⟩
  · refine ⟨its.toList, r, ⟨o, n, I.kIn a o hk, hc, hd, by simpa using hs⟩, ?_⟩
    have e := r.length
    simp only [Array.length_toList] at e
    omega
theorem Inv.tuple (I : Inv X pins σ H s) (h : SqT X.K H a xs) : ∃ its : List Value, Vals xs its ∧ IsTup s.heap a its.toArray ∧ xs.length ≤ sizeLine := by
  rcases h with h | ⟨o, its, n, hk, hc, hs, hz, r⟩
  · obtain ⟨z, its, r, p⟩ := h.ok I.hok
    exact ⟨its, r, p, z⟩
  · refine ⟨its.toList, r, ⟨o, I.kIn a o hk, hc, n, by simpa using hs⟩, ?_⟩
    have e := r.length
    simp only [Array.length_toList] at e
    omega
theorem Inv.list_inj (I : Inv X pins σ H s) (h : SqL X.K H a xs) (h' : SqL X.K H a ys) : xs = ys := by
  obtain ⟨its, r, ⟨o, n, e, _, _, d⟩, _⟩ := I.list h
  obtain ⟨its', r', ⟨o', n', e', _, _, d'⟩, _⟩ := I.list h'
  rw [e] at e'; cases e'
  rw [d] at d'
  injection d' with d1 _
  have : its = its' := by simpa using congrArg Array.toList d1
  subst this
  exact r.inj r'
theorem Inv.tuple_inj (I : Inv X pins σ H s) (h : SqT X.K H a xs) (h' : SqT X.K H a ys) : xs = ys := by
  obtain ⟨its, r, ⟨o, e, _, n, d⟩, _⟩ := I.tuple h
  obtain ⟨its', r', ⟨o', e', _, n', d'⟩, _⟩ := I.tuple h'
  rw [e] at e'; cases e'
  rw [d] at d'
  injection d' with d1 _
  have : its = its' := by simpa using congrArg Array.toList d1
  subst this
  exact r.inj r'
end

/-! ### another wish about exceptions -/
abbrev Cx.wish (X : Cx) (E : Value → Shared → Prop) : Cx := { X with xe := E }
/-- no exception leaves -/
abbrev Cx.nox (X : Cx) : Cx := X.wish fun _ _ => False
theorem Cx.Ok.wish {X : Cx} (ok : X.Ok) (E : Value → Shared → Prop) : (X.wish E).Ok :=
  ⟨ok.mod, ok.kind, ok.glob, ok.blt, ok.above, ok.inj, ok.has, ok.cab, ok.hd, ok.frames, ok.stk, ok.exf, ok.bs, ok.bsz, ok.noex, ok.exfs, ok.funs, ok.frf⟩
theorem Cx.Ok.unwish {X : Cx} {E : Value → Shared → Prop} (ok : (X.wish E).Ok) : X.Ok :=
  ⟨ok.mod, ok.kind, ok.glob, ok.blt, ok.above, ok.inj, ok.has, ok.cab, ok.hd, ok.frames, ok.stk, ok.exf, ok.bs, ok.bsz, ok.noex, ok.exfs, ok.funs, ok.frf⟩
section
variable {X : Cx} {pins : List (Addr × Obj)} {σ : St} {H : Hp} {s : Shared} {E : Value → Shared → Prop}
theorem Inv.wish (I : Inv X pins σ H s) (E : Value → Shared → Prop) : Inv (X.wish E) pins σ H s := ⟨I.ok.wish E, I.os, I.bare, I.base, I.loc, I.cell, I.free, I.freeC, I.pin, I.hok, I.len⟩
theorem Inv.unwish (I : Inv (X.wish E) pins σ H s) : Inv X pins σ H s := ⟨I.ok.unwish, I.os, I.bare, I.base, I.loc, I.cell, I.free, I.freeC, I.pin, I.hok, I.len⟩
theorem SP.unwish {D : Ends} {f : Flow} {s' : Shared} (h : SP (X.wish E) pins D f s') : SP X pins D f s' := by
  cases f with
  | next => obtain ⟨σ', H', I, q⟩ := h; exact ⟨σ', H', I.unwish, q⟩
  | brk => obtain ⟨σ', H', I, q⟩ := h; exact ⟨σ', H', I.unwish, q⟩
  | cont => obtain ⟨σ', H', I, q⟩ := h; exact ⟨σ', H', I.unwish, q⟩
  | ret u => obtain ⟨v, σ', H', I, r, q⟩ := h; exact ⟨v, σ', H', I.unwish, r, q⟩
theorem PE.nox {e : Expr} {t : TE} (h : PE X.nox e t) : PE X e t := fun pins s σ H Q I hw =>
  wpAny_mono (h pins s σ H Q (I.wish _) hw) (fun _ _ ⟨v, H', I', r, q⟩ => ⟨v, H', I'.unwish, r, q⟩) fun _ _ z => False.elim z
theorem PT.nox {e : Expr} {t : TT} (h : PT X.nox e t) : PT X e t := fun pins s σ H Q I hw =>
  wpAny_mono (h pins s σ H Q (I.wish _) hw) (fun _ _ ⟨H', I', q⟩ => ⟨H', I'.unwish, q⟩) fun _ _ z => False.elim z
theorem PSs.nox {st : List Stmt} {t : TS} (h : PSs X.nox st t) : PSs X st t := fun pins s σ H D I hw =>
  wpAny_mono (h pins s σ H D (I.wish _) hw) (fun _ _ q => q.unwish) fun _ _ z => False.elim z
end

/-! ### blocks and small statements -/
section
variable {X : Cx} {st : Stmt} {rest : List Stmt} {t u : TS} {e : Expr} {te : TE} {pos : Pos}
def tNext : TS := fun D σ H => D.nx σ H
def tSeq (t u : TS) : TS := fun D σ H => t { D with nx := u D } σ H
theorem pss_nil : PSs X [] tNext := fun _ _ σ H _ I h => wpAny_execs_nil ⟨σ, H, I, h⟩
theorem pss_cons (h1 : PS X st t) (h2 : PSs X rest u) : PSs X (st :: rest) (tSeq t u) := by
  intro pins s σ H D I h
  refine wpAny_execs_cons (thn (h1 pins s σ H { D with nx := u D } I h) fun f s1 q => ?_)
  cases f with
  | next =>
    obtain ⟨σ', H', I', q⟩ := q
    exact h2 pins s1 σ' H' D I' q
  | ret v => exact q
  | brk => exact q
  | cont => exact q
theorem pss_one (h1 : PS X st t) : PSs X [st] t := by
  intro pins s σ H D I h
  refine wpAny_execs_cons (thn (h1 pins s σ H D I h) fun f s1 q => ?_)
  cases f with
  | next => exact wpAny_execs_nil q
  | ret v => exact q
  | brk => exact q
  | cont => exact q
def tBreak : TS := fun D σ H => D.bk σ H
def tCont : TS := fun D σ H => D.ct σ H
theorem ps_pass : PS X (.Pass pos) tNext := fun _ _ σ H _ I h => wpAny_Pass ⟨σ, H, I, h⟩
theorem ps_break : PS X (.Break pos) tBreak := fun _ _ σ H _ I h => wpAny_Break ⟨σ, H, I, h⟩
theorem ps_continue : PS X (.Continue pos) tCont := fun _ _ σ H _ I h => wpAny_Continue ⟨σ, H, I, h⟩
/-- in a def's body nothing is shown -/
theorem Inv.quiet {pins : List (Addr × Obj)} {σ : St} {H : Hp} {s : Shared} (I : Inv X pins σ H s) : interactive X.env = false := by simp [interactive, I.ok.kind]
/-- a docstring -/
theorem ps_doc {x j pos pos'} : PS X (.Expr (.Constant (.str x) j pos) pos') tNext := fun _ s σ H _ I h => wpAny_Expr (Calls.Constant_str (show SP X _ _ .next { s with toks := s.toks + 1 } from ⟨σ, H, I.tok _, h⟩)) I.quiet
/-- an expression whose value is dropped -/
def tDrop (te : TE) : TS := fun D σ H => te σ H fun _ H1 => D.nx σ H1
theorem ps_expr (he : PE X e te) (hs : swapsWith e none pos.line X.env = pure false := by rfl) : PS X (.Expr e pos) (tDrop te) := by
  intro pins s σ H D I h
  exact wpAny_Expr_any (thn (he pins s σ H _ I h) fun v s1 ⟨x, H1, I1, r1, q1⟩ => ⟨σ, H1, I1, q1⟩) I.quiet hs
def tRet (te : TE) : TS := fun D σ H => te σ H D.rt
theorem ps_ret (he : PE X e te) : PS X (.Return (some e) pos) (tRet te) := by
  intro pins s σ H D I h
  exact wpAny_Return_some (thn (he pins s σ H _ I h) fun v s1 ⟨x, H1, I1, r1, q1⟩ => ⟨x, σ, H1, I1, r1, q1⟩)
def tRetN : TS := fun D _ H => D.rt .non H
theorem ps_retN : PS X (.Return none pos) tRetN := fun _ _ σ H _ I h => wpAny_Return_none ⟨.non, σ, H, I, rfl, h⟩
def tIfS (c : TT) (t u : TS) : TS := fun D σ H => c σ H fun b H1 => if b = true then t D σ H1 else u D σ H1
theorem ps_if {c : Expr} {a b : List Stmt} {tc : TT} (hc : PT X c tc) (ha : PSs X a t) (hb : PSs X b u) : PS X (.If c a b pos) (tIfS tc t u) := by
  intro pins s σ H D I h
  refine wpAny_If (thn (hc pins s σ H _ I h) fun d s1 ⟨H1, I1, q1⟩ => ?_)
  cases d with
  | true => exact ha pins s1 σ H1 D I1 q1
  | false => exact hb pins s1 σ H1 D I1 q1
/-- code that the proof never comes to -/
def tNever : TS := fun _ _ _ => False
theorem ps_never : PS X st tNever := fun _ _ _ _ _ _ h => h.elim
theorem pss_never {sts : List Stmt} : PSs X sts tNever := fun _ _ _ _ _ _ h => h.elim
end

/-! ### targets -/
abbrev TG := V → St → Hp → (St → Hp → Prop) → Prop
abbrev TGs := List V → St → Hp → (St → Hp → Prop) → Prop
def PG (X : Cx) (target : Expr) (t : TG) : Prop :=
  ∀ (pins : List (Addr × Obj)) (s : Shared) (σ : St) (H : Hp) (v : V) (u : Value) (Q : St → Hp → Prop), Inv X pins σ H s → RelV v u → t v σ H Q →
    wpAny (model X.prog X.w) X.A (assign target X.env u) (fun _ s' => ∃ σ' H', Inv X pins σ' H' s' ∧ Q σ' H') X.xe s
/-- several targets, one after another -/
def PGs (X : Cx) (ts : List Expr) (t : TGs) : Prop :=
  ∀ (pins : List (Addr × Obj)) (s : Shared) (σ : St) (H : Hp) (vs : List V) (us : List Value) (Q : St → Hp → Prop), Inv X pins σ H s → Vals vs us → t vs σ H Q →
    wpAny (model X.prog X.w) X.A (assignInOrder ((assignEach ts X.env).map (·.2)) us) (fun _ s' => ∃ σ' H', Inv X pins σ' H' s' ∧ Q σ' H') X.xe s
/-- o[i] = v, by values -/
abbrev TSet := V → V → V → Hp → (Hp → Prop) → Prop
def PSet (X : Cx) (t : TSet) : Prop :=
  ∀ (pins : List (Addr × Obj)) (s : Shared) (σ : St) (H : Hp) (o i v : V) (ov iv u : Value) (Q : Hp → Prop), Inv X pins σ H s → RelV o ov → RelV i iv → RelV v u → t o i v H Q →
    wpAny (model X.prog X.w) X.A (setItem ov iv u) (fun _ s' => ∃ H', Inv X pins σ H' s' ∧ Q H') X.xe s
/-- a op= b, by values -/
abbrev TIp := V → V → Hp → VK → Prop
def PIp (X : Cx) (op : Operator) (t : TIp) : Prop :=
  ∀ (pins : List (Addr × Obj)) (s : Shared) (σ : St) (H : Hp) (x y : V) (v u : Value) (Q : VK), Inv X pins σ H s → RelV x v → RelV y u → t x y H Q →
    wpAny (model X.prog X.w) X.A (inplaceOp op v u) (EP X pins σ Q) X.xe s
section
variable {X : Cx} {pos : Pos}
def gName (i : Nat) : TG := fun v σ H Q => Q (σ.set i (some v)) H
theorem pg_name {i : Nat} {x : Str} (hN : X.N.Nodup) (hi : X.N[i]? = some x) (hx : Loc X.env.scope x) (hf : X.fn x = true ∨ X.env.scope.names.lookup x = some .local := by first | exact .inl rfl | exact .inr rfl | assumption) : PG X (.Name x pos) (gName i) := by
  intro pins s σ H v u Q I r h
  exact wpAny_assign_Name (store_ok I hN hi hx r (fun s' I' => ⟨_, H, I', h⟩) hf)
def gNil : TGs := fun vs σ H Q => vs = [] ∧ Q σ H
def gCons (t : TG) (u : TGs) : TGs := fun vs σ H Q => ∃ v r, vs = v :: r ∧ t v σ H fun σ' H' => u r σ' H' Q
theorem pgs_nil : PGs X [] gNil := by
  intro pins s σ H vs us Q I r h
  obtain ⟨e, h⟩ := h
  subst e
  cases r
  exact assignInOrder_nil ⟨σ, H, I, h⟩
theorem pgs_cons {e : Expr} {es : List Expr} {t : TG} {u : TGs} (h1 : PG X e t) (h2 : PGs X es u)
    (hs : (assignEach (e :: es) X.env).map (·.2) = assign e X.env :: (assignEach es X.env).map (·.2) := by rfl) : PGs X (e :: es) (gCons t u) := by
  intro pins s σ H vs us Q I r h
  obtain ⟨v, vr, e1, h⟩ := h
  subst e1
  cases r with
  | cons r rr =>
    rw [hs]
    refine assignInOrder_cons (thn (h1 pins s σ H _ _ _ I r h) fun _ s1 ⟨σ1, H1, I1, q1⟩ => ?_)
    exact h2 pins s1 σ1 H1 _ _ Q I1 rr q1
/-- (a, b, ..) = a tuple of that length -/
def gTup (K : PySem.W.Frag) (n : Nat) (t : TGs) : TG := fun v σ H Q => ∃ a xs, v = .ref a ∧ SqT K H a xs ∧ xs.length = n ∧ t xs σ H Q
theorem pg_tup {es : List Expr} {k : Nat} {t : TGs} {n : Nat} (hc : X.calm = true) (h : PGs X es t)
    (hn : (assignEach es X.env).length = n := by rfl) (hst : (assignEach es X.env).findIdx? (·.1) = none := by rfl) : PG X (.Tuple es k pos) (gTup X.K n t) := by
  intro pins s σ H v u Q I r hw
  obtain ⟨a, xs, e1, hq, hl, hw⟩ := hw
  subst e1
  cases r
  obtain ⟨its, rv, ht, hz⟩ := I.tuple hq
  refine assign_Tuple_tuple (I.ok.hd hc) ht (by simp [hn, ← hl, rv.length]) hst fun h' hx => ?_
  have I1 : Inv X pins σ H { s with heap := h' } := I.kept (t' := s.toks) fun b o e => hx b o (Nat.ne_of_lt (Heap.lt_size e)) e
  exact h pins _ σ H xs _ Q I1 (by simpa using rv) hw
/-- o[i] = .. -/
def gSub (to ti : TE) (t : TSet) : TG := fun v σ H Q => to σ H fun o H1 => ti σ H1 fun i H2 => t o i v H2 fun H3 => Q σ H3
theorem pg_sub {o i : Expr} {to ti : TE} {t : TSet} (ho : PE X o to) (hi : PE X i ti) (hs : PSet X t)
    (ha : ∀ v, assign (.Subscript o i pos) X.env v = (do
      let ov ← holding [v] (eval o X.env)
      let iv ← holding [v, ov] (eval i X.env)
      standAt pos
      holding [v, ov, iv] (setItem ov iv v)
      release [v, ov, iv] []) := by intro _; rfl) : PG X (.Subscript o i pos) (gSub to ti t) := by
  intro pins s σ H v u Q I r h
  rw [ha]
  refine wpAny_bind (wpAny_holding (thn (ho pins s σ H _ I h) fun ov s1 ⟨x, H1, I1, r1, q1⟩ => ?_))
  refine wpAny_bind (wpAny_holding (thn (hi pins s1 σ H1 _ I1 q1) fun iv s2 ⟨y, H2, I2, r2, q2⟩ => ?_))
  refine wpAny_bind (wpAny_standAt (wpAny_bind (wpAny_holding (thn (hs pins s2 σ H2 x y v ov iv u _ I2 r1 r2 r q2) fun _ s3 ⟨H3, I3, q3⟩ => ?_))))
  exact wpAny_release ⟨σ, H3, I3, q3⟩
/-- target = value -/
def tAsg (te : TE) (g : TG) : TS := fun D σ H => te σ H fun x H1 => g x σ H1 D.nx
theorem ps_asg {tg e : Expr} {te : TE} {g : TG} (he : PE X e te) (hg : PG X tg g) (hs : swapsWithSole [tg] e pos.line X.env = pure false := by rfl) (hw : swappedStores [tg] e X.env = pure none := by rfl)
    (h1 : (assignEach [tg] X.env).map (·.2) = [assign tg X.env] := by rfl) : PS X (.Assign [tg] e pos) (tAsg te g) := by
  intro pins s σ H D I h
  refine wpAny_Assign_stores (thn (he pins s σ H _ I h) fun v s1 ⟨x, H1, I1, r1, q1⟩ => ?_) hs hw
  rw [h1]
  exact thn (hg pins s1 σ H1 x v _ I1 r1 q1) fun _ s2 q => q
/-- name = value -/
theorem ps_set {i : Nat} {x : Str} {e : Expr} {te : TE} {pos' : Pos} (hN : X.N.Nodup) (hi : X.N[i]? = some x) (hx : Loc X.env.scope x) (he : PE X e te) (hs : swapsWith e (some (.Name x pos')) pos.line X.env = pure false := by rfl) (hf : X.fn x = true ∨ X.env.scope.names.lookup x = some .local := by first | exact .inl rfl | exact .inr rfl | assumption) :
    PS X (.Assign [.Name x pos'] e pos) (tAsg te (gName i)) := by
  intro pins s σ H D I h
  refine wpAny_Assign_Name (thn (he pins s σ H _ I h) fun v s1 ⟨y, H1, I1, r1, q1⟩ => ?_) hs
  exact store_ok I1 hN hi hx r1 (fun s2 I2 => ⟨_, H1, I2, q1⟩) hf
/-- a, b = x, y with plain local names: stored from the right; the pair itself is not tracked (the opening rows as in PyProof/Rows/TupAssign.lean:23) -/
def tPar (i j : Nat) (ta : TA) : TS := fun D σ H => ta σ H fun vs H1 => ∃ v w, vs = [v, w] ∧ D.nx ((σ.set i (some v)).set j (some w)) H1
theorem ps_par {i j : Nat} {x y : Str} {a b : Expr} {ta : TA} {px py pt : Pos} {kt k2 pt2} (hc : X.calm = true) (hN : X.N.Nodup) (hi : X.N[i]? = some x) (hj : X.N[j]? = some y) (hij : i ≠ j)
    (hx : X.env.scope.names.lookup x = some .local) (hy : X.env.scope.names.lookup y = some .local) (ha : PA X [a, b] ta)
    (hw : swappedStores [.Tuple [.Name x px, .Name y py] kt pt] (.Tuple [a, b] k2 pt2) X.env = pure (some [x, y]))
    (hs : swapsWithSole [.Tuple [.Name x px, .Name y py] kt pt] (.Tuple [a, b] k2 pt2) pos.line X.env = pure false := by rfl) :
    PS X (.Assign [.Tuple [.Name x px, .Name y py] kt pt] (.Tuple [a, b] k2 pt2) pos) (tPar i j ta) := by
  intro pins s σ H D I h
  rw [exec_Assign_arm]
  refine wpAny_bind (wpAny_standAt ?_)
  rw [hs]
  refine wpAny_bind (wpAny_pure ?_)
  rw [if_neg (by decide)]
  refine wpAny_bind (Tuple_ (thn (ha _ pins s σ H _ I h) fun us s1 ⟨vs, H1, I1, r1, q1⟩ => ?_))
  obtain ⟨v, w, e1, q1⟩ := q1
  subst e1
  obtain ⟨u1, u2, rfl, rv, rw'⟩ : ∃ u1 u2, us = [u1, u2] ∧ RelV v u1 ∧ RelV w u2 := by
    cases r1 with
    | cons p q =>
      cases q with
      | cons p' q' =>
        cases q'
        exact ⟨_, _, rfl, p, p'⟩
  refine wpAny_newObj_type ?_ (by show 2 ≤ sizeLine; decide)
  have I2 : Inv X pins σ H1 { s1 with heap := s1.heap.push { cls := .type "tuple", data := .seq [u1, u2].toArray } } := I1.kept (t' := s1.toks) fun b o e => Heap.get?_push_of_some _ e
  rw [hw]
  refine wpAny_bind (wpAny_pure ?_)
  show wpAny (model X.prog X.w) X.A (do rule "assign.swapped-stores"; let items ← unpackItems (.ref s1.heap.objs.size) 2 none; assignInOrder [fun v => bindName X.env y v, fun v => bindName X.env x v] items.reverse; pure Flow.next) _ _ _
  refine wpAny_bind (wpAny_rule (wpAny_bind (unpackItems_tuple (items := #[u1, u2]) (I.ok.hd hc) (IsTup.new s1.heap _) fun h' hx' => ?_)))
  have I3 := I2.kept (h' := h') (t' := s1.toks) fun b o e => hx' b o (Nat.ne_of_lt (Heap.lt_size e)) e
  show wpAny _ _ (assignInOrder [fun v => bindName X.env y v, fun v => bindName X.env x v] [u2, u1] >>= fun _ => pure Flow.next) _ _ _
  refine wpAny_bind (assignInOrder_cons (wpAny_bindName (store_ok I3 hN hj (.inl hy) rw' (fun s2 I4 => ?_) (.inr hy))))
  refine assignInOrder_cons (wpAny_bindName (store_ok I4 hN hi (.inl hx) rv (fun s3 I5 => assignInOrder_nil (wpAny_pure ?_)) (.inr hx)))
  rw [List.set_comm _ _ (Ne.symm hij)] at I5
  exact ⟨_, H1, I5, q1⟩
/-- name op= e -/
def tAug (i : Nat) (te : TE) (ti : TIp) : TS := fun D σ H => ∃ x, σ[i]? = some (some x) ∧ te σ H fun y H1 => ti x y H1 fun z H2 => D.nx (σ.set i (some z)) H2
theorem ps_aug {i : Nat} {x : Str} {e : Expr} {te : TE} {op : Operator} {ti : TIp} {pos' : Pos} (hN : X.N.Nodup) (hi : X.N[i]? = some x) (hx : Loc X.env.scope x) (he : PE X e te) (ho : PIp X op ti) (hf : X.fn x = true ∨ X.env.scope.names.lookup x = some .local := by first | exact .inl rfl | exact .inr rfl | assumption) :
    PS X (.AugAssign (.Name x pos') op e pos) (tAug i te ti) := by
  intro pins s σ H D I h
  obtain ⟨v, e1, h⟩ := h
  obtain ⟨m, hn, hl⟩ := I.loc
  have vis : Vis X.env.scope x := by rcases hx with k | k; exact .inl k; exact .inr (.inl k)
  obtain ⟨u, r, l⟩ := hl i x v hi e1 vis
  refine wpAny_AugAssign_Name ?_
  have go : wpAny (model X.prog X.w) X.A (eval e X.env) (fun w s₂ => wpAny (model X.prog X.w) X.A (inplaceOp op u w) (fun r s₃ => wpAny (model X.prog X.w) X.A (storeName X.env x r) (fun _ => SP X pins D .next) X.xe s₃) X.xe s₂) X.xe s := by
    refine thn (he pins s σ H _ I h) fun w s1 ⟨y, H1, I1, r1, q1⟩ => ?_
    refine thn (ho pins s1 σ H1 v y u w _ I1 r r1 q1) fun z s2 ⟨zv, H2, I2, r2, q2⟩ => ?_
    exact store_ok I2 hN hi hx r2 (fun s3 I3 => ⟨_, H2, I3, q2⟩) hf
  rcases l with ⟨hk, hm⟩ | ⟨hk, c, hc, hcell⟩
  · exact wpAny_loadName_local I.ok.kind hk hn hm go
  · rcases hk with hk | hk
    · exact wpAny_loadName_cell I.ok.kind hk hc hcell go
    · rcases hx with k | k
      · have : X.env.scope.names.lookup x = some .free := hk
        rw [k] at this; cases this
      · have : X.env.scope.names.lookup x = some .free := hk
        rw [k] at this; cases this
/-- o[i] op= e -/
def tAugS (to ti te : TE) (tget : V → V → Hp → VK → Prop) (tip : TIp) (tset : TSet) : TS := fun D σ H => to σ H fun o H1 => ti σ H1 fun i H2 => tget o i H2 fun x H3 => te σ H3 fun y H4 => tip x y H4 fun z H5 => tset o i z H5 fun H6 => D.nx σ H6
/-- o[i], by values -/
def PGet (X : Cx) (t : V → V → Hp → VK → Prop) : Prop :=
  ∀ (pins : List (Addr × Obj)) (s : Shared) (σ : St) (H : Hp) (o i : V) (ov iv : Value) (Q : VK), Inv X pins σ H s → RelV o ov → RelV i iv → t o i H Q →
    wpAny (model X.prog X.w) X.A (getItem ov iv) (EP X pins σ Q) X.xe s
theorem ps_augS {o i e : Expr} {to ti te : TE} {tget : V → V → Hp → VK → Prop} {tip : TIp} {tset : TSet} {op : Operator} {tpos : Pos} (ho : PE X o to) (hi : PE X i ti) (hg : PGet X tget) (he : PE X e te) (hp : PIp X op tip) (hs : PSet X tset)
    (ha : ∀ ov iv new, augStore i ov iv new = (do holding [new, ov, iv] (setItem ov iv new); release [new, ov, iv] []; pure .next) := by intros; rfl) : PS X (.AugAssign (.Subscript o i tpos) op e pos) (tAugS to ti te tget tip tset) := by
  intro pins s σ H D I h
  refine wpAny_AugAssign_SubscriptAny (thn (ho pins s σ H _ I h) fun ov s1 ⟨x1, H1, I1, r1, q1⟩ => ?_) ha
  refine thn (hi pins s1 σ H1 _ I1 q1) fun iv s2 ⟨x2, H2, I2, r2, q2⟩ => ?_
  refine thn (hg pins s2 σ H2 x1 x2 ov iv _ I2 r1 r2 q2) fun old s3 ⟨x3, H3, I3, r3, q3⟩ => ?_
  refine thn (he pins s3 σ H3 _ I3 q3) fun v s4 ⟨x4, H4, I4, r4, q4⟩ => ?_
  refine thn (hp pins s4 σ H4 x3 x4 old v _ I4 r3 r4 q4) fun new s5 ⟨x5, H5, I5, r5, q5⟩ => ?_
  exact thn (hs pins s5 σ H5 x1 x2 x5 ov iv new _ I5 r1 r2 r5 q5) fun _ s6 ⟨H6, I6, q6⟩ => ⟨σ, H6, I6, q6⟩
/-- ints -/
def ipI (f : Int → Int → Int) : TIp := fun x y H Q => ∃ i j, x = .int i ∧ y = .int j ∧ Q (.int (f i j)) H
theorem ip_add : PIp X .Add (ipI fun i j => i + j) := by
  intro pins s σ H x y v u Q I r1 r2 h
  obtain ⟨i, j, e1, e2, q⟩ := h
  subst e1; subst e2
  obtain ⟨t, rfl⟩ := r1
  obtain ⟨t', rfl⟩ := r2
  exact iadd_int ⟨.int _, H, I.tok _, ⟨_, rfl⟩, q⟩
theorem ip_sub : PIp X .Sub (ipI fun i j => i - j) := by
  intro pins s σ H x y v u Q I r1 r2 h
  obtain ⟨i, j, e1, e2, q⟩ := h
  subst e1; subst e2
  obtain ⟨t, rfl⟩ := r1
  obtain ⟨t', rfl⟩ := r2
  exact isub_int ⟨.int _, H, I.tok _, ⟨_, rfl⟩, q⟩
end

/-! ### while -/
section
variable {X : Cx} {pos : Pos}
/-- the invariant W with its measure -/
def tWhile (c : TT) (tb : TS) : TS := fun D σ H => ∃ W : Nat → St → Hp → Prop, (∃ m, W m σ H) ∧ ∀ m σ H, W m σ H →
  c σ H fun b H1 => if b = true then ∃ N : St → Hp → Prop, (∀ σ' H', N σ' H' → ∃ m', m' < m ∧ W m' σ' H') ∧ tb { D with nx := N, ct := N, bk := D.nx } σ H1 else D.nx σ H1
theorem ps_while {c : Expr} {body : List Stmt} {tc : TT} {tb : TS} (hp : PassesOwn (model X.prog X.w) X.A X.env X.xe) (hc : PT X c tc) (hb : PSs X body tb) : PS X (.While c body [] pos) (tWhile tc tb) := by
  intro pins s σ H D I h
  obtain ⟨W, ⟨m0, w0⟩, turn⟩ := h
  refine wpAny_While (codeAny_whileLoop (fun n s' => ∃ σ' H', Inv X pins σ' H' s' ∧ W n σ' H') ?_ m0 ⟨σ, H, I, w0⟩)
  rintro n s1 ⟨σ1, H1, I1, w1⟩
  refine wpAny_passesOwn hp (thn (hc pins s1 σ1 H1 _ I1 (turn n σ1 H1 w1)) fun b s2 ⟨H2, I2, q2⟩ => ?_)
  cases b with
  | true =>
    obtain ⟨N, hN, q2⟩ := q2
    rw [if_pos rfl]
    refine wpAny_passesOwn hp (thn (hb pins s2 σ1 H2 _ I2 q2) fun f s3 q3 => ?_)
    cases f with
    | next =>
      obtain ⟨σ3, H3, I3, n3⟩ := q3
      obtain ⟨m', hm, w3⟩ := hN σ3 H3 n3
      exact ⟨m', hm, σ3, H3, I3, w3⟩
    | cont =>
      obtain ⟨σ3, H3, I3, n3⟩ := q3
      obtain ⟨m', hm, w3⟩ := hN σ3 H3 n3
      exact ⟨m', hm, σ3, H3, I3, w3⟩
    | brk => exact q3
    | ret v => exact q3
  | false =>
    rw [if_neg Bool.false_ne_true]
    exact wpAny_execs_nil ⟨σ1, H2, I2, q2⟩
end

/-! ### what a loop or a comprehension walks -/
/-- at turn i: it yields x (the heap may grow), or it stops -/
structure It where
  go : Nat → Hp → Prop
  yld : Nat → Hp → V → Hp → Prop
  stop : Nat → Hp → Prop
/-- the iterator's own objects may turn: they are not the frame's, not pinned, younger than the entry (or a comprehension's own) -/
def FpOk (X : Cx) (pins : List (Addr × Obj)) (H : Hp) (b : Addr) : Prop :=
  H b = none ∧ b ≠ X.env.locals ∧ b ∉ X.fs ∧ (b ∈ X.ex ∨ X.s₀.heap.objs.size ≤ b) ∧ (∀ x c, X.env.cells.lookup x = some c → c ≠ b) ∧ ∀ p ∈ X.pn ++ pins, p.1 ≠ b
theorem Inv.fpOk {X : Cx} {pins : List (Addr × Obj)} {σ : St} {H H' : Hp} {s : Shared} {b : Addr} (I : Inv X pins σ H s) (hb : s.heap.objs.size ≤ b) (hn : H' b = none) : FpOk X pins H' b := by
  refine ⟨hn, Nat.ne_of_gt (Nat.lt_of_lt_of_le I.lt hb), I.nofs hb, .inr (Nat.le_trans I.sz hb), fun x c e z => ?_, fun p hp z => ?_⟩
  · obtain ⟨v, q⟩ := I.cell x c e
    exact absurd (Nat.lt_of_lt_of_le q.lt (by rw [z]; exact hb)) (Nat.lt_irrefl _)
  · exact absurd (Nat.lt_of_lt_of_le (Heap.lt_size (I.pin p hp).1) (by rw [z]; exact hb)) (Nat.lt_irrefl _)
structure Turn (P : Program) (w : World) (K : PySem.W.Frag) (tg : Expr) (J : It) (fp : List Addr) (it : Addr) (tn : Nat → Heap → Prop) : Prop where
  mem : it ∈ fp
  obj : ∀ i h, tn i h → ∀ b ∈ fp, ∃ o, h.get? b = some o ∧ ∀ v, o.data ≠ .cell v
  keep : ∀ i h h', tn i h → (∀ b ∈ fp, ∀ o, h.get? b = some o → h'.get? b = some o) → tn i h'
  item : ∀ (X : Cx), X.prog = P → X.w = w → X.K = K → X.calm = true → ∀ (i : Nat) (pins : List (Addr × Obj)) (s : Shared) (σ : St) (H : Hp) (E : Value → Shared → Prop), Inv X pins σ H s → (∀ b ∈ fp, FpOk X pins H b) → tn i s.heap → J.go i H →
    wpAny (model P w) X.A (pyNext (.ref it)) (fun r s1 => ∃ u, r = some u ∧
      wpAny (model P w) X.A (letOwnedTupleGo tg (.ref it) u) (fun _ s2 => ∃ x H', Inv X pins σ H' s2 ∧ RelV x u ∧ J.yld i H x H' ∧ tn (i + 1) s2.heap ∧ ∀ b ∈ fp, H' b = none) E s1) E s
  done : ∀ (X : Cx), X.prog = P → X.w = w → X.K = K → X.calm = true → ∀ (i : Nat) (pins : List (Addr × Obj)) (s : Shared) (σ : St) (H : Hp) (E : Value → Shared → Prop), Inv X pins σ H s → (∀ b ∈ fp, FpOk X pins H b) → tn i s.heap → J.stop i H →
    wpAny (model P w) X.A (pyNext (.ref it)) (fun r s1 => r = none ∧ Inv X pins σ H s1) E s
  self : ∀ (A : Around) (i : Nat) (s : Shared) (Q : Value → Shared → Prop) (E : Value → Shared → Prop), tn i s.heap → Q (.ref it) s → wpAny (model P w) A (pyIter (.ref it)) Q E s
abbrev TI := St → Hp → (It → Hp → Prop) → Prop
/-- an iterator has come -/
def PIE (X : Cx) (pins : List (Addr × Obj)) (σ : St) (tg : Expr) (R : It → Hp → Prop) (itv : Value) (s2 : Shared) : Prop :=
  ∃ (it : Addr) (fp : List Addr) (tn : Nat → Heap → Prop) (J : It) (H' : Hp), itv = .ref it ∧ Inv X pins σ H' s2 ∧ Turn X.prog X.w X.K tg J fp it tn ∧ tn 0 s2.heap ∧ (∀ b ∈ fp, FpOk X pins H' b) ∧ R J H'
def PI (X : Cx) (tg iter : Expr) (wi : TI) : Prop :=
  ∀ (pins : List (Addr × Obj)) (s : Shared) (σ : St) (H : Hp) (R : It → Hp → Prop), Inv X pins σ H s → wi σ H R →
    wpAny (model X.prog X.w) X.A (eval iter X.env) (fun v s1 => wpAny (model X.prog X.w) X.A (pyIter v) (PIE X pins σ tg R) X.xe s1) X.xe s

/-- the step ahead of the store is nothing for an iterator that keeps no tuple -/
theorem go_of {M : Model} {A : Around} {E : Value → Shared → Prop} {s : Shared} {tg : Expr} {it : Addr} {u : Value} {o : Obj} {n : String} {vs : Array Value} {Q : Unit → Shared → Prop} (ho : s.heap.get? it = some o) (hc : o.cls = .type n) (hd : o.data = .fields vs)
    (hn : ["enumerate", "zip", "dict_itemiterator", "dict_reverseitemiterator", "odict_iterator", "itertools.zip_longest", "itertools.pairwise"].contains n = false) (hQ : Q () s) : wpAny M A (letOwnedTupleGo tg (.ref it) u) Q E s := by
  unfold letOwnedTupleGo
  cases tg <;> first
    | exact wpAny_pure hQ
    | (cases u <;> first
        | exact wpAny_pure hQ
        | (refine wpAny_bind (wpAny_load ho ?_)
           rw [hc, hd]
           show wpAny M A (if (["enumerate", "zip", "dict_itemiterator", "dict_reverseitemiterator", "odict_iterator", "itertools.zip_longest", "itertools.pairwise"].contains n && vs[0]? == some (rawInt _)) = true then _ else _) Q E s
           rw [if_neg (by intro h; rw [hn, Bool.false_and] at h; cases h)]
           exact wpAny_pure hQ))

/-- the list at a, as it stands at each turn (a loop may append to it) -/
def Itl (K : PySem.W.Frag) (a : Addr) : It :=
  ⟨fun i H => ∃ xs x, SqL K H a xs ∧ xs[i]? = some x, fun i H x H' => H' = H ∧ ∀ xs, SqL K H a xs → xs[i]? = some x, fun i H => ∃ xs, SqL K H a xs ∧ xs.length ≤ i⟩
def Itt (K : PySem.W.Frag) (a : Addr) : It :=
  ⟨fun i H => ∃ xs x, SqT K H a xs ∧ xs[i]? = some x, fun i H x H' => H' = H ∧ ∀ xs, SqT K H a xs → xs[i]? = some x, fun i H => ∃ xs, SqT K H a xs ∧ xs.length ≤ i⟩
/-- lo, lo + 1, .. (n of them) -/
def Itr (lo : Int) (n : Nat) : It := ⟨fun i _ => i < n, fun i H x H' => H' = H ∧ x = .int (lo + i), fun i _ => n ≤ i⟩
theorem turn_list {P : Program} {w : World} {K : PySem.W.Frag} {tg : Expr} (a it : Addr) : Turn P w K tg (Itl K a) [it] it (fun i h => h.IsListIter it a i) where
  mem := by simp
  obj := fun i h st b hb => by
    have e : b = it := by simpa using hb
    subst e
    obtain ⟨o, e, c, d⟩ := st
    exact ⟨o, e, fun v z => by rw [d] at z; cases z⟩
  keep := fun i h h' st k => st.at fun o e => k it (by simp) o e
  item := by
    intro X hP hw hK hc i pins s σ H E I hf st hg
    subst hP hw hK
    obtain ⟨xs, x, hq, hx⟩ := hg
    obtain ⟨its, rv, p, hz⟩ := I.list hq
    obtain ⟨u, hu, ru⟩ := rv.get hx
    obtain ⟨f0, f1, f2, f3, f4, f5⟩ := hf it (by simp)
    refine wpAny_pyNext_list_item st p.isList (x := u) (by simpa using hu) fun h' st' sb => ?_
    have I1 : Inv X pins σ H { s with heap := h' } := I.turned (t' := s.toks) (fun b o hb e => (sb.2 b hb).trans e) f0 f1 f3 f4 f5
    obtain ⟨o, e, c, d⟩ := id st'
    exact ⟨u, rfl, go_of (s := { s with heap := h' }) e c d (by decide) ⟨x, H, I1, ru, ⟨rfl, fun ys hy => by rw [I.list_inj hy hq]; exact hx⟩, st', fun b hb => (hf b hb).1⟩⟩
  done := by
    intro X hP hw hK hc i pins s σ H E I hf st hg
    subst hP hw hK
    obtain ⟨xs, hq, hx⟩ := hg
    obtain ⟨its, rv, p, hz⟩ := I.list hq
    obtain ⟨f0, f1, f2, f3, f4, f5⟩ := hf it (by simp)
    have hl := rv.length
    exact wpAny_pyNext_list_end (I.ok.hd hc) st p.isList (by simp; omega) fun h' eb => ⟨rfl, I.turned (t' := s.toks) (fun b o hb e => eb b o hb e) f0 f1 f3 f4 f5⟩
  self := fun _ _ _ _ _ st h => wpAny_pyIter_listiter st h
theorem turn_tuple {P : Program} {w : World} {K : PySem.W.Frag} {tg : Expr} (a it : Addr) : Turn P w K tg (Itt K a) [it] it (fun i h => h.IsTupleIter it a i) where
  mem := by simp
  obj := fun i h st b hb => by
    have e : b = it := by simpa using hb
    subst e
    obtain ⟨o, e, c, d⟩ := st
    exact ⟨o, e, fun v z => by rw [d] at z; cases z⟩
  keep := fun i h h' st k => st.at fun o e => k it (by simp) o e
  item := by
    intro X hP hw hK hc i pins s σ H E I hf st hg
    subst hP hw hK
    obtain ⟨xs, x, hq, hx⟩ := hg
    obtain ⟨its, rv, p, hz⟩ := I.tuple hq
    obtain ⟨u, hu, ru⟩ := rv.get hx
    obtain ⟨f0, f1, f2, f3, f4, f5⟩ := hf it (by simp)
    refine wpAny_pyNext_tuple_item st (show s.heap.IsTuple a its.toArray from p) (x := u) (by simpa using hu) fun h' st' sb => ?_
    have I1 : Inv X pins σ H { s with heap := h' } := I.turned (t' := s.toks) (fun b o hb e => (sb.2 b hb).trans e) f0 f1 f3 f4 f5
    obtain ⟨o, e, c, d⟩ := id st'
    exact ⟨u, rfl, go_of (s := { s with heap := h' }) e c d (by decide) ⟨x, H, I1, ru, ⟨rfl, fun ys hy => by rw [I.tuple_inj hy hq]; exact hx⟩, st', fun b hb => (hf b hb).1⟩⟩
  done := by
    intro X hP hw hK hc i pins s σ H E I hf st hg
    subst hP hw hK
    obtain ⟨xs, hq, hx⟩ := hg
    obtain ⟨its, rv, p, hz⟩ := I.tuple hq
    obtain ⟨f0, f1, f2, f3, f4, f5⟩ := hf it (by simp)
    have hl := rv.length
    exact wpAny_pyNext_tuple_end (I.ok.hd hc) st (show s.heap.IsTuple a its.toArray from p) (by simp; omega) fun h' eb => ⟨rfl, I.turned (t' := s.toks) (fun b o hb e => eb b o hb e) f0 f1 f3 f4 f5⟩
  self := fun _ _ _ _ _ st h => wpAny_pyIter_tupleiter st h
theorem turn_range {P : Program} {w : World} {K : PySem.W.Frag} {tg : Expr} (it : Addr) (lo : Int) (n : Nat) : Turn P w K tg (Itr lo n) [it] it (fun i h => IsRangeIter h it (lo + (i : Nat) * 1) ((n : Int) - (i : Nat)) 1) where
  mem := by simp
  obj := fun i h st b hb => by
    have e : b = it := by simpa using hb
    subst e
    exact ⟨_, st, fun v z => by
      have z' : Data.fields _ = Data.cell v := z
      cases z'⟩
  keep := fun i h h' st k => k it (by simp) _ st
  item := by
    intro X hP hw hK hc i pins s σ H E I hf st hg
    subst hP hw hK
    obtain ⟨f0, f1, f2, f3, f4, f5⟩ := hf it (by simp)
    have W := Walks.range (prog := X.prog) (w := X.w) (I.ok.hd hc) it lo 1 n
    refine W.item i s _ _ hg st fun v h' tk hv st' kk => ?_
    obtain ⟨t, rfl⟩ := hv
    have I1 : Inv X pins σ H { s with heap := h', toks := tk } := I.turned (fun b o hb e => kk b o (by simpa using hb) e) f0 f1 f3 f4 f5
    refine ⟨_, rfl, go_of (s := { s with heap := h', toks := tk }) (n := "range_iterator") st' rfl rfl (by decide) ⟨.int (lo + i), H, I1, ⟨t, ?_⟩, ⟨rfl, rfl⟩, st', fun b hb => (hf b hb).1⟩⟩
    rw [Int.mul_one]
  done := by
    intro X hP hw hK hc i pins s σ H E I hf st hg
    subst hP hw hK
    obtain ⟨f0, f1, f2, f3, f4, f5⟩ := hf it (by simp)
    exact wpAny_pyNext_range_end (I.ok.hd hc) st (by have : n ≤ i := hg; omega) fun h' eb => ⟨rfl, I.turned (t' := s.toks) (fun b o hb e => eb b o hb e) f0 f1 f3 f4 f5⟩
  self := fun _ _ _ _ _ st h => wpAny_pyIter_rangeiter st h
end L2

namespace L2
open PySem PySem.Spec PyProof.Rows
section
variable {X : Cx} {tg : Expr}
def iList (K : PySem.W.Frag) (tl : TE) : TI := fun σ H R => tl σ H fun x H1 => ∃ a, x = .ref a ∧ (∃ xs, SqL K H1 a xs) ∧ R (Itl K a) H1
def iTup (K : PySem.W.Frag) (tl : TE) : TI := fun σ H R => tl σ H fun x H1 => ∃ a, x = .ref a ∧ (∃ xs, SqT K H1 a xs) ∧ R (Itt K a) H1
theorem pi_list {l : Expr} {tl : TE} (hl : PE X l tl) : PI X tg l (iList X.K tl) := by
  intro pins s σ H R I h
  refine thn (hl pins s σ H _ I h) fun v s1 ⟨x, H1, I1, r1, q1⟩ => ?_
  obtain ⟨a, e, ⟨xs, hq⟩, q⟩ := q1
  subst e
  cases r1
  obtain ⟨its, rv, p, hz⟩ := I1.list hq
  refine wpAny_pyIter_list p.isList ?_
  refine ⟨s1.heap.objs.size, [s1.heap.objs.size], _, _, H1, rfl, I1.kept (t' := s1.toks) fun b o e => Heap.get?_push_of_some _ e, turn_list a _, ⟨_, Heap.get?_push_size _ rfl, rfl, rfl⟩, fun b hb => ?_, q⟩
  have e : b = s1.heap.objs.size := by simpa using hb
  subst e
  exact I1.fpOk (Nat.le_refl _) (I1.hok.fresh (Nat.le_refl _))
theorem pi_tup {l : Expr} {tl : TE} (hl : PE X l tl) : PI X tg l (iTup X.K tl) := by
  intro pins s σ H R I h
  refine thn (hl pins s σ H _ I h) fun v s1 ⟨x, H1, I1, r1, q1⟩ => ?_
  obtain ⟨a, e, ⟨xs, hq⟩, q⟩ := q1
  subst e
  cases r1
  obtain ⟨its, rv, p, hz⟩ := I1.tuple hq
  refine wpAny_pyIter_tuple (show s1.heap.IsTuple a its.toArray from p) ?_
  refine ⟨s1.heap.objs.size, [s1.heap.objs.size], _, _, H1, rfl, I1.kept (t' := s1.toks) fun b o e => Heap.get?_push_of_some _ e, turn_tuple a _, ⟨_, Heap.get?_push_size _ rfl, rfl, rfl⟩, fun b hb => ?_, q⟩
  have e : b = s1.heap.objs.size := by simpa using hb
  subst e
  exact I1.fpOk (Nat.le_refl _) (I1.hok.fresh (Nat.le_refl _))
/-- a range object just made, walked -/
theorem range_it {pins : List (Addr × Obj)} {σ : St} {H : Hp} {s : Shared} {R : It → Hp → Prop} {E : Value → Shared → Prop} {lo hi : Int} {t u v : Tok} {tk : Nat} (I : Inv X pins σ H s) (h1 : -(2 ^ 62) ≤ lo) (h2 : lo < 2 ^ 62) (h3 : -(2 ^ 62) ≤ hi) (h4 : hi < 2 ^ 62)
    (q : R (Itr lo (hi - lo).toNat) H) : wpAny (model X.prog X.w) X.A (pyIter (.ref s.heap.objs.size)) (PIE X pins σ tg R) E { s with heap := s.heap.push { cls := .type "range", data := .fields #[.int lo t, .int hi u, .int 1 v] }, toks := tk } := by
  refine wpAny_pyIter_range (IsRange.new ..) (small_one h1 h2 h3 h4) ?_
  have I1 : Inv X pins σ H { s with heap := s.heap.push { cls := .type "range", data := .fields #[.int lo t, .int hi u, .int 1 v] }, toks := tk } := I.kept fun b o e => Heap.get?_push_of_some _ e
  refine ⟨(s.heap.push { cls := .type "range", data := .fields #[.int lo t, .int hi u, .int 1 v] }).objs.size, [(s.heap.push { cls := .type "range", data := .fields #[.int lo t, .int hi u, .int 1 v] }).objs.size], _, _, H, rfl,
    I1.kept (t' := tk) fun b o e => Heap.get?_push_of_some _ e, turn_range _ lo (hi - lo).toNat, ?_, fun b hb => ?_, q⟩
  · have e1 : lo + ((0 : Nat) : Int) * 1 = lo := by simp
    have e2 : (((hi - lo).toNat : Nat) : Int) - ((0 : Nat) : Int) = Builtin.Range.rangeSize lo hi 1 := by rw [rangeSize_one]; split <;> omega
    show IsRangeIter _ _ (lo + ((0 : Nat) : Int) * 1) ((((hi - lo).toNat : Nat) : Int) - ((0 : Nat) : Int)) 1
    rw [e1, e2]
    exact Heap.get?_push_size _ rfl
  · have e : b = (s.heap.push { cls := .type "range", data := .fields #[.int lo t, .int hi u, .int 1 v] }).objs.size := by simpa using hb
    subst e
    exact I1.fpOk (Nat.le_refl _) (I1.hok.fresh (Nat.le_refl _))
def iRng1 (ta : TA) : TI := fun σ H R => ta σ H fun vs H1 => ∃ j : Int, vs = [.int j] ∧ -(2 ^ 62) ≤ j ∧ j < 2 ^ 62 ∧ R (Itr 0 j.toNat) H1
def iRng2 (ta : TA) : TI := fun σ H R => ta σ H fun vs H1 => ∃ i j : Int, vs = [.int i, .int j] ∧ (-(2 ^ 62) ≤ i ∧ i < 2 ^ 62 ∧ -(2 ^ 62) ≤ j ∧ j < 2 ^ 62) ∧ R (Itr i (j - i).toNat) H1
theorem pi_range1 {a : Expr} {ta : TA} {p pos : Pos} (hg : Gl X "range") (hm : X.mg "range" = none) (ha : PA X [a] ta) (hs : starEach [a] X.env = [(false, eval a X.env)] := by rfl) : PI X tg (.Call (.Name "range" p) [a] [] pos) (iRng1 ta) := by
  intro pins s σ H R I h
  refine Call_ (ld_blt I hg hm boot_range (PyProof.Rows.callWith_type1 (thn (ha pos pins s σ H _ I h) fun us s1 ⟨vs, H1, I1, r1, q1⟩ => ?_) hs rfl))
  obtain ⟨j, e, q1, q2, q⟩ := q1
  subst e
  cases r1 with
  | cons r rr =>
    cases rr
    obtain ⟨t, rfl⟩ := r
    exact call_range_1 (range_it I1 (by omega) (by omega) q1 q2 (by simpa using q))
theorem pi_range2 {a b : Expr} {ta : TA} {p pos : Pos} (hg : Gl X "range") (hm : X.mg "range" = none) (ha : PA X [a, b] ta) (hs : starEach [a, b] X.env = [(false, eval a X.env), (false, eval b X.env)] := by rfl) (hs2 : starEach [b] X.env = [(false, eval b X.env)] := by rfl) :
    PI X tg (.Call (.Name "range" p) [a, b] [] pos) (iRng2 ta) := by
  intro pins s σ H R I h
  refine Call_ (ld_blt I hg hm boot_range (PyProof.Rows.callWith_type1 (thn (ha pos pins s σ H _ I h) fun us s1 ⟨vs, H1, I1, r1, q1⟩ => ?_) (by rw [hs, hs2]) (by rw [hs2]; rfl)))
  obtain ⟨i, j, e, ⟨q1, q2, q3, q4⟩, q⟩ := q1
  subst e
  cases r1 with
  | cons r rr =>
    cases rr with
    | cons r' rr =>
      cases rr
      obtain ⟨t, rfl⟩ := r
      obtain ⟨t', rfl⟩ := r'
      exact call_range_2 (range_it I1 q1 q2 q3 q4 q)

/-! ### for -/
/-- W: the invariant by the turn and a measure; N: what the body is to reach -/
def tFor (wi : TI) (g : TG) (tb : TS) : TS := fun D σ H => wi σ H fun J H1 => ∃ W : Nat → Nat → St → Hp → Prop, (∃ m, W 0 m σ H1) ∧ ∀ i m σ H, W i m σ H →
  (J.stop i H ∧ D.nx σ H) ∨ (J.go i H ∧ ∃ N : St → Hp → Prop, (∀ σ' H', N σ' H' → ∃ m', m' < m ∧ W (i + 1) m' σ' H') ∧ ∀ x H', J.yld i H x H' → g x σ H' fun σ2 H2 => tb { D with nx := N, ct := N, bk := D.nx } σ2 H2)
/-- the records at fp as they stand -/
def pinsAt (fp : List Addr) (h : Heap) : List (Addr × Obj) := fp.filterMap fun b => (h.get? b).map fun o => (b, o)
theorem mem_pinsAt {fp : List Addr} {h : Heap} {b : Addr} {o : Obj} (hb : b ∈ fp) (e : h.get? b = some o) : (b, o) ∈ pinsAt fp h := List.mem_filterMap.mpr ⟨b, hb, by rw [e]; rfl⟩
theorem of_pinsAt {fp : List Addr} {h : Heap} {p : Addr × Obj} (hp : p ∈ pinsAt fp h) : p.1 ∈ fp ∧ h.get? p.1 = some p.2 := by
  obtain ⟨b, hb, e⟩ := List.mem_filterMap.mp hp
  cases q : h.get? b with
  | none => rw [q] at e; cases e
  | some o =>
    rw [q] at e
    have e' : (b, o) = p := Option.some.inj e
    subst e'
    exact ⟨hb, q⟩
theorem Inv.pinned {pins : List (Addr × Obj)} {σ : St} {H : Hp} {s : Shared} {fp : List Addr} (I : Inv X pins σ H s) (hf : ∀ b ∈ fp, FpOk X pins H b) (ho : ∀ b ∈ fp, ∃ o, s.heap.get? b = some o ∧ ∀ v, o.data ≠ .cell v) : Inv X (pins ++ pinsAt fp s.heap) σ H s :=
  I.pins_of fun p hp => (List.mem_append.mp hp).elim (fun z => I.pin p (List.mem_append_right _ z)) fun z => by
    obtain ⟨hb, e⟩ := of_pinsAt z
    obtain ⟨f0, f1, f2, _⟩ := hf p.1 hb
    obtain ⟨o, e', d⟩ := ho p.1 hb
    rw [e] at e'; cases e'
    exact ⟨e, f0, f1, f2, d⟩
theorem Inv.unpinned {pins pl : List (Addr × Obj)} {σ : St} {H : Hp} {s : Shared} (I : Inv X (pins ++ pl) σ H s) : Inv X pins σ H s := I.pins_of fun p hp => I.pin p (List.mem_append_right _ (List.mem_append_left _ hp))
theorem ps_for {iter : Expr} {body : List Stmt} {wi : TI} {g : TG} {tb : TS} {pos : Pos} (hp : PassesOwn (model X.prog X.w) X.A X.env X.xe) (hc : X.calm = true) (hi : PI X tg iter wi) (hg : PG X tg g) (hb : PSs X body tb)
    (hs : ∀ x, foldedSetIterable iter X.env x = pure x := by intro _; rfl) : PS X (.For tg iter body [] pos) (tFor wi g tb) := by
  intro pins s σ H D I h
  refine wpAny_For (thn (hi pins s σ H _ I h) fun v s1 h1 => thn h1 fun itv s2 h2 => ?_) hs
  obtain ⟨it, fp, tn, J, H2, e, I2, T, st2, f2, W, ⟨m0, w0⟩, turn⟩ := h2
  subst e
  -- what stays true of the iterator's objects through the loop
  have stat : ∀ {H' : Hp}, (∀ b ∈ fp, H' b = none) → ∀ b ∈ fp, FpOk X pins H' b := fun hn b hb => ⟨hn b hb, (f2 b hb).2⟩
  refine codeAny_forLoop_any (fun n s' => ∃ i σ' H', Inv X pins σ' H' s' ∧ tn i s'.heap ∧ (∀ b ∈ fp, H' b = none) ∧ W i n σ' H') ?_ m0 ⟨0, σ, H2, I2, st2, fun b hb => (f2 b hb).1, w0⟩
  rintro n s3 ⟨i, σ3, H3, I3, st3, fr3, w3⟩
  rcases turn i n σ3 H3 w3 with ⟨stop, qn⟩ | ⟨go, N, hN, step⟩
  · refine wpAny_passesOwn hp (thn (T.done X rfl rfl rfl hc i pins s3 σ3 H3 X.xe I3 (stat fr3) st3 stop) fun r s4 ⟨hr, I4⟩ => ?_)
    subst hr
    exact wpAny_execs_nil ⟨σ3, H3, I4, qn⟩
  · refine wpAny_passesOwn hp (thn (T.item X rfl rfl rfl hc i pins s3 σ3 H3 X.xe I3 (stat fr3) st3 go) fun r s4 ⟨u, hr, h4⟩ => ?_)
    subst hr
    refine wpAny_passesOwn hp (thn h4 fun _ s5 ⟨x, H5, I5, r5, y5, st5, fr5⟩ => ?_)
    have I5' := I5.pinned (stat fr5) (T.obj _ _ st5)
    refine wpAny_passesOwn hp (thn (hg _ s5 σ3 H5 x u _ I5' r5 (step x H5 y5)) fun _ s6 ⟨σ6, H6, I6, q6⟩ => ?_)
    refine wpAny_passesOwn hp (thn (hb _ s6 σ6 H6 _ I6 q6) fun f s7 q7 => ?_)
    have again : ∀ {σ7 : St} {H7 : Hp}, Inv X (pins ++ pinsAt fp s5.heap) σ7 H7 s7 → N σ7 H7 → ∃ m, m < n ∧ ∃ i σ' H', Inv X pins σ' H' s7 ∧ tn i s7.heap ∧ (∀ b ∈ fp, H' b = none) ∧ W i m σ' H' := fun {σ7 H7} I7 n7 => by
      obtain ⟨m', hm, w7⟩ := hN σ7 H7 n7
      refine ⟨m', hm, i + 1, σ7, H7, I7.unpinned, T.keep _ _ _ st5 fun b hb o e => (I7.pin (b, o) (List.mem_append_right _ (List.mem_append_right _ (mem_pinsAt hb e)))).1, fun b hb => ?_, w7⟩
      obtain ⟨o, e, d⟩ := T.obj _ _ st5 b hb
      exact (I7.pin (b, o) (List.mem_append_right _ (List.mem_append_right _ (mem_pinsAt hb e)))).2.1
    cases f with
    | next => obtain ⟨σ7, H7, I7, n7⟩ := q7; exact again I7 n7
    | cont => obtain ⟨σ7, H7, I7, n7⟩ := q7; exact again I7 n7
    | brk => obtain ⟨σ7, H7, I7, q7⟩ := q7; exact ⟨σ7, H7, I7.unpinned, q7⟩
    | ret v => obtain ⟨x7, σ7, H7, I7, r7, q7⟩ := q7; exact ⟨x7, σ7, H7, I7.unpinned, r7, q7⟩
end

/-! ### the forms one uses -/
/-- over a list that the body leaves as it is -/
theorem for_list {K : PySem.W.Frag} {a : Addr} {xs : List V} {g : TG} {tb : TS} {D : Ends} {σ : St} {H : Hp} (Pv : Nat → St → Hp → Prop) (h0 : Pv 0 σ H) (hl : ∀ i σ H, i ≤ xs.length → Pv i σ H → SqL K H a xs)
    (hs : ∀ i x σ H, xs[i]? = some x → Pv i σ H → g x σ H fun σ2 H2 => tb { D with nx := Pv (i + 1), ct := Pv (i + 1), bk := D.nx } σ2 H2) (hd : ∀ σ H, Pv xs.length σ H → D.nx σ H) :
    ∃ W : Nat → Nat → St → Hp → Prop, (∃ m, W 0 m σ H) ∧ ∀ i m σ H, W i m σ H →
      ((Itl K a).stop i H ∧ D.nx σ H) ∨ ((Itl K a).go i H ∧ ∃ N : St → Hp → Prop, (∀ σ' H', N σ' H' → ∃ m', m' < m ∧ W (i + 1) m' σ' H') ∧ ∀ x H', (Itl K a).yld i H x H' → g x σ H' fun σ2 H2 => tb { D with nx := N, ct := N, bk := D.nx } σ2 H2) := by
  refine ⟨fun i m σ H => m = xs.length - i ∧ i ≤ xs.length ∧ Pv i σ H, ⟨xs.length, by simp, Nat.zero_le _, h0⟩, ?_⟩
  rintro i m σ H ⟨rfl, hi, p⟩
  have q := hl i σ H hi p
  by_cases hlt : i < xs.length
  · refine .inr ⟨⟨xs, xs[i], q, by simp [hlt]⟩, Pv (i + 1), fun σ' H' p' => ⟨xs.length - (i + 1), by omega, rfl, hlt, p'⟩, fun x H' y => ?_⟩
    obtain ⟨e, y⟩ := y
    subst e
    exact hs i x σ _ (y xs q) p
  · have e : i = xs.length := by omega
    subst e
    exact .inl ⟨⟨xs, q, Nat.le_refl _⟩, hd σ H p⟩
theorem for_tup {K : PySem.W.Frag} {a : Addr} {xs : List V} {g : TG} {tb : TS} {D : Ends} {σ : St} {H : Hp} (Pv : Nat → St → Hp → Prop) (h0 : Pv 0 σ H) (hl : ∀ i σ H, i ≤ xs.length → Pv i σ H → SqT K H a xs)
    (hs : ∀ i x σ H, xs[i]? = some x → Pv i σ H → g x σ H fun σ2 H2 => tb { D with nx := Pv (i + 1), ct := Pv (i + 1), bk := D.nx } σ2 H2) (hd : ∀ σ H, Pv xs.length σ H → D.nx σ H) :
    ∃ W : Nat → Nat → St → Hp → Prop, (∃ m, W 0 m σ H) ∧ ∀ i m σ H, W i m σ H →
      ((Itt K a).stop i H ∧ D.nx σ H) ∨ ((Itt K a).go i H ∧ ∃ N : St → Hp → Prop, (∀ σ' H', N σ' H' → ∃ m', m' < m ∧ W (i + 1) m' σ' H') ∧ ∀ x H', (Itt K a).yld i H x H' → g x σ H' fun σ2 H2 => tb { D with nx := N, ct := N, bk := D.nx } σ2 H2) := by
  refine ⟨fun i m σ H => m = xs.length - i ∧ i ≤ xs.length ∧ Pv i σ H, ⟨xs.length, by simp, Nat.zero_le _, h0⟩, ?_⟩
  rintro i m σ H ⟨rfl, hi, p⟩
  have q := hl i σ H hi p
  by_cases hlt : i < xs.length
  · refine .inr ⟨⟨xs, xs[i], q, by simp [hlt]⟩, Pv (i + 1), fun σ' H' p' => ⟨xs.length - (i + 1), by omega, rfl, hlt, p'⟩, fun x H' y => ?_⟩
    obtain ⟨e, y⟩ := y
    subst e
    exact hs i x σ _ (y xs q) p
  · have e : i = xs.length := by omega
    subst e
    exact .inl ⟨⟨xs, q, Nat.le_refl _⟩, hd σ H p⟩
theorem for_range {lo : Int} {n : Nat} {g : TG} {tb : TS} {D : Ends} {σ : St} {H : Hp} (Pv : Nat → St → Hp → Prop) (h0 : Pv 0 σ H)
    (hs : ∀ i σ H, i < n → Pv i σ H → g (.int (lo + i)) σ H fun σ2 H2 => tb { D with nx := Pv (i + 1), ct := Pv (i + 1), bk := D.nx } σ2 H2) (hd : ∀ σ H, Pv n σ H → D.nx σ H) :
    ∃ W : Nat → Nat → St → Hp → Prop, (∃ m, W 0 m σ H) ∧ ∀ i m σ H, W i m σ H →
      ((Itr lo n).stop i H ∧ D.nx σ H) ∨ ((Itr lo n).go i H ∧ ∃ N : St → Hp → Prop, (∀ σ' H', N σ' H' → ∃ m', m' < m ∧ W (i + 1) m' σ' H') ∧ ∀ x H', (Itr lo n).yld i H x H' → g x σ H' fun σ2 H2 => tb { D with nx := N, ct := N, bk := D.nx } σ2 H2) := by
  refine ⟨fun i m σ H => m = n - i ∧ i ≤ n ∧ Pv i σ H, ⟨n, by simp, Nat.zero_le _, h0⟩, ?_⟩
  rintro i m σ H ⟨rfl, hi, p⟩
  by_cases hlt : i < n
  · refine .inr ⟨hlt, Pv (i + 1), fun σ' H' p' => ⟨n - (i + 1), by omega, rfl, hlt, p'⟩, fun x H' y => ?_⟩
    obtain ⟨e, y⟩ := y
    subst e y
    exact hs i σ _ hlt p
  · have e : i = n := by omega
    subst e
    exact .inl ⟨Nat.le_refl _, hd σ H p⟩
/-- while, by a word and a measure of the state -/
theorem while_by {c : TT} {tb : TS} {D : Ends} {σ : St} {H : Hp} (Pv : St → Hp → Prop) (μ : St → Hp → Nat) (h0 : Pv σ H)
    (hs : ∀ σ H, Pv σ H → c σ H fun b H1 => if b = true then tb { D with nx := fun σ' H' => Pv σ' H' ∧ μ σ' H' < μ σ H, ct := fun σ' H' => Pv σ' H' ∧ μ σ' H' < μ σ H, bk := D.nx } σ H1 else D.nx σ H1)
    (mono : ∀ σ H Q Q', (∀ b H1, Q b H1 → Q' b H1) → c σ H Q → c σ H Q') : tWhile c tb D σ H := by
  refine ⟨fun m σ H => m = μ σ H ∧ Pv σ H, ⟨_, rfl, h0⟩, ?_⟩
  rintro m σ H ⟨rfl, p⟩
  refine mono σ H _ _ (fun b H1 q => ?_) (hs σ H p)
  cases b with
  | true => exact ⟨_, fun σ' H' ⟨p', l⟩ => ⟨_, l, rfl, p'⟩, q⟩
  | false => exact q
end L2

namespace L2
open PySem PySem.Spec PyProof.Rows

abbrev R2 := V → V → Hp → VK → Prop
/-- a two-place operation on values: f is binaryOp op, inplaceOp op or compareOp op -/
def OpR (X : Cx) (f : Value → Value → Sem Value) (r : R2) : Prop :=
  ∀ (pins : List (Addr × Obj)) (s : Shared) (σ : St) (H : Hp) (x y : V) (v u : Value) (Q : VK), Inv X pins σ H s → RelV x v → RelV y u → r x y H Q →
    wpAny (model X.prog X.w) X.A (f v u) (EP X pins σ Q) X.xe s
/-- a one-place operation -/
def UnR (X : Cx) (f : Value → Sem Value) (r : V → Hp → VK → Prop) : Prop :=
  ∀ (pins : List (Addr × Obj)) (s : Shared) (σ : St) (H : Hp) (x : V) (v : Value) (Q : VK), Inv X pins σ H s → RelV x v → r x H Q →
    wpAny (model X.prog X.w) X.A (f v) (EP X pins σ Q) X.xe s
/-- a call of a value that is known (a builtin, a type) with values -/
def CallR (X : Cx) (f : Value) (r : List V → Hp → VK → Prop) : Prop :=
  ∀ (pins : List (Addr × Obj)) (s : Shared) (σ : St) (H : Hp) (xs : List V) (us : List Value) (Q : VK), Inv X pins σ H s → Vals xs us → r xs H Q →
    wpAny (model X.prog X.w) X.A (call f us) (EP X pins σ Q) X.xe s
/-- a value's truth -/
def TruR (X : Cx) (r : V → Hp → (Bool → Hp → Prop) → Prop) : Prop :=
  ∀ (pins : List (Addr × Obj)) (s : Shared) (σ : St) (H : Hp) (x : V) (v : Value) (Q : Bool → Hp → Prop), Inv X pins σ H s → RelV x v → r x H Q →
    wpAny (model X.prog X.w) X.A (truthy v) (TP X pins σ Q) X.xe s

def tOp (r : R2) (ta tb : TE) : TE := fun σ H Q => ta σ H fun x H1 => tb σ H1 fun y H2 => r x y H2 Q
def tUn (r : V → Hp → VK → Prop) (ta : TE) : TE := fun σ H Q => ta σ H fun x H1 => r x H1 Q
/-- ints in, under C, and a value out -/
def rI (C : Int → Int → Prop) (g : Int → Int → V) : R2 := fun x y H Q => ∃ i j, x = .int i ∧ y = .int j ∧ C i j ∧ Q (g i j) H
def rI0 (g : Int → Int → V) : R2 := fun x y H Q => ∃ i j, x = .int i ∧ y = .int j ∧ Q (g i j) H
def rU (g : Int → V) : V → Hp → VK → Prop := fun x H Q => ∃ i, x = .int i ∧ Q (g i) H

section
variable {X : Cx} {a b c : Expr} {ta tb tc : TE} {pos : Pos}

theorem binT (ha : PE X a ta) (hb : PE X b tb) {pins : List (Addr × Obj)} {s : Shared} {σ : St} {H : Hp} {R : V → V → Hp → Prop} (I : Inv X pins σ H s)
    (h : ta σ H fun x H1 => tb σ H1 fun y H2 => R x y H2) {Q : Value → Shared → Prop} {f : Value → Value → Sem Value}
    (hf : ∀ v u s2 x y H2, Inv X pins σ H2 s2 → RelV x v → RelV y u → R x y H2 → wpAny (model X.prog X.w) X.A (f v u) Q X.xe s2) :
    wpAny (model X.prog X.w) X.A (eval a X.env) (fun v s₁ => wpAny (model X.prog X.w) X.A (eval b X.env) (fun u s₂ => wpAny (model X.prog X.w) X.A (f v u) Q X.xe s₂) X.xe s₁) X.xe s := by
  refine thn (ha pins s σ H _ I h) fun v s1 ⟨x, H1, I1, r1, q1⟩ => ?_
  refine thn (hb pins s1 σ H1 _ I1 q1) fun u s2 ⟨y, H2, I2, r2, q2⟩ => ?_
  exact hf v u s2 x y H2 I2 r1 r2 q2

theorem pe_op {op : Operator} {r : R2} (ho : OpR X (binaryOp op) r) (ha : PE X a ta) (hb : PE X b tb) : PE X (.BinOp a op b pos) (tOp r ta tb) := by
  intro pins s σ H Q I h
  exact wpAny_BinOp (binT ha hb I h fun v u s2 x y H2 I2 rx ry q => ho pins s2 σ H2 x y v u Q I2 rx ry q)
theorem pe_un {op : UnaryOp} {r : V → Hp → VK → Prop} (ho : UnR X (unaryOp op) r) (ha : PE X a ta) : PE X (.UnaryOp op a pos) (tUn r ta) := by
  intro pins s σ H Q I h
  exact UnaryOp_ (thn (ha pins s σ H _ I h) fun v s1 ⟨x, H1, I1, r1, q1⟩ => ho pins s1 σ H1 x v Q I1 r1 q1)
/-- a op= e at a name: the name's slot i -/
theorem augR {op : Operator} {r : R2} (ho : OpR X (inplaceOp op) r) {pins : List (Addr × Obj)} {s : Shared} {σ : St} {H : Hp} {x y : V} {v u : Value} {Q : VK} (I : Inv X pins σ H s)
    (rx : RelV x v) (ry : RelV y u) (q : r x y H Q) : wpAny (model X.prog X.w) X.A (inplaceOp op v u) (EP X pins σ Q) X.xe s := ho pins s σ H x y v u Q I rx ry q

/-! ### ints -/
theorem opI {f : Value → Value → Sem Value} {C : Int → Int → Prop} {g : Int → Int → Int}
    (rule : ∀ (i j : Int) (t u : Tok) (s : Shared) (Q : Value → Shared → Prop) (E : Value → Shared → Prop), C i j → Q (.int (g i j) s.toks) { s with toks := s.toks + 1 } → wpAny (model X.prog X.w) X.A (f (.int i t) (.int j u)) Q E s) :
    OpR X f (rI C fun i j => .int (g i j)) := by
  intro pins s σ H x y v u Q I rx ry h
  obtain ⟨i, j, rfl, rfl, hc, q⟩ := h
  obtain ⟨t, rfl⟩ := rx
  obtain ⟨t', rfl⟩ := ry
  exact rule i j t t' s _ _ hc ⟨.int (g i j), H, I.tok _, ⟨_, rfl⟩, q⟩
theorem opI0 {f : Value → Value → Sem Value} {g : Int → Int → Int}
    (rule : ∀ (i j : Int) (t u : Tok) (s : Shared) (Q : Value → Shared → Prop) (E : Value → Shared → Prop), Q (.int (g i j) s.toks) { s with toks := s.toks + 1 } → wpAny (model X.prog X.w) X.A (f (.int i t) (.int j u)) Q E s) :
    OpR X f (rI0 fun i j => .int (g i j)) := by
  intro pins s σ H x y v u Q I rx ry h
  obtain ⟨i, j, rfl, rfl, q⟩ := h
  obtain ⟨t, rfl⟩ := rx
  obtain ⟨t', rfl⟩ := ry
  exact rule i j t t' s _ _ ⟨.int (g i j), H, I.tok _, ⟨_, rfl⟩, q⟩
theorem opB0 {f : Value → Value → Sem Value} {g : Int → Int → Bool}
    (rule : ∀ (i j : Int) (t u : Tok) (s : Shared) (Q : Value → Shared → Prop) (E : Value → Shared → Prop), Q (.bool (g i j)) s → wpAny (model X.prog X.w) X.A (f (.int i t) (.int j u)) Q E s) :
    OpR X f (rI0 fun i j => .bl (g i j)) := by
  intro pins s σ H x y v u Q I rx ry h
  obtain ⟨i, j, rfl, rfl, q⟩ := h
  obtain ⟨t, rfl⟩ := rx
  obtain ⟨t', rfl⟩ := ry
  exact rule i j t t' s _ _ ⟨.bl (g i j), H, I, rfl, q⟩

def CDiv (i j : Int) : Prop := 0 < j ∧ j < 1073741824
def CDivN (i j : Int) : Prop := j ≠ 0 ∧ j.natAbs < 1073741824
def CPow (i j : Int) : Prop := 0 ≤ j ∧ j ≤ 1000000 ∧ i.natAbs < 2 ^ 64
def CMul (i j : Int) : Prop := (-(2 ^ 64) < i ∧ i < 2 ^ 64) ∨ (-(2 ^ 64) < j ∧ j < 2 ^ 64)
theorem CMul.ok {i j : Int} (h : CMul i j) : IntMulOk i j := by
  rcases h with ⟨h1, h2⟩ | ⟨h1, h2⟩
  · exact .of_left (intBits_le_64 h1 h2)
  · exact .of_right (intBits_le_64 h1 h2)
theorem two_pow_nn (k : Nat) : (0 : Int) ≤ 2 ^ k := by
  rw [two_pow_cast]
  exact Int.natCast_nonneg _

theorem op_add : OpR X (binaryOp .Add) (rI0 fun i j => .int (i + j)) := opI0 fun _ _ _ _ _ _ _ q => add_int q
theorem op_sub : OpR X (binaryOp .Sub) (rI0 fun i j => .int (i - j)) := opI0 fun _ _ _ _ _ _ _ q => sub_int q
theorem op_mul : OpR X (binaryOp .Mult) (rI CMul fun i j => .int (i * j)) := opI fun _ _ _ _ _ _ _ hc q => mul_int q hc.ok
/-- // by a positive divisor -/
theorem op_fdiv : OpR X (binaryOp .FloorDiv) (rI CDiv fun i j => .int (i / j)) := opI fun i j _ _ _ _ _ hc q => by
  have h1 : (0 : Int) < j := hc.1
  have h2 : j < 1073741824 := hc.2
  exact floordiv_int (by omega) (by rw [Int.fdiv_eq_ediv_of_nonneg i (by omega)]; exact q) (.inl (PyProof.noPylong_small (by omega)))
theorem op_fdivN : OpR X (binaryOp .FloorDiv) (rI CDivN fun i j => .int (i.fdiv j)) := opI fun _ _ _ _ _ _ _ hc q => floordiv_int hc.1 q (.inl (PyProof.noPylong_small hc.2))
/-- % by a positive divisor of any size -/
theorem op_mod : OpR X (binaryOp .Mod) (rI (fun _ j => 0 < j) fun i j => .int (i % j)) := opI fun i j _ _ _ _ _ hc q => by
  have h1 : (0 : Int) < j := hc
  exact mod_int' (by omega) (by rw [Int.fmod_eq_emod_of_nonneg i (by omega)]; exact q)
theorem op_modN : OpR X (binaryOp .Mod) (rI (fun _ j => j ≠ 0) fun i j => .int (i.fmod j)) := opI fun _ _ _ _ _ _ _ hc q => mod_int' hc q
theorem op_pow : OpR X (binaryOp .Pow) (rI CPow fun i j => .int (i ^ j.toNat)) := opI fun _ _ _ _ _ _ _ hc q => pow_int_small hc.1 hc.2.1 hc.2.2 q
theorem op_shl : OpR X (binaryOp .LShift) (rI CPow fun i j => .int (i * 2 ^ j.toNat)) := opI fun _ _ _ _ _ _ _ hc q => lshift_int_small hc.1 hc.2.1 hc.2.2 q
theorem op_shr : OpR X (binaryOp .RShift) (rI (fun _ j => 0 ≤ j) fun i j => .int (i / 2 ^ j.toNat)) := opI fun i j _ _ _ _ _ hc q =>
  rshift_int hc (by rw [Int.fdiv_eq_ediv_of_nonneg i (two_pow_nn _)]; exact q)
theorem op_and : OpR X (binaryOp .BitAnd) (rI0 fun i j => .int (Builtin.bitAnd i j)) := opI0 fun _ _ _ _ _ _ _ q => and_int q
theorem op_or : OpR X (binaryOp .BitOr) (rI0 fun i j => .int (Builtin.bitOr i j)) := opI0 fun _ _ _ _ _ _ _ q => or_int q
theorem op_xor : OpR X (binaryOp .BitXor) (rI0 fun i j => .int (Builtin.bitXor i j)) := opI0 fun _ _ _ _ _ _ _ q => xor_int q

theorem iop_add : OpR X (inplaceOp .Add) (rI0 fun i j => .int (i + j)) := opI0 fun _ _ _ _ _ _ _ q => iadd_int q
theorem iop_sub : OpR X (inplaceOp .Sub) (rI0 fun i j => .int (i - j)) := opI0 fun _ _ _ _ _ _ _ q => isub_int q
theorem iop_mul : OpR X (inplaceOp .Mult) (rI CMul fun i j => .int (i * j)) := opI fun _ _ _ _ _ _ _ hc q => imul_int q hc.ok
theorem iop_fdiv : OpR X (inplaceOp .FloorDiv) (rI CDiv fun i j => .int (i / j)) := opI fun i j _ _ _ _ _ hc q => by
  have h1 : (0 : Int) < j := hc.1
  have h2 : j < 1073741824 := hc.2
  exact ifloordiv_int (by omega) (by rw [Int.fdiv_eq_ediv_of_nonneg i (by omega)]; exact q) (.inl (PyProof.noPylong_small (by omega)))
theorem iop_mod : OpR X (inplaceOp .Mod) (rI (fun _ j => 0 < j) fun i j => .int (i % j)) := opI fun i j _ _ _ _ _ hc q => by
  have h1 : (0 : Int) < j := hc
  exact imod_int (by omega) (by rw [Int.fmod_eq_emod_of_nonneg i (by omega)]; exact q)
theorem iop_shl : OpR X (inplaceOp .LShift) (rI CPow fun i j => .int (i * 2 ^ j.toNat)) := opI fun _ _ _ _ _ _ _ hc q => ilshift_int_small hc.1 hc.2.1 hc.2.2 q
theorem iop_shr : OpR X (inplaceOp .RShift) (rI (fun _ j => 0 ≤ j) fun i j => .int (i / 2 ^ j.toNat)) := opI fun i j _ _ _ _ _ hc q =>
  irshift_int hc (by rw [Int.fdiv_eq_ediv_of_nonneg i (two_pow_nn _)]; exact q)
theorem iop_and : OpR X (inplaceOp .BitAnd) (rI0 fun i j => .int (Builtin.bitAnd i j)) := opI0 fun _ _ _ _ _ _ _ q => iand_int q
theorem iop_or : OpR X (inplaceOp .BitOr) (rI0 fun i j => .int (Builtin.bitOr i j)) := opI0 fun _ _ _ _ _ _ _ q => ior_int q
theorem iop_xor : OpR X (inplaceOp .BitXor) (rI0 fun i j => .int (Builtin.bitXor i j)) := opI0 fun _ _ _ _ _ _ _ q => ixor_int q

theorem unI {f : Value → Sem Value} {g : Int → Int}
    (rule : ∀ (i : Int) (t : Tok) (s : Shared) (Q : Value → Shared → Prop) (E : Value → Shared → Prop), Q (.int (g i) s.toks) { s with toks := s.toks + 1 } → wpAny (model X.prog X.w) X.A (f (.int i t)) Q E s) :
    UnR X f (rU fun i => .int (g i)) := by
  intro pins s σ H x v Q I rx h
  obtain ⟨i, rfl, q⟩ := h
  obtain ⟨t, rfl⟩ := rx
  exact rule i t s _ _ ⟨.int (g i), H, I.tok _, ⟨_, rfl⟩, q⟩
theorem un_neg : UnR X (unaryOp .USub) (rU fun i => .int (-i)) := unI fun _ _ _ _ _ q => neg_int q
theorem un_inv : UnR X (unaryOp .Invert) (rU fun i => .int (Builtin.bitNot i)) := unI fun _ _ _ _ _ q => invert_int q

/-! ### bools among ints: n += (a < b) -/
theorem op_add_ib : OpR X (binaryOp .Add) (fun x y H Q => ∃ i k, x = .int i ∧ y = .bl k ∧ Q (.int (i + b2i k)) H) := by
  intro pins s σ H x y v u Q I rx ry h
  obtain ⟨i, k, rfl, rfl, q⟩ := h
  obtain ⟨t, rfl⟩ := rx
  cases ry
  exact add_int_bool ⟨.int (i + b2i k), H, I.tok _, ⟨_, rfl⟩, q⟩
end

/-! ### comparisons -/
/-- the scalars that == tells apart as data does -/
def scal : V → V → Bool
  | .non, .non => true | .non, .int _ => true | .int _, .non => true | .non, .bl _ => true | .bl _, .non => true | .non, .str _ => true | .str _, .non => true
  | .int _, .int _ => true | .bl _, .bl _ => true | .str _, .str _ => true | .byt _, .byt _ => true
  | .int _, .str _ => true | .str _, .int _ => true | .bl _, .str _ => true | .str _, .bl _ => true
  | _, _ => false
def rEq : R2 := fun x y H Q => scal x y = true ∧ Q (.bl (decide (x = y))) H
def rNe : R2 := fun x y H Q => scal x y = true ∧ Q (.bl (!decide (x = y))) H

theorem dec_int {i j : Int} : decide (V.int i = V.int j) = (i == j) := by
  rw [Bool.eq_iff_iff]
  simp
theorem dec_bl {i j : Bool} : decide (V.bl i = V.bl j) = (i == j) := by
  rw [Bool.eq_iff_iff]
  simp
theorem dec_str {i j : Str} : decide (V.str i = V.str j) = (i == j) := by
  rw [Bool.eq_iff_iff]
  simp
theorem dec_byt {i j : Array UInt8} : decide (V.byt i = V.byt j) = (i.toList == j.toList) := by
  rw [Bool.eq_iff_iff]
  cases i
  cases j
  simp

section
variable {X : Cx} {a b c : Expr} {ta tb tc : TE} {pos : Pos}
theorem fin_bl {pins : List (Addr × Obj)} {σ : St} {H : Hp} {s : Shared} {Q : VK} {k k' : Bool} (I : Inv X pins σ H s) (q : Q (.bl k) H) (e : k = k') : EP X pins σ Q (.bool k') s := by
  subst e
  exact ⟨.bl k, H, I, rfl, q⟩
theorem op_eq : OpR X (compareOp .Eq) rEq := by
  intro pins s σ H x y v u Q I rx ry h
  obtain ⟨hs, q⟩ := h
  cases x with
  | non =>
    cases rx
    cases y with
    | non => cases ry; exact PySem.EqNone.eq_none_none (fin_bl I q (by simp))
    | bl j => cases ry; exact PySem.EqNone.eq_none_bool (fin_bl I q (by simp))
    | int j => obtain ⟨t', rfl⟩ := ry; exact PySem.EqNone.eq_none_int (fin_bl I q (by simp))
    | str j => obtain ⟨t', rfl⟩ := ry; exact PySem.EqNone.eq_none_str (fin_bl I q (by simp))
    | _ => exact absurd (show false = true from hs) Bool.false_ne_true
  | bl i =>
    cases rx
    cases y with
    | non => cases ry; exact PySem.EqNone.eq_bool_none (fin_bl I q (by simp))
    | bl j => cases ry; exact eq_bool (fin_bl I q dec_bl)
    | str j => obtain ⟨t', rfl⟩ := ry; exact PySem.EqMixed.eq_bool_str (fin_bl I q (by simp))
    | _ => exact absurd (show false = true from hs) Bool.false_ne_true
  | int i =>
    obtain ⟨t, rfl⟩ := rx
    cases y with
    | non => cases ry; exact PySem.EqNone.eq_int_none (fin_bl I q (by simp))
    | int j => obtain ⟨t', rfl⟩ := ry; exact eq_int (fin_bl I q dec_int)
    | str j => obtain ⟨t', rfl⟩ := ry; exact PySem.EqMixed.eq_int_str (fin_bl I q (by simp))
    | _ => exact absurd (show false = true from hs) Bool.false_ne_true
  | str i =>
    obtain ⟨t, rfl⟩ := rx
    cases y with
    | non => cases ry; exact PySem.EqNone.eq_str_none (fin_bl I q (by simp))
    | bl j => cases ry; exact PySem.EqMixed.eq_str_bool (fin_bl I q (by simp))
    | int j => obtain ⟨t', rfl⟩ := ry; exact PySem.EqMixed.eq_str_int (fin_bl I q (by simp))
    | str j => obtain ⟨t', rfl⟩ := ry; exact eq_str (fin_bl I q dec_str)
    | _ => exact absurd (show false = true from hs) Bool.false_ne_true
  | byt i =>
    obtain ⟨t, rfl⟩ := rx
    cases y with
    | byt j => obtain ⟨t', rfl⟩ := ry; exact PySem.W.eq_bytes (fin_bl I q dec_byt)
    | _ => exact absurd (show false = true from hs) Bool.false_ne_true
  | _ => cases y <;> exact absurd (show false = true from hs) Bool.false_ne_true
theorem op_ne : OpR X (compareOp .NotEq) rNe := by
  intro pins s σ H x y v u Q I rx ry h
  obtain ⟨hs, q⟩ := h
  cases x with
  | non =>
    cases rx
    cases y with
    | non => cases ry; exact PySem.EqNone.ne_none_none (fin_bl I q (by simp))
    | bl j => cases ry; exact PySem.EqNone.ne_none_bool (fin_bl I q (by simp))
    | int j => obtain ⟨t', rfl⟩ := ry; exact PySem.EqNone.ne_none_int (fin_bl I q (by simp))
    | str j => obtain ⟨t', rfl⟩ := ry; exact PySem.EqNone.ne_none_str (fin_bl I q (by simp))
    | _ => exact absurd (show false = true from hs) Bool.false_ne_true
  | bl i =>
    cases rx
    cases y with
    | non => cases ry; exact PySem.EqNone.ne_bool_none (fin_bl I q (by simp))
    | bl j => cases ry; exact ne_bool (fin_bl I q (congrArg not dec_bl))
    | str j => obtain ⟨t', rfl⟩ := ry; exact PySem.EqMixed.ne_bool_str (fin_bl I q (by simp))
    | _ => exact absurd (show false = true from hs) Bool.false_ne_true
  | int i =>
    obtain ⟨t, rfl⟩ := rx
    cases y with
    | non => cases ry; exact PySem.EqNone.ne_int_none (fin_bl I q (by simp))
    | int j => obtain ⟨t', rfl⟩ := ry; exact ne_int (fin_bl I q (congrArg not dec_int))
    | str j => obtain ⟨t', rfl⟩ := ry; exact PySem.EqMixed.ne_int_str (fin_bl I q (by simp))
    | _ => exact absurd (show false = true from hs) Bool.false_ne_true
  | str i =>
    obtain ⟨t, rfl⟩ := rx
    cases y with
    | non => cases ry; exact PySem.EqNone.ne_str_none (fin_bl I q (by simp))
    | bl j => cases ry; exact PySem.EqMixed.ne_str_bool (fin_bl I q (by simp))
    | int j => obtain ⟨t', rfl⟩ := ry; exact PySem.EqMixed.ne_str_int (fin_bl I q (by simp))
    | str j => obtain ⟨t', rfl⟩ := ry; exact ne_str (fin_bl I q (congrArg not dec_str))
    | _ => exact absurd (show false = true from hs) Bool.false_ne_true
  | byt i =>
    obtain ⟨t, rfl⟩ := rx
    cases y with
    | byt j => obtain ⟨t', rfl⟩ := ry; exact PySem.W.ne_bytes (fin_bl I q (congrArg not dec_byt))
    | _ => exact absurd (show false = true from hs) Bool.false_ne_true
  | _ => cases y <;> exact absurd (show false = true from hs) Bool.false_ne_true

theorem op_lt : OpR X (compareOp .Lt) (rI0 fun i j => .bl (decide (i < j))) := opB0 fun _ _ _ _ _ _ _ q => lt_int q
theorem op_le : OpR X (compareOp .LtE) (rI0 fun i j => .bl (decide (i ≤ j))) := opB0 fun _ _ _ _ _ _ _ q => le_int q
theorem op_gt : OpR X (compareOp .Gt) (rI0 fun i j => .bl (decide (j < i))) := opB0 fun _ _ _ _ _ _ _ q => gt_int q
theorem op_ge : OpR X (compareOp .GtE) (rI0 fun i j => .bl (decide (j ≤ i))) := opB0 fun _ _ _ _ _ _ _ q => ge_int q
theorem op_lt_str : OpR X (compareOp .Lt) (fun x y H Q => ∃ i j, x = .str i ∧ y = .str j ∧ Q (.bl (decide (i.cps.toList < j.cps.toList))) H) := by
  intro pins s σ H x y v u Q I rx ry h
  obtain ⟨i, j, rfl, rfl, q⟩ := h
  obtain ⟨t, rfl⟩ := rx
  obtain ⟨t', rfl⟩ := ry
  exact lt_str (fin_bl I q rfl)
/-- the one string within the other -/
theorem op_in_str : OpR X (compareOp .In) (fun x y H Q => ∃ i j, x = .str i ∧ y = .str j ∧ Q (.bl (!(Builtin.Str.occurrences j i 0 j.length 1).isEmpty)) H) := by
  intro pins s σ H x y v u Q I rx ry h
  obtain ⟨i, j, rfl, rfl, q⟩ := h
  obtain ⟨t, rfl⟩ := rx
  obtain ⟨t', rfl⟩ := ry
  exact in_str (fin_bl I q rfl)

/-- is None, is not None: the right side a value none -/
theorem op_isN : OpR X (compareOp .Is) (fun x y H Q => y = .non ∧ Q (.bl (decide (x = .non))) H) := by
  intro pins s σ H x y v u Q I rx ry h
  obtain ⟨rfl, q⟩ := h
  cases ry
  refine is_none_gen (fin_bl I q ?_)
  cases x <;> first
    | (cases rx; rfl)
    | (obtain ⟨t, rfl⟩ := rx; rfl)
theorem op_notN : OpR X (compareOp .IsNot) (fun x y H Q => y = .non ∧ Q (.bl (!decide (x = .non))) H) := by
  intro pins s σ H x y v u Q I rx ry h
  obtain ⟨rfl, q⟩ := h
  cases ry
  refine isnot_none_gen (fin_bl I q ?_)
  cases x <;> first
    | (cases rx; rfl)
    | (obtain ⟨t, rfl⟩ := rx; rfl)

theorem op_notin_str : OpR X (compareOp .NotIn) (fun x y H Q => ∃ i j, x = .str i ∧ y = .str j ∧ Q (.bl (!(!(Builtin.Str.occurrences j i 0 j.length 1).isEmpty))) H) := by
  intro pins s σ H x y v u Q I rx ry h
  obtain ⟨i, j, rfl, rfl, q⟩ := h
  obtain ⟨t, rfl⟩ := rx
  obtain ⟨t', rfl⟩ := ry
  exact notIn_str (fin_bl I q rfl)
/-- is, is not of two objects that are tracked lists or instances -/
def isObj : HO → Bool
  | .lst _ => true
  | .ins _ _ _ => true
  | _ => false
theorem obj_there {pins : List (Addr × Obj)} {s : Shared} {σ : St} {H : Hp} {a : Addr} {o : HO} (I : Inv X pins σ H s) (h : H a = some o) (p : isObj o = true) : ∃ ob, s.heap.get? a = some ob ∧ ob.cls ≠ .type "tuple" := by
  cases o with
  | lst xs =>
    obtain ⟨_, its, n, _, e⟩ : xs.length ≤ sizeLine ∧ ∃ (its : List Value) (n : Nat), Vals xs its ∧ s.heap.get? a = some { cls := .type "list", data := .seq its.toArray n } := I.hok a _ h
    exact ⟨_, e, (by show Value.type "list" ≠ .type "tuple"; decide +kernel)⟩
  | ins C dx fs =>
    have x := I.hok a _ h
    obtain ⟨_, _, _, e, _⟩ := x
    exact ⟨_, e, (by show Value.ref C ≠ .type "tuple"; exact fun z => by cases z)⟩
  | _ => exact absurd (show false = true from p) Bool.false_ne_true
theorem op_is_ref : OpR X (compareOp .Is) (fun x y H Q => ∃ a b oa ob, x = .ref a ∧ y = .ref b ∧ H a = some oa ∧ isObj oa = true ∧ H b = some ob ∧ isObj ob = true ∧ Q (.bl (decide (a = b))) H) := by
  intro pins s σ H x y v u Q I rx ry h
  obtain ⟨a, b, oa, ob, rfl, rfl, ha, pa, hb, pb, q⟩ := h
  cases rx
  cases ry
  obtain ⟨o1, e1, n1⟩ := obj_there I ha pa
  obtain ⟨o2, e2, _⟩ := obj_there I hb pb
  by_cases z : a = b
  · subst z
    exact wpAny_is_ref_self (fin_bl I q (by simp))
  · exact wpAny_is_ref_other z e1 e2 n1 (fin_bl I q (by simp [z]))
theorem op_isnot_ref : OpR X (compareOp .IsNot) (fun x y H Q => ∃ a b oa ob, x = .ref a ∧ y = .ref b ∧ H a = some oa ∧ isObj oa = true ∧ H b = some ob ∧ isObj ob = true ∧ Q (.bl (!decide (a = b))) H) := by
  intro pins s σ H x y v u Q I rx ry h
  obtain ⟨a, b, oa, ob, rfl, rfl, ha, pa, hb, pb, q⟩ := h
  cases rx
  cases ry
  obtain ⟨o1, e1, n1⟩ := obj_there I ha pa
  obtain ⟨o2, e2, _⟩ := obj_there I hb pb
  by_cases z : a = b
  · subst z
    exact wpAny_isNot_ref_self (fin_bl I q (by simp))
  · exact wpAny_isNot_ref_other z e1 e2 n1 (fin_bl I q (by simp [z]))

/-- two rules for one operation: by cases -/
theorem OpR.or {f : Value → Value → Sem Value} {r r' : R2} (h : OpR X f r) (h' : OpR X f r') : OpR X f (fun x y H Q => r x y H Q ∨ r' x y H Q) := by
  intro pins s σ H x y v u Q I rx ry q
  rcases q with q | q
  · exact h pins s σ H x y v u Q I rx ry q
  · exact h' pins s σ H x y v u Q I rx ry q

theorem nomark (b : Expr) {op : CmpOp} (h : op ≠ .In := by decide) (h2 : op ≠ .NotIn := by decide) : behindInMarks op b = false := by
  have e1 : (op == CmpOp.In) = false := by cases op <;> first | rfl | exact absurd rfl h
  have e2 : (op == CmpOp.NotIn) = false := by cases op <;> first | rfl | exact absurd rfl h2
  cases b <;> simp [behindInMarks, e1, e2]
/-- a comparison as a value; hm: nomark b, or (for in, not in) by with_unfolding_all rfl -/
theorem pe_cmpR {op : CmpOp} {r : R2} (ho : OpR X (compareOp op) r) (ha : PE X a ta) (hb : PE X b tb) (hm : behindInMarks op b = false) : PE X (.Compare a [op] [b] pos) (tOp r ta tb) := by
  intro pins s σ H Q I h
  exact wpAny_Compare1 (binT ha hb I h fun v u s2 x y H2 I2 rx ry q => ho pins s2 σ H2 x y v u Q I2 rx ry q) hm
/-- a reading of a value as a test -/
def tTest (t : TE) : TT := fun σ H Q => t σ H fun x H' => ∃ k, x = .bl k ∧ Q k H'
theorem pt_cmpR {op : CmpOp} {r : R2} (ho : OpR X (compareOp op) r) (ha : PE X a ta) (hb : PE X b tb) (hm : behindInMarks op b = false) : PT X (.Compare a [op] [b] pos) (tTest (tOp r ta tb)) := by
  intro pins s σ H Q I h
  refine wpAny_isTrue_Compare1 (thn (ha pins s σ H _ I h) fun v s1 ⟨x, H1, I1, r1, q1⟩ => thn (hb pins s1 σ H1 _ I1 q1) fun u s2 ⟨y, H2, I2, r2, q2⟩ =>
    thn (ho pins s2 σ H2 x y v u _ I2 r1 r2 q2) fun c s3 ⟨z, H3, I3, r3, k, e, q3⟩ => ?_) hm
  subst e
  cases r3
  exact wpAny_truthy_bool ⟨H3, I3, q3⟩
/-- a op1 b op2 c -/
def tChain (r r' : R2) (ta tb tc : TE) : TE := fun σ H Q => ta σ H fun x H1 => tb σ H1 fun y H2 => r x y H2 fun z H3 => ∃ k, z = .bl k ∧
  (if k = true then tc σ H3 fun w' H4 => r' y w' H4 Q else Q (.bl false) H3)
theorem pe_chain {op op' : CmpOp} {r r' : R2} (ho : OpR X (compareOp op) r) (ho' : OpR X (compareOp op') r') (ha : PE X a ta) (hb : PE X b tb) (hc : PE X c tc)
    (hm : lastMarks [op, op'] [b, c] = false := by with_unfolding_all rfl) : PE X (.Compare a [op, op'] [b, c] pos) (tChain r r' ta tb tc) := by
  intro pins s σ H Q I h
  refine Compare_chain (thn (ha pins s σ H _ I h) fun v s1 ⟨x, H1, I1, r1, q1⟩ => chain_link (thn (hb pins s1 σ H1 _ I1 q1) fun u s2 ⟨y, H2, I2, r2, q2⟩ =>
    thn (ho pins s2 σ H2 x y v u _ I2 r1 r2 q2) fun d s3 ⟨z, H3, I3, r3, k, e, q3⟩ => ?_)) hm
  subst e
  cases r3
  refine wpAny_truthy_bool ?_
  cases k with
  | false => exact ite_ff ⟨.bl false, H3, I3, rfl, q3⟩
  | true => exact ite_tt (chain_last (thn (hc pins s3 σ H3 _ I3 q3) fun w' s4 ⟨z', H4, I4, r4, q4⟩ => ho' pins s4 σ H4 y z' u w' Q I4 r2 r4 q4))
theorem pt_chain {op op' : CmpOp} {r r' : R2} (ho : OpR X (compareOp op) r) (ho' : OpR X (compareOp op') r') (ha : PE X a ta) (hb : PE X b tb) (hc : PE X c tc)
    (hm : lastMarks [op, op'] [b, c] = false := by with_unfolding_all rfl) : PT X (.Compare a [op, op'] [b, c] pos) (tTest (tChain r r' ta tb tc)) := by
  intro pins s σ H Q I h
  refine isTrue_chain (thn (ha pins s σ H _ I h) fun v s1 ⟨x, H1, I1, r1, q1⟩ => test_link (thn (hb pins s1 σ H1 _ I1 q1) fun u s2 ⟨y, H2, I2, r2, q2⟩ =>
    thn (ho pins s2 σ H2 x y v u _ I2 r1 r2 q2) fun d s3 ⟨z, H3, I3, r3, k, e, q3⟩ => ?_)) hm
  subst e
  cases r3
  refine wpAny_truthy_bool ?_
  cases k with
  | false =>
    obtain ⟨k', e', q'⟩ := q3
    cases e'
    exact ite_ff ⟨H3, I3, q'⟩
  | true =>
    refine ite_tt (test_last (thn (hc pins s3 σ H3 _ I3 q3) fun w' s4 ⟨z', H4, I4, r4, q4⟩ => thn (ho' pins s4 σ H4 y z' u w' _ I4 r2 r4 q4) fun d' s5 ⟨z2, H5, I5, r5, k2, e2, q5⟩ => ?_))
    subst e2
    cases r5
    exact wpAny_truthy_bool ⟨H5, I5, q5⟩

/-! ### truth -/
/-- a value's truth by the abstract heap -/
def TruV (K : PySem.W.Frag) (x : V) (H : Hp) (k : Bool) : Prop :=
  match x with
  | .non => k = false
  | .bl b => k = b
  | .int i => k = (i != 0)
  | .str y => y.length ≤ sizeLine ∧ k = ((y.length : Int) != 0)
  | .byt y => y.size ≤ sizeLine ∧ k = ((y.size : Int) != 0)
  | .ref p => (∃ xs, SqL K H p xs ∧ k = !xs.isEmpty) ∨ (∃ xs, SqT K H p xs ∧ k = !xs.isEmpty) ∨ ∃ kvs, H p = some (.dK kvs) ∧ k = !kvs.isEmpty
  | _ => False
theorem isEmpty_kv {κ : Type} {kvs : List (κ × V)} {vs : List (κ × Value)} (r : KV kvs vs) : (!vs.isEmpty) = !kvs.isEmpty := by
  cases r <;> rfl
theorem isEmpty_of {xs : List V} {its : List Value} (r : Vals xs its) : (!its.toArray.isEmpty) = !xs.isEmpty := by
  cases r <;> simp
theorem line63 : (sizeLine : Nat) < 2 ^ 63 := by rw [sizeLine_eq]; decide
theorem tru_ok : TruR X (fun x H Q => ∃ k, TruV X.K x H k ∧ Q k H) := by
  intro pins s σ H x v Q I rx h
  obtain ⟨k, e, q⟩ := h
  have hl := line63
  have hs : sizeLine = 16777216 := sizeLine_eq
  cases x with
  | non =>
    cases rx
    have e' : k = false := e
    subst e'
    exact truthy_none ⟨H, I, q⟩
  | bl b =>
    cases rx
    have e' : k = b := e
    subst e'
    exact wpAny_truthy_bool ⟨H, I, q⟩
  | int i =>
    obtain ⟨t, rfl⟩ := rx
    have e' : k = (i != 0) := e
    subst e'
    exact PySem.P.truthy_int ⟨H, I, q⟩
  | str y =>
    obtain ⟨t, rfl⟩ := rx
    obtain ⟨hy, e'⟩ : y.length ≤ sizeLine ∧ k = ((y.length : Int) != 0) := e
    subst e'
    exact PySem.P.truthy_str (by omega) ⟨H, I.tok _, q⟩
  | byt y =>
    obtain ⟨t, rfl⟩ := rx
    obtain ⟨hy, e'⟩ : y.size ≤ sizeLine ∧ k = ((y.size : Int) != 0) := e
    subst e'
    exact PySem.W.truthy_bytes (by omega) ⟨H, I.tok _, q⟩
  | ref p =>
    cases rx
    have e' : (∃ xs, SqL X.K H p xs ∧ k = !xs.isEmpty) ∨ (∃ xs, SqT X.K H p xs ∧ k = !xs.isEmpty) ∨ ∃ kvs, H p = some (.dK kvs) ∧ k = !kvs.isEmpty := e
    rcases e' with ⟨xs, hx, e'⟩ | ⟨xs, hx, e'⟩ | ⟨kvs, hx, e'⟩
    · subst e'
      obtain ⟨its, r, pl, hz⟩ := I.list hx
      have hlen := r.length
      exact wpAny_truthy_list pl.isList (by simp only [List.size_toArray]; omega) ⟨H, I.tok _, by rw [isEmpty_of r]; exact q⟩
    · subst e'
      obtain ⟨its, r, pl, hz⟩ := I.tuple hx
      have hlen := r.length
      exact truthy_tuple pl (by simp only [List.size_toArray]; omega) ⟨H, I.tok _, by rw [isEmpty_of r]; exact q⟩
    · subst e'
      obtain ⟨hz, hS, vs, r, m⟩ : kvs.length ≤ sizeLine ∧ (p == sysModules) = false ∧ ∃ vs, KV kvs vs ∧ s.heap.DictOf (mixKind X.prog X.w) p vs := I.hok p _ hx
      have hlen : kvs.length = vs.length := Paired.length r
      exact wpAny_truthy_dict hS m (by omega) ⟨H, I.tok _, by rw [isEmpty_kv r]; exact q⟩
  | _ => exact (show False from e).elim
/-- any expression whose test is its value's truth (a name, a call, a subscript, a field ..: he by fun _ => rfl) -/
theorem pt_truth (ha : PE X a ta) (he : ∀ whole, isTrue a X.env whole = (do let v ← whole; standAt a.pos; holding [v] (truthy v))) :
    PT X a (fun σ H Q => ta σ H fun x H' => ∃ k, TruV X.K x H' k ∧ Q k H') := by
  intro pins s σ H Q I h
  exact isTrue_plain (thn (ha pins s σ H _ I h) fun v s1 ⟨x, H1, I1, r1, q1⟩ => tru_ok pins s1 σ H1 x v Q I1 r1 q1) (he _)

/-! ### strs and bytes -/
theorem pe_byt {x : List UInt8} {k : Nat} : PE X (.Constant (.bytes x) k pos) (fun _ H Q => Q (.byt x.toArray) H) := fun _ _ _ H _ I h => PySem.W.Constant_bytes ⟨.byt x.toArray, H, I.tok _, ⟨_, rfl⟩, h⟩
theorem op_add_str : OpR X (binaryOp .Add) (fun x y H Q => ∃ i j, x = .str i ∧ y = .str j ∧ i.length + j.length ≤ sizeLine ∧ Q (.str (i ++ j)) H) := by
  intro pins s σ H x y v u Q I rx ry h
  obtain ⟨i, j, rfl, rfl, hz, q⟩ := h
  obtain ⟨t, rfl⟩ := rx
  obtain ⟨t', rfl⟩ := ry
  exact add_str (fun t' tk => ⟨.str (i ++ j), H, I.tok _, ⟨_, rfl⟩, q⟩) hz
theorem iop_add_str : OpR X (inplaceOp .Add) (fun x y H Q => ∃ i j, x = .str i ∧ y = .str j ∧ i.length + j.length ≤ sizeLine ∧ Q (.str (i ++ j)) H) := by
  intro pins s σ H x y v u Q I rx ry h
  obtain ⟨i, j, rfl, rfl, hz, q⟩ := h
  obtain ⟨t, rfl⟩ := rx
  obtain ⟨t', rfl⟩ := ry
  exact iadd_str (fun t' tk => ⟨.str (i ++ j), H, I.tok _, ⟨_, rfl⟩, q⟩) hz
theorem op_add_byt : OpR X (binaryOp .Add) (fun x y H Q => ∃ i j, x = .byt i ∧ y = .byt j ∧ i.size + j.size ≤ 16777216 ∧ Q (.byt (i ++ j)) H) := by
  intro pins s σ H x y v u Q I rx ry h
  obtain ⟨i, j, rfl, rfl, hz, q⟩ := h
  obtain ⟨t, rfl⟩ := rx
  obtain ⟨t', rfl⟩ := ry
  exact PySem.W.KBy.add_bytes hz (fun t' tk => ⟨.byt (i ++ j), H, I.tok _, ⟨_, rfl⟩, q⟩)

def PlainIxT (b : Expr) : Prop := ∀ o i, subscripted b false o i = operate [o, i] (getItem o i)
/-- s[i], 0 ≤ i < len -/
theorem pe_item_str (ha : PE X a ta) (hb : PE X b tb) (hs : PlainIxT b) :
    PE X (.Subscript a b pos) (tOp (fun x y H Q => ∃ z i c, x = .str z ∧ y = .int i ∧ 0 ≤ i ∧ i < 2 ^ 63 ∧ i < z.length ∧ z.cps[i.toNat]? = some c ∧ Q (.str ⟨#[c]⟩) H) ta tb) := by
  intro pins s σ H Q I h
  refine Subscript_ (binT ha hb I h fun v u s2 x y H2 I2 rx ry q => ?_)
  obtain ⟨z, i, c, rfl, rfl, h0, h63, h1, hc, q⟩ := q
  obtain ⟨t, rfl⟩ := rx
  obtain ⟨t', rfl⟩ := ry
  have e : seqIndex? i z.length = some i.toNat := PySem.StrLaws.seqIndex_nonneg h0 h1
  exact tail_any (typeIs_str s2 z t) slot_str_getitem.lookup (getItem_str (c := c) (by
    have e1 : decide (i < -(2 ^ 63 : Int)) = false := decide_eq_false (by omega)
    have e2 : decide (i ≥ 2 ^ 63) = false := decide_eq_false (by omega)
    rw [e1, e2] <;> rfl) (by rw [e]; exact hc) ⟨.str ⟨#[c]⟩, H2, I2.tok _, ⟨_, rfl⟩, q⟩) (hs _ _)
/-- b[i], 0 ≤ i < len -/
theorem pe_item_byt (ha : PE X a ta) (hb : PE X b tb) (hs : PlainIxT b) :
    PE X (.Subscript a b pos) (tOp (fun x y H Q => ∃ (z : List UInt8) (i : Int), x = .byt z.toArray ∧ y = .int i ∧ z.length ≤ sizeLine ∧ 0 ≤ i ∧ i < z.length ∧ Q (.int ((z.getD i.toNat 0).toNat : Nat)) H) ta tb) := by
  intro pins s σ H Q I h
  refine Subscript_ (binT ha hb I h fun v u s2 x y H2 I2 rx ry q => ?_)
  obtain ⟨z, i, rfl, rfl, hz, h0, h1, q⟩ := q
  obtain ⟨t, rfl⟩ := rx
  obtain ⟨t', rfl⟩ := ry
  have hl : sizeLine = 16777216 := sizeLine_eq
  exact tail_any (PySem.W.typeIs_bytes s2 z.toArray t) PySem.W.FB.slot_bytes_getitem.lookup (PySem.W.getItem_bytes (by omega) h0 h1 ⟨.int ((z.getD i.toNat 0).toNat : Nat), H2, I2.tok _, ⟨_, rfl⟩, q⟩) (hs _ _)

/-! ### scalar builtins, by CallR -/
theorem vals1 {x : V} {us : List Value} (r : Vals [x] us) : ∃ u, us = [u] ∧ RelV x u := by
  cases r with
  | cons r1 r2 => cases r2; exact ⟨_, rfl, r1⟩
theorem vals2 {x y : V} {us : List Value} (r : Vals [x, y] us) : ∃ u w', us = [u, w'] ∧ RelV x u ∧ RelV y w' := by
  cases r with
  | cons r1 r2 =>
    cases r2 with
    | cons r3 r4 => cases r4; exact ⟨_, _, rfl, r1, r3⟩
theorem call_abs : CallR X (.builtin "abs") (fun xs H Q => ∃ i, xs = [.int i] ∧ Q (.int (if i < 0 then -i else i)) H) := by
  intro pins s σ H xs us Q I r h
  obtain ⟨i, rfl, q⟩ := h
  obtain ⟨u, rfl, t, rfl⟩ := vals1 r
  exact call_abs_int fun u tk => ⟨.int (if i < 0 then -i else i), H, I.tok _, ⟨_, rfl⟩, q⟩
theorem call_max2 (hc : X.calm = true) : CallR X (.builtin "max") (fun xs H Q => ∃ i j, xs = [.int i, .int j] ∧ Q (.int (if j > i then j else i)) H) := by
  intro pins s σ H xs us Q I r h
  obtain ⟨i, j, rfl, q⟩ := h
  obtain ⟨u, w', rfl, ⟨t, rfl⟩, ⟨t', rfl⟩⟩ := vals2 r
  refine max_two_ints (I.ok.hd hc) fun h' tk k => ⟨_, H, I.kept k, ?_, q⟩
  by_cases hj : j > i
  · rw [if_pos hj, if_pos hj]; exact ⟨_, rfl⟩
  · rw [if_neg hj, if_neg hj]; exact ⟨_, rfl⟩
theorem call_min2 (hc : X.calm = true) : CallR X (.builtin "min") (fun xs H Q => ∃ i j, xs = [.int i, .int j] ∧ Q (.int (if j < i then j else i)) H) := by
  intro pins s σ H xs us Q I r h
  obtain ⟨i, j, rfl, q⟩ := h
  obtain ⟨u, w', rfl, ⟨t, rfl⟩, ⟨t', rfl⟩⟩ := vals2 r
  refine min_two_ints (I.ok.hd hc) fun h' tk k => ⟨_, H, I.kept k, ?_, q⟩
  by_cases hj : j < i
  · rw [if_pos hj, if_pos hj]; exact ⟨_, rfl⟩
  · rw [if_neg hj, if_neg hj]; exact ⟨_, rfl⟩
theorem call_int1 : CallR X (.type "int") (fun xs H Q => (∃ i, xs = [.int i] ∧ Q (.int i) H) ∨ ∃ k, xs = [.bl k] ∧ Q (.int (if k then 1 else 0)) H) := by
  intro pins s σ H xs us Q I r h
  rcases h with ⟨i, rfl, q⟩ | ⟨k, rfl, q⟩
  · obtain ⟨u, rfl, t, rfl⟩ := vals1 r
    exact call_int_int ⟨.int i, H, I, ⟨_, rfl⟩, q⟩
  · obtain ⟨u, rfl, r1⟩ := vals1 r
    cases r1
    exact call_int_bool ⟨.int (if k then 1 else 0), H, I.tok _, ⟨_, rfl⟩, q⟩
theorem call_bool1 : CallR X (.type "bool") (fun xs H Q => (∃ i, xs = [.int i] ∧ Q (.bl (i != 0)) H) ∨ ∃ k, xs = [.bl k] ∧ Q (.bl k) H) := by
  intro pins s σ H xs us Q I r h
  rcases h with ⟨i, rfl, q⟩ | ⟨k, rfl, q⟩
  · obtain ⟨u, rfl, t, rfl⟩ := vals1 r
    exact call_bool_int ⟨.bl (i != 0), H, I, rfl, q⟩
  · obtain ⟨u, rfl, r1⟩ := vals1 r
    cases r1
    exact call_bool_bool ⟨.bl k, H, I, rfl, q⟩
theorem call_str_int : CallR X (.type "str") (fun xs H Q => ∃ i, xs = [.int i] ∧ i.natAbs.log2 < 1920 ∧ Q (.str (toString i)) H) := by
  intro pins s σ H xs us Q I r h
  obtain ⟨i, rfl, hz, q⟩ := h
  obtain ⟨u, rfl, t, rfl⟩ := vals1 r
  exact PySem.P.str_of_int hz ⟨.str _, H, I.tok _, ⟨_, rfl⟩, q⟩
theorem call_ord : CallR X (.builtin "ord") (fun xs H Q => ∃ x, xs = [.str x] ∧ x.length = 1 ∧ Q (.int (x.cps.getD 0 0 : Nat)) H) := by
  intro pins s σ H xs us Q I r h
  obtain ⟨x, rfl, hz, q⟩ := h
  obtain ⟨u, rfl, t, rfl⟩ := vals1 r
  exact ord_of_one hz ⟨.int _, H, I.tok _, ⟨_, rfl⟩, q⟩
theorem call_chr : CallR X (.builtin "chr") (fun xs H Q => ∃ i, xs = [.int i] ∧ 0 ≤ i ∧ i ≤ 1114111 ∧ Q (.str ⟨#[i.toNat]⟩) H) := by
  intro pins s σ H xs us Q I r h
  obtain ⟨i, rfl, h0, h1, q⟩ := h
  obtain ⟨u, rfl, t, rfl⟩ := vals1 r
  exact chr_of_range h0 h1 ⟨.str _, H, I.tok _, ⟨_, rfl⟩, q⟩
/-- len of a str, a bytes, a list, a tuple -/
def LenV (K : PySem.W.Frag) (x : V) (H : Hp) (n : Nat) : Prop :=
  match x with
  | .str y => y.length ≤ sizeLine ∧ n = y.length
  | .byt y => y.size ≤ sizeLine ∧ n = y.size
  | .ref p => (∃ xs, SqL K H p xs ∧ n = xs.length) ∨ ∃ xs, SqT K H p xs ∧ n = xs.length
  | _ => False
theorem call_len : CallR X (.builtin "len") (fun xs H Q => ∃ x n, xs = [x] ∧ LenV X.K x H n ∧ Q (.int n) H) := by
  intro pins s σ H xs us Q I r h
  obtain ⟨x, n, rfl, e, q⟩ := h
  obtain ⟨u, rfl, rx⟩ := vals1 r
  have hl := line63
  have hs : sizeLine = 16777216 := sizeLine_eq
  cases x with
  | str y =>
    obtain ⟨t, rfl⟩ := rx
    obtain ⟨hy, e'⟩ : y.length ≤ sizeLine ∧ n = y.length := e
    subst e'
    exact len_str (by omega) ⟨.int _, H, I.tok _, ⟨_, rfl⟩, q⟩
  | byt y =>
    obtain ⟨t, rfl⟩ := rx
    obtain ⟨hy, e'⟩ : y.size ≤ sizeLine ∧ n = y.size := e
    subst e'
    exact PySem.W.len_bytes (by omega) ⟨.int _, H, I.tok _, ⟨_, rfl⟩, q⟩
  | ref p =>
    cases rx
    have e' : (∃ xs, SqL X.K H p xs ∧ n = xs.length) ∨ ∃ xs, SqT X.K H p xs ∧ n = xs.length := e
    rcases e' with ⟨xs, hx, e'⟩ | ⟨xs, hx, e'⟩
    · subst e'
      obtain ⟨its, r', pl, hz⟩ := I.list hx
      have hlen := r'.length
      exact Calls.call_len_list pl.isList (by simp only [List.size_toArray]; omega) ⟨.int xs.length, H, I.tok _, ⟨_, by simp only [List.size_toArray]; rw [hlen]⟩, q⟩
    · subst e'
      obtain ⟨its, r', pl, hz⟩ := I.tuple hx
      have hlen := r'.length
      exact len_tuple pl (by simp only [List.size_toArray]; omega) ⟨.int xs.length, H, I.tok _, ⟨_, by simp only [List.size_toArray]; rw [hlen]⟩, q⟩
  | _ => exact (show False from e).elim
/-- divmod: a new tuple -/
theorem call_divmod : CallR X (.builtin "divmod") (fun xs H Q => ∃ i j, xs = [.int i, .int j] ∧ CDiv i j ∧ ∀ p, H p = none → Q (.ref p) (upd H p (.tup [.int (i / j), .int (i % j)]))) := by
  intro pins s σ H xs us Q I r h
  obtain ⟨i, j, rfl, ⟨h1, h2⟩, q⟩ := h
  obtain ⟨u, w', rfl, ⟨t, rfl⟩, ⟨t', rfl⟩⟩ := vals2 r
  refine divmod_int (by omega) ?_ (.inl (PyProof.noPylong_small (by omega)))
  rw [Int.fdiv_eq_ediv_of_nonneg i (by omega), Int.fmod_eq_emod_of_nonneg i (by omega)]
  have hn : H s.heap.objs.size = none := I.hok.fresh (Nat.le_refl _)
  refine ⟨.ref s.heap.objs.size, _, ?_, rfl, q _ hn⟩
  refine I.laid (fun b o e => Heap.get?_push_of_some _ e) (Nat.le_refl _) ⟨by simp only [List.length_cons, List.length_nil]; rw [sizeLine_eq]; decide, [.int (i / j) s.toks, .int (i % j) (s.toks + 1)], .cons ⟨_, rfl⟩ (.cons ⟨_, rfl⟩ .nil), ?_⟩
  exact ⟨_, Heap.get?_push_size s.heap rfl, rfl, 0, rfl⟩
end
end L2

namespace L2
open PySem PySem.Spec PyProof.Rows

/-! ### an instance, its attributes a map -/
structure ObjM (h : Heap) (x dx C : Addr) (mA : Str → Option Value) : Prop where
  obj : h.get? x = some (PySem.W.instObj C dx)
  ns : h.Ns1 dx mA
  ne : dx ≠ x

theorem lookIn_ns {h : Heap} {dx : Addr} {mA : Str → Option Value} (n : h.Ns1 dx mA) : ∃ od, h.get? dx = some od ∧ ∀ name, PySem.W.lookIn name od = some (mA name) := by
  obtain ⟨o, es, ep, ho, hd, hk, _, hm⟩ := n
  refine ⟨o, ho, fun name => ?_⟩
  have e := hm name
  unfold nsFind findBy at e
  rw [← Array.find?_toList] at e
  unfold PySem.W.lookIn
  rw [hd]
  dsimp only
  split
  · rename_i y q
    rw [q] at e
    exact congrArg some e
  · rename_i q
    rw [q] at e
    have a : es.toList.any (·.refKey) = false := by
      rw [List.any_eq_false]
      intro y hy
      obtain ⟨z, t, hkey⟩ := hk y (Array.mem_toList_iff.mp hy)
      simp [DictEntry.refKey, hkey]
    have a' : ¬ es.toList.any (·.refKey) = true := by rw [a]; exact Bool.false_ne_true
    rw [if_neg a']
    exact congrArg some e

theorem ObjM.look {h : Heap} {x dx C : Addr} {mA : Str → Option Value} (I : ObjM h x dx C mA) : ∃ od, PySem.W.InstAt h x (PySem.W.instObj C dx) C (some od) ∧ ∀ name, PySem.W.lookIn name od = some (mA name) :=
  let ⟨od, ho, hl⟩ := lookIn_ns I.ns
  ⟨od, ⟨I.obj, rfl, rfl, ho⟩, hl⟩

section
variable {prog : Program} {w : World} {A : Around} {E : Value → Shared → Prop} {s : Shared} {K : PySem.W.Frag} {x dx C f : Addr} {mA : Str → Option Value} {name : Str} {v : Value}

theorem get_map {expr : Bool} {Q : Value → Shared → Prop} (X : K.In s.heap) (I : ObjM s.heap x dx C mA) (hg : PySem.W.plainGet K C name = true) (hh : PySem.W.hasDictIn K C = true)
    (ha : PySem.W.findIn K (.ref C) name = some none) (hv : mA name = some v) (hv' : PySem.W.handedIn v = true) (h : Q v { s with toks := s.toks + 1 }) :
    wpAny (model prog w) A (getAttr (.ref x) name expr) Q E s := by
  obtain ⟨od, J, hl⟩ := I.look
  exact PySem.W.get_value X J (PySem.W.plainGet_of hg).1 (PySem.W.findObj_own hh ha rfl (by rw [hl, hv])) hv' h

theorem get_const {expr : Bool} {a : Value} {Q : Value → Shared → Prop} (X : K.In s.heap) (I : ObjM s.heap x dx C mA) (hg : PySem.W.plainGet K C name = true) (hh : PySem.W.hasDictIn K C = true)
    (ha : PySem.W.findIn K (.ref C) name = some (some a)) (hn : PySem.W.specialIn K a "__get__" = some none) (hc : PySem.W.copiedNames.contains name = false) (hv : mA name = none) (hv' : PySem.W.handedIn a = true)
    (h : Q a { s with toks := s.toks + 1 }) : wpAny (model prog w) A (getAttr (.ref x) name expr) Q E s := by
  obtain ⟨od, J, hl⟩ := I.look
  exact PySem.W.get_value X J (PySem.W.plainGet_of hg).1 (PySem.W.findObj_cls hh ha hn hv' hc (by rw [hl, hv])) hv' h

theorem get_meth {pl : Sem Bool} {Q : Value × List Value → Shared → Prop} (X : K.In s.heap) (I : ObjM s.heap x dx C mA) (hg : PySem.W.plainGet K C name = true)
    (hf : PySem.W.findIn K (.ref C) name = some (some (.ref f))) (ht : PySem.W.isFn K (.ref f) = true) (hv : mA name = none) (h : Q (.ref f, [.ref x]) s) :
    wpAny (model prog w) A (getMethod (.ref x) name pl) Q E s := by
  obtain ⟨od, J, hl⟩ := I.look
  exact PySem.W.method_fn X J (PySem.W.plainGet_of hg).1 (PySem.W.plainGet_of hg).2 hf (beq_iff_eq.mp ht) (by show (PySem.W.lookIn name od).map (·.isSome) = some false; rw [hl, hv]; rfl) h

theorem set_map {ns : List Str} {Q : Unit → Shared → Prop} (X : K.In s.heap) (I : ObjM s.heap x dx C mA)
    (hs : PySem.W.findIn K (.ref C) "__setattr__" = some (some (.builtin "object.__setattr__"))) (hp : PySem.W.plainOver K C = true) (ht : PySem.W.takerIn K C name = some none) (hh : PySem.W.hasDictIn K C = true)
    (hw : PySem.Within mA ns) (hsz : ns.length ≤ sizeLine)
    (h : ∀ h', ObjM h' x dx C (fun y => if y = name then some v else mA y) → Heap.SameBut dx s.heap h' → Q () { s with heap := h', toks := s.toks + 2 }) :
    wpAny (model prog w) A (setAttr (.ref x) name v) Q E s := by
  obtain ⟨od, J, hl⟩ := I.look
  refine PySem.W.set_plain X J hs (PySem.W.osa_open (s := { s with toks := s.toks + 1 }) (r := none) X J hp ht fun b => ?_)
  obtain ⟨cd, hc, hd'⟩ := PySem.W.any_some hh
  have hx : s.heap.get? x = some ⟨.ref C, some dx, .plain, #[]⟩ := I.obj
  refine wpAny_bind (wpAny_pure (wpAny_bind (wpAny_bind (wpAny_loadPart hx (wpAny_bind (PySem.W.Looks.here (s := { s with toks := s.toks + 1 }) (PySem.W.looks_clsIn X hc) ?_))))))
  rw [hd']
  refine wpAny_pure (a := some dx) (wpAny_bind (wpAny_pure (wpAny_bind ?_)))
  refine wpAny_nsSet1 (s := { s with toks := s.toks + 1 }) I.ns fun h' hn2 hs2 => ?_
  obtain ⟨oD, esD, epD, hoD, hdD, hcD⟩ := hn2.count (PySem.Within.cons name v hw)
  refine wpAny_bind (wpAny_lookBehind hoD (by rw [hdD]; exact pastItsLine_dict (Nat.le_trans hcD (by rw [List.length_cons]; omega))) ?_)
  exact wpAny_pure (h _ ⟨(hs2.2 _ (Ne.symm I.ne)).trans I.obj, hn2, I.ne⟩ hs2)

/-- C(..): the dict at the heap's end, the instance behind it; then its __init__ -/
theorem make_map {R : Result → Shared → Prop} {vs : List Value} {kw : List (Str × Value)} (X : K.In s.heap) (hm : PySem.W.makesIn K C = true)
    (hi : PySem.W.findIn K (.ref C) "__init__" = some (some (.ref f))) (hf : PySem.W.typeIn K (.ref f) = some (.type "function"))
    (h : codeAny (model prog w) (A.under (.builtin "type.__call__" ⟨.ref C :: vs, kw⟩)) (.call (.ref f) ⟨.ref (s.heap.objs.size + 1) :: vs, kw⟩) (PySem.W.InitBack (s.heap.objs.size + 1) R)
      { s with heap := (s.heap.push PySem.W.emptyDict).push (PySem.W.instObj C s.heap.objs.size) }) :
    codeAny (model prog w) A (.call (.ref C) ⟨vs, kw⟩) R s := by
  obtain ⟨hh, g, d, t, os⟩ := s
  exact PySem.W.make_core (PySem.W.makes_of X hm) (PySem.W.looks_findIn X hi) (fun self => PySem.W.bind_fn X self hf) (.inl rfl) h
/-- C() where there is no __init__ but object's -/
theorem make_map0 {R : Result → Shared → Prop} (X : K.In s.heap) (hm : PySem.W.makesIn K C = true)
    (hi : PySem.W.findIn K (.ref C) "__init__" = some (some (.builtin "object.__init__")))
    (hb : ∀ self, PySem.W.Looks (model prog w) s.heap (bindSpecial (.builtin "object.__init__") self) (.builtin "object.__init__", [self]))
    (h : codeAny (model prog w) (A.under (.builtin "type.__call__" ⟨[.ref C], []⟩)) (.call (.builtin "object.__init__") ⟨[.ref (s.heap.objs.size + 1)], []⟩) (PySem.W.InitBack (s.heap.objs.size + 1) R)
      { s with heap := (s.heap.push PySem.W.emptyDict).push (PySem.W.instObj C s.heap.objs.size) }) :
    codeAny (model prog w) A (.call (.ref C) ⟨[], []⟩) R s := by
  obtain ⟨hh, g, d, t, os⟩ := s
  exact PySem.W.make_core (PySem.W.makes_of X hm) (PySem.W.looks_findIn X hi) hb (.inr ⟨rfl, rfl⟩) h
end

/-! ### the attributes as a list of pairs -/
def putF (f : Str) (v : V) : List (Str × V) → List (Str × V)
  | [] => [(f, v)]
  | (g, x) :: r => if g = f then (g, v) :: r else (g, x) :: putF f v r
theorem lookup_putF (f g : Str) (v : V) : ∀ fs : List (Str × V), (putF f v fs).lookup g = if g = f then some v else fs.lookup g
  | [] => by
    show List.lookup g [(f, v)] = _
    by_cases h : g = f
    · have hb : (g == f) = true := beq_iff_eq.mpr h
      simp only [List.lookup, hb, if_pos h]
    · have hb : (g == f) = false := beq_eq_false_iff_ne.mpr h
      simp only [List.lookup, hb, if_neg h]
  | (k, x) :: r => by
    have ih := lookup_putF f g v r
    rw [show putF f v ((k, x) :: r) = (if k = f then (k, v) :: r else (k, x) :: putF f v r) from rfl]
    by_cases hk : k = f
    · rw [if_pos hk]
      by_cases h : g = k
      · have hb : (g == k) = true := beq_iff_eq.mpr h
        simp only [List.lookup, hb, if_pos (h.trans hk)]
      · have hb : (g == k) = false := beq_eq_false_iff_ne.mpr h
        simp only [List.lookup, hb, if_neg (fun e : g = f => h (e.trans hk.symm))]
    · rw [if_neg hk]
      by_cases h : g = k
      · have hb : (g == k) = true := beq_iff_eq.mpr h
        simp only [List.lookup, hb, if_neg (fun e : g = f => hk (h.symm.trans e))]
      · have hb : (g == k) = false := beq_eq_false_iff_ne.mpr h
        simp only [List.lookup, hb]
        exact ih
theorem keys_putF (f : Str) (v : V) : ∀ fs : List (Str × V), f ∈ (putF f v fs).map (·.1) ∧ ∀ g, g ∈ fs.map (·.1) → g ∈ (putF f v fs).map (·.1)
  | [] => ⟨by simp [putF], fun g h => by simp at h⟩
  | (k, x) :: r => by
    obtain ⟨i1, i2⟩ := keys_putF f v r
    rw [show putF f v ((k, x) :: r) = (if k = f then (k, v) :: r else (k, x) :: putF f v r) from rfl]
    by_cases hk : k = f
    · rw [if_pos hk]
      subst hk
      exact ⟨by simp, fun g h => by simpa using h⟩
    · rw [if_neg hk]
      refine ⟨?_, fun g h => ?_⟩
      · rw [List.map_cons]
        exact List.mem_cons_of_mem _ i1
      · rw [List.map_cons] at h ⊢
        rcases List.mem_cons.mp h with e | e
        · exact List.mem_cons.mpr (.inl e)
        · exact List.mem_cons_of_mem _ (i2 g e)
theorem length_putF (f : Str) (v : V) : ∀ fs : List (Str × V), (putF f v fs).length ≤ fs.length + 1
  | [] => by simp [putF]
  | (k, x) :: r => by
    have ih := length_putF f v r
    rw [show putF f v ((k, x) :: r) = (if k = f then (k, v) :: r else (k, x) :: putF f v r) from rfl]
    by_cases hk : k = f
    · rw [if_pos hk, List.length_cons, List.length_cons]; omega
    · rw [if_neg hk, List.length_cons, List.length_cons]; omega

theorem RelO.some_of {v : V} {o : Option Value} (r : RelO (some v) o) : ∃ u, o = some u ∧ RelV v u := by
  cases o with
  | none => exact (show False from r).elim
  | some u => exact ⟨u, rfl, r⟩
theorem RelO.none_of {o : Option Value} (r : RelO none o) : o = none := by
  cases o with
  | none => rfl
  | some u => exact (show False from r).elim
theorem handed_of {v : V} {u : Value} (r : RelV v u) : PySem.W.handedIn u = true := by
  cases v with
  | non => cases (show u = Value.none from r); rfl
  | bl b => cases (show u = Value.bool b from r); rfl
  | int i => obtain ⟨t, e⟩ := (show ∃ t, u = Value.int i t from r); cases e; rfl
  | str x => obtain ⟨t, e⟩ := (show ∃ t, u = Value.str x t from r); cases e; rfl
  | byt b => obtain ⟨t, e⟩ := (show ∃ t, u = Value.bytes b t from r); cases e; rfl
  | flt b => obtain ⟨t, e⟩ := (show ∃ t, u = Value.float b t from r); cases e; rfl
  | ref a => cases (show u = Value.ref a from r); rfl
  | ty n => cases (show u = Value.type n from r); rfl

section
variable {P : Program} {w : World} {H H' : Hp} {h h' : Heap} {a C dx : Addr} {fs fs' : List (Str × V)}
theorem ins_get (hok : HOk P w H h) (e : H a = some (.ins C dx fs)) : ∃ mA, ObjM h a dx C mA ∧ (∀ f, RelO (fs.lookup f) (mA f)) ∧ PySem.Within mA (fs.map (·.1)) ∧ fs.length ≤ 1000 ∧ H dx = some (.own a) := by
  obtain ⟨d, z, ne, ob, mA, n, r, q⟩ := (show ObjOk P w H h a (.ins C dx fs) from hok a _ e)
  exact ⟨mA, ⟨ob, n, ne⟩, r, q, z, d⟩
end

/-! ### what of the text a class must have -/
structure Cls (K : PySem.W.Frag) (C : Addr) : Prop where
  pg : PySem.W.plainGet K C Str.empty = true
  hd : PySem.W.hasDictIn K C = true
  po : PySem.W.plainOver K C = true
  sa : PySem.W.findIn K (.ref C) "__setattr__" = some (some (.builtin "object.__setattr__"))
theorem Cls.get {K : PySem.W.Frag} {C : Addr} (c : Cls K C) (f : Str) : PySem.W.plainGet K C f = true := c.pg
/-- no class of it has the name -/
def NoAttr (K : PySem.W.Frag) (C : Addr) (f : Str) : Prop := PySem.W.findIn K (.ref C) f = some none
theorem NoAttr.taker {K : PySem.W.Frag} {C : Addr} {f : Str} (n : NoAttr K C f) : PySem.W.takerIn K C f = some none := by
  unfold PySem.W.takerIn
  rw [show PySem.W.findIn K (.ref C) f = some none from n]
  rfl
/-- a constant of the class -/
structure Con (K : PySem.W.Frag) (C : Addr) (f : Str) (v : V) (u : Value) : Prop where
  at_ : PySem.W.findIn K (.ref C) f = some (some u)
  rel : RelV v u
  get : PySem.W.specialIn K u "__get__" = some none
  cp : PySem.W.copiedNames.contains f = false
/-- a method: a plain def of the class or of one above it -/
structure Meth (K : PySem.W.Frag) (C : Addr) (m : Str) (f : Addr) : Prop where
  at_ : PySem.W.findIn K (.ref C) m = some (some (.ref f))
  fn : PySem.W.isFn K (.ref f) = true
  kp : PySem.W.keepIn K (.ref f) = true

section
variable {X : Cx} {pins : List (Addr × Obj)} {σ : St} {H : Hp} {s : Shared} {a C dx : Addr} {fs : List (Str × V)} {f : Str} {v : V} {A : Around} {E : Value → Shared → Prop}

theorem getattr_ok {b : Bool} {Q : Value → Shared → Prop} (I : Inv X pins σ H s) (e : H a = some (.ins C dx fs)) (c : Cls X.K C) (n : NoAttr X.K C f) (l : fs.lookup f = some v)
    (h : ∀ u s', Inv X pins σ H s' → RelV v u → Q u s') : wpAny (model X.prog X.w) A (getAttr (.ref a) f b) Q E s := by
  obtain ⟨mA, O, r, _, _, _⟩ := ins_get I.hok e
  obtain ⟨u, hu, ru⟩ := RelO.some_of (v := v) (o := mA f) (by rw [← l]; exact r f)
  exact get_map I.kIn O (c.get f) c.hd n hu (handed_of ru) (h u _ (I.tok _) ru)

theorem getcon_ok {b : Bool} {u : Value} {Q : Value → Shared → Prop} (I : Inv X pins σ H s) (e : H a = some (.ins C dx fs)) (c : Cls X.K C) (k : Con X.K C f v u) (l : fs.lookup f = none)
    (h : ∀ s', Inv X pins σ H s' → Q u s') : wpAny (model X.prog X.w) A (getAttr (.ref a) f b) Q E s := by
  obtain ⟨mA, O, r, _, _, _⟩ := ins_get I.hok e
  have hn : mA f = none := RelO.none_of (by rw [← l]; exact r f)
  exact get_const I.kIn O (c.get f) c.hd k.at_ k.get k.cp hn (handed_of k.rel) (h _ (I.tok _))

theorem getmeth_ok {m : Str} {g : Addr} {pl : Sem Bool} {Q : Value × List Value → Shared → Prop} (I : Inv X pins σ H s) (e : H a = some (.ins C dx fs)) (c : Cls X.K C) (k : Meth X.K C m g) (l : fs.lookup m = none)
    (h : Q (.ref g, [.ref a]) s) : wpAny (model X.prog X.w) A (getMethod (.ref a) m pl) Q E s := by
  obtain ⟨mA, O, r, _, _, _⟩ := ins_get I.hok e
  have hn : mA m = none := RelO.none_of (by rw [← l]; exact r m)
  exact get_meth I.kIn O (c.get m) k.at_ k.fn hn h

theorem setattr_ok {y : V} {u : Value} {Q : Unit → Shared → Prop} (I : Inv X pins σ H s) (e : H a = some (.ins C dx fs)) (c : Cls X.K C) (n : NoAttr X.K C f) (hl : fs.length < 1000) (ry : RelV y u)
    (h : ∀ s', Inv X pins σ (upd H a (.ins C dx (putF f y fs))) s' → Q () s') : wpAny (model X.prog X.w) A (setAttr (.ref a) f u) Q E s := by
  obtain ⟨mA, O, r, wi, _, ho⟩ := ins_get I.hok e
  have hz : (fs.map (·.1)).length ≤ sizeLine := by rw [List.length_map, sizeLine_eq]; omega
  refine set_map I.kIn O c.sa c.po n.taker c.hd wi hz fun h' O' sb => h _ ?_
  have hd : ∃ o, h'.get? dx = some o := let ⟨o, _, _, e', _⟩ := O'.ns; ⟨o, e'⟩
  refine I.write (x := a) (e := dx) (by rw [e]; exact True.intro) (.inr ho) (fun b q hb z => (sb.2 b hb).trans z) hd ?_
  refine ⟨by rw [upd_ne O.ne]; exact ho, ?_, O.ne, O'.obj, _, O'.ns, fun g => ?_, fun g hg => ?_⟩
  · have := length_putF f y fs; omega
  · show RelO ((putF f y fs).lookup g) (if g = f then some u else mA g)
    rw [lookup_putF]
    by_cases q : g = f
    · rw [if_pos q, if_pos q]; exact ry
    · rw [if_neg q, if_neg q]; exact r g
  · by_cases q : g = f
    · rw [q]; exact (keys_putF f y fs).1
    · refine (keys_putF f y fs).2 g (wi g fun z => hg ?_)
      show (if g = f then some u else mA g) = none
      rw [if_neg q]; exact z

/-- a new instance, tracked, without attributes -/
theorem Inv.made (I : Inv X pins σ H s) : Inv X pins σ (upd (upd H s.heap.objs.size (.own (s.heap.objs.size + 1))) (s.heap.objs.size + 1) (.ins C s.heap.objs.size []))
    { s with heap := (s.heap.push PySem.W.emptyDict).push (PySem.W.instObj C s.heap.objs.size) } := by
  have e1 : (s.heap.push PySem.W.emptyDict).get? s.heap.objs.size = some PySem.W.emptyDict := Heap.get?_push_size s.heap rfl
  have e2 : ((s.heap.push PySem.W.emptyDict).push (PySem.W.instObj C s.heap.objs.size)).get? (s.heap.objs.size + 1) = some (PySem.W.instObj C s.heap.objs.size) := by
    have := Heap.get?_push_size (s.heap.push PySem.W.emptyDict) (o := PySem.W.instObj C s.heap.objs.size) rfl
    rwa [Heap.size_push] at this
  have e3 : (s.heap.push PySem.W.emptyDict).Ns s.heap.objs.size (fun _ => none) := ⟨PySem.W.emptyDict, #[], _, e1, rfl, (fun e he => absurd he (by simp)), fun _ => rfl⟩
  have I1 := I.laid (a := s.heap.objs.size) (o := .own (s.heap.objs.size + 1)) (h' := s.heap.push PySem.W.emptyDict) (t' := s.toks) (fun b u q => Heap.get?_push_of_some _ q) (Nat.le_refl _) ⟨_, e1⟩
  refine I1.laid (a := s.heap.objs.size + 1) (o := .ins C s.heap.objs.size []) (t' := s.toks) (fun b u q => Heap.get?_push_of_some _ q) (Nat.le_of_eq (Heap.size_push _ _)) ?_
  have ne : s.heap.objs.size ≠ s.heap.objs.size + 1 := Nat.ne_of_lt (Nat.lt_succ_self _)
  refine ⟨by rw [upd_ne ne, upd_same], Nat.zero_le _, ne, e2, fun _ => none, (Heap.Ns1.of_empty e3).at fun o q => Heap.get?_push_of_some _ q, fun _ => True.intro, fun y hy => absurd rfl hy⟩

/-- e.f where nothing but the object is asked: through attributeBase (super) and the last hold -/
theorem attr_of {prog : Program} {w : World} {env : Env} {e : Expr} {f : Str} {pos : Pos} {s : Shared} {Q : Value → Shared → Prop} (hb : attributeBase e f env (eval e env) = eval e env)
    (h : wpAny (model prog w) A (eval e env) (fun o s₁ => wpAny (model prog w) A (getAttr o f true) Q E s₁) E s) : wpAny (model prog w) A (eval (.Attribute e f pos) env) Q E s :=
  Attribute_any_ h (by rw [arm_eval_Attribute, hb])
end

/-! ### readings and rules -/
/-- e.f, an attribute of the instance -/
def tFld (K : PySem.W.Frag) (ta : TE) (f : Str) : TE := fun σ H Q => ta σ H fun x H1 => ∃ a C dx fs v, x = .ref a ∧ H1 a = some (.ins C dx fs) ∧ Cls K C ∧ NoAttr K C f ∧ fs.lookup f = some v ∧ Q v H1
/-- e.f, a constant of the class -/
def tCon (K : PySem.W.Frag) (ta : TE) (f : Str) : TE := fun σ H Q => ta σ H fun x H1 => ∃ a C dx fs v u, x = .ref a ∧ H1 a = some (.ins C dx fs) ∧ Cls K C ∧ Con K C f v u ∧ fs.lookup f = none ∧ Q v H1
/-- e.f = value -/
def sFld (K : PySem.W.Frag) (ta tv : TE) (f : Str) : TS := fun D σ H => tv σ H fun y H1 => ta σ H1 fun x H2 => ∃ a C dx fs, x = .ref a ∧ H2 a = some (.ins C dx fs) ∧ Cls K C ∧ NoAttr K C f ∧ fs.length < 1000 ∧
  D.nx σ (upd H2 a (.ins C dx (putF f y fs)))
/-- an augmented operator on two values -/
def InOp (X : Cx) (op : Operator) (rd : V → V → Hp → VK → Prop) : Prop :=
  ∀ (pins : List (Addr × Obj)) (s : Shared) (σ : St) (H : Hp) (x y : V) (u v : Value) (Q : VK), Inv X pins σ H s → RelV x u → RelV y v → rd x y H Q → wpAny (model X.prog X.w) X.A (inplaceOp op u v) (EP X pins σ Q) X.xe s
/-- e.f op= value -/
def sFldAug (K : PySem.W.Frag) (ta tv : TE) (rd : V → V → Hp → VK → Prop) (f : Str) : TS := fun D σ H => ta σ H fun x H1 => ∃ a C dx fs v, x = .ref a ∧ H1 a = some (.ins C dx fs) ∧ Cls K C ∧ NoAttr K C f ∧ fs.lookup f = some v ∧
  tv σ H1 fun y H2 => rd v y H2 fun z H3 => ∃ dx' fs', H3 a = some (.ins C dx' fs') ∧ fs'.length < 1000 ∧ D.nx σ (upd H3 a (.ins C dx' (putF f z fs')))

section
variable {X : Cx} {o e value : Expr} {f : Str} {pos pos' tpos : Pos} {ta tv : TE}
theorem pe_fld (he : PE X e ta) (hb : attributeBase e f X.env (eval e X.env) = eval e X.env) : PE X (.Attribute e f pos) (tFld X.K ta f) := by
  intro pins s σ H Q I h
  refine attr_of hb (thn (he pins s σ H _ I h) fun u s1 ⟨x, H1, I1, rx, a, C, dx, fs, v, ex, ea, c, n, l, q⟩ => ?_)
  subst ex
  obtain rfl : u = Value.ref a := rx
  exact getattr_ok I1 ea c n l fun u' s2 I2 ru => ⟨v, H1, I2, ru, q⟩
theorem pe_con (he : PE X e ta) (hb : attributeBase e f X.env (eval e X.env) = eval e X.env) : PE X (.Attribute e f pos) (tCon X.K ta f) := by
  intro pins s σ H Q I h
  refine attr_of hb (thn (he pins s σ H _ I h) fun u s1 ⟨x, H1, I1, rx, a, C, dx, fs, v, u0, ex, ea, c, k, l, q⟩ => ?_)
  subst ex
  obtain rfl : u = Value.ref a := rx
  exact getcon_ok I1 ea c k l fun s2 I2 => ⟨v, H1, I2, k.rel, q⟩
theorem ps_fld (ha : PE X o ta) (hv : PE X value tv) (hs : swapsWith value (some (.Attribute o f pos')) pos.line X.env = pure false) : PS X (.Assign [.Attribute o f pos'] value pos) (sFld X.K ta tv f) := by
  intro pins s σ H D I h
  refine plainObj_wpAny_Assign_Attribute (thn (hv pins s σ H _ I h) fun u s1 ⟨y, H1, I1, ry, q⟩ => thn (ha pins s1 σ H1 _ I1 q) fun ov s2 ⟨x, H2, I2, rx, a, C, dx, fs, ex, ea, c, n, l, q2⟩ => ?_) hs
  subst ex
  obtain rfl : ov = Value.ref a := rx
  exact setattr_ok I2 ea c n l ry fun s3 I3 => ⟨σ, _, I3, q2⟩
theorem ps_fldaug {op : Operator} {rd : V → V → Hp → VK → Prop} (ha : PE X o ta) (hv : PE X value tv) (hop : InOp X op rd) : PS X (.AugAssign (.Attribute o f tpos) op value pos) (sFldAug X.K ta tv rd f) := by
  intro pins s σ H D I h
  refine wpAny_AugAssign_AttributeAny (thn (ha pins s σ H _ I h) fun ov s1 ⟨x, H1, I1, rx, a, C, dx, fs, v, ex, ea, c, n, l, q⟩ => ?_)
  subst ex
  obtain rfl : ov = Value.ref a := rx
  refine getattr_ok I1 ea c n l fun u s2 I2 ru => thn (hv pins s2 σ H1 _ I2 q) fun w3 s3 ⟨y, H2, I3, ry, q3⟩ => thn (hop pins s3 σ H2 v y u w3 _ I3 ru ry q3) fun w4 s4 ⟨z, H3, I4, rz, dx', fs', ea', l', q4⟩ => ?_
  exact setattr_ok I4 ea' c n l' rz fun s5 I5 => ⟨σ, _, I5, q4⟩
def rAdd : V → V → Hp → VK → Prop := fun x y H Q => ∃ i j, x = .int i ∧ y = .int j ∧ Q (.int (i + j)) H
def rSub : V → V → Hp → VK → Prop := fun x y H Q => ∃ i j, x = .int i ∧ y = .int j ∧ Q (.int (i - j)) H
theorem in_add : InOp X .Add rAdd := by
  rintro pins s σ H x y u v Q I rx ry ⟨i, j, rfl, rfl, q⟩
  obtain ⟨t, rfl⟩ := (show ∃ t, u = Value.int i t from rx)
  obtain ⟨t', rfl⟩ := (show ∃ t', v = Value.int j t' from ry)
  exact PyProof.Rows.iadd_int ⟨.int (i + j), H, I.tok _, ⟨_, rfl⟩, q⟩
theorem in_sub : InOp X .Sub rSub := by
  rintro pins s σ H x y u v Q I rx ry ⟨i, j, rfl, rfl, q⟩
  obtain ⟨t, rfl⟩ := (show ∃ t, u = Value.int i t from rx)
  obtain ⟨t', rfl⟩ := (show ∃ t', v = Value.int j t' from ry)
  exact PyProof.Rows.isub_int ⟨.int (i - j), H, I.tok _, ⟨_, rfl⟩, q⟩

/-- what is between an instance and its method: the tree of a method call -/
theorem methcall_of {pl : Sem Bool} {m : Str} {apos : Pos} {args : List Expr} {pins : List (Addr × Obj)} {s : Shared} {σ : St} {H : Hp} {Q : Value → Shared → Prop} {te : TE} (he : PE X e te) (I : Inv X pins σ H s)
    (h : te σ H fun x H1 => ∃ a C dx fs g, x = .ref a ∧ H1 a = some (.ins C dx fs) ∧ Cls X.K C ∧ Meth X.K C m g ∧ fs.lookup m = none ∧
      ∀ s1, Inv X pins σ H1 s1 → wpAny (model X.prog X.w) X.A (callWith pos (.ref g) [.ref a] (backTo pos (starEach args X.env)) (backToKw pos (keywordEach [] X.env))) Q X.xe s1)
    (ht : eval (.Call (.Attribute e m apos) args [] pos) X.env = (do
      let ov ← eval e X.env
      standAt apos.atName
      let (f, first) ← holding [ov] (getMethod ov m pl)
      callWith pos f first (backTo pos (starEach args X.env)) (backToKw pos (keywordEach [] X.env)))) :
    wpAny (model X.prog X.w) X.A (eval (.Call (.Attribute e m apos) args [] pos) X.env) Q X.xe s := by
  refine PySem.W.methodCall_KW (pl := pl) (thn (he pins s σ H _ I h) fun u s1 ⟨x, H1, I1, rx, a, C, dx, fs, g, ex, ea, c, k, l, q⟩ => ?_) ht
  subst ex
  obtain rfl : u = Value.ref a := rx
  exact getmeth_ok I1 ea c k l (q s1 I1)
end

/-! ### isinstance -/
section
variable {X : Cx} {pins : List (Addr × Obj)} {σ : St} {H : Hp} {s : Shared} {A : Around} {E : Value → Shared → Prop} {Q : Value → Shared → Prop} {c : Value} {b : Bool}
/-- the type of a value, as the fragment's deciders take it; for an instance its class -/
inductive TyOf (K : PySem.W.Frag) (H : Hp) : V → Value → Prop where
  | non : TyOf K H .non (.type "NoneType")
  | bl (x : Bool) : TyOf K H (.bl x) (.type "bool")
  | int (i : Int) : TyOf K H (.int i) (.type "int")
  | str (x : Str) : TyOf K H (.str x) (.type "str")
  | flt (x : UInt64) : TyOf K H (.flt x) (.type "float")
  | lst {a : Addr} {xs : List V} (e : H a = some (.lst xs)) : TyOf K H (.ref a) (.type "list")
  | frz {a : Addr} {o : Obj} {xs : List V} (e : H a = some (.frz o (.lst xs))) : TyOf K H (.ref a) (.type "list")
  | tup {a : Addr} {xs : List V} (e : H a = some (.tup xs)) : TyOf K H (.ref a) (.type "tuple")
  | dK {a : Addr} {kvs : List (Key × V)} (e : H a = some (.dK kvs)) : TyOf K H (.ref a) (.type "dict")
  | dT {a : Addr} {kvs : List (List Key × V)} (e : H a = some (.dT kvs)) : TyOf K H (.ref a) (.type "dict")
  | ins {a C dx : Addr} {fs : List (Str × V)} (e : H a = some (.ins C dx fs)) (cl : Cls K C) (ha : PySem.W.findIn K (.ref C) "__class__" = some (some (.builtin "object.__class__")))
      (hn : PySem.W.specialIn K (.builtin "object.__class__") "__get__" = some (some (.builtin "getset_descriptor.__get__"))) (htk : PySem.W.takesIn K (.builtin "object.__class__") = some true)
      (hm : PySem.W.mroIn K C (.type "object") = some true) : TyOf K H (.ref a) (.ref C)
/-- isinstance(x, c) for one class c, a built-in or an own one: kitOne's answer -/
theorem isinst_ok {x : V} {u t : Value} (I : Inv X pins σ H s) (rx : RelV x u) (ty : TyOf X.K H x t) (e : PySem.W.kitOne X.K t c = some b) (h : ∀ tk, Q (.bool b) { s with toks := tk }) :
    wpAny (model X.prog X.w) A (call (.builtin "isinstance") [u, c]) Q E s := by
  cases ty with
  | non => cases (show u = Value.none from rx); exact PySem.W.kia_one PySem.W.kitx_none I.kIn True.intro e (fun z => nomatch z) h
  | bl y => cases (show u = Value.bool y from rx); exact PySem.W.kia_one PySem.W.kitx_bool I.kIn True.intro e (fun z => nomatch z) h
  | int i => obtain ⟨t, q⟩ := (show ∃ t, u = Value.int i t from rx); cases q; exact PySem.W.kia_one PySem.W.kitx_int I.kIn True.intro e (fun z => nomatch z) h
  | str y => obtain ⟨t, q⟩ := (show ∃ t, u = Value.str y t from rx); cases q; exact PySem.W.kia_one PySem.W.kitx_str I.kIn True.intro e (fun z => nomatch z) h
  | flt y => obtain ⟨t, q⟩ := (show ∃ t, u = Value.float y t from rx); cases q; exact PySem.W.kia_one PySem.W.kitx_float I.kIn True.intro e (fun z => nomatch z) h
  | @lst a xs ea =>
    cases (show u = Value.ref a from rx)
    obtain ⟨_, _, n, _, h1⟩ := (show ObjOk X.prog X.w H s.heap a (.lst xs) from I.hok a _ ea)
    exact PySem.W.kia_one PySem.W.kitx_list I.kIn ⟨_, h1, rfl⟩ e (fun z => nomatch z) h
  | @frz a ob xs ea =>
    cases (show u = Value.ref a from rx)
    obtain ⟨_, _, _, n, _, h1⟩ := (show ObjOk X.prog X.w H s.heap a (.frz ob (.lst xs)) from I.hok a _ ea)
    exact PySem.W.kia_one PySem.W.kitx_list I.kIn ⟨_, h1, rfl⟩ e (fun z => nomatch z) h
  | @tup a xs ea =>
    cases (show u = Value.ref a from rx)
    obtain ⟨_, _, _, p⟩ := (show ObjOk X.prog X.w H s.heap a (.tup xs) from I.hok a _ ea)
    obtain ⟨o, h1, h2, _⟩ := p
    exact PySem.W.kia_one PySem.W.kitx_tuple I.kIn ⟨o, h1, h2⟩ e (fun z => nomatch z) h
  | @dK a kvs ea =>
    cases (show u = Value.ref a from rx)
    obtain ⟨_, _, vs, _, p⟩ := (show ObjOk X.prog X.w H s.heap a (.dK kvs) from I.hok a _ ea)
    obtain ⟨o, es, ep, h1, h2, _⟩ := p
    exact PySem.W.kia_one PySem.W.kitx_dict I.kIn ⟨o, h1, h2.1⟩ e (fun z => nomatch z) h
  | @dT a kvs ea =>
    cases (show u = Value.ref a from rx)
    obtain ⟨_, _, xs, _, o, es, ep, h1, h2, _⟩ := (show ObjOk X.prog X.w H s.heap a (.dT kvs) from I.hok a _ ea)
    exact PySem.W.kia_one PySem.W.kitx_dict I.kIn ⟨o, h1, h2.1⟩ e (fun z => nomatch z) h
  | @ins a C dx fs ea cl ha hn htk hm =>
    cases (show u = Value.ref a from rx)
    obtain ⟨mA, O, _⟩ := ins_get I.hok ea
    obtain ⟨od, J, _⟩ := O.look
    exact PySem.W.kia_one (PySem.W.kitx_own (cl.get _) cl.hd ha hn htk hm) I.kIn J e (fun z => nomatch z) h
end
end L2

namespace L2
open PySem PySem.Spec PyProof.Rows

/-! ### room -/
structure Room (k : Nat) (A : Around) : Prop where
  hd : A.handled = none
  dp : A.depth + 3 * k + 5 < recursionLimit
  un : A.units + 16 * k + 200 < cLine
theorem Room.mono {j k : Nat} {A : Around} (r : Room k A) (h : j ≤ k) : Room j A := ⟨r.hd, by have := r.dp; omega, by have := r.un; omega⟩
theorem Room.deeper {k : Nat} {A : Around} (r : Room (k + 1) A) (env : Env) : Room k (A.deeper env) :=
  ⟨r.hd, by have := r.dp; show A.depth + 1 + 3 * k + 5 < _; omega, by have := r.un; show A.units + 3 + 16 * k + 200 < _; omega⟩
theorem Room.in1 {k : Nat} {A : Around} (r : Room (k + 1) A) : Room k A.in1 :=
  ⟨r.hd, by have := r.dp; show A.depth + 3 * k + 5 < _; omega, by have := r.un; show A.units + 1 + 16 * k + 200 < _; omega⟩
theorem make_depth {A : Around} {C : Addr} {us : List Value} {kw : List (Str × Value)} : (A.under (.builtin "type.__call__" ⟨.ref C :: us, kw⟩)).depth = A.depth + 1 := by
  first | rfl | simp [Around.under, Code.weight, Code.isCreation, Code.isGuard, Code.isCaller, Code.frames, Code.isFrame, guardIds]
theorem make_units {A : Around} {C : Addr} {us : List Value} {kw : List (Str × Value)} : (A.under (.builtin "type.__call__" ⟨.ref C :: us, kw⟩)).units = A.units + 1 := by
  first | rfl | simp [Around.under, Code.cUnits, Code.frames, Code.isFrame]
theorem Room.make {k : Nat} {A : Around} (r : Room (k + 1) A) (C : Addr) (us : List Value) (kw : List (Str × Value)) : Room k (A.under (.builtin "type.__call__" ⟨.ref C :: us, kw⟩)) :=
  ⟨r.hd, by have := r.dp; rw [make_depth]; omega, by have := r.un; rw [make_units]; omega⟩
theorem Room.depth {k : Nat} {A : Around} (r : Room k A) : A.depth < recursionLimit := by have := r.dp; omega
theorem Room.units {k : Nat} {A : Around} (r : Room k A) : A.units + 64 < cLine := by have := r.un; omega
theorem Room.units0 {k : Nat} {A : Around} (r : Room k A) : A.units < cLine := by have := r.un; omega

/-! ### argument lists and displays -/
def tNil : TA := fun _ H Q => Q [] H
def tCons (ta : TE) (tr : TA) : TA := fun σ H Q => ta σ H fun x H1 => tr σ H1 fun xs H2 => Q (x :: xs) H2
section
variable {X : Cx} {e : Expr} {es : List Expr} {te : TE} {t : TA} {pos : Pos}
theorem pa_nil : PA X [] tNil := fun _ _ _ _ H Q I h => Calls.spliced_nil ⟨[], H, I, .nil, h⟩
theorem pa_cons (ha : PE X e te) (hr : PA X es t) (hs : starEach (e :: es) X.env = (false, eval e X.env) :: starEach es X.env := by rfl) : PA X (e :: es) (tCons te t) := by
  intro pos pins s σ H Q I h
  rw [hs]
  show wpAny _ _ (spliced ((false, eval e X.env) :: backTo pos (starEach es X.env))) _ _ s
  refine Calls.spliced_cons (thn (ha pins s σ H _ I h) fun u s1 ⟨x, H1, I1, r1, q1⟩ => ?_)
  exact thn (hr pos pins s1 σ H1 _ I1 q1) fun us s2 ⟨xs, H2, I2, r2, q2⟩ => ⟨x :: xs, H2, I2, .cons r1 r2, q2⟩

/-- a tuple, a list of written items -/
def tTup (t : TA) : TE := fun σ H Q => t σ H fun xs H1 => xs.length ≤ sizeLine ∧ ∀ p, H1 p = none → Q (.ref p) (upd H1 p (.tup xs))
def tLst (t : TA) : TE := fun σ H Q => t σ H fun xs H1 => xs.length ≤ sizeLine ∧ ∀ p, H1 p = none → Q (.ref p) (upd H1 p (.lst xs))
theorem pe_tup {x1} (h : PA X es t) : PE X (.Tuple es x1 pos) (tTup t) := by
  intro pins s σ H Q I hq
  refine wpAny_Tuple_spliced (thn (h pos pins s σ H _ I hq) fun us s1 ⟨xs, H1, I1, r, z, q⟩ => ⟨by rw [← r.length]; exact z, ?_⟩)
  have hf : H1 s1.heap.objs.size = none := I1.hok.fresh (Nat.le_refl _)
  refine ⟨.ref s1.heap.objs.size, upd H1 s1.heap.objs.size (.tup xs), I1.laid (t' := s1.toks) (fun b u e => Heap.get?_push_of_some _ e) (Nat.le_refl _) ?_, rfl, q _ hf⟩
  exact ⟨z, us, r, ⟨_, Heap.get?_push_size _ rfl, rfl, _, rfl⟩⟩
theorem pe_lst (h : PA X es t) : PE X (.List es pos) (tLst t) := by
  intro pins s σ H Q I hq
  refine wpAny_List_spliced (thn (h pos pins s σ H _ I hq) fun us s1 ⟨xs, H1, I1, r, z, q⟩ => ⟨by rw [← r.length]; exact z, ?_⟩)
  have hf : H1 s1.heap.objs.size = none := I1.hok.fresh (Nat.le_refl _)
  refine ⟨.ref s1.heap.objs.size, upd H1 s1.heap.objs.size (.lst xs), I1.laid (t' := s1.toks) (fun b u e => Heap.get?_push_of_some _ e) (Nat.le_refl _) ?_, rfl, q _ hf⟩
  exact ⟨z, us, 0, r, Heap.get?_push_size _ rfl⟩
end

/-! ### what a def promises -/
/-- a def's promise: the bound arguments in the parameters' order, the heap, the wanted end, the wanted exception -/
abbrev Sp := List V → Hp → VK → XK → Prop
/-- how an exception lies behind a call (file 08 gives it): the callers' frames, abstract heap and state ahead of the call, the wish, the exception, the state -/
abbrev CXT := List Env → Hp → Shared → XK → Value → Shared → Prop

/-- the state at a call -/
structure Env0 (P : Program) (w : World) (K : PySem.W.Frag) (mg : Str → Option Value) (base : Heap) (A : Around) (outer : List Env) (s : Shared) (H : Hp) : Prop where
  frames : A.frames = some outer
  mod : Mod K mg base
  bs : ∀ b o, base.get? b = some o → s.heap.get? b = some o ∧ H b = none
  bsz : base.objs.size ≤ s.heap.objs.size
  funs : s.heap.FunFrames base outer
  frf : ∀ b ∈ frs outer, H b = none
  hok : HOk P w H s.heap
  bare : AllBare s.gens
/-- a call's end -/
def CE (outer : List Env) (P : Program) (w : World) (H : Hp) (s : Shared) (Q : VK) (u : Value) (s' : Shared) : Prop :=
  ∃ v H', s'.os = s.os ∧ AllBare s'.gens ∧ Un (frs outer) [] H H' s.heap s'.heap ∧ HOk P w H' s'.heap ∧ RelV v u ∧ Q v H'
def CR (CX : CXT) (outer : List Env) (P : Program) (w : World) (H : Hp) (s : Shared) (Q : VK) (E : XK) (r : Result) (s' : Shared) : Prop :=
  match r with
  | .ok (.ret u) => CE outer P w H s Q u s'
  | .ok _ => False
  | .error e => CX outer H s E e s'
structure FnOk (P : Program) (w : World) (K : PySem.W.Frag) (mg : Str → Option Value) (base : Heap) (CX : CXT) (k : Nat) (f : Addr) (fd : FuncData) (ps : List Str) (sp : Sp) : Prop where
  len : ∀ vs H Q E, sp vs H Q E → vs.length = ps.length
  run : ∀ (A : Around) (outer : List Env) (s : Shared) (H : Hp) (args : Args) (us : List Value) (vs : List V) (Q : VK) (E : XK), Room k A → Env0 P w K mg base A outer s H → BindsTo s fd args (ps.zip us) → Vals vs us → sp vs H Q E →
    codeAny (model P w) A (.call (.ref f) args) (CR CX outer P w H s Q E) s
theorem FnOk.mono {P : Program} {w : World} {K : PySem.W.Frag} {mg : Str → Option Value} {base : Heap} {CX : CXT} {j k : Nat} {f : Addr} {fd : FuncData} {ps : List Str} {sp : Sp} (F : FnOk P w K mg base CX j f fd ps sp) (h : j ≤ k) :
    FnOk P w K mg base CX k f fd ps sp := ⟨F.len, fun A outer s H args us vs Q E hr => F.run A outer s H args us vs Q E (hr.mono h)⟩
/-- a weaker promise -/
theorem FnOk.imp {P : Program} {w : World} {K : PySem.W.Frag} {mg : Str → Option Value} {base : Heap} {CX : CXT} {k : Nat} {f : Addr} {fd : FuncData} {ps : List Str} {sp sp' : Sp} (F : FnOk P w K mg base CX k f fd ps sp)
    (h : ∀ vs H Q E, sp' vs H Q E → sp vs H Q E) : FnOk P w K mg base CX k f fd ps sp' :=
  ⟨fun vs H Q E q => F.len vs H Q E (h _ _ _ _ q), fun A outer s H args us vs Q E hr he hb hv hs => F.run A outer s H args us vs Q E hr he hb hv (h _ _ _ _ hs)⟩

theorem Env0.make {P : Program} {w : World} {K : PySem.W.Frag} {mg : Str → Option Value} {base : Heap} {A : Around} {outer : List Env} {s : Shared} {H : Hp} (e : Env0 P w K mg base A outer s H) (C : Addr) (us : List Value) (kw : List (Str × Value)) :
    Env0 P w K mg base (A.under (.builtin "type.__call__" ⟨.ref C :: us, kw⟩)) outer s H := ⟨by first | exact e.frames | (simpa [Around.under, Code.envs, Code.isFrame, pushEnvs] using e.frames), e.mod, e.bs, e.bsz, e.funs, e.frf, e.hok, e.bare⟩
theorem Env0.in1 {P : Program} {w : World} {K : PySem.W.Frag} {mg : Str → Option Value} {base : Heap} {A : Around} {outer : List Env} {s : Shared} {H : Hp} (e : Env0 P w K mg base A outer s H) :
    Env0 P w K mg base A.in1 outer s H := ⟨e.frames, e.mod, e.bs, e.bsz, e.funs, e.frf, e.hok, e.bare⟩

section
variable {X : Cx} {pins : List (Addr × Obj)} {σ : St} {H : Hp} {s s' : Shared}
/-- from a body: what a callee wants -/
theorem Inv.env0 (I : Inv X pins σ H s) : Env0 X.prog X.w X.K X.mg X.base X.A X.stack s H :=
  ⟨I.ok.frames, I.ok.mod, I.bs, Nat.le_trans I.ok.bsz I.sz, I.stack, I.stkFree, I.hok, I.bare⟩
/-- behind a call -/
theorem Inv.after {Q : VK} {u : Value} (I : Inv X pins σ H s) (h : CE X.stack X.prog X.w H s Q u s') : EP X pins σ Q u s' := by
  obtain ⟨v, H', os, bare, un, hok, r, q⟩ := h
  obtain ⟨hh, g, d, t, os'⟩ := s'
  obtain rfl : os' = s.os := os
  exact ⟨v, H', I.call (h' := hh) (g' := g) (d' := d) (t' := t) (ch := []) un hok bare (fun b z => absurd z (by simp)), r, q⟩
end

/-! ### calls -/
/-- f(..): the written arguments, then the defaults dvs; E: what is wanted of an exception -/
def tCall (sp : Sp) (dvs : List V) (E : XK) (t : TA) : TE := fun σ H Q => t σ H fun vs H1 => sp (vs ++ dvs) H1 Q E
/-- o.m(..) of an instance of the class at C -/
def tMeth (C : Addr) (m : Str) (sp : Sp) (dvs : List V) (E : XK) (ta : TE) (t : TA) : TE := fun σ H Q => ta σ H fun x H1 => ∃ a dx fs, x = .ref a ∧ H1 a = some (.ins C dx fs) ∧ fs.lookup m = none ∧
  t σ H1 fun vs H2 => sp (x :: (vs ++ dvs)) H2 Q E
/-- C(..): a new instance and its dict, then __init__ -/
def tMake (C : Addr) (sp : Sp) (dvs : List V) (E : XK) (t : TA) : TE := fun σ H Q => t σ H fun vs H1 => ∀ x dx, H1 x = none → H1 dx = none → dx ≠ x →
  sp (.ref x :: (vs ++ dvs)) (upd (upd H1 dx (.own x)) x (.ins C dx [])) (fun v H2 => v = .non ∧ Q (.ref x) H2) E

/-- how the parameters are bound: us the positional arguments, kw the keywords' values by name, ds the defaults that fill up -/
def Binds (K : PySem.W.Frag) (fd : FuncData) (ps : List Str) (ds : List Value) : Prop :=
  ∀ (s : Shared) (us : List Value), K.In s.heap → (us ++ ds).length = ps.length → BindsTo s fd ⟨us, []⟩ (ps.zip (us ++ ds))
/-- every parameter is given -/
theorem Binds.all {K : PySem.W.Frag} {fd : FuncData} {ps : List Str} (h : ∀ us : List Value, us.length = ps.length → bindArgs fd ⟨us, []⟩ = pure (ps.zip us)) : Binds K fd ps [] := fun s us _ hl => by
  rw [List.append_nil] at hl ⊢
  exact .of_eq (h us hl)

/-- an exception of a callee reaches what this body wants of exceptions -/
def Passes (CX : CXT) (X : Cx) (E : XK) : Prop := ∀ (pins : List (Addr × Obj)) (σ : St) (H : Hp) (s : Shared) (e : Value) (s' : Shared), Inv X pins σ H s → CX X.stack H s E e s' → X.xe e s'

section
variable {X : Cx} {CX : CXT} {k : Nat} {f C : Addr} {fd : FuncData} {ps : List Str} {sp : Sp} {dvs : List V} {ds : List Value} {E : XK} {x m : Str} {p pos apos : Pos} {e o : Expr} {es : List Expr} {ta : TE} {t : TA}

/-- the callee runs -/
theorem run_fn {pins : List (Addr × Obj)} {σ : St} {H : Hp} {s : Shared} {Q : VK} {us : List Value} {vs : List V} (F : FnOk X.prog X.w X.K X.mg X.base CX k f fd ps sp) (hr : Room k X.A) (hb : Binds X.K fd ps ds) (hd : Vals dvs ds) (hx : Passes CX X E)
    (I : Inv X pins σ H s) (r : Vals vs us) (h : sp (vs ++ dvs) H Q E) : wpAny (model X.prog X.w) X.A (call (.ref f) us) (EP X pins σ Q) X.xe s := by
  have r2 : Vals (vs ++ dvs) (us ++ ds) := r.append hd
  have hl : (us ++ ds).length = ps.length := by rw [← r2.length]; exact F.len _ _ _ _ h
  refine wpAny_call (codeAny_mono (F.run X.A X.stack s H ⟨us, []⟩ (us ++ ds) (vs ++ dvs) Q E hr I.env0 (hb s us I.kIn hl) r2 h) fun r s' hq => ?_)
  cases r with
  | error e => exact hx pins σ H s e s' I hq
  | ok fl =>
    cases fl with
    | ret u => exact I.after hq
    | next => exact False.elim hq
    | brk => exact False.elim hq
    | cont => exact False.elim hq

theorem pe_call (F : FnOk X.prog X.w X.K X.mg X.base CX k f fd ps sp) (hr : Room k X.A) (hg : Gl X x) (hm : X.mg x = some (.ref f)) (hk : PySem.W.keepIn X.K (.ref f) = true) (hb : Binds X.K fd ps ds) (hd : Vals dvs ds) (hx : Passes CX X E)
    (ha : PA X (e :: es) t) (hdb : (x == ("__debug__" : Str)) = false := by decide) (he : starEach (e :: es) X.env = (false, eval e X.env) :: starEach es X.env := by rfl) (hpl : (backTo pos (starEach es X.env)).any (·.1) = false := by rfl) :
    PE X (.Call (.Name x p) (e :: es) [] pos) (tCall sp dvs E t) := by
  intro pins s σ H Q I h
  refine wpAny_Call_Name_kw (ld_glob I hg hm ?_ hdb)
  refine PySem.W.callWith_K (h₀ := X.base) I.ok.mod.kin hk (thn (ha pos pins s σ H _ I h) fun us s1 ⟨vs, H1, I1, r, q⟩ => ⟨I1.kIn, ?_⟩) he hpl
  exact run_fn F hr hb hd hx I1 r q
theorem pe_call0 (F : FnOk X.prog X.w X.K X.mg X.base CX k f fd ps sp) (hr : Room k X.A) (hg : Gl X x) (hm : X.mg x = some (.ref f)) (hk : PySem.W.keepIn X.K (.ref f) = true) (hb : Binds X.K fd ps ds) (hd : Vals dvs ds) (hx : Passes CX X E)
    (hdb : (x == ("__debug__" : Str)) = false := by decide) : PE X (.Call (.Name x p) [] [] pos) (tCall sp dvs E tNil) := by
  intro pins s σ H Q I h
  refine wpAny_Call_Name_kw (ld_glob I hg hm ?_ hdb)
  exact PySem.W.callWith_K0 I.kIn hk (run_fn (us := []) F hr hb hd hx I .nil h)

/-- o.m(e, ..) -/
theorem pe_meth {pl : Sem Bool} (he : PE X o ta) (c : Cls X.K C) (hm : Meth X.K C m f) (F : FnOk X.prog X.w X.K X.mg X.base CX k f fd ps sp) (hr : Room k X.A) (hb : Binds X.K fd ps ds) (hd : Vals dvs ds) (hx : Passes CX X E) (ha : PA X (e :: es) t)
    (hst : starEach (e :: es) X.env = (false, eval e X.env) :: starEach es X.env := by rfl) (hpl : (backTo pos (starEach es X.env)).any (·.1) = false := by rfl)
    (ht : eval (.Call (.Attribute o m apos) (e :: es) [] pos) X.env = (do
      let ov ← eval o X.env
      standAt apos.atName
      let (f, first) ← holding [ov] (getMethod ov m pl)
      callWith pos f first (backTo pos (starEach (e :: es) X.env)) (backToKw pos (keywordEach [] X.env))) := by rfl) :
    PE X (.Call (.Attribute o m apos) (e :: es) [] pos) (tMeth C m sp dvs E ta t) := by
  intro pins s σ H Q I h
  refine PySem.W.methodCall_KW (pl := pl) (thn (he pins s σ H _ I h) fun u s1 ⟨x, H1, I1, rx, a, dx, fs, ex, ea, l, q⟩ => ?_) ht
  subst ex
  obtain rfl : u = Value.ref a := rx
  refine getmeth_ok I1 ea c hm l ?_
  refine PySem.W.callWith_K (first := [.ref a]) (h₀ := X.base) I.ok.mod.kin hm.kp (thn (ha pos pins s1 σ H1 _ I1 q) fun us s2 ⟨vs, H2, I2, r, q2⟩ => ⟨I2.kIn, ?_⟩) hst hpl
  exact run_fn (us := .ref a :: us) (vs := .ref a :: vs) F hr hb hd hx I2 (.cons rfl r) q2
/-- o.m() -/
theorem pe_meth0 {pl : Sem Bool} (he : PE X o ta) (c : Cls X.K C) (hm : Meth X.K C m f) (F : FnOk X.prog X.w X.K X.mg X.base CX k f fd ps sp) (hr : Room k X.A) (hb : Binds X.K fd ps ds) (hd : Vals dvs ds) (hx : Passes CX X E)
    (ht : eval (.Call (.Attribute o m apos) [] [] pos) X.env = (do
      let ov ← eval o X.env
      standAt apos.atName
      let (f, first) ← holding [ov] (getMethod ov m pl)
      callWith pos f first (backTo pos (starEach [] X.env)) (backToKw pos (keywordEach [] X.env))) := by rfl) :
    PE X (.Call (.Attribute o m apos) [] [] pos) (tMeth C m sp dvs E ta tNil) := by
  intro pins s σ H Q I h
  refine PySem.W.methodCall_KW (pl := pl) (thn (he pins s σ H _ I h) fun u s1 ⟨x, H1, I1, rx, a, dx, fs, ex, ea, l, q⟩ => ?_) ht
  subst ex
  obtain rfl : u = Value.ref a := rx
  refine getmeth_ok I1 ea c hm l ?_
  exact PySem.W.callWith_K0 (first := [.ref a]) I1.kIn hm.kp (run_fn (us := [.ref a]) (vs := [.ref a]) F hr hb hd hx I1 (.cons rfl .nil) q)

/-- what a class must have to be made -/
structure Mk (K : PySem.W.Frag) (C f : Addr) : Prop where
  makes : PySem.W.makesIn K C = true
  init : PySem.W.findIn K (.ref C) "__init__" = some (some (.ref f))
  fn : PySem.W.isFn K (.ref f) = true
  kp : PySem.W.keepIn K (.ref C) = true

theorem run_make {pins : List (Addr × Obj)} {σ : St} {H : Hp} {s : Shared} {Q : VK} {us : List Value} {vs : List V} (M : Mk X.K C f) (F : FnOk X.prog X.w X.K X.mg X.base CX k f fd ps sp) (hr : Room (k + 1) X.A) (hb : Binds X.K fd ps ds) (hd : Vals dvs ds)
    (hx : Passes CX X E) (I : Inv X pins σ H s) (r : Vals vs us)
    (h : ∀ x dx, H x = none → H dx = none → dx ≠ x → sp (.ref x :: (vs ++ dvs)) (upd (upd H dx (.own x)) x (.ins C dx [])) (fun v H2 => v = .non ∧ Q (.ref x) H2) E) :
    wpAny (model X.prog X.w) X.A (call (.ref C) us) (EP X pins σ Q) X.xe s := by
  have hq := h (s.heap.objs.size + 1) s.heap.objs.size (I.hok.fresh (Nat.le_succ _)) (I.hok.fresh (Nat.le_refl _)) (Nat.ne_of_lt (Nat.lt_succ_self _))
  have I2 := Inv.made (C := C) I
  have r2 : Vals (V.ref (s.heap.objs.size + 1) :: (vs ++ dvs)) (Value.ref (s.heap.objs.size + 1) :: (us ++ ds)) := .cons rfl (r.append hd)
  have hl : (Value.ref (s.heap.objs.size + 1) :: us ++ ds).length = ps.length := by
    have e := r2.length
    rw [F.len _ _ _ _ hq] at e
    exact e.symm
  refine wpAny_call (make_map (f := f) I.kIn M.makes M.init (beq_iff_eq.mp M.fn) (codeAny_mono (F.run _ X.stack _ _ ⟨Value.ref (s.heap.objs.size + 1) :: us, []⟩ (Value.ref (s.heap.objs.size + 1) :: (us ++ ds)) _ _ E (hr.make C us [])
    (I2.env0.make C us []) (hb _ (Value.ref (s.heap.objs.size + 1) :: us) I2.kIn hl) r2 hq) fun r s' hq' => ?_))
  cases r with
  | error e => exact hx pins σ _ _ e s' I2 hq'
  | ok fl =>
    cases fl with
    | ret u =>
      obtain ⟨v, H', I3, rv, ev, q3⟩ := I2.after hq'
      subst ev
      exact ⟨rv, ⟨V.ref (s.heap.objs.size + 1), H', I3, rfl, q3⟩⟩
    | next => exact False.elim hq'
    | brk => exact False.elim hq'
    | cont => exact False.elim hq'
theorem pe_make (M : Mk X.K C f) (F : FnOk X.prog X.w X.K X.mg X.base CX k f fd ps sp) (hr : Room (k + 1) X.A) (hg : Gl X x) (hm : X.mg x = some (.ref C)) (hb : Binds X.K fd ps ds) (hd : Vals dvs ds) (hx : Passes CX X E)
    (ha : PA X (e :: es) t) (hdb : (x == ("__debug__" : Str)) = false := by decide) (he : starEach (e :: es) X.env = (false, eval e X.env) :: starEach es X.env := by rfl) (hpl : (backTo pos (starEach es X.env)).any (·.1) = false := by rfl) :
    PE X (.Call (.Name x p) (e :: es) [] pos) (tMake C sp dvs E t) := by
  intro pins s σ H Q I h
  refine wpAny_Call_Name_kw (ld_glob I hg hm ?_ hdb)
  refine PySem.W.callWith_K (h₀ := X.base) I.ok.mod.kin M.kp (thn (ha pos pins s σ H _ I h) fun us s1 ⟨vs, H1, I1, r, q⟩ => ⟨I1.kIn, ?_⟩) he hpl
  exact run_make M F hr hb hd hx I1 r q
theorem pe_make0 (M : Mk X.K C f) (F : FnOk X.prog X.w X.K X.mg X.base CX k f fd ps sp) (hr : Room (k + 1) X.A) (hg : Gl X x) (hm : X.mg x = some (.ref C)) (hb : Binds X.K fd ps ds) (hd : Vals dvs ds) (hx : Passes CX X E)
    (hdb : (x == ("__debug__" : Str)) = false := by decide) : PE X (.Call (.Name x p) [] [] pos) (tMake C sp dvs E tNil) := by
  intro pins s σ H Q I h
  refine wpAny_Call_Name_kw (ld_glob I hg hm ?_ hdb)
  exact PySem.W.callWith_K0 I.kIn M.kp (run_make (us := []) M F hr hb hd hx I .nil h)
end

/-! ### keywords -/
/-- the values of the keywords, from the left -/
def PK (X : Cx) (kws : List Keyword) (t : TA) : Prop :=
  ∀ (pos : Pos) (pins : List (Addr × Obj)) (s : Shared) (σ : St) (H : Hp) (Q : List V → Hp → Prop), Inv X pins σ H s → t σ H Q → wpAny (model X.prog X.w) X.A (evalAll ((backToKw pos (keywordEach kws X.env)).map (·.2))) (AP X pins σ Q) X.xe s
section
variable {X : Cx} {CX : CXT} {k : Nat} {f C : Addr} {fd : FuncData} {ps ks : List Str} {sp : Sp} {E : XK} {x m : Str} {p pos apos kpos : Pos} {e o : Expr} {es : List Expr} {kws : List Keyword} {te ta : TE} {t tk : TA} {nm : Option Str}
theorem pk_nil : PK X [] tNil := fun _ _ _ _ H Q I h => wpAny_evalAll_nil ⟨[], H, I, .nil, h⟩
theorem pk_cons (ha : PE X e te) (hr : PK X kws t) : PK X (⟨nm, e, kpos⟩ :: kws) (tCons te t) := by
  intro pos pins s σ H Q I h
  show wpAny _ _ (evalAll ((do let v ← eval e X.env; standAt pos; pure v) :: (backToKw pos (keywordEach kws X.env)).map (·.2))) _ _ s
  refine wpAny_evalAll_cons (wpAny_bind (thn (ha pins s σ H _ I h) fun u s1 ⟨x, H1, I1, r1, q1⟩ => wpAny_bind (wpAny_standAt (wpAny_pure ?_))))
  exact thn (hr pos pins s1 σ H1 _ I1 q1) fun us s2 ⟨xs, H2, I2, r2, q2⟩ => ⟨x :: xs, H2, I2, .cons r1 r2, q2⟩

/-- how a call with keywords binds: g puts the positional values us and the keywords' values ws (names ks) in the parameters' order, defaults among them -/
structure KBinds (K : PySem.W.Frag) (fd : FuncData) (ps ks : List Str) (g : List Value → List Value → List Value) (gV : List V → List V → List V) : Prop where
  to : ∀ (s : Shared) (us ws : List Value), K.In s.heap → (g us ws).length = ps.length → BindsTo s fd ⟨us, ks.zip ws⟩ (ps.zip (g us ws))
  rel : ∀ {vs : List V} {us : List Value} {zs : List V} {ws : List Value}, Vals vs us → Vals zs ws → Vals (gV vs zs) (g us ws)
def tCallK (sp : Sp) (gV : List V → List V → List V) (E : XK) (t tk : TA) : TE := fun σ H Q => t σ H fun vs H1 => tk σ H1 fun zs H2 => sp (gV vs zs) H2 Q E
variable {g : List Value → List Value → List Value} {gV : List V → List V → List V}
theorem run_fnk {pins : List (Addr × Obj)} {σ : St} {H : Hp} {s : Shared} {Q : VK} {us ws : List Value} {vs zs : List V} (F : FnOk X.prog X.w X.K X.mg X.base CX k f fd ps sp) (hr : Room k X.A) (hb : KBinds X.K fd ps ks g gV) (hx : Passes CX X E)
    (I : Inv X pins σ H s) (r : Vals vs us) (rz : Vals zs ws) (h : sp (gV vs zs) H Q E) : wpAny (model X.prog X.w) X.A (call (.ref f) us (ks.zip ws)) (EP X pins σ Q) X.xe s := by
  have r2 := hb.rel r rz
  have hl : (g us ws).length = ps.length := by rw [← r2.length]; exact F.len _ _ _ _ h
  refine wpAny_call (codeAny_mono (F.run X.A X.stack s H ⟨us, ks.zip ws⟩ (g us ws) (gV vs zs) Q E hr I.env0 (hb.to s us ws I.kIn hl) r2 h) fun r s' hq => ?_)
  cases r with
  | error e => exact hx pins σ H s e s' I hq
  | ok fl =>
    cases fl with
    | ret u => exact I.after hq
    | next => exact False.elim hq
    | brk => exact False.elim hq
    | cont => exact False.elim hq
/-- f(e, .., k = v, ..) -/
theorem pe_callK (F : FnOk X.prog X.w X.K X.mg X.base CX k f fd ps sp) (hr : Room k X.A) (hg : Gl X x) (hm : X.mg x = some (.ref f)) (hk : PySem.W.keepIn X.K (.ref f) = true) (hb : KBinds X.K fd ps ks g gV) (hx : Passes CX X E)
    (ha : PA X (e :: es) t) (hkw : PK X kws tk) (hall : (backToKw pos (keywordEach kws X.env)).all (·.1.isSome) = true := by rfl) (hks : (backToKw pos (keywordEach kws X.env)).filterMap (·.1) = ks := by rfl)
    (hdb : (x == ("__debug__" : Str)) = false := by decide) (he : starEach (e :: es) X.env = (false, eval e X.env) :: starEach es X.env := by rfl)
    (hpl : ((backTo pos (starEach (e :: es) X.env)).any (·.1) || (backToKw pos (keywordEach kws X.env)).any (·.1.isNone)) = false := by rfl) :
    PE X (.Call (.Name x p) (e :: es) kws pos) (tCallK sp gV E t tk) := by
  intro pins s σ H Q I h
  refine wpAny_Call_Name_kw (ld_glob I hg hm ?_ hdb)
  refine PySem.W.callWith_KW (h₀ := X.base) I.ok.mod.kin hk hall (thn (ha pos pins s σ H _ I h) fun us s1 ⟨vs, H1, I1, r, q⟩ => ?_) hpl he
  refine thn (hkw pos pins s1 σ H1 _ I1 q) fun ws s2 ⟨zs, H2, I2, rz, q2⟩ => ⟨I2.kIn, ?_⟩
  rw [hks]
  exact run_fnk F hr hb hx I2 r rz q2
end

/-! ### a def's body keeps its promise -/
/-- names: the parameters first -/
structure FnScope (N P : List Str) (sc : Scope) : Prop where
  kind : sc.kind = .function
  co : sc.isCoroutine = false
  gen : sc.isGenerator = false
  nd : N.Nodup
  pre : N.take P.length = P
  par : ∀ x ∈ P, sc.names.lookup x = some .local ∨ sc.names.lookup x = some .cell
  nofree : ∀ y ∈ sc.names, y.2 ≠ .free

theorem bindL_out {kindOf : Str → Option NameKind} {x : Str} : ∀ {binds : List (Str × Value)} {m : Str → Option Value}, (∀ v, (x, v) ∉ binds) → bindL kindOf binds m x = m x
  | [], _, _ => rfl
  | (n, v) :: r, m, h => by
    unfold bindL
    rw [bindL_out fun w hw => h w (List.mem_cons_of_mem _ hw)]
    split
    · have : x ≠ n := by rintro rfl; exact h v List.mem_cons_self
      simp [this]
    · rfl
theorem bindC_out {kindOf : Str → Option NameKind} {x : Str} : ∀ {binds : List (Str × Value)} {m : Str → Option Value}, (∀ v, (x, v) ∉ binds) → bindC kindOf binds m x = m x
  | [], _, _ => rfl
  | (n, v) :: r, m, h => by
    unfold bindC
    rw [bindC_out fun w hw => h w (List.mem_cons_of_mem _ hw)]
    split
    · rfl
    · have : x ≠ n := by rintro rfl; exact h v List.mem_cons_self
      simp [this]
theorem bindL_get {kindOf : Str → Option NameKind} {x : Str} {v : Value} : ∀ {P : List Str} {vs : List Value} {i : Nat} {m : Str → Option Value}, P.Nodup → P[i]? = some x → vs[i]? = some v → kindOf x = some .local →
    bindL kindOf (P.zip vs) m x = some v
  | [], _, _, _, _, h, _, _ => by simp at h
  | _ :: _, [], _, _, _, _, h, _ => by simp at h
  | p :: P, w :: vs, 0, m, nd, h1, h2, hk => by
    simp at h1 h2; subst h1; subst h2
    show bindL kindOf ((p, w) :: P.zip vs) m p = _
    unfold bindL
    rw [bindL_out fun v hv => (List.nodup_cons.mp nd).1 (List.of_mem_zip hv).1, if_pos hk]
    simp
  | p :: P, w :: vs, i + 1, m, nd, h1, h2, hk => by
    show bindL kindOf ((p, w) :: P.zip vs) m x = _
    unfold bindL
    exact bindL_get (i := i) (List.nodup_cons.mp nd).2 (by simpa using h1) (by simpa using h2) hk
theorem bindC_get {kindOf : Str → Option NameKind} {x : Str} {v : Value} : ∀ {P : List Str} {vs : List Value} {i : Nat} {m : Str → Option Value}, P.Nodup → P[i]? = some x → vs[i]? = some v → kindOf x ≠ some .local →
    bindC kindOf (P.zip vs) m x = some v
  | [], _, _, _, _, h, _, _ => by simp at h
  | _ :: _, [], _, _, _, _, h, _ => by simp at h
  | p :: P, w :: vs, 0, m, nd, h1, h2, hk => by
    simp at h1 h2; subst h1; subst h2
    show bindC kindOf ((p, w) :: P.zip vs) m p = _
    unfold bindC
    rw [bindC_out fun v hv => (List.nodup_cons.mp nd).1 (List.of_mem_zip hv).1, if_neg hk]
    simp
  | p :: P, w :: vs, i + 1, m, nd, h1, h2, hk => by
    show bindC kindOf ((p, w) :: P.zip vs) m x = _
    unfold bindC
    exact bindC_get (i := i) (List.nodup_cons.mp nd).2 (by simpa using h1) (by simpa using h2) hk

/-- the names' values at the entry -/
def start (N : List Str) (vs : List V) : St := vs.map some ++ List.replicate (N.length - vs.length) none

/-- the context of a def's body, at its entry; an exception leaves the frame, then lies as CX says -/
def cxOf (CX : CXT) (P : Program) (w : World) (K : PySem.W.Frag) (mg : Str → Option Value) (base : Heap) (N : List Str) (qual : Str) (scope : Scope) (f : Addr) (cd : Value) (A : Around) (outer : List Env) (s : Shared) (H : Hp) (E : XK) : Cx where
  prog := P
  w := w
  K := K
  mg := mg
  base := base
  A := A.deeper (envOfC qual scope s.heap.objs.size f cd)
  N := N
  s₀ := s
  H₀ := H
  env := envOfC qual scope s.heap.objs.size f cd
  outer := outer
  stack := envOfC qual scope s.heap.objs.size f cd :: outer
  ex := []
  calm := true
  fn := fun _ => true
  pn := []
  xe := fun e s' => wpAny (model P w) (A.deeper (envOfC qual scope s.heap.objs.size f cd)) (leaving (envOfC qual scope s.heap.objs.size f cd) e) (fun _ s'' => CX outer H s E e s'') (fun e' s'' => CX outer H s E e' s'') s'

theorem cell_has {sc : Scope} {n : Nat} {x : Str} (h : sc.names.lookup x = some .cell) : ∃ c, (cellsFrom n sc.names []).lookup x = some c := by
  have q := PySem.W.cellsFrom_some sc.names n [] (.inl h)
  exact Option.isSome_iff_exists.mp q

theorem inv_start {CX : CXT} {P : Program} {w : World} {K : PySem.W.Frag} {mg : Str → Option Value} {base : Heap} {N ps : List Str} {qual : Str} {scope : Scope} {f : Addr} {cd : Value} {A : Around} {outer : List Env} {s s1 : Shared} {H : Hp} {E : XK} {us : List Value} {vs : List V}
    (S : FnScope N ps scope) (hd : A.handled = none) (e0 : Env0 P w K mg base A outer s H) (hl : vs.length = ps.length) (r : Vals vs us)
    (x : InCallC s s.heap.objs.size (bindL (envOfC qual scope s.heap.objs.size f cd).kindOf (ps.zip us) fun _ => none) (cellsFrom (s.heap.objs.size + 1) scope.names []) (bindC (envOfC qual scope s.heap.objs.size f cd).kindOf (ps.zip us) fun _ => none) s1) :
    Inv (cxOf CX P w K mg base N qual scope f cd A outer s H E) [] (start N vs) H s1 := by
  have hpl : ps.length ≤ N.length := by have := congrArg List.length S.pre; rw [List.length_take] at this; omega
  obtain ⟨h1, tk, rfl, hk⟩ := x.done
  have noA : ∀ b : Addr, b ∉ (cxOf CX P w K mg base N qual scope f cd A outer s H E).ex := fun b z => absurd (show b ∈ ([] : List Addr) from z) (by simp)
  refine ⟨⟨e0.mod, S.kind, rfl, rfl, Nat.le_refl _, fun y z c h1 h2 => ?_, fun y hy => ?_, fun y c _ h => ?_, fun _ => hd, Around.frames_deeper e0.frames, .inr ⟨rfl, rfl⟩, fun b z => absurd z (noA b), e0.bs, e0.bsz, fun b _ _ => noA b, fun b z => absurd z (noA b), e0.funs, e0.frf⟩,
    rfl, e0.bare, Un.kept hk, ⟨_, x.toInCall.ns, fun i y v h1 h2 h3 => ?_⟩, fun y c h => ⟨_, x.cell y c h⟩, e0.hok.fresh (Nat.le_refl _), fun y c h => ?_, fun p hp => absurd (show p ∈ ([] : List (Addr × Obj)) from hp) (by simp), e0.hok.kept hk, ?_⟩
  · exact name_of_addr x.apart (PySem.mem_of_lookup h1) (PySem.mem_of_lookup h2)
  · have hy : scope.names.lookup y = some .cell ∨ scope.names.lookup y = some .free := hy
    rcases hy with hy | hy
    · exact cell_has hy
    · exact absurd rfl (S.nofree _ (PySem.mem_of_lookup hy))
  · exact Nat.le_of_lt (x.above y c (PySem.mem_of_lookup h))
  · have hi : i < vs.length := by
      unfold start at h2
      by_cases hi : i < vs.length
      · exact hi
      · rw [List.getElem?_append_right (by simpa using hi)] at h2
        rw [List.getElem?_replicate] at h2
        split at h2 <;> cases h2
    have ha : vs[i]? = some v := by
      unfold start at h2
      rw [List.getElem?_append_left (by simpa using hi), List.getElem?_map] at h2
      cases e : vs[i]? with
      | none => rw [e] at h2; cases h2
      | some a => rw [e] at h2; cases h2; rfl
    obtain ⟨u, hu, rv⟩ := r.get ha
    have hp : ps[i]? = some y := by
      rw [← S.pre, List.getElem?_take_of_lt (by omega)]; exact h1
    have ndP : ps.Nodup := by rw [← S.pre]; exact S.nd.sublist (List.take_sublist _ _)
    refine ⟨u, rv, ?_⟩
    rcases S.par y (List.mem_of_getElem? hp) with k | k
    · exact .inl ⟨k, bindL_get ndP hp hu k⟩
    · obtain ⟨c, e⟩ := cell_has (n := s.heap.objs.size + 1) k
      refine .inr ⟨.inl k, c, e, ?_⟩
      have q := x.cell y c e
      rw [bindC_get ndP hp hu (by show scope.names.lookup y ≠ _; rw [k]; decide)] at q
      exact q
  · exact e0.hok.fresh (Nat.le_of_lt (x.above y c (PySem.mem_of_lookup h)))
  · unfold start
    show _ = N.length
    rw [List.length_append, List.length_map, List.length_replicate]
    omega

/-- THE RULE: a def (or a method) of the text, by its body. The body's reading t is chosen for each entry; it is run at the parameters' values -/
theorem fn_of {CX : CXT} {P : Program} {w : World} {K : PySem.W.Frag} {mg : Str → Option Value} {base : Heap} {k : Nat} {f : Addr} {name qual : Str} {params : Arguments} {body : List Stmt} {scope : Scope} {dV kV doc pm cdv ct oc : Value} {an od : Option Addr}
    {osl : Array (Option Value)} {N ps : List Str} {sp : Sp} (lk : K.lookup f = some ⟨oc, od, .func (PySem.W.fnOf name qual params body scope dV kV doc pm an cdv ct), osl⟩) (hcd : PySem.W.codeIn K cdv qual = true) (S : FnScope N ps scope)
    (len : ∀ vs H Q E, sp vs H Q E → vs.length = ps.length)
    (hbody : ∀ (A : Around) (outer : List Env) (s : Shared) (H : Hp) (vs : List V) (Q : VK) (E : XK), Room k (A.deeper (envOfC qual scope s.heap.objs.size f cdv)) → sp vs H Q E →
      ∃ t, PSs (cxOf CX P w K mg base N qual scope f cdv A outer s H E) body t ∧ t { nx := fun _ H' => Q .non H', rt := Q } (start N vs) H) :
    FnOk P w K mg base CX (k + 1) f (PySem.W.fnOf name qual params body scope dV kV doc pm an cdv ct) ps sp := by
  refine ⟨len, fun A outer s H args us vs Q E hr e0 hb r hsp => ?_⟩
  have hl := len _ _ _ _ hsp
  have KX : K.In s.heap := e0.mod.kin.keeps fun b o e => (e0.bs b o e).1
  have lim : s.heap.NoLimit := e0.mod.nolimit.keeps fun b o e => (e0.bs b o e).1
  have hkind : ∀ y ∈ ps.zip us, scope.names.lookup y.1 = some .local ∨ (scope.names.lookup y.1 = some .cell ∧ ((cellsFrom (s.heap.objs.size + 1) scope.names []).lookup y.1).isSome = true) := fun ⟨n, v⟩ hy => by
    rcases S.par n (List.of_mem_zip hy).1 with q | q
    · exact .inl q
    · exact .inr ⟨q, PySem.W.cellsFrom_some _ _ _ (.inl q)⟩
  refine codeAny_call_function hr.depth (KX _ _ lk) rfl S.co S.gen rfl (PySem.W.codeRec_of KX hcd) (hb _ _ _ _ ?_)
  refine wpAny_newFunctionEnv_cells S.kind hkind fun env he s1 x => ?_
  subst he
  refine ⟨lim.keeps x.toInCall.keep, codeAny_func ?_⟩
  obtain ⟨t, ht, hq⟩ := hbody A outer s H vs Q E (hr.deeper _) hsp
  have I : Inv (cxOf CX P w K mg base N qual scope f cdv A outer s H E) [] (start N vs) H s1 := inv_start S hr.hd e0 hl r x
  refine wpAny_mono (ht [] s1 (start N vs) H _ I hq) (fun fl s' hs => ?_) fun e s' hs => hs
  have fin : ∀ {σ' : St} {H' : Hp} {v : V} {u : Value}, Inv (cxOf CX P w K mg base N qual scope f cdv A outer s H E) [] σ' H' s' → RelV v u → Q v H' → CE outer P w H s Q u s' :=
    fun {σ' H' v u} J rv q => ⟨v, H', J.os, J.bare, J.base, J.hok, rv, q⟩
  cases fl with
  | ret u =>
    obtain ⟨v, σ', H', J, rv, q⟩ := hs
    exact fin J rv q
  | next =>
    obtain ⟨σ', H', J, q⟩ := hs
    exact fin (v := V.non) (u := Value.none) J rfl q
  | brk =>
    obtain ⟨_, _, _, q⟩ := hs
    exact False.elim q
  | cont =>
    obtain ⟨_, _, _, q⟩ := hs
    exact False.elim q
end L2

namespace L2
open PySem PySem.Spec PyProof.Rows
section
variable {X : Cx} {x : Str} {p pos : Pos} {e : Expr} {es : List Expr} {t : TA} {id T : String} {r : List V → Hp → VK → Prop}

def tCB (r : List V → Hp → VK → Prop) (t : TA) : TE := fun σ H Q => t σ H fun vs H1 => r vs H1 Q
/-- f(e, ..), f a built-in function -/
theorem pe_callB (hc : CallR X (.builtin id) r) (hg : Gl X x) (hm : X.mg x = none) (hv : bootBuiltins x = some (.builtin id)) (ha : PA X (e :: es) t) (hn : x ≠ "__name__" := by decide) (hdb : (x == ("__debug__" : Str)) = false := by decide)
    (he : starEach (e :: es) X.env = (false, eval e X.env) :: starEach es X.env := by rfl) (hpl : (backTo pos (starEach es X.env)).any (·.1) = false := by rfl) : PE X (.Call (.Name x p) (e :: es) [] pos) (tCB r t) := by
  intro pins s σ H Q I h
  refine wpAny_Call_Name_kw (ld_blt I hg hm hv ?_ hn hdb)
  exact PyProof.Rows.callWith_builtin1 (thn (ha pos pins s σ H _ I h) fun us s1 ⟨vs, H1, I1, r1, q1⟩ => hc pins s1 σ H1 vs us Q I1 r1 q1) he hpl
/-- T(e, ..), T a built-in type -/
theorem pe_callTy (hc : CallR X (.type T) r) (hg : Gl X x) (hm : X.mg x = none) (hv : bootBuiltins x = some (.type T)) (ha : PA X (e :: es) t) (hn : x ≠ "__name__" := by decide) (hdb : (x == ("__debug__" : Str)) = false := by decide)
    (he : starEach (e :: es) X.env = (false, eval e X.env) :: starEach es X.env := by rfl) (hpl : (backTo pos (starEach es X.env)).any (·.1) = false := by rfl) : PE X (.Call (.Name x p) (e :: es) [] pos) (tCB r t) := by
  intro pins s σ H Q I h
  refine wpAny_Call_Name_kw (ld_blt I hg hm hv ?_ hn hdb)
  exact PyProof.Rows.callWith_type1 (thn (ha pos pins s σ H _ I h) fun us s1 ⟨vs, H1, I1, r1, q1⟩ => hc pins s1 σ H1 vs us Q I1 r1 q1) he hpl
/-- T() -/
theorem pe_callTy0 (hc : CallR X (.type T) r) (hg : Gl X x) (hm : X.mg x = none) (hv : bootBuiltins x = some (.type T)) (hn : x ≠ "__name__" := by decide) (hdb : (x == ("__debug__" : Str)) = false := by decide) :
    PE X (.Call (.Name x p) [] [] pos) (tCB r tNil) := by
  intro pins s σ H Q I h
  refine wpAny_Call_Name_kw (ld_blt I hg hm hv ?_ hn hdb)
  exact PyProof.Rows.callWith_type0 (hc pins s σ H [] [] Q I .nil h)
end
end L2

namespace HT
open PySem PyProof.Rows

/-- t < u of tuples of ints -/
def lexLt : List Int → List Int → Bool
  | [], [] => false
  | [], _ :: _ => true
  | _ :: _, [] => false
  | x :: xs, y :: ys => if x = y then lexLt xs ys else decide (x < y)
theorem lexLt_cons (x y : Int) (xs ys : List Int) : lexLt (x :: xs) (y :: ys) = if x = y then lexLt xs ys else decide (x < y) := rfl
theorem lexLt_nil_nil : lexLt [] [] = false := rfl
theorem lexLt_nil_cons (y : Int) (ys : List Int) : lexLt [] (y :: ys) = true := rfl
theorem lexLt_cons_nil (x : Int) (xs : List Int) : lexLt (x :: xs) [] = false := rfl

theorem eqAt_int (A : Around) (s : Shared) (a : Int) (t : Tok) (c : Int) (u : Tok) : ∃ e, SeqAt.EqAt A s (.int a t) (.int c u) e ∧ (e = true ↔ a = c) :=
  ⟨(a == c), SeqAt.EqAt.int_int a t c u, by simp⟩
theorem rcLt_int (A : Around) (s : Shared) (a : Int) (t : Tok) (c : Int) (u : Tok) (prog : Program) (w : World) (E : Value → Shared → Prop) (Q : Value → Shared → Prop) (h : Q (.bool (decide (a < c))) s) :
    wpAny (model prog w) A (richCompare .Lt (.int a t) (.int c u)) Q E s :=
  (PyProof.Rows.lt_int h : wpAny (model prog w) A (compareOp .Lt (.int a t) (.int c u)) Q E s)

section
open PySem.SeqAt
open PySem.AutoSeq1 (wpAny_loadPart')
open PySem.MeetsSeq PySem.MeetsSeq2 PySem.MeetsSeq3

theorem tuple_lt_ints (l b : Addr) (items items2 : Array Value) (n n2 : Nat) (dd dd2 : Option Addr) (sl sl2 : Array (Option Value)) (ns ms : List Int) (hi : IntsAre items.toList ns) (hj : IntsAre items2.toList ms) :
    Meets (Builtin.«tuple.__lt__» ⟨[.ref l, .ref b], []⟩)
      (fun _ R s => s.heap.get? l = some { cls := .type "tuple", dict := dd, data := .seq items n, slots := sl } ∧ s.heap.get? b = some { cls := .type "tuple", dict := dd2, data := .seq items2 n2, slots := sl2 } ∧
        R (.ok (.ret (.bool (lexLt ns ms)))) s) :=
  .of_wp fun prog w A R s h => by
    obtain ⟨hp, g, d, tk, os⟩ := s; obtain ⟨hl, hb, h⟩ := h
    have f2 := AutoSeq1.sub_tuple_tuple
    have z1 : items.size = ns.length := by rw [← hi.length]; simp
    have z2 : items2.size = ms.length := by rw [← hj.length]; simp
    wp_walk using wpAny_loadPart' hl, wpAny_loadPart' hb, wpAny_forIn_list _ (fun rest b s' => b.1 = none ∧ s' = ⟨hp, g, d, tk, os⟩ ∧ ∃ (vs ws : List Value) (ns' ms' : List Int), rest = vs.zip ws ∧
      IntsAre vs ns' ∧ IntsAre ws ms' ∧ ns'.length + items2.size = ms'.length + items.size ∧ R (.ok (.ret (.bool (lexLt ns' ms')))) ⟨hp, g, d, tk, os⟩) _
    case turn =>
      rintro ⟨y, x⟩ rest b s' ⟨hb', rfl, vs, ws, ns', ms', hz, hvi, hwi, hlen, hR⟩
      cases hvi with
      | nil => rw [List.zip_nil_left] at hz; cases hz
      | cons a t hvi' =>
        cases hwi with
        | nil => rw [List.zip_nil_right] at hz; cases hz
        | cons c u hwi' =>
          rw [List.zip_cons_cons] at hz
          injection hz with hyx hrest
          injection hyx with hy hx
          subst hy hx
          rw [lexLt_cons] at hR
          simp only [List.length_cons] at hlen
          obtain ⟨e, he, hiff⟩ := eqAt_int A.in1 ⟨hp, g, d, tk, os⟩ a t c u
          refine wpAny_bind (he prog w _ _ ?_)
          cases e with
          | true =>
            rw [if_pos (hiff.mp rfl)] at hR
            wp_walk
            exact ⟨rfl, rfl, _, _, _, _, hrest, hvi', hwi', by omega, hR⟩
          | false =>
            rw [if_neg (fun q => absurd (hiff.mpr q) Bool.false_ne_true)] at hR
            have hri := rcLt_int A.in1 ⟨hp, g, d, tk, os⟩ a t c u prog w
            wp_walk using hri
            exact ⟨_, rfl, by simpa using hR⟩
    case fin =>
      rintro ⟨b1, b2⟩ s' ⟨hb', rfl, vs, ws, ns', ms', hz, hvi, hwi, hlen, hR⟩
      simp only at hb'
      subst hb'
      have hv : lexLt ns' ms' = decide (items.size < items2.size) := by
        cases hvi with
        | nil =>
          cases hwi with
          | nil =>
            simp only [List.length_nil] at hlen
            rw [lexLt_nil_nil]
            exact (decide_eq_false (by omega)).symm
          | cons c u hw =>
            simp only [List.length_nil, List.length_cons] at hlen
            rw [lexLt_nil_cons]
            exact (decide_eq_true (by omega)).symm
        | cons a t hv =>
          cases hwi with
          | nil =>
            simp only [List.length_nil, List.length_cons] at hlen
            rw [lexLt_cons_nil]
            exact (decide_eq_false (by omega)).symm
          | cons c u hw =>
            rw [List.zip_cons_cons] at hz
            cases hz
      rw [hv] at hR
      wp_walk
      exact ⟨_, rfl, by simpa [Builtin.Tuple.tupleCompareSizes] using hR⟩
    case h =>
      exact ⟨rfl, rfl, items.toList, items2.toList, ns, ms, rfl, hi, hj, by omega, h⟩
end

section
variable {prog : Program} {w : World} {A : Around} {E : Value → Shared → Prop} {s : Shared}

theorem lt_tupInts {l b : Addr} {items items2 : Array Value} {ns ms : List Int} {Q : Value → Shared → Prop} (hl : IsTup s.heap l items) (hb : IsTup s.heap b items2) (hi : IntsAre items.toList ns) (hj : IntsAre items2.toList ms)
    (hu : A.units < cLine) (h : Q (.bool (lexLt ns ms)) s) : wpAny (model prog w) A (compareOp .Lt (.ref l) (.ref b)) Q E s := by
  obtain ⟨⟨cls, dd, data, sl⟩, ho, hc, n, hd⟩ := id hl
  obtain ⟨⟨cls2, dd2, data2, sl2⟩, ho2, hc2, n2, hd2⟩ := id hb
  simp only at hc hd hc2 hd2
  subst hc hd hc2 hd2
  exact richCompare_meets_room (op := .Lt) ⟨_, ho, rfl⟩ ⟨_, ho2, rfl⟩ PySem.F.slot_tuple_lt PySem.F.entry_tuple_lt (PySem.F.args_tuple_lt_2 _ _) (tuple_lt_ints l b items items2 n n2 dd dd2 sl sl2 ns ms hi hj)
    ⟨ho, ho2, show Value.bool (lexLt ns ms) ≠ Value.notImplemented ∧ Q (.bool (lexLt ns ms)) s from ⟨(fun x => nomatch x), h⟩⟩ hu

/-- t + u, t not empty -/
theorem cat_tup {t b : Addr} {vs ws : List Value} {Q : Value → Shared → Prop} (ht : IsTup s.heap t vs.toArray) (hb : IsTup s.heap b ws.toArray) (hv : vs ≠ [])
    (h1 : ws = [] → Q (.ref t) s) (h2 : ws ≠ [] → Q (.ref s.heap.objs.size) { s with heap := s.heap.push { cls := .type "tuple", data := .seq (vs ++ ws).toArray } })
    (hsz : vs.length + ws.length ≤ sizeLine) : wpAny (model prog w) A (binaryOp .Add (.ref t) (.ref b)) Q E s := by
  obtain ⟨⟨cls, dd, data, sl⟩, ho, hc, n, hd⟩ := id ht
  obtain ⟨⟨cls2, dd2, data2, sl2⟩, ho2, hc2, n2, hd2⟩ := id hb
  simp only at hc hd hc2 hd2
  subst hc hd hc2 hd2
  have e : vs.toArray ++ ws.toArray = (vs ++ ws).toArray := by simp
  by_cases hw : ws = []
  · exact concat_meets ⟨_, ho, rfl⟩ ⟨_, ho2, rfl⟩ noFill_tuple_add seq_tuple_add PySem.F.slot_tuple_add PySem.F.entry_tuple_add (PySem.F.args_tuple_add_2 _ _)
      (tuple_addW1 t b vs.toArray ws.toArray n n2 dd dd2 sl sl2 (by simpa using hv) (by simp [hw])) ⟨ho, ho2, h1 hw⟩
  · refine concat_meets ⟨_, ho, rfl⟩ ⟨_, ho2, rfl⟩ noFill_tuple_add seq_tuple_add PySem.F.slot_tuple_add PySem.F.entry_tuple_add (PySem.F.args_tuple_add_2 _ _)
      (tuple_addW2 t b vs.toArray ws.toArray n n2 dd dd2 sl sl2 (by simpa using hv) (by simpa using hw) (by rw [List.size_toArray, List.size_toArray]; exact hsz)) ⟨ho, ho2, ?_⟩
    rw [e]
    exact h2 hw

/-! ### t[a:b], not the whole -/
/-- a slice's bound as a place among n (d where it is left out) -/
def sIx (n d : Nat) : Option Int → Nat
  | none => d
  | some v => if v < 0 then (v + (n : Int)).toNat else min v.toNat n
theorem sIx_none (n d : Nat) : sIx n d none = d := rfl
theorem sIx_nat (n d k : Nat) : sIx n d (some (k : Int)) = min k n := by
  show (if (k : Int) < 0 then ((k : Int) + (n : Int)).toNat else min (k : Int).toNat n) = min k n
  rw [if_neg (by omega), Int.toNat_natCast]
theorem sIx_le (n d : Nat) (hd : d ≤ n) (o : Option Int) : sIx n d o ≤ n := by
  cases o with
  | none => exact hd
  | some v =>
    show (if v < 0 then (v + (n : Int)).toNat else min v.toNat n) ≤ n
    by_cases hv : v < 0
    · rw [if_pos hv]; omega
    · rw [if_neg hv]; exact Nat.min_le_right _ _
theorem clip_eq (v : Int) (n d : Nat) : (if v < 0 then max (v + (n : Int)) 0 else min v (n : Int)) = ((sIx n d (some v) : Nat) : Int) := by
  show (if v < 0 then max (v + (n : Int)) 0 else min v (n : Int)) = (((if v < 0 then (v + (n : Int)).toNat else min v.toNat n) : Nat) : Int)
  by_cases hv : v < 0
  · simp only [if_pos hv]; omega
  · simp only [if_neg hv]; omega
theorem adjust_gen (lo hi : Option Int) (n : Nat) : Builtin.Slice.sliceAdjust lo hi 1 (n : Int) = (((sIx n 0 lo : Nat) : Int), ((sIx n n hi : Nat) : Int)) := by
  have h1 : ¬ ((1 : Int) < 0) := by omega
  unfold Builtin.Slice.sliceAdjust
  simp only [h1, if_false]
  refine Prod.ext ?_ ?_
  · cases lo with
    | none => rfl
    | some v => exact clip_eq v n 0
  · cases hi with
    | none => rfl
    | some v => exact clip_eq v n n
theorem places_gen (i j : Nat) : Builtin.Slice.slicePlaces (i : Int) (j : Int) 1 = j - i := by
  unfold Builtin.Slice.slicePlaces
  have h1 : (1 : Int) > 0 := by omega
  simp only [h1, if_true, Int.ediv_one]
  split <;> omega
theorem slicePart_ {v : Value} {o : Option Int} {Q : Option Int → Shared → Prop} (p : IsPart v o) (h : Q o s) : wpAny (model prog w) A (Builtin.Slice.slicePartIndex v) Q E s := by
  cases p with
  | none => exact slicePart_none h
  | int i t => exact slicePart_int h
theorem sliceApplied_gen {sl : Addr} {vl vu : Value} {lo hi : Option Int} {n : Nat} {Q : Int × Int × Nat → Shared → Prop} (hs : s.heap.IsSliceOf sl vl vu .none) (pl : IsPart vl lo) (pu : IsPart vu hi)
    (h : Q (((sIx n 0 lo : Nat) : Int), 1, sIx n n hi - sIx n 0 lo) s) : wpAny (model prog w) A (Builtin.Slice.sliceApplied (.ref sl) (pure (n : Int))) Q E s := by
  obtain ⟨os, hos, hcs, hds⟩ := id hs
  unfold Builtin.Slice.sliceApplied Builtin.Slice.sliceFields
  refine wpAny_bind (wpAny_bind (wpAny_field hos hds (x := vl) rfl (wpAny_bind (wpAny_field hos hds (x := vu) rfl (wpAny_bind (wpAny_field hos hds (x := .none) rfl (wpAny_pure ?_)))))))
  refine wpAny_bind (slicePart_none ?_)
  show wpAny _ _ (if ((1 : Int) == 0) = true then _ else _) _ _ s
  rw [if_neg (by decide)]
  refine wpAny_bind (slicePart_ pl (wpAny_bind (slicePart_ pu (wpAny_bind (wpAny_pure ?_)))))
  show wpAny _ _ (match Builtin.Slice.sliceAdjust lo hi 1 (n : Int) with | (lo, hi) => pure (lo, (1 : Int), Builtin.Slice.slicePlaces lo hi 1)) _ _ s
  rw [adjust_gen lo hi n]
  show wpAny _ _ (pure (((sIx n 0 lo : Nat) : Int), (1 : Int), Builtin.Slice.slicePlaces ((sIx n 0 lo : Nat) : Int) ((sIx n n hi : Nat) : Int) 1)) _ _ s
  rw [places_gen]
  exact wpAny_pure h
theorem pick_gen (xs : Array Value) (i k : Nat) : ((List.range k).filterMap fun (m : Nat) => xs[((i : Int) + (m : Int) * 1).toNat]?).toArray = ((xs.toList.drop i).take k).toArray := by
  have e : (fun (m : Nat) => xs[((i : Int) + (m : Int) * 1).toNat]?) = fun m => xs[i + m]? := by
    funext m
    have : ((i : Int) + (m : Int) * 1).toNat = i + m := by omega
    rw [this]
  rw [e]
  have := pick_run xs i k
  rw [List.filterMap_map] at this
  have e2 : ((fun x => xs[x]?) ∘ fun x => i + x) = fun m => xs[i + m]? := rfl
  rw [e2] at this
  rw [this]

theorem getItem_tuple_cut {t sl : Addr} {items : Array Value} {vl vu : Value} {lo hi : Option Int} {Q : Value → Shared → Prop} (ht : IsTup s.heap t items) (hs : s.heap.IsSliceOf sl vl vu .none) (pl : IsPart vl lo) (pu : IsPart vu hi)
    (hw : ¬ (sIx items.size 0 lo = 0 ∧ sIx items.size items.size hi = items.size))
    (h : Q (.ref s.heap.objs.size) { s with heap := s.heap.push { cls := .type "tuple", data := .seq ((items.toList.drop (sIx items.size 0 lo)).take (sIx items.size items.size hi - sIx items.size 0 lo)).toArray } })
    (hsz : items.size ≤ sizeLine) : wpAny (model prog w) A (getItem (.ref t) (.ref sl)) Q E s := by
  have htake : sizeOk (.seq ((items.toList.drop (sIx items.size 0 lo)).take (sIx items.size items.size hi - sIx items.size 0 lo)).toArray) := by
    show ((items.toList.drop (sIx items.size 0 lo)).take (sIx items.size items.size hi - sIx items.size 0 lo)).toArray.size ≤ sizeLine
    rw [List.size_toArray, List.length_take, List.length_drop, Array.length_toList]
    omega
  have hj : sIx items.size items.size hi ≤ items.size := sIx_le _ _ (Nat.le_refl _) hi
  obtain ⟨os, hos, hcs, hds⟩ := id hs
  have hTs : s.TypeIs (.ref sl) "slice" := ⟨os, hos, hcs⟩
  unfold getItem
  try with_reducible refine wpAny_holding ?_
  first | refine wpAny_bind (wpAny_pure ?_) | skip
  refine wpAny_bind (wpAny_sequenceKey ht.typeIs (by decide) ?_)
  refine wpAny_bind (wpAny_callSpecial?_slot (name := Str.ofString "__getitem__") ht.typeIs PyProof.Rows.slot_tuple_getitem
    (wpAny_call_entry PyProof.Rows.slot_tuple_getitem ht.typeIs entry_tuple_getitem ?_ (args_tuple_getitem _ _)))
  show wpAny _ _ (Builtin.Tuple.tupleItemsOf (.ref t) >>= _) _ _ s
  refine wpAny_bind (tupleItemsOf_ ht ?_)
  refine wpAny_bind (wpAny_typeOf hTs ?_)
  rw [if_pos (by decide)]
  refine wpAny_bind (sliceApplied_gen hs pl pu ?_)
  have hno : ¬ ((((sIx items.size 0 lo : Nat) : Int) == 0 && (1 : Int) == 1 && (sIx items.size items.size hi - sIx items.size 0 lo) == items.size) = true) := by
    intro q
    rw [Bool.and_eq_true, Bool.and_eq_true] at q
    have q1 : ((sIx items.size 0 lo : Nat) : Int) = 0 := eq_of_beq q.1.1
    have q2 : sIx items.size items.size hi - sIx items.size 0 lo = items.size := eq_of_beq q.2
    exact hw ⟨by omega, by omega⟩
  show wpAny _ _ (if (((sIx items.size 0 lo : Nat) : Int) == 0 && (1 : Int) == 1 && (sIx items.size items.size hi - sIx items.size 0 lo) == items.size) = true then _ else _) _ _ s
  rw [if_neg hno, pick_gen]
  first
    | exact wpAny_bind (m := Builtin.Tuple.tupleExact _) (wpAny_newObj_type (wpAny_pure ⟨_, rfl, wpAny_pure h⟩) htake)
    | exact wpAny_bind (m := Builtin.Tuple.tupleExact _) (wpAny_newObj_type (wpAny_bind (wpAny_pure (wpAny_pure ⟨_, rfl, wpAny_pure h⟩))) htake)
    | exact wpAny_bind (wpAny_bind (m := Builtin.Tuple.tupleExact _) (wpAny_newObj_type (wpAny_pure (wpAny_pure ⟨_, rfl, wpAny_pure h⟩)) htake))
    | exact wpAny_bind (wpAny_bind (m := Builtin.Tuple.tupleExact _) (wpAny_newObj_type (wpAny_pure ⟨_, rfl, wpAny_pure h⟩) htake))
end
end HT

namespace L2
open PySem PySem.Spec PyProof.Rows

/-! ### the parts of a slice -/
abbrev TO := St → Hp → (Option Int → Hp → Prop) → Prop
/-- a slice's part (left out, or an int) -/
def PO (X : Cx) (e : Option Expr) (t : TO) : Prop :=
  ∀ (pins : List (Addr × Obj)) (s : Shared) (σ : St) (H : Hp) (Q : Option Int → Hp → Prop), Inv X pins σ H s → t σ H Q →
    wpAny (model X.prog X.w) X.A (evalPart e X.env) (fun u s' => ∃ o H', Inv X pins σ H' s' ∧ IsPart u o ∧ Q o H') X.xe s
def tNoPart : TO := fun _ H Q => Q none H
def tPart (t : TE) : TO := fun σ H Q => t σ H fun x H1 => ∃ i, x = .int i ∧ Q (some i) H1

theorem intsAre_of {ns : List Int} : ∀ {us : List Value}, Vals (ns.map V.int) us → IntsAre us ns := by
  induction ns with
  | nil => intro us r; rw [List.map_nil] at r; cases r; exact .nil
  | cons n ns ih =>
    intro us r
    rw [List.map_cons] at r
    cases r with
    | cons r1 r2 =>
      obtain ⟨t, e⟩ := r1
      subst e
      exact .cons n t (ih r2)

section
variable {X : Cx} {e : Expr} {te : TE} {lo hi : Option Expr} {tl th : TO} {pos p2 : Pos}

theorem po_none : PO X none tNoPart := by
  intro pins s σ H Q I h
  rw [evalPart_none]
  exact wpAny_pure ⟨none, H, I, .none, h⟩
theorem po_some (h : PE X e te) : PO X (some e) (tPart te) := by
  intro pins s σ H Q I hw
  rw [evalPart_some]
  refine thn (h pins s σ H _ I hw) fun u s1 ⟨x, H1, I1, r1, q1⟩ => ?_
  obtain ⟨i, rfl, q⟩ := q1
  obtain ⟨t, rfl⟩ := r1
  exact ⟨some i, H1, I1, .int i t, q⟩

/-- what a slice of a value is, by values: the slice object stands at sl -/
def SlR (X : Cx) (r : V → Option Int → Option Int → Hp → VK → Prop) : Prop :=
  ∀ (pins : List (Addr × Obj)) (s : Shared) (σ : St) (H : Hp) (x : V) (v vl vu : Value) (lo hi : Option Int) (sl : Addr) (Q : VK), Inv X pins σ H s → RelV x v → s.heap.IsSliceOf sl vl vu .none → IsPart vl lo → IsPart vu hi → r x lo hi H Q →
    ∃ T id, typeLookup (.type T) "__getitem__" = pure (some (.builtin id)) ∧ s.TypeIs v T ∧ wpAny (model X.prog X.w) X.A (getItem v (.ref sl)) (EP X pins σ Q) X.xe s
theorem SlR.or {r r' : V → Option Int → Option Int → Hp → VK → Prop} (h : SlR X r) (h' : SlR X r') : SlR X (fun x lo hi H Q => r x lo hi H Q ∨ r' x lo hi H Q) := by
  intro pins s σ H x v vl vu lo hi sl Q I rx hs pl pu q
  rcases q with q | q
  · exact h pins s σ H x v vl vu lo hi sl Q I rx hs pl pu q
  · exact h' pins s σ H x v vl vu lo hi sl Q I rx hs pl pu q
def tSl (r : V → Option Int → Option Int → Hp → VK → Prop) (te : TE) (tl th : TO) : TE := fun σ H Q => te σ H fun x H1 => tl σ H1 fun l H2 => th σ H2 fun u H3 => r x l u H3 Q
/-- a[lo:hi], any a -/
theorem pe_slice {r : V → Option Int → Option Int → Hp → VK → Prop} (hr : SlR X r) (he : PE X e te) (hl : PO X lo tl) (hu : PO X hi th) : PE X (.Subscript e (.Slice lo hi none p2) pos) (tSl r te tl th) := by
  intro pins s σ H Q I h
  refine Subscript_ (thn (he pins s σ H _ I h) fun v s1 ⟨x, H1, I1, r1, q1⟩ => ?_)
  refine wpAny_Slice (thn (hl pins s1 σ H1 _ I1 q1) fun vl s2 ⟨l, H2, I2, pl, q2⟩ => thn (hu pins s2 σ H2 _ I2 q2) fun vu s3 ⟨u, H3, I3, pu, q3⟩ => ?_)
  rw [evalPart_none]
  refine wpAny_pure ?_
  have I4 : Inv X pins σ H3 { s3 with heap := s3.heap.push { cls := .type "slice", data := .fields #[vl, vu, .none] } } := I3.kept (t' := s3.toks) fun b ob q => Heap.get?_push_of_some _ q
  obtain ⟨T, id, hT, ht, hg⟩ := hr pins { s3 with heap := s3.heap.push { cls := .type "slice", data := .fields #[vl, vu, .none] } } σ H3 x v vl vu l u s3.heap.objs.size Q I4 r1 (Heap.IsSliceOf.new ..) pl pu q3
  show wpAny (model X.prog X.w) X.A (subscriptTail e (.Slice lo hi none p2) v (.ref s3.heap.objs.size)) (EP X pins σ Q) X.xe { s3 with heap := s3.heap.push { cls := .type "slice", data := .fields #[vl, vu, .none] } }
  exact tail_any (ops := [.ref s3.heap.objs.size, v]) ht hT hg (by with_unfolding_all rfl)

/-- the items of xs[lo:hi] -/
def cutV (xs : List V) (lo hi : Option Int) : List V := (xs.drop (HT.sIx xs.length 0 lo)).take (HT.sIx xs.length xs.length hi - HT.sIx xs.length 0 lo)
theorem cutV_length (xs : List V) (lo hi : Option Int) : (cutV xs lo hi).length ≤ xs.length := by
  unfold cutV
  rw [List.length_take, List.length_drop]
  omega
/-- t[lo:hi], not the whole of it (the whole would be t itself) -/
def rSlT (K : PySem.W.Frag) : V → Option Int → Option Int → Hp → VK → Prop := fun x lo hi H Q => ∃ a xs, x = .ref a ∧ SqT K H a xs ∧
  ¬ (HT.sIx xs.length 0 lo = 0 ∧ HT.sIx xs.length xs.length hi = xs.length) ∧ ∀ p, H p = none → Q (.ref p) (upd H p (.tup (cutV xs lo hi)))
theorem sl_tup : SlR X (rSlT X.K) := by
  intro pins s σ H x v vl vu lo hi sl Q I rx hs pl pu h
  obtain ⟨a, xs, rfl, hx, hw, q⟩ := h
  cases rx
  obtain ⟨its, r, ht, hz⟩ := I.tuple hx
  have hlen : its.toArray.size = xs.length := by rw [List.size_toArray]; exact r.length.symm
  refine ⟨"tuple", _, PyProof.Rows.slot_tuple_getitem.lookup, ht.typeIs, ?_⟩
  refine HT.getItem_tuple_cut ht hs pl pu (by rw [hlen]; exact hw) ?_ (by rw [hlen]; exact hz)
  rw [hlen]
  refine ⟨.ref s.heap.objs.size, _, I.laid (t' := s.toks) (o := .tup (cutV xs lo hi)) (fun b ob q => Heap.get?_push_of_some _ q) (Nat.le_refl _) ?_, rfl, q _ (I.hok.fresh (Nat.le_refl _))⟩
  exact ⟨Nat.le_trans (cutV_length xs lo hi) hz, _, (r.drop (HT.sIx xs.length 0 lo)).take (HT.sIx xs.length xs.length hi - HT.sIx xs.length 0 lo), IsTup.new _ _⟩

/-! ### t < u, t + u -/
def rLtT (K : PySem.W.Frag) : R2 := fun x y H Q => ∃ a b ns ms, x = .ref a ∧ y = .ref b ∧ SqT K H a (ns.map V.int) ∧ SqT K H b (ms.map V.int) ∧ Q (.bl (HT.lexLt ns ms)) H
theorem op_ltT (hu : X.A.units < cLine) : OpR X (compareOp .Lt) (rLtT X.K) := by
  intro pins s σ H x y v u Q I rx ry h
  obtain ⟨a, b, ns, ms, rfl, rfl, ha, hb, q⟩ := h
  cases rx
  cases ry
  obtain ⟨its, r1, p1, _⟩ := I.tuple ha
  obtain ⟨its2, r2, p2, _⟩ := I.tuple hb
  have i1 : IntsAre its.toArray.toList ns := intsAre_of r1
  have i2 : IntsAre its2.toArray.toList ms := intsAre_of r2
  exact HT.lt_tupInts p1 p2 i1 i2 hu ⟨.bl (HT.lexLt ns ms), H, I, rfl, q⟩
/-- t + u, t not empty: u empty gives t itself -/
def rCatT (K : PySem.W.Frag) : R2 := fun x y H Q => ∃ a b xs ys, x = .ref a ∧ y = .ref b ∧ SqT K H a xs ∧ SqT K H b ys ∧ xs ≠ [] ∧ xs.length + ys.length ≤ sizeLine ∧
  (ys = [] → Q (.ref a) H) ∧ (ys ≠ [] → ∀ p, H p = none → Q (.ref p) (upd H p (.tup (xs ++ ys))))
theorem Vals.nil_iff {xs : List V} {us : List Value} (r : Vals xs us) : us = [] ↔ xs = [] := by
  cases r with
  | nil => simp
  | cons _ _ => simp
theorem op_catT : OpR X (binaryOp .Add) (rCatT X.K) := by
  intro pins s σ H x y v u Q I rx ry h
  obtain ⟨a, b, xs, ys, rfl, rfl, ha, hb, hx, hz, q1, q2⟩ := h
  cases rx
  cases ry
  obtain ⟨its, r1, p1, _⟩ := I.tuple ha
  obtain ⟨its2, r2, p2, _⟩ := I.tuple hb
  refine HT.cat_tup p1 p2 (fun z => hx (r1.nil_iff.mp z)) (fun z => ⟨.ref a, H, I, rfl, q1 (r2.nil_iff.mp z)⟩) (fun z => ?_) (by rw [← r1.length, ← r2.length]; exact hz)
  refine ⟨.ref s.heap.objs.size, _, I.laid (t' := s.toks) (o := .tup (xs ++ ys)) (fun b ob q => Heap.get?_push_of_some _ q) (Nat.le_refl _) ?_, rfl, q2 (fun w => z (r2.nil_iff.mpr w)) _ (I.hok.fresh (Nat.le_refl _))⟩
  exact ⟨by rw [List.length_append]; exact hz, _, r1.append r2, IsTup.new _ _⟩
/-- tuple(t) -/
theorem call_tupleT : CallR X (.type "tuple") (fun xs H Q => ∃ a ys, xs = [.ref a] ∧ SqT X.K H a ys ∧ Q (.ref a) H) := by
  intro pins s σ H xs us Q I r h
  obtain ⟨a, ys, rfl, ha, q⟩ := h
  obtain ⟨u, rfl, ru⟩ := vals1 r
  cases ru
  obtain ⟨its, _, p1, _⟩ := I.tuple ha
  exact call_tuple_same (items := its.toArray) p1 ⟨.ref a, H, I, rfl, q⟩
end
end L2

namespace L2
open PySem PySem.Spec PyProof.Rows

/-! ### places -/
/-- the place that an index of any sign means -/
def ixN (n : Nat) (i : Int) : Option Nat := if 0 ≤ i then (if i < n then some i.toNat else none) else if -(n : Int) ≤ i then some (i + n).toNat else none
def atI {α : Type} (xs : List α) (i : Int) : Option α := (ixN xs.length i).bind fun j => xs[j]?
theorem ixN_seq {n : Nat} {i : Int} {j : Nat} (h : ixN n i = some j) : seqIndex? i n = some j ∧ j < n ∧ -(n : Int) ≤ i ∧ i < n := by
  unfold ixN at h
  by_cases h0 : 0 ≤ i
  · rw [if_pos h0] at h
    by_cases h1 : i < n
    · rw [if_pos h1] at h
      have e : i.toNat = j := Option.some.inj h
      exact ⟨by rw [seqIndex_of h0 h1, e], by omega, by omega, h1⟩
    · rw [if_neg h1] at h; cases h
  · rw [if_neg h0] at h
    by_cases h1 : -(n : Int) ≤ i
    · rw [if_pos h1] at h
      have e : (i + n).toNat = j := Option.some.inj h
      exact ⟨by rw [seqIndex_neg (by omega) h1, e], by omega, h1, by omega⟩
    · rw [if_neg h1] at h; cases h
theorem atI_get {α : Type} {xs : List α} {i : Int} {v : α} (h : atI xs i = some v) : ∃ j, seqIndex? i xs.length = some j ∧ xs[j]? = some v ∧ j < xs.length ∧ -(xs.length : Int) ≤ i ∧ i < xs.length := by
  unfold atI at h
  cases e : ixN xs.length i with
  | none => rw [e] at h; cases h
  | some j =>
    rw [e] at h
    obtain ⟨h1, h2, h3, h4⟩ := ixN_seq e
    exact ⟨j, h1, h, h2, h3, h4⟩
theorem atI_nat {α : Type} {xs : List α} {j : Nat} {v : α} (h : xs[j]? = some v) : atI xs (j : Int) = some v := by
  have hj : j < xs.length := (List.getElem?_eq_some_iff.mp h).1
  have e : ixN xs.length (j : Int) = some j := by
    unfold ixN
    rw [if_pos (by omega), if_pos (by omega)]; simp
  unfold atI; rw [e]; exact h
theorem atI_last {α : Type} (xs : List α) (v : α) : atI (xs ++ [v]) (-1) = some v := by
  have hl : (xs ++ [v]).length = xs.length + 1 := by simp
  have e : ixN (xs ++ [v]).length (-1) = some xs.length := by
    unfold ixN
    rw [hl, if_neg (by decide), if_pos (by omega)]
    congr 1
    omega
  unfold atI
  rw [e]
  show (xs ++ [v])[xs.length]? = some v
  simp

/-! ### what may be subscripted -/
/-- what stands as an index of a plain subscript -/
def PlainIx (b : Expr) : Prop := ∀ o i, subscripted b false o i = operate [o, i] (getItem o i)
/-- a subscript by values -/
def IxR (X : Cx) (r : R2) : Prop :=
  ∀ (value slice : Expr) (pins : List (Addr × Obj)) (s : Shared) (σ : St) (H : Hp) (x y : V) (v u : Value) (Q : VK), Inv X pins σ H s → RelV x v → RelV y u → r x y H Q →
    subscripted slice false v u = operate [v, u] (getItem v u) → wpAny (model X.prog X.w) X.A (subscriptTail value slice v u) (EP X pins σ Q) X.xe s
/-- a call of a builtin's method by values: the receiver, the arguments -/
def MtR (X : Cx) (id : String) (r : V → List V → Hp → VK → Prop) : Prop :=
  ∀ (pins : List (Addr × Obj)) (s : Shared) (σ : St) (H : Hp) (x : V) (xs : List V) (v : Value) (us : List Value) (Q : VK), Inv X pins σ H s → RelV x v → Vals xs us → r x xs H Q →
    wpAny (model X.prog X.w) X.A (call (.builtin id) (v :: us)) (EP X pins σ Q) X.xe s
section
variable {X : Cx} {a b : Expr} {ta tb : TE} {pos : Pos}
theorem IxR.or {r r' : R2} (h : IxR X r) (h' : IxR X r') : IxR X (fun x y H Q => r x y H Q ∨ r' x y H Q) := by
  intro value slice pins s σ H x y v u Q I rx ry q hs
  rcases q with q | q
  · exact h value slice pins s σ H x y v u Q I rx ry q hs
  · exact h' value slice pins s σ H x y v u Q I rx ry q hs
theorem MtR.or {id : String} {r r' : V → List V → Hp → VK → Prop} (h : MtR X id r) (h' : MtR X id r') : MtR X id (fun x xs H Q => r x xs H Q ∨ r' x xs H Q) := by
  intro pins s σ H x xs v us Q I rx rs q
  rcases q with q | q
  · exact h pins s σ H x xs v us Q I rx rs q
  · exact h' pins s σ H x xs v us Q I rx rs q
/-- a[b] -/
theorem pe_ix {r : R2} (hr : IxR X r) (ha : PE X a ta) (hb : PE X b tb) (hs : PlainIx b) : PE X (.Subscript a b pos) (tOp r ta tb) := by
  intro pins s σ H Q I h
  exact Subscript_ (binT ha hb I h fun v u s2 x y H2 I2 rx ry q => hr a b pins s2 σ H2 x y v u Q I2 rx ry q (hs _ _))

def rIxL (K : PySem.W.Frag) : R2 := fun x y H Q => ∃ p xs i v, x = .ref p ∧ y = .int i ∧ SqL K H p xs ∧ atI xs i = some v ∧ Q v H
def rIxT (K : PySem.W.Frag) : R2 := fun x y H Q => ∃ p xs i v, x = .ref p ∧ y = .int i ∧ SqT K H p xs ∧ atI xs i = some v ∧ Q v H
def rIxS : R2 := fun x y H Q => ∃ z i c, x = .str z ∧ y = .int i ∧ z.length ≤ sizeLine ∧ atI z.cps.toList i = some c ∧ Q (.str ⟨#[c]⟩) H
theorem ix_list : IxR X (rIxL X.K) := by
  intro value slice pins s σ H x y v u Q I rx ry h hs
  obtain ⟨p, xs, i, z, rfl, rfl, hq, he, q⟩ := h
  cases rx
  obtain ⟨t, rfl⟩ := ry
  obtain ⟨its, r, pl, hz⟩ := I.list hq
  obtain ⟨j, h1, h2, h3, h4, h5⟩ := atI_get he
  obtain ⟨w, ew, rw'⟩ := r.get h2
  have hl := r.length
  have hn := line63
  have fin : EP X pins σ Q w s := ⟨z, H, I, rw', q⟩
  by_cases h0 : 0 ≤ i
  · have hj : i.toNat = j := by
      rw [seqIndex_of h0 h5] at h1
      exact Option.some.inj h1
    exact item_listR pl.isList h0 (by omega) (by rw [hj]; simpa using ew) fin hs
  · have hj : (i + (its.toArray.size : Int)).toNat = j := by
      rw [seqIndex_neg (by omega) h4] at h1
      rw [List.size_toArray, ← hl]
      exact Option.some.inj h1
    exact subscriptTail_builtinR (x := w) pl.isList.typeIs slot_list_getitem.lookup
      (wpAny_getItem_list_neg (Q := fun r s' => r = w ∧ EP X pins σ Q r s') pl.isList (by omega) (by rw [List.size_toArray] <;> omega) (by omega) (by rw [hj]; simpa using ew) ⟨rfl, fin⟩) hs
theorem ix_tup : IxR X (rIxT X.K) := by
  intro value slice pins s σ H x y v u Q I rx ry h hs
  obtain ⟨p, xs, i, z, rfl, rfl, hq, he, q⟩ := h
  cases rx
  obtain ⟨t, rfl⟩ := ry
  obtain ⟨its, r, pl, hz⟩ := I.tuple hq
  obtain ⟨j, h1, h2, h3, h4, h5⟩ := atI_get he
  obtain ⟨w, ew, rw'⟩ := r.get h2
  have hl := r.length
  have hn := line63
  have fin : EP X pins σ Q w s := ⟨z, H, I, rw', q⟩
  exact subscriptTail_builtinR (x := w) pl.typeIs slot_tuple_getitem.lookup
    (getItem_tuple (j := j) (Q := fun r s' => r = w ∧ EP X pins σ Q r s') pl (by omega) (by omega) (by rw [List.size_toArray, ← hl]; exact h1) (by simpa using ew) ⟨rfl, fin⟩) hs
theorem ix_str : IxR X rIxS := by
  intro value slice pins s σ H x y v u Q I rx ry h hs
  obtain ⟨z, i, c, rfl, rfl, hz, he, q⟩ := h
  obtain ⟨t, rfl⟩ := rx
  obtain ⟨t', rfl⟩ := ry
  obtain ⟨j, h1, h2, h3, h4, h5⟩ := atI_get he
  have hl : z.cps.toList.length = z.length := by simp [Str.length]
  rw [hl] at h1 h4 h5
  have hn := line63
  exact tail_any (typeIs_str s z t) slot_str_getitem.lookup (getItem_str (c := c) (by
    have e1 : decide (i < -(2 ^ 63 : Int)) = false := decide_eq_false (by omega)
    have e2 : decide (i ≥ 2 ^ 63) = false := decide_eq_false (by omega)
    rw [e1, e2, Bool.or_false]) (by rw [h1]; simpa using h2) ⟨.str ⟨#[c]⟩, H, I.tok _, ⟨_, rfl⟩, q⟩) hs
/-- list, tuple or str -/
def rIx (K : PySem.W.Frag) : R2 := fun x y H Q => rIxL K x y H Q ∨ rIxT K x y H Q ∨ rIxS x y H Q
theorem ix_seq : IxR X (rIx X.K) := ix_list.or (ix_tup.or ix_str)

/-! ### xs[i] = v, any sign -/
/-- the list's object behind a store -/
theorem mapSeq_set (its : List Value) (n j : Nat) (u : Value) : Obj.mapSeq (·.setIfInBounds j u) { cls := .type "list", data := .seq its.toArray n } = { cls := .type "list", data := .seq (its.set j u).toArray n } := by
  simp [Obj.mapSeq]
theorem Inv.lst {pins : List (Addr × Obj)} {σ : St} {H : Hp} {s : Shared} {p : Addr} {xs : List V} (I : Inv X pins σ H s) (h : H p = some (.lst xs)) :
    ∃ (its : List Value) (n : Nat), Vals xs its ∧ s.heap.get? p = some { cls := .type "list", data := .seq its.toArray n } ∧ xs.length ≤ sizeLine := by
  obtain ⟨z, its, n, r, e⟩ := I.hok p _ h
  exact ⟨its, n, r, e, z⟩
/-- the list at p is written by an update of its object -/
theorem Inv.lstUpd {pins : List (Addr × Obj)} {σ : St} {H : Hp} {s : Shared} {p : Addr} {xs ys : List V} {its its' : List Value} {n n' : Nat} {f : Obj → Obj} (I : Inv X pins σ H s) (h : H p = some (.lst xs))
    (ho : s.heap.get? p = some { cls := .type "list", data := .seq its.toArray n }) (hf : f { cls := .type "list", data := .seq its.toArray n } = { cls := .type "list", data := .seq its'.toArray n' }) (r : Vals ys its') (hz : ys.length ≤ sizeLine) (t : Nat) :
    Inv X pins σ (upd H p (.lst ys)) { s with heap := s.heap.update p f, toks := t } := by
  have e : (s.heap.update p f).get? p = some { cls := .type "list", data := .seq its'.toArray n' } := by
    rw [Heap.get?_update_self f ho (by rw [hf] <;> rfl), hf]
  refine I.write (x := p) (e := p) (by rw [h]; trivial) (.inl rfl) (fun b u hb q => (Heap.get?_update_other _ _ (Ne.symm hb)).trans q) ⟨_, e⟩ ?_
  exact ⟨hz, its', n', r, e⟩
def rSetL : V → V → V → Hp → (Hp → Prop) → Prop := fun o i v H Q => ∃ p xs k j, o = .ref p ∧ i = .int k ∧ H p = some (.lst xs) ∧ ixN xs.length k = some j ∧ Q (upd H p (.lst (xs.set j v)))
theorem set_list : PSet X rSetL := by
  intro pins s σ H o i v ov iv u Q I ro ri rv h
  obtain ⟨p, xs, k, j, rfl, rfl, hp, hj, q⟩ := h
  cases ro
  obtain ⟨t, rfl⟩ := ri
  obtain ⟨its, n, r, ho, hz⟩ := I.lst hp
  obtain ⟨h1, h2, h3, h4⟩ := ixN_seq hj
  have hl := r.length
  have hn := line63
  have I' : Inv X pins σ (upd H p (.lst (xs.set j v))) { s with heap := s.heap.update p (Obj.mapSeq (·.setIfInBounds j u)) } :=
    I.lstUpd hp ho (mapSeq_set its n j u) (r.set rv j) (by rw [List.length_set]; exact hz) s.toks
  by_cases h0 : 0 ≤ k
  · have hk : k.toNat = j := by
      rw [seqIndex_of h0 h4] at h1
      exact Option.some.inj h1
    exact PySem.W.ki_setAt ho h0 (by omega) (by rw [List.size_toArray, ← hl]; exact h4) (by rw [hk]; exact ⟨_, I', q⟩)
  · have hk : (k + (its.toArray.size : Int)).toNat = j := by
      rw [seqIndex_neg (by omega) h3] at h1
      rw [List.size_toArray, ← hl]
      exact Option.some.inj h1
    exact PySem.W.ki_setBack ho (by omega) (by rw [List.size_toArray, ← hl]; exact h3) (by omega) (by rw [hk]; exact ⟨_, I', q⟩)

/-! ### slices -/
theorem slice_bounds (lo hi : Option Int) (n : Nat) : (sliceBounds lo hi none n).1 = ((HT.sIx n 0 lo : Nat) : Int) ∧ (sliceBounds lo hi none n).2.1 = ((HT.sIx n n hi : Nat) : Int) ∧ (sliceBounds lo hi none n).2.2 = 1 := by
  refine ⟨?_, ?_, rfl⟩
  · cases lo with
    | none => simp [sliceBounds, HT.sIx]
    | some i =>
      simp only [sliceBounds, HT.sIx, Option.getD_none, show (1 : Int) > 0 by decide, if_true]
      by_cases h : i < 0
      · simp only [h, if_true] <;> omega
      · simp only [h, if_false] <;> omega
  · cases hi with
    | none => simp [sliceBounds, HT.sIx]
    | some i =>
      simp only [sliceBounds, HT.sIx, Option.getD_none, show (1 : Int) > 0 by decide, if_true]
      by_cases h : i < 0
      · simp only [h, if_true] <;> omega
      · simp only [h, if_false] <;> omega
theorem slicePick_cut (its : List Value) (lo hi : Option Int) : slicePick its.toArray lo hi none = ((its.drop (HT.sIx its.length 0 lo)).take (HT.sIx its.length its.length hi - HT.sIx its.length 0 lo)).toArray := by
  obtain ⟨h1, h2, h3⟩ := slice_bounds lo hi its.toArray.size
  unfold slicePick
  rw [h1, h2, h3]
  simp only [sliceRange_one, pick_run, List.size_toArray] <;> rfl
/-- xs[lo:hi] of a list: a new list -/
def rSlL (K : PySem.W.Frag) : V → Option Int → Option Int → Hp → VK → Prop := fun x lo hi H Q => ∃ a xs, x = .ref a ∧ SqL K H a xs ∧ ∀ p, H p = none → Q (.ref p) (upd H p (.lst (cutV xs lo hi)))
theorem sl_list : SlR X (rSlL X.K) := by
  intro pins s σ H x v vl vu lo hi sl Q I rx hs pl pu h
  obtain ⟨a, xs, rfl, hx, q⟩ := h
  cases rx
  obtain ⟨its, r, ht, hz⟩ := I.list hx
  have hlen := r.length
  refine ⟨"list", _, slot_list_getitem.lookup, ht.isList.typeIs, ?_⟩
  refine wpAny_getItem_list_slice ht.isList hs pl pu .none (by simp) ?_ (by rw [List.size_toArray] <;> omega)
  rw [slicePick_cut, ← hlen]
  refine ⟨.ref s.heap.objs.size, _, I.laid (t' := s.toks) (o := .lst (cutV xs lo hi)) (fun b ob q => Heap.get?_push_of_some _ q) (Nat.le_refl _) ?_, rfl, q _ (I.hok.fresh (Nat.le_refl _))⟩
  exact ⟨Nat.le_trans (cutV_length xs lo hi) hz, _, 0, (r.drop (HT.sIx xs.length 0 lo)).take (HT.sIx xs.length xs.length hi - HT.sIx xs.length 0 lo), Heap.get?_push_size _ rfl⟩

/-! ### in, not in: flat items -/
def flatV : V → Bool
  | .non => true
  | .bl _ => true
  | .int _ => true
  | .str _ => true
  | _ => false
/-- == of flat values -/
def eqV : V → V → Bool
  | .non, .non => true
  | .bl a, .bl b => a == b
  | .bl a, .int b => (if a then 1 else 0) == b
  | .int a, .bl b => a == (if b then 1 else 0)
  | .int a, .int b => a == b
  | .str a, .str b => a == b
  | _, _ => false
theorem eqAt_V {A : Around} {s : Shared} {y x : V} {u v : Value} (ry : RelV y u) (rx : RelV x v) (fy : flatV y = true) (fx : flatV x = true) : SeqAt.EqAt A s u v (eqV y x) := by
  cases y with
  | non =>
    cases ry
    cases x with
    | non => cases rx; exact SeqAt.EqAt.same _
    | bl b => cases rx; exact SeqAt.EqAt.none_bool b
    | int b => obtain ⟨t, rfl⟩ := rx; exact SeqAt.EqAt.none_int b t
    | str b => obtain ⟨t, rfl⟩ := rx; exact SeqAt.EqAt.none_str b t
    | _ => exact absurd (show false = true from fx) Bool.false_ne_true
  | bl a =>
    cases ry
    cases x with
    | non => cases rx; exact SeqAt.EqAt.bool_none a
    | bl b => cases rx; exact SeqAt.EqAt.bool_bool a b
    | int b => obtain ⟨t, rfl⟩ := rx; exact SeqAt.EqAt.bool_int a b t
    | str b => obtain ⟨t, rfl⟩ := rx; exact SeqAt.EqAt.bool_str a b t
    | _ => exact absurd (show false = true from fx) Bool.false_ne_true
  | int a =>
    obtain ⟨t', rfl⟩ := ry
    cases x with
    | non => cases rx; exact SeqAt.EqAt.int_none a t'
    | bl b => cases rx; exact SeqAt.EqAt.int_bool a t' b
    | int b => obtain ⟨t, rfl⟩ := rx; exact SeqAt.EqAt.int_int a t' b t
    | str b => obtain ⟨t, rfl⟩ := rx; exact SeqAt.EqAt.int_str a t' b t
    | _ => exact absurd (show false = true from fx) Bool.false_ne_true
  | str a =>
    obtain ⟨t', rfl⟩ := ry
    cases x with
    | non => cases rx; exact SeqAt.EqAt.str_none a t'
    | bl b => cases rx; exact SeqAt.EqAt.str_bool a t' b
    | int b => obtain ⟨t, rfl⟩ := rx; exact SeqAt.EqAt.str_int a t' b t
    | str b => obtain ⟨t, rfl⟩ := rx; exact SeqAt.EqAt.str_str a t' b t
    | _ => exact absurd (show false = true from fx) Bool.false_ne_true
  | _ => exact absurd (show false = true from fy) Bool.false_ne_true
/-- the items' answers, read off the values (a value's own answer does not lean on its token) -/
def eqU (x : V) (u : Value) : Bool := match u with
  | .none => eqV .non x
  | .bool b => eqV (.bl b) x
  | .int i _ => eqV (.int i) x
  | .str z _ => eqV (.str z) x
  | _ => false
theorem eqU_of {x y : V} {u : Value} (r : RelV y u) (f : flatV y = true) : eqU x u = eqV y x := by
  cases y with
  | non => cases r; rfl
  | bl b => cases r; rfl
  | int i => obtain ⟨t, rfl⟩ := r; rfl
  | str z => obtain ⟨t, rfl⟩ := r; rfl
  | _ => exact absurd (show false = true from f) Bool.false_ne_true
theorem any_eqU {x : V} : ∀ {xs : List V} {us : List Value}, Vals xs us → xs.all flatV = true → us.any (eqU x) = xs.any fun y => eqV y x
  | _, _, .nil, _ => rfl
  | y :: xs, u :: us, .cons r t, f => by
    rw [List.all_cons, Bool.and_eq_true] at f
    rw [List.any_cons, List.any_cons, eqU_of r f.1, any_eqU t f.2]
theorem mem_eqAt {A : Around} {s : Shared} {x : V} {v : Value} (rx : RelV x v) (fx : flatV x = true) : ∀ {xs : List V} {us : List Value}, Vals xs us → xs.all flatV = true → ∀ u ∈ us, SeqAt.EqAt A s u v (eqU x u)
  | _, _, .nil, _ => fun u hu => by cases hu
  | y :: xs, u :: us, .cons r t, f => fun u' hu => by
    rw [List.all_cons, Bool.and_eq_true] at f
    rcases List.mem_cons.mp hu with rfl | hu
    · rw [eqU_of r f.1]; exact eqAt_V r rx f.1 fx
    · exact mem_eqAt rx fx t f.2 u' hu
def inV (x : V) (xs : List V) : Bool := xs.any fun y => eqV y x
/-- x in a list or tuple of flat items -/
def rIn (K : PySem.W.Frag) (neg : Bool) : R2 := fun x y H Q => ∃ p xs, y = .ref p ∧ (SqL K H p xs ∨ SqT K H p xs) ∧ flatV x = true ∧ xs.all flatV = true ∧ Q (.bl (if neg then !inV x xs else inV x xs)) H
theorem op_in_seq : OpR X (compareOp .In) (rIn X.K false) := by
  intro pins s σ H x y v u Q I rx ry h
  obtain ⟨p, xs, rfl, hq, fx, fs, q⟩ := h
  cases ry
  rcases hq with hq | hq
  · obtain ⟨its, r, pl, hz⟩ := I.list hq
    refine SeqAt.in_listAt (eqU x) pl.isList (fun w hw => mem_eqAt rx fx r fs w (by simpa using hw)) ⟨.bl _, H, I, rfl, ?_⟩
    rw [show its.toArray.any (eqU x) = its.any (eqU x) by simp, any_eqU r fs]
    exact q
  · obtain ⟨its, r, pl, hz⟩ := I.tuple hq
    refine SeqAt.in_tupleAt (eqU x) pl (fun w hw => mem_eqAt rx fx r fs w (by simpa using hw)) ⟨.bl _, H, I, rfl, ?_⟩
    rw [show its.toArray.any (eqU x) = its.any (eqU x) by simp, any_eqU r fs]
    exact q
theorem op_notIn_seq : OpR X (compareOp .NotIn) (rIn X.K true) := by
  intro pins s σ H x y v u Q I rx ry h
  obtain ⟨p, xs, rfl, hq, fx, fs, q⟩ := h
  cases ry
  rcases hq with hq | hq
  · obtain ⟨its, r, pl, hz⟩ := I.list hq
    refine SeqAt.notIn_listAt (eqU x) pl.isList (fun w hw => mem_eqAt rx fx r fs w (by simpa using hw)) ⟨.bl _, H, I, rfl, ?_⟩
    rw [show its.toArray.any (eqU x) = its.any (eqU x) by simp, any_eqU r fs]
    exact q
  · obtain ⟨its, r, pl, hz⟩ := I.tuple hq
    refine SeqAt.notIn_tupleAt (eqU x) pl (fun w hw => mem_eqAt rx fx r fs w (by simpa using hw)) ⟨.bl _, H, I, rfl, ?_⟩
    rw [show its.toArray.any (eqU x) = its.any (eqU x) by simp, any_eqU r fs]
    exact q
theorem op_notIn_str : OpR X (compareOp .NotIn) (fun x y H Q => ∃ i j, x = .str i ∧ y = .str j ∧ Q (.bl (!(!(Builtin.Str.occurrences j i 0 j.length 1).isEmpty))) H) := by
  intro pins s σ H x y v u Q I rx ry h
  obtain ⟨i, j, rfl, rfl, q⟩ := h
  obtain ⟨t, rfl⟩ := rx
  obtain ⟨t', rfl⟩ := ry
  exact notIn_str ⟨.bl _, H, I, rfl, q⟩

/-! ### len, list(x), tuple(x) of any list or tuple that is read -/
theorem call_len_seq : CallR X (.builtin "len") (fun xs H Q => ∃ p ys, xs = [.ref p] ∧ (SqL X.K H p ys ∨ SqT X.K H p ys) ∧ Q (.int ys.length) H) := by
  intro pins s σ H xs us Q I r h
  obtain ⟨p, ys, rfl, hq, q⟩ := h
  obtain ⟨u, rfl, rx⟩ := vals1 r
  cases rx
  have hn := line63
  rcases hq with hq | hq
  · obtain ⟨its, r', pl, hz⟩ := I.list hq
    have hlen := r'.length
    exact Calls.call_len_list pl.isList (by simp only [List.size_toArray] <;> omega) ⟨.int ys.length, H, I.tok _, ⟨s.toks + 1, by rw [List.size_toArray, hlen]⟩, q⟩
  · obtain ⟨its, r', pl, hz⟩ := I.tuple hq
    have hlen := r'.length
    exact len_tuple pl (by simp only [List.size_toArray] <;> omega) ⟨.int ys.length, H, I.tok _, ⟨s.toks + 1, by rw [List.size_toArray, hlen]⟩, q⟩
theorem call_len_str : CallR X (.builtin "len") (fun xs H Q => ∃ z, xs = [.str z] ∧ z.length ≤ sizeLine ∧ Q (.int z.length) H) := by
  intro pins s σ H xs us Q I r h
  obtain ⟨z, rfl, hz, q⟩ := h
  obtain ⟨u, rfl, t, rfl⟩ := vals1 r
  have hn := line63
  exact len_str (by omega) ⟨.int z.length, H, I.tok _, ⟨_, rfl⟩, q⟩
theorem CallR.or {f : Value} {r r' : List V → Hp → VK → Prop} (h : CallR X f r) (h' : CallR X f r') : CallR X f (fun xs H Q => r xs H Q ∨ r' xs H Q) := by
  intro pins s σ H xs us Q I rs q
  rcases q with q | q
  · exact h pins s σ H xs us Q I rs q
  · exact h' pins s σ H xs us Q I rs q
theorem call_list_of : CallR X (.type "list") (fun xs H Q => ∃ p ys, xs = [.ref p] ∧ (SqL X.K H p ys ∨ SqT X.K H p ys) ∧ ∀ l, H l = none → Q (.ref l) (upd H l (.lst ys))) := by
  intro pins s σ H xs us Q I r h
  obtain ⟨p, ys, rfl, hq, q⟩ := h
  obtain ⟨u, rfl, rx⟩ := vals1 r
  cases rx
  have fin : ∀ (its : List Value), Vals ys its → ys.length ≤ sizeLine → ∀ (h' : Heap) (c' : Nat), (∀ b o', s.heap.get? b = some o' → h'.get? b = some o') →
      h'.get? s.heap.objs.size = some { cls := .type "list", dict := none, data := .seq its.toArray c', slots := #[] } → EP X pins σ Q (.ref s.heap.objs.size) { s with heap := h' } := fun its r' hz h' c' kp e =>
    ⟨.ref s.heap.objs.size, _, I.laid (t' := s.toks) kp (Nat.le_refl _) (show ObjOk X.prog X.w _ h' _ (.lst ys) from ⟨hz, its, c', r', e⟩), rfl, q _ (I.hok.fresh (Nat.le_refl _))⟩
  rcases hq with hq | hq
  · obtain ⟨its, r', pl, hz⟩ := I.list hq
    have hlen := r'.length
    obtain ⟨o, ho, hc, n, hd⟩ := pl.isList
    exact call_list_seq p (.inl rfl) ho hc hd (fun h' c' kp e => fin its r' hz h' c' kp e) (by simp only [List.size_toArray] <;> omega)
  · obtain ⟨its, r', pl, hz⟩ := I.tuple hq
    have hlen := r'.length
    obtain ⟨o, ho, hc, n, hd⟩ := pl
    exact call_list_seq p (.inr rfl) ho hc hd (fun h' c' kp e => fin its r' hz h' c' kp e) (by simp only [List.size_toArray] <;> omega)
theorem call_tuple_of : CallR X (.type "tuple") (fun xs H Q => ∃ p ys, xs = [.ref p] ∧ ((SqL X.K H p ys ∧ ∀ l, H l = none → Q (.ref l) (upd H l (.tup ys))) ∨ (SqT X.K H p ys ∧ Q (.ref p) H))) := by
  intro pins s σ H xs us Q I r h
  obtain ⟨p, ys, rfl, h⟩ := h
  obtain ⟨u, rfl, rx⟩ := vals1 r
  cases rx
  rcases h with ⟨hq, q⟩ | ⟨hq, q⟩
  · obtain ⟨its, r', pl, hz⟩ := I.list hq
    have hlen := r'.length
    refine call_tuple_list pl.isList (fun h' kp => ?_) (by simp only [List.size_toArray] <;> omega)
    have I1 : Inv X pins σ H { s with heap := h' } := I.kept (t' := s.toks) kp
    have I2 : Inv X pins σ (upd H h'.objs.size (.tup ys)) { s with heap := h'.push { cls := .type "tuple", data := .seq its.toArray } } :=
      I1.laid (t' := s.toks) (fun b o e => Heap.get?_push_of_some _ e) (Nat.le_refl _) (show ObjOk X.prog X.w _ _ _ (.tup ys) from ⟨hz, its, r', IsTup.new _ _⟩)
    exact ⟨.ref h'.objs.size, _, I2, rfl, q _ (I1.hok.fresh (Nat.le_refl _))⟩
  · obtain ⟨its, r', pl, hz⟩ := I.tuple hq
    exact call_tuple_same pl ⟨.ref p, H, I, rfl, q⟩

/-! ### the call of a builtin's method: o.m(..) -/
/-- the value is of that builtin type -/
def tyV (K : PySem.W.Frag) (T : String) (x : V) (H : Hp) : Prop := match x with
  | .str _ => T = "str"
  | .int _ => T = "int"
  | .ref p => (T = "list" ∧ ∃ xs, SqL K H p xs) ∨ (T = "tuple" ∧ ∃ o, K.lookup p = some o ∧ o.cls = .type "tuple" ∧ o.dict = none) ∨
      (T = "dict" ∧ ((∃ kvs, H p = some (.dK kvs)) ∨ ∃ kvs, H p = some (.dT kvs))) ∨ (T = "set" ∧ ∃ S n, H p = some (.set S n))
  | _ => False
theorem tyV_is {pins : List (Addr × Obj)} {σ : St} {H : Hp} {s : Shared} {T : String} {x : V} {v : Value} (I : Inv X pins σ H s) (r : RelV x v) (ty : tyV X.K T x H) :
    s.TypeIs v T ∧ ∀ a, v = .ref a → ∃ ob, s.heap.get? a = some ob ∧ ob.dict = none := by
  cases x with
  | str z =>
    obtain ⟨t, rfl⟩ := r
    cases (show T = "str" from ty)
    exact ⟨typeIs_str s z t, fun _ e => nomatch e⟩
  | int i =>
    obtain ⟨t, rfl⟩ := r
    cases (show T = "int" from ty)
    exact ⟨typeIs_int s i t, fun _ e => nomatch e⟩
  | ref p =>
    cases r
    rcases ty with ⟨rfl, xs, hq⟩ | ⟨rfl, o, hk, hc, hd⟩ | ⟨rfl, hk⟩ | ⟨rfl, S, n, hk⟩
    · obtain ⟨its, _, pl, _⟩ := I.list hq
      refine ⟨pl.isList.typeIs, fun a e => ?_⟩
      cases e
      obtain ⟨o, n, e, c, hd, _⟩ := pl
      exact ⟨o, e, hd⟩
    · refine ⟨⟨o, I.kIn p o hk, hc⟩, fun a e => ?_⟩
      cases e
      exact ⟨o, I.kIn _ o hk, hd⟩
    · have z : ∃ o, s.heap.get? p = some o ∧ o.ExactDict := by
        rcases hk with ⟨kvs, hk⟩ | ⟨kvs, hk⟩
        · obtain ⟨_, _, _, _, o, _, _, e, ex, _⟩ := I.hok p _ hk
          exact ⟨o, e, ex⟩
        · obtain ⟨_, _, _, _, o, _, _, e, ex, _⟩ := I.hok p _ hk
          exact ⟨o, e, ex⟩
      obtain ⟨o, e, ex⟩ := z
      refine ⟨⟨o, e, ex.1⟩, fun a e2 => ?_⟩
      cases e2
      exact ⟨o, e, ex.2.1⟩
    · obtain ⟨o, _, _, _, e, ex, _⟩ := I.hok p _ hk
      refine ⟨⟨o, e, ex.1⟩, fun a e2 => ?_⟩
      cases e2
      exact ⟨o, e, ex.2.1⟩
  | _ => exact False.elim ty
def tBM0 (K : PySem.W.Frag) (T : String) (r : V → List V → Hp → VK → Prop) (to : TE) : TE := fun σ H Q => to σ H fun x H1 => tyV K T x H1 ∧ r x [] H1 Q
def tBM (K : PySem.W.Frag) (T : String) (r : V → List V → Hp → VK → Prop) (to : TE) (t : TA) : TE := fun σ H Q => to σ H fun x H1 => tyV K T x H1 ∧ t σ H1 fun xs H2 => r x xs H2 Q
variable {o e : Expr} {es : List Expr} {to : TE} {t : TA} {name : Str} {apos cpos : Pos} {T id : String} {r : V → List V → Hp → VK → Prop}
theorem pe_bm0 (pa : PlainAttrs T) (slot : Slot T name id) (hty : typeOf (.builtin id) = pure (.type "method_descriptor")) (hm : MtR X id r) (ho : PE X o to)
    (hbase : attributeBase o name X.env (eval o X.env) = eval o X.env := by rfl) (hline : (apos.endLine == cpos.line) = true := by rfl) : PE X (.Call (.Attribute o name apos) [] [] cpos) (tBM0 X.K T r to) := by
  intro pins s σ H Q I h
  refine wpAny_Call_method0_late hbase hline (thn (ho pins s σ H _ I h) fun v s1 ⟨x, H1, I1, r1, ty, q1⟩ => ?_)
  obtain ⟨h1, h2⟩ := tyV_is I1 r1 ty
  exact ⟨T, id, pa, slot, hty, h1, h2, Calls.callWith_builtin rfl (PySem.evalArgs_none (hm pins s1 σ H1 x [] v [] Q I1 r1 .nil q1))⟩
theorem pe_bm (pa : PlainAttrs T) (slot : Slot T name id) (hty : typeOf (.builtin id) = pure (.type "method_descriptor")) (hm : MtR X id r) (ho : PE X o to) (ha : PA X (e :: es) t)
    (hbase : attributeBase o name X.env (eval o X.env) = eval o X.env := by rfl)
    (hfew : ((backTo cpos (starEach (e :: es) X.env)).all (fun x => !x.1) && (backToKw cpos (keywordEach [] X.env)).all (fun x => x.1.isSome)
      && decide ((e :: es).length + ([] : List Keyword).length + (if ([] : List Keyword).isEmpty then 0 else 1) < 30)) = true := by rfl)
    (hline : (apos.endLine == cpos.line) = true := by rfl) (hs : starEach (e :: es) X.env = (false, eval e X.env) :: starEach es X.env := by rfl) (hplain : (backTo cpos (starEach es X.env)).any (·.1) = false := by rfl) :
    PE X (.Call (.Attribute o name apos) (e :: es) [] cpos) (tBM X.K T r to t) := by
  intro pins s σ H Q I h
  refine wpAny_Call_method_late hbase hfew hline rfl (thn (ho pins s σ H _ I h) fun v s1 ⟨x, H1, I1, r1, ty, q1⟩ => ?_)
  obtain ⟨h1, h2⟩ := tyV_is I1 r1 ty
  refine ⟨T, id, pa, slot, hty, h1, h2, ?_⟩
  have hA := ha cpos pins s1 σ H1 _ I1 q1
  rw [hs] at hA ⊢
  refine Calls.callWith_builtin (by show (false || (backTo cpos (starEach es X.env)).any (·.1)) = false; rw [hplain] <;> rfl) (Calls.evalArgs_plain ?_)
  exact thn hA fun us s2 ⟨vs, H2, I2, r2, q2⟩ => hm pins s2 σ H2 x vs v us Q I2 r1 r2 q2
/- xs.append(e), list.index on a module's tuple .. are MtR facts of 06m -/
end
end L2

namespace L2
open PySem PySem.Spec PyProof.Rows

def MtM (X : Cx) (id : String) (r : V → List V → Hp → VK → Prop) : Prop :=
  ∀ (pins : List (Addr × Obj)) (s : Shared) (σ : St) (H : Hp) (x : V) (xs : List V) (v : Value) (us : List Value) (Q : VK), Inv X pins σ H s → RelV x v → Vals xs us → r x xs H Q →
    wpAny (model X.prog X.w) X.A (call (.builtin id) (v :: us)) (EP X pins σ Q) X.xe s

/-! ### lists of values -/
theorem Vals.one : ∀ {x : V} {us : List Value}, Vals [x] us → ∃ u, us = [u] ∧ RelV x u
  | _, _, .cons r .nil => ⟨_, rfl, r⟩
theorem Vals.two : ∀ {x y : V} {us : List Value}, Vals [x, y] us → ∃ u v, us = [u, v] ∧ RelV x u ∧ RelV y v
  | _, _, _, .cons r (.cons q .nil) => ⟨_, _, rfl, r, q⟩
theorem Vals.zero : ∀ {us : List Value}, Vals [] us → us = []
  | _, .nil => rfl
theorem Vals.dropLast {xs : List V} {us : List Value} (h : Vals xs us) : Vals xs.dropLast us.dropLast := by
  induction h with
  | nil => exact .nil
  | cons r t ih =>
    cases t with
    | nil => exact .nil
    | cons q t' => exact .cons r ih
theorem Vals.eraseIdx : ∀ {xs : List V} {us : List Value} (i : Nat), Vals xs us → Vals (xs.eraseIdx i) (us.eraseIdx i)
  | _, _, _, .nil => .nil
  | _, _, 0, .cons _ t => t
  | _, _, i + 1, .cons r t => .cons r (Vals.eraseIdx i t)
theorem Vals.reverse {xs : List V} {us : List Value} (h : Vals xs us) : Vals xs.reverse us.reverse := by
  induction h with
  | nil => exact .nil
  | cons r t ih => rw [List.reverse_cons, List.reverse_cons]; exact Vals.append ih (.cons r .nil)
theorem Vals.rep {xs : List V} {us : List Value} (h : Vals xs us) : ∀ k : Nat, Vals (List.replicate k xs).flatten (List.replicate k us).flatten
  | 0 => .nil
  | k + 1 => by
    rw [List.replicate_succ, List.replicate_succ, List.flatten_cons, List.flatten_cons]
    exact Vals.append h (Vals.rep h k)
theorem erase_last {α : Type} (l : List α) : l.eraseIdx (l.length - 1) = l.dropLast := by
  induction l with
  | nil => rfl
  | cons a r ih =>
    cases r with
    | nil => rfl
    | cons b r =>
      have e : (a :: b :: r).length - 1 = ((b :: r).length - 1) + 1 := by
        have h1 : (a :: b :: r).length = r.length + 2 := rfl
        have h2 : (b :: r).length = r.length + 1 := rfl
        omega
      rw [e, List.eraseIdx_cons_succ, ih]
      all_goals rfl
theorem len_erase {α : Type} : ∀ (l : List α) (i : Nat), (l.eraseIdx i).length ≤ l.length
  | [], _ => Nat.le_refl _
  | _ :: _, 0 => Nat.le_succ _
  | _ :: r, i + 1 => Nat.succ_le_succ (len_erase r i)
theorem foldl_rep (its : List Value) : ∀ (k : Nat) (acc : List Value),
    List.foldl (fun x1 x2 => x1 ++ x2) acc.toArray (List.replicate k its.toArray) = (acc ++ (List.replicate k its).flatten).toArray
  | 0, acc => by simp
  | k + 1, acc => by
    have e : acc.toArray ++ its.toArray = (acc ++ its).toArray := by simp
    have e2 : (acc ++ its) ++ (List.replicate k its).flatten = acc ++ (List.replicate (k + 1) its).flatten := by
      rw [List.replicate_succ, List.flatten_cons, List.append_assoc]
    rw [← e2, ← foldl_rep its k (acc ++ its), ← e, List.replicate_succ, List.foldl_cons]

section
variable {X : Cx} {pins : List (Addr × Obj)} {σ : St} {H : Hp} {s : Shared} {l b : Addr} {xs ys zs : List V}

/-! ### the two steps: a tracked list is rewritten, a new list is laid -/
theorem Inv.lset {its its' : List Value} {n : Nat} {f : Array Value → Array Value} {t' : Nat} (I : Inv X pins σ H s) (hH : H l = some (.lst xs))
    (e : s.heap.get? l = some { cls := .type "list", data := .seq its.toArray n }) (hf : f its.toArray = its'.toArray) (hv : Vals ys its') (hz : ys.length ≤ sizeLine) :
    Inv X pins σ (upd H l (.lst ys)) { s with heap := s.heap.update l (Obj.mapSeq f), toks := t' } := by
  have q := PySem.IsL.update e f
  rw [hf] at q
  refine I.write (x := l) (e := l) (by rw [hH]; exact trivial) (.inl rfl) (fun b' u hb hu => (Heap.get?_update_other s.heap (Obj.mapSeq f) (Ne.symm hb)).trans hu) ⟨_, q⟩ ?_
  exact ⟨hz, its', _, hv, q⟩
theorem Inv.lnew {its : List Value} {t' : Nat} (I : Inv X pins σ H s) (hv : Vals ys its) (hz : ys.length ≤ sizeLine) :
    Inv X pins σ (upd H s.heap.objs.size (.lst ys)) { s with heap := s.heap.push { cls := .type "list", data := .seq its.toArray }, toks := t' } :=
  I.laid (fun _ _ q => Heap.get?_push_of_some _ q) (Nat.le_refl _) ⟨hz, its, 0, hv, Heap.get?_push_size _ rfl⟩
theorem Inv.fresh (I : Inv X pins σ H s) : H s.heap.objs.size = none := I.hok.fresh (Nat.le_refl _)
theorem Inv.lstM (I : Inv X pins σ H s) (hH : H l = some (.lst xs)) : xs.length ≤ sizeLine ∧ ∃ (its : List Value) (n : Nat), Vals xs its ∧ xs.length = its.length ∧ s.heap.get? l = some { cls := .type "list", data := .seq its.toArray n } := by
  obtain ⟨z, its, n, r, e⟩ := I.hok l _ hH
  exact ⟨z, its, n, r, r.length, e⟩

theorem notLongL {n : Nat} (h : n ≤ sizeLine) : Builtin.List.listTooLong n = false := by
  unfold Builtin.List.listTooLong
  exact decide_eq_false (by omega)
end

section
variable {X : Cx}

/-! ### methods -/
def rAppend : V → List V → Hp → VK → Prop := fun x vs H Q => ∃ l xs y, x = .ref l ∧ vs = [y] ∧ H l = some (.lst xs) ∧ xs.length < sizeLine ∧ Q .non (upd H l (.lst (xs ++ [y])))
theorem mt_append : MtM X "list.append" rAppend := by
  intro pins s σ H x vs v us Q I rx rv h
  obtain ⟨l, xs, y, rfl, rfl, hH, hz, q⟩ := h
  cases rx
  obtain ⟨u, rfl, ru⟩ := rv.one
  obtain ⟨z, its, n, r, hl, e⟩ := I.lstM hH
  refine call_meets F.slot_list_append ⟨_, e, rfl⟩ F.entry_list_append (F.args_list_append_2 _ _) (PySem.list_append l its.toArray n u (by rw [List.size_toArray]; omega)) ⟨e, ?_⟩
  refine ⟨.non, _, I.lset (its' := its ++ [u]) hH e (by simp) (r.append (.cons ru .nil)) ?_, rfl, q⟩
  rw [List.length_append, List.length_singleton]
  omega

def rExtend : V → List V → Hp → VK → Prop := fun x vs H Q => ∃ l b xs zs, x = .ref l ∧ vs = [.ref b] ∧ H l = some (.lst xs) ∧ H b = some (.lst zs) ∧ xs.length + zs.length ≤ sizeLine ∧ Q .non (upd H l (.lst (xs ++ zs)))
theorem mt_extend : MtM X "list.extend" rExtend := by
  intro pins s σ H x vs v us Q I rx rv h
  obtain ⟨l, b, xs, zs, rfl, rfl, hH, hB, hz, q⟩ := h
  cases rx
  obtain ⟨u, rfl, ru⟩ := rv.one
  cases ru
  obtain ⟨z, its, n, r, hl, e⟩ := I.lstM hH
  obtain ⟨z2, its2, n2, r2, hl2, e2⟩ := I.lstM hB
  have hsz : its.toArray.size + its2.toArray.size ≤ sizeLine := by rw [List.size_toArray, List.size_toArray]; omega
  have hlong : ¬ (!its.toArray.isEmpty && Builtin.List.listTooLong (its.toArray.size + its2.toArray.size)) = true := by
    rw [notLongL hsz, Bool.and_false]
    exact Bool.false_ne_true
  refine call_meets F.slot_list_extend ⟨_, e, rfl⟩ F.entry_list_extend (F.args_list_extend_2 _ _)
    (AutoSeq1.list_extend_list_list_0 l its.toArray n b its2.toArray n2 hlong (by rw [List.size_toArray]; omega) (by omega)) ⟨e, e2, ?_⟩
  refine ⟨.non, _, I.lset (its' := its ++ its2) hH e (by simp) (r.append r2) ?_, rfl, q⟩
  rw [List.length_append]
  omega

def rPop : V → List V → Hp → VK → Prop := fun x vs H Q => ∃ l xs y, x = .ref l ∧ vs = [] ∧ H l = some (.lst xs) ∧ xs[xs.length - 1]? = some y ∧ Q y (upd H l (.lst xs.dropLast))
theorem mt_pop : MtM X "list.pop" rPop := by
  intro pins s σ H x vs v us Q I rx rv h
  obtain ⟨l, xs, y, rfl, rfl, hH, hy, q⟩ := h
  cases rx
  have hus := rv.zero
  subst hus
  obtain ⟨z, its, n, r, hl, e⟩ := I.lstM hH
  obtain ⟨u, hu, ru⟩ := r.get hy
  have hy' : its.toArray[its.toArray.size - 1]? = some u := by
    show its.toArray[its.length - 1]? = some u
    rw [← Array.getElem?_toList, ← hl]
    exact hu
  refine call_meets F.slot_list_pop ⟨_, e, rfl⟩ F.entry_list_pop (F.args_list_pop_1 _) (MeetsSeq.list_pop_last l its.toArray n u hy' (by rw [List.size_toArray]; omega)) ⟨e, ?_⟩
  refine ⟨y, _, I.lset (its' := its.dropLast) hH e ?_ r.dropLast ?_, ru, q⟩
  · show its.toArray.eraseIdxIfInBounds (its.toArray.size - 1) = its.dropLast.toArray
    rw [List.size_toArray, List.eraseIdxIfInBounds_toArray, erase_last]
  · rw [List.length_dropLast]
    omega

def rPopAt : V → List V → Hp → VK → Prop := fun x vs H Q => ∃ l xs i k y, x = .ref l ∧ vs = [.int i] ∧ H l = some (.lst xs) ∧ -(2 ^ 63) ≤ i ∧ i < 2 ^ 63 ∧ seqIndex? i xs.length = some k ∧ xs[k]? = some y ∧ Q y (upd H l (.lst (xs.eraseIdx k)))
theorem mt_popAt : MtM X "list.pop" rPopAt := by
  intro pins s σ H x vs v us Q I rx rv h
  obtain ⟨l, xs, i, k, y, rfl, rfl, hH, h1, h2, hk, hy, q⟩ := h
  cases rx
  obtain ⟨u, rfl, ru⟩ := rv.one
  obtain ⟨t, rfl⟩ := ru
  obtain ⟨z, its, n, r, hl, e⟩ := I.lstM hH
  obtain ⟨w, hw, rw'⟩ := r.get hy
  refine call_meets F.slot_list_pop ⟨_, e, rfl⟩ F.entry_list_pop (F.args_list_pop_2 _ _)
    (MeetsSeq.list_pop_at l its.toArray n i t k w (fitsIndex_both h1 h2) (by rw [List.size_toArray, ← hl]; exact hk) (by rw [← Array.getElem?_toList]; exact hw) (by rw [List.size_toArray]; omega)) ⟨e, ?_⟩
  refine ⟨y, _, I.lset (its' := its.eraseIdx k) hH e ?_ (r.eraseIdx k) ?_, rw', q⟩
  · show its.toArray.eraseIdxIfInBounds k = (its.eraseIdx k).toArray
    rw [List.eraseIdxIfInBounds_toArray]
  · have := len_erase xs k
    omega

def rReverse : V → List V → Hp → VK → Prop := fun x vs H Q => ∃ l xs, x = .ref l ∧ vs = [] ∧ H l = some (.lst xs) ∧ Q .non (upd H l (.lst xs.reverse))
theorem mt_reverse : MtM X "list.reverse" rReverse := by
  intro pins s σ H x vs v us Q I rx rv h
  obtain ⟨l, xs, rfl, rfl, hH, q⟩ := h
  cases rx
  have hus := rv.zero
  subst hus
  obtain ⟨z, its, n, r, hl, e⟩ := I.lstM hH
  refine call_meets F.slot_list_reverse ⟨_, e, rfl⟩ F.entry_list_reverse (F.args_list_reverse_1 _) (AutoSeq1.list_reverse_list_0 l its.toArray n (by rw [List.size_toArray]; omega)) ⟨e, ?_⟩
  refine ⟨.non, _, I.lset (its' := its.reverse) hH e (by simp) r.reverse ?_, rfl, q⟩
  rw [List.length_reverse]
  omega

def rClear : V → List V → Hp → VK → Prop := fun x vs H Q => ∃ l xs, x = .ref l ∧ vs = [] ∧ H l = some (.lst xs) ∧ Q .non (upd H l (.lst []))
theorem mt_clear : MtM X "list.clear" rClear := by
  intro pins s σ H x vs v us Q I rx rv h
  obtain ⟨l, xs, rfl, rfl, hH, q⟩ := h
  cases rx
  have hus := rv.zero
  subst hus
  obtain ⟨z, its, n, r, hl, e⟩ := I.lstM hH
  refine call_meets F.slot_list_clear ⟨_, e, rfl⟩ F.entry_list_clear (F.args_list_clear_1 _) (AutoSeq1.list_clear_list_0 l its.toArray n (by rw [List.size_toArray]; omega)) ⟨e, ?_⟩
  exact ⟨.non, _, I.lset (its' := []) (ys := []) hH e rfl .nil (Nat.zero_le _), rfl, q⟩

/-! ### list + list, list += list, list * int -/
def rCat : R2 := fun x y H Q => ∃ l b xs zs, x = .ref l ∧ y = .ref b ∧ H l = some (.lst xs) ∧ H b = some (.lst zs) ∧ xs.length + zs.length ≤ sizeLine ∧ ∀ p, H p = none → Q (.ref p) (upd H p (.lst (xs ++ zs)))
theorem op_cat : OpR X (binaryOp .Add) rCat := by
  intro pins s σ H x y v u Q I rx ry h
  obtain ⟨l, b, xs, zs, rfl, rfl, hH, hB, hz, q⟩ := h
  cases rx
  cases ry
  obtain ⟨z, its, n, r, hl, e⟩ := I.lstM hH
  obtain ⟨z2, its2, n2, r2, hl2, e2⟩ := I.lstM hB
  refine PySem.P.add_list e e2 ?_ (by rw [List.size_toArray, List.size_toArray]; omega)
  have ea : its.toArray ++ its2.toArray = (its ++ its2).toArray := by simp
  rw [ea]
  exact ⟨.ref _, _, I.lnew (t' := s.toks) (r.append r2) (by rw [List.length_append]; omega), rfl, q _ I.fresh⟩
/-- a list times an int (a negative one is nothing) -/
def rRep : R2 := fun x y H Q => ∃ l k xs, x = .ref l ∧ y = .int k ∧ H l = some (.lst xs) ∧ -(2 ^ 63) ≤ k ∧ k < 2 ^ 63 ∧ xs.length * k.toNat ≤ sizeLine ∧
  ∀ p, H p = none → Q (.ref p) (upd H p (.lst (List.replicate k.toNat xs).flatten))
theorem len_rep {α : Type} (xs : List α) (k : Nat) : (List.replicate k xs).flatten.length = k * xs.length := by
  induction k with
  | zero => simp
  | succ k ih => rw [List.replicate_succ, List.flatten_cons, List.length_append, ih, Nat.succ_mul, Nat.add_comm]
theorem op_rep : OpR X (binaryOp .Mult) rRep := by
  intro pins s σ H x y v u Q I rx ry h
  obtain ⟨l, k, xs, rfl, rfl, hH, h1, h2, hz, q⟩ := h
  cases rx
  obtain ⟨t, rfl⟩ := ry
  obtain ⟨z, its, n, r, hl, e⟩ := I.lstM hH
  have hlen : its.toArray.size * k.toNat ≤ sizeLine := by rw [List.size_toArray, ← hl]; exact hz
  have hcap : ¬ its.toArray.size * k.toNat > (2 ^ 63 - 1) / 8 := by
    have : (sizeLine : Nat) ≤ (2 ^ 63 - 1) / 8 := by decide
    omega
  have hfit : ¬ (!Builtin.List.listFitsIndex k) = true := by
    rw [fitsIndex_both h1 h2]
    exact Bool.false_ne_true
  have hlong : ¬ Builtin.List.listTooLong (its.toArray.size * k.toNat) = true := by
    rw [notLongL hlen]
    exact Bool.false_ne_true
  have hnew : List.foldl (fun x1 x2 => x1 ++ x2) #[] (List.replicate (if its.toArray.isEmpty = true then 0 else k.toNat) its.toArray) = (List.replicate k.toNat its).flatten.toArray := by
    have f0 : ∀ m : Nat, List.foldl (fun x1 x2 => x1 ++ x2) #[] (List.replicate m its.toArray) = (List.replicate m its).flatten.toArray := fun m => by
      have := foldl_rep its m []
      rw [List.nil_append] at this
      exact this
    rw [f0]
    cases its with
    | nil => simp
    | cons a r' => rw [if_neg (by simp)]
  refine wpAny_binaryOp_repeat_ref (T := "list") (U := "int") (by decide) ⟨_, e, rfl⟩ (fun s' => typeIs_int s' k t) noFill_list_mul F.fills_int_mul F.slot_int_rmul repeat_list F.slot_int_index.lookup
    (call_meets F.slot_int_rmul (typeIs_int s k t) F.entry_int_rmul (F.args_int_rmul_2 _ _) (int___rmul___int_list k t l its.toArray n)
      ⟨e, rfl, ⟨_, e, rfl⟩, call_meets F.slot_list_mul ⟨_, e, rfl⟩ F.entry_list_mul (F.args_list_mul_2 _ _) (AutoListH.list___mul___list_int_3 l its.toArray n k t hfit hcap hlong) ⟨e, ?_⟩⟩)
  rw [hnew]
  exact ⟨.ref _, _, I.lnew (t' := s.toks) (r.rep k.toNat) (by rw [len_rep, Nat.mul_comm]; exact hz), rfl, q _ I.fresh⟩

/-! ### del xs[i] -/
theorem del_list {pins : List (Addr × Obj)} {s : Shared} {σ : St} {H : Hp} {l : Addr} {xs : List V} {i : Int} {t : Tok} {k : Nat} {Q : Unit → Shared → Prop} (I : Inv X pins σ H s) (hH : H l = some (.lst xs))
    (h1 : -(2 ^ 63) ≤ i) (h2 : i < 2 ^ 63) (hk : seqIndex? i xs.length = some k) (h : ∀ s', Inv X pins σ (upd H l (.lst (xs.eraseIdx k))) s' → Q () s') :
    wpAny (model X.prog X.w) X.A (delItem (.ref l) (.int i t)) Q X.xe s := by
  obtain ⟨z, its, n, r, hl, e⟩ := I.lstM hH
  refine PySem.P.delItem_list (k := k) e (fitsIndex_both h1 h2) (by rw [List.size_toArray, ← hl]; exact hk) (h _ ?_) (by rw [List.size_toArray]; omega)
  refine I.lset (its' := its.eraseIdx k) (t' := s.toks) hH e ?_ (r.eraseIdx k) ?_
  · show its.toArray.eraseIdxIfInBounds k = (its.eraseIdx k).toArray
    rw [List.eraseIdxIfInBounds_toArray]
  · have := len_erase xs k
    omega
end

/-! ### xs[a:b] = ys -/
section
variable {prog : Program} {w : World} {A : Around} {E : Value → Shared → Prop} {s : Shared}
theorem splice_eq (its its2 : List Value) (a c : Nat) : its.toArray.extract 0 a ++ its2.toArray ++ its.toArray.extract c its.toArray.size = (its.take a ++ its2 ++ its.drop c).toArray := by
  apply Array.toList_inj.mp
  first
    | (simp
       exact List.take_of_length_le (by simp))
    | simp [List.take_of_length_le]
    | simp
theorem bounds_run {a c n : Nat} (hac : a ≤ c) (hc : c ≤ n) : sliceBounds (some (a : Int)) (some (c : Int)) none n = ((a : Int), (c : Int), 1) := by
  simp only [sliceBounds, Option.getD_none]
  have h1 : ¬ ((a : Int) < 0) := by omega
  have h2 : ¬ ((c : Int) < 0) := by omega
  simp only [h1, h2, if_false, show (1 : Int) > 0 by decide, if_true]
  congr 1
  · omega
  · congr 1; omega
set_option maxRecDepth 100000 in
/-- list.__setitem__ with a slice of step one and another list -/
theorem setItem_slice {l b sl : Addr} {items new : Array Value} {n n2 : Nat} {vl vu : Value} {a c : Nat} {Q : Unit → Shared → Prop}
    (e : s.heap.get? l = some { cls := .type "list", data := .seq items n }) (e2 : s.heap.get? b = some { cls := .type "list", data := .seq new n2 }) (hne : l ≠ b)
    (hs : s.heap.IsSliceOf sl vl vu .none) (pl : IsPart vl (some (a : Int))) (pu : IsPart vu (some (c : Int))) (hac : a ≤ c) (hc : c ≤ items.size)
    (hsz : items.size + new.size ≤ sizeLine) (h : Q () { s with heap := s.heap.update l (Obj.mapSeq fun xs => xs.extract 0 a ++ new ++ xs.extract c xs.size) }) :
    wpAny (model prog w) A (setItem (.ref l) (.ref sl) (.ref b)) Q E s := by
  have hl : s.heap.IsList l items := PySem.IsL.isList e
  have hb : s.heap.IsList b new := PySem.IsL.isList e2
  obtain ⟨os, hos, hcs, hds⟩ := id hs
  have hTs : s.TypeIs (.ref sl) "slice" := ⟨os, hos, hcs⟩
  have hstep : ¬ ((rawPart none == rawInt 0) = true) := Bool.false_ne_true
  have hsame : Builtin.List.listSameRef (.ref l) (.ref b) = false := by
    unfold Builtin.List.listSameRef
    exact beq_eq_false_iff_ne.mpr hne
  have hmax : (max (a : Int) (c : Int)).toNat = c := by omega
  have hz' : ((fun xs : Array Value => xs.extract 0 a ++ new ++ xs.extract c xs.size) items).size ≤ sizeLine + 1 := by
    simp only [Array.size_append, Array.size_extract]
    omega
  unfold setItem
  try with_reducible refine wpAny_holding ?_
  first | refine wpAny_bind (wpAny_pure ?_) | skip
  refine wpAny_bind (wpAny_sequenceKey hl.typeIs (by decide) ?_)
  refine wpAny_bind (wpAny_callSpecial?_slot (name := Str.ofString "__setitem__") hl.typeIs slot_list_setitem
    (wpAny_call_entry slot_list_setitem hl.typeIs entry_list_setitem ?_ (args_list_setitem _ _ _)))
  show wpAny _ _ (Builtin.List.listSubscript? (.ref sl) >>= _) _ _ s
  refine wpAny_bind ?_
  unfold Builtin.List.listSubscript?
  refine wpAny_bind (wpAny_specialOf hTs slice_no_index ?_)
  simp only [Option.isNone_none, if_true]
  refine wpAny_pure ?_
  show wpAny _ _ (typeOf (.ref sl) >>= _) _ _ s
  refine wpAny_bind (wpAny_typeOf hTs ?_)
  first
    | rw [if_neg (by decide)]
    | refine PySem.W.KFB.if_not (by decide) ?_
  rw [listSliceParts_eq]
  refine wpAny_bind (wpAny_bind (wpAny_field hos hds (x := .none) rfl (wpAny_bind (wpAny_listPart .none ?_))))
  rw [if_neg hstep]
  refine wpAny_bind (wpAny_field hos hds (x := vl) rfl (wpAny_bind (wpAny_listPart pl ?_)))
  refine wpAny_bind (wpAny_field hos hds (x := vu) rfl (wpAny_bind (wpAny_listPart pu (wpAny_pure ?_))))
  first
    | simp only [hsame, Bool.false_eq_true, if_false]
    | refine PySem.W.KFB.if_not hsame ?_
    | (dsimp only
       rw [if_neg (by rw [hsame]; exact Bool.false_ne_true)])
  refine wpAny_bind (m := Builtin.List.listAllItems (.ref b) "must assign iterable to extended slice") ?_
  unfold Builtin.List.listAllItems
  refine wpAny_bind (wpAny_typeOf hb.typeIs ?_)
  first
    | refine PySem.W.KFB.if_so (by decide) ?_
    | rw [if_pos (by decide)]
    | simp only [beq_self_eq_true, Bool.true_or, if_true]
  unfold Builtin.List.listItems
  refine wpAny_bind (wpAny_seqItems e2 rfl (wpAny_pure ?_))
  refine wpAny_bind (wpAny_bind (wpAny_seqItems e rfl (wpAny_pure ?_)))
  refine wpAny_bind (wpAny_of_eq ((sliceIndices_raw (some (a : Int)) (some (c : Int)) none items.size (by simp)).trans (congrArg (pure : Int × Int × Int → Sem (Int × Int × Int)) (bounds_run hac hc))) ?_)
  show wpAny _ _ (if ((1 : Int) == 1) = true then _ else _) _ _ s
  rw [if_pos (by decide)]
  refine wpAny_bind (wpAny_rule ?_)
  first
    | simp only [notLongL hsz, Bool.false_eq_true, if_false]
    | refine PySem.W.KFB.if_not (notLongL hsz) ?_
  first | refine wpAny_bind (wpAny_pure ?_) | skip
  show wpAny _ _ (updateSeq l (fun xs => xs.extract 0 ((a : Int)).toNat ++ new ++ xs.extract (max (a : Int) (c : Int)).toNat xs.size) >>= _) _ _ s
  rw [hmax, Int.toNat_natCast]
  refine wpAny_bind (wpAny_updateSeq (hz := Nat.le_trans (Nat.le_add_right _ _) hsz) (_hz' := hz') e rfl ?_)
  refine wpAny_bind (wpAny_letGo ?_)
  first
    | exact wpAny_bind (wpAny_pure (wpAny_pure ⟨.none, rfl, wpAny_pure h⟩))
    | exact wpAny_pure ⟨.none, rfl, wpAny_pure h⟩
end

section
variable {X : Cx}
/-- xs[a:c] = ys of another list, at the value level: sl is the slice object that was just made -/
theorem set_slice {pins : List (Addr × Obj)} {s : Shared} {σ : St} {H : Hp} {l b sl : Addr} {xs ys : List V} {a c : Int} {vl vu : Value} {Q : Unit → Shared → Prop} (I : Inv X pins σ H s)
    (hH : H l = some (.lst xs)) (hB : H b = some (.lst ys)) (hne : l ≠ b) (hs : s.heap.IsSliceOf sl vl vu .none) (ra : RelV (.int a) vl) (rc : RelV (.int c) vu) (h0 : 0 ≤ a) (hac : a ≤ c) (hc : c ≤ xs.length)
    (hz : xs.length + ys.length ≤ sizeLine) (h : ∀ s', Inv X pins σ (upd H l (.lst (xs.take a.toNat ++ ys ++ xs.drop c.toNat))) s' → Q () s') :
    wpAny (model X.prog X.w) X.A (setItem (.ref l) (.ref sl) (.ref b)) Q X.xe s := by
  obtain ⟨ta, rfl⟩ := ra
  obtain ⟨tc, rfl⟩ := rc
  obtain ⟨z, its, n, r, hl, e⟩ := I.lstM hH
  obtain ⟨z2, its2, n2, r2, hl2, e2⟩ := I.lstM hB
  obtain ⟨a', rfl⟩ := Int.eq_ofNat_of_zero_le h0
  obtain ⟨c', rfl⟩ := Int.eq_ofNat_of_zero_le (Int.le_trans h0 hac)
  simp only [Int.toNat_natCast] at h
  refine setItem_slice (a := a') (c := c') e e2 hne hs (.int _ _) (.int _ _) (by omega) (by rw [List.size_toArray]; omega) (by rw [List.size_toArray, List.size_toArray]; omega) (h _ ?_)
  refine I.lset (its' := its.take a' ++ its2 ++ its.drop c') (t' := s.toks) hH e ?_ (Vals.append (Vals.append (r.take _) r2) (r.drop _)) ?_
  · exact splice_eq its its2 a' c'
  · rw [List.length_append, List.length_append, List.length_take, List.length_drop]
    omega
end
end L2

namespace L2
open PySem PySem.Spec PyProof.Rows

/-! ### lists of pairs as tables -/
section
variable {κ : Type} [DecidableEq κ]
def valV (kvs : List (κ × V)) (k : κ) : Option V := (kvs.find? fun kv => decide (kv.1 = k)).map (·.2)
/-- in its place, or at the end -/
def putK (kvs : List (κ × V)) (k : κ) (v : V) : List (κ × V) :=
  if (kvs.any fun kv => decide (kv.1 = k)) = true then kvs.map (fun kv => if kv.1 = k then (kv.1, v) else kv) else kvs ++ [(k, v)]
def dropK (kvs : List (κ × V)) (k : κ) : List (κ × V) := kvs.filter fun kv => decide (kv.1 ≠ k)

theorem valV_nil {k : κ} : valV ([] : List (κ × V)) k = none := rfl
theorem valV_pos {p : κ × V} {r : List (κ × V)} {k : κ} (e : p.1 = k) : valV (p :: r) k = some p.2 := by simp [valV, List.find?_cons, e]
theorem valV_neg {p : κ × V} {r : List (κ × V)} {k : κ} (e : ¬ p.1 = k) : valV (p :: r) k = valV r k := by simp [valV, List.find?_cons, e]
theorem valV_any (k : κ) : ∀ kvs : List (κ × V), (kvs.any fun kv => decide (kv.1 = k)) = (valV kvs k).isSome
  | [] => rfl
  | p :: r => by
    rw [List.any_cons]
    by_cases e : p.1 = k
    · simp only [valV_pos e, decide_eq_true e, Bool.true_or, Option.isSome_some]
    · rw [valV_neg e, decide_eq_false e, Bool.false_or]; exact valV_any k r
theorem valV_map (k j : κ) (y : V) : ∀ kvs : List (κ × V), valV (kvs.map fun kv => if kv.1 = k then (kv.1, y) else kv) j = (valV kvs j).map fun x => if j = k then y else x
  | [] => rfl
  | p :: r => by
    have ih := valV_map k j y r
    rw [List.map_cons]
    by_cases h : p.1 = k
    · rw [if_pos h]
      by_cases e : p.1 = j
      · rw [valV_pos (p := (p.1, y)) e, valV_pos e, Option.map_some, if_pos (e.symm.trans h)]
      · rw [valV_neg (p := (p.1, y)) e, valV_neg e, ih]
    · rw [if_neg h]
      by_cases e : p.1 = j
      · rw [valV_pos (p := p) e, valV_pos e, Option.map_some, if_neg (fun z => h (e.trans z))]
      · rw [valV_neg (p := p) e, valV_neg e, ih]
theorem valV_snoc (k j : κ) (y : V) : ∀ kvs : List (κ × V), valV kvs k = none → valV (kvs ++ [(k, y)]) j = if j = k then some y else valV kvs j
  | [], _ => by
    by_cases e : k = j
    · rw [if_pos e.symm]; exact valV_pos (p := (k, y)) e
    · rw [if_neg (fun z => e z.symm)]; exact valV_neg (p := (k, y)) e
  | p :: r, hn => by
    rw [List.cons_append]
    have hk : ¬ p.1 = k := fun z => by rw [valV_pos z] at hn; cases hn
    rw [valV_neg hk] at hn
    have ih := valV_snoc k j y r hn
    by_cases e : p.1 = j
    · rw [valV_pos e, valV_pos e, if_neg (fun z => hk (e.trans z))]
    · rw [valV_neg e, valV_neg e, ih]
theorem valV_put (kvs : List (κ × V)) (k j : κ) (y : V) : valV (putK kvs k y) j = if j = k then some y else valV kvs j := by
  unfold putK
  by_cases a : (kvs.any fun kv => decide (kv.1 = k)) = true
  · rw [if_pos a, valV_map]
    rw [valV_any] at a
    by_cases e : j = k
    · obtain ⟨x, hx⟩ := Option.isSome_iff_exists.mp a
      rw [if_pos e, e, hx, Option.map_some, if_pos rfl]
    · rw [if_neg e]
      cases valV kvs j with
      | none => rfl
      | some x => rw [Option.map_some, if_neg e]
  · rw [if_neg a]
    refine valV_snoc k j y kvs ?_
    rw [valV_any] at a
    cases q : valV kvs k with
    | none => rfl
    | some x => rw [q] at a; exact (a rfl).elim
theorem length_putK (kvs : List (κ × V)) (k : κ) (v : V) : (putK kvs k v).length ≤ kvs.length + 1 := by
  unfold putK
  split
  · rw [List.length_map]; omega
  · rw [List.length_append, List.length_cons, List.length_nil]; omega
theorem putK_new {kvs : List (κ × V)} {k : κ} (v : V) (h : valV kvs k = none) : putK kvs k v = kvs ++ [(k, v)] := by
  unfold putK
  rw [valV_any, h]
  exact if_neg (by decide)

theorem RelO.isSome_eq {o : Option V} {u : Option Value} (r : RelO o u) : o.isSome = u.isSome := by
  cases o with
  | none => cases u with
    | none => rfl
    | some _ => exact (show False from r).elim
  | some _ => cases u with
    | none => exact (show False from r).elim
    | some _ => rfl
theorem RelO.getD {o : Option V} {u : Option Value} {d : V} {d' : Value} (r : RelO o u) (rd : RelV d d') : RelV (o.getD d) (u.getD d') := by
  cases o with
  | none => cases u with
    | none => exact rd
    | some _ => exact (show False from r).elim
  | some _ => cases u with
    | none => exact (show False from r).elim
    | some _ => exact r

/-- raw tables of the same keys -/
theorem KV.val {kvs : List (κ × V)} {vs : List (κ × Value)} (r : KV kvs vs) (k : κ) : RelO (valV kvs k) (valueAt vs k) := by
  unfold KV at r
  induction r with
  | nil => exact True.intro
  | @cons p q ps qs h t ih =>
    obtain ⟨h1, h2⟩ := h
    by_cases e : p.1 = k
    · have e' : q.1 = k := h1.symm.trans e
      have b : valueAt (q :: qs) k = some q.2 := by simp [valueAt, List.find?_cons, e']
      rw [valV_pos e, b]; exact h2
    · have e' : ¬ q.1 = k := fun z => e (h1.trans z)
      have b : valueAt (q :: qs) k = valueAt qs k := by simp [valueAt, List.find?_cons, e']
      rw [valV_neg e, b]; exact ih
theorem KV.any {kvs : List (κ × V)} {vs : List (κ × Value)} (r : KV kvs vs) (k : κ) : (kvs.any fun kv => decide (kv.1 = k)) = vs.any fun kv => decide (kv.1 = k) := by
  unfold KV at r
  induction r with
  | nil => rfl
  | cons h t ih => rw [List.any_cons, List.any_cons, ih, h.1]
theorem KV.repl {kvs : List (κ × V)} {vs : List (κ × Value)} (r : KV kvs vs) (k : κ) {y : V} {u : Value} (ry : RelV y u) :
    KV (kvs.map fun kv => if kv.1 = k then (kv.1, y) else kv) (vs.map fun kv => if kv.1 = k then (kv.1, u) else kv) := by
  unfold KV at r ⊢
  induction r with
  | nil => exact .nil
  | @cons p q ps qs h t ih =>
    rw [List.map_cons, List.map_cons]
    refine .cons ?_ ih
    obtain ⟨h1, h2⟩ := h
    by_cases e : p.1 = k
    · rw [if_pos e, if_pos (h1.symm.trans e)]; exact ⟨h1, ry⟩
    · rw [if_neg e, if_neg (fun z => e (h1.trans z))]; exact ⟨h1, h2⟩
theorem KV.put {kvs : List (κ × V)} {vs : List (κ × Value)} (r : KV kvs vs) (k : κ) {y : V} {u : Value} (ry : RelV y u) : KV (putK kvs k y) (stored vs k u) := by
  unfold putK stored
  rw [r.any k]
  by_cases e : (vs.any fun kv => decide (kv.1 = k)) = true
  · rw [if_pos e, if_pos e]; exact r.repl k ry
  · rw [if_neg e, if_neg e]; exact Paired.snoc r ⟨rfl, ry⟩
theorem KV.drop {kvs : List (κ × V)} {vs : List (κ × Value)} (r : KV kvs vs) (k : κ) : KV (dropK kvs k) (without vs k) := by
  unfold KV at r ⊢
  unfold dropK without
  induction r with
  | nil => exact .nil
  | @cons p q ps qs h t ih =>
    obtain ⟨h1, h2⟩ := h
    rw [List.filter_cons, List.filter_cons]
    by_cases e : p.1 = k
    · have a : ¬ decide (p.1 ≠ k) = true := by simp [e]
      have b : ¬ decide (q.1 ≠ k) = true := by simp [h1.symm.trans e]
      rw [if_neg a, if_neg b]; exact ih
    · have e' : ¬ q.1 = k := fun z => e (h1.trans z)
      have a : decide (p.1 ≠ k) = true := by simp [e]
      have b : decide (q.1 ≠ k) = true := by simp [e']
      rw [if_pos a, if_pos b]; exact .cons ⟨h1, h2⟩ ih
theorem KV.keys {kvs : List (κ × V)} {vs : List (κ × Value)} (r : KV kvs vs) : kvs.map (·.1) = vs.map (·.1) := by
  unfold KV at r
  induction r with
  | nil => rfl
  | cons h t ih => rw [List.map_cons, List.map_cons, ih, h.1]
theorem KV.length {kvs : List (κ × V)} {vs : List (κ × Value)} (r : KV kvs vs) : kvs.length = vs.length := Paired.length r
theorem dropK_le (kvs : List (κ × V)) (k : κ) : (dropK kvs k).length ≤ kvs.length := List.length_filter_le _ _
end

/-! ### a tracked dict, its keys ints and texts or tuples of these -/
theorem kV_is {P : Program} {w : World} {k : Key} {u : Value} (r : RelV (kV k) u) : (mixKind P w).is k u = true := by
  cases k with
  | inl i => obtain ⟨t, e⟩ := (show ∃ t, u = Value.int i t from r); subst e; exact mixKind_int P w i t
  | inr x => obtain ⟨t, e⟩ := (show ∃ t, u = Value.str x t from r); subst e; exact mixKind_str P w x t
theorem kV_inj {a b : Key} (e : kV a = kV b) : a = b := by
  cases a with
  | inl i => cases b with
    | inl j => have e' : V.int i = V.int j := e; injection e' with e'; rw [e']
    | inr y => exact nomatch (show V.int i = V.str y from e)
  | inr x => cases b with
    | inl j => exact nomatch (show V.str x = V.int j from e)
    | inr y => have e' : V.str x = V.str y := e; injection e' with e'; rw [e']
theorem kVs_inj : ∀ {a b : List Key}, a.map kV = b.map kV → a = b
  | [], [], _ => rfl
  | [], _ :: _, e => by simp at e
  | _ :: _, [], e => by simp at e
  | x :: xs, y :: ys, e => by
    rw [List.map_cons, List.map_cons] at e
    injection e with e1 e2
    rw [kV_inj e1, kVs_inj e2]
theorem items_are {P : Program} {w : World} : ∀ {ks : List Key} {us : List Value}, Vals (ks.map kV) us → ItemsAre (mixKind P w) ks us
  | [], _, r => by rw [List.map_nil] at r; cases r; exact .nil
  | k :: ks, _, r => by
    rw [List.map_cons] at r
    cases r with
    | cons h t => exact .cons (kV_is h) (items_are t)

/-- raw entries of a dict with tuple keys -/
abbrev KT (H : Hp) : List (List Key × V) → List (List Key × Addr × Value) → Prop := Paired fun p q => p.1 = q.1 ∧ H q.2.1 = some (.tup (p.1.map kV)) ∧ RelV p.2 q.2.2
theorem KT.val {H : Hp} {kvs : List (List Key × V)} {xs : List (List Key × Addr × Value)} (r : KT H kvs xs) (k : List Key) : RelO (valV kvs k) ((atKey xs k).map (·.2)) := by
  induction r with
  | nil => exact True.intro
  | @cons p q ps qs h t ih =>
    obtain ⟨h1, _, h2⟩ := h
    by_cases e : p.1 = k
    · have e' : q.1 = k := h1.symm.trans e
      have b : atKey (q :: qs) k = some q.2 := by simp [atKey, List.find?_cons, e']
      rw [valV_pos e, b]; exact h2
    · have e' : ¬ q.1 = k := fun z => e (h1.trans z)
      have b : atKey (q :: qs) k = atKey qs k := by simp [atKey, List.find?_cons, e']
      rw [valV_neg e, b]; exact ih
theorem KT.repl {H : Hp} {kvs : List (List Key × V)} {xs : List (List Key × Addr × Value)} (r : KT H kvs xs) (k : List Key) {y : V} {u : Value} (ry : RelV y u) :
    KT H (kvs.map fun kv => if kv.1 = k then (kv.1, y) else kv) (xs.map (putAt k u)) := by
  induction r with
  | nil => exact .nil
  | @cons p q ps qs h t ih =>
    rw [List.map_cons, List.map_cons]
    refine .cons ?_ ih
    obtain ⟨h1, h2, h3⟩ := h
    unfold putAt
    by_cases e : p.1 = k
    · rw [if_pos e, if_pos (h1.symm.trans e)]; exact ⟨h1, h2, ry⟩
    · rw [if_neg e, if_neg (fun z => e (h1.trans z))]; exact ⟨h1, h2, h3⟩
theorem KT.put {H : Hp} {kvs : List (List Key × V)} {xs : List (List Key × Addr × Value)} (r : KT H kvs xs) (k : List Key) {b : Addr} {y : V} {u : Value} (hb : H b = some (.tup (k.map kV))) (ry : RelV y u) :
    KT H (putK kvs k y) (storedH xs k b u) := by
  have e : (kvs.any fun kv => decide (kv.1 = k)) = (atKey xs k).isSome := by
    rw [valV_any, (r.val k).isSome_eq, Option.isSome_map]
  unfold putK storedH
  rw [e]
  by_cases q : (atKey xs k).isSome = true
  · rw [if_pos q, if_pos q]; exact r.repl k ry
  · rw [if_neg q, if_neg q]; exact Paired.snoc r ⟨rfl, hb, ry⟩
theorem KT.keeps {H H' : Hp} {kvs : List (List Key × V)} {xs : List (List Key × Addr × Value)} (r : KT H kvs xs) (ht : ∀ b ys, H b = some (.tup ys) → H' b = some (.tup ys)) : KT H' kvs xs :=
  Paired.mapP r fun _ _ z => ⟨z.1, ht _ _ z.2.1, z.2.2⟩

section
variable {P : Program} {w : World} {H : Hp} {h : Heap} {a : Addr}
theorem rd_of {u : HO} (ok : HOk P w H h) (e : Rd H a u) : ObjOk P w H h a u := e.ok ok
theorem dk_rd {kvs : List (Key × V)} (ok : HOk P w H h) (e : Rd H a (.dK kvs)) : kvs.length ≤ sizeLine ∧ (a == sysModules) = false ∧ ∃ vs, KV kvs vs ∧ h.DictOf (mixKind P w) a vs :=
  show ObjOk P w H h a (.dK kvs) from rd_of ok e
theorem dk_of {kvs : List (Key × V)} (ok : HOk P w H h) (e : H a = some (.dK kvs)) : kvs.length ≤ sizeLine ∧ (a == sysModules) = false ∧ ∃ vs, KV kvs vs ∧ h.DictOf (mixKind P w) a vs := dk_rd ok (.inl e)
/-- a tracked tuple of ints and texts is a key -/
theorem key_of {ks : List Key} (ok : HOk P w H h) (e : H a = some (.tup (ks.map kV))) : (tupleKind (mixKind P w)).is h ks a := by
  obtain ⟨_, its, r, o, h1, h2, n, h3⟩ := (show ObjOk P w H h a (.tup (ks.map kV)) from ok a _ e)
  exact ⟨o, its.toArray, n, h1, h2, h3, by simpa using items_are r⟩
theorem dt_rd {kvs : List (List Key × V)} (ok : HOk P w H h) (e : Rd H a (.dT kvs)) : kvs.length ≤ sizeLine ∧ (a == sysModules) = false ∧
    ∃ xs, KT H kvs xs ∧ h.DictOfH (tupleKind (mixKind P w)) a xs := by
  obtain ⟨z, y, xs, r, o, es, ep, h1, h2, h3, h4, h5⟩ := (show ObjOk P w H h a (.dT kvs) from rd_of ok e)
  refine ⟨z, y, xs, r, o, es, ep, h1, h2, h3, h4, fun x hx => ?_, h5⟩
  have all : ∀ {l : List (List Key × V)} {m : List (List Key × Addr × Value)}, KT H l m → ∀ x ∈ m, (tupleKind (mixKind P w)).is h x.1 x.2.1 := by
    intro l m q
    induction q with
    | nil => intro x hx; exact nomatch hx
    | @cons p q ps qs hq t ih =>
      intro x hx
      rcases List.mem_cons.mp hx with e | hx
      · subst e
        exact key_of ok (by rw [← hq.1]; exact hq.2.1)
      · exact ih x hx
  exact all r x hx
theorem dt_of {kvs : List (List Key × V)} (ok : HOk P w H h) (e : H a = some (.dT kvs)) : kvs.length ≤ sizeLine ∧ (a == sysModules) = false ∧
    ∃ xs, KT H kvs xs ∧ h.DictOfH (tupleKind (mixKind P w)) a xs := dt_rd ok (.inl e)
end

/-- what the dict at a holds at the key y -/
def DGet (H : Hp) (a : Addr) (y : V) (r : Option V) : Prop :=
  (∃ kvs k, Rd H a (.dK kvs) ∧ y = kV k ∧ r = valV kvs k) ∨ ∃ kvs k b, Rd H a (.dT kvs) ∧ y = .ref b ∧ H b = some (.tup (k.map kV)) ∧ r = valV kvs k
/-- the heap behind a[y] = v -/
def DPut (H : Hp) (a : Addr) (y v : V) (H' : Hp) : Prop :=
  (∃ kvs k, H a = some (.dK kvs) ∧ y = kV k ∧ kvs.length < sizeLine ∧ H' = upd H a (.dK (putK kvs k v))) ∨
  ∃ kvs k b, H a = some (.dT kvs) ∧ y = .ref b ∧ H b = some (.tup (k.map kV)) ∧ kvs.length < sizeLine ∧ H' = upd H a (.dT (putK kvs k v))
theorem DGet.k {H : Hp} {a : Addr} {kvs : List (Key × V)} {k : Key} (e : H a = some (.dK kvs)) : DGet H a (kV k) (valV kvs k) := .inl ⟨kvs, k, .inl e, rfl, rfl⟩
theorem DGet.t {H : Hp} {a b : Addr} {kvs : List (List Key × V)} {k : List Key} (e : H a = some (.dT kvs)) (eb : H b = some (.tup (k.map kV))) : DGet H a (.ref b) (valV kvs k) := .inr ⟨kvs, k, b, .inl e, rfl, eb, rfl⟩
theorem DPut.k {H : Hp} {a : Addr} {kvs : List (Key × V)} {k : Key} {v : V} (e : H a = some (.dK kvs)) (hl : kvs.length < sizeLine) : DPut H a (kV k) v (upd H a (.dK (putK kvs k v))) := .inl ⟨kvs, k, e, rfl, hl, rfl⟩
theorem DPut.t {H : Hp} {a b : Addr} {kvs : List (List Key × V)} {k : List Key} {v : V} (e : H a = some (.dT kvs)) (eb : H b = some (.tup (k.map kV))) (hl : kvs.length < sizeLine) :
    DPut H a (.ref b) v (upd H a (.dT (putK kvs k v))) := .inr ⟨kvs, k, b, e, rfl, eb, hl, rfl⟩

section
variable {X : Cx} {pins : List (Addr × Obj)} {σ : St} {H : Hp} {s : Shared} {a : Addr} {y v : V} {u r : Value} {o : Option V} {A : Around} {E : Value → Shared → Prop}

theorem Inv.big (I : Inv X pins σ H s) : sysModules < s.heap.objs.size := by
  have h : mainGlobals < s.heap.objs.size := (I.mod.glob.keeps I.bk).lt
  exact Nat.lt_trans (by decide) h

/-- d[y], there -/
theorem d_getItem {Q : Value → Shared → Prop} (hu : A.units + 1 < cLine) (I : Inv X pins σ H s) (g : DGet H a y (some v)) (ry : RelV y u) (h : ∀ w' s', Inv X pins σ H s' → RelV v w' → Q w' s') :
    wpAny (model X.prog X.w) A (getItem (.ref a) u) Q E s := by
  rcases g with ⟨kvs, k, e, ey, l⟩ | ⟨kvs, k, b, e, ey, eb, l⟩
  · subst ey
    obtain ⟨z, hd, vs, rel, dd⟩ := dk_rd I.hok e
    obtain ⟨w', hw, rw'⟩ := RelO.some_of (v := v) (o := valueAt vs k) (by rw [l]; exact rel.val k)
    exact wpAny_getItem_of (kV_is ry) dd.mapOf hw (h w' _ (I.tok _) rw')
  · subst ey
    cases (show u = Value.ref b from ry)
    obtain ⟨z, hd, xs, rel, dd⟩ := dt_rd I.hok e
    obtain ⟨w', hw, rw'⟩ := RelO.some_of (v := v) (o := (atKey xs k).map (·.2)) (by rw [l]; exact rel.val k)
    obtain ⟨p, hp, hp2⟩ := Option.map_eq_some_iff.mp hw
    refine wpAny_getItem_heap (tupleKind_room_in1 hu) (key_of I.hok eb) dd hp ?_
    rw [hp2]
    exact h w' _ (I.tok _) rw'
/-- y in d -/
theorem d_in {Q : Value → Shared → Prop} (hu : A.units + 1 < cLine) (I : Inv X pins σ H s) (g : DGet H a y o) (ry : RelV y u) (h : ∀ s', Inv X pins σ H s' → Q (.bool o.isSome) s') :
    wpAny (model X.prog X.w) A (compareOp .In u (.ref a)) Q E s := by
  rcases g with ⟨kvs, k, e, ey, l⟩ | ⟨kvs, k, b, e, ey, eb, l⟩
  · subst ey
    obtain ⟨z, hd, vs, rel, dd⟩ := dk_rd I.hok e
    refine wpAny_in_of (kV_is ry) hd dd.mapOf ?_
    rw [← (rel.val k).isSome_eq, ← l]
    exact h _ (I.tok _)
  · subst ey
    cases (show u = Value.ref b from ry)
    obtain ⟨z, hd, xs, rel, dd⟩ := dt_rd I.hok e
    refine wpAny_in_heap (tupleKind_room_in1 hu) (key_of I.hok eb) hd dd ?_
    have q := (rel.val k).isSome_eq
    rw [Option.isSome_map] at q
    rw [← q, ← l]
    exact h _ (I.tok _)
theorem d_notIn {Q : Value → Shared → Prop} (hu : A.units + 1 < cLine) (I : Inv X pins σ H s) (g : DGet H a y o) (ry : RelV y u) (h : ∀ s', Inv X pins σ H s' → Q (.bool (!o.isSome)) s') :
    wpAny (model X.prog X.w) A (compareOp .NotIn u (.ref a)) Q E s := by
  rcases g with ⟨kvs, k, e, ey, l⟩ | ⟨kvs, k, b, e, ey, eb, l⟩
  · subst ey
    obtain ⟨z, hd, vs, rel, dd⟩ := dk_rd I.hok e
    refine wpAny_notIn_of (kV_is ry) hd dd.mapOf ?_
    rw [← (rel.val k).isSome_eq, ← l]
    exact h _ (I.tok _)
  · subst ey
    cases (show u = Value.ref b from ry)
    obtain ⟨z, hd, xs, rel, dd⟩ := dt_rd I.hok e
    refine wpAny_notIn_heap (tupleKind_room_in1 hu) (key_of I.hok eb) hd dd ?_
    have q := (rel.val k).isSome_eq
    rw [Option.isSome_map] at q
    rw [← q, ← l]
    exact h _ (I.tok _)
/-- a dict's object is replaced -/
theorem d_write {h' : Heap} {t' : Nat} {ob : HO} (I : Inv X pins σ H s) (mu : Mut (H a)) (hs : Heap.SameBut a s.heap h') (he : ∃ q, h'.get? a = some q) (new : ObjOk X.prog X.w (upd H a ob) h' a ob) :
    Inv X pins σ (upd H a ob) { s with heap := h', toks := t' } :=
  I.write (x := a) (e := a) mu (.inl rfl) (fun b q hb z => (hs.2 b hb).trans z) he new
theorem dk_new {P : Program} {w : World} {H' : Hp} {h' : Heap} {kvs : List (Key × V)} {vs : List (Key × Value)} (z : kvs.length ≤ sizeLine) (hd : (a == sysModules) = false) (rel : KV kvs vs) (dd : h'.DictOf (mixKind P w) a vs) :
    ObjOk P w H' h' a (.dK kvs) := ⟨z, hd, vs, rel, dd⟩
/-- d[y] = v -/
theorem d_setItem {H' : Hp} {Q : Unit → Shared → Prop} (hu : A.units + 1 < cLine) (I : Inv X pins σ H s) (g : DPut H a y v H') (ry : RelV y u) (rv : RelV v r) (h : ∀ s', Inv X pins σ H' s' → Q () s') :
    wpAny (model X.prog X.w) A (setItem (.ref a) u r) Q E s := by
  rcases g with ⟨kvs, k, e, ey, l, eH⟩ | ⟨kvs, k, b, e, ey, eb, l, eH⟩
  · subst ey eH
    obtain ⟨z, hd, vs, rel, dd⟩ := dk_of I.hok e
    have hz : vs.length ≤ sizeLine := by rw [← rel.length]; exact z
    have hl : (putK kvs k v).length ≤ sizeLine := by have := length_putK kvs k v; omega
    refine wpAny_setItem_pairs (hsz := hz) (kV_is ry) dd fun h' dd' hs => h _ ?_
    have he : ∃ q, h'.get? a = some q := let ⟨q, _, _, hq, _⟩ := dd'; ⟨q, hq⟩
    exact d_write I (by rw [e]; exact True.intro) hs he (dk_new hl hd (rel.put k rv) dd')
  · subst ey eH
    cases (show u = Value.ref b from ry)
    obtain ⟨z, hd, xs, rel, dd⟩ := dt_of I.hok e
    have hz : xs.length ≤ sizeLine := by rw [← Paired.length rel]; exact z
    have hl : (putK kvs k v).length ≤ sizeLine := by have := length_putK kvs k v; omega
    refine wpAny_setItem_heap (hsz := hz) (tupleKind_room_in1 hu) (key_of I.hok eb) dd fun h' dd' hs => h _ ?_
    obtain ⟨q, es, ep, hq, h2, h3, h4, _, h5⟩ := dd'
    refine d_write I (by rw [e]; exact True.intro) hs ⟨q, hq⟩ ⟨hl, hd, _, (rel.put k eb rv).keeps fun c ys ec => ?_, q, es, ep, hq, h2, h3, h4, h5⟩
    rw [upd_ne (ne_of ec e (fun z => nomatch z))]
    exact ec
end

section
variable {X : Cx} {pins : List (Addr × Obj)} {σ : St} {H : Hp} {s : Shared} {a : Addr} {kvs : List (Key × V)} {k : Key} {u : Value} {A : Around} {E : Value → Shared → Prop}
/-- del d[k] -/
theorem d_delItem {Q : Unit → Shared → Prop} (I : Inv X pins σ H s) (e : H a = some (.dK kvs)) (ry : RelV (kV k) u) (l : (valV kvs k).isSome = true) (h : ∀ s', Inv X pins σ (upd H a (.dK (dropK kvs k))) s' → Q () s') :
    wpAny (model X.prog X.w) A (delItem (.ref a) u) Q E s := by
  obtain ⟨z, hd, vs, rel, dd⟩ := dk_of I.hok e
  refine wpAny_delItem_slot dd.typeIs (by decide) PySem.F.slot_dict_delitem
    (call_meetsIn PySem.F.slot_dict_delitem dd.typeIs PySem.F.entry_dict_delitem (PySem.F.args_dict_delitem_2 _ _) (meets_dict_delitem_pairs (mixKind X.prog X.w) a (kV_is ry)) ⟨vs, dd, by rw [← rel.length]; exact z, by rw [← (rel.val k).isSome_eq]; exact l, fun h' dd' hs => h _ ?_⟩)
  have he : ∃ q, h'.get? a = some q := let ⟨q, _, _, hq, _⟩ := dd'; ⟨q, hq⟩
  exact d_write I (by rw [e]; exact True.intro) hs he (dk_new (Nat.le_trans (dropK_le kvs k) z) hd (rel.drop k) dd')
/-- d.pop(k[, x]), there -/
theorem d_pop {v : V} {more : List Value} {Q : Value → Shared → Prop} (I : Inv X pins σ H s) (e : H a = some (.dK kvs)) (ry : RelV (kV k) u) (l : valV kvs k = some v) (hm : more = [] ∨ ∃ x, more = [x])
    (h : ∀ w' s', Inv X pins σ (upd H a (.dK (dropK kvs k))) s' → RelV v w' → Q w' s') : wpAny (model X.prog X.w) A (call (.builtin "dict.pop") (.ref a :: u :: more)) Q E s := by
  obtain ⟨z, hd, vs, rel, dd⟩ := dk_of I.hok e
  obtain ⟨w', hw, rw'⟩ := RelO.some_of (v := v) (o := valueAt vs k) (by rw [← l]; exact rel.val k)
  have hp : (keyPart u).isSome = true := by
    cases k with
    | inl i => obtain ⟨t, q⟩ := (show ∃ t, u = Value.int i t from ry); subst q; rfl
    | inr x => obtain ⟨t, q⟩ := (show ∃ t, u = Value.str x t from ry); subst q; rfl
  have ha : argsOk "dict.pop" ⟨.ref a :: u :: more, []⟩ := by
    rcases hm with q | ⟨x, q⟩
    · subst q; exact PySem.F.args_dict_pop_2 _ _
    · subst q; exact PySem.F.args_dict_pop_3 _ _ _
  refine call_meetsIn PySem.F.slot_dict_pop dd.typeIs PySem.F.entry_dict_pop ha (meets_dict_pop_there (mixKind X.prog X.w) a (kV_is ry) more hm hp)
    ⟨vs, w', dd, by rw [← rel.length]; exact z, hw, fun h' dd' hs => h w' _ ?_ rw'⟩
  have he : ∃ q, h'.get? a = some q := let ⟨q, _, _, hq, _⟩ := dd'; ⟨q, hq⟩
  exact d_write I (by rw [e]; exact True.intro) hs he (dk_new (Nat.le_trans (dropK_le kvs k) z) hd (rel.drop k) dd')
/-- d.pop(k, x), not there -/
theorem d_popD {r : Value} {Q : Value → Shared → Prop} (I : Inv X pins σ H s) (e : H a = some (.dK kvs)) (ry : RelV (kV k) u) (l : valV kvs k = none) (h : ∀ s', Inv X pins σ H s' → Q r s') :
    wpAny (model X.prog X.w) A (call (.builtin "dict.pop") [.ref a, u, r]) Q E s := by
  obtain ⟨z, hd, vs, rel, dd⟩ := dk_of I.hok e
  have hn : valueAt vs k = none := RelO.none_of (by rw [← l]; exact rel.val k)
  have hp : (keyPart u).isSome = true := by
    cases k with
    | inl i => obtain ⟨t, q⟩ := (show ∃ t, u = Value.int i t from ry); subst q; rfl
    | inr x => obtain ⟨t, q⟩ := (show ∃ t, u = Value.str x t from ry); subst q; rfl
  exact call_meetsIn PySem.F.slot_dict_pop dd.typeIs PySem.F.entry_dict_pop (PySem.F.args_dict_pop_3 _ _ _) (meets_dict_pop_default (mixKind X.prog X.w) a (kV_is ry) hd hp r) ⟨vs, dd, hn, h _ (I.tok _)⟩
/-- d.clear() -/
theorem d_clear {Q : Value → Shared → Prop} (I : Inv X pins σ H s) (e : H a = some (.dK kvs)) (h : ∀ s', Inv X pins σ (upd H a (.dK [])) s' → Q .none s') : wpAny (model X.prog X.w) A (call (.builtin "dict.clear") [.ref a]) Q E s := by
  obtain ⟨z, hd, vs, rel, dd⟩ := dk_of I.hok e
  refine call_meetsIn PySem.F.slot_dict_clear dd.typeIs PySem.F.entry_dict_clear (PySem.F.args_dict_clear_1 _) (meets_dict_clear (mixKind X.prog X.w) a) ⟨vs, dd, by rw [← rel.length]; exact z, fun h' dd' hs => h _ ?_⟩
  have he : ∃ q, h'.get? a = some q := let ⟨q, _, _, hq, _⟩ := dd'; ⟨q, hq⟩
  exact d_write (t' := s.toks) I (by rw [e]; exact True.intro) hs he (dk_new (Nat.zero_le _) hd .nil dd')
/-- len(d) -/
theorem d_len {Q : Value → Shared → Prop} (I : Inv X pins σ H s) (e : Rd H a (.dK kvs)) (h : ∀ t s', Inv X pins σ H s' → Q (.int kvs.length t) s') : wpAny (model X.prog X.w) A (call (.builtin "len") [.ref a]) Q E s := by
  obtain ⟨z, hd, vs, rel, dd⟩ := dk_rd I.hok e
  refine call_len_dict hd dd (by rw [← rel.length]; rw [sizeLine_eq] at z; omega) ?_
  rw [← rel.length]
  exact h _ _ (I.tok _)
/-- if d -/
theorem d_truth {Q : Bool → Shared → Prop} (I : Inv X pins σ H s) (e : Rd H a (.dK kvs)) (h : ∀ s', Inv X pins σ H s' → Q (!kvs.isEmpty) s') : wpAny (model X.prog X.w) A (truthy (.ref a)) Q E s := by
  obtain ⟨z, hd, vs, rel, dd⟩ := dk_rd I.hok e
  refine wpAny_truthy_dict hd dd (by rw [← rel.length]; rw [sizeLine_eq] at z; omega) ?_
  have q : kvs.isEmpty = vs.isEmpty := by cases rel <;> rfl
  rw [← q]
  exact h _ (I.tok _)
end

/-! ### readings and rules -/
/-- the element of a subscription, not a slice -/
def NoSl (i : Expr) : Prop := ∀ ov iv, subscripted i false ov iv = operate [ov, iv] (getItem ov iv)
theorem subD_of {prog : Program} {w : World} {A : Around} {E : Value → Shared → Prop} {s : Shared} {env : Env} {value slice : Expr} {pos : Pos} {T id : String} {Q : Value → Shared → Prop}
    (hl : typeLookup (.type T) "__getitem__" = pure (some (.builtin id))) (hs : NoSl slice)
    (h : wpAny (model prog w) A (eval value env) (fun o s₁ => wpAny (model prog w) A (eval slice env) (fun i s₂ => s₂.TypeIs o T ∧ wpAny (model prog w) A (getItem o i) Q E s₂) E s₁) E s) :
    wpAny (model prog w) A (eval (.Subscript value slice pos) env) Q E s := by
  refine Subscript_ (wpAny_mono h (fun o s₁ h₁ => wpAny_mono h₁ (fun i s₂ h₂ => ?_) fun _ _ x => x) fun _ _ x => x)
  obtain ⟨hT, h₂⟩ := h₂
  unfold subscriptTail
  refine wpAny_bind ?_
  rw [getitemInPython_of_ne hT.not_modules]
  refine wpAny_bind (wpAny_specialOf hT hl ?_)
  have fin : wpAny (model prog w) A (subscripted slice false o i) (fun r s₃ => wpAny (model prog w) A (letTemporaryGo value o r >>= fun _ => pure r) Q E s₃) E s₂ := by
    rw [hs o i]
    exact wpAny_operating (wpAny_mono h₂ (fun r s₃ h₃ => wpAny_bind (wpAny_letTemporaryGo (wpAny_pure h₃))) fun _ _ x => x)
  first
    | exact wpAny_pure (wpAny_bind fin)
    | exact wpAny_bind (wpAny_pure (wpAny_bind fin))
    | exact wpAny_bind fin

theorem dict_typeIs {X : Cx} {pins : List (Addr × Obj)} {σ : St} {H : Hp} {s : Shared} {a : Addr} {y : V} {o : Option V} (I : Inv X pins σ H s) (g : DGet H a y o) : s.TypeIs (.ref a) "dict" := by
  rcases g with ⟨kvs, k, e, _, _⟩ | ⟨kvs, k, b, e, _, _, _⟩
  · obtain ⟨_, _, vs, _, dd⟩ := dk_rd I.hok e
    exact dd.typeIs
  · obtain ⟨_, _, xs, _, dd⟩ := dt_rd I.hok e
    exact dd.typeIs
theorem dict_noDict {X : Cx} {pins : List (Addr × Obj)} {σ : St} {H : Hp} {s : Shared} {a : Addr} {y : V} {o : Option V} (I : Inv X pins σ H s) (g : DGet H a y o) :
    ∀ b, Value.ref a = .ref b → ∃ ob, s.heap.get? b = some ob ∧ ob.dict = none := fun b q => by
  cases q
  rcases g with ⟨kvs, k, e, _, _⟩ | ⟨kvs, k, b, e, _, _, _⟩
  · obtain ⟨_, _, vs, _, ob, _, _, h1, h2, _⟩ := dk_rd I.hok e
    exact ⟨ob, h1, h2.2.1⟩
  · obtain ⟨_, _, xs, _, ob, _, _, h1, h2, _⟩ := dt_rd I.hok e
    exact ⟨ob, h1, h2.2.1⟩

/-- d[y] -/
def tDGet (td ty : TE) : TE := fun σ H Q => td σ H fun x H1 => ty σ H1 fun y H2 => ∃ a v, x = .ref a ∧ DGet H2 a y (some v) ∧ Q v H2
/-- y in d, y not in d -/
def tDIn (ty td : TE) : TE := fun σ H Q => ty σ H fun y H1 => td σ H1 fun x H2 => ∃ a o, x = .ref a ∧ DGet H2 a y o ∧ Q (.bl o.isSome) H2
def tDNotIn (ty td : TE) : TE := fun σ H Q => ty σ H fun y H1 => td σ H1 fun x H2 => ∃ a o, x = .ref a ∧ DGet H2 a y o ∧ Q (.bl (!o.isSome)) H2
/-- d[y] = v -/
def sDPut (td ty tv : TE) : TS := fun D σ H => tv σ H fun v H1 => td σ H1 fun x H2 => ty σ H2 fun y H3 => ∃ a H4, x = .ref a ∧ DPut H3 a y v H4 ∧ D.nx σ H4
/-- d[y] op= v -/
def sDAug (td ty tv : TE) (rd : V → V → Hp → VK → Prop) : TS := fun D σ H => td σ H fun x H1 => ty σ H1 fun y H2 => ∃ a v, x = .ref a ∧ DGet H2 a y (some v) ∧
  tv σ H2 fun y2 H3 => rd v y2 H3 fun z H4 => ∃ H5, DPut H4 a y z H5 ∧ D.nx σ H5
/-- del d[y] -/
def sDDel (td ty : TE) : TS := fun D σ H => td σ H fun x H1 => ty σ H1 fun y H2 => ∃ a kvs k, x = .ref a ∧ H2 a = some (.dK kvs) ∧ y = kV k ∧ (valV kvs k).isSome = true ∧ D.nx σ (upd H2 a (.dK (dropK kvs k)))

section
variable {X : Cx} {o i e value : Expr} {pos pos' tpos : Pos} {td ty tv : TE}
theorem pe_dget (hu : X.A.units + 1 < cLine) (ho : PE X o td) (hi : PE X i ty) (hs : NoSl i) : PE X (.Subscript o i pos) (tDGet td ty) := by
  intro pins s σ H Q I h
  refine subD_of PySem.F.slot_dict_getitem.lookup hs (thn (ho pins s σ H _ I h) fun u s1 ⟨x, H1, I1, rx, q1⟩ => thn (hi pins s1 σ H1 _ I1 q1) fun iv s2 ⟨y, H2, I2, ry, a, v, ex, g, q2⟩ => ?_)
  subst ex
  obtain rfl : u = Value.ref a := rx
  exact ⟨dict_typeIs I2 g, d_getItem hu I2 g ry fun w' s3 I3 rw' => ⟨v, H2, I3, rw', q2⟩⟩
theorem pc_din (hu : X.A.units + 1 < cLine) (hi : PE X i ty) (ho : PE X o td) : PC X .In i o (tDIn ty td) := by
  intro pins s σ H Q I h
  refine thn (hi pins s σ H _ I h) fun iv s1 ⟨y, H1, I1, ry, q1⟩ => thn (ho pins s1 σ H1 _ I1 q1) fun u s2 ⟨x, H2, I2, rx, a, ov, ex, g, q2⟩ => ?_
  subst ex
  obtain rfl : u = Value.ref a := rx
  exact d_in hu I2 g ry fun s3 I3 => ⟨.bl ov.isSome, H2, I3, rfl, q2⟩
theorem pc_dnotin (hu : X.A.units + 1 < cLine) (hi : PE X i ty) (ho : PE X o td) : PC X .NotIn i o (tDNotIn ty td) := by
  intro pins s σ H Q I h
  refine thn (hi pins s σ H _ I h) fun iv s1 ⟨y, H1, I1, ry, q1⟩ => thn (ho pins s1 σ H1 _ I1 q1) fun u s2 ⟨x, H2, I2, rx, a, ov, ex, g, q2⟩ => ?_
  subst ex
  obtain rfl : u = Value.ref a := rx
  exact d_notIn hu I2 g ry fun s3 I3 => ⟨.bl (!ov.isSome), H2, I3, rfl, q2⟩
theorem ps_dput (hu : X.A.units + 1 < cLine) (ho : PE X o td) (hi : PE X i ty) (hv : PE X value tv) (hs : swapsWith value (some (.Subscript o i pos')) pos.line X.env = pure false) :
    PS X (.Assign [.Subscript o i pos'] value pos) (sDPut td ty tv) := by
  intro pins s σ H D I h
  refine wpAny_Assign_Subscript (thn (hv pins s σ H _ I h) fun r s1 ⟨v, H1, I1, rv, q1⟩ => thn (ho pins s1 σ H1 _ I1 q1) fun u s2 ⟨x, H2, I2, rx, q2⟩ => thn (hi pins s2 σ H2 _ I2 q2) fun iv s3 ⟨y, H3, I3, ry, a, H4, ex, g, q3⟩ => ?_) hs
  subst ex
  obtain rfl : u = Value.ref a := rx
  exact d_setItem hu I3 g ry rv fun s4 I4 => ⟨σ, H4, I4, q3⟩
theorem ps_daug {op : Operator} {rd : V → V → Hp → VK → Prop} (hu : X.A.units + 1 < cLine) (ho : PE X o td) (hi : PE X i ty) (hv : PE X value tv) (hop : InOp X op rd)
    (ha : ∀ ov iv new, augStore i ov iv new = (do holding [new, ov, iv] (setItem ov iv new); release [new, ov, iv] []; pure .next)) : PS X (.AugAssign (.Subscript o i tpos) op value pos) (sDAug td ty tv rd) := by
  intro pins s σ H D I h
  refine wpAny_AugAssign_SubscriptAny (thn (ho pins s σ H _ I h) fun u s1 ⟨x, H1, I1, rx, q1⟩ => thn (hi pins s1 σ H1 _ I1 q1) fun iv s2 ⟨y, H2, I2, ry, a, v, ex, g, q2⟩ => ?_) ha
  subst ex
  obtain rfl : u = Value.ref a := rx
  refine d_getItem hu I2 g ry fun w' s3 I3 rw' => thn (hv pins s3 σ H2 _ I3 q2) fun w2 s4 ⟨y2, H3, I4, ry2, q3⟩ => thn (hop pins s4 σ H3 v y2 w' w2 _ I4 rw' ry2 q3) fun w3 s5 ⟨z, H4, I5, rz, H5, g5, q4⟩ => ?_
  exact d_setItem hu I5 g5 ry rz fun s6 I6 => ⟨σ, H5, I6, q4⟩
theorem ps_ddel (ho : PE X o td) (hi : PE X i ty) : PS X (.Delete [.Subscript o i tpos] pos) (sDDel td ty) := by
  intro pins s σ H D I h
  refine wpAny_Delete (wpAny_deleteEach_cons (wpAny_delete_Subscript (thn (ho pins s σ H _ I h) fun u s1 ⟨x, H1, I1, rx, q1⟩ => thn (hi pins s1 σ H1 _ I1 q1) fun iv s2 ⟨y, H2, I2, ry, a, kvs, k, ex, e, ey, l, q2⟩ => ?_)))
  subst ex ey
  obtain rfl : u = Value.ref a := rx
  exact d_delItem I2 e ry l fun s3 I3 => wpAny_deleteEach_nil ⟨σ, _, I3, q2⟩
end

/-! ### displays -/
theorem dk_empty {P : Program} {w : World} {H : Hp} (h : Heap) (hb : sysModules < h.objs.size) : ObjOk P w H (h.push { cls := .type "dict", data := .dict #[] }) h.objs.size (.dK []) :=
  ⟨Nat.zero_le _, beq_eq_false_iff_ne.mpr (Ne.symm (Nat.ne_of_lt hb)), [], .nil, Heap.DictOf.new h⟩
theorem dt_empty {P : Program} {w : World} {H : Hp} (h : Heap) (hb : sysModules < h.objs.size) : ObjOk P w H (h.push { cls := .type "dict", data := .dict #[] }) h.objs.size (.dT []) :=
  ⟨Nat.zero_le _, beq_eq_false_iff_ne.mpr (Ne.symm (Nat.ne_of_lt hb)), [], .nil, _, #[], 0, Heap.get?_push_size _ rfl, ⟨rfl, rfl, rfl⟩, rfl, rfl, List.nodup_nil⟩
/-- {}, to be a dict of the kind that is wanted -/
def tDNewK : TE := fun _ H Q => ∀ p, H p = none → Q (.ref p) (upd H p (.dK []))
def tDNewT : TE := fun _ H Q => ∀ p, H p = none → Q (.ref p) (upd H p (.dT []))
section
variable {X : Cx} {pos : Pos}
theorem pe_dnewK : PE X (.Dict [] [] pos) tDNewK := fun pins s σ H Q I h =>
  wpAny_Dict_empty ⟨.ref s.heap.objs.size, _, I.laid (a := s.heap.objs.size) (o := .dK []) (t' := s.toks) (fun _ _ q => Heap.get?_push_of_some _ q) (Nat.le_refl _) (dk_empty s.heap I.big), rfl, h _ (I.hok.fresh (Nat.le_refl _))⟩
theorem pe_dnewT : PE X (.Dict [] [] pos) tDNewT := fun pins s σ H Q I h =>
  wpAny_Dict_empty ⟨.ref s.heap.objs.size, _, I.laid (a := s.heap.objs.size) (o := .dT []) (t' := s.toks) (fun _ _ q => Heap.get?_push_of_some _ q) (Nat.le_refl _) (dt_empty s.heap I.big), rfl, h _ (I.hok.fresh (Nat.le_refl _))⟩
end

/-- the pairs of a display, from the left -/
def tPairs : List (TE × TE) → St → Hp → (List (V × V) → Hp → Prop) → Prop
  | [], _, H, Q => Q [] H
  | (tk, tv) :: r, σ, H, Q => tk σ H fun x H1 => tv σ H1 fun y H2 => tPairs r σ H2 fun ps H3 => Q ((x, y) :: ps) H3
abbrev VV : List (V × V) → List (Value × Value) → Prop := Paired fun p q => RelV p.1 q.1 ∧ RelV p.2 q.2
def PPs (X : Cx) (pos : Pos) (keys : List (Option Expr)) (values : List Expr) (trs : List (TE × TE)) : Prop :=
  ∀ (pins : List (Addr × Obj)) (s : Shared) (σ : St) (H : Hp) (Q : List (V × V) → Hp → Prop), Inv X pins σ H s → tPairs trs σ H Q →
    wpAny (model X.prog X.w) X.A (evalPairs (pairTrees keys values X.env pos)) (fun vs s' => ∃ ps H', Inv X pins σ H' s' ∧ VV ps vs ∧ Q ps H') X.xe s
theorem pps_nil {X : Cx} {pos : Pos} : PPs X pos [] [] [] := fun pins s σ H Q I h => pairTrees_nil_walk ⟨[], H, I, .nil, h⟩
theorem pps_cons {X : Cx} {pos : Pos} {k v : Expr} {ks : List (Option Expr)} {vs : List Expr} {tk tv : TE} {trs : List (TE × TE)} (hk : PE X k tk) (hv : PE X v tv) (hr : PPs X pos ks vs trs) :
    PPs X pos (some k :: ks) (v :: vs) ((tk, tv) :: trs) := fun pins s σ H Q I h =>
  pairTrees_cons_walk (thn (hk pins s σ H _ I h) fun u s1 ⟨x, H1, I1, rx, q1⟩ => thn (hv pins s1 σ H1 _ I1 q1) fun w2 s2 ⟨y, H2, I2, ry, q2⟩ =>
    thn (hr pins s2 σ H2 _ I2 q2) fun ws s3 ⟨ps, H3, I3, rel, q3⟩ => ⟨(x, y) :: ps, H3, I3, .cons ⟨rx, ry⟩ rel, q3⟩)

def mergeK (kvs more : List (Key × V)) : List (Key × V) := more.foldl (fun acc kv => putK acc kv.1 kv.2) kvs
theorem KV.merge : ∀ {more : List (Key × V)} {rs : List (Key × Value)} {kvs : List (Key × V)} {vs : List (Key × Value)}, KV more rs → KV kvs vs → KV (mergeK kvs more) (merged vs rs) := by
  intro more rs kvs vs r
  unfold KV at r
  induction r generalizing kvs vs with
  | nil => intro q; exact q
  | @cons p q ps qs h t ih =>
    intro r0
    have e : KV (putK kvs p.1 p.2) (stored vs q.1 q.2) := by
      have := r0.put p.1 h.2
      rw [← h.1]; exact this
    exact ih e
theorem length_mergeK : ∀ (more kvs : List (Key × V)), (mergeK kvs more).length ≤ kvs.length + more.length
  | [], kvs => by show kvs.length ≤ kvs.length + 0; omega
  | p :: r, kvs => by
    have h1 := length_mergeK r (putK kvs p.1 p.2)
    have h2 := length_putK kvs p.1 p.2
    show (mergeK (putK kvs p.1 p.2) r).length ≤ _
    rw [List.length_cons]; omega
theorem carries_of {P : Program} {w : World} : ∀ {kvs : List (Key × V)} {ws : List (Value × Value)}, VV (kvs.map fun kv => (kV kv.1, kv.2)) ws → ∃ rs, Carries (mixKind P w) ws rs ∧ KV kvs rs
  | [], _, r => by rw [List.map_nil] at r; cases r; exact ⟨[], True.intro, .nil⟩
  | p :: kvs, _, r => by
    rw [List.map_cons] at r
    cases r with
    | @cons a b as bs h t =>
      obtain ⟨rs, c, q⟩ := carries_of (P := P) (w := w) t
      obtain ⟨b1, b2⟩ := b
      exact ⟨(p.1, b2) :: rs, ⟨kV_is h.1, rfl, c⟩, .cons ⟨rfl, h.2⟩ q⟩
/-- {k: v, ..} with keys ints and texts; the new dict stands empty while the pairs are made -/
def tDisp (trs : List (TE × TE)) : TE := fun σ H Q => ∀ p, H p = none → tPairs trs σ (upd H p (.dK [])) fun ps H2 => H2 p = some (.dK []) ∧ ∃ kvs : List (Key × V), ps = kvs.map (fun kv => (kV kv.1, kv.2)) ∧ kvs.length ≤ 15 ∧ Q (.ref p) (upd H2 p (.dK (mergeK [] kvs)))
theorem pe_disp {X : Cx} {pos : Pos} {keys : List (Option Expr)} {values : List Expr} {trs : List (TE × TE)} (h : PPs X pos keys values trs) (hall : keys.all (·.isSome) = true) (hl : keys.length = values.length) (h0 : keys ≠ [])
    (h15 : keys.length ≤ 15) : PE X (.Dict keys values pos) (tDisp trs) := by
  intro pins s σ H Q I q
  have hn := I.hok.fresh (Nat.le_refl s.heap.objs.size)
  have I1 := I.laid (a := s.heap.objs.size) (o := .dK []) (h' := s.heap.push { cls := .type "dict", data := .dict #[] }) (t' := s.toks) (fun _ _ q => Heap.get?_push_of_some _ q) (Nat.le_refl _) (dk_empty s.heap I.big)
  refine wpAny_Dict_walk (knd := mixKind X.prog X.w) hall hl h0 h15 (thn (h pins _ σ _ _ I1 (q _ hn)) fun ws s2 ⟨ps, H2, I2, rel, e, kvs, ep, lk, q2⟩ => ?_)
  subst ep
  obtain ⟨rs, c, rk⟩ := carries_of (P := X.prog) (w := X.w) rel
  obtain ⟨z, hd, vs0, r0, dd⟩ := dk_of I2.hok e
  cases r0
  refine ⟨rs, c, dd, fun h' dd' hs => ⟨.ref s.heap.objs.size, _, ?_, rfl, q2⟩⟩
  have hz : (mergeK [] kvs).length ≤ sizeLine := by
    have h1 := length_mergeK kvs []
    rw [List.length_nil] at h1
    rw [sizeLine_eq]; omega
  have he : ∃ q, h'.get? s.heap.objs.size = some q := let ⟨q, _, _, hq, _⟩ := dd'; ⟨q, hq⟩
  exact d_write I2 (by rw [e]; exact True.intro) hs he (dk_new hz hd (rk.merge .nil) dd')

/-! ### methods -/
/-- a method call o.m(e) of a built-in, with one argument: what must be seen of the text -/
structure M1 (X : Cx) (o : Expr) (m : Str) (apos : Pos) (e : Expr) (cpos : Pos) : Prop where
  base : attributeBase o m X.env (eval o X.env) = eval o X.env
  few : ((backTo cpos (starEach [e] X.env)).all (fun x => !x.1) && (backToKw cpos (keywordEach [] X.env)).all (fun x => x.1.isSome)
    && decide (([e] : List Expr).length + ([] : List Keyword).length + (if ([] : List Keyword).isEmpty then 0 else 1) < 30)) = true
  line : (apos.endLine == cpos.line) = true
  trees : backTo cpos (starEach [e] X.env) = [(false, eval e X.env)]
structure M2 (X : Cx) (o : Expr) (m : Str) (apos : Pos) (e f : Expr) (cpos : Pos) : Prop where
  base : attributeBase o m X.env (eval o X.env) = eval o X.env
  few : ((backTo cpos (starEach [e, f] X.env)).all (fun x => !x.1) && (backToKw cpos (keywordEach [] X.env)).all (fun x => x.1.isSome)
    && decide (([e, f] : List Expr).length + ([] : List Keyword).length + (if ([] : List Keyword).isEmpty then 0 else 1) < 30)) = true
  line : (apos.endLine == cpos.line) = true
  trees : backTo cpos (starEach [e, f] X.env) = [(false, eval e X.env), (false, eval f X.env)]

/-- a is a dict, whatever its keys -/
def IsD (H : Hp) (a : Addr) : Prop := (∃ kvs, Rd H a (.dK kvs)) ∨ ∃ kvs, Rd H a (.dT kvs)
theorem isD_at {X : Cx} {pins : List (Addr × Obj)} {σ : St} {H : Hp} {s : Shared} {a : Addr} (I : Inv X pins σ H s) (d : IsD H a) :
    s.TypeIs (.ref a) "dict" ∧ (∀ b, Value.ref a = .ref b → ∃ ob, s.heap.get? b = some ob ∧ ob.dict = none) ∧ (a == sysModules) = false := by
  rcases d with ⟨kvs, e⟩ | ⟨kvs, e⟩
  · obtain ⟨_, hd, vs, _, dd⟩ := dk_rd I.hok e
    refine ⟨dd.typeIs, fun b q => ?_, hd⟩
    cases q
    obtain ⟨ob, _, _, h1, h2, _⟩ := dd
    exact ⟨ob, h1, h2.2.1⟩
  · obtain ⟨_, hd, xs, _, dd⟩ := dt_rd I.hok e
    refine ⟨dd.typeIs, fun b q => ?_, hd⟩
    cases q
    obtain ⟨ob, _, _, h1, h2, _⟩ := dd
    exact ⟨ob, h1, h2.2.1⟩

section
variable {X : Cx} {pins : List (Addr × Obj)} {σ : St} {H : Hp} {s : Shared} {a : Addr} {y d : V} {u r : Value} {o : Option V} {A : Around} {E : Value → Shared → Prop}
/-- d.get(y) -/
theorem d_get1 {Q : Value → Shared → Prop} (hu : A.units + 1 < cLine) (I : Inv X pins σ H s) (g : DGet H a y o) (ry : RelV y u) (h : ∀ w' s', Inv X pins σ H s' → RelV (o.getD .non) w' → Q w' s') :
    wpAny (model X.prog X.w) A (call (.builtin "dict.get") [.ref a, u]) Q E s := by
  rcases g with ⟨kvs, k, e, ey, l⟩ | ⟨kvs, k, b, e, ey, eb, l⟩
  · subst ey
    obtain ⟨z, hd, vs, rel, dd⟩ := dk_rd I.hok e
    refine call_meetsIn PySem.F.slot_dict_get dd.typeIs PySem.F.entry_dict_get (PySem.F.args_dict_get_2 _ _) (meets_dict_get (mixKind X.prog X.w) a (kV_is ry) hd) ⟨_, dd.mapOf, h _ _ (I.tok _) ?_⟩
    rw [l]
    exact (rel.val k).getD rfl
  · subst ey
    cases (show u = Value.ref b from ry)
    obtain ⟨z, hd, xs, rel, dd⟩ := dt_rd I.hok e
    refine call_meetsIn PySem.F.slot_dict_get dd.typeIs PySem.F.entry_dict_get (PySem.F.args_dict_get_2 _ _) (meetsH_dict_get (tupleKind (mixKind X.prog X.w)) a b hd) ⟨tupleKind_room_in1 hu, k, xs, key_of I.hok eb, dd, h _ _ (I.tok _) ?_⟩
    rw [l]
    exact (rel.val k).getD rfl
/-- d.get(y, x) -/
theorem d_get2 {Q : Value → Shared → Prop} (hu : A.units + 1 < cLine) (I : Inv X pins σ H s) (g : DGet H a y o) (ry : RelV y u) (rd : RelV d r) (h : ∀ w' s', Inv X pins σ H s' → RelV (o.getD d) w' → Q w' s') :
    wpAny (model X.prog X.w) A (call (.builtin "dict.get") [.ref a, u, r]) Q E s := by
  rcases g with ⟨kvs, k, e, ey, l⟩ | ⟨kvs, k, b, e, ey, eb, l⟩
  · subst ey
    obtain ⟨z, hd, vs, rel, dd⟩ := dk_rd I.hok e
    refine call_meetsIn PySem.F.slot_dict_get dd.typeIs PySem.F.entry_dict_get (PySem.F.args_dict_get_3 _ _ _) (meets_dict_get_default (mixKind X.prog X.w) a (kV_is ry) hd r) ⟨_, dd.mapOf, h _ _ (I.tok _) ?_⟩
    rw [l]
    exact (rel.val k).getD rd
  · subst ey
    cases (show u = Value.ref b from ry)
    obtain ⟨z, hd, xs, rel, dd⟩ := dt_rd I.hok e
    refine call_meetsIn PySem.F.slot_dict_get dd.typeIs PySem.F.entry_dict_get (PySem.F.args_dict_get_3 _ _ _) (meetsH_dict_get_default (tupleKind (mixKind X.prog X.w)) a b hd r) ⟨tupleKind_room_in1 hu, k, xs, key_of I.hok eb, dd, h _ _ (I.tok _) ?_⟩
    rw [l]
    exact (rel.val k).getD rd
end

def tDGet1 (td ty : TE) : TE := fun σ H Q => td σ H fun x H1 => ∃ a, x = .ref a ∧ IsD H1 a ∧ ty σ H1 fun y H2 => ∃ o, DGet H2 a y o ∧ Q (o.getD .non) H2
def tDGet2 (td ty tx : TE) : TE := fun σ H Q => td σ H fun x H1 => ∃ a, x = .ref a ∧ IsD H1 a ∧ ty σ H1 fun y H2 => tx σ H2 fun z H3 => ∃ o, DGet H3 a y o ∧ Q (o.getD z) H3
/-- d.pop(k): there; d.pop(k, x): there or not -/
def tDPop1 (td ty : TE) : TE := fun σ H Q => td σ H fun x H1 => ∃ a, x = .ref a ∧ IsD H1 a ∧ ty σ H1 fun y H2 => ∃ kvs k v, H2 a = some (.dK kvs) ∧ y = kV k ∧ valV kvs k = some v ∧ Q v (upd H2 a (.dK (dropK kvs k)))
def tDPop2 (td ty tx : TE) : TE := fun σ H Q => td σ H fun x H1 => ∃ a, x = .ref a ∧ IsD H1 a ∧ ty σ H1 fun y H2 => tx σ H2 fun z H3 => ∃ kvs k, H3 a = some (.dK kvs) ∧ y = kV k ∧
  (∀ v, valV kvs k = some v → Q v (upd H3 a (.dK (dropK kvs k)))) ∧ (valV kvs k = none → Q z H3)
section
variable {X : Cx} {o e f : Expr} {apos cpos : Pos} {td ty tx : TE}
theorem pe_dget1 (hu : X.A.units + 1 < cLine) (ho : PE X o td) (he : PE X e ty) (m : M1 X o "get" apos e cpos) : PE X (.Call (.Attribute o "get" apos) [e] [] cpos) (tDGet1 td ty) := by
  intro pins s σ H Q I h
  refine wpAny_Call_method m.base m.few m.line PySem.F.plainAttrs_dict PySem.F.slot_dict_get PySem.F.type_dict_get (thn (ho pins s σ H _ I h) fun u s1 ⟨x, H1, I1, rx, a, ex, d, q1⟩ => ?_)
  subst ex
  obtain rfl : u = Value.ref a := rx
  obtain ⟨t1, t2, _⟩ := isD_at I1 d
  refine ⟨t1, t2, ?_⟩
  rw [m.trees]
  refine Calls.callWith_builtin rfl (Calls.evalArgs_plain (Calls.spliced_cons (thn (he pins s1 σ H1 _ I1 q1) fun iv s2 ⟨y, H2, I2, ry, ov, g, q2⟩ => Calls.spliced_nil ?_)))
  exact d_get1 hu I2 g ry fun w' s3 I3 rw' => ⟨_, H2, I3, rw', q2⟩
theorem pe_dget2 (hu : X.A.units + 1 < cLine) (ho : PE X o td) (he : PE X e ty) (hf : PE X f tx) (m : M2 X o "get" apos e f cpos) : PE X (.Call (.Attribute o "get" apos) [e, f] [] cpos) (tDGet2 td ty tx) := by
  intro pins s σ H Q I h
  refine wpAny_Call_method m.base m.few m.line PySem.F.plainAttrs_dict PySem.F.slot_dict_get PySem.F.type_dict_get (thn (ho pins s σ H _ I h) fun u s1 ⟨x, H1, I1, rx, a, ex, d, q1⟩ => ?_)
  subst ex
  obtain rfl : u = Value.ref a := rx
  obtain ⟨t1, t2, _⟩ := isD_at I1 d
  refine ⟨t1, t2, ?_⟩
  rw [m.trees]
  refine Calls.callWith_builtin rfl (Calls.evalArgs_plain (Calls.spliced_cons (thn (he pins s1 σ H1 _ I1 q1) fun iv s2 ⟨y, H2, I2, ry, q2⟩ =>
    Calls.spliced_cons (thn (hf pins s2 σ H2 _ I2 q2) fun fv s3 ⟨z, H3, I3, rz, ov, g, q3⟩ => Calls.spliced_nil ?_))))
  exact d_get2 hu I3 g ry rz fun w' s4 I4 rw' => ⟨_, H3, I4, rw', q3⟩
theorem pe_dpop1 (ho : PE X o td) (he : PE X e ty) (m : M1 X o "pop" apos e cpos) : PE X (.Call (.Attribute o "pop" apos) [e] [] cpos) (tDPop1 td ty) := by
  intro pins s σ H Q I h
  refine wpAny_Call_method m.base m.few m.line PySem.F.plainAttrs_dict PySem.F.slot_dict_pop PySem.F.type_dict_pop (thn (ho pins s σ H _ I h) fun u s1 ⟨x, H1, I1, rx, a, ex, d, q1⟩ => ?_)
  subst ex
  obtain rfl : u = Value.ref a := rx
  obtain ⟨t1, t2, _⟩ := isD_at I1 d
  refine ⟨t1, t2, ?_⟩
  rw [m.trees]
  refine Calls.callWith_builtin rfl (Calls.evalArgs_plain (Calls.spliced_cons (thn (he pins s1 σ H1 _ I1 q1) fun iv s2 ⟨y, H2, I2, ry, kvs, k, v, ea, ey, l, q2⟩ => Calls.spliced_nil ?_)))
  subst ey
  exact d_pop I2 ea ry l (.inl rfl) fun w' s3 I3 rw' => ⟨v, _, I3, rw', q2⟩
theorem pe_dpop2 (ho : PE X o td) (he : PE X e ty) (hf : PE X f tx) (m : M2 X o "pop" apos e f cpos) : PE X (.Call (.Attribute o "pop" apos) [e, f] [] cpos) (tDPop2 td ty tx) := by
  intro pins s σ H Q I h
  refine wpAny_Call_method m.base m.few m.line PySem.F.plainAttrs_dict PySem.F.slot_dict_pop PySem.F.type_dict_pop (thn (ho pins s σ H _ I h) fun u s1 ⟨x, H1, I1, rx, a, ex, d, q1⟩ => ?_)
  subst ex
  obtain rfl : u = Value.ref a := rx
  obtain ⟨t1, t2, _⟩ := isD_at I1 d
  refine ⟨t1, t2, ?_⟩
  rw [m.trees]
  refine Calls.callWith_builtin rfl (Calls.evalArgs_plain (Calls.spliced_cons (thn (he pins s1 σ H1 _ I1 q1) fun iv s2 ⟨y, H2, I2, ry, q2⟩ =>
    Calls.spliced_cons (thn (hf pins s2 σ H2 _ I2 q2) fun fv s3 ⟨z, H3, I3, rz, kvs, k, ea, ey, q3, q4⟩ => Calls.spliced_nil ?_))))
  subst ey
  cases l : valV kvs k with
  | some v => exact d_pop I3 ea ry l (.inr ⟨fv, rfl⟩) fun w' s4 I4 rw' => ⟨v, _, I4, rw', q3 v l⟩
  | none => exact d_popD I3 ea ry l fun s4 I4 => ⟨z, H3, I4, rz, q4 l⟩
end

/-! ### dict(d): a copy -/
section
variable {X : Cx} {pins : List (Addr × Obj)} {σ : St} {H : Hp} {s : Shared} {a : Addr} {kvs : List (Key × V)} {A : Around} {E : Value → Shared → Prop}
theorem d_copyOf {Q : Value → Shared → Prop} (I : Inv X pins σ H s) (e : Rd H a (.dK kvs)) (h : ∀ p s', H p = none → Inv X pins σ (upd H p (.dK kvs)) s' → Q (.ref p) s') : wpAny (model X.prog X.w) A (call (.type "dict") [.ref a]) Q E s := by
  obtain ⟨z, hd, vs, rel, dd⟩ := dk_rd I.hok e
  refine kt_call_dict hd dd (by rw [← rel.length]; exact z) fun h' dd' hs => ?_
  refine h _ _ (I.hok.fresh (Nat.le_refl _)) (I.laid (a := s.heap.objs.size) (o := .dK kvs) (t' := s.toks) (fun b q hq => ?_) (Nat.le_refl _) (dk_new z (beq_eq_false_iff_ne.mpr (Ne.symm (Nat.ne_of_lt I.big))) rel dd'))
  exact (hs.2 b (Nat.ne_of_lt (Heap.lt_size hq))).trans (Heap.get?_push_of_some _ hq)
end

section
variable {X : Cx} {pins : List (Addr × Obj)} {σ : St} {H : Hp} {s : Shared} {a : Addr} {y : V} {u : Value} {A : Around} {E : Value → Shared → Prop}
/-- d[y], not there: a KeyError -/
theorem d_missing {Q : Value → Shared → Prop} (hu : A.units + 1 < cLine) (hh : A.handled = none) (I : Inv X pins σ H s) (g : DGet H a y none) (ry : RelV y u)
    (h : ∀ h' e t', Heap.NewExc s.heap h' e "KeyError" → E (.ref e) { s with heap := h', toks := t' }) : wpAny (model X.prog X.w) A (getItem (.ref a) u) Q E s := by
  rcases g with ⟨kvs, k, e, ey, l⟩ | ⟨kvs, k, b, e, ey, eb, l⟩
  · subst ey
    obtain ⟨z, hd, vs, rel, dd⟩ := dk_rd I.hok e
    have hn : valueAt vs k = none := RelO.none_of (by rw [l]; exact rel.val k)
    exact wpAny_getItem_missing_of (kV_is ry) hd hh dd.mapOf hn fun h' ex ne => h h' ex _ ne
  · subst ey
    cases (show u = Value.ref b from ry)
    obtain ⟨z, hd, xs, rel, dd⟩ := dt_rd I.hok e
    have hn : (atKey xs k).map (·.2) = none := RelO.none_of (by rw [l]; exact rel.val k)
    exact wpAny_getItem_missing_heap (tupleKind_room_in1 hu) (key_of I.hok eb) hd hh dd (Option.map_eq_none_iff.mp hn) fun h' ex ne => h h' ex _ ne
end
end L2

namespace Att
open PySem PySem.W PySem.Calls PyProof.Rows

/-! ### the script -/
theorem ints_of_wellAll {P : Params} {h : Heap} : ∀ (ns : List Int) (vs : List Value), WellAll P h vs (ns.map WData.int) → IntsAre vs ns := by
  intro ns
  induction ns with
  | nil =>
    intro vs w
    rw [List.map_nil] at w
    cases w
    exact .nil
  | cons n ns ih =>
    intro vs w
    rw [List.map_cons] at w
    cases w with
    | cons a b =>
      cases a
      exact .cons _ _ (ih _ b)

theorem script_of {l : OpenLaw} {n : Nat} (hn : l.most = some n) {P : Params} {h : Heap} {args : List WData} {vals : List Value}
    (hpre : l.row.toRowW.claim.pre args = true) (hwl : WellAll P h vals args) :
    ∃ a vs ns, vals = [Value.ref a] ∧ args = [WData.list (ns.map WData.int)] ∧ h.get? a = some { cls := .type "list", data := .seq vs.toArray } ∧ IntsAre vs ns ∧ ns.length ≤ n := by
  have hsh : WShape.hasAll [] args [.list .int] = true := (pre_splitW hpre).1
  have hc : l.pre.holds [] { args := args } = true := (pre_splitW hpre).2
  obtain ⟨d, r, rfl, h1, h2⟩ := hasAllW_cons hsh
  obtain rfl := hasAllW_nil h2
  obtain ⟨xs, rfl, h3⟩ := hasW_list h1
  obtain ⟨ns, rfl⟩ := items_int h3
  have hlen : ns.length ≤ n := by
    unfold OpenLaw.pre at hc
    have h4 : (WTm.not (.lt (.lit (.int (n : Int))) (.len (.arg 0)))).holds [] { args := [.list (ns.map .int)] } = true := by
      have h4 := (holds_andW hc).1
      rw [hn] at h4
      exact h4
    have h5 := condW_of h4 (w_not (w_lt w_lit (w_len_list (w_arg rfl))))
    rw [List.length_map] at h5
    refine Nat.le_of_not_lt fun q => ?_
    have q' : (n : Int) < ((ns.length : Nat) : Int) := by omega
    first
      | (rw [decide_eq_true q'] at h5; exact absurd h5 (by decide))
      | (simp at h5; omega)
  cases hwl with
  | cons w1 w2 =>
    cases w2
    cases w1 with
    | list ho hall => exact ⟨_, _, ns, rfl, rfl, ho, ints_of_wellAll ns _ hall, hlen⟩

theorem post_true (l : OpenLaw) (args : List WData) : l.row.toRowW.claim.post args (.bool true) args = true :=
  postW_of (r := l.row.toRowW) (X := (true == true))
    (show WShape.has [] (.bool true) .bool = true by first | rfl | decide | simp [WShape.has, WShape.arms, WShape.armsAll])
    (show (WTm.eq .res (.lit (.bool true))).value [] { args := args, res := some (.bool true), after := args } = some (.bool (true == true)) from w_eq_bool (w_res rfl) w_lit) rfl

/-! ### the attachment: holds_open's last premise (the goal 'hc' behind k_head) from a wpAny of the law's body -/
theorem attach {l : OpenLaw} {n : Nat} {q : Program} {loose : List Str} {XP : (Str → Option Value) → Heap → Prop} {YP : World → Heap → Prop} {d : DefRec} {x : Str}
    (hn : l.most = some n) (hdf : d.params.defaults = [])
    (hbind : ∀ pm cd doc v : Value, bindArgs (docDef d.name d.params d.body d.scope pm cd doc) ⟨[v], []⟩ = pure [(x, v)])
    (hx : d.scope.names.lookup x = some .local ∨ d.scope.names.lookup x = some .cell)
    (hk : d.scope.kind = .function) (hco : d.scope.isCoroutine = false) (hgen : d.scope.isGenerator = false)
    (body : ∀ (w : World) (s₀ s₁ s : Shared) (mg mb : Str → Option Value) (fa : Addr) (o : Obj) (pm cd doc : Value) (a : Addr) (vs : List Value) (ns : List Int),
      Ground q loose [] XP w s₀ mg mb s₁.heap → YP w s₁.heap →
      s₁.heap.get? fa = some o → o.data = .func (docDef d.name d.params d.body d.scope pm cd doc) → s₁.heap.CodeRec cd d.name → mg d.name = some (.ref fa) →
      s₁.heap.get? a = some { cls := .type "list", data := .seq vs.toArray } → IntsAre vs ns → ns.length ≤ n →
      s.gens = #[] → s.os = s₁.os →
      Fr s₁.heap s₁.heap.objs.size s.heap (bindL (envOfC d.name d.scope s₁.heap.objs.size fa cd).kindOf [(x, .ref a)] fun _ => none) →
      Cl s₁.heap.objs.size (cellsFrom (s₁.heap.objs.size + 1) d.scope.names []) s.heap (bindC (envOfC d.name d.scope s₁.heap.objs.size fa cd).kindOf [(x, .ref a)] fun _ => none) →
      wpAny (model l.prog w) (callerA.deeper (envOfC d.name d.scope s₁.heap.objs.size fa cd)) (execs d.body (envOfC d.name d.scope s₁.heap.objs.size fa cd))
        (fun f s' => f = .ret (.bool true) ∧ OldK s₁.heap s'.heap ∧ s'.os = s₁.os ∧ AllBare s'.gens) (fun _ _ => False) s) :
    WalkO q loose XP YP l.row.toRowW d [] (fun f vs => PySem.call f vs) := by
  intro w s₀ s₁ mg mb G Y fa o pm cd doc dV kV ho hd hcd hD hmg hg args vals as hpre hlay hrd hwl hlo
  obtain rfl : dV = .none := Dflts.none hD hdf
  obtain rfl : kV = .none := Dflts.noKw hD
  obtain ⟨a, vs, ns, rfl, rfl, hobj, hints, hlen⟩ := script_of hn hpre hwl
  refine enter_call ?_
  refine call_cells_ret (o := o) (by rw [depth_caller]; decide) ho (fd_plain hd) G.T.nolimit hcd (hbind pm cd doc (.ref a)) (fun y hy => ?_) (fun h₁ tk F X => ?_) hco hgen hk
  · obtain rfl : y = (x, Value.ref a) := List.mem_singleton.mp hy
    rcases hx with e | e
    · exact .inl e
    · exact .inr ⟨e, cellsFrom_some _ _ _ (.inl e)⟩
  · refine wpAny_mono (body w s₀ s₁ { s₁ with heap := h₁, toks := tk } mg mb fa o pm cd doc a vs ns G Y ho (fd_plain hd) hcd hmg hobj hints hlen hg rfl F X) (fun f s' hq => ?_) (fun _ _ hq => hq)
    obtain ⟨rfl, h2, h3, h4⟩ := hq
    exact ⟨.inl ⟨.bool true, .bool true, [], rfl, fun _ => rfl, .bool true, post_true l _, fun _ => ⟨List.Pairwise.nil, fun _ hm => (nomatch hm)⟩⟩, h2, h3, h4⟩

/-- the same from a codeAny of the CALL (for a layer whose function contracts speak of calls) -/
theorem attach_call {l : OpenLaw} {n : Nat} {q : Program} {loose : List Str} {XP : (Str → Option Value) → Heap → Prop} {YP : World → Heap → Prop} {d : DefRec}
    (hn : l.most = some n) (hdf : d.params.defaults = [])
    (call : ∀ (w : World) (s₀ s₁ : Shared) (mg mb : Str → Option Value) (fa : Addr) (o : Obj) (pm cd doc : Value) (a : Addr) (vs : List Value) (ns : List Int),
      Ground q loose [] XP w s₀ mg mb s₁.heap → YP w s₁.heap →
      s₁.heap.get? fa = some o → o.data = .func (docDef d.name d.params d.body d.scope pm cd doc) → s₁.heap.CodeRec cd d.name → mg d.name = some (.ref fa) →
      s₁.heap.get? a = some { cls := .type "list", data := .seq vs.toArray } → IntsAre vs ns → ns.length ≤ n → s₁.gens = #[] →
      codeAny (model l.prog w) callerA (.call (.ref fa) ⟨[.ref a], []⟩) (fun r s' => r = .ok (.ret (.bool true)) ∧ OldK s₁.heap s'.heap ∧ s'.os = s₁.os ∧ AllBare s'.gens) s₁) :
    WalkO q loose XP YP l.row.toRowW d [] (fun f vs => PySem.call f vs) := by
  intro w s₀ s₁ mg mb G Y fa o pm cd doc dV kV ho hd hcd hD hmg hg args vals as hpre hlay hrd hwl hlo
  obtain rfl : dV = .none := Dflts.none hD hdf
  obtain rfl : kV = .none := Dflts.noKw hD
  obtain ⟨a, vs, ns, rfl, rfl, hobj, hints, hlen⟩ := script_of hn hpre hwl
  refine enter_call (codeAny_mono (call w s₀ s₁ mg mb fa o pm cd doc a vs ns G Y ho (fd_plain hd) hcd hmg hobj hints hlen hg) fun r s' hq => ?_)
  obtain ⟨rfl, h2, h3, h4⟩ := hq
  exact ⟨.inl ⟨.bool true, .bool true, [], rfl, fun _ => rfl, .bool true, post_true l _, fun _ => ⟨List.Pairwise.nil, fun _ hm => (nomatch hm)⟩⟩, h2, h3, h4⟩

/-- the same where the top left finished generators (o_head chose holds_openN): nothing may have changed at all and no generator may be left -/
theorem attachN {l : OpenLaw} {n : Nat} {q : Program} {loose : List Str} {XP : (Str → Option Value) → Heap → Prop} {YP : World → Heap → Prop} {d : DefRec} {x : Str}
    (hn : l.most = some n) (hdf : d.params.defaults = [])
    (hbind : ∀ pm cd doc v : Value, bindArgs (docDef d.name d.params d.body d.scope pm cd doc) ⟨[v], []⟩ = pure [(x, v)])
    (hx : d.scope.names.lookup x = some .local ∨ d.scope.names.lookup x = some .cell)
    (hk : d.scope.kind = .function) (hco : d.scope.isCoroutine = false) (hgen : d.scope.isGenerator = false)
    (body : ∀ (w : World) (s₀ s₁ s : Shared) (mg mb : Str → Option Value) (fa : Addr) (o : Obj) (pm cd doc : Value) (a : Addr) (vs : List Value) (ns : List Int),
      Ground q loose [] XP w s₀ mg mb s₁.heap → YP w s₁.heap →
      s₁.heap.get? fa = some o → o.data = .func (docDef d.name d.params d.body d.scope pm cd doc) → s₁.heap.CodeRec cd d.name → mg d.name = some (.ref fa) →
      s₁.heap.get? a = some { cls := .type "list", data := .seq vs.toArray } → IntsAre vs ns → ns.length ≤ n →
      s.gens = #[] → s.os = s₁.os →
      Fr s₁.heap s₁.heap.objs.size s.heap (bindL (envOfC d.name d.scope s₁.heap.objs.size fa cd).kindOf [(x, .ref a)] fun _ => none) →
      Cl s₁.heap.objs.size (cellsFrom (s₁.heap.objs.size + 1) d.scope.names []) s.heap (bindC (envOfC d.name d.scope s₁.heap.objs.size fa cd).kindOf [(x, .ref a)] fun _ => none) →
      wpAny (model l.prog w) (callerA.deeper (envOfC d.name d.scope s₁.heap.objs.size fa cd)) (execs d.body (envOfC d.name d.scope s₁.heap.objs.size fa cd))
        (fun f s' => f = .ret (.bool true) ∧ (∀ b o, s₁.heap.get? b = some o → s'.heap.get? b = some o) ∧ s'.os = s₁.os ∧ s'.gens = #[]) (fun _ _ => False) s) :
    WalkN q loose XP YP l.row.toRowW d [] (fun f vs => PySem.call f vs) := by
  intro w s₀ s₁ mg mb G Y fa o pm cd doc dV kV ho hd hcd hD hmg hg args vals as hpre hlay hrd hwl hlo
  obtain rfl : dV = .none := Dflts.none hD hdf
  obtain rfl : kV = .none := Dflts.noKw hD
  obtain ⟨a, vs, ns, rfl, rfl, hobj, hints, hlen⟩ := script_of hn hpre hwl
  refine enter_callW ?_
  refine call_cells_ret (o := o) (by rw [depth_caller]; decide) ho (fd_plain hd) G.T.nolimit hcd (hbind pm cd doc (.ref a)) (fun y hy => ?_) (fun h₁ tk F X => ?_) hco hgen hk
  · obtain rfl : y = (x, Value.ref a) := List.mem_singleton.mp hy
    rcases hx with e | e
    · exact .inl e
    · exact .inr ⟨e, cellsFrom_some _ _ _ (.inl e)⟩
  · refine wpAny_mono (body w s₀ s₁ { s₁ with heap := h₁, toks := tk } mg mb fa o pm cd doc a vs ns G Y ho (fd_plain hd) hcd hmg hobj hints hlen hg rfl F X) (fun f s' hq => ?_) (fun _ _ hq => hq)
    obtain ⟨rfl, h2, h3, h4⟩ := hq
    exact ⟨.inl ⟨.bool true, .bool true, [], rfl, fun _ => rfl, .bool true, post_true l _, fun _ => ⟨List.Pairwise.nil, fun _ hm => (nomatch hm)⟩⟩, h2, h3, h4⟩

/-! ### rules over ANY heap (no ledger) from facts about the written part K: the library's own take a ledger (News) for what they write -/
section
variable {prog : Program} {w : World} {A : Around} {E : Value → Shared → Prop} {s : Shared} {K : Frag}

/-- a def of the module, or a method (qual 'C.m'), entered: the frame is the next address; cells behind it -/
theorem call_fn {R : Result → Shared → Prop} {name qual : Str} {params : Arguments} {body : List Stmt} {scope : Scope} {dV kV doc pm cdv ct oc : Value} {an od : Option Addr} {osl : Array (Option Value)} {f : Addr} {args : Args} {binds : List (Str × Value)}
    (X : K.In s.heap) (hlim : s.heap.NoLimit) (ho : K.lookup f = some ⟨oc, od, .func (fnOf name qual params body scope dV kV doc pm an cdv ct), osl⟩) (hcd : codeIn K cdv qual = true) (hroom : A.depth < recursionLimit)
    (hbind : BindsTo s (fnOf name qual params body scope dV kV doc pm an cdv ct) args binds)
    (hkind : (binds.all fun y => scope.names.lookup y.1 == some .local || scope.names.lookup y.1 == some .cell) = true)
    (h : ∀ s₁, InCallC s s.heap.objs.size (bindL (envOfC qual scope s.heap.objs.size f cdv).kindOf binds fun _ => none) (cellsFrom (s.heap.objs.size + 1) scope.names [])
        (bindC (envOfC qual scope s.heap.objs.size f cdv).kindOf binds fun _ => none) s₁ →
      wpAny (model prog w) (A.deeper (envOfC qual scope s.heap.objs.size f cdv)) (execs body (envOfC qual scope s.heap.objs.size f cdv))
        (fun fl s' => R (.ok (.ret (match fl with | .ret v => v | _ => .none))) s')
        (fun e s' => wpAny (model prog w) (A.deeper (envOfC qual scope s.heap.objs.size f cdv)) (leaving (envOfC qual scope s.heap.objs.size f cdv) e) (fun _ s'' => R (.error e) s'') (fun e' s'' => R (.error e') s'') s') s₁)
    (hco : scope.isCoroutine = false) (hgen : scope.isGenerator = false) (hk : scope.kind = .function) : codeAny (model prog w) A (.call (.ref f) args) R s := by
  refine codeAny_call_function hroom (X _ _ ho) rfl hco hgen rfl (codeRec_of X hcd) (hbind _ _ _ _ ?_)
  refine wpAny_newFunctionEnv_cells hk (kindsX hkind _) fun env he s₁ x => ?_
  subst he
  exact ⟨hlim.keeps x.toInCall.keep, codeAny_func (h s₁ x)⟩

/-- C(..): dict at size, instance at size + 1, then __init__ -/
theorem make_obj {R : Result → Shared → Prop} {C fI : Addr} {rest : List Value} {kw : List (Str × Value)}
    (X : K.In s.heap) (hm : makesIn K C = true) (hi : findIn K (.ref C) "__init__" = some (some (.ref fI))) (hf : isFn K (.ref fI) = true)
    (h : codeAny (model prog w) (A.under (.builtin "type.__call__" ⟨.ref C :: rest, kw⟩)) (.call (.ref fI) ⟨.ref (s.heap.objs.size + 1) :: rest, kw⟩) (InitBack (s.heap.objs.size + 1) R)
      { s with heap := (s.heap.push emptyDict).push (instObj C s.heap.objs.size) }) : codeAny (model prog w) A (.call (.ref C) ⟨rest, kw⟩) R s := by
  obtain ⟨hh, g, d, t, os⟩ := s
  exact make_core (makes_of X hm) (looks_findIn X hi) (fun self => bind_fn X self (beq_iff_eq.mp hf)) (.inl rfl) h

/-- x.name where the instance's dict holds the name and the class does not -/
theorem get_field {x C : Addr} {ox : Obj} {es : List DictEntry} {n : Nat} {name : Str} {expr : Bool} {v : Value} {Q : Value → Shared → Prop}
    (X : K.In s.heap) (I : PySem.W.InstAt s.heap x ox C (some (dictOf es n))) (hg : plainGet K C name = true) (hh : hasDictIn K C = true) (ha : findIn K (.ref C) name = some none)
    (hl : getL name es = some (some v)) (hv : handedIn v = true) (h : Q v { s with toks := s.toks + 1 }) : wpAny (model prog w) A (getAttr (.ref x) name expr) Q E s :=
  get_value X I (plainGet_of hg).1 (findObj_own hh ha rfl hl) hv h

/-- x.m(..): the method found in the class -/
theorem get_method {x C f : Addr} {ox : Obj} {es : List DictEntry} {n : Nat} {name : Str} {pl : Sem Bool} {Q : Value × List Value → Shared → Prop}
    (X : K.In s.heap) (I : PySem.W.InstAt s.heap x ox C (some (dictOf es n))) (hg : plainGet K C name = true) (hf : findIn K (.ref C) name = some (some (.ref f))) (ht : isFn K (.ref f) = true)
    (hl : getL name es = some none) (h : Q (.ref f, [.ref x]) s) : wpAny (model prog w) A (getMethod (.ref x) name pl) Q E s :=
  method_fn X I (plainGet_of hg).1 (plainGet_of hg).2 hf (beq_iff_eq.mp ht) (by show (lookIn name (dictOf es n)).map _ = _; rw [lookIn_dict, hl]; rfl) h

/-! the whole heap as the ledger: makes every rule that writes through a ledger a rule over any heap -/
def noObjs (h : Heap) : Heap := { h with objs := #[] }
theorem noObjs_get (h : Heap) (b : Addr) : (noObjs h).get? b = none := by
  cases e : (noObjs h).get? b with
  | none => rfl
  | some o => exact absurd (Heap.lt_size e) (Nat.not_lt_zero _)
def ledger (h : Heap) (L d : Addr) : List (Addr × Obj) := (List.range h.objs.size).filterMap fun a => if a = L ∨ a = d then none else (h.get? a).map fun o => (a, o)
theorem mem_ledger {h : Heap} {L d a : Addr} {o : Obj} : (a, o) ∈ ledger h L d ↔ a ≠ L ∧ a ≠ d ∧ h.get? a = some o := by
  unfold ledger
  rw [List.mem_filterMap]
  constructor
  · rintro ⟨b, _, e⟩
    split at e
    · cases e
    · rename_i hb
      obtain ⟨o', ho, e'⟩ := Option.map_eq_some_iff.mp e
      cases e'
      exact ⟨fun q => hb (.inl q), fun q => hb (.inr q), ho⟩
  · rintro ⟨n1, n2, ho⟩
    refine ⟨a, List.mem_range.mpr (Heap.lt_size ho), ?_⟩
    rw [if_neg (show ¬ (a = L ∨ a = d) from fun q => q.elim n1 n2), ho] <;> rfl
theorem news_ledger {h : Heap} {L d : Addr} {od : Obj} (hne : d ≠ L) (ho : h.get? d = some od) : News (noObjs h) L h ([] ++ (d, od) :: ledger h L d) := by
  rintro ⟨a, o⟩ hp
  rcases List.mem_cons.mp hp with e | hp
  · cases e
    exact ⟨ho, hne, noObjs_get _ _⟩
  · obtain ⟨n1, n2, e⟩ := mem_ledger.mp hp
    exact ⟨e, n1, noObjs_get _ _⟩
theorem fr_all {h : Heap} {L : Addr} {m : Str → Option Value} (n : h.Ns L m) : Fr (noObjs h) L h m :=
  ⟨n, fun b o e => (by rw [noObjs_get] at e; cases e), Nat.zero_le _⟩
/-- Upd of the head entry (for append_K, setItem_K ..) -/
theorem upd_ledger {h : Heap} {L d : Addr} {o o' : Obj} : Upd d o o' ((d, o) :: ledger h L d) ((d, o') :: ledger h L d) :=
  .head fun ⟨_, _⟩ hp => (mem_ledger.mp hp).2.1

/-- x.name = v over any heap: L is any namespace of the heap (the frame's, say): its map stays, its object is not told; all else but the dict stays -/
theorem set_field {x C dx L : Addr} {ox : Obj} {m : Str → Option Value} {es es' : List DictEntry} {n n' : Nat} {name : Str} {v : Value} {Q : Unit → Shared → Prop}
    (X : K.In s.heap) (I : PySem.W.InstAt s.heap x ox C (some (dictOf es n))) (hd : ox.dict = some dx) (hL : s.heap.Ns L m) (hne : dx ≠ L)
    (hs : findIn K (.ref C) "__setattr__" = some (some (.builtin "object.__setattr__"))) (hp : plainOver K C = true) (ht : takerIn K C name = some none) (hh : hasDictIn K C = true) (hl : (getL name es).isSome = true)
    (e : (putL name (PyData.keyHash w.params name) (.str name (s.toks + 1)) v es, putN name es n) = (es', n')) (hz : es'.length ≤ 1000)
    (h : ∀ h' : Heap, h'.Ns L m → h'.get? dx = some (dictOf es' n') → (∀ b o, b ≠ dx → b ≠ L → s.heap.get? b = some o → h'.get? b = some o) → Q () { s with heap := h', toks := s.toks + 2 }) :
    wpAny (model prog w) A (setAttr (.ref x) name v) Q E s := by
  obtain ⟨e1, e2⟩ := Prod.mk.inj e
  have hdx : s.heap.get? dx = some (dictOf es n) := by
    have := I.dict
    rw [hd] at this
    exact this
  refine set_plain X I hs (osa_dict (s := { s with toks := s.toks + 1 }) (h₀ := noObjs s.heap) (L := L) (m := m) (od := dictOf es n) (od' := dictOf es' n') (es := es') (n := n') (pre := []) (post := ledger s.heap L dx)
    (fr_all hL) (news_ledger hne hdx) X I hd hp ht hh hl (fun _ q => nomatch q) (fun ⟨_, _⟩ q => (mem_ledger.mp q).2.1) (by rw [putName_dict, e1, e2]) rfl hz fun h' F' N' => ?_)
  exact h h' F'.ns (N'.get (List.Mem.head _)) fun b o n1 n2 ho => N'.get (List.Mem.tail _ (mem_ledger.mpr ⟨n2, n1, ho⟩))
end
end Att

namespace L2
open PySem PySem.Spec PyProof.Rows

theorem vals_ints : ∀ {vs : List Value} {ns : List Int}, IntsAre vs ns → Vals (ns.map V.int) vs
  | _, _, .nil => .nil
  | _, _, .cons n t h => .cons ⟨t, rfl⟩ (vals_ints h)

/-- nothing is tracked but the script, known to the object (or it is an object of the module) -/
def Only (H : Hp) : Prop := ∀ b, H b = none ∨ ∃ o xs, H b = some (.frz o (.lst xs))

/-- THE HEAD: the law's promise, at the heap behind the top. F, the promise of the law's def, may use that base is part of the heap (so K.In base, base.Ns mainGlobals mg stand in Mod) -/
theorem law_call {P : Program} {w : World} {K : PySem.W.Frag} {mg mb : Str → Option Value} {CX : CXT} {k : Nat} {fa a : Addr} {fd : FuncData} {x : Str} {sp : Sp} {s₁ : Shared} {vs : List Value} {ns : List Int}
    (KX : K.In s₁.heap) (hns : s₁.heap.Ns mainGlobals mg) (hb : s₁.heap.Ns builtinsNs mb) (hbb : ∀ x : Str, x ≠ "__name__" → mb x = bootBuiltins x) (hlim : s₁.heap.NoLimit) (hg : s₁.gens = #[])
    (ha : s₁.heap.get? a = some { cls := .type "list", data := .seq vs.toArray }) (hi : IntsAre vs ns) (hl : ns.length ≤ sizeLine) (hr : Room k callerA)
    (F : ∀ base : Heap, K.In base → base.Ns mainGlobals mg → FnOk P w K mg base CX k fa fd [x] sp) (hbind : ∀ (s : Shared) (u : Value), BindsTo s fd ⟨[u], []⟩ [(x, u)])
    (hsp : ∀ H : Hp, Only H → SqL K H a (ns.map V.int) → sp [.ref a] H (fun v _ => v = .bl true) fun _ _ _ => False)
    (hCX : ∀ H e s', CX [] H s₁ (fun _ _ _ => False) e s' → False) :
    codeAny (model P w) callerA (.call (.ref fa) ⟨[.ref a], []⟩) (fun r s' => r = .ok (.ret (.bool true)) ∧ OldK s₁.heap s'.heap ∧ s'.os = s₁.os ∧ AllBare s'.gens) s₁ := by
  have rv := vals_ints hi
  have lenV := hi.length
  -- from an abstract heap in which nothing but the script may be tracked
  have core : ∀ H : Hp, Only H → SqL K H a (ns.map V.int) → HOk P w H s₁.heap → (∀ b, H b ≠ none → b = a) → (H a ≠ none → K.lookup a = none) →
      codeAny (model P w) callerA (.call (.ref fa) ⟨[.ref a], []⟩) (fun r s' => r = .ok (.ret (.bool true)) ∧ OldK s₁.heap s'.heap ∧ s'.os = s₁.os ∧ AllBare s'.gens) s₁ := by
    intro H hO hS hok hA hK
    have base_of : ∀ {b : Addr} {o : Obj}, s₁.heap.get? b = some o → H b = none → (hidT s₁.heap H).get? b = some o := fun e n => hidT_get e n
    have noA : ∀ {b : Addr} {o : Obj} {es : Array DictEntry} {ep : Nat}, s₁.heap.get? b = some o → o.data = .dict es ep → H b = none := fun {b o es ep} e d => by
      cases q : H b with
      | none => rfl
      | some u =>
        have e' : b = a := hA b (by rw [q]; simp)
        subst e'
        rw [ha] at e; cases e
        have d' : Data.seq vs.toArray _ = Data.dict es ep := d
        cases d'
    have nsK : ∀ {b : Addr} {m : Str → Option Value}, s₁.heap.Ns b m → (hidT s₁.heap H).Ns b m := fun {b m} ⟨o, es, ep, e, d, r⟩ => ⟨o, es, ep, base_of e (noA e d), d, r⟩
    have hKb : K.In (hidT s₁.heap H) := fun b o e => base_of (KX b o e) (by
      cases q : H b with
      | none => rfl
      | some u =>
        have e' : b = a := hA b (by rw [q]; simp)
        subst e'
        rw [hK (by rw [q]; simp)] at e; cases e)
    have hM : Mod K mg (hidT s₁.heap H) := ⟨hKb, nsK hns, ⟨mb, nsK hb, hbb⟩, let ⟨mc, h1, h2⟩ := hlim; ⟨mc, nsK h1, h2⟩⟩
    have e0 : Env0 P w K mg (hidT s₁.heap H) callerA [] s₁ H := ⟨rfl, hM, fun b o e => of_hidT e, Nat.le_of_eq (hidT_size _ _), trivial, fun b hb => absurd (show b ∈ ([] : List Addr) from hb) (by simp), hok, .of_eq hg⟩
    refine codeAny_mono ((F _ hKb (nsK hns)).run callerA [] s₁ H ⟨[.ref a], []⟩ [.ref a] [.ref a] _ _ hr e0 (hbind s₁ (.ref a)) (.cons rfl .nil) (hsp H hO hS)) fun r s' h => ?_
    cases r with
    | error e => exact (hCX H e s' h).elim
    | ok fl =>
      cases fl with
      | next => exact False.elim h
      | brk => exact False.elim h
      | cont => exact False.elim h
      | ret u =>
        obtain ⟨v, H', os, bare, un, hok', r', q⟩ := h
        have q' : v = .bl true := q
        subst q'
        obtain rfl : u = Value.bool true := r'
        refine ⟨rfl, OldK.of_keep fun b o e => ?_, os, bare⟩
        cases q : H b with
        | none => exact un.keep b o e q (by intro z; exact absurd (show b ∈ ([] : List Addr) from z) (by simp)) (by simp)
        | some u =>
          rcases hO b with z | ⟨ob, xs, z⟩
          · rw [q] at z; cases z
          · have z2 := un.frzs b ob _ z
            obtain ⟨e1, _⟩ := hok b _ z
            obtain ⟨e2, _⟩ := hok' b _ z2
            rw [e] at e1; cases e1
            exact e2
  cases hk : K.lookup a with
  | some o =>
    -- the script is one of the module's own objects
    have e := KX a o hk
    rw [ha] at e
    cases e
    refine core (fun _ => none) (fun _ => .inl rfl) (.inr ⟨_, vs.toArray, _, hk, rfl, rfl, rfl, by rw [List.size_toArray, lenV]; exact hl, by simpa using rv⟩) (fun b u z => by have z' : (none : Option HO) = some u := z; cases z') (fun b z => absurd rfl z) fun z => absurd rfl z
  | none =>
    refine core (fun b => if b = a then some (.frz { cls := .type "list", data := .seq vs.toArray } (.lst (ns.map V.int))) else none) (fun b => ?_) (.inl (.inr ⟨{ cls := .type "list", data := .seq vs.toArray }, if_pos rfl⟩)) (fun b u z => ?_) (fun b z => ?_) fun _ => hk
    · by_cases hb : b = a
      · exact .inr ⟨_, _, if_pos hb⟩
      · exact .inl (if_neg hb)
    · by_cases hb : b = a
      · have z' := (if_pos hb).symm.trans z
        cases z'
        subst hb
        exact ⟨ha, by rw [List.length_map]; exact hl, vs, _, rv, ha⟩
      · have z' := (if_neg hb).symm.trans z
        cases z'
    · by_cases hb : b = a
      · exact hb
      · exact absurd (if_neg hb) z
end L2

namespace L2
open PySem PySem.Spec PyProof.Rows

abbrev KOf {K : PySem.W.Frag} {h : Heap} (_ : K.In h) : PySem.W.Frag := K

/-- the goal that k_head leaves (case hc), from the law's promise. F gives the function object fd (K's own) once, then the promise over every base -/
theorem walk_of {l : PySem.W.OpenLaw} {n k : Nat} {q : Program} {loose : List Str} {XP : (Str → Option Value) → Heap → Prop} {YP : World → Heap → Prop} {d : DefRec} {K : Params → PySem.W.Frag} {CX : World → CXT} {sp : World → Sp} {x : Str}
    (hn : l.most = some n) (hn2 : n ≤ sizeLine) (hdf : d.params.defaults = []) (hr : Room k callerA)
    (hY : ∀ (w : World) (h : Heap), YP w h → (K w.params).In h)
    (F : ∀ (w : World) (mg : Str → Option Value) (fa : Addr) (h : Heap), (K w.params).In h → h.Ns mainGlobals mg → mg d.name = some (.ref fa) →
      ∃ fd : FuncData, (∀ (s : Shared) (u : Value), BindsTo s fd ⟨[u], []⟩ [(x, u)]) ∧
        ∀ base : Heap, (K w.params).In base → base.Ns mainGlobals mg → FnOk l.prog w (K w.params) mg base (CX w) k fa fd [x] (sp w))
    (hsp : ∀ (w : World) (H : Hp) (a : Addr) (ns : List Int), ns.length ≤ n → Only H → SqL (K w.params) H a (ns.map V.int) → sp w [.ref a] H (fun v _ => v = .bl true) fun _ _ _ => False)
    (hCX : ∀ (w : World) (H : Hp) (s : Shared) (e : Value) (s' : Shared), CX w [] H s (fun _ _ _ => False) e s' → False) :
    PySem.W.WalkO q loose XP YP l.row.toRowW d [] (fun f vs => PySem.call f vs) := by
  refine Att.attach_call hn hdf fun w s₀ s₁ mg mb fa o pm cd doc a vs ns G Y ho hd hcd hmg hobj hints hlen hg => ?_
  have KX := hY w _ Y
  obtain ⟨fd, hb, hF⟩ := F w mg fa _ KX G.T.g hmg
  exact law_call KX G.T.g G.T.b G.T.builtins G.T.nolimit hg hobj hints (Nat.le_trans hlen hn2) hr hF hb (fun H hO hS => hsp w H a ns hlen hO hS) fun H e s' => hCX w H s₁ e s'
/-- the same where the promise hangs on the written part alone: (sp := My.sp_law), no hole under a binder -/
theorem walk_ofK {l : PySem.W.OpenLaw} {n k : Nat} {q : Program} {loose : List Str} {XP : (Str → Option Value) → Heap → Prop} {YP : World → Heap → Prop} {d : DefRec} {K : Params → PySem.W.Frag} {CX : CXT} {sp : PySem.W.Frag → Sp} {x : Str}
    (hn : l.most = some n) (hn2 : n ≤ sizeLine) (hdf : d.params.defaults = []) (hr : Room k callerA)
    (hY : ∀ (w : World) (h : Heap), YP w h → (K w.params).In h)
    (F : ∀ (w : World) (mg : Str → Option Value) (fa : Addr) (h : Heap), (K w.params).In h → h.Ns mainGlobals mg → mg d.name = some (.ref fa) →
      ∃ fd : FuncData, (∀ (s : Shared) (u : Value), BindsTo s fd ⟨[u], []⟩ [(x, u)]) ∧
        ∀ base : Heap, (K w.params).In base → base.Ns mainGlobals mg → FnOk l.prog w (K w.params) mg base CX k fa fd [x] (sp (K w.params)))
    (hsp : ∀ (K : PySem.W.Frag) (H : Hp) (a : Addr) (ns : List Int), ns.length ≤ n → Only H → SqL K H a (ns.map V.int) → sp K [.ref a] H (fun v _ => v = .bl true) fun _ _ _ => False)
    (hCX : ∀ (H : Hp) (s : Shared) (e : Value) (s' : Shared), CX [] H s (fun _ _ _ => False) e s' → False) :
    PySem.W.WalkO q loose XP YP l.row.toRowW d [] (fun f vs => PySem.call f vs) :=
  walk_of (K := K) (CX := fun _ => CX) (sp := fun w => sp (K w.params)) hn hn2 hdf hr hY F (fun w H a ns h1 h2 h3 => hsp (K w.params) H a ns h1 h2 h3) fun _ H s e s' => hCX H s e s'
end L2

/- THE LAST THEOREM (shape; LID, My.* are yours):
   My.Adr: a structure of the addresses that your layer names (classes, functions); My.Txt K t: a structure (Prop) of the equations over K;
   My.txt_mk : {K} {implicit addresses ..} (e1 : nsIn K mainGlobals "law" = some (some (.ref f))) (e2 : K.lookup f = some ⟨oc, od, .func (fnOf "law" "law" params body scope dV kV doc pm an cdv ct), sl⟩) (e3 : codeIn K cdv "law" = true) .. : ∃ t, My.Txt K t

set_option maxRecDepth 100000 in
set_option maxHeartbeats 0 in
theorem PySem.Challenge.cw_LID_holds : PySem.Challenge.rw_LID.Holds := by
  w_on; o_law; k_head; (case hw => w_witness2)
  k_fill
  refine L2.walk_of (l := PySem.Challenge.rw_LID) (n := 63) (k := 40) (x := "script") (CX := fun w => ..) (sp := fun _ => My.sp_law) rfl (by decide) rfl ⟨rfl, by decide, by decide⟩ (fun w h Y => PySem.W.kIn_of Y) ?F ?S ?C
  case F =>
    intro w mg fa h KX G hmg
    have T : ∃ t, My.Txt (L2.KOf KX) t := by
      dsimp only [L2.KOf]                          -- K must stand as «<heap const> w.params» for k_is
      refine' My.txt_mk ?e1 ?e2 ?e3 ..
      (case e1 => PySem.W.k_is)                    -- in the order: a name -> its address -> its object -> its parts
      (case e2 => PySem.W.k_is)
      ..
    obtain ⟨t, T⟩ := T
    have e0 := hmg.symm.trans (PySem.W.mg_of KX G T.law)
    cases e0                                       -- fa is the law's own address
    exact ⟨_, fun s u => .of_eq rfl, fun base kb nb => My.law_fn T kb nb⟩     -- if «.of_eq rfl» comes too early: refine' ⟨_, ?b, fun base kb nb => My.law_fn T kb nb⟩; exact fun s u => .of_eq rfl
  case S => exact fun w H a ns hl hO hS => ..
  case C => exact ..
(the tactic k_is has no namespace: write k_is) -/

/-! SHORT WORDS over the layer: a def of the text, its body, what a loop and a test want. -/
namespace L2
open PySem PySem.Spec PyProof.Rows

/-! ### the text by places -/
/-- the j-th statement of a class's body -/
def inClass (s : Stmt) (j : Nat) : Stmt := match s with
  | .ClassDef _ _ _ body _ _ _ _ _ _ _ => body.getD j (.Pass ⟨0, 0, 0, 0⟩)
  | _ => .Pass ⟨0, 0, 0, 0⟩
def defArgs (s : Stmt) : Arguments := match s with
  | .FunctionDef _ a _ _ _ _ _ _ _ _ => a
  | _ => { posonlyargs := [], args := [], vararg := none, kwonlyargs := [], kw_defaults := [], kwarg := none, defaults := [] }
def defBody (s : Stmt) : List Stmt := match s with
  | .FunctionDef _ _ b _ _ _ _ _ _ _ => b
  | _ => []
def defScope (s : Stmt) : Scope := match s with
  | .FunctionDef _ _ _ _ _ _ sc _ _ _ => sc
  | _ => { kind := .function, names := [], isGenerator := false, isCoroutine := false }

/-! ### no exception leaves a def -/
abbrev CX0 : CXT := fun _ _ _ _ _ _ => False
abbrev E0 : XK := fun _ _ _ => False
theorem pass0 {X : Cx} : Passes CX0 X E0 := fun _ _ _ _ _ _ _ h => h.elim

/-! ### a def (or method) of the text as it stands behind the top -/
structure Fun (K : PySem.W.Frag) (x qual : Str) (st : Stmt) (f : Addr) (fd : FuncData) : Prop where
  ex : ∃ (oc : Value) (od : Option Addr) (kV doc pm : Value) (an : Option Addr) (cdv ct : Value) (osl : Array (Option Value)),
    fd = PySem.W.fnOf x qual (defArgs st) (defBody st) (defScope st) .none kV doc pm an cdv ct ∧ K.lookup f = some ⟨oc, od, .func fd, osl⟩ ∧ PySem.W.codeIn K cdv qual = true
  kp : PySem.W.keepIn K (.ref f) = true
section
variable {P : Program} {w : World} {K : PySem.W.Frag} {mg : Str → Option Value} {base : Heap}
/-- THE RULE for a def: its body as a term of rules, and the reading of that term -/
theorem Fun.ok {x qual : Str} {st : Stmt} {f : Addr} {fd : FuncData} {N ps : List Str} {k : Nat} {sp : Sp} (F : Fun K x qual st f fd) (S : FnScope N ps (defScope st)) (len : ∀ vs H Q E, sp vs H Q E → vs.length = ps.length)
    (hbody : ∀ (cdv : Value) (A : Around) (outer : List Env) (s : Shared) (H : Hp) (vs : List V) (Q : VK) (E : XK), Room k (A.deeper (envOfC qual (defScope st) s.heap.objs.size f cdv)) → sp vs H Q E →
      ∃ t, PSs (cxOf CX0 P w K mg base N qual (defScope st) f cdv A outer s H E).nox (defBody st) t ∧ t { nx := fun _ H' => Q .non H', rt := Q } (start N vs) H) : FnOk P w K mg base CX0 (k + 1) f fd ps sp := by
  obtain ⟨oc, od, kV, doc, pm, an, cdv, ct, osl, rfl, lk, hcd⟩ := F.ex
  refine fn_of lk hcd S len fun A outer s H vs Q E hr hsp => ?_
  obtain ⟨t, h, q⟩ := hbody cdv A outer s H vs Q E hr hsp
  exact ⟨t, h.nox, q⟩
/-- how its arguments bind (no defaults): h is «fun _ _ _ _ _ _ us hl => match us, hl with | [_, _], _ => rfl», one _ a parameter -/
theorem Fun.binds {x qual : Str} {st : Stmt} {f : Addr} {fd : FuncData} {ps : List Str} (F : Fun K x qual st f fd)
    (h : ∀ (kV doc pm : Value) (an : Option Addr) (cdv ct : Value) (us : List Value), us.length = ps.length → bindArgs (PySem.W.fnOf x qual (defArgs st) (defBody st) (defScope st) .none kV doc pm an cdv ct) ⟨us, []⟩ = pure (ps.zip us)) : Binds K fd ps [] := by
  obtain ⟨oc, od, kV, doc, pm, an, cdv, ct, osl, rfl, lk, hcd⟩ := F.ex
  exact .all (h kV doc pm an cdv ct)
theorem fun_mk {x qual : Str} {st : Stmt} {f : Addr} {oc : Value} {od an : Option Addr} {osl : Array (Option Value)} {kV doc pm cdv ct : Value} (l : K.lookup f = some ⟨oc, od, .func (PySem.W.fnOf x qual (defArgs st) (defBody st) (defScope st) .none kV doc pm an cdv ct), osl⟩)
    (c : PySem.W.codeIn K cdv qual = true) (k : PySem.W.keepIn K (.ref f) = true) : Fun K x qual st f (PySem.W.fnOf x qual (defArgs st) (defBody st) (defScope st) .none kV doc pm an cdv ct) := ⟨⟨oc, od, kV, doc, pm, an, cdv, ct, osl, rfl, l, c⟩, k⟩
end
theorem hu_of {A : Around} {k : Nat} (hr : Room k A) : A.units + 1 < cLine := Nat.lt_of_le_of_lt (Nat.add_le_add_left (by decide : 1 ≤ 64) _) hr.units
theorem small1000 {n : Nat} (h : n ≤ 1000) : n < sizeLine := Nat.lt_of_le_of_lt h (by decide)

/-! ### expressions in short: the name that stands in the i-th slot -/
section
variable {X : Cx}
theorem pv (i : Nat) {x : Str} {pos : Pos} (hN : X.N[i]? = some x := by rfl) (hv : Vis X.env.scope x := by first | exact Or.inl rfl | exact Or.inr (Or.inl rfl) | exact Or.inr (Or.inr rfl)) (hd : (x == ("__debug__" : Str)) = false := by decide)
    (hcd : (x == ("__classdict__" : Str)) = false := by decide) : PE X (.Name x pos) (tVar i) := pe_var hN hv hd hcd
end

/-! ### tests -/
theorem iteF {A B : Prop} (h : B) : if false = true then A else B := by
  rw [if_neg Bool.false_ne_true]
  exact h
theorem iteT {A B : Prop} (h : A) : if true = true then A else B := by
  rw [if_pos rfl]
  exact h
theorem ite2 {c A B : Prop} [Decidable c] (h1 : c → A) (h2 : ¬ c → B) : if c then A else B := by
  by_cases h : c
  · rw [if_pos h]
    exact h1 h
  · rw [if_neg h]
    exact h2 h
theorem iteNS {c A B : Prop} [Decidable c] (hc : c) (h : B) : if (!decide c) = true then A else B := by
  rw [decide_eq_true hc]
  exact iteF h

/-! ### heaps -/
/-- all that was tracked is as it was -/
def Same (H H' : Hp) : Prop := ∀ b o, H b = some o → H' b = some o
theorem Same.refl (H : Hp) : Same H H := fun _ _ h => h
theorem Same.trans {H H1 H2 : Hp} (a : Same H H1) (b : Same H1 H2) : Same H H2 := fun c o h => b c o (a c o h)
theorem Same.free {H H' : Hp} (e : Same H H') {l : Addr} (h : H' l = Option.none) : H l = Option.none := by
  cases q : H l with
  | none => rfl
  | some o =>
    rw [e l o q] at h
    cases h
theorem Same.seq {K : PySem.W.Frag} {H H' : Hp} {a : Addr} {xs : List V} (e : Same H H') (h : SqL K H a xs) : SqL K H' a xs := by
  rcases h with (h | ⟨o, h⟩) | h
  · exact .inl (.inl (e _ _ h))
  · exact .inl (.inr ⟨o, e _ _ h⟩)
  · exact .inr h

section
variable {X : Cx}
/-- len of a dict -/
theorem call_lenD : CallR X (.builtin "len") (fun xs H Q => ∃ a kvs, xs = [V.ref a] ∧ H a = some (.dK kvs) ∧ Q (.int kvs.length) H) := by
  intro pins s σ H xs us Q I r h
  obtain ⟨a, kvs, rfl, ha, q⟩ := h
  obtain ⟨u, rfl, ru⟩ := vals1 r
  cases ru
  exact d_len I (.inl ha) fun t s' I' => ⟨.int kvs.length, H, I', ⟨t, rfl⟩, q⟩
end
/-! ### a dict's pairs: keys that differ -/
section
variable {κ : Type} [DecidableEq κ]
theorem valV_not {kvs : List (κ × V)} {k : κ} (h : valV kvs k = none) : ¬ k ∈ kvs.map (·.1) := by
  intro m
  obtain ⟨p, hp, e⟩ := List.mem_map.mp m
  have q : (kvs.any fun kv => decide (kv.1 = k)) = true := List.any_eq_true.mpr ⟨p, hp, decide_eq_true e⟩
  rw [valV_any, h] at q
  exact absurd q (by simp)
theorem valV_in {kvs : List (κ × V)} {k : κ} {v : V} (h : valV kvs k = some v) : k ∈ kvs.map (·.1) := by
  have q : (kvs.any fun kv => decide (kv.1 = k)) = true := by
    rw [valV_any, h]
    all_goals rfl
  obtain ⟨p, hp, e⟩ := List.any_eq_true.mp q
  exact List.mem_map.mpr ⟨p, hp, of_decide_eq_true e⟩
theorem nd_snoc : ∀ {l : List κ} {k : κ}, l.Nodup → ¬ k ∈ l → (l ++ [k]).Nodup
  | [], k, _, _ => by simp
  | a :: r, k, h, hk => by
    obtain ⟨h1, h2⟩ := List.nodup_cons.mp h
    show (a :: (r ++ [k])).Nodup
    refine List.nodup_cons.mpr ⟨fun m => ?_, nd_snoc h2 fun m => hk (List.mem_cons.mpr (Or.inr m))⟩
    rcases List.mem_append.mp m with q | q
    · exact h1 q
    · exact hk (List.mem_cons.mpr (Or.inl (List.mem_singleton.mp q).symm))
theorem nd_putK {kvs : List (κ × V)} {k : κ} (v : V) (hn : (kvs.map (·.1)).Nodup) (h : valV kvs k = none) : ((putK kvs k v).map (·.1)).Nodup := by
  rw [putK_new v h, List.map_append]
  exact nd_snoc hn (valV_not h)
theorem dropK_pos {p : κ × V} {r : List (κ × V)} {k : κ} (e : p.1 = k) : dropK (p :: r) k = dropK r k := by
  unfold dropK
  rw [List.filter_cons, if_neg (by simp [e])]
theorem dropK_neg {p : κ × V} {r : List (κ × V)} {k : κ} (e : ¬ p.1 = k) : dropK (p :: r) k = p :: dropK r k := by
  unfold dropK
  rw [List.filter_cons, if_pos (by simp [e])]
theorem dropK_no : ∀ {kvs : List (κ × V)} {k : κ}, ¬ k ∈ kvs.map (·.1) → dropK kvs k = kvs
  | [], _, _ => rfl
  | p :: r, k, h => by
    have h' : ¬ k ∈ r.map (·.1) := fun m => by
      obtain ⟨q, hq, e⟩ := List.mem_map.mp m
      exact h (List.mem_map.mpr ⟨q, List.mem_cons.mpr (Or.inr hq), e⟩)
    rw [dropK_neg fun e => h (List.mem_map.mpr ⟨p, List.mem_cons.mpr (Or.inl rfl), e⟩), dropK_no h']
theorem dropK_mem {kvs : List (κ × V)} {k : κ} {p : κ × V} (h : p ∈ dropK kvs k) : p ∈ kvs := (List.mem_filter.mp h).1
theorem nd_dropK : ∀ {kvs : List (κ × V)} {k : κ}, (kvs.map (·.1)).Nodup → ((dropK kvs k).map (·.1)).Nodup
  | [], _, _ => List.nodup_nil
  | p :: r, k, h => by
    have h : (p.1 :: r.map (·.1)).Nodup := h
    obtain ⟨h1, h2⟩ := List.nodup_cons.mp h
    by_cases e : p.1 = k
    · rw [dropK_pos e]
      exact nd_dropK h2
    · rw [dropK_neg e]
      show (p.1 :: (dropK r k).map (·.1)).Nodup
      refine List.nodup_cons.mpr ⟨fun m => h1 ?_, nd_dropK h2⟩
      obtain ⟨q, hq, eq⟩ := List.mem_map.mp m
      exact List.mem_map.mpr ⟨q, dropK_mem hq, eq⟩
theorem dropK_len : ∀ {kvs : List (κ × V)} {k : κ}, (kvs.map (·.1)).Nodup → k ∈ kvs.map (·.1) → (dropK kvs k).length + 1 = kvs.length
  | [], _, _, m => by simp at m
  | p :: r, k, h, m => by
    have h : (p.1 :: r.map (·.1)).Nodup := h
    have m : k = p.1 ∨ k ∈ r.map (·.1) := List.mem_cons.mp m
    obtain ⟨h1, h2⟩ := List.nodup_cons.mp h
    by_cases e : p.1 = k
    · subst e
      rw [dropK_pos rfl, dropK_no h1]
      all_goals rfl
    · have m' : k ∈ r.map (·.1) := m.resolve_left fun z => e z.symm
      have q := dropK_len h2 m'
      rw [dropK_neg e, List.length_cons, List.length_cons]
      omega
end
end L2

set_option Elab.async false
set_option linter.all false
set_option maxRecDepth 100000
set_option maxHeartbeats 4000000
namespace L2
open PySem PySem.Spec PyProof.Rows

/-! ### exceptions of own classes: how one lies behind a call -/
/-- an exception of the class at C has left a call: it flies over a heap B that holds all that the caller knew and all that is tracked, but the frames -/
def CXx (P : Program) (w : World) : CXT := fun outer H s E e s' =>
  ∃ (ea C : Addr) (H' : Hp) (B : Heap) (a0 : Value), e = .ref ea ∧ s'.os = s.os ∧ AllBare s'.gens ∧ Un (frs outer) [] H H' s.heap s'.heap ∧ HOk P w H' s'.heap ∧
    Heap.FlyingW B outer ea (.ref C) a0 s'.heap ∧
    (∀ b o, s'.heap.get? b = some o → b ∉ frs outer → ((∃ o', s.heap.get? b = some o') ∨ H' b ≠ none) → B.get? b = some o) ∧ E (.ref C) none H'

theorem cxx_never {P : Program} {w : World} {X : Cx} : Passes (CXx P w) X E0 := fun _ _ _ _ _ _ _ h => by
  obtain ⟨_, _, _, _, _, _, _, _, _, _, _, _, e⟩ := h
  exact e.elim

section
variable {P : Program} {w : World} {K : PySem.W.Frag} {mg : Str → Option Value} {base : Heap} {N : List Str} {qual : Str} {scope : Scope} {f : Addr} {cd : Value} {A : Around} {outer : List Env} {s₀ : Shared} {H₀ : Hp} {E : XK}
  {pins : List (Addr × Obj)} {σ : St} {H : Hp} {s : Shared}

/-- out of a def's frame -/
theorem cx_leave {B h'' : Heap} {ea C : Addr} {a0 : Value} {s' : Shared} (I : Inv (cxOf (CXx P w) P w K mg base N qual scope f cd A outer s₀ H₀ E) pins σ H s) (ho : s'.os = s.os) (hg : AllBare s'.gens) (hh : s'.heap = h'')
    (hB : ∀ b o, s.heap.get? b = some o → b ∉ frs (cxOf (CXx P w) P w K mg base N qual scope f cd A outer s₀ H₀ E).stack → ((∃ o', s₀.heap.get? b = some o') ∨ H b ≠ none) → B.get? b = some o)
    (fl : Heap.FlyingW B outer ea (.ref C) a0 h'') (up : s.heap.UpToSlots h'') (e : E (.ref C) none H) : CXx P w outer H₀ s₀ E (.ref ea) s' := by
  subst hh
  have st : B.StaysIn s'.heap := fl.1
  have hfs : (cxOf (CXx P w) P w K mg base N qual scope f cd A outer s₀ H₀ E).fs = frs outer := rfl
  have hL : (cxOf (CXx P w) P w K mg base N qual scope f cd A outer s₀ H₀ E).env.locals = s₀.heap.objs.size := rfl
  have stk : frs (cxOf (CXx P w) P w K mg base N qual scope f cd A outer s₀ H₀ E).stack = s₀.heap.objs.size :: frs outer := rfl
  have ba : Un (frs outer) [] H₀ H s₀.heap s.heap := I.base
  have notin : ∀ b o, s₀.heap.get? b = some o → b ∉ frs outer → b ∉ frs (cxOf (CXx P w) P w K mg base N qual scope f cd A outer s₀ H₀ E).stack := fun b o q n z => by
    rw [stk] at z
    rcases List.mem_cons.mp z with z | z
    · exact absurd (Heap.lt_size q) (by rw [z]; exact Nat.lt_irrefl _)
    · exact n z
  have inT : ∀ b o, s.heap.get? b = some o → H b ≠ none → s'.heap.get? b = some o := fun b o q n => st b o (hB b o q (fun z => n (I.stkFree b z)) (.inr n))
  have inO : ∀ b o o', s₀.heap.get? b = some o' → b ∉ frs outer → s.heap.get? b = some o → s'.heap.get? b = some o := fun b o o' q n r => st b o (hB b o r (notin b o' q n) (.inl ⟨o', q⟩))
  have frF : ∀ b, b ∈ frs outer → H₀ b = none := fun b hb => I.ok.frf b hb
  have slot : ∀ b o, s₀.heap.get? b = some o → b ∈ frs outer → ∃ sl, s'.heap.get? b = some { o with slots := sl } := fun b o q hb => by
    obtain ⟨sl, e1⟩ := ba.slot b o q (frF b hb) hb (by simp)
    obtain ⟨_, o2, e2, nf⟩ := I.ok.funs.mem hb
    have e2' : s₀.heap.get? b = some o2 := e2
    rw [q] at e2'; cases e2'
    obtain ⟨sl', e3⟩ := up b _ e1 nf
    exact ⟨sl', e3⟩
  refine ⟨ea, C, H, B, a0, rfl, ho.trans I.os, hg, ⟨fun b o q n hb hx => ?_, fun b o q n hb hx => slot b o q hb, ba.free, fun b o q hx => ?_, ba.tups, ba.frzs, ba.tbls⟩, fun b u q => ?_, fl, fun b o q hb hd => ?_, e⟩
  · exact inO b o o q hb (ba.keep b o q n hb hx)
  · by_cases hb : b ∈ frs outer
    · obtain ⟨sl, e1⟩ := slot b o q hb
      exact ⟨_, e1⟩
    · obtain ⟨o', e1⟩ := ba.there b o q hx
      exact ⟨o', inO b o' o q hb e1⟩
  · refine (I.hok b u q).stay (fun c v hc r => inT c v r ?_) (fun _ z => z) fun _ _ z => z
    rcases hc with z | z
    · rw [z, q]; simp
    · rw [z]; simp
  · rcases hd with ⟨o', q'⟩ | hd
    · obtain ⟨o1, e1⟩ := ba.there b o' q' (by simp)
      have e2 := inO b o1 o' q' hb e1
      rw [q] at e2; cases e2
      exact hB b o e1 (notin b o' q' hb) (.inl ⟨o', q'⟩)
    · have lt := I.hok
      cases r : H b with
      | none => exact absurd r hd
      | some u =>
        obtain ⟨o1, e1⟩ : ∃ o1, s.heap.get? b = some o1 := by
          have := (lt b u r)
          cases u with
          | lst xs => obtain ⟨_, _, _, _, e⟩ := this; exact ⟨_, e⟩
          | tup xs => obtain ⟨_, _, _, o1, e, _⟩ := this; exact ⟨_, e⟩
          | dK kvs => obtain ⟨_, _, _, _, o, _, _, e, _⟩ := this; exact ⟨_, e⟩
          | dT kvs => obtain ⟨_, _, _, _, o, _, _, e, _⟩ := this; exact ⟨_, e⟩
          | set S n => obtain ⟨o, _, _, _, e, _⟩ := this; exact ⟨_, e⟩
          | ins C dx fs => obtain ⟨_, _, _, e, _⟩ := this; exact ⟨_, e⟩
          | own y => exact this
          | xd fs => obtain ⟨_, ⟨_, _, _, e, _⟩, _⟩ := this; exact ⟨_, e⟩
          | rng lo hi => obtain ⟨_, _, _, e⟩ := this; exact ⟨_, e⟩
          | frz ob u => obtain ⟨e, _⟩ := this; exact ⟨_, e⟩
          | tbl ps => exact ⟨_, (show s.heap.get? b = some _ from this)⟩
          | met f y => exact ⟨_, (show s.heap.get? b = some _ from this)⟩
          | ext φ => exact this.2.1
        have e2 := inT b o1 e1 hd
        rw [q] at e2; cases e2
        exact hB b o e1 (fun z => hd (I.stkFree b z)) (.inr hd)

/-- a new exception, just made, leaves a def's frame -/
theorem cx_raise {h' : Heap} {ea C : Addr} {args : List Value} (I : Inv (cxOf (CXx P w) P w K mg base N qual scope f cd A outer s₀ H₀ E) pins σ H s) (hm : Heap.MadeExcOf s.heap h' ea (.ref C) args) (e : E (.ref C) none H) :
    (cxOf (CXx P w) P w K mg base N qual scope f cd A outer s₀ H₀ E).xe (.ref ea) { s with heap := h' } := by
  have fr : s.heap.FunFrames _ (cxOf (CXx P w) P w K mg base N qual scope f cd A outer s₀ H₀ E).stack := I.stack
  refine wpAny_leaves_madeW (base := PySem.W.hideAll s.heap (frs (cxOf (CXx P w) P w K mg base N qual scope f cd A outer s₀ H₀ E).stack)) (h := s.heap) I.ok.frames rfl (fun b o q => PySem.W.of_hideAll _ q)
    (PySem.W.funFrames_hide fr fun env he a ha => List.mem_filterMap.mpr ⟨env, he, ha⟩) hm fun h'' t fl _ _ up => ?_
  exact cx_leave (h'' := h'') I rfl I.bare rfl (fun b o q n _ => PySem.W.hideAll_get _ q n) fl ((Heap.UpToSlots.of_keeps hm.keeps).trans up) e

/-- an exception of a callee goes on -/
theorem cx_pass : Passes (CXx P w) (cxOf (CXx P w) P w K mg base N qual scope f cd A outer s₀ H₀ E) E := fun pins σ H s e s' I h => by
  obtain ⟨ea, C, H', B, a0, rfl, os, bare, un, hok, fl, hB, q⟩ := h
  have I' : Inv (cxOf (CXx P w) P w K mg base N qual scope f cd A outer s₀ H₀ E) pins σ H' s' := I.call' (ch := []) os un hok bare fun b z => absurd z (by simp)
  refine wpAny_leaves_onW I.ok.frames rfl fl fun h'' fl' up => ?_
  refine cx_leave (h'' := h'') I' rfl I'.bare rfl (fun b o r n hd => hB b o r n ?_) fl' up q
  rcases hd with ⟨o', q'⟩ | hd
  · obtain ⟨o1, e1⟩ := I.base.there b o' q' (by exact List.not_mem_nil)
    exact .inl ⟨o1, e1⟩
  · exact .inr hd
end

section
variable {M : Model} {A : Around} {E : Value → Shared → Prop}
variable {nm q : Str} {C N : Addr} {bs bm : List Value} {hdct : Bool} {sn : List Str} {sub : List Value} {ab : Bool} {col : Option Bool} {dd : Option Addr} {k0 k1 k2 k3 k5 : Option Value} {newId : String}
variable {nm' q' : Str} {C' N' : Addr} {bs' bm' : List Value} {hdct' : Bool} {sn' : List Str} {sub' : List Value} {ab' : Bool} {col' : Option Bool} {dd' : Option Addr} {k0' k1' k2' k3' k5' : Option Value} {newId' : String}
/-- does an exception of the own class C match the own class C' -/
theorem em_own {h : Heap} {g : Array GenState} {d : Drawn} {t : Nat} {os : OsState} {e : Addr} {oe : Obj} {Q : Bool → Shared → Prop}
    (hC : h.get? C = some (excClassObj nm q C N bs bm hdct sn sub ab col dd k0 k1 k2 k3 k5 newId)) (he : h.get? e = some oe) (hcls : oe.cls = .ref C)
    (hC' : h.get? C' = some (excClassObj nm' q' C' N' bs' bm' hdct' sn' sub' ab' col' dd' k0' k1' k2' k3' k5' newId')) (hbase : bm'.contains (.type "BaseException") = true)
    (hq : Q ((Value.ref C :: bm).contains (.ref C')) ⟨h, g, d, t, os⟩) : wpAny M A (excMatches (.ref e) (.ref C')) Q E ⟨h, g, d, t, os⟩ := by
  have up : (Value.ref C' :: bm').contains (.type "BaseException") = true := by rw [List.contains_cons, hbase, Bool.or_true]
  have nt := tc_notTuple
  cases hb : (Value.ref C :: bm).contains (.ref C') with
  | true =>
    rw [hb] at hq
    unfold excMatches
    repeat (first | (with_reducible refine wpAny_loadPart_at he ?_; rw [hcls]) | with_reducible refine wpAny_loadPart_at hC' ?_ | (with_reducible refine wpAny_isSubtype_exc hC' ?_; rw [up]) | (with_reducible refine wpAny_isSubtype_exc hC ?_; rw [hb]) | wp_step)
    exact hq
  | false =>
    rw [hb] at hq
    unfold excMatches
    repeat (first | (with_reducible refine wpAny_loadPart_at he ?_; rw [hcls]) | with_reducible refine wpAny_loadPart_at hC' ?_ | (with_reducible refine wpAny_isSubtype_exc hC' ?_; rw [up]) | (with_reducible refine wpAny_isSubtype_exc hC ?_; rw [hb]) | wp_step)
    exact hq
end
/-! ### raise C(..) -/
/-- an own exception class under ValueError: the name x, the class C -/
structure Xe (K : PySem.W.Frag) (C : Addr) : Prop where
  ex : PySem.W.excIn K C [.type "ValueError", .type "Exception", .type "BaseException", .type "object"] "ValueError.__new__" = true
structure Xc (K : PySem.W.Frag) (x : Str) (C : Addr) : Prop extends Xe K C where
  nm : PySem.W.nsIn K mainGlobals x = some (some (.ref C))
theorem top_of {K : PySem.W.Frag} {mg : Str → Option Value} {g : Heap} (P : Program) (M : Mod K mg g) : ∃ loose mb, PySem.W.TopRead P loose mg mb g := by
  obtain ⟨mb, hb, hbb⟩ := M.blt
  obtain ⟨o, es, ep, ho, hd, hk, hm⟩ := id M.glob
  refine ⟨es.toList.filterMap fun e => match e.key with | .str x _ => some x | _ => none, mb, ⟨M.glob, hb, M.nolimit, hbb, fun x _ hx _ _ _ => ?_⟩⟩
  rw [← hm x]
  have no : es.find? (fun e => e.key.isStr x) = none := by
    rw [Array.find?_eq_none]
    intro e he hs
    obtain ⟨n, t, hn⟩ := hk e he
    apply hx
    refine List.mem_filterMap.mpr ⟨e, by simpa using he, ?_⟩
    rw [hn] at hs ⊢
    have : n = x := by simpa [Value.isStr] using hs
    rw [this]
  unfold nsFind findBy
  rw [no]
  rfl
theorem Xc.own {K : PySem.W.Frag} {x : Str} {C : Addr} {mg : Str → Option Value} {g : Heap} (c : Xc K x C) (M : Mod K mg g) (P : Program) : OwnCls x C [.type "ValueError", .type "Exception", .type "BaseException", .type "object"] "ValueError.__new__" mg g := by
  obtain ⟨_, _, T⟩ := top_of P M
  exact PySem.W.own_of_in M.kin T c.nm c.ex
theorem Xc.mg {K : PySem.W.Frag} {x : Str} {C : Addr} {mg : Str → Option Value} {h : Heap} (c : Xc K x C) (X : K.In h) (G : h.Ns mainGlobals mg) : mg x = some (.ref C) := PySem.W.mg_of X G c.nm
/-- the class as it stands: its bases by the fragment's own word -/
theorem Xe.obj {K : PySem.W.Frag} {C : Addr} {h : Heap} (c : Xe K C) (X : K.In h) : ∃ nm q N bs bm hdct sn sub ab col dd k0 k1 k2 k3 k5, h.get? C = some (excClassObj nm q C N bs bm hdct sn sub ab col dd k0 k1 k2 k3 k5 "ValueError.__new__") ∧
    bm.contains (.type "BaseException") = true ∧ ∀ v b, PySem.W.mroIn K C v = some b → (Value.ref C :: bm).contains v = b := by
  have q := c.ex
  unfold PySem.W.excIn at q
  split at q
  · rename_i dd cd sl ho
    split at q
    · rename_i C' bm k0 k1 k2 k3 n k5 hm hs
      simp only [Bool.and_eq_true, beq_iff_eq, Bool.not_eq_true'] at q
      obtain ⟨⟨⟨⟨⟨hc, hn⟩, hdel⟩, ht⟩, hok⟩, hni⟩ := q
      subst hc hn
      obtain ⟨nm, bs, mro, ns, qn, hd, sn, sub, ab, col, del⟩ := cd
      dsimp only at hm hdel hok hni
      subst hm hdel
      obtain rfl : sl = #[k0, k1, k2, k3, some (.builtin "ValueError.__new__"), k5] := by
        obtain ⟨l⟩ := sl
        exact congrArg Array.mk hs
      refine ⟨nm, qn, ns, bs, bm, hd, sn, sub, ab, col, dd, k0, k1, k2, k3, k5, X _ _ ho, (PySem.W.tail_of_in X ht).hasType (by decide), fun v b e => ?_⟩
      unfold PySem.W.mroIn PySem.W.clsIn at e
      rw [ho] at e
      simpa using e
    · cases q
  · cases q

/-- what is wanted of a new exception -/
def XRaise (X : Cx) (E : XK) : Prop := ∀ (pins : List (Addr × Obj)) (σ : St) (H : Hp) (s : Shared) (h' : Heap) (ea C : Addr) (args : List Value), Inv X pins σ H s → Heap.MadeExcOf s.heap h' ea (.ref C) args → E (.ref C) none H → X.xe (.ref ea) { s with heap := h' }
def tRaise (C : Addr) (E : XK) (t : TA) : TS := fun _ σ H => t σ H fun vs H1 => vs.length ≤ sizeLine ∧ E (.ref C) none H1
theorem ps_raise {X : Cx} {E : XK} {x : Str} {C : Addr} {np cpos pos : Pos} {e : Expr} {es : List Expr} {t : TA} (hX : XRaise X E) (c : Xc X.K x C) (hc : X.calm = true) (hg : Gl X x) (ha : PA X (e :: es) t) (hdb : (x == ("__debug__" : Str)) = false := by decide)
    (he : starEach (e :: es) X.env = (false, eval e X.env) :: starEach es X.env := by rfl) (hpl : (backTo cpos (starEach es X.env)).any (·.1) = false := by rfl) :
    PS X (.Raise (some (.Call (.Name x np) (e :: es) [] cpos)) none pos) (tRaise C E t) := by
  intro pins s σ H D I h
  have hm : X.mg x = some (.ref C) := c.mg I.ok.mod.kin I.ok.mod.glob
  obtain ⟨_, tl, N, nm, q, bs, hdct, sn, sub, ab, col, dd, k0, k1, k2, k3, k5, mN, hC, hN, hni, T⟩ := c.own I.ok.mod X.prog
  refine wpAny_Raise_call_subT (C := C) (nm := nm) (q := q) (N := N) (bs := bs) (bm := tl) (hdct := hdct) (sn := sn) (sub := sub) (ab := ab) (col := col) (dd := dd) (k0 := k0) (k1 := k1) (k2 := k2) (k3 := k3) (k5 := k5)
    PySem.F.excBase_ValueError (mN := mN) (T.hasType (by decide)) (I.ok.hd hc) ?_ hni (ld_glob I hg hm ⟨rfl, ?_⟩ hdb)
  · rw [he]
    show (false || (backTo cpos (starEach es X.env)).any (·.1)) = false
    rw [hpl]
    rfl
  · have q := ha cpos pins s σ H _ I h
    rw [he] at q ⊢
    refine Calls.evalArgs_plain (thn q fun us s2 ⟨vs, H2, I2, r2, z2, q2⟩ => ?_)
    exact ⟨rfl, by rw [← r2.length]; exact z2, I2.bk _ _ hC, hN.keeps I2.bk, T.keeps I2.bk, fun h' ea hx => hX pins σ H2 s2 h' ea C us I2 hx q2⟩

/-- a def that may raise: THE RULE -/
theorem Fun.okX {P : Program} {w : World} {K : PySem.W.Frag} {mg : Str → Option Value} {base : Heap} {x qual : Str} {st : Stmt} {f : Addr} {fd : FuncData} {N ps : List Str} {k : Nat} {sp : Sp} (F : Fun K x qual st f fd) (S : FnScope N ps (defScope st)) (len : ∀ vs H Q E, sp vs H Q E → vs.length = ps.length)
    (hbody : ∀ (X : Cx) (cdv : Value) (A : Around) (outer : List Env) (s : Shared) (H : Hp) (vs : List V) (Q : VK) (E : XK), X = cxOf (CXx P w) P w K mg base N qual (defScope st) f cdv A outer s H E → XRaise X E → Passes (CXx P w) X E → Room k (A.deeper (envOfC qual (defScope st) s.heap.objs.size f cdv)) → sp vs H Q E →
      ∃ t, PSs (cxOf (CXx P w) P w K mg base N qual (defScope st) f cdv A outer s H E) (defBody st) t ∧ t { nx := fun _ H' => Q .non H', rt := Q } (start N vs) H) : FnOk P w K mg base (CXx P w) (k + 1) f fd ps sp := by
  obtain ⟨oc, od, kV, doc, pm, an, cdv, ct, osl, rfl, lk, hcd⟩ := F.ex
  refine fn_of lk hcd S len fun A outer s H vs Q E hr hsp => ?_
  exact hbody _ cdv A outer s H vs Q E rfl (fun pins σ H s h' ea C args I hm e => cx_raise I hm e) cx_pass hr hsp
/-- a def that does not raise, called where it might -/
theorem FnOk.toX {P : Program} {w : World} {K : PySem.W.Frag} {mg : Str → Option Value} {base : Heap} {k : Nat} {f : Addr} {fd : FuncData} {ps : List Str} {sp : Sp} {CX : CXT} (F : FnOk P w K mg base CX0 k f fd ps sp) : FnOk P w K mg base CX k f fd ps sp :=
  ⟨F.len, fun A outer s H args us vs Q E hr he hb hv hs => codeAny_mono (F.run A outer s H args us vs Q E hr he hb hv hs) fun r s' h => by
    cases r with
    | error e => exact False.elim h
    | ok fl =>
      cases fl with
      | ret u => exact h
      | next => exact False.elim h
      | brk => exact False.elim h
      | cont => exact False.elim h⟩
theorem PS.nox {X : Cx} {st : Stmt} {t : TS} (h : PS X.nox st t) : PS X st t := fun pins s σ H D I hw =>
  wpAny_mono (h pins s σ H D (I.wish _) hw) (fun _ _ q => q.unwish) fun _ _ z => False.elim z
theorem PA.nox {X : Cx} {es : List Expr} {t : TA} (h : PA X.nox es t) : PA X es t := fun pos pins s σ H Q I hw =>
  wpAny_mono (h pos pins s σ H Q (I.wish _) hw) (fun _ _ ⟨v, H', I', r, q⟩ => ⟨v, H', I'.unwish, r, q⟩) fun _ _ z => False.elim z

/-! ### a call within a try: what it knows when it leaves by an exception -/
def XIn (X : Cx) (pins : List (Addr × Obj)) (σ : St) (E : XK) (e : Value) (s' : Shared) : Prop := ∃ s H, Inv X pins σ H s ∧ CXx X.prog X.w X.stack H s E e s'
abbrev TB := XK → TS
/-- a try's body (it stores nothing ahead of a raise) -/
def PB (X : Cx) (body : List Stmt) (t : TB) : Prop :=
  ∀ (E : XK) (pins : List (Addr × Obj)) (s : Shared) (σ : St) (H : Hp) (D : Ends), Inv X pins σ H s → t E D σ H → wpAny (model X.prog X.w) X.A (execs body X.env) (SP X pins D) (XIn X pins σ E) s
section
variable {X : Cx} {k : Nat} {f : Addr} {fd : FuncData} {ps : List Str} {sp : Sp} {dvs : List V} {ds : List Value} {x : Str} {p pos : Pos} {e : Expr} {es : List Expr} {t : TA}
theorem call_in {E : XK} {pins : List (Addr × Obj)} {s : Shared} {σ : St} {H : Hp} {Q : VK} (F : FnOk X.prog X.w X.K X.mg X.base (CXx X.prog X.w) k f fd ps sp) (hr : Room k X.A) (hg : Gl X x) (hm : X.mg x = some (.ref f)) (hk : PySem.W.keepIn X.K (.ref f) = true) (hb : Binds X.K fd ps ds) (hd : Vals dvs ds)
    (ha : PA X.nox (e :: es) t) (I : Inv X pins σ H s) (h : t σ H fun vs H1 => sp (vs ++ dvs) H1 Q E) (hdb : (x == ("__debug__" : Str)) = false := by decide) (he : starEach (e :: es) X.env = (false, eval e X.env) :: starEach es X.env := by rfl) (hpl : (backTo pos (starEach es X.env)).any (·.1) = false := by rfl) :
    wpAny (model X.prog X.w) X.A (eval (.Call (.Name x p) (e :: es) [] pos) X.env) (EP X pins σ Q) (XIn X pins σ E) s := by
  refine wpAny_Call_Name_kw (ld_glob I hg hm ?_ hdb)
  refine PySem.W.callWith_K (h₀ := X.base) I.ok.mod.kin hk (wpAny_mono (ha pos pins s σ H _ (I.wish _) h) (fun us s1 ⟨vs, H1, I1, r, q⟩ => ⟨I1.kIn, ?_⟩) fun _ _ z => False.elim z) he hpl
  have J : Inv X pins σ H1 s1 := I1.unwish
  have r2 : Vals (vs ++ dvs) (us ++ ds) := r.append hd
  have hl : (us ++ ds).length = ps.length := by rw [← r2.length]; exact F.len _ _ _ _ q
  refine wpAny_call (codeAny_mono (F.run X.A X.stack s1 H1 ⟨us, []⟩ (us ++ ds) (vs ++ dvs) Q E hr J.env0 (hb s1 us J.kIn hl) r2 q) fun r s' hq => ?_)
  cases r with
  | error e => exact ⟨s1, H1, J, hq⟩
  | ok fl =>
    cases fl with
    | ret u => exact J.after hq
    | next => exact False.elim hq
    | brk => exact False.elim hq
    | cont => exact False.elim hq
/-- f(..), dropped -/
def tbCall (sp : Sp) (dvs : List V) (t : TA) : TB := fun E D σ H => t σ H fun vs H1 => sp (vs ++ dvs) H1 (fun _ H2 => D.nx σ H2) E
theorem pb_call {pos' : Pos} (F : FnOk X.prog X.w X.K X.mg X.base (CXx X.prog X.w) k f fd ps sp) (hr : Room k X.A) (hg : Gl X x) (hm : X.mg x = some (.ref f)) (hk : PySem.W.keepIn X.K (.ref f) = true) (hb : Binds X.K fd ps ds) (hd : Vals dvs ds)
    (ha : PA X.nox (e :: es) t) (hdb : (x == ("__debug__" : Str)) = false := by decide) (he : starEach (e :: es) X.env = (false, eval e X.env) :: starEach es X.env := by rfl) (hpl : (backTo pos (starEach es X.env)).any (·.1) = false := by rfl)
    (hs : swapsWith (.Call (.Name x p) (e :: es) [] pos) none pos'.line X.env = pure false := by rfl) : PB X [.Expr (.Call (.Name x p) (e :: es) [] pos) pos'] (tbCall sp dvs t) := by
  intro E pins s σ H D I h
  refine wpAny_execs_cons (wpAny_Expr_any (thn (call_in F hr hg hm hk hb hd ha I h hdb he hpl) fun v s1 ⟨y, H1, I1, r1, q1⟩ => ?_) I.quiet hs)
  exact wpAny_execs_nil ⟨σ, H1, I1, q1⟩
/-- y = f(..) -/
def tbSet (i : Nat) (sp : Sp) (dvs : List V) (t : TA) : TB := fun E D σ H => t σ H fun vs H1 => sp (vs ++ dvs) H1 (fun v H2 => D.nx (σ.set i (some v)) H2) E
theorem pb_set {i : Nat} {y : Str} {py pos' : Pos} (hN : X.N.Nodup) (hi : X.N[i]? = some y) (hy : Loc X.env.scope y) (F : FnOk X.prog X.w X.K X.mg X.base (CXx X.prog X.w) k f fd ps sp) (hr : Room k X.A) (hg : Gl X x) (hm : X.mg x = some (.ref f)) (hk : PySem.W.keepIn X.K (.ref f) = true) (hb : Binds X.K fd ps ds) (hd : Vals dvs ds)
    (ha : PA X.nox (e :: es) t) (hdb : (x == ("__debug__" : Str)) = false := by decide) (he : starEach (e :: es) X.env = (false, eval e X.env) :: starEach es X.env := by rfl) (hpl : (backTo pos (starEach es X.env)).any (·.1) = false := by rfl)
    (hs : swapsWith (.Call (.Name x p) (e :: es) [] pos) (some (.Name y py)) pos'.line X.env = pure false := by rfl) (hf : X.fn y = true ∨ X.env.scope.names.lookup y = some .local := by first | exact .inl rfl | exact .inr rfl | assumption) :
    PB X [.Assign [.Name y py] (.Call (.Name x p) (e :: es) [] pos) pos'] (tbSet i sp dvs t) := by
  intro E pins s σ H D I h
  refine wpAny_execs_cons (wpAny_Assign_Name (thn (call_in F hr hg hm hk hb hd ha I h hdb he hpl) fun v s1 ⟨z, H1, I1, r1, q1⟩ => ?_) hs)
  exact store_ok I1 hN hi hy r1 (fun s2 I2 => wpAny_execs_nil ⟨_, H1, I2, q1⟩) hf
/-- if c: .. else: .. -/
def tbIf (tc : TT) (ta tb : TB) : TB := fun E D σ H => tc σ H fun b H1 => if b = true then ta E D σ H1 else tb E D σ H1
theorem pb_if {c : Expr} {a b : List Stmt} {tc : TT} {ta tb : TB} {pos : Pos} (hc : PT X.nox c tc) (ha : PB X a ta) (hb : PB X b tb) : PB X [.If c a b pos] (tbIf tc ta tb) := by
  intro E pins s σ H D I h
  refine wpAny_execs_cons (wpAny_If (wpAny_mono (hc pins s σ H _ (I.wish _) h) (fun d s1 ⟨H1, I1, q1⟩ => ?_) fun _ _ z => False.elim z))
  have fin : ∀ (bd : List Stmt) (tt : TB), PB X bd tt → tt E D σ H1 → wpAny (model X.prog X.w) X.A (execs bd X.env) (fun f s2 => match f with | .next => wpAny (model X.prog X.w) X.A (execs [] X.env) (SP X pins D) (XIn X pins σ E) s2 | f => SP X pins D f s2) (XIn X pins σ E) s1 := fun bd tt hd q =>
    thn (hd E pins s1 σ H1 D I1.unwish q) fun f s2 q2 => by
      cases f with
      | next => exact wpAny_execs_nil q2
      | ret v => exact q2
      | brk => exact q2
      | cont => exact q2
  cases d with
  | true => exact fin a ta ha q1
  | false => exact fin b tb hb q1
end

/-! ### what of the heap an invariant leans on, while an exception flies -/
def Hold (X : Cx) (pins : List (Addr × Obj)) (H : Hp) (B : Heap) (s : Shared) : Prop := ∀ b o, s.heap.get? b = some o → b ∉ frs X.stack →
  (((∃ o', X.s₀.heap.get? b = some o') ∧ b ∉ X.ex) ∨ H b ≠ none ∨ (∃ x, X.env.cells.lookup x = some b) ∨ ∃ p ∈ X.pn ++ pins, p.1 = b) → B.get? b = some o
section
variable {X : Cx} {pins : List (Addr × Obj)} {σ : St} {H : Hp} {s : Shared} {B h' : Heap}
theorem HOk.there {P : Program} {w : World} {h : Heap} {b : Addr} {u : HO} (x : HOk P w H h) (r : H b = some u) : ∃ o, h.get? b = some o := by
  have q := x b u r
  cases u with
  | lst xs => obtain ⟨_, _, _, _, e⟩ := q; exact ⟨_, e⟩
  | tup xs => obtain ⟨_, _, _, o1, e, _⟩ := q; exact ⟨_, e⟩
  | dK kvs => obtain ⟨_, _, _, _, o, _, _, e, _⟩ := q; exact ⟨_, e⟩
  | dT kvs => obtain ⟨_, _, _, _, o, _, _, e, _⟩ := q; exact ⟨_, e⟩
  | set S n => obtain ⟨o, _, _, _, e, _⟩ := q; exact ⟨_, e⟩
  | ins C dx fs => obtain ⟨_, _, _, e, _⟩ := q; exact ⟨_, e⟩
  | own y => exact q
  | xd fs => obtain ⟨_, ⟨_, _, _, e, _⟩, _⟩ := q; exact ⟨_, e⟩
  | rng lo hi => obtain ⟨_, _, _, e⟩ := q; exact ⟨_, e⟩
  | frz ob u => obtain ⟨e, _⟩ := q; exact ⟨_, e⟩
  | tbl ps => exact ⟨_, (show h.get? b = some _ from q)⟩
  | met f y => exact ⟨_, (show h.get? b = some _ from q)⟩
  | ext φ => exact q.2.1
theorem Inv.offstack (I : Inv X pins σ H s) {b : Addr} (h1 : b ≠ X.env.locals) (h2 : b ∉ X.fs) : b ∉ frs X.stack := fun z => (List.mem_cons.mp (I.stkSub b z)).elim h1 h2
/-- the heap turns under a flying exception -/
theorem Inv.fly (I : Inv X pins σ H s) (hB : Hold X pins H B s) (st : B.StaysIn h') (up : s.heap.UpToSlots h') : Inv X pins σ H { s with heap := h' } := by
  have old : ∀ b o', X.s₀.heap.get? b = some o' → b ≠ X.env.locals := fun b o' q => Nat.ne_of_lt (Nat.lt_of_lt_of_le (Heap.lt_size q) I.ok.above)
  have inO : ∀ b o o', X.s₀.heap.get? b = some o' → b ∉ X.ex → b ∉ X.fs → s.heap.get? b = some o → h'.get? b = some o := fun b o o' q nx n r => st b o (hB b o r (I.offstack (old b o' q) n) (.inl ⟨⟨o', q⟩, nx⟩))
  have slot : ∀ b o o', X.s₀.heap.get? b = some o' → b ∉ X.ex → b ∈ X.fs → s.heap.get? b = some o → ∃ sl, h'.get? b = some { o with slots := sl } := fun b o o' q nx hb r => by
    obtain ⟨sl, e1⟩ := I.base.slot b o' q (I.ok.frf b hb) hb nx
    rw [r] at e1; cases e1
    obtain ⟨_, o2, e2, nf⟩ := I.ok.funs.mem hb
    rw [q] at e2; cases e2
    obtain ⟨sl', e3⟩ := up b _ r nf
    exact ⟨sl', e3⟩
  have cellK : ∀ x c, X.env.cells.lookup x = some c → ∀ v, s.heap.IsCell c v → h'.IsCell c v := fun x c e v ⟨o, ho, hd⟩ => by
    by_cases hc : c ∈ frs X.stack
    · obtain ⟨_, o2, e2, nf⟩ := I.stack.mem hc
      rw [ho] at e2; cases e2
      obtain ⟨sl, e3⟩ := up c o ho nf
      exact ⟨_, e3, hd⟩
    · exact ⟨o, st c o (hB c o ho hc (.inr (.inr (.inl ⟨x, e⟩)))), hd⟩
  have pinK : ∀ p ∈ X.pn ++ pins, h'.get? p.1 = some p.2 := fun p hp => by
    obtain ⟨e, n, ne, nf, d⟩ := I.pin p hp
    exact st _ _ (hB _ _ e (I.offstack ne nf) (.inr (.inr (.inr ⟨p, hp, rfl⟩))))
  refine ⟨I.ok, I.os, I.bare, ⟨fun b o q n hb hx => inO b o o q hx hb (I.base.keep b o q n hb hx), fun b o q n hb hx => ?_, I.base.free, fun b o q hx => ?_, I.base.tups, I.base.frzs, I.base.tbls⟩, ?_, fun x c e => ?_, I.free, I.freeC, fun p hp => ?_, fun b u q => ?_, I.len⟩
  · obtain ⟨sl, e1⟩ := I.base.slot b o q n hb hx
    obtain ⟨sl', e2⟩ := slot b _ o q hx hb e1
    exact ⟨sl', e2⟩
  · obtain ⟨o', e1⟩ := I.base.there b o q hx
    by_cases hb : b ∈ X.fs
    · obtain ⟨sl, e2⟩ := slot b o' o q hx hb e1
      exact ⟨_, e2⟩
    · exact ⟨o', inO b o' o q hx hb e1⟩
  · obtain ⟨m, hn, hl⟩ := I.loc
    refine ⟨m, up.ns hn, fun i x v e1 e2 e3 => ?_⟩
    obtain ⟨u, r, l⟩ := hl i x v e1 e2 e3
    refine ⟨u, r, ?_⟩
    rcases l with l | ⟨k, c, e, z⟩
    · exact .inl l
    · exact .inr ⟨k, c, e, cellK x c e _ z⟩
  · obtain ⟨v, z⟩ := I.cell x c e
    exact ⟨v, cellK x c e v z⟩
  · obtain ⟨e, r⟩ := I.pin p hp
    exact ⟨pinK p hp, r⟩
  · refine (I.hok b u q).stay (fun c v hc r => ?_) (fun _ z => z) fun _ _ z => z
    have hn : H c ≠ none := by
      rcases hc with z | z
      · rw [z, q]; simp
      · rw [z]; simp
    exact st c v (hB c v r (fun z => hn (I.stkFree c z)) (.inr (.inl hn)))
theorem Hold.fly (I : Inv X pins σ H s) (hB : Hold X pins H B s) (st : B.StaysIn h') : Hold X pins H B { s with heap := h' } := fun b o q n d => by
  obtain ⟨o1, e1⟩ : ∃ o1, s.heap.get? b = some o1 := by
    rcases d with ⟨⟨o', q'⟩, nx⟩ | d | ⟨x, d⟩ | ⟨p, hp, d⟩
    · exact I.base.there b o' q' nx
    · cases r : H b with
      | none => exact absurd r d
      | some u => exact I.hok.there r
    · obtain ⟨v, o1, e, _⟩ := I.cell x b d
      exact ⟨o1, e⟩
    · exact ⟨p.2, by rw [← d]; exact (I.pin p hp).1⟩
  have e2 := hB b o1 e1 n d
  have e3 := st b o1 e2
  have q' : h'.get? b = some o := q
  rw [q'] at e3
  cases e3
  exact e2
end

/-! ### except -/
/-- within an except suite -/
abbrev Cx.marked (X : Cx) (ea : Addr) : Cx := { X with A := X.A.mark (some (.ref ea)), calm := false, xe := fun _ _ => False }
section
variable {X : Cx} {pins : List (Addr × Obj)} {σ : St} {H : Hp} {s : Shared} {ea : Addr}
theorem Inv.marked (I : Inv X pins σ H s) (ea : Addr) : Inv (X.marked ea) pins σ H s :=
  ⟨⟨I.ok.mod, I.ok.kind, I.ok.glob, I.ok.blt, I.ok.above, I.ok.inj, I.ok.has, I.ok.cab, (fun z => absurd (show false = true from z) Bool.false_ne_true), I.ok.frames, I.ok.stk, I.ok.exf, I.ok.bs, I.ok.bsz, I.ok.noex, I.ok.exfs, I.ok.funs, I.ok.frf⟩, I.os, I.bare, I.base, I.loc, I.cell, I.free, I.freeC, I.pin, I.hok, I.len⟩
theorem Inv.unmark (hd : X.calm = true → X.A.handled = none) (I : Inv (X.marked ea) pins σ H s) : Inv X pins σ H s :=
  ⟨⟨I.ok.mod, I.ok.kind, I.ok.glob, I.ok.blt, I.ok.above, I.ok.inj, I.ok.has, I.ok.cab, hd, I.ok.frames, I.ok.stk, I.ok.exf, I.ok.bs, I.ok.bsz, I.ok.noex, I.ok.exfs, I.ok.funs, I.ok.frf⟩, I.os, I.bare, I.base, I.loc, I.cell, I.free, I.freeC, I.pin, I.hok, I.len⟩
theorem SP.unmark {D : Ends} {f : Flow} {s' : Shared} (hd : X.calm = true → X.A.handled = none) (h : SP (X.marked ea) pins D f s') : SP X pins D f s' := by
  cases f with
  | next => obtain ⟨σ', H', I, q⟩ := h; exact ⟨σ', H', I.unmark hd, q⟩
  | brk => obtain ⟨σ', H', I, q⟩ := h; exact ⟨σ', H', I.unmark hd, q⟩
  | cont => obtain ⟨σ', H', I, q⟩ := h; exact ⟨σ', H', I.unmark hd, q⟩
  | ret u => obtain ⟨v, σ', H', I, r, q⟩ := h; exact ⟨v, σ', H', I.unmark hd, r, q⟩
end

abbrev TH := Addr → Addr → TS
/-- the clauses of a try, for an exception of the class C at ea -/
def PH (X : Cx) (hs : List ExceptHandler) (t : TH) : Prop :=
  ∀ (pins : List (Addr × Obj)) (s : Shared) (σ : St) (H : Hp) (D : Ends) (C ea : Addr) (B : Heap) (a0 : Value), Inv X pins σ H s → Heap.FlyingW B X.stack ea (.ref C) a0 s.heap → Hold X pins H B s → t C ea D σ H →
    wpAny (model X.prog X.w) X.A (handleBy (.ref ea) X.env hs) (SP X pins D) (fun _ _ => False) s
def thNone : TH := fun _ _ _ _ _ => False
theorem ph_nil {X : Cx} : PH X [] thNone := fun _ _ _ _ _ _ _ _ _ _ _ _ h => h.elim
/-- except x: suite -/
def thCons (K : PySem.W.Frag) (C' : Addr) (ts : TS) (tr : TH) : TH := fun C ea D σ H => Xe K C ∧ ∃ b, PySem.W.mroIn K C (.ref C') = some b ∧ if b = true then ts D σ H else tr C ea D σ H
theorem ph_cons {X : Cx} {x : Str} {C' : Addr} {np hpos : Pos} {b₀ : Stmt} {suite : List Stmt} {rest : List ExceptHandler} {ts : TS} {tr : TH} (c : Xc X.K x C') (hg : Gl X x) (hs : ∀ ea, PSs (X.marked ea) (b₀ :: suite) ts) (hr : PH X rest tr) (hdb : (x == ("__debug__" : Str)) = false := by decide) :
    PH X (.ExceptHandler (some (.Name x np)) none (b₀ :: suite) hpos :: rest) (thCons X.K C' ts tr) := by
  intro pins s σ H D C ea B a0 I fl hB h
  obtain ⟨xe, b, mb, h⟩ := h
  have Im := I.marked ea
  have hm : X.mg x = some (.ref C') := c.mg I.ok.mod.kin I.ok.mod.glob
  refine wpAny_handleBy_cons (codeAny_handlers_test (ld_glob (X := X.marked ea) Im hg hm ?_ hdb)) (by intro q; cases q)
  obtain ⟨nm, q, N, bs, bm, hdct, sn, sub, ab, col, dd, k0, k1, k2, k3, k5, hC, _, hmro⟩ := xe.obj I.kIn
  obtain ⟨nm', q', N', bs', bm', hdct', sn', sub', ab', col', dd', k0', k1', k2', k3', k5', hC', hbase', _⟩ := c.toXe.obj I.kIn
  obtain ⟨oe, hoe, hoc⟩ := fl.there
  obtain ⟨hh, g, d, tk, os⟩ := s
  refine em_own hC hoe hoc hC' hbase' ?_
  rw [hmro _ _ mb]
  cases b with
  | true =>
    rw [if_pos rfl] at h
    refine codeAny_handlers_suite ?_
    refine lands_againW fl fun h₆ fl₆ up₆ => ?_
    have I6 := I.fly hB fl₆.1 up₆
    exact wpAny_mono (hs ea pins _ σ H D (I6.marked ea) h) (fun f s2 q2 => q2.unmark I.ok.hd) fun _ _ z => False.elim z
  | false =>
    rw [if_neg Bool.false_ne_true] at h
    exact hr pins _ σ H D C ea B a0 I fl hB h

/-! ### try -/
def tTry (tb : TB) (th : TH) : TS := fun D σ H => ∃ E : XK, tb E D σ H ∧ ∀ C ea H', E (.ref C) none H' → H' ea = none → th C ea D σ H'
theorem ps_try {X : Cx} {body : List Stmt} {h₀ : ExceptHandler} {hs : List ExceptHandler} {tb : TB} {th : TH} {pos : Pos} (hx : X.xe = fun _ _ => False) (fr : X.stack = X.env :: X.outer ∧ X.env.frame = some X.env.locals) (hb : PB X body tb) (hh : PH X (h₀ :: hs) th) :
    PS X (.Try body (h₀ :: hs) [] [] pos) (tTry tb th) := by
  intro pins s σ H D I h
  obtain ⟨E, h1, h2⟩ := h
  rw [hx]
  refine wpAny_Try_except (wpAny_mono (hb E pins s σ H D I h1) (fun f s1 q => ?_) fun e s1 q => ?_)
  · cases f with
    | next => exact wpAny_execs_nil q
    | ret v => exact q
    | brk => exact q
    | cont => exact q
  · obtain ⟨s2, H2, I2, ea, C, H', B, a0, rfl, os, bare, un, hok, fl, kB, qE⟩ := q
    have J : Inv X pins σ H' s1 := I2.call' (ch := []) os un hok bare fun b z => absurd z (by simp)
    have hB : Hold X pins H' B s1 := fun b o q n d => kB b o q n (by
      rcases d with ⟨⟨o', q'⟩, nx⟩ | d | ⟨x, d⟩ | ⟨p, hp, d⟩
      · exact .inl (I2.base.there b o' q' nx)
      · exact .inr d
      · obtain ⟨v, o1, e, _⟩ := I2.cell x b d
        exact .inl ⟨o1, e⟩
      · exact .inl ⟨p.2, by rw [← d]; exact (I2.pin p hp).1⟩)
    have hf : X.A.frames = some (X.env :: X.outer) := by rw [← fr.1]; exact I.ok.frames
    have fl' : Heap.FlyingW B (X.env :: X.outer) ea (.ref C) a0 s1.heap := by rw [← fr.1]; exact fl
    refine wpAny_looks_onW hf fr.2 fl' fun h4 hl4 up4 => ?_
    refine wpAny_landsW hl4 fun h5 fl5 up5 => ?_
    have J4 := J.fly hB fl5.1 (up4.trans up5)
    have hB4 := hB.fly J fl5.1
    have hea : H' ea = none := by
      cases r : H' ea with
      | none => rfl
      | some u =>
        obtain ⟨o, e⟩ := hok.there r
        have := kB ea o e (fun z => by have := J.stkFree ea z; rw [r] at this; cases this) (.inr (by rw [r]; simp))
        rw [fl.2.1] at this
        cases this
    exact hh pins _ σ H' D C ea B a0 J4 (by rw [fr.1]; exact fl5) hB4 (h2 C ea H' qE hea)
end L2

set_option Elab.async false
set_option linter.all false
set_option maxRecDepth 100000
set_option maxHeartbeats 4000000
namespace L2
open PySem PySem.Spec PyProof.Rows

/-! ### a list comprehension with one for, and at most one if -/
def PTs (X : Cx) (ifs : List Expr) (t : TT) : Prop :=
  ∀ (pins : List (Addr × Obj)) (s : Shared) (σ : St) (H : Hp) (Q : Bool → Hp → Prop), Inv X pins σ H s → t σ H Q →
    wpAny (model X.prog X.w) X.A (forIn ifs true fun c r => if r = true then do let ok ← isTrue c X.env (eval c X.env); pure (ForInStep.yield ok) else pure (ForInStep.yield r)) (TP X pins σ Q) X.xe s
def tTrue : TT := fun _ H Q => Q true H
theorem pts_nil {X : Cx} : PTs X [] tTrue := fun _ _ _ H _ I h => wpAny_pure ⟨H, I, h⟩
theorem pts_one {X : Cx} {c : Expr} {t : TT} (ht : PT X c t) : PTs X [c] t := by
  intro pins s σ H Q I h
  rw [List.forIn_cons]
  refine wpAny_bind ?_
  rw [if_pos rfl]
  exact wpAny_bind (thn (ht pins s σ H Q I h) fun b s1 q => wpAny_pure (wpAny_pure q))

/-- the comprehension's block as a context -/
def Cx.blk (X : Cx) (scope : Scope) (cl : List (Str × Addr)) (C : Addr) (Nb : List Str) (s₁ : Shared) (H₁ : Hp) (ex : List Addr) : Cx :=
  { X with env := compEnvC scope cl C X.env, N := Nb, s₀ := s₁, H₀ := H₁, outer := X.stack, stack := X.stack, ex := ex, fn := fun _ => false, pn := [], xe := fun _ _ => False }

/-- what of the text the rule asks: x the name that walks, ys the names taken from around, at the places js there -/
structure CompS (X : Cx) (scope : Scope) (cl : List (Str × Addr)) (x : Str) (ys : List Str) (js : List Nat) : Prop where
  kind : scope.kind = .function
  nocell : ∀ y ∈ scope.names, y.2 ≠ .cell
  names : ∀ y ∈ scope.names, y.2 = .local → scope.names.lookup y.1 = some .local
  loc : scope.names.lookup x = some .local
  clos : closureFor scope X.env = pure cl
  sub : ∀ p ∈ cl, X.env.cells.lookup p.1 = some p.2
  has : (scope.names.all fun p => (p.2 != .cell) && (p.2 != .free || cl.any fun q => p.1 == q.1)) = true
  nd : (x :: ys).Nodup
  at_ : (js.map fun j => X.N[j]?) = ys.map some
  cap : ∀ y ∈ ys, X.env.scope.names.lookup y = some .cell ∧ (relabel scope X.env).names.lookup y = some .cell

theorem mem_relabel {scope : Scope} {env : Env} {n : Str} {k : NameKind} (h : (n, k) ∈ (relabel scope env).names) : ∃ k', (n, k') ∈ scope.names ∧ (k' = k ∨ (k' = .free ∧ k = .cell)) := by
  unfold relabel at h
  obtain ⟨⟨n', k'⟩, hm, e⟩ := List.mem_map.mp h
  dsimp only at e
  split at e
  · rename_i c
    cases e
    simp only [Bool.and_eq_true, beq_iff_eq] at c
    exact ⟨k', hm, .inr ⟨c.1.1, rfl⟩⟩
  · cases e
    exact ⟨k, hm, .inl rfl⟩
theorem any_lookup : ∀ {cl : List (Str × Addr)} {n : Str}, (cl.any fun q => n == q.1) = true → ∃ c, cl.lookup n = some c
  | [], _, h => by simp at h
  | (a, c) :: r, n, h => by
    cases e : n == a with
    | true => exact ⟨c, by simp [List.lookup_cons, e]⟩
    | false =>
      simp only [List.any_cons, e, Bool.false_or] at h
      obtain ⟨c', q⟩ := any_lookup h
      exact ⟨c', by simp [List.lookup_cons, e, q]⟩
section
variable {X : Cx} {scope : Scope} {cl : List (Str × Addr)} {x : Str} {ys : List Str} {js : List Nat}
theorem CompS.sub' (S : CompS X scope cl x ys js) {n : Str} {c : Addr} (h : cl.lookup n = some c) : X.env.cells.lookup n = some c := S.sub (n, c) (PySem.mem_of_lookup h)
theorem CompS.has' (S : CompS X scope cl x ys js) {n : Str} (h : (relabel scope X.env).names.lookup n = some .cell ∨ (relabel scope X.env).names.lookup n = some .free) : ∃ c, cl.lookup n = some c := by
  have go : ∀ k, (k = NameKind.cell ∨ k = NameKind.free) → (n, k) ∈ (relabel scope X.env).names → ∃ c, cl.lookup n = some c := fun k hk hm => by
    obtain ⟨k', hm', e⟩ := mem_relabel hm
    have q := List.all_eq_true.mp S.has (n, k') hm'
    simp only [Bool.and_eq_true, Bool.or_eq_true, bne_iff_ne, ne_eq] at q
    have hf : k' = .free := by
      rcases e with e | e
      · rcases hk with z | z
        · exact absurd (e.trans z) q.1
        · exact e.trans z
      · exact e.1
    rcases q.2 with z | z
    · exact absurd hf z
    · exact any_lookup z
  rcases h with h | h
  · exact go _ (.inl rfl) (PySem.mem_of_lookup h)
  · exact go _ (.inr rfl) (PySem.mem_of_lookup h)
theorem CompS.place (S : CompS X scope cl x ys js) {i : Nat} {y : Str} (h : ys[i]? = some y) : ∃ j, js[i]? = some j ∧ X.N[j]? = some y := by
  have e := congrArg (fun l : List (Option Str) => l[i]?) S.at_
  rw [List.getElem?_map, List.getElem?_map, h] at e
  cases q : js[i]? with
  | none => rw [q] at e; cases e
  | some j =>
    rw [q] at e
    exact ⟨j, rfl, Option.some.inj e⟩
theorem CompS.len (S : CompS X scope cl x ys js) : js.length = ys.length := by
  have e := congrArg List.length S.at_
  rwa [List.length_map, List.length_map] at e
end

/-- the values that the block takes from around -/
def capd (σ : St) (js : List Nat) : St := js.map fun j => (σ[j]?).getD none
theorem capd_get {σ : St} {js : List Nat} {i : Nat} {v : V} (h : (capd σ js)[i]? = some (some v)) : ∃ j, js[i]? = some j ∧ σ[j]? = some (some v) := by
  unfold capd at h
  rw [List.getElem?_map] at h
  cases q : js[i]? with
  | none => rw [q] at h; cases h
  | some j =>
    rw [q] at h
    refine ⟨j, rfl, ?_⟩
    have h' : (σ[j]?).getD none = some v := Option.some.inj h
    cases r : σ[j]? with
    | none => rw [r] at h'; cases h'
    | some o => rw [r] at h'; exact congrArg some h'

section
variable {X : Cx} {pins : List (Addr × Obj)} {σ : St} {H : Hp} {s : Shared} {scope : Scope} {cl : List (Str × Addr)} {x : Str} {ys : List Str} {js : List Nat}
/-- into the block -/
theorem Inv.blk {h₁ : Heap} {tk : Nat} {m : Str → Option Value} {fp : List Addr} (I : Inv X pins σ H s) (S : CompS X scope cl x ys js) (hf : ∀ b ∈ fp, FpOk X pins H b) (hfl : ∀ b ∈ fp, b < s.heap.objs.size)
    (hn : h₁.Ns s.heap.objs.size m) (keep : ∀ b o, s.heap.get? b = some o → h₁.get? b = some o) : Inv (X.blk scope cl s.heap.objs.size (x :: ys) s H fp) [] (none :: capd σ js) H { s with heap := h₁, toks := tk } := by
  refine ⟨⟨I.ok.mod, S.kind, I.ok.glob, I.ok.blt, Nat.le_refl _, fun n1 n2 c e1 e2 => I.ok.inj n1 n2 c (S.sub' e1) (S.sub' e2), fun n hk => S.has' hk, fun n c hfn => absurd hfn (by show ¬ (false = true); decide), I.ok.hd, I.ok.frames, .inl rfl,
      fun b hb => ⟨Nat.ne_of_lt (hfl b hb), fun n c e => (hf b hb).2.2.2.2.1 n c (S.sub' e)⟩, fun b o e => I.bs b o e, Nat.le_trans I.ok.bsz I.sz, fun b o e hb => ?_, fun b hb z => ?_, I.stack, I.stkFree⟩,
    I.os ▸ rfl, I.bare, Un.kept keep, ⟨m, hn, fun i y v e1 e2 e3 => ?_⟩, fun n c e => ?_, I.fresh, fun n c e => I.freeC n c (S.sub' e), fun p hp => absurd (show p ∈ ([] : List (Addr × Obj)) from hp) (by simp), I.hok.kept keep, ?_⟩
  · rcases (hf b hb).2.2.2.1 with z | z
    · exact I.ok.noex b o e z
    · exact absurd (Nat.lt_of_lt_of_le (Heap.lt_size e) (Nat.le_trans I.ok.bsz z)) (Nat.lt_irrefl _)
  · rcases List.mem_cons.mp (I.stkSub b z) with q | q
    · exact (hf b hb).2.1 q
    · exact (hf b hb).2.2.1 q
  · cases i with
    | zero => cases e2
    | succ i =>
      have e1' : ys[i]? = some y := e1
      obtain ⟨j, ej, eσ⟩ := capd_get (i := i) (show (capd σ js)[i]? = some (some v) from e2)
      obtain ⟨j', ej', eN⟩ := S.place e1'
      rw [ej] at ej'; cases ej'
      obtain ⟨hk, hk'⟩ := S.cap y (List.mem_of_getElem? e1')
      obtain ⟨m0, hn0, hl0⟩ := I.loc
      obtain ⟨u, r, l⟩ := hl0 j y v eN eσ (.inr (.inl hk))
      refine ⟨u, r, ?_⟩
      rcases l with ⟨k, _⟩ | ⟨_, c, ec, z⟩
      · have k' : X.env.scope.names.lookup y = some .local := k
        rw [hk] at k'; cases k'
      · obtain ⟨c', ec'⟩ := S.has' (.inl hk')
        have := S.sub' ec'
        rw [ec] at this; cases this
        obtain ⟨o, ho, hd⟩ := z
        exact .inr ⟨.inl hk', c, ec', o, keep c o ho, hd⟩
  · obtain ⟨v, o, ho, hd⟩ := I.cell n c (S.sub' e)
    exact ⟨v, o, keep c o ho, hd⟩
  · show (none :: capd σ js).length = (x :: ys).length
    unfold capd
    rw [List.length_cons, List.length_cons, List.length_map, S.len]
/-- out of the block -/
theorem Inv.unblk {C : Addr} {Nb : List Str} {σb : St} {H' : Hp} {s' : Shared} {fp : List Addr} {pins' : List (Addr × Obj)} (I : Inv X pins σ H s) (hf : ∀ b ∈ fp, FpOk X pins H b) (J : Inv (X.blk scope cl C Nb s H fp) pins' σb H' s') : Inv X pins σ H' s' := by
  have os : s'.os = s.os := J.os
  refine I.call' (ch := fp) os J.base J.hok J.bare fun b hb => ?_
  obtain ⟨h0, h1, h2, h3, h4, h5⟩ := hf b hb
  exact ⟨h3, h1, h4, h5⟩
end

/-- the reading: J walks, W i m ys H: the turn, a measure, the items so far, the heap -/
def tCompW (js : List Nat) (tc : TT) (te : TE) (σ : St) (J : It) (H1 : Hp) (Q : VK) : Prop := ∀ D, H1 D = none → ∃ W : Nat → Nat → List V → Hp → Prop, (∃ m, W 0 m [] (upd H1 D (.lst []))) ∧ ∀ i m ys H, W i m ys H → H D = some (.lst ys) ∧
  ((J.stop i H ∧ Q (.ref D) H) ∨ (J.go i H ∧ ∀ v H', J.yld i H v H' → tc (some v :: capd σ js) H' fun b H2 =>
    if b = true then te (some v :: capd σ js) H2 fun y H3 => H3 D = some (.lst ys) ∧ ys.length < sizeLine ∧ ∃ m', m' < m ∧ W (i + 1) m' (ys ++ [y]) (upd H3 D (.lst (ys ++ [y])))
    else ∃ m', m' < m ∧ W (i + 1) m' ys H2))
def tComp (js : List Nat) (wi : TI) (tc : TT) (te : TE) : TE := fun σ H Q => wi σ H fun J H1 => tCompW js tc te σ J H1 Q

section
variable {X : Cx} {scope : Scope} {cl : List (Str × Addr)} {x : Str} {ys : List Str} {js : List Nat} {elt iter : Expr} {ifs : List Expr} {px pos : Pos} {tc : TT} {te : TE} {wi : TI}
theorem comp_core {pins : List (Addr × Obj)} {σ : St} {H1 : Hp} {s₂ : Shared} {it : Addr} {fp : List Addr} {tn : Nat → Heap → Prop} {J : It} {Q : VK} {RR : Value → Addr → Result → Shared → Prop} {E : Value → Shared → Prop} (S : CompS X scope cl x ys js) (hc : X.calm = true)
    (hT : ∀ C s₁ H₁ ex, PTs (X.blk scope cl C (x :: ys) s₁ H₁ ex) ifs tc) (hE : ∀ C s₁ H₁ ex, PE (X.blk scope cl C (x :: ys) s₁ H₁ ex) elt te)
    (I : Inv X pins σ H1 s₂) (T : Turn X.prog X.w X.K (.Name x px) J fp it tn) (st : tn 0 s₂.heap) (hf : ∀ b ∈ fp, FpOk X pins H1 b) (q : tCompW js tc te σ J H1 Q)
    (fin : ∀ D C s' H', Inv X pins σ H' s' → (∃ m, s'.heap.Ns C m) → H' C = none → C ≠ X.env.locals → X.s₀.heap.objs.size ≤ C → (∀ n c, X.env.cells.lookup n = some c → c ≠ C) → (∀ p ∈ X.pn ++ pins, p.1 ≠ C) → Q (.ref D) H' → RR (.ref D) C (.ok .next) s') :
    wpAny (model X.prog X.w) X.A (newList []) (fun acc s₃ => wpAny (model X.prog X.w) X.A (newFunctionEnv scope X.env.globals cl [] X.env.qual none .none (some X.env)) (fun cenv s₄ =>
      codeAny (model X.prog X.w) X.A (.compStart (.ListComp elt [⟨.Name x px, iter, ifs, 0⟩] scope pos) 0 (.ref it) acc { cenv with scope := relabel scope X.env }) (RR acc cenv.locals) s₄) E s₃) E s₂ := by
  refine wpAny_newObj_type (wpAny_newFunctionEnv S.nocell (by intro y hy; simp at hy) (fun h₁ hns₁ hsb₁ => ?_) S.kind)
  obtain ⟨W, ⟨m0, w0⟩, turn⟩ := q s₂.heap.objs.size I.fresh
  have I3 : Inv X pins σ (upd H1 s₂.heap.objs.size (.lst [])) { s₂ with heap := s₂.heap.push { cls := .type "list", data := .seq ([] : List Value).toArray } } := I.lnew (its := []) (t' := s₂.toks) .nil (Nat.zero_le _)
  have keep : ∀ b o, (s₂.heap.push { cls := .type "list", data := .seq ([] : List Value).toArray }).get? b = some o → h₁.get? b = some o := fun b o e =>
    hsb₁.extBut b o (Nat.ne_of_lt (Heap.lt_size e)) (Heap.get?_push_of_some _ e)
  have hfp : ∀ b ∈ fp, b < s₂.heap.objs.size := fun b hb => by
    obtain ⟨o, e, _⟩ := T.obj 0 _ st b hb
    exact Heap.lt_size e
  have hf3 : ∀ b ∈ fp, FpOk X pins (upd H1 s₂.heap.objs.size (.lst [])) b := fun b hb => by
    obtain ⟨h0, r⟩ := hf b hb
    exact ⟨by rw [upd_ne (Nat.ne_of_lt (hfp b hb))]; exact h0, r⟩
  have sz : (s₂.heap.push { cls := .type "list", data := .seq ([] : List Value).toArray }).objs.size = s₂.heap.objs.size + 1 := Heap.size_push ..
  have Ib := Inv.blk (tk := s₂.toks) (fp := fp) (h₁ := h₁) I3 S hf3 (fun b hb => by show b < (s₂.heap.push _).objs.size; rw [sz]; exact Nat.lt_succ_of_lt (hfp b hb)) hns₁ keep
  have st1 : tn 0 h₁ := T.keep 0 _ _ st fun b hb o e => keep b o (Heap.get?_push_of_some _ e)
  have fpB : ∀ {H' : Hp}, (∀ b ∈ fp, H' b = none) → ∀ b ∈ fp, FpOk (X.blk scope cl (s₂.heap.push { cls := .type "list", data := .seq ([] : List Value).toArray }).objs.size (x :: ys) { s₂ with heap := s₂.heap.push { cls := .type "list", data := .seq ([] : List Value).toArray } } (upd H1 s₂.heap.objs.size (.lst [])) fp) [] H' b := fun hn b hb => by
    obtain ⟨h0, h1, h2, h3, h4, h5⟩ := hf3 b hb
    refine ⟨hn b hb, ?_, fun z => ?_, .inl hb, fun n c e => h4 n c (S.sub' e), fun p hp => absurd (show p ∈ ([] : List (Addr × Obj)) from hp) (by simp)⟩
    · show b ≠ (s₂.heap.push _).objs.size
      rw [sz]
      exact Nat.ne_of_lt (Nat.lt_succ_of_lt (hfp b hb))
    · rcases List.mem_cons.mp (I.stkSub b z) with r | r
      · exact h1 r
      · exact h2 r
  -- the frame of the block, seen from outside
  have outC : ∀ {σb : St} {H' : Hp} {s' : Shared} {pins' : List (Addr × Obj)}, Inv (X.blk scope cl (s₂.heap.push { cls := .type "list", data := .seq ([] : List Value).toArray }).objs.size (x :: ys) { s₂ with heap := s₂.heap.push { cls := .type "list", data := .seq ([] : List Value).toArray } } (upd H1 s₂.heap.objs.size (.lst [])) fp) pins' σb H' s' → Q (.ref s₂.heap.objs.size) H' →
      RR (.ref s₂.heap.objs.size) (s₂.heap.push { cls := .type "list", data := .seq ([] : List Value).toArray }).objs.size (.ok .next) s' := fun {σb H' s' pins'} Jb qq => by
    obtain ⟨m, hn, _⟩ := Jb.loc
    have big : ∀ b o, s₂.heap.get? b = some o → b ≠ (s₂.heap.push { cls := .type "list", data := .seq ([] : List Value).toArray }).objs.size := fun b o e => by rw [sz]; exact Nat.ne_of_lt (Nat.lt_succ_of_lt (Heap.lt_size e))
    refine fin _ _ s' H' (I3.unblk hf3 Jb) ⟨m, hn⟩ Jb.free ?_ ?_ (fun n c e => ?_) (fun p hp => ?_) qq
    · rw [sz]
      exact Nat.ne_of_gt (Nat.lt_succ_of_lt I.lt)
    · rw [sz]
      exact Nat.le_succ_of_le I.sz
    · obtain ⟨v, o, ho, _⟩ := I.cell n c e
      exact big c o ho
    · exact big p.1 p.2 (I.pin p hp).1
  have loop : codeAny (model X.prog X.w) X.A (.compLoop (.ListComp elt [⟨.Name x px, iter, ifs, 0⟩] scope pos) 0 (.ref it) (.ref s₂.heap.objs.size) (X.blk scope cl (s₂.heap.push { cls := .type "list", data := .seq ([] : List Value).toArray }).objs.size (x :: ys) { s₂ with heap := s₂.heap.push { cls := .type "list", data := .seq ([] : List Value).toArray } } (upd H1 s₂.heap.objs.size (.lst [])) fp).env)
      (RR (.ref s₂.heap.objs.size) (s₂.heap.push { cls := .type "list", data := .seq ([] : List Value).toArray }).objs.size) { s₂ with heap := h₁, toks := s₂.toks } := by
    generalize hX : (X.blk scope cl (s₂.heap.push { cls := .type "list", data := .seq ([] : List Value).toArray }).objs.size (x :: ys) { s₂ with heap := s₂.heap.push { cls := .type "list", data := .seq ([] : List Value).toArray } } (upd H1 s₂.heap.objs.size (.lst [])) fp) = Xb at *
    have hTb : PTs Xb ifs tc := hX ▸ hT _ _ _ _
    have hEb : PE Xb elt te := hX ▸ hE _ _ _ _
    have hprog : Xb.prog = X.prog := by rw [← hX]; rfl
    have hw : Xb.w = X.w := by rw [← hX]; rfl
    have hK : Xb.K = X.K := by rw [← hX]; rfl
    have hA : Xb.A = X.A := by rw [← hX]; rfl
    have hcb : Xb.calm = true := by rw [← hX]; exact hc
    have hxe : Xb.xe = fun _ _ => False := by rw [← hX]; rfl
    have hNb : Xb.N = x :: ys := by rw [← hX]; rfl
    have hlx : Xb.env.scope.names.lookup x = some .local := by rw [← hX]; exact lookup_relabel_local S.loc
    have nev : ∀ {R' : Result → Shared → Prop} (e : Value) (s' : Shared), Xb.xe e s' → notedBy (model X.prog X.w) X.A Xb.env (fun e s' => R' (.error e) s') e s' := fun e s' z => by rw [hxe] at z; exact z.elim
    refine codeAny_compLoop_tests (fun n s' => ∃ i o H' zs, Inv Xb [] (o :: capd σ js) H' s' ∧ tn i s'.heap ∧ (∀ b ∈ fp, H' b = none) ∧ W i n zs H') ?_ m0 ⟨0, none, _, [], Ib, st1, fun b hb => (hf3 b hb).1, w0⟩
    rintro n s3 ⟨i, o, H3, zs, I5, st3, fr3, w3⟩
    obtain ⟨hD, t3⟩ := turn i n zs H3 w3
    rcases t3 with ⟨stop, qn⟩ | ⟨go, step⟩
    · have z := T.done Xb hprog hw hK hcb i [] s3 _ H3 (notedBy (model X.prog X.w) X.A Xb.env fun e s' => RR (.ref s₂.heap.objs.size) (s₂.heap.push { cls := .type "list", data := .seq ([] : List Value).toArray }).objs.size (.error e) s') I5 (fpB fr3) st3 stop
      rw [hA] at z
      refine thn z fun r s4 ⟨hr, I4⟩ => ?_
      subst hr
      exact outC I4 qn
    · have z := T.item Xb hprog hw hK hcb i [] s3 _ H3 (notedBy (model X.prog X.w) X.A Xb.env fun e s' => RR (.ref s₂.heap.objs.size) (s₂.heap.push { cls := .type "list", data := .seq ([] : List Value).toArray }).objs.size (.error e) s') I5 (fpB fr3) st3 go
      rw [hA] at z
      refine thn z fun r s4 ⟨u, hr, h4⟩ => ?_
      subst hr
      show wpAny (model X.prog X.w) X.A (letOwnedTupleGo (.Name x px) (.ref it) u >>= fun _ => assign (.Name x px) Xb.env u) _ _ s4
      refine wpAny_bind (thn h4 fun _ s5 ⟨v, H5, I6, r5, y5, st5, fr5⟩ => ?_)
      have I6' := I6.pinned (fpB fr5) (T.obj _ _ st5)
      have asg := pg_name (X := Xb) (i := 0) (x := x) (pos := px) (by rw [hNb]; exact S.nd) (by rw [hNb]; rfl) (.inl hlx) (.inr hlx) _ s5 _ H5 v u (fun σ2 H2 => σ2 = some v :: capd σ js ∧ H2 = H5) I6' r5 ⟨rfl, rfl⟩
      rw [hprog, hw, hA] at asg
      refine wpAny_mono asg (fun _ s6 ⟨σ6, H6, I7, e1, e2⟩ => ?_) nev
      subst e1 e2
      have ts := hTb _ s6 _ H6 _ I7 (step v H6 y5)
      rw [hprog, hw, hA] at ts
      refine wpAny_mono ts (fun b s7 ⟨H7, I8, q8⟩ => ?_) nev
      have again : ∀ {o : Option V} {H8 : Hp} {s8 : Shared} {zs' : List V} {m' : Nat}, Inv Xb ([] ++ pinsAt fp s5.heap) (o :: capd σ js) H8 s8 → m' < n → W (i + 1) m' zs' H8 →
          ∃ m, m < n ∧ ∃ i o H' zs, Inv Xb [] (o :: capd σ js) H' s8 ∧ tn i s8.heap ∧ (∀ b ∈ fp, H' b = none) ∧ W i m zs H' := fun {o H8 s8 zs' m'} I9 hm w9 => by
        refine ⟨m', hm, i + 1, o, H8, zs', I9.unpinned, T.keep _ _ _ st5 fun b hb ob e => (I9.pin (b, ob) (List.mem_append_right _ (List.mem_append_right _ (mem_pinsAt hb e)))).1, fun b hb => ?_, w9⟩
        obtain ⟨ob, e, d⟩ := T.obj _ _ st5 b hb
        exact (I9.pin (b, ob) (List.mem_append_right _ (List.mem_append_right _ (mem_pinsAt hb e)))).2.1
      cases b with
      | false =>
        rw [if_neg Bool.false_ne_true] at q8 ⊢
        obtain ⟨m', hm, w8⟩ := q8
        exact again I8 hm w8
      | true =>
        rw [if_pos rfl] at q8 ⊢
        have el := hEb _ s7 _ H7 _ I8 q8
        rw [hprog, hw, hA] at el
        refine wpAny_mono el (fun yv s8 ⟨y, H8, I9, ry, hD8, hz8, m', hm, w8⟩ => ?_) nev
        have ap := mt_append (X := Xb) _ s8 _ H8 (.ref s₂.heap.objs.size) [y] (.ref s₂.heap.objs.size) [yv] (fun _ H9 => H9 = upd H8 s₂.heap.objs.size (.lst (zs ++ [y]))) I9 rfl (.cons ry .nil) ⟨_, zs, y, rfl, rfl, hD8, hz8, rfl⟩
        rw [hprog, hw, hA] at ap
        refine wpAny_mono ap (fun _ s9 ⟨_, H9, I10, _, e9⟩ => ?_) nev
        subst e9
        exact again I10 hm w8
  exact codeAny_compStart_list loop (T.self X.A 0 _ _ _ st1 loop)

/-- [e for x in it if ..], as a value -/
theorem pe_comp (S : CompS X scope cl x ys js) (hc : X.calm = true) (hi : PI X (.Name x px) iter wi)
    (hT : ∀ C s₁ H₁ ex, PTs (X.blk scope cl C (x :: ys) s₁ H₁ ex) ifs tc) (hE : ∀ C s₁ H₁ ex, PE (X.blk scope cl C (x :: ys) s₁ H₁ ex) elt te)
    (hs : ∀ v, foldedSetIterable iter X.env v = pure v := by intro _; rfl) : PE X (.ListComp elt [⟨.Name x px, iter, ifs, 0⟩] scope pos) (tComp js wi tc te) := by
  intro pins s σ H Q I h
  rw [eval_ListComp]
  refine wpAny_comprehension_free (use := none) rfl hs S.clos S.kind S.names (thn (hi pins s σ H _ I h) fun v s1 h1 => thn h1 fun itv s2 h2 => ?_)
  obtain ⟨it, fp, tn, J, H2, rfl, I2, T, st2, f2, q2⟩ := h2
  refine comp_core (RR := fun acc C => compPost (model X.prog X.w) X.A X.xe none (EP X pins σ Q) acc C) S hc hT hE I2 T st2 f2 q2 ?_
  intro D C s' H' I' ⟨m, hn⟩ hC hL h1 h2 h3 q
  refine ⟨m, hn, fun h' sb => ⟨.ref D, H', ?_, rfl, q⟩⟩
  exact I'.turned (t' := s'.toks) (fun b o hb e => sb.extBut b o hb e) hC hL (.inr h1) h2 h3
/-- y = [e for x in it if ..] -/
theorem ps_comp {i : Nat} {y : Str} {py spos : Pos} (hN : X.N.Nodup) (hi' : X.N[i]? = some y) (hy : X.env.scope.names.lookup y = some .local) (S : CompS X scope cl x ys js) (hc : X.calm = true) (hi : PI X (.Name x px) iter wi)
    (hT : ∀ C s₁ H₁ ex, PTs (X.blk scope cl C (x :: ys) s₁ H₁ ex) ifs tc) (hE : ∀ C s₁ H₁ ex, PE (X.blk scope cl C (x :: ys) s₁ H₁ ex) elt te)
    (hsw : swapsWith (.ListComp elt [⟨.Name x px, iter, ifs, 0⟩] scope pos) (some (.Name y py)) spos.line X.env = pure true := by rfl)
    (hs : ∀ v, foldedSetIterable iter X.env v = pure v := by intro _; rfl) : PS X (.Assign [.Name y py] (.ListComp elt [⟨.Name x px, iter, ifs, 0⟩] scope pos) spos) (fun D σ H => tComp js wi tc te σ H fun v H' => D.nx (σ.set i (some v)) H') := by
  intro pins s σ H D I h
  rw [exec_Assign_Name_used _ _ _ _ hsw]
  refine wpAny_bind (wpAny_standAt (wpAny_bind ?_))
  show wpAny _ X.A (comprehension (.ListComp elt [⟨.Name x px, iter, ifs, 0⟩] scope pos) scope X.env _ (newList []) false (eval iter X.env) (some (assign (.Name y py) X.env)) >>= fun _ => pure ()) _ _ s
  refine wpAny_bind (thn (wpAny_comprehension_free (use := some (assign (.Name y py) X.env)) (Q := fun _ s' => SP X pins D .next s') rfl hs S.clos S.kind S.names (thn (hi pins s σ H _ I h) fun v s1 h1 => thn h1 fun itv s2 h2 => ?_)) fun _ s' q => wpAny_pure (wpAny_pure q))
  obtain ⟨it, fp, tn, J, H2, rfl, I2, T, st2, f2, q2⟩ := h2
  refine comp_core (RR := fun acc C => compPost (model X.prog X.w) X.A X.xe (some (assign (.Name y py) X.env)) (fun _ s' => SP X pins D .next s') acc C) S hc hT hE I2 T st2 f2 q2 ?_
  intro D' C s' H' I' ⟨m, hn⟩ hC hL h1 h2 h3 q
  refine wpAny_assign_Name (store_ok2 I' hN hi' (.inl hy) (v := .ref D') rfl (fun s'' I'' ⟨a, sb, ha⟩ => ?_) (.inr hy))
  have hCa : C ≠ a := by
    rcases ha with z | z
    · rw [z]; exact hL
    · exact fun w => h2 y a z w.symm
  refine ⟨m, hn.sameBut sb hCa, fun h' sb' => ⟨_, H', ?_, q⟩⟩
  exact I''.turned (t' := s''.toks) (fun b o hb e => sb'.extBut b o hb e) hC hL (.inr h1) h2 h3
end
end L2

namespace Tm
/-! ### turnings as lists of ints -/
def ups (lo : Int) (n : Nat) : List Int := (List.range n).map fun (i : Nat) => lo + (i : Int)
theorem ups_length (lo : Int) (n : Nat) : (ups lo n).length = n := by unfold ups; simp
theorem ups_get {lo : Int} {n i : Nat} (h : i < n) : (ups lo n)[i]? = some (lo + (i : Int)) := by unfold ups; simp [h]
theorem ups_mem {lo : Int} {n : Nat} {v : Int} : v ∈ ups lo n ↔ lo ≤ v ∧ v < lo + n := by
  unfold ups
  rw [List.mem_map]
  constructor
  · rintro ⟨i, hi, rfl⟩
    have := List.mem_range.mp hi
    omega
  · rintro ⟨h1, h2⟩
    exact ⟨(v - lo).toNat, List.mem_range.mpr (by omega), by omega⟩
theorem ups_succ (lo : Int) (n : Nat) : ups lo (n + 1) = ups lo n ++ [lo + (n : Int)] := by
  unfold ups
  rw [List.range_succ, List.map_append]
  rfl
theorem ups_sorted (lo : Int) (n : Nat) : (ups lo n).Pairwise (· ≤ ·) := by
  induction n with
  | zero => exact List.Pairwise.nil
  | succ n ih =>
    rw [ups_succ]
    refine List.pairwise_append.mpr ⟨ih, List.pairwise_singleton _ _, fun a ha b hb => ?_⟩
    have h1 := (ups_mem.mp ha).2
    have h2 := List.mem_singleton.mp hb
    omega
theorem ups_nodup (lo : Int) (n : Nat) : (ups lo n).Nodup := by
  induction n with
  | zero => exact List.nodup_nil
  | succ n ih =>
    rw [ups_succ]
    refine List.nodup_append.mpr ⟨ih, List.nodup_cons.mpr ⟨List.not_mem_nil, List.nodup_nil⟩, fun a ha b hb => ?_⟩
    have h1 := (ups_mem.mp ha).2
    have h2 := List.mem_singleton.mp hb
    omega
/-- a turning: the numbers from nought on, each once -/
def IsT (xs : List Int) : Prop := xs.Perm (ups 0 xs.length)
theorem same_sorted {a b : List Int} (hp : a.Perm b) (ha : a.Pairwise (· ≤ ·)) (hb : b.Pairwise (· ≤ ·)) : a = b :=
  hp.eq_of_pairwise (fun _ _ _ _ h1 h2 => Int.le_antisymm h1 h2) ha hb
/-- what sorted tells -/
theorem isT_sorted {xs ms : List Int} (hp : ms.Perm xs) (hs : ms.Pairwise (· ≤ ·)) : ms = ups 0 xs.length ↔ IsT xs := by
  constructor
  · intro e
    subst e
    exact hp.symm
  · intro h
    exact same_sorted (hp.trans h) hs (ups_sorted _ _)
theorem IsT.mem {xs : List Int} (h : IsT xs) {v : Int} : v ∈ xs ↔ 0 ≤ v ∧ v < xs.length := by
  rw [List.Perm.mem_iff h, ups_mem]
  omega
theorem IsT.nodup {xs : List Int} (h : IsT xs) : xs.Nodup := (List.Perm.nodup_iff h).mpr (ups_nodup _ _)
theorem IsT.bd {xs : List Int} (h : IsT xs) {i : Nat} {v : Int} (e : xs[i]? = some v) : 0 ≤ v ∧ v < xs.length := h.mem.mp (List.mem_of_getElem? e)
/-- all different and in bounds -/
theorem isT_of {xs : List Int} (nd : xs.Nodup) (hb : ∀ v ∈ xs, 0 ≤ v ∧ v < xs.length) : IsT xs := by
  have sub : ∀ (l : List Int) (n : Nat), l.Nodup → (∀ v ∈ l, 0 ≤ v ∧ v < (n : Int)) → l.length ≤ n ∧ (l.length = n → l.Perm (ups 0 n)) := by
    intro l n
    induction n generalizing l with
    | zero =>
      intro _ hb
      cases l with
      | nil => exact ⟨Nat.le_refl _, fun _ => List.Perm.refl _⟩
      | cons a r =>
        have := hb a (List.mem_cons_self ..)
        omega
    | succ n ih =>
      intro hn hb
      by_cases hm : (n : Int) ∈ l
      · have hp : l.Perm ((n : Int) :: l.erase n) := List.perm_cons_erase hm
        have hn' : (l.erase (n : Int)).Nodup := hn.sublist List.erase_sublist
        have hb' : ∀ v ∈ l.erase (n : Int), 0 ≤ v ∧ v < (n : Int) := fun v hv => by
          have h1 := hb v (List.mem_of_mem_erase hv)
          have h2 : v ≠ (n : Int) := by
            rintro rfl
            have := (List.Perm.nodup_iff hp).mp hn
            exact (List.nodup_cons.mp this).1 hv
          omega
        obtain ⟨i1, i2⟩ := ih _ hn' hb'
        have hl := hp.length_eq
        rw [List.length_cons] at hl
        refine ⟨by omega, fun e => ?_⟩
        refine hp.trans ?_
        rw [ups_succ]
        have e2 : (0 : Int) + (n : Int) = n := by omega
        rw [e2]
        exact ((i2 (by omega)).cons _).trans (List.perm_append_singleton _ _).symm
      · have hb' : ∀ v ∈ l, 0 ≤ v ∧ v < (n : Int) := fun v hv => by
          have h1 := hb v hv
          have h2 : v ≠ (n : Int) := by
            rintro rfl
            exact hm hv
          omega
        obtain ⟨i1, i2⟩ := ih l hn hb'
        exact ⟨by omega, fun e => by omega⟩
  exact (sub xs xs.length nd hb).2 rfl
/-! ### the guests put in one by one -/
def insAt (made : List Int) (sp : Nat) (k : Int) : List Int := made.take sp ++ [k] ++ made.drop sp
theorem insAt_perm (made : List Int) (sp : Nat) (k : Int) : (insAt made sp k).Perm (k :: made) := by
  unfold insAt
  rw [List.append_assoc, List.singleton_append]
  refine List.perm_middle.trans ?_
  rw [List.take_append_drop]
theorem insAt_length (made : List Int) (sp : Nat) (k : Int) : (insAt made sp k).length = made.length + 1 := (insAt_perm made sp k).length_eq
/-- after n cells -/
def tb (cells : List Int) : Nat → List Int
  | 0 => []
  | n + 1 => insAt (tb cells n) ((cells.getD n 0) % ((n : Int) + 1)).toNat (n : Int)
theorem tb_perm (cells : List Int) : ∀ n, (tb cells n).Perm (ups 0 n)
  | 0 => List.Perm.refl _
  | n + 1 => by
    refine (insAt_perm _ _ _).trans ?_
    rw [ups_succ]
    have e : (0 : Int) + (n : Int) = n := by omega
    rw [e]
    exact ((tb_perm cells n).cons _).trans (List.perm_append_singleton _ _).symm
theorem tb_length (cells : List Int) (n : Nat) : (tb cells n).length = n := by rw [(tb_perm cells n).length_eq, ups_length]
def turnBy (cells : List Int) : List Int := tb cells cells.length
theorem turnBy_length (cells : List Int) : (turnBy cells).length = cells.length := tb_length _ _
theorem turnBy_isT (cells : List Int) : IsT (turnBy cells) := by
  unfold IsT
  rw [turnBy_length]
  exact tb_perm _ _
theorem isT_ups (n : Nat) : IsT (ups 0 n) := by
  unfold IsT
  rw [ups_length]
/-- a seat more that stays -/
theorem isT_snoc {xs : List Int} (h : IsT xs) : IsT (xs ++ [(xs.length : Int)]) := by
  unfold IsT
  rw [List.length_append, List.length_singleton, ups_succ]
  have e : (0 : Int) + (xs.length : Int) = xs.length := by omega
  rw [e]
  exact List.Perm.append_right _ h
/-! ### one and then the other -/
def join (xs ys : List Int) : List Int := xs.map fun k => ys.getD k.toNat 0
theorem join_length (xs ys : List Int) : (join xs ys).length = xs.length := by unfold join; simp
theorem join_get {xs ys : List Int} {i : Nat} {k : Int} (e : xs[i]? = some k) : (join xs ys)[i]? = some (ys.getD k.toNat 0) := by
  unfold join
  rw [List.getElem?_map, e]
  rfl
theorem getD_of {ys : List Int} {k : Nat} (h : k < ys.length) : ys[k]? = some (ys.getD k 0) := by
  rw [List.getD_eq_getElem?_getD, List.getElem?_eq_getElem h]
  rfl
theorem IsT.at_ {xs ys : List Int} (h : IsT xs) (hl : xs.length = ys.length) {i : Nat} {k : Int} (e : xs[i]? = some k) : ys[k.toNat]? = some (ys.getD k.toNat 0) := by
  have := h.bd e
  exact getD_of (by omega)
end Tm

set_option Elab.async false
set_option linter.all false
set_option maxRecDepth 100000
set_option maxHeartbeats 4000000
namespace L2
open PySem PySem.Spec PyProof.Rows Tm
section
variable {prog : Program} {w : World} {A : Around} {E : Value → Shared → Prop} {s : Shared}
/-- sorted of a list or a tuple of ints: over some heap g a new list -/
theorem sorted_seq {it : Addr} {T : String} {o : Obj} {vs : List Value} {n : Nat} {ns : List Int} {Q : Value → Shared → Prop} (hT : T = "list" ∨ T = "tuple") (ho : s.heap.get? it = some o) (hc : o.cls = .type T) (hd : o.data = .seq vs.toArray n)
    (hI : IntsAre vs ns) (h64 : vs.length < 64)
    (h : ∀ (g g' : Heap) (out : Array Value) (ms : List Int) (k : Nat), (∀ b u, s.heap.get? b = some u → g.get? b = some u) → (∀ b u, g.get? b = some u → g'.get? b = some u) → g'.get? g.objs.size = some (seqObj "list" out k) →
      IntsAre out.toList ms → ms.Perm ns → ms.Pairwise (· ≤ ·) → Q (.ref g.objs.size) { s with heap := g' }) :
    wpAny (model prog w) A (call (.builtin "sorted") [.ref it]) Q E s := by
  refine Calls.call_function_entry kind_sorted plain_sorted entry_sorted (args_sorted1 _) ?_
  unfold Builtin.«sorted»
  refine wpAny_bind (m := checkCount "sorted" 1 1 _) (wpAny_pure ?_)
  refine wpAny_bind (wpAny_collect_seq it hT ho hc hd (fun g kp => ?_) (by rw [List.size_toArray, sizeLine_eq]; omega))
  refine wpAny_bind (wpAny_newList ?_)
  have el : vs.toArray.toList = vs := by simp
  rw [el]
  have hoL : (g.push (seqObj "list" vs.toArray 0)).get? g.objs.size = some (seqObj "list" vs.toArray 0) := Heap.get?_push_size _ rfl
  refine wpAny_bind (wpAny_holding (wpAny_call_entry slot_list_sort ⟨_, hoL, rfl⟩ entry_list_sort (list_sort_tree hoL hI h64 fun out ms a1 a2 a3 => ⟨_, rfl, ?_⟩) (args_list_sort _)))
  refine wpAny_pure ?_
  obtain ⟨k, hk⟩ := sortedHeap_at (vs := vs) (out := out) hoL
  exact ⟨_, rfl, h g _ out ms k kp (fun b u e1 => by
    have e2 : (g.push (seqObj "list" vs.toArray 0)).get? b = some u := Heap.get?_push_of_some _ e1
    exact (sortedHeap_old (Nat.ne_of_lt (Heap.lt_size e1)) (by rw [size_push']; exact Nat.lt_succ_of_lt (Heap.lt_size e1))).trans e2) hk a1 a2 a3⟩

/-- what a walk over a range collects -/
theorem collect_range {r : Addr} {a b c : Int} {t u v : Tok} {n : Nat} {Q : List Value → Shared → Prop} (hh : A.handled = none) (hr : IsRange s.heap r a b c t u v) (hsmall : Builtin.Range.small a b c = true)
    (hn : Builtin.Range.rangeSize a b c = n) (hlen : n ≤ 2 ^ 24)
    (hQ : ∀ (g : Heap) (tk : Nat) (acc : Array Value), (∀ b o, s.heap.get? b = some o → g.get? b = some o) → ItemsOf (fun i v => ∃ t, v = .int (a + i * c) t) acc n → Q acc.toList { s with heap := g, toks := tk }) :
    wpAny (model prog w) A (collect (.ref r)) Q E s := by
  unfold collect
  refine wpAny_bind (wpAny_runValue (codeAny_builtin F.entry_proto_collect ?_))
  rw [Around.under_plainId F.plain_proto_collect _]
  show wpAny _ A.in1 (newList [] >>= fun z => again (.builtin "list.__iadd__" ⟨[z, .ref r], []⟩)) _ _ s
  refine wpAny_bind (wpAny_newObj_type ?_)
  refine wpAny_pure ⟨plainId_quiet F.plain_list_iadd _, codeAny_builtin F.entry_list_iadd ?_⟩
  rw [Around.under_plainId F.plain_list_iadd _]
  show wpAny _ A.in1 (Builtin.List.listExtendWith (.ref s.heap.objs.size) (.ref r) (.ref s.heap.objs.size)) _ _ _
  have hS : (s.heap.push { cls := .type "list", data := .seq ([] : List Value).toArray }).get? s.heap.objs.size = some { cls := .type "list", data := .seq #[] 0 } := Heap.get?_push_size _ rfl
  have hr' : IsRange (s.heap.push { cls := .type "list", data := .seq ([] : List Value).toArray }) r a b c t u v := Heap.get?_push_of_some _ hr
  have fin : ∀ (g : Heap) (tk : Nat) (acc : Array Value) (k : Nat), (∀ b o, s.heap.get? b = some o → g.get? b = some o) → g.get? s.heap.objs.size = some { cls := .type "list", dict := none, data := .seq acc k, slots := #[] } → ItemsOf (fun i v => ∃ t, v = .int (a + i * c) t) acc n →
      wpAny (model prog w) A (load s.heap.objs.size >>= fun o => match o.data with | Data.seq xs _ => pure xs.toList | _ => unsupported "internal:collect") Q E { s with heap := g, toks := tk } := fun g tk acc k kp hg ha =>
    wpAny_bind (wpAny_load hg (wpAny_pure (hQ g tk acc kp ha)))
  refine wpAny_mono (wpAny_extend_range (A := A) (R := fun q s' => q = .ok (.ret (.ref s.heap.objs.size)) ∧ ∃ (g : Heap) (tk : Nat) (acc : Array Value) (k : Nat), s' = { s with heap := g, toks := tk } ∧ (∀ b o, s.heap.get? b = some o → g.get? b = some o) ∧
      g.get? s.heap.objs.size = some { cls := .type "list", dict := none, data := .seq acc k, slots := #[] } ∧ ItemsOf (fun i v => ∃ t, v = .int (a + i * c) t) acc n)
    hh hr' hsmall hn hlen s.heap.objs.size (.ref s.heap.objs.size) 0 hS (fun g tk acc k kp hg ha => ⟨rfl, g, tk, acc, k, rfl, fun b o e => kp b o (Nat.ne_of_lt (Heap.lt_size e)) (Heap.get?_push_of_some _ e), hg, ha⟩)) (fun f s' h => ?_) (fun e s' h => ?_)
  · cases f with
    | done f =>
      obtain ⟨e, g, tk, acc, k, rfl, kp, hg, ha⟩ := h
      cases e
      exact fin g tk acc k kp hg ha
    | again c' => exact ⟨h.1, codeAny_mono h.2 fun q s'' hq => by
        obtain ⟨rfl, g, tk, acc, k, rfl, kp, hg, ha⟩ := hq
        exact fin g tk acc k kp hg ha⟩
  · exact absurd h.1 (by simp)
/-- tuple(range(..)) -/
theorem tuple_range {r : Addr} {a b c : Int} {t u v : Tok} {n : Nat} {Q : Value → Shared → Prop} (hh : A.handled = none) (hr : IsRange s.heap r a b c t u v) (hsmall : Builtin.Range.small a b c = true)
    (hn : Builtin.Range.rangeSize a b c = n) (hlen : n ≤ 2 ^ 24)
    (hQ : ∀ (g : Heap) (tk : Nat) (acc : Array Value), (∀ b o, s.heap.get? b = some o → g.get? b = some o) → ItemsOf (fun i v => ∃ t, v = .int (a + i * c) t) acc n → Q (.ref g.objs.size) { s with heap := g.push { cls := .type "tuple", data := .seq acc }, toks := tk }) :
    wpAny (model prog w) A (call (.type "tuple") [.ref r]) Q E s := by
  refine callType_codes (Q₁ := fun obj s₁ => s₁.TypeIs obj "tuple" ∧ Q obj s₁) F.called_tuple (F.typeCall_tuple_1 _) F.entry_object_init ?_ fun obj s₁ h₁ =>
    ⟨h₁.1, F.args_object_init_2 obj _, object_init_meets F.called_tuple.init.lookup F.called_tuple.made (by decide) prog w A.in1 _ s₁ ⟨h₁.1, rfl, h₁.2⟩⟩
  refine codeAny_of_tree ?_
  show wpAny _ _ (do checkBuiltinCall "tuple.__new__" ⟨[.type "tuple", .ref r], []⟩; again (.builtin "tuple.__new__" ⟨[.type "tuple", .ref r], []⟩)) _ _ s
  refine wpAny_bind (wpAny_of_eq (F.newCall_tuple_1 _) (wpAny_pure ⟨plainId_quiet F.plain_tuple_new _, codeAny_builtin F.entry_tuple_new ?_⟩))
  rw [Around.under_plainId F.plain_tuple_new _]
  have x1 := sub_tuple_self
  have x2 := init_tuple_lookup
  have x3 := madeHere_tuple
  have hT : s.TypeIs (.ref r) "range" := ⟨_, hr, rfl⟩
  wp_walk using wpAny_typeOf hT, collect_range (A := A.in1.in1) hh hr hsmall hn hlen
  intro g tk acc kp ha
  show wpAny _ _ (Builtin.Tuple.tupleExact acc.toList.toArray >>= fun z => ret z) _ _ _
  unfold Builtin.Tuple.tupleExact
  have el : acc.toList.toArray = acc := by simp
  rw [el]
  refine wpAny_bind (wpAny_newObj_type ?_ (by show acc.size ≤ sizeLine; rw [ha.1, sizeLine_eq]; omega))
  exact wpAny_pure ⟨⟨_, Heap.get?_push_size _ rfl, rfl⟩, hQ g tk acc kp ha⟩
end

/-! ### ints -/
theorem ints_of_vals : ∀ {ns : List Int} {us : List Value}, Vals (ns.map V.int) us → IntsAre us ns
  | [], _, .nil => .nil
  | n :: ns, _, .cons r t => by
    obtain ⟨k, rfl⟩ := r
    exact .cons n k (ints_of_vals t)
theorem vals_of_ints : ∀ {us : List Value} {ns : List Int}, IntsAre us ns → Vals (ns.map V.int) us
  | _, _, .nil => .nil
  | _, _, .cons n k r => .cons ⟨k, rfl⟩ (vals_of_ints r)
theorem vals_of_get : ∀ {xs : List V} {us : List Value}, xs.length = us.length → (∀ (i : Nat) u, us[i]? = some u → ∃ x, xs[i]? = some x ∧ RelV x u) → Vals xs us
  | [], [], _, _ => .nil
  | [], _ :: _, h, _ => by cases h
  | _ :: _, [], h, _ => by cases h
  | x :: xs, u :: us, h, k => by
    refine .cons ?_ (vals_of_get (Nat.succ.inj h) fun i v e => k (i + 1) v e)
    obtain ⟨y, e, r⟩ := k 0 u rfl
    cases e
    exact r

/-! ### sorted(xs), ints -/
section
variable {X : Cx}
theorem call_sorted : CallR X (.builtin "sorted") (fun xs H Q => ∃ (p : Addr) (ns : List Int), xs = [.ref p] ∧ (SqL X.K H p (ns.map V.int) ∨ SqT X.K H p (ns.map V.int)) ∧ ns.length < 64 ∧
    ∀ (l : Addr) (ms : List Int), H l = none → ms.Perm ns → ms.Pairwise (· ≤ ·) → Q (.ref l) (upd H l (.lst (ms.map V.int)))) := by
  intro pins s σ H xs us Q I r h
  obtain ⟨p, ns, rfl, hq, h64, q⟩ := h
  obtain ⟨u, rfl, rx⟩ := vals1 r
  cases rx
  have fin : ∀ (g g' : Heap) (out : Array Value) (ms : List Int) (k : Nat), (∀ b u, s.heap.get? b = some u → g.get? b = some u) → (∀ b u, g.get? b = some u → g'.get? b = some u) → g'.get? g.objs.size = some (seqObj "list" out k) →
      IntsAre out.toList ms → ms.Perm ns → ms.Pairwise (· ≤ ·) → EP X pins σ Q (.ref g.objs.size) { s with heap := g' } := fun g g' out ms k k1 k2 e a1 a2 a3 => by
    have I1 : Inv X pins σ H { s with heap := g } := I.kept (t' := s.toks) k1
    refine ⟨.ref g.objs.size, _, I1.laid (t' := s.toks) k2 (Nat.le_refl _) (show ObjOk X.prog X.w _ g' _ (.lst (ms.map V.int)) from ⟨?_, out.toList, k, vals_of_ints a1, by simpa using e⟩), rfl, q _ ms (I1.hok.fresh (Nat.le_refl _)) a2 a3⟩
    rw [List.length_map, a2.length_eq]
    exact Nat.le_of_lt (small1000 (by omega))
  rcases hq with hq | hq
  · obtain ⟨its, r', pl, hz⟩ := I.list hq
    have hl := r'.length
    rw [List.length_map] at hl
    obtain ⟨o, ho, hc, n, hd⟩ := pl.isList
    exact sorted_seq (.inl rfl) ho hc hd (ints_of_vals r') (by omega) fin
  · obtain ⟨its, r', pl, hz⟩ := I.tuple hq
    have hl := r'.length
    rw [List.length_map] at hl
    obtain ⟨o, ho, hc, n, hd⟩ := pl
    exact sorted_seq (.inr rfl) ho hc hd (ints_of_vals r') (by omega) fin

/-! ### range(n) as a value, tuple(range(n)), list(range(n)) -/
theorem call_range1 : CallR X (.type "range") (fun xs H Q => ∃ j : Int, xs = [.int j] ∧ ∀ p, H p = none → Q (.ref p) (upd H p (.rng 0 j))) := by
  intro pins s σ H xs us Q I r h
  obtain ⟨j, rfl, q⟩ := h
  obtain ⟨u, rfl, rx⟩ := vals1 r
  obtain ⟨t, rfl⟩ := rx
  refine call_range_1 ?_
  refine ⟨.ref s.heap.objs.size, _, I.laid (o := .rng 0 j) (fun b o e => Heap.get?_push_of_some _ e) (Nat.le_refl _) ?_, rfl, q _ I.fresh⟩
  exact ⟨_, _, _, Heap.get?_push_size _ rfl⟩
theorem vals_ups {lo : Int} {n : Nat} {acc : Array Value} (h : ItemsOf (fun i v => ∃ t, v = Value.int (lo + i * 1) t) acc n) : Vals ((ups lo n).map V.int) acc.toList := by
  refine vals_of_get (by rw [List.length_map, ups_length, Array.length_toList, h.1]) fun i u e => ?_
  have e' : acc[i]? = some u := by simpa using e
  obtain ⟨t, rfl⟩ := h.2 i u e'
  have hi : i < n := by
    have := (Array.getElem?_eq_some_iff.mp e').1
    rw [h.1] at this; exact this
  refine ⟨.int (lo + i), by rw [List.getElem?_map, ups_get hi]; rfl, t, by simp⟩
theorem call_tuple_rng (hc : X.calm = true) : CallR X (.type "tuple") (fun xs H Q => ∃ (p : Addr) (lo hi : Int), xs = [.ref p] ∧ H p = some (.rng lo hi) ∧ (-(2 ^ 62) ≤ lo ∧ lo < 2 ^ 62 ∧ -(2 ^ 62) ≤ hi ∧ hi < 2 ^ 62) ∧ (hi - lo).toNat ≤ 1000 ∧
    ∀ l, H l = none → Q (.ref l) (upd H l (.tup ((ups lo (hi - lo).toNat).map V.int)))) := by
  intro pins s σ H xs us Q I r h
  obtain ⟨p, lo, hi, rfl, hp, ⟨h1, h2, h3, h4⟩, hz, q⟩ := h
  obtain ⟨u, rfl, rx⟩ := vals1 r
  cases rx
  obtain ⟨t, u, v, e⟩ := (show ObjOk X.prog X.w H s.heap p (.rng lo hi) from I.hok p _ hp)
  have hn : Builtin.Range.rangeSize lo hi 1 = (((hi - lo).toNat : Nat) : Int) := by rw [rangeSize_one]; split <;> omega
  refine tuple_range (I.ok.hd hc) e (small_one h1 h2 h3 h4) hn (by omega) fun g tk acc kp ha => ?_
  have I1 : Inv X pins σ H { s with heap := g, toks := tk } := I.kept kp
  refine ⟨.ref g.objs.size, _, I1.laid (fun b o e => Heap.get?_push_of_some _ e) (Nat.le_refl _) (show ObjOk X.prog X.w _ _ _ (.tup ((ups lo (hi - lo).toNat).map V.int)) from ⟨?_, acc.toList, vals_ups ha, ?_⟩), rfl, q _ (I1.hok.fresh (Nat.le_refl _))⟩
  · rw [List.length_map, ups_length]
    exact Nat.le_of_lt (small1000 hz)
  · rw [Array.toArray_toList]
    exact IsTup.new _ _
theorem call_list_rng (hc : X.calm = true) : CallR X (.type "list") (fun xs H Q => ∃ (p : Addr) (lo hi : Int), xs = [.ref p] ∧ H p = some (.rng lo hi) ∧ (-(2 ^ 62) ≤ lo ∧ lo < 2 ^ 62 ∧ -(2 ^ 62) ≤ hi ∧ hi < 2 ^ 62) ∧ (hi - lo).toNat ≤ 1000 ∧
    ∀ l, H l = none → Q (.ref l) (upd H l (.lst ((ups lo (hi - lo).toNat).map V.int)))) := by
  intro pins s σ H xs us Q I r h
  obtain ⟨p, lo, hi, rfl, hp, ⟨h1, h2, h3, h4⟩, hz, q⟩ := h
  obtain ⟨u, rfl, rx⟩ := vals1 r
  cases rx
  obtain ⟨t, u, v, e⟩ := (show ObjOk X.prog X.w H s.heap p (.rng lo hi) from I.hok p _ hp)
  have hn : Builtin.Range.rangeSize lo hi 1 = (((hi - lo).toNat : Nat) : Int) := by rw [rangeSize_one]; split <;> omega
  refine call_list_range (I.ok.hd hc) e (small_one h1 h2 h3 h4) hn (by omega) fun g tk acc k kp hg ha => ?_
  refine ⟨.ref s.heap.objs.size, _, I.laid kp (Nat.le_refl _) (show ObjOk X.prog X.w _ _ _ (.lst ((ups lo (hi - lo).toNat).map V.int)) from ⟨?_, acc.toList, k, vals_ups ha, by simpa using hg⟩), rfl, q _ I.fresh⟩
  rw [List.length_map, ups_length]
  exact Nat.le_of_lt (small1000 hz)

/-! ### == of tuples and of lists of ints -/
theorem readsAll_ints {h : Heap} : ∀ {us : List Value} {ns : List Int}, IntsAre us ns → ∃ as, ReadsAll h us (ns.map PyData.int) as
  | _, _, .nil => ⟨_, ReadsAll.nil⟩
  | _, _, .cons n t r => by
    obtain ⟨as, q⟩ := readsAll_ints r
    exact ⟨_, ReadsAll.cons (Reads.int n t) q⟩
theorem eqvAll_ints : ∀ ns ms : List Int, PyData.eqvAll (ns.map PyData.int) (ms.map PyData.int) = decide (ns = ms)
  | [], [] => by simp [PyData.eqvAll]
  | [], _ :: _ => by simp [PyData.eqvAll]
  | _ :: _, [] => by simp [PyData.eqvAll]
  | a :: r, b :: t => by
    simp only [List.map_cons, PyData.eqvAll, PyData.eqv, eqvAll_ints r t]
    by_cases h : a = b <;> by_cases h' : r = t <;> simp [h, h']
theorem shaped_tup (ns : List Int) : SeqAt.shaped (.tuple (ns.map PyData.int)) = true := by
  simp [SeqAt.shaped, PyData.canLay0, PyData.depth, PySem.W.ke_canLayAll0, PySem.W.ke_depthAll]
theorem shaped_lst (ns : List Int) : SeqAt.shaped (.list (ns.map PyData.int)) = true := by
  simp [SeqAt.shaped, PyData.canLay0, PyData.depth, PySem.W.ke_canLayAll0, PySem.W.ke_depthAll]
def rEqT (K : PySem.W.Frag) (neg : Bool) : R2 := fun x y H Q => ∃ (a b : Addr) (ns ms : List Int), x = .ref a ∧ y = .ref b ∧ ((SqT K H a (ns.map V.int) ∧ SqT K H b (ms.map V.int)) ∨ (SqL K H a (ns.map V.int) ∧ SqL K H b (ms.map V.int))) ∧ Q (.bl (xor neg (decide (ns = ms)))) H
theorem reads_pair {pins : List (Addr × Obj)} {σ : St} {H : Hp} {s : Shared} {a b : Addr} {ns ms : List Int} (I : Inv X pins σ H s) (h : (SqT X.K H a (ns.map V.int) ∧ SqT X.K H b (ms.map V.int)) ∨ (SqL X.K H a (ns.map V.int) ∧ SqL X.K H b (ms.map V.int))) :
    ∃ da db as bs, Reads s.heap (.ref a) da as ∧ Reads s.heap (.ref b) db bs ∧ SeqAt.shaped da = true ∧ SeqAt.shaped db = true ∧ PyData.eqv da db = decide (ns = ms) := by
  rcases h with ⟨h1, h2⟩ | ⟨h1, h2⟩
  · obtain ⟨its, r, ⟨o, e, c, n, d⟩, _⟩ := I.tuple h1
    obtain ⟨its', r', ⟨o', e', c', n', d'⟩, _⟩ := I.tuple h2
    obtain ⟨as, q⟩ := readsAll_ints (h := s.heap) (ints_of_vals r)
    obtain ⟨bs, q'⟩ := readsAll_ints (h := s.heap) (ints_of_vals r')
    exact ⟨_, _, _, _, reads_tuple_at e c d (by simpa using q), reads_tuple_at e' c' d' (by simpa using q'), shaped_tup _, shaped_tup _, by simp only [PyData.eqv]; exact eqvAll_ints ns ms⟩
  · obtain ⟨its, r, pl, _⟩ := I.list h1
    obtain ⟨its', r', pl', _⟩ := I.list h2
    obtain ⟨o, e, c, n, d⟩ := pl.isList
    obtain ⟨o', e', c', n', d'⟩ := pl'.isList
    obtain ⟨as, q⟩ := readsAll_ints (h := s.heap) (ints_of_vals r)
    obtain ⟨bs, q'⟩ := readsAll_ints (h := s.heap) (ints_of_vals r')
    exact ⟨_, _, _, _, reads_list_at e c d (by simpa using q), reads_list_at e' c' d' (by simpa using q'), shaped_lst _, shaped_lst _, by simp only [PyData.eqv]; exact eqvAll_ints ns ms⟩
theorem op_eqT (hu : X.A.units + 64 < cLine) : OpR X (compareOp .Eq) (rEqT X.K false) := by
  intro pins s σ H x y v u Q I rx ry h
  obtain ⟨a, b, ns, ms, rfl, rfl, hq, q⟩ := h
  cases rx
  cases ry
  obtain ⟨da, db, as, bs, r1, r2, s1, s2, e⟩ := reads_pair I hq
  exact eq_dataH r1 r2 s1 s2 hu (fin_bl I q (by rw [e]; simp))
theorem op_neT (hu : X.A.units + 64 < cLine) : OpR X (compareOp .NotEq) (rEqT X.K true) := by
  intro pins s σ H x y v u Q I rx ry h
  obtain ⟨a, b, ns, ms, rfl, rfl, hq, q⟩ := h
  cases rx
  cases ry
  obtain ⟨da, db, as, bs, r1, r2, s1, s2, e⟩ := reads_pair I hq
  exact ne_dataH r1 r2 s1 s2 hu (fin_bl I q (by rw [e]; simp))

/-! ### isinstance(x, T) -/
theorem call_isinst : CallR X (.builtin "isinstance") (fun xs H Q => ∃ (x : V) (n : String) (t : Value) (b : Bool), xs = [x, .ty n] ∧ TyOf X.K H x t ∧ PySem.W.kitOne X.K t (.type n) = some b ∧ Q (.bl b) H) := by
  intro pins s σ H xs us Q I r h
  obtain ⟨x, n, t, b, rfl, ty, e, q⟩ := h
  obtain ⟨u, v, rfl, r1, r2⟩ := r.two
  cases r2
  exact isinst_ok I r1 ty e fun tk => ⟨.bl b, H, I.tok tk, rfl, q⟩
end
theorem kit_same (K : PySem.W.Frag) (t : Value) : PySem.W.kitOne K t t = some true := by
  unfold PySem.W.kitOne
  rw [if_pos (by simp)]

/-! ### () + u -/
section
variable {X : Cx}
theorem op_catT0 : OpR X (binaryOp .Add) (fun x y H Q => ∃ a b ys, x = .ref a ∧ y = .ref b ∧ SqT X.K H a [] ∧ SqT X.K H b ys ∧ Q (.ref b) H) := by
  intro pins s σ H x y v u Q I rx ry h
  obtain ⟨a, b, ys, rfl, rfl, ha, hb, q⟩ := h
  cases rx
  cases ry
  obtain ⟨its, r1, p1, _⟩ := I.tuple ha
  obtain ⟨its2, r2, p2, _⟩ := I.tuple hb
  cases r1
  obtain ⟨⟨cls, dd, data, sl⟩, ho, hc, n, hd⟩ := id p1
  obtain ⟨⟨cls2, dd2, data2, sl2⟩, ho2, hc2, n2, hd2⟩ := id p2
  simp only at hc hd hc2 hd2
  subst hc hd hc2 hd2
  exact concat_meets ⟨_, ho, rfl⟩ ⟨_, ho2, rfl⟩ noFill_tuple_add seq_tuple_add PySem.F.slot_tuple_add PySem.F.entry_tuple_add (PySem.F.args_tuple_add_2 _ _)
    (tuple_addW0 a b _ _ n n2 dd dd2 sl sl2 (by simp)) ⟨ho, ho2, ⟨.ref b, H, I, rfl, q⟩⟩
/-- t + u, whatever t is -/
theorem op_catTA : OpR X (binaryOp .Add) (fun x y H Q => ∃ a b xs ys, x = .ref a ∧ y = .ref b ∧ SqT X.K H a xs ∧ SqT X.K H b ys ∧ xs.length + ys.length ≤ sizeLine ∧
    ∀ p H', (H' = H ∨ (H p = none ∧ H' = upd H p (.tup (xs ++ ys)))) → SqT X.K H' p (xs ++ ys) → Q (.ref p) H') := by
  intro pins s σ H x y v u Q I rx ry h
  obtain ⟨a, b, xs, ys, rfl, rfl, ha, hb, hz, q⟩ := h
  cases xs with
  | nil => exact op_catT0 pins s σ H _ _ v u Q I rx ry ⟨a, b, ys, rfl, rfl, ha, hb, q b H (.inl rfl) hb⟩
  | cons z zs => exact op_catT pins s σ H _ _ v u Q I rx ry ⟨a, b, z :: zs, ys, rfl, rfl, ha, hb, (fun e => nomatch e), hz, fun e => q a H (.inl rfl) (by rw [e, List.append_nil]; exact ha), fun _ p hp => q p _ (.inr ⟨hp, rfl⟩) (SqT.of upd_same)⟩
end

/-! ### heaps -/
theorem same_new {H : Hp} {p : Addr} (h : H p = none) (o : HO) : Same H (upd H p o) := fun b u q => by rw [upd_ne (ne_of_none q h)]; exact q
theorem Same.seqT {K : PySem.W.Frag} {H H' : Hp} {a : Addr} {xs : List V} (e : Same H H') (h : SqT K H a xs) : SqT K H' a xs := by
  rcases h with (h | ⟨o, h⟩) | h
  · exact .inl (.inl (e _ _ h))
  · exact .inl (.inr ⟨o, e _ _ h⟩)
  · exact .inr h
theorem small_of {n : Nat} (h : n ≤ 1000) : n ≤ sizeLine := Nat.le_of_lt (small1000 h)
theorem iteTn {c : Prop} [Decidable c] {A B : Prop} (hc : c) (h : A) : if decide c = true then A else B := by
  rw [decide_eq_true hc]; exact iteT h
theorem iteFn {c : Prop} [Decidable c] {A B : Prop} (hc : ¬ c) (h : B) : if decide c = true then A else B := by
  rw [decide_eq_false hc]; exact iteF h
theorem iteT' {b : Bool} {A B : Prop} (hb : b = true) (h : A) : if b = true then A else B := by subst hb; exact iteT h
theorem iteF' {b : Bool} {A B : Prop} (hb : b = false) (h : B) : if b = true then A else B := by subst hb; exact iteF h

/-! ### a comprehension of plain elements -/
/-- over a tuple that stays: f of each item, the heap stays -/
theorem comp_tup {K : PySem.W.Frag} {a : Addr} {xs : List V} {js : List Nat} {te : TE} {σ : St} {H1 : Hp} {Q : VK} (f : V → V) (hS : SqT K H1 a xs) (hz : xs.length ≤ 1000)
    (he : ∀ (i : Nat) v H' Q', xs[i]? = some v → Same H1 H' → Q' (f v) H' → te (some v :: capd σ js) H' Q') (fin : ∀ D H', Same H1 H' → H' D = some (.lst (xs.map f)) → Q (.ref D) H') : tCompW js tTrue te σ (Itt K a) H1 Q := by
  intro D hD
  refine ⟨fun i m ys H => m = xs.length - i ∧ i ≤ xs.length ∧ ys = (xs.take i).map f ∧ H D = some (.lst ys) ∧ Same H1 H, ⟨xs.length, by simp, Nat.zero_le _, rfl, upd_same, same_new hD _⟩, ?_⟩
  rintro i m ys H ⟨rfl, hi, rfl, hH, sm⟩
  refine ⟨hH, ?_⟩
  by_cases hlt : i < xs.length
  · refine .inr ⟨⟨xs, xs[i], sm.seqT hS, by simp [hlt]⟩, fun v H' y => ?_⟩
    obtain ⟨rfl, y⟩ := y
    have hv := y xs (sm.seqT hS)
    refine he i v _ _ hv sm ⟨hH, small1000 ?_, xs.length - (i + 1), by omega, rfl, hlt, ?_, upd_same, fun b u q => by rw [upd_ne (ne_of_none q hD)]; exact sm b u q⟩
    · rw [List.length_map, List.length_take]; omega
    · rw [List.take_succ, hv, List.map_append]
      rfl
  · have e : i = xs.length := by omega
    subst e
    exact .inl ⟨⟨xs, sm.seqT hS, Nat.le_refl _⟩, fin D H sm (by rw [hH, List.take_length])⟩
/-- over a list that stays -/
theorem comp_lst {K : PySem.W.Frag} {a : Addr} {xs : List V} {js : List Nat} {te : TE} {σ : St} {H1 : Hp} {Q : VK} (f : V → V) (hS : SqL K H1 a xs) (hz : xs.length ≤ 1000)
    (he : ∀ (i : Nat) v H' Q', xs[i]? = some v → Same H1 H' → Q' (f v) H' → te (some v :: capd σ js) H' Q') (fin : ∀ D H', Same H1 H' → H' D = some (.lst (xs.map f)) → Q (.ref D) H') : tCompW js tTrue te σ (Itl K a) H1 Q := by
  intro D hD
  refine ⟨fun i m ys H => m = xs.length - i ∧ i ≤ xs.length ∧ ys = (xs.take i).map f ∧ H D = some (.lst ys) ∧ Same H1 H, ⟨xs.length, by simp, Nat.zero_le _, rfl, upd_same, same_new hD _⟩, ?_⟩
  rintro i m ys H ⟨rfl, hi, rfl, hH, sm⟩
  refine ⟨hH, ?_⟩
  by_cases hlt : i < xs.length
  · refine .inr ⟨⟨xs, xs[i], sm.seq hS, by simp [hlt]⟩, fun v H' y => ?_⟩
    obtain ⟨rfl, y⟩ := y
    have hv := y xs (sm.seq hS)
    refine he i v _ _ hv sm ⟨hH, small1000 ?_, xs.length - (i + 1), by omega, rfl, hlt, ?_, upd_same, fun b u q => by rw [upd_ne (ne_of_none q hD)]; exact sm b u q⟩
    · rw [List.length_map, List.length_take]; omega
    · rw [List.take_succ, hv, List.map_append]
      rfl
  · have e : i = xs.length := by omega
    subst e
    exact .inl ⟨⟨xs, sm.seq hS, Nat.le_refl _⟩, fin D H sm (by rw [hH, List.take_length])⟩
end L2
namespace L2
open PySem PySem.Spec PyProof.Rows Tm
/-! ### the same rules, the written part named (within a comprehension) -/
section
variable {X : Cx}
theorem ix_tupK (K : PySem.W.Frag) (h : X.K = K := by rfl) : IxR X (rIxT K) := h ▸ ix_tup
theorem ix_listK (K : PySem.W.Frag) (h : X.K = K := by rfl) : IxR X (rIxL K) := h ▸ ix_list
theorem ix_seqK (K : PySem.W.Frag) (h : X.K = K := by rfl) : IxR X (rIx K) := h ▸ ix_seq
theorem sl_listK (K : PySem.W.Frag) (h : X.K = K := by rfl) : SlR X (rSlL K) := h ▸ sl_list
theorem call_len_seqK (K : PySem.W.Frag) (h : X.K = K := by rfl) : CallR X (.builtin "len") (fun xs H Q => ∃ p ys, xs = [.ref p] ∧ (SqL K H p ys ∨ SqT K H p ys) ∧ Q (.int ys.length) H) := h ▸ call_len_seq
theorem call_list_ofK (K : PySem.W.Frag) (h : X.K = K := by rfl) : CallR X (.type "list") (fun xs H Q => ∃ p ys, xs = [.ref p] ∧ (SqL K H p ys ∨ SqT K H p ys) ∧ ∀ l, H l = none → Q (.ref l) (upd H l (.lst ys))) := h ▸ call_list_of
theorem call_tuple_ofK (K : PySem.W.Frag) (h : X.K = K := by rfl) : CallR X (.type "tuple") (fun xs H Q => ∃ p ys, xs = [.ref p] ∧ ((SqL K H p ys ∧ ∀ l, H l = none → Q (.ref l) (upd H l (.tup ys))) ∨ (SqT K H p ys ∧ Q (.ref p) H))) := h ▸ call_tuple_of
end
end L2

set_option Elab.async false
set_option linter.all false
set_option maxRecDepth 100000
set_option maxHeartbeats 4000000
namespace L2
open PySem PySem.Spec PyProof.Rows
open AutoSeq1 (wpAny_loadPart')
section
variable {prog : Program} {w : World} {A : Around} {E : Value → Shared → Prop} {s : Shared}
/-- the next item of a tuple's iterator, as enumerate asks for it -/
theorem nextOf_tup {it t : Addr} {i : Nat} {items : Array Value} {x : Value} {Q : Value → Shared → Prop} (hi : s.heap.IsTupleIter it t i) (ht : s.heap.IsTuple t items) (hx : items[i]? = some x)
    (hQ : ∀ g, g.IsTupleIter it t (i + 1) → Heap.SameBut it s.heap g → Q x { s with heap := g }) : wpAny (model prog w) A (Builtin.SmallTypes.nextOf (.ref it)) Q E s := by
  obtain ⟨o, ho, hc, hd⟩ := id hi
  obtain ⟨ol, hol, _, nl, hdl⟩ := ht
  unfold Builtin.SmallTypes.nextOf
  refine wpAny_bind (wpAny_callSpecial?_slot (name := Str.ofString "__next__") hi.typeIs F.slot_tuple_iterator_next (wpAny_call_entry F.slot_tuple_iterator_next hi.typeIs F.entry_tuple_iterator_next ?_ (F.args_tuple_iterator_next_1 _)))
  show wpAny _ _ (field (.ref it) 0 >>= _) _ _ s
  refine wpAny_bind (wpAny_field ho hd (x := .ref t) rfl ?_)
  show wpAny _ _ (if (Value.ref t == Value.none) = true then _ else _) _ _ s
  rw [if_neg (by intro z; cases z)]
  show wpAny _ _ (field (.ref it) 1 >>= _) _ _ s
  refine wpAny_bind (wpAny_field ho hd (x := .int i 0) rfl ?_)
  show wpAny _ _ (seqItems? (.ref t) >>= _) _ _ s
  refine wpAny_bind (wpAny_seqItems hol hdl ?_)
  simp only [Int.toNat_natCast, hx]
  refine wpAny_bind (wpAny_setField ho hd (by simp) (wpAny_pure ⟨x, rfl, wpAny_pure (hQ _ ⟨_, Heap.get?_update_self _ ho (Obj.isFreed_of_fields (Obj.data_mapFields hd _)), (Obj.cls_mapFields ..).trans hc, ?_⟩ (Heap.SameBut.update ..))⟩))
  rw [Obj.data_mapFields hd]
  simp [rawInt]
theorem nextOf_tup_end {it t : Addr} {i : Nat} {items : Array Value} {Q : Value → Shared → Prop} (hh : A.handled = none) (hi : s.heap.IsTupleIter it t i) (ht : s.heap.IsTuple t items) (hx : items[i]? = none)
    (hE : ∀ g e, Heap.ExtBut it s.heap g → (∃ o, g.get? e = some o ∧ o.cls = .type "StopIteration") → E (.ref e) { s with heap := g }) : wpAny (model prog w) A (Builtin.SmallTypes.nextOf (.ref it)) Q E s := by
  obtain ⟨o, ho, hc, hd⟩ := id hi
  obtain ⟨ol, hol, _, nl, hdl⟩ := ht
  unfold Builtin.SmallTypes.nextOf
  refine wpAny_bind (wpAny_callSpecial?_slot (name := Str.ofString "__next__") hi.typeIs F.slot_tuple_iterator_next (wpAny_call_entry F.slot_tuple_iterator_next hi.typeIs F.entry_tuple_iterator_next ?_ (F.args_tuple_iterator_next_1 _)))
  show wpAny _ _ (field (.ref it) 0 >>= _) _ _ s
  refine wpAny_bind (wpAny_field ho hd (x := .ref t) rfl ?_)
  show wpAny _ _ (if (Value.ref t == Value.none) = true then _ else _) _ _ s
  rw [if_neg (by intro z; cases z)]
  show wpAny _ _ (field (.ref it) 1 >>= _) _ _ s
  refine wpAny_bind (wpAny_field ho hd (x := .int i 0) rfl ?_)
  show wpAny _ _ (seqItems? (.ref t) >>= _) _ _ s
  refine wpAny_bind (wpAny_seqItems hol hdl ?_)
  simp only [Int.toNat_natCast, hx]
  refine wpAny_bind (wpAny_rule (wpAny_bind (wpAny_setField ho hd (by simp) ?_)))
  show wpAny _ _ (newExc (.type "StopIteration") [] >>= _) _ _ _
  refine wpAny_bind ?_
  simp only [newExc, newTuple]
  refine wpAny_bind (wpAny_newObj_type ?_ (by size_fits))
  refine wpAny_bind (m := firstArgMember _ _) (wpAny_of_eq (a := Value.none) (by first | rfl | (simp only [firstArgMember]; rfl)) ?_)
  refine wpAny_newObj_type ?_ (by size_fits)
  simp only [raiseNew]
  refine wpAny_bind (wpAny_handled ?_)
  first | rw [show A.in1.handled = none from hh] | rw [hh]
  refine wpAny_bind (wpAny_pure (wpAny_throw ?_))
  exact hE _ _ (((Heap.SameBut.update ..).extBut.push _).push _) ⟨_, Heap.get?_push_size _ rfl, rfl⟩
theorem draws_tup (hh : A.handled = none) (it t : Addr) (hne : t ≠ it) (items : Array Value) : Draws prog w A it [it, t] items.size (fun i v => items[i]? = some v) (fun i h => h.IsTupleIter it t i ∧ h.IsTuple t items) where
  live := fun _ _ st => let ⟨o, ho, _⟩ := st.1; ⟨o, ho⟩
  frame := fun _ _ _ st hk => ⟨let ⟨o, ho, r⟩ := st.1; ⟨o, hk it (by simp) o ho, r⟩, let ⟨o, ho, r⟩ := st.2; ⟨o, hk t (by simp) o ho, r⟩⟩
  item := fun i s Q E hi st hQ => by
    refine nextOf_tup st.1 st.2 (x := items[i]) (by simp [hi]) fun g hg sb => ?_
    refine hQ _ g s.toks (by simp [hi]) ⟨hg, ?_⟩ sb
    obtain ⟨o, ho, r⟩ := st.2
    exact ⟨o, (sb.2 t hne).trans ho, r⟩
  done := fun s Q E st hE => nextOf_tup_end hh st.1 st.2 (by simp) hE
/-- enumerate(t), t a tuple -/
theorem enum_new_tup (l : Addr) (items : Array Value) (n : Nat) (dct : Option Addr) (sl : Array (Option Value)) :
    Meets (Builtin.«enumerate.__new__» ⟨[.type "enumerate", .ref l], []⟩) (fun _ R s => s.heap.get? l = some { cls := .type "tuple", dict := dct, data := .seq items n, slots := sl } ∧
      R (.ok (.ret (.ref (s.heap.push { cls := .type "tuple_iterator", data := .fields #[.ref l, .int 0 0] }).objs.size)))
        { s with heap := (s.heap.push { cls := .type "tuple_iterator", data := .fields #[.ref l, .int 0 0] }).push { cls := .type "enumerate", data := .fields #[.none, .bool false, .ref s.heap.objs.size, rawInt 0, .none, .none] } }) :=
  .of_wp fun prog w A R s h => by
    obtain ⟨hp, g, d, tk, os⟩ := s; obtain ⟨hl, h⟩ := h
    have hsub := sub_enumerate
    have hT : Heap.IsTuple (Shared.heap ⟨hp, g, d, tk, os⟩) l items := ⟨_, hl, rfl, n, rfl⟩
    wp_walk using wpAny_loadPart' hl
    refine wpAny_stack_any fun st => wpAny_pure ?_
    split
    · rename_i c _ _ _ _ _
      cases (c == Value.type "enumerate")
      · wp_walk using wpAny_loadPart' hl, wpAny_pyIter_tuple hT
        exact ⟨_, rfl, h⟩
      · wp_walk using wpAny_loadPart' hl, wpAny_pyIter_tuple hT
        exact ⟨_, rfl, h⟩
    · wp_walk using wpAny_loadPart' hl, wpAny_pyIter_tuple hT
      exact ⟨_, rfl, h⟩
theorem enum_tup {l : Addr} {items : Array Value} {Q : Value → Shared → Prop} (hL : s.heap.IsTuple l items)
    (h : ∀ g, IsEnum g (s.heap.objs.size + 1) s.heap.objs.size 0 .none → g.IsTupleIter s.heap.objs.size l 0 → g.objs.size = s.heap.objs.size + 2 → (∀ b o, s.heap.get? b = some o → g.get? b = some o) → Q (.ref (s.heap.objs.size + 1)) { s with heap := g }) :
    wpAny (model prog w) A (call (.type "enumerate") [.ref l]) Q E s := by
  obtain ⟨⟨c, dct, dt, sl⟩, hl, hc, n, hd⟩ := hL
  replace hc : c = .type "tuple" := hc
  replace hd : dt = .seq items n := hd
  subst hc hd
  refine callType_new F.called_enumerate (by decide) (F.typeCall_enumerate_1 _) (F.newCall_enumerate_1 _) (fun obj => F.args_object_init_2 obj _) F.entry_enumerate_new (enum_new_tup l items n dct sl) ⟨hl, ?_⟩
  have hz : (s.heap.push { cls := .type "tuple_iterator", data := .fields #[.ref l, .int 0 0] }).objs.size = s.heap.objs.size + 1 := Heap.size_push ..
  show _ ∧ _
  rw [hz]
  have he : IsEnum ((s.heap.push { cls := .type "tuple_iterator", data := .fields #[.ref l, .int 0 0] }).push { cls := .type "enumerate", data := .fields #[.none, .bool false, .ref s.heap.objs.size, rawInt 0, .none, .none] }) (s.heap.objs.size + 1) s.heap.objs.size 0 .none := by
    have q := Heap.get?_push_size (s.heap.push { cls := .type "tuple_iterator", data := .fields #[.ref l, .int 0 0] }) (o := { cls := .type "enumerate", data := .fields #[.none, .bool false, .ref s.heap.objs.size, rawInt 0, .none, .none] }) rfl
    rw [hz] at q; exact q
  exact ⟨⟨_, he, rfl⟩, h _ he ⟨_, Heap.get?_push_of_some _ (Heap.get?_push_size _ rfl), rfl, rfl⟩ (by rw [Heap.size_push, hz]) fun b o x => Heap.get?_push_of_some _ (Heap.get?_push_of_some _ x)⟩
end

/-! ### for i, x in enumerate(t), t a tuple -/
def Ite (K : PySem.W.Frag) (a : Addr) : It :=
  ⟨fun i H => ∃ xs x, SqT K H a xs ∧ xs[i]? = some x, fun i H v H' => ∃ p x, v = .ref p ∧ H p = none ∧ H' = upd H p (.tup [.int (i : Nat), x]) ∧ ∀ xs, SqT K H a xs → xs[i]? = some x, fun i H => ∃ xs, SqT K H a xs ∧ xs.length = i⟩
theorem turn_enum {P : Program} {w : World} {K : PySem.W.Frag} {elts : List Expr} {k : Nat} {tpos : Pos} (a e it : Addr) (hne : e ≠ it) : Turn P w K (.Tuple elts k tpos) (Ite K a) [e, it] e (fun i h => (∃ old, IsEnum h e it (i : Nat) old) ∧ h.IsTupleIter it a i) where
  mem := by simp
  obj := fun i h st b hb => by
    rcases List.mem_cons.mp hb with q | q
    · subst q
      obtain ⟨⟨old, he⟩, _⟩ := st
      exact ⟨_, he, fun v z => by
        have z' : Data.fields _ = Data.cell v := z
        cases z'⟩
    · have q' := List.mem_singleton.mp q
      subst q'
      obtain ⟨_, o, ho, hc, hd⟩ := st
      exact ⟨o, ho, fun v z => by rw [hd] at z; cases z⟩
  keep := fun i h h' st kp => by
    obtain ⟨⟨old, he⟩, o, ho, r⟩ := st
    exact ⟨⟨old, kp e (by simp) _ he⟩, o, kp it (by simp) o ho, r⟩
  item := by
    intro X hP hw hK hc i pins s σ H E I hf st hg
    subst hP hw hK
    obtain ⟨xs, x, hq, hx⟩ := hg
    obtain ⟨its, rv, p, hz⟩ := I.tuple hq
    obtain ⟨u, hu, ru⟩ := rv.get hx
    obtain ⟨⟨old, he⟩, hit⟩ := st
    have hae : a ≠ e := fun z => by
      obtain ⟨o, ho, c, _⟩ := p
      rw [z, he] at ho
      cases ho
      exact absurd c (by intro q; injection q with q; exact absurd q (by decide))
    have hai : a ≠ it := fun z => by
      obtain ⟨o, ho, c, _⟩ := p
      obtain ⟨o', ho', c', _⟩ := hit
      rw [z, ho'] at ho
      cases ho
      rw [c] at c'
      exact absurd c' (by intro q; injection q with q; exact absurd q (by decide))
    have D := draws_tup (prog := X.prog) (w := X.w) (A := X.A.in1) (I.ok.hd hc) it a hai its.toArray
    have hlt : i < its.toArray.size := by
      have := (List.getElem?_eq_some_iff.mp hu).1
      simpa using this
    have hef : e ∉ [it, a] := by
      intro z
      rcases List.mem_cons.mp z with q | q
      · exact hne q
      · exact hae (List.mem_singleton.mp q).symm
    refine wpAny_pyNext_enum_itemD D he ⟨hit, p⟩ hlt hne hef fun y h1 tk hy ho1 hs1 hT1 hsz1 hk1 => ?_
    have ey : y = u := by
      have : its.toArray[i]? = some y := hy
      have h2 : its[i]? = some y := by simpa using this
      rw [hu] at h2
      exact (Option.some.inj h2).symm
    subst ey
    refine ⟨_, rfl, wpAny_letOwnedTupleGo_enum ho1 fun h2 he2 sb2 => ?_⟩
    have ltE : e < s.heap.objs.size := Heap.lt_size he
    have ltI : it < s.heap.objs.size := by obtain ⟨o, q, _⟩ := hit; exact Heap.lt_size q
    have kp : ∀ b o, b ≠ e → b ≠ it → s.heap.get? b = some o → h2.get? b = some o := fun b o h1' h2' q => (sb2.2 b h1').trans (hk1 b o h1' h2' q)
    have fr : H s.heap.objs.size = none := I.fresh
    have fE := hf e (by simp)
    have fI := hf it (by simp)
    have trk : ∀ b o, H b = some o → b ≠ e ∧ b ≠ it := fun b o q => ⟨fun z => (by rw [z, fE.1] at q; cases q), fun z => (by rw [z, fI.1] at q; cases q)⟩
    have nch : ∀ b, b ∉ [e, it] → b ≠ e ∧ b ≠ it := fun b q => ⟨fun z => q (by simp [z]), fun z => q (by simp [z])⟩
    refine ⟨.ref s.heap.objs.size, upd H s.heap.objs.size (.tup [.int (i : Nat), x]), ?_, rfl, ⟨s.heap.objs.size, x, rfl, fr, rfl, fun ys hy' => by rw [I.tuple_inj hy' hq]; exact hx⟩, ⟨⟨y, by simpa using he2⟩, ?_⟩, fun b hb => ?_⟩
    · suffices J : Inv X pins σ (upd H s.heap.objs.size (.tup [.int (i : Nat), x])) { s with heap := h2, gens := s.gens, drawn := s.drawn, toks := tk + 1 } from J
      refine I.step (s := s) (h' := h2) (t' := tk + 1) (g' := s.gens) (d' := s.drawn) (ch := [e, it]) (fun b hb => ?_) (fun b o _ _ hc' q _ => kp b o (nch b hc').1 (nch b hc').2 q) (fun b o _ _ hc' q _ => ⟨o.slots, kp b o (nch b hc').1 (nch b hc').2 q⟩)
        (fun b o hc' q n => by rw [upd_ne (Nat.ne_of_lt (Heap.lt_size q))]; exact n) (fun b o hc' q => ⟨o, kp b o (nch b hc').1 (nch b hc').2 q⟩)
        (fun b zs q => by rw [upd_ne (ne_of_none q fr)]; exact q) (fun b o zs q => by rw [upd_ne (ne_of_none q fr)]; exact q) (fun b ps q => ⟨#[], by rw [upd_ne (ne_of_none q fr), q]; simp⟩) (fun m hm => ?_) (fun b o q => ?_) I.bare
      · rcases List.mem_cons.mp hb with q | q
        · subst q
          exact ⟨fE.2.2.2.1, fE.2.1, fE.2.2.2.2.1, fE.2.2.2.2.2⟩
        · have q' := List.mem_singleton.mp q
          subst q'
          exact ⟨fI.2.2.2.1, fI.2.1, fI.2.2.2.2.1, fI.2.2.2.2.2⟩
      · obtain ⟨o, es, ep, ho, r⟩ := hm
        exact ⟨o, es, ep, kp _ o (Ne.symm fE.2.1) (Ne.symm fI.2.1) ho, r⟩
      · by_cases hb : b = s.heap.objs.size
        · subst hb
          rw [upd_same] at q
          cases q
          refine ⟨by show 2 ≤ sizeLine; decide, [.int i tk, y], .cons ⟨tk, rfl⟩ (.cons ru .nil), ⟨_, (sb2.2 _ (Nat.ne_of_gt ltE)).trans hT1, rfl, _, rfl⟩⟩
        · rw [upd_ne hb] at q
          refine (I.hok b o q).stay (fun c v hc' q' => ?_) (fun c q' => by rw [upd_ne (ne_of_none q' fr)]; exact q') fun c zs q' => by rw [upd_ne (ne_of_none q' fr)]; exact q'
          have hcn : c ≠ e ∧ c ≠ it := by
            rcases hc' with z | z
            · rw [z]; exact trk b o q
            · exact trk c _ z
          exact kp c v hcn.1 hcn.2 q'
    · obtain ⟨o, ho, r⟩ := hs1.1
      exact ⟨o, (sb2.2 it (Ne.symm hne)).trans ho, r⟩
    · have hlt' : b < s.heap.objs.size := by
        rcases List.mem_cons.mp hb with q | q
        · rw [q]; exact ltE
        · rw [List.mem_singleton.mp q]; exact ltI
      rw [upd_ne (Nat.ne_of_lt hlt')]
      exact (hf b hb).1
  done := by
    intro X hP hw hK hc i pins s σ H E I hf st hg
    subst hP hw hK
    obtain ⟨xs, hq, hx⟩ := hg
    obtain ⟨its, rv, p, hz⟩ := I.tuple hq
    obtain ⟨⟨old, he⟩, hit⟩ := st
    have hai : a ≠ it := fun z => by
      obtain ⟨o, ho, c, _⟩ := p
      obtain ⟨o', ho', c', _⟩ := hit
      rw [z, ho'] at ho
      cases ho
      rw [c] at c'
      exact absurd c' (by intro q; injection q with q; exact absurd q (by decide))
    have D := draws_tup (prog := X.prog) (w := X.w) (A := X.A.in1) (I.ok.hd hc) it a hai its.toArray
    have hl := rv.length
    have en : i = its.toArray.size := by simp; omega
    obtain ⟨f0, f1, f2, f3, f4, f5⟩ := hf it (by simp)
    exact wpAny_pyNext_enum_endD D he ⟨en ▸ hit, p⟩ fun h' ex => ⟨rfl, I.turned (t' := s.toks) (fun b o hb q => ex b o hb q) f0 f1 f3 f4 f5⟩
  self := fun A i s Q E st h => by
    obtain ⟨⟨old, he⟩, _⟩ := st
    exact wpAny_pyIter_enum he h
section
variable {X : Cx}
def iEnum (K : PySem.W.Frag) (ta : TA) : TI := fun σ H R => ta σ H fun vs H1 => ∃ a, vs = [.ref a] ∧ (∃ xs, SqT K H1 a xs) ∧ R (Ite K a) H1
theorem pi_enum {elts : List Expr} {k : Nat} {tpos : Pos} {a : Expr} {ta : TA} {p pos : Pos} (hg : Gl X "enumerate") (hm : X.mg "enumerate" = none) (ha : PA X [a] ta) (hs : starEach [a] X.env = [(false, eval a X.env)] := by rfl) :
    PI X (.Tuple elts k tpos) (.Call (.Name "enumerate" p) [a] [] pos) (iEnum X.K ta) := by
  intro pins s σ H R I h
  refine Call_ (ld_blt I hg hm boot_enumerate (PyProof.Rows.callWith_type1 (thn (ha pos pins s σ H _ I h) fun us s1 ⟨vs, H1, I1, r1, q1⟩ => ?_) hs rfl))
  obtain ⟨b, e, ⟨xs, hq⟩, q⟩ := q1
  subst e
  obtain ⟨u, rfl, rx⟩ := vals1 r1
  cases rx
  obtain ⟨its, rv, p', hz⟩ := I1.tuple hq
  refine enum_tup p' fun g he hit hsz kp => ?_
  have I2 : Inv X pins σ H1 { s1 with heap := g } := I1.kept (t' := s1.toks) kp
  refine wpAny_pyIter_enum he ?_
  refine ⟨s1.heap.objs.size + 1, [s1.heap.objs.size + 1, s1.heap.objs.size], _, _, H1, rfl, I2, turn_enum b _ _ (Nat.succ_ne_self _), ⟨⟨_, he⟩, hit⟩, fun c hc => ?_, q⟩
  rcases List.mem_cons.mp hc with z | z
  · subst z
    have := I1.fpOk (b := s1.heap.objs.size + 1) (H' := H1) (Nat.le_succ _) (I1.hok.fresh (Nat.le_succ _))
    exact this
  · rw [List.mem_singleton.mp z]
    exact I1.fpOk (H' := H1) (Nat.le_refl _) (I1.hok.fresh (Nat.le_refl _))
end
theorem for_enum {K : PySem.W.Frag} {a : Addr} {xs : List V} {g : TG} {tb : TS} {D : Ends} {σ : St} {H : Hp} (Pv : Nat → St → Hp → Prop) (h0 : Pv 0 σ H) (hl : ∀ i σ H, i ≤ xs.length → Pv i σ H → SqT K H a xs)
    (hs : ∀ i x σ H p, xs[i]? = some x → Pv i σ H → H p = none → g (.ref p) σ (upd H p (.tup [.int (i : Nat), x])) fun σ2 H2 => tb { D with nx := Pv (i + 1), ct := Pv (i + 1), bk := D.nx } σ2 H2) (hd : ∀ σ H, Pv xs.length σ H → D.nx σ H) :
    ∃ W : Nat → Nat → St → Hp → Prop, (∃ m, W 0 m σ H) ∧ ∀ i m σ H, W i m σ H →
      ((Ite K a).stop i H ∧ D.nx σ H) ∨ ((Ite K a).go i H ∧ ∃ N : St → Hp → Prop, (∀ σ' H', N σ' H' → ∃ m', m' < m ∧ W (i + 1) m' σ' H') ∧ ∀ x H', (Ite K a).yld i H x H' → g x σ H' fun σ2 H2 => tb { D with nx := N, ct := N, bk := D.nx } σ2 H2) := by
  refine ⟨fun i m σ H => m = xs.length - i ∧ i ≤ xs.length ∧ Pv i σ H, ⟨xs.length, by simp, Nat.zero_le _, h0⟩, ?_⟩
  rintro i m σ H ⟨rfl, hi, p⟩
  have q := hl i σ H hi p
  by_cases hlt : i < xs.length
  · refine .inr ⟨⟨xs, xs[i], q, by simp [hlt]⟩, Pv (i + 1), fun σ' H' p' => ⟨xs.length - (i + 1), by omega, rfl, hlt, p'⟩, fun x H' y => ?_⟩
    obtain ⟨pp, xx, rfl, hn, rfl, y⟩ := y
    exact hs i xx σ _ pp (y xs q) p hn
  · have e : i = xs.length := by omega
    subst e
    exact .inl ⟨⟨xs, q, rfl⟩, hd σ H p⟩
end L2

set_option Elab.async false
set_option linter.all false
set_option maxRecDepth 100000
set_option maxHeartbeats 4000000
namespace L2
open PySem PySem.Spec PyProof.Rows
section
variable {X : Cx}
/-! ### isinstance(x, (S, T)) -/
theorem kit_of {pins : List (Addr × Obj)} {σ : St} {H : Hp} {s : Shared} {x : V} {u t : Value} (I : Inv X pins σ H s) (rx : RelV x u) (ty : TyOf X.K H x t) : ∃ HH : Heap → Prop, PySem.W.KitX X.K u t HH ∧ HH s.heap ∧ u ≠ .builtin "__main__.__loader__#opaque" := by
  cases ty with
  | non => cases (show u = Value.none from rx); exact ⟨_, PySem.W.kitx_none, True.intro, fun z => nomatch z⟩
  | bl y => cases (show u = Value.bool y from rx); exact ⟨_, PySem.W.kitx_bool, True.intro, fun z => nomatch z⟩
  | int i => obtain ⟨t, q⟩ := (show ∃ t, u = Value.int i t from rx); cases q; exact ⟨_, PySem.W.kitx_int, True.intro, fun z => nomatch z⟩
  | str y => obtain ⟨t, q⟩ := (show ∃ t, u = Value.str y t from rx); cases q; exact ⟨_, PySem.W.kitx_str, True.intro, fun z => nomatch z⟩
  | flt y => obtain ⟨t, q⟩ := (show ∃ t, u = Value.float y t from rx); cases q; exact ⟨_, PySem.W.kitx_float, True.intro, fun z => nomatch z⟩
  | @lst a xs ea =>
    cases (show u = Value.ref a from rx)
    obtain ⟨_, _, n, _, h1⟩ := (show ObjOk X.prog X.w H s.heap a (.lst xs) from I.hok a _ ea)
    exact ⟨_, PySem.W.kitx_list, ⟨_, h1, rfl⟩, fun z => nomatch z⟩
  | @frz a ob xs ea =>
    cases (show u = Value.ref a from rx)
    obtain ⟨_, _, _, n, _, h1⟩ := (show ObjOk X.prog X.w H s.heap a (.frz ob (.lst xs)) from I.hok a _ ea)
    exact ⟨_, PySem.W.kitx_list, ⟨_, h1, rfl⟩, fun z => nomatch z⟩
  | @tup a xs ea =>
    cases (show u = Value.ref a from rx)
    obtain ⟨_, _, _, p⟩ := (show ObjOk X.prog X.w H s.heap a (.tup xs) from I.hok a _ ea)
    obtain ⟨o, h1, h2, _⟩ := p
    exact ⟨_, PySem.W.kitx_tuple, ⟨o, h1, h2⟩, fun z => nomatch z⟩
  | @dK a kvs ea =>
    cases (show u = Value.ref a from rx)
    obtain ⟨_, _, vs, _, p⟩ := (show ObjOk X.prog X.w H s.heap a (.dK kvs) from I.hok a _ ea)
    obtain ⟨o, es, ep, h1, h2, _⟩ := p
    exact ⟨_, PySem.W.kitx_dict, ⟨o, h1, h2.1⟩, fun z => nomatch z⟩
  | @dT a kvs ea =>
    cases (show u = Value.ref a from rx)
    obtain ⟨_, _, xs, _, o, es, ep, h1, h2, _⟩ := (show ObjOk X.prog X.w H s.heap a (.dT kvs) from I.hok a _ ea)
    exact ⟨_, PySem.W.kitx_dict, ⟨o, h1, h2.1⟩, fun z => nomatch z⟩
  | @ins a C dx fs ea cl ha hn htk hm =>
    cases (show u = Value.ref a from rx)
    obtain ⟨mA, O, _⟩ := ins_get I.hok ea
    obtain ⟨od, J, _⟩ := O.look
    exact ⟨_, PySem.W.kitx_own (cl.get _) cl.hd ha hn htk hm, J, fun z => nomatch z⟩
theorem vals_tys : ∀ {ns : List String} {us : List Value}, Vals (ns.map V.ty) us → us = ns.map Value.type
  | [], _, .nil => rfl
  | n :: ns, _, .cons r t => by
    cases r
    rw [vals_tys t]
    rfl
theorem call_isinstT : CallR X (.builtin "isinstance") (fun xs H Q => ∃ (x : V) (tp : Addr) (ns : List String) (t : Value) (b : Bool), xs = [x, .ref tp] ∧ H tp = some (.tup (ns.map V.ty)) ∧ TyOf X.K H x t ∧ PySem.W.kitAny X.K t (ns.map Value.type) = some b ∧ Q (.bl b) H) := by
  intro pins s σ H xs us Q I r h
  obtain ⟨x, tp, ns, t, b, rfl, ht, ty, e, q⟩ := h
  obtain ⟨u, v, rfl, r1, r2⟩ := r.two
  cases r2
  obtain ⟨HH, Z, hh, nl⟩ := kit_of I r1 ty
  obtain ⟨_, its, rv, p⟩ := (show ObjOk X.prog X.w H s.heap tp (.tup (ns.map V.ty)) from I.hok tp _ ht)
  obtain rfl := vals_tys rv
  obtain ⟨⟨cls, dd, data, sl⟩, ho, hc, n, hd⟩ := p
  simp only at hc hd
  subst hc hd
  exact PySem.W.kia_tup Z I.kIn hh ho e nl fun tk => ⟨.bl b, H, I.tok tk, rfl, q⟩
/-! ### xs == [], xs != [] -/
theorem op_eqNil (hu : X.A.units + 64 < cLine) : OpR X (compareOp .Eq) (fun x y H Q => ∃ a b xs, x = .ref a ∧ y = .ref b ∧ SqL X.K H a xs ∧ SqL X.K H b [] ∧ Q (.bl (decide (xs = []))) H) := by
  intro pins s σ H x y v u Q I rx ry h
  obtain ⟨a, b, xs, rfl, rfl, ha, hb, q⟩ := h
  cases xs with
  | nil => exact op_eqT hu pins s σ H _ _ v u Q I rx ry ⟨a, b, [], [], rfl, rfl, .inr ⟨ha, hb⟩, by simpa using q⟩
  | cons z zs =>
    cases rx
    cases ry
    obtain ⟨its, r, pl, _⟩ := I.list ha
    obtain ⟨its', r', pl', _⟩ := I.list hb
    cases r'
    have hl := r.length
    refine SeqAt.eq_list_lengthsAt pl.isList pl'.isList ?_ (by omega) (fin_bl I q (by simp))
    simp only [List.length_cons] at hl
    simp
    intro e
    rw [e] at hl
    simp at hl
theorem op_neNil (hu : X.A.units + 64 < cLine) : OpR X (compareOp .NotEq) (fun x y H Q => ∃ a b xs, x = .ref a ∧ y = .ref b ∧ SqL X.K H a xs ∧ SqL X.K H b [] ∧ Q (.bl (!decide (xs = []))) H) := by
  intro pins s σ H x y v u Q I rx ry h
  obtain ⟨a, b, xs, rfl, rfl, ha, hb, q⟩ := h
  cases xs with
  | nil => exact op_neT hu pins s σ H _ _ v u Q I rx ry ⟨a, b, [], [], rfl, rfl, .inr ⟨ha, hb⟩, by simpa using q⟩
  | cons z zs =>
    cases rx
    cases ry
    obtain ⟨its, r, pl, _⟩ := I.list ha
    obtain ⟨its', r', pl', _⟩ := I.list hb
    cases r'
    have hl := r.length
    refine SeqAt.RcNeAt.lists_lengths pl.isList pl'.isList ?_ (by omega) _ _ _ _ (fin_bl I q (by simp))
    simp only [List.length_cons] at hl
    simp
    intro e
    rw [e] at hl
    simp at hl
end
end L2

set_option Elab.async false
set_option linter.all false
set_option maxRecDepth 100000
set_option maxHeartbeats 4000000
namespace L2
open PySem PySem.Spec PyProof.Rows
theorem cutV_take {xs : List V} {k : Int} (h : 0 ≤ k) : cutV xs none (some k) = xs.take k.toNat := by
  have e : k = ((k.toNat : Nat) : Int) := by omega
  unfold cutV
  rw [e, HT.sIx_nat, Int.toNat_natCast]
  show (xs.drop 0).take (min k.toNat xs.length - 0) = _
  rw [List.drop_zero, Nat.sub_zero]
  by_cases q : k.toNat ≤ xs.length
  · rw [Nat.min_eq_left q]
  · rw [Nat.min_eq_right (by omega), List.take_length, List.take_of_length_le (by omega)]
theorem cutV_drop {xs : List V} {k : Int} (h : 0 ≤ k) : cutV xs (some k) none = xs.drop k.toNat := by
  have e : k = ((k.toNat : Nat) : Int) := by omega
  unfold cutV
  rw [e, HT.sIx_nat, Int.toNat_natCast]
  show (xs.drop (min k.toNat xs.length)).take (xs.length - min k.toNat xs.length) = _
  by_cases q : k.toNat ≤ xs.length
  · rw [Nat.min_eq_left q, List.take_of_length_le (by rw [List.length_drop]; omega)]
  · rw [Nat.min_eq_right (by omega), List.drop_of_length_le (Nat.le_refl _), List.drop_of_length_le (by omega), List.take_nil]
theorem cutV_mid {xs : List V} {i j : Int} (hi : 0 ≤ i) (hj : 0 ≤ j) : cutV xs (some i) (some j) = (xs.drop i.toNat).take (j.toNat - i.toNat) := by
  have e1 : i = ((i.toNat : Nat) : Int) := by omega
  have e2 : j = ((j.toNat : Nat) : Int) := by omega
  unfold cutV
  rw [e1, e2, HT.sIx_nat, HT.sIx_nat, Int.toNat_natCast, Int.toNat_natCast]
  by_cases q : i.toNat ≤ xs.length
  · rw [Nat.min_eq_left q]
    by_cases r : j.toNat ≤ xs.length
    · rw [Nat.min_eq_left r]
    · rw [Nat.min_eq_right (by omega), List.take_of_length_le (by rw [List.length_drop]; omega), List.take_of_length_le (by rw [List.length_drop]; omega)]
  · rw [Nat.min_eq_right (by omega : xs.length ≤ i.toNat), List.drop_of_length_le (Nat.le_refl _), List.drop_of_length_le (by omega), List.take_nil, List.take_nil]
theorem cutV_map_take {ns : List Int} {k : Int} (h : 0 ≤ k) : cutV (ns.map V.int) none (some k) = (ns.take k.toNat).map V.int := by rw [cutV_take h, List.map_take]
theorem cutV_map_drop {ns : List Int} {k : Int} (h : 0 ≤ k) : cutV (ns.map V.int) (some k) none = (ns.drop k.toNat).map V.int := by rw [cutV_drop h, List.map_drop]
theorem cutV_map_mid {ns : List Int} {i j : Int} (hi : 0 ≤ i) (hj : 0 ≤ j) : cutV (ns.map V.int) (some i) (some j) = ((ns.drop i.toNat).take (j.toNat - i.toNat)).map V.int := by rw [cutV_mid hi hj, List.map_take, List.map_drop]
theorem atI_ints {ns : List Int} {k : Int} (h0 : 0 ≤ k) (h : k < ns.length) : atI (ns.map V.int) k = some (.int (ns.getD k.toNat 0)) := by
  have e : k = ((k.toNat : Nat) : Int) := by omega
  have q : atI (ns.map V.int) ((k.toNat : Nat) : Int) = some (.int (ns.getD k.toNat 0)) := atI_nat (by rw [List.getElem?_map, Tm.getD_of (by omega)]; rfl)
  rw [← e] at q
  exact q
/-- a statement, then the rest: what holds between -/
theorem mid {t u : TS} {D : Ends} {σ : St} {H : Hp} (Good : St → Hp → Prop) (key : ∀ σ' H', Good σ' H' → u D σ' H') (main : ∀ N : St → Hp → Prop, (∀ σ' H', Good σ' H' → N σ' H') → t { D with nx := N } σ H) : tSeq t u D σ H := main _ key
theorem kit_int_bool (K : PySem.W.Frag) : PySem.W.kitOne K (.type "int") (.type "bool") = some false := by rfl
end L2
namespace L2
open PySem PySem.Spec PyProof.Rows
theorem ixN_at {n : Nat} {k : Int} (h0 : 0 ≤ k) (h : k < n) : ixN n k = some k.toNat := by
  unfold ixN
  rw [if_pos h0]
  by_cases q : k.toNat < n
  · first | rw [if_pos q] | rw [if_pos (by omega)]
  · omega
theorem rep_ints (n : Nat) (z : Int) : (List.replicate n [V.int z]).flatten = (List.replicate n z).map V.int := by
  induction n with
  | zero => rfl
  | succ n ih =>
    rw [List.replicate_succ, List.flatten_cons, ih, List.replicate_succ, List.map_cons]
    rfl
theorem kit_list_tup (K : PySem.W.Frag) : PySem.W.kitAny K (.type "list") [.type "list", .type "tuple"] = some true := by rfl
theorem kit_str_lt (K : PySem.W.Frag) : PySem.W.kitAny K (.type "str") [.type "list", .type "tuple"] = some false := by rfl
theorem kit_list_tuple (K : PySem.W.Frag) : PySem.W.kitOne K (.type "list") (.type "tuple") = some false := by rfl
end L2

set_option Elab.async false
set_option linter.all false
set_option maxRecDepth 100000
set_option maxHeartbeats 4000000
namespace L2
open PySem PySem.Spec PyProof.Rows
/-! ### plain data: ints, texts, lists and tuples of such -/
inductive Dt where
  | i (n : Int) | s (x : Str) | l (ds : List Dt) | t (ds : List Dt)
mutual
inductive Rep (H : Hp) : V → Dt → Prop where
  | i (n : Int) : Rep H (.int n) (.i n)
  | s (x : Str) : Rep H (.str x) (.s x)
  | l {a : Addr} {vs : List V} {ds : List Dt} (e : H a = some (.lst vs)) (r : Reps H vs ds) : Rep H (.ref a) (.l ds)
  | t {a : Addr} {vs : List V} {ds : List Dt} (e : H a = some (.tup vs)) (r : Reps H vs ds) : Rep H (.ref a) (.t ds)
inductive Reps (H : Hp) : List V → List Dt → Prop where
  | nil : Reps H [] []
  | cons {v : V} {d : Dt} {vs : List V} {ds : List Dt} (h : Rep H v d) (r : Reps H vs ds) : Reps H (v :: vs) (d :: ds)
end
theorem Reps.length {H : Hp} : ∀ {vs : List V} {ds : List Dt}, Reps H vs ds → vs.length = ds.length
  | _, _, .nil => rfl
  | _, _, .cons _ r => by rw [List.length_cons, List.length_cons, r.length]
theorem Reps.app {H : Hp} : ∀ {vs us : List V} {ds es : List Dt}, Reps H vs ds → Reps H us es → Reps H (vs ++ us) (ds ++ es)
  | _, _, _, _, .nil, q => q
  | _, _, _, _, .cons h r, q => .cons h (r.app q)
theorem Reps.split {H : Hp} : ∀ {vs : List V} {ds : List Dt} {d : Dt}, Reps H vs (ds ++ [d]) → ∃ us v, vs = us ++ [v] ∧ Reps H us ds ∧ Rep H v d
  | _, [], _, .cons h .nil => ⟨[], _, rfl, .nil, h⟩
  | _, e :: es, d, .cons h r => by
    obtain ⟨us, v, rfl, q, p⟩ := r.split
    exact ⟨_ :: us, v, rfl, .cons h q, p⟩
mutual
theorem Rep.same {H H' : Hp} (e : Same H H') : ∀ {v : V} {d : Dt}, Rep H v d → Rep H' v d
  | _, _, .i n => .i n
  | _, _, .s x => .s x
  | _, _, .l h r => .l (e _ _ h) (Reps.same e r)
  | _, _, .t h r => .t (e _ _ h) (Reps.same e r)
theorem Reps.same {H H' : Hp} (e : Same H H') : ∀ {vs : List V} {ds : List Dt}, Reps H vs ds → Reps H' vs ds
  | _, _, .nil => .nil
  | _, _, .cons h r => .cons (Rep.same e h) (Reps.same e r)
end
theorem reps_ints {H : Hp} : ∀ ns : List Int, Reps H (ns.map V.int) (ns.map Dt.i)
  | [] => .nil
  | n :: r => .cons (.i n) (reps_ints r)
theorem reps_strs {H : Hp} : ∀ ns : List Str, Reps H (ns.map V.str) (ns.map Dt.s)
  | [] => .nil
  | n :: r => .cons (.s n) (reps_strs r)
mutual
def Dt.size : Dt → Nat
  | .i _ => 1
  | .s _ => 1
  | .l ds => 1 + Dt.sizes ds
  | .t ds => 1 + Dt.sizes ds
def Dt.sizes : List Dt → Nat
  | [] => 0
  | d :: ds => d.size + Dt.sizes ds
end
theorem Dt.size_pos : ∀ d : Dt, 1 ≤ d.size
  | .i _ => by simp [Dt.size]
  | .s _ => by simp [Dt.size]
  | .l ds => by simp [Dt.size]
  | .t ds => by simp [Dt.size]
theorem Dt.sizes_app : ∀ ds es : List Dt, Dt.sizes (ds ++ es) = Dt.sizes ds + Dt.sizes es
  | [], es => by simp [Dt.sizes]
  | d :: ds, es => by rw [List.cons_append, Dt.sizes, Dt.sizes, Dt.sizes_app ds es]; omega
theorem Dt.len_le : ∀ ds : List Dt, ds.length ≤ Dt.sizes ds
  | [] => by simp [Dt.sizes]
  | d :: ds => by
    have h1 := d.size_pos
    have h2 := Dt.len_le ds
    rw [List.length_cons, Dt.sizes]; omega
theorem Dt.sizes_one (d : Dt) : Dt.sizes [d] = d.size := by simp [Dt.sizes]
theorem kit_tup_lt (K : PySem.W.Frag) : PySem.W.kitAny K (.type "tuple") [.type "list", .type "tuple"] = some true := by rfl
theorem kit_int_lt (K : PySem.W.Frag) : PySem.W.kitAny K (.type "int") [.type "list", .type "tuple"] = some false := by rfl
theorem kit_tup_list (K : PySem.W.Frag) : PySem.W.kitOne K (.type "tuple") (.type "list") = some false := by rfl
theorem kit_int_str (K : PySem.W.Frag) : PySem.W.kitOne K (.type "int") (.type "str") = some false := by rfl
theorem snoc_last {α : Type} (us : List α) (v : α) : (us ++ [v])[(us ++ [v]).length - 1]? = some v := by simp
theorem snoc_drop {α : Type} (us : List α) (v : α) : (us ++ [v]).dropLast = us := by simp
end L2

set_option Elab.async false
set_option linter.all false
set_option maxRecDepth 100000
set_option maxHeartbeats 4000000
namespace L2
open PySem PySem.Spec PyProof.Rows
/-! ### loops that may raise: an exception within a def's frame, new, flying or held -/
def XS (X : Cx) (E : XK) (e : Value) (s' : Shared) : Prop := ∃ (ea C : Addr) (H : Hp) (pins : List (Addr × Obj)) (σ : St), e = .ref ea ∧ E (.ref C) none H ∧
  ((∃ s args, Inv X pins σ H s ∧ Heap.MadeExcOf s.heap s'.heap ea (.ref C) args ∧ s' = { s with heap := s'.heap }) ∨
   (∃ B a0, Inv X pins σ H s' ∧ Heap.FlyingW B X.stack ea (.ref C) a0 s'.heap ∧ Hold X pins H B s') ∨
   (∃ B a0, Inv X pins σ H s' ∧ Heap.HeldW B X.stack ea (.ref C) a0 X.env.locals s'.heap ∧ Hold X pins H B s'))
section
variable {M : Model} {A : Around} {E : Value → Shared → Prop} {s : Shared}
theorem hold_on {base : Heap} {l : List Env} {e L : Addr} {cls a0 fl : Value} {Q : Unit → Shared → Prop} (hk : base.StaysIn s.heap) (hen : base.get? e = none) (hl : s.heap.FunFrames base l) (R : s.heap.TracedAtW base e cls a0 fl)
    (h : ∀ g, Heap.HeldW base l e cls a0 L g → s.heap.UpToSlots g → Q () { s with heap := g }) : wpAny M A (setFlight (.ref e) (some L)) Q E s := by
  obtain ⟨oe, vs, T, oT, ts, he, hcls, hd, h1, hnT, hTe, hT, hdT, h3⟩ := R
  have sz : 3 < ts.size := (Array.getElem?_eq_some_iff.mp h3).1
  have oth : ∀ b, b ≠ T → (s.heap.update T (Obj.mapFields (·.setIfInBounds 3 ((some L).elim Value.none fun f => rawInt f)))).get? b = s.heap.get? b := fun b hb => Heap.get?_update_other _ _ (Ne.symm hb)
  have nrec : ∀ b o, s.heap.get? b = some o → (∀ vs, o.data ≠ .fields vs) → b ≠ T := fun b o hb hn q => by
    rw [q, hT] at hb; injection hb with hb; subst hb; exact hn ts hdT
  unfold setFlight
  refine wpAny_bind (wpAny_field he hd h1 ?_)
  rw [if_pos (by simp)]
  refine wpAny_setField hT hdT sz (h _ ⟨fun b o hbo => (oth b fun q => by rw [q, hnT] at hbo; cases hbo).trans (hk b o hbo), hen, hl.of_keeps fun b o hb hn => ⟨o, (oth b (nrec b o hb hn)).trans hb, rfl⟩, ?_⟩ fun b o hb hn => ⟨o.slots, (oth b (nrec b o hb hn)).trans hb⟩)
  exact ⟨oe, vs, T, _, _, (oth e (Ne.symm hTe)).trans he, hcls, hd, h1, hnT, hTe, Heap.get?_update_self _ hT (Obj.isFreed_of_fields (Obj.data_mapFields hdT _)), Obj.data_mapFields hdT _, by simp [sz]⟩
/-- the first note of a new exception -/
theorem note_new {base : Heap} {env : Env} {outer : List Env} {L e : Addr} {oe : Obj} {vs : Array Value} {a0 : Value} {Q : Unit → Shared → Prop} (hfr : A.frames = some (env :: outer)) (hl : s.heap.FunFrames base (env :: outer)) (hf : env.frame = some L)
    (he : s.heap.get? e = some oe) (hkb : base.StaysIn s.heap) (hen : base.get? e = none) (hd : oe.data = .fields vs) (h1 : vs[1]? = some .none) (h0 : vs[0]? = some a0)
    (h : ∀ g, Heap.NotedW base (env :: outer) e oe.cls a0 (rawInt L) s.heap g → Q () { s with heap := g }) : wpAny M A (noteFrame (.ref e) env) Q E s := by
  unfold noteFrame
  simp only [hf]
  refine wpAny_bind (wpAny_field he hd h1 ?_)
  rw [if_neg (by decide)]
  exact wpAny_entryW hfr hl hf he hkb hen hd (Array.getElem?_eq_some_iff.mp h1).1 h0 h
end
section
variable {X : Cx} {E : XK}
theorem XS.raise (hw : X.calm = true) : XRaise (X.wish (XS X E)) E := fun pins σ H s h' ea C args I hm e => ⟨ea, C, H, pins, σ, rfl, e, .inl ⟨s, args, I.unwish, hm, rfl⟩⟩
theorem XS.pass : Passes (CXx X.prog X.w) (X.wish (XS X E)) E := fun pins σ H s e s' I h => by
  obtain ⟨ea, C, H', B, a0, rfl, os, bare, un, hok, fl, kB, qE⟩ := h
  have I2 : Inv X pins σ H s := I.unwish
  have J : Inv X pins σ H' s' := I2.call' (ch := []) os un hok bare fun b z => absurd z (by simp)
  refine ⟨ea, C, H', pins, σ, rfl, qE, .inr (.inl ⟨B, a0, J, fl, fun b o q n d => kB b o q n ?_⟩)⟩
  rcases d with ⟨⟨o', q'⟩, nx⟩ | d | ⟨x, d⟩ | ⟨p, hp, d⟩
  · exact .inl (I2.base.there b o' q' nx)
  · exact .inr d
  · obtain ⟨v, o1, e, _⟩ := I2.cell x b d
    exact .inl ⟨o1, e⟩
  · exact .inl ⟨p.2, by rw [← d]; exact (I2.pin p hp).1⟩
theorem XS.own (fr : X.stack = X.env :: X.outer ∧ X.env.frame = some X.env.locals) : PassesOwn (model X.prog X.w) X.A X.env (XS X E) := fun e s' h => by
  obtain ⟨ea, C, H, pins, σ, rfl, qE, h⟩ := h
  -- held: it comes back
  have back : ∀ {s2 : Shared} {B : Heap} {a0 : Value}, Inv X pins σ H s2 → Heap.HeldW B X.stack ea (.ref C) a0 X.env.locals s2.heap → Hold X pins H B s2 → cameBackBy (model X.prog X.w) X.A X.env (XS X E) (.ref ea) s2 := fun {s2 B a0} I2 hh hB => by
    obtain ⟨f1, f2, f3, f4⟩ := id hh
    obtain ⟨oe, vs, T, oT, ts, he, hcls, hd, h1, _⟩ := id f4
    unfold cameBackBy
    refine wpAny_bind (wpAny_field he hd h1 ?_)
    rw [if_neg (show ¬ ((Value.ref T == Value.none) = true) from by simp)]
    have go : wpAny (model X.prog X.w) X.A (setFlight (.ref ea) X.env.frame) (fun _ s'' => XS X E (.ref ea) s'') (XS X E) s2 := by
      rw [fr.2]
      refine hold_on f1 f2 f3 f4 fun g hg up => ?_
      exact ⟨ea, C, H, pins, σ, rfl, qE, .inr (.inr ⟨B, a0, I2.fly hB hg.1 up, hg, hB.fly I2 hg.1⟩)⟩
    first
      | exact go
      | exact wpAny_bind (wpAny_pure go)
  rcases h with ⟨s, args, I, hm, es⟩ | ⟨B, a0, I, fl, hB⟩ | ⟨B, a0, I, hh, hB⟩
  · obtain ⟨t, he, htn, ht⟩ := hm.there
    have frs' : s.heap.FunFrames X.base X.stack := I.stack
    have hBd : (PySem.W.hideAll s.heap (frs X.stack)).StaysIn s.heap := fun b o q => PySem.W.of_hideAll _ q
    have fresh : ∀ b, s.heap.get? b = none → (PySem.W.hideAll s.heap (frs X.stack)).get? b = none := fun b hb => by
      cases q : (PySem.W.hideAll s.heap (frs X.stack)).get? b with
      | none => rfl
      | some o => have := hBd b o q; rw [hb] at this; cases this
    have ff : s'.heap.FunFrames (PySem.W.hideAll s.heap (frs X.stack)) (X.env :: X.outer) := by
      rw [← fr.1]
      exact (PySem.W.funFrames_hide frs' fun env he a ha => List.mem_filterMap.mpr ⟨env, he, ha⟩).of_keeps fun b o hb _ => ⟨o, hm.keeps b o hb, rfl⟩
    have hf : X.A.frames = some (X.env :: X.outer) := by rw [← fr.1]; exact I.ok.frames
    refine note_new hf ff fr.2 he (fun b o q => hm.keeps b o (hBd b o q)) (fresh ea hm.new) rfl rfl rfl fun g hg => ?_
    obtain ⟨k1, k2, k3, k4⟩ := hg
    have hB : Hold X pins H (PySem.W.hideAll s.heap (frs X.stack)) s := fun b o q n _ => PySem.W.hideAll_get _ q n
    have up : s.heap.UpToSlots g := (Heap.UpToSlots.of_keeps hm.keeps).trans k4
    have I2 : Inv X pins σ H { s with heap := g } := I.fly hB k1 up
    have es' : ({ s' with heap := g } : Shared) = { s with heap := g } := by rw [es]
    rw [es']
    have k2' : ∀ (B0 : Heap), g.FunFrames B0 (X.env :: X.outer) → g.FunFrames B0 X.stack := fun B0 z => by rw [fr.1]; exact z
    exact back I2 ⟨k1, fresh ea hm.new, k2' _ k2, k3⟩ (hB.fly I k1)
  · have hf : X.A.frames = some (X.env :: X.outer) := by rw [← fr.1]; exact I.ok.frames
    refine wpAny_looks_onW hf fr.2 (by rw [← fr.1]; exact fl) fun g hg up => ?_
    exact back (I.fly hB hg.1 up) (by rw [fr.1]; exact hg) (hB.fly I hg.1)
  · exact wpAny_noteFrame_againW fr.2 hh.2.2.2 (back I hh hB)
end
section
variable {P : Program} {w : World} {K : PySem.W.Frag} {mg : Str → Option Value} {base : Heap} {N : List Str} {qual : Str} {scope : Scope} {f : Addr} {cd : Value} {A : Around} {outer : List Env} {s₀ : Shared} {H₀ : Hp} {E : XK}
/-- out of the frame, however it lies -/
theorem XS.leave {e : Value} {s' : Shared} (h : XS (cxOf (CXx P w) P w K mg base N qual scope f cd A outer s₀ H₀ E) E e s') : (cxOf (CXx P w) P w K mg base N qual scope f cd A outer s₀ H₀ E).xe e s' := by
  obtain ⟨ea, C, H, pins, σ, rfl, qE, h⟩ := h
  rcases h with ⟨s, args, I, hm, es⟩ | ⟨B, a0, I, fl, hB⟩ | ⟨B, a0, I, hh, hB⟩
  · rw [es]
    exact cx_raise I hm qE
  · refine wpAny_leaves_onW I.ok.frames rfl fl fun h'' fl' up => ?_
    refine cx_leave (h'' := h'') I rfl I.bare rfl (fun b o r n hd => hB b o r n ?_) fl' up qE
    rcases hd with z | z
    · exact .inl ⟨z, by exact List.not_mem_nil⟩
    · exact .inr (.inl z)
  · show wpAny _ _ (leaving _ _) _ _ _
    unfold leaving
    refine wpAny_bind (wpAny_noteFrame_againW rfl hh.2.2.2 ?_)
    refine wpAny_landsW hh fun h'' fl up => ?_
    obtain ⟨k1, k2, ⟨_, _, k3⟩, k4⟩ := fl
    refine cx_leave (h'' := h'') I rfl I.bare rfl (fun b o r n hd => hB b o r n ?_) ⟨k1, k2, k3, k4⟩ up qE
    rcases hd with z | z
    · exact .inl ⟨z, by exact List.not_mem_nil⟩
    · exact .inr (.inl z)
theorem PS.xs {st : Stmt} {t : TS} (h : PS ((cxOf (CXx P w) P w K mg base N qual scope f cd A outer s₀ H₀ E).wish (XS (cxOf (CXx P w) P w K mg base N qual scope f cd A outer s₀ H₀ E) E)) st t) : PS (cxOf (CXx P w) P w K mg base N qual scope f cd A outer s₀ H₀ E) st t := fun pins s σ H D I hw =>
  wpAny_mono (h pins s σ H D (I.wish _) hw) (fun _ _ q => q.unwish) fun _ _ z => z.leave
end
end L2

set_option linter.all false
namespace Tm
/-! ### walks from a seat -/
def nx (xs : List Int) (i : Int) : Int := xs.getD i.toNat 0
def orb (xs : List Int) (f : Int) : Nat → Int
  | 0 => f
  | k + 1 => nx xs (orb xs f k)
theorem orb_add (xs : List Int) (f : Int) (j : Nat) : ∀ k, orb xs f (j + k) = orb xs (orb xs f j) k
  | 0 => rfl
  | k + 1 => by
    show nx xs (orb xs f (j + k)) = nx xs (orb xs (orb xs f j) k)
    rw [orb_add xs f j k]
section
variable {xs : List Int} (h : IsT xs)
include h
theorem nx_get {i : Int} (h0 : 0 ≤ i) (h1 : i < xs.length) : xs[i.toNat]? = some (nx xs i) := getD_of (by omega)
theorem nx_bd {i : Int} (h0 : 0 ≤ i) (h1 : i < xs.length) : 0 ≤ nx xs i ∧ nx xs i < xs.length := h.bd (nx_get h h0 h1)
theorem nx_inj {i j : Int} (h0 : 0 ≤ i) (h1 : i < xs.length) (h2 : 0 ≤ j) (h3 : j < xs.length) (e : nx xs i = nx xs j) : i = j := by
  have e1 := nx_get h h0 h1
  have e2 := nx_get h h2 h3
  rw [e] at e1
  have := (List.getElem?_inj (by omega : i.toNat < xs.length) h.nodup).mp (e1.trans e2.symm)
  omega
theorem orb_bd {f : Int} (h0 : 0 ≤ f) (h1 : f < xs.length) : ∀ k, 0 ≤ orb xs f k ∧ orb xs f k < xs.length
  | 0 => ⟨h0, h1⟩
  | k + 1 => by
    obtain ⟨a, b⟩ := orb_bd h0 h1 k
    exact nx_bd h a b
theorem orb_back {f : Int} (h0 : 0 ≤ f) (h1 : f < xs.length) {j : Nat} : ∀ {i : Nat}, orb xs f i = orb xs f (i + j) → orb xs f j = f
  | 0, e => by rw [Nat.zero_add] at e; exact e.symm
  | i + 1, e => by
    have a := orb_bd h h0 h1 i
    have b := orb_bd h h0 h1 (i + j)
    refine orb_back (i := i) h0 h1 ?_
    refine nx_inj h a.1 a.2 b.1 b.2 ?_
    have e2 : i + 1 + j = (i + j) + 1 := by omega
    rw [e2] at e
    exact e
end
/-- all different and below n: no more than n -/
theorem nodup_le : ∀ (n : Nat) (l : List Int), l.Nodup → (∀ v ∈ l, 0 ≤ v ∧ v < (n : Int)) → l.length ≤ n
  | 0, l, _, hb => by
    cases l with
    | nil => exact Nat.le_refl _
    | cons a r =>
      have := hb a (List.mem_cons_self ..)
      omega
  | n + 1, l, hn, hb => by
    by_cases hm : (n : Int) ∈ l
    · have hp : l.Perm ((n : Int) :: l.erase n) := List.perm_cons_erase hm
      have hn' : (l.erase (n : Int)).Nodup := hn.sublist List.erase_sublist
      have hb' : ∀ v ∈ l.erase (n : Int), 0 ≤ v ∧ v < (n : Int) := fun v hv => by
        have h1 := hb v (List.mem_of_mem_erase hv)
        have h2 : v ≠ (n : Int) := by
          rintro rfl
          have := (List.Perm.nodup_iff hp).mp hn
          exact (List.nodup_cons.mp this).1 hv
        omega
      have := nodup_le n _ hn' hb'
      have hl := hp.length_eq
      rw [List.length_cons] at hl
      omega
    · have := nodup_le n l hn fun v hv => by
        have h1 := hb v hv
        have h2 : v ≠ (n : Int) := by
          rintro rfl
          exact hm hv
        omega
      omega
theorem nodup_mapR {α : Type} {f : Nat → α} {n : Nat} (h : ∀ i j, i < j → j < n → f i ≠ f j) : ((List.range n).map f).Nodup := by
  rw [List.Nodup, List.pairwise_map]
  refine List.pairwise_lt_range.imp_of_mem fun {a b} ha hb hab => h a b hab (List.mem_range.mp hb)
/-- the walk's length: the first time that it comes again -/
structure IsPer (xs : List Int) (f : Int) (p : Nat) : Prop where
  pos : 1 ≤ p
  back : orb xs f p = f
  first : ∀ k, 0 < k → k < p → orb xs f k ≠ f
theorem least_of (P : Nat → Prop) : ∀ (n : Nat), P n → ∃ m, m ≤ n ∧ P m ∧ ∀ k, k < m → ¬ P k := by
  intro n
  induction n using Nat.strongRecOn with
  | _ n ih =>
    intro hn
    by_cases h : ∃ k, k < n ∧ P k
    · obtain ⟨k, hk, pk⟩ := h
      obtain ⟨m, hm, pm, q⟩ := ih k hk pk
      exact ⟨m, by omega, pm, q⟩
    · exact ⟨n, Nat.le_refl _, hn, fun k hk pk => h ⟨k, hk, pk⟩⟩
theorem per_ex {xs : List Int} (h : IsT xs) {f : Int} (h0 : 0 ≤ f) (h1 : f < xs.length) : ∃ p, IsPer xs f p ∧ p ≤ xs.length := by
  have : ∃ i j, i < j ∧ j < xs.length + 1 ∧ orb xs f i = orb xs f j := by
    apply Classical.byContradiction
    intro hn
    have nd : ((List.range (xs.length + 1)).map (orb xs f)).Nodup := nodup_mapR fun i j hij hj e => hn ⟨i, j, hij, hj, e⟩
    have := nodup_le xs.length _ nd (fun v hv => by
      obtain ⟨k, _, rfl⟩ := List.mem_map.mp hv
      exact orb_bd h h0 h1 k)
    simp at this
    omega
  obtain ⟨i, j, hij, hj, e⟩ := this
  have e2 : orb xs f (j - i) = f := orb_back h h0 h1 (i := i) (by rw [e]; congr 1; omega)
  obtain ⟨m, hm, ⟨pm, em⟩, q⟩ := least_of (fun k => 0 < k ∧ orb xs f k = f) (j - i) ⟨by omega, e2⟩
  exact ⟨m, ⟨pm, em, fun k k0 km ek => q k km ⟨k0, ek⟩⟩, by omega⟩
noncomputable def per (xs : List Int) (f : Int) : Nat := open Classical in if h : ∃ p, IsPer xs f p then Classical.choose h else 0
theorem per_unique {xs : List Int} {f : Int} {p q : Nat} (a : IsPer xs f p) (b : IsPer xs f q) : p = q := by
  rcases Nat.lt_trichotomy p q with h | h | h
  · exact absurd a.back (b.first p a.pos h)
  · exact h
  · exact absurd b.back (a.first q b.pos h)
theorem per_eq {xs : List Int} {f : Int} {p : Nat} (a : IsPer xs f p) : per xs f = p := by
  have : ∃ p, IsPer xs f p := ⟨p, a⟩
  unfold per
  rw [dif_pos this]
  exact per_unique (Classical.choose_spec this) a
section
variable {xs : List Int} (h : IsT xs) {f : Int} (h0 : 0 ≤ f) (h1 : f < xs.length)
include h h0 h1
theorem per_is : IsPer xs f (per xs f) := by
  obtain ⟨p, hp, _⟩ := per_ex h h0 h1
  rw [per_eq hp]
  exact hp
theorem per_le : per xs f ≤ xs.length := by
  obtain ⟨p, hp, q⟩ := per_ex h h0 h1
  rw [per_eq hp]
  exact q
theorem orb_mul : ∀ m, orb xs f (per xs f * m) = f
  | 0 => rfl
  | m + 1 => by
    rw [Nat.mul_succ, orb_add, orb_mul m]
    exact (per_is h h0 h1).back
theorem orb_mod (k : Nat) : orb xs f k = orb xs f (k % per xs f) := by
  conv => lhs; rw [← Nat.div_add_mod k (per xs f), orb_add, orb_mul h h0 h1]
theorem orb_ne {i j : Nat} (hij : i < j) (hj : j < per xs f) : orb xs f i ≠ orb xs f j := fun e => by
  have := orb_back h h0 h1 (i := i) (j := j - i) (by rw [e]; congr 1; omega)
  exact (per_is h h0 h1).first (j - i) (by omega) (by omega) this
end
/-! ### rings -/
noncomputable def ring (xs : List Int) (f : Int) : List Int := (List.range (per xs f)).map (orb xs f)
theorem ring_length (xs : List Int) (f : Int) : (ring xs f).length = per xs f := by unfold ring; simp
theorem ring_get {xs : List Int} {f : Int} {k : Nat} (hk : k < per xs f) : (ring xs f)[k]? = some (orb xs f k) := by
  unfold ring
  simp [hk]
def On (xs : List Int) (a b : Int) : Prop := ∃ k, orb xs a k = b
theorem On.refl (xs : List Int) (a : Int) : On xs a a := ⟨0, rfl⟩
theorem On.trans {xs : List Int} {a b c : Int} : On xs a b → On xs b c → On xs a c := fun ⟨j, e⟩ ⟨k, e'⟩ => ⟨j + k, by rw [orb_add, e, e']⟩
section
variable {xs : List Int} (h : IsT xs) {f : Int} (h0 : 0 ≤ f) (h1 : f < xs.length)
include h h0 h1
theorem On.bd {s : Int} (o : On xs f s) : 0 ≤ s ∧ s < xs.length := by
  obtain ⟨k, rfl⟩ := o
  exact orb_bd h h0 h1 k
theorem On.symm {s : Int} (o : On xs f s) : On xs s f := by
  obtain ⟨k, rfl⟩ := o
  have hp := (per_is h h0 h1).pos
  refine ⟨per xs f * k - k, ?_⟩
  rw [← orb_add]
  have : k + (per xs f * k - k) = per xs f * k := by
    have : k ≤ per xs f * k := Nat.le_mul_of_pos_left k hp
    omega
  rw [this, orb_mul h h0 h1]
theorem mem_ring {s : Int} : s ∈ ring xs f ↔ On xs f s := by
  unfold ring
  rw [List.mem_map]
  constructor
  · rintro ⟨k, _, rfl⟩
    exact ⟨k, rfl⟩
  · rintro ⟨k, rfl⟩
    refine ⟨k % per xs f, List.mem_range.mpr (Nat.mod_lt _ (per_is h h0 h1).pos), (orb_mod h h0 h1 k).symm⟩
theorem ring_nodup : (ring xs f).Nodup := nodup_mapR fun i j hij hj => orb_ne h h0 h1 hij hj
theorem per_on {s : Int} (o : On xs f s) : per xs s = per xs f := by
  obtain ⟨k, rfl⟩ := id o
  obtain ⟨b0, b1⟩ := orb_bd h h0 h1 k
  have key : ∀ (g : Int) (j m : Nat), 0 ≤ g → g < xs.length → orb xs g m = g → orb xs (orb xs g j) m = orb xs g j := fun g j m g0 g1 e => by
    rw [← orb_add, Nat.add_comm, orb_add, e]
  refine per_eq ⟨(per_is h h0 h1).pos, key f k _ h0 h1 (per_is h h0 h1).back, fun m m0 m1 e => ?_⟩
  obtain ⟨i, ei⟩ := On.symm h h0 h1 o
  have := key (orb xs f k) i m b0 b1 e
  rw [ei] at this
  exact (per_is h h0 h1).first m m0 m1 this
theorem per_one : per xs f = 1 ↔ nx xs f = f := by
  constructor
  · intro e
    have := (per_is h h0 h1).back
    rw [e] at this
    exact this
  · intro e
    exact per_eq ⟨Nat.le_refl _, e, fun k a b => by omega⟩
theorem per_two (ne : nx xs f ≠ f) : 2 ≤ per xs f := by
  have a := (per_is h h0 h1).pos
  have b : per xs f ≠ 1 := fun e => ne ((per_one h h0 h1).mp e)
  omega
theorem nx_on {s : Int} (ne : nx xs f ≠ f) (o : On xs f s) : nx xs s ≠ s := fun e => by
  have b := On.bd h h0 h1 o
  have p1 := (per_one h b.1 b.2).mpr e
  rw [per_on h h0 h1 o] at p1
  exact ne ((per_one h h0 h1).mp p1)
end
/-- the first seats of the rings among the seats below i -/
structure Firsts (xs : List Int) (i : Nat) (fs : List Int) : Prop where
  bd : ∀ f ∈ fs, 0 ≤ f ∧ f < i ∧ f < xs.length
  up : fs.Pairwise (· < ·)
  ne : ∀ f ∈ fs, nx xs f ≠ f
  least : ∀ f ∈ fs, ∀ s, On xs f s → f ≤ s
  all : ∀ s : Int, 0 ≤ s → s < i → s < xs.length → nx xs s ≠ s → ∃ f ∈ fs, On xs f s
theorem firsts_nil (xs : List Int) : Firsts xs 0 [] := by
  refine ⟨?_, List.Pairwise.nil, ?_, ?_, fun s a b => by omega⟩ <;> (intro f hf; cases hf)
theorem firsts_skip {xs : List Int} {i : Nat} {fs : List Int} (F : Firsts xs i fs) (hs : nx xs i = i ∨ ∃ f ∈ fs, On xs f i) : Firsts xs (i + 1) fs := by
  refine ⟨fun f hf => ?_, F.up, F.ne, F.least, fun s s0 s1 s2 sn => ?_⟩
  · have := F.bd f hf
    omega
  · by_cases e : s = i
    · subst e
      rcases hs with hs | hs
      · exact absurd hs sn
      · exact hs
    · exact F.all s s0 (by omega) s2 sn
theorem firsts_add {xs : List Int} (h : IsT xs) {i : Nat} {fs : List Int} (F : Firsts xs i fs) (hi : i < xs.length) (hn : nx xs i ≠ i) (hs : ¬ ∃ f ∈ fs, On xs f i) : Firsts xs (i + 1) (fs ++ [(i : Int)]) := by
  have i0 : (0 : Int) ≤ i := by omega
  have i1 : (i : Int) < xs.length := by omega
  refine ⟨fun f hf => ?_, ?_, fun f hf => ?_, fun f hf s o => ?_, fun s s0 s1 s2 sn => ?_⟩
  · rcases List.mem_append.mp hf with hf | hf
    · have := F.bd f hf
      omega
    · have := List.mem_singleton.mp hf
      omega
  · refine List.pairwise_append.mpr ⟨F.up, List.pairwise_singleton _ _, fun a ha b hb => ?_⟩
    have h1 := F.bd a ha
    have h2 := List.mem_singleton.mp hb
    omega
  · rcases List.mem_append.mp hf with hf | hf
    · exact F.ne f hf
    · rw [List.mem_singleton.mp hf]; exact hn
  · rcases List.mem_append.mp hf with hf | hf
    · exact F.least f hf s o
    · rw [List.mem_singleton.mp hf] at o ⊢
      have b := On.bd h i0 i1 o
      apply Classical.byContradiction
      intro lt
      obtain ⟨f, hf, of⟩ := F.all s b.1 (by omega) b.2 (nx_on h i0 i1 hn o)
      exact hs ⟨f, hf, of.trans (On.symm h i0 i1 o)⟩
  · by_cases e : s = i
    · subst e
      exact ⟨_, List.mem_append_right _ (List.mem_singleton.mpr rfl), On.refl _ _⟩
    · obtain ⟨f, hf, o⟩ := F.all s s0 (by omega) s2 sn
      exact ⟨f, List.mem_append_left _ hf, o⟩
/-- rings of different first seats have no seat in common -/
theorem Firsts.apart {xs : List Int} (h : IsT xs) {i : Nat} {fs : List Int} (F : Firsts xs i fs) {f g s : Int} (hf : f ∈ fs) (hg : g ∈ fs) (o : On xs f s) (p : On xs g s) : f = g := by
  obtain ⟨f0, _, f1⟩ := F.bd f hf
  obtain ⟨g0, _, g1⟩ := F.bd g hg
  have fg := o.trans (On.symm h g0 g1 p)
  have gf := p.trans (On.symm h f0 f1 o)
  have := F.least f hf g fg
  have := F.least g hg f gf
  omega
end Tm

set_option linter.all false
namespace Tm
/-! ### the least common multiple -/
def lcms : List Nat → Nat := List.foldl Nat.lcm 1
theorem foldl_lcm_dvd : ∀ (l : List Nat) (a m : Nat), a ∣ m → (∀ p ∈ l, p ∣ m) → l.foldl Nat.lcm a ∣ m
  | [], a, m, ha, _ => ha
  | p :: r, a, m, ha, hp => foldl_lcm_dvd r _ m (Nat.lcm_dvd ha (hp p (List.mem_cons_self ..))) fun q hq => hp q (List.mem_cons_of_mem _ hq)
theorem dvd_foldl_lcm : ∀ (l : List Nat) (a : Nat), a ∣ l.foldl Nat.lcm a ∧ ∀ p ∈ l, p ∣ l.foldl Nat.lcm a
  | [], a => ⟨Nat.dvd_refl _, fun p hp => nomatch hp⟩
  | p :: r, a => by
    obtain ⟨h1, h2⟩ := dvd_foldl_lcm r (Nat.lcm a p)
    refine ⟨Nat.dvd_trans (Nat.dvd_lcm_left a p) h1, fun q hq => ?_⟩
    rcases List.mem_cons.mp hq with rfl | hq
    · exact Nat.dvd_trans (Nat.dvd_lcm_right a q) h1
    · exact h2 q hq
theorem lcms_pos : ∀ (l : List Nat) (a : Nat), 0 < a → (∀ p ∈ l, 0 < p) → 0 < l.foldl Nat.lcm a
  | [], a, ha, _ => ha
  | p :: r, a, ha, hp => lcms_pos r _ (Nat.lcm_pos ha (hp p (List.mem_cons_self ..))) fun q hq => hp q (List.mem_cons_of_mem _ hq)
/-- by rings and by seats it is the same -/
theorem lcms_rings {xs : List Int} (h : IsT xs) {fs : List Int} (F : Firsts xs xs.length fs) :
    lcms (fs.map (per xs)) = lcms ((List.range xs.length).map fun (i : Nat) => per xs (i : Int)) := by
  refine Nat.dvd_antisymm (foldl_lcm_dvd _ _ _ (Nat.one_dvd _) fun p hp => ?_) (foldl_lcm_dvd _ _ _ (Nat.one_dvd _) fun p hp => ?_)
  · obtain ⟨f, hf, rfl⟩ := List.mem_map.mp hp
    obtain ⟨f0, f1, _⟩ := F.bd f hf
    refine (dvd_foldl_lcm _ 1).2 _ (List.mem_map.mpr ⟨f.toNat, List.mem_range.mpr (by omega), ?_⟩)
    have : ((f.toNat : Nat) : Int) = f := by omega
    rw [this]
  · obtain ⟨i, hi, rfl⟩ := List.mem_map.mp hp
    have hi' := List.mem_range.mp hi
    by_cases e : nx xs i = i
    · rw [(per_one h (by omega) (by omega)).mpr e]
      exact Nat.one_dvd _
    · obtain ⟨f, hf, o⟩ := F.all i (by omega) (by omega) (by omega) e
      obtain ⟨f0, f1, f2⟩ := F.bd f hf
      rw [per_on h f0 f2 o]
      exact (dvd_foldl_lcm _ 1).2 _ (List.mem_map.mpr ⟨f, hf, rfl⟩)
theorem lcm_div (a p : Nat) : a / Nat.gcd a p * p = Nat.lcm a p := by
  rw [Nat.div_mul_right_comm (Nat.gcd_dvd_left a p)]
  rfl
/-- the count of additions up to it -/
theorem lcm_mul (a p : Nat) : Nat.lcm a p = a * (p / Nat.gcd a p) := by
  unfold Nat.lcm
  rw [Nat.mul_div_assoc _ (Nat.gcd_dvd_right a p)]
theorem lcm_first {a p m : Nat} (ha : 0 < a) (h : p ∣ a * m) (hm : 0 < m) : p / Nat.gcd a p ≤ m := by
  have h1 : Nat.lcm a p ∣ a * m := Nat.lcm_dvd (Nat.dvd_mul_right a m) h
  rw [lcm_mul] at h1
  exact Nat.le_of_dvd hm (Nat.dvd_of_mul_dvd_mul_left ha h1)
theorem lcms_snoc (l : List Nat) (p : Nat) : lcms (l ++ [p]) = Nat.lcm (lcms l) p := by unfold lcms; rw [List.foldl_append]; rfl
end Tm

set_option Elab.async false
set_option linter.all false
set_option maxRecDepth 100000
set_option maxHeartbeats 4000000
namespace L2
open PySem PySem.Spec PyProof.Rows
theorem Same.put {H H2 : Hp} (s : Same H H2) {p : Addr} (n : H p = none) (o : HO) : Same H (upd H2 p o) := fun b u e => by rw [upd_ne (ne_of_none e n)]; exact s b u e
theorem Same.fresh {H H2 : Hp} (s : Same H H2) {p : Addr} (n : H2 p = none) : H p = none := s.free n
theorem iteNT {c A B : Prop} [Decidable c] (hc : ¬ c) (h : A) : if (!decide c) = true then A else B := by
  rw [decide_eq_false hc]
  exact iteT h
/-- lists of ints, one behind the other -/
inductive LL (H : Hp) : List Addr → List (List Int) → Prop where
  | nil : LL H [] []
  | cons {a : Addr} {l : List Int} {as : List Addr} {ls : List (List Int)} (e : H a = some (.lst (l.map V.int))) (r : LL H as ls) : LL H (a :: as) (l :: ls)
theorem LL.length {H : Hp} : ∀ {as : List Addr} {ls : List (List Int)}, LL H as ls → as.length = ls.length
  | _, _, .nil => rfl
  | _, _, .cons _ r => by rw [List.length_cons, List.length_cons, r.length]
theorem LL.app {H : Hp} : ∀ {as bs : List Addr} {ls ms : List (List Int)}, LL H as ls → LL H bs ms → LL H (as ++ bs) (ls ++ ms)
  | _, _, _, _, .nil, q => q
  | _, _, _, _, .cons e r, q => .cons e (r.app q)
theorem LL.get {H : Hp} : ∀ {as : List Addr} {ls : List (List Int)} {i : Nat} {a : Addr}, LL H as ls → as[i]? = some a → ∃ l, ls[i]? = some l ∧ H a = some (.lst (l.map V.int))
  | _, _, 0, _, .cons e r, h => by cases h; exact ⟨_, rfl, e⟩
  | _, _, i + 1, _, .cons e r, h => r.get (i := i) h
theorem LL.getL {H : Hp} : ∀ {as : List Addr} {ls : List (List Int)} {i : Nat} {l : List Int}, LL H as ls → ls[i]? = some l → ∃ a, as[i]? = some a ∧ H a = some (.lst (l.map V.int))
  | _, _, 0, _, .cons e r, h => by cases h; exact ⟨_, rfl, e⟩
  | _, _, i + 1, _, .cons e r, h => r.getL (i := i) h
theorem LL.same {H H' : Hp} (s : Same H H') : ∀ {as : List Addr} {ls : List (List Int)}, LL H as ls → LL H' as ls
  | _, _, .nil => .nil
  | _, _, .cons e r => .cons (s _ _ e) (r.same s)
theorem LL.put {H : Hp} {p : Addr} {o : HO} : ∀ {as : List Addr} {ls : List (List Int)}, LL H as ls → (∀ a ∈ as, a ≠ p) → LL (upd H p o) as ls
  | _, _, .nil, _ => .nil
  | _, _, .cons e r, n => .cons (by rw [upd_ne (n _ (List.mem_cons_self ..))]; exact e) (r.put fun a ha => n a (List.mem_cons_of_mem _ ha))
theorem LL.mem {H : Hp} : ∀ {as : List Addr} {ls : List (List Int)} {a : Addr}, LL H as ls → a ∈ as → ∃ l : List Int, H a = some (.lst (l.map V.int))
  | _, _, _, .cons e r, h => by
    rcases List.mem_cons.mp h with rfl | h
    · exact ⟨_, e⟩
    · exact r.mem h
theorem LL.free {H : Hp} {as : List Addr} {ls : List (List Int)} (h : LL H as ls) {p : Addr} (n : H p = none) : ∀ a ∈ as, a ≠ p := fun a ha => by
  obtain ⟨l, e⟩ := h.mem ha
  exact ne_of_none e n
end L2

set_option Elab.async false
set_option linter.all false
set_option maxRecDepth 100000
set_option maxHeartbeats 4000000
namespace L2
open PySem PySem.Spec PyProof.Rows
/-! ### {t: v}, t a tuple -/
def tDispT1 (tk tv : TE) : TE := fun σ H Q => ∀ p, H p = none → tk σ (upd H p (.dT [])) fun x H1 => tv σ H1 fun y H2 => ∃ (b : Addr) (k : List Key), x = .ref b ∧ H2 p = some (.dT []) ∧ H2 b = some (.tup (k.map kV)) ∧ Q (.ref p) (upd H2 p (.dT [(k, y)]))
section
variable {X : Cx} {tk tv : TE} {k v : Expr} {pos : Pos}
theorem pe_dispT1 (hu : X.A.units + 1 < cLine) (hk : PE X k tk) (hv : PE X v tv) : PE X (.Dict [some k] [v] pos) (tDispT1 tk tv) := by
  intro pins s σ H Q I q
  have hn := I.hok.fresh (Nat.le_refl s.heap.objs.size)
  have I1 := I.laid (a := s.heap.objs.size) (o := .dT []) (h' := s.heap.push { cls := .type "dict", data := .dict #[] }) (t' := s.toks) (fun _ _ q => Heap.get?_push_of_some _ q) (Nat.le_refl _) (dt_empty s.heap I.big)
  have hl : (pairTrees [some k] [v] X.env pos).length = 1 := rfl
  rw [arm_eval_Dict, zip_pairTrees [some k] [v] X.env pos rfl rfl, dictDisplay_pairs _ (by intro z; rw [z] at hl; cases hl) (by rw [hl]; decide)]
  refine wpAny_bind (wpAny_standAt (wpAny_bind ?_))
  unfold subDict
  refine wpAny_bind (wpAny_alloc ?_)
  refine wpAny_bind (wpAny_holding ?_)
  rw [if_pos (by rw [hl]; decide)]
  refine wpAny_bind (pairTrees_cons_walk (thn (hk pins _ σ _ _ I1 (q _ hn)) fun u s1 ⟨x, H1, J1, rx, q1⟩ => thn (hv pins s1 σ H1 _ J1 q1) fun w2 s2 ⟨y, H2, J2, ry, q2⟩ => pairTrees_nil_walk ?_))
  obtain ⟨b, kk, rfl, hp, hb, q3⟩ := q2
  cases (show u = Value.ref b from rx)
  refine wpAny_holding ?_
  show wpAny _ _ (forIn [(Value.ref b, w2)] PUnit.unit _ >>= _) _ _ _
  rw [List.forIn_cons]
  obtain ⟨z, hd, xs, rel, dd⟩ := dt_of J2.hok hp
  cases rel
  have rm : (tupleKind (mixKind X.prog X.w)).room X.A := (show X.A.units < cLine by omega)
  refine wpAny_bind (wpAny_bind (wpAny_bind (wpAny_dictSet_heap (hsz := Nat.zero_le _) rm (key_of J2.hok hb) dd fun h' dd' hs => ?_)))
  refine wpAny_pure ?_
  dsimp only
  rw [List.forIn_nil]
  refine wpAny_pure (wpAny_pure (wpAny_pure (wpAny_pure ?_)))
  have rel' : KT H2 [(kk, y)] (storedH [] kk b w2) := .cons ⟨rfl, hb, ry⟩ .nil
  obtain ⟨q', es, ep, hq, h2, h3, h4, _, h5⟩ := dd'
  refine ⟨.ref s.heap.objs.size, _, ?_, rfl, q3⟩
  refine d_write J2 (by rw [hp]; exact True.intro) hs ⟨q', hq⟩ ⟨by show 1 ≤ sizeLine; decide, hd, _, rel'.keeps fun c ys ec => ?_, q', es, ep, hq, h2, h3, h4, h5⟩
  rw [upd_ne (ne_of ec hp (fun z => nomatch z))]
  exact ec
end
end L2

set_option Elab.async false
set_option linter.all false
set_option maxRecDepth 100000
set_option maxHeartbeats 4000000
namespace L2
open PySem PySem.Spec PyProof.Rows
/-! ### for i, x in enumerate(t), t a list -/
def Itle (K : PySem.W.Frag) (a : Addr) : It :=
  ⟨fun i H => ∃ xs x, SqL K H a xs ∧ xs[i]? = some x, fun i H v H' => ∃ p x, v = .ref p ∧ H p = none ∧ H' = upd H p (.tup [.int (i : Nat), x]) ∧ ∀ xs, SqL K H a xs → xs[i]? = some x, fun i H => ∃ xs, SqL K H a xs ∧ xs.length = i⟩
theorem turn_enumL {P : Program} {w : World} {K : PySem.W.Frag} {elts : List Expr} {k : Nat} {tpos : Pos} (a e it : Addr) (hne : e ≠ it) : Turn P w K (.Tuple elts k tpos) (Itle K a) [e, it] e (fun i h => (∃ old, IsEnum h e it (i : Nat) old) ∧ h.IsListIter it a i) where
  mem := by simp
  obj := fun i h st b hb => by
    rcases List.mem_cons.mp hb with q | q
    · subst q
      obtain ⟨⟨old, he⟩, _⟩ := st
      exact ⟨_, he, fun v z => by
        have z' : Data.fields _ = Data.cell v := z
        cases z'⟩
    · have q' := List.mem_singleton.mp q
      subst q'
      obtain ⟨_, o, ho, hc, hd⟩ := st
      exact ⟨o, ho, fun v z => by rw [hd] at z; cases z⟩
  keep := fun i h h' st kp => by
    obtain ⟨⟨old, he⟩, o, ho, r⟩ := st
    exact ⟨⟨old, kp e (by simp) _ he⟩, o, kp it (by simp) o ho, r⟩
  item := by
    intro X hP hw hK hc i pins s σ H E I hf st hg
    subst hP hw hK
    obtain ⟨xs, x, hq, hx⟩ := hg
    obtain ⟨its, rv, p₀, hz⟩ := I.list hq
    have p := p₀.isList
    obtain ⟨u, hu, ru⟩ := rv.get hx
    obtain ⟨⟨old, he⟩, hit⟩ := st
    have hae : a ≠ e := fun z => by
      obtain ⟨o, ho, c, _⟩ := p
      rw [z, he] at ho
      cases ho
      exact absurd c (by intro q; injection q with q; exact absurd q (by decide))
    have hai : a ≠ it := fun z => by
      obtain ⟨o, ho, c, _⟩ := p
      obtain ⟨o', ho', c', _⟩ := hit
      rw [z, ho'] at ho
      cases ho
      rw [c] at c'
      exact absurd c' (by intro q; injection q with q; exact absurd q (by decide))
    have D := Draws.list (prog := X.prog) (w := X.w) (A := X.A.in1) (I.ok.hd hc) it a hai its.toArray
    have hlt : i < its.toArray.size := by
      have := (List.getElem?_eq_some_iff.mp hu).1
      simpa using this
    have hef : e ∉ [it, a] := by
      intro z
      rcases List.mem_cons.mp z with q | q
      · exact hne q
      · exact hae (List.mem_singleton.mp q).symm
    refine wpAny_pyNext_enum_itemD D he ⟨hit, p⟩ hlt hne hef fun y h1 tk hy ho1 hs1 hT1 hsz1 hk1 => ?_
    have ey : y = u := by
      have : its.toArray[i]? = some y := hy
      have h2 : its[i]? = some y := by simpa using this
      rw [hu] at h2
      exact (Option.some.inj h2).symm
    subst ey
    refine ⟨_, rfl, wpAny_letOwnedTupleGo_enum ho1 fun h2 he2 sb2 => ?_⟩
    have ltE : e < s.heap.objs.size := Heap.lt_size he
    have ltI : it < s.heap.objs.size := by obtain ⟨o, q, _⟩ := hit; exact Heap.lt_size q
    have kp : ∀ b o, b ≠ e → b ≠ it → s.heap.get? b = some o → h2.get? b = some o := fun b o h1' h2' q => (sb2.2 b h1').trans (hk1 b o h1' h2' q)
    have fr : H s.heap.objs.size = none := I.fresh
    have fE := hf e (by simp)
    have fI := hf it (by simp)
    have trk : ∀ b o, H b = some o → b ≠ e ∧ b ≠ it := fun b o q => ⟨fun z => (by rw [z, fE.1] at q; cases q), fun z => (by rw [z, fI.1] at q; cases q)⟩
    have nch : ∀ b, b ∉ [e, it] → b ≠ e ∧ b ≠ it := fun b q => ⟨fun z => q (by simp [z]), fun z => q (by simp [z])⟩
    refine ⟨.ref s.heap.objs.size, upd H s.heap.objs.size (.tup [.int (i : Nat), x]), ?_, rfl, ⟨s.heap.objs.size, x, rfl, fr, rfl, fun ys hy' => by rw [I.list_inj hy' hq]; exact hx⟩, ⟨⟨y, by simpa using he2⟩, ?_⟩, fun b hb => ?_⟩
    · suffices J : Inv X pins σ (upd H s.heap.objs.size (.tup [.int (i : Nat), x])) { s with heap := h2, gens := s.gens, drawn := s.drawn, toks := tk + 1 } from J
      refine I.step (s := s) (h' := h2) (t' := tk + 1) (g' := s.gens) (d' := s.drawn) (ch := [e, it]) (fun b hb => ?_) (fun b o _ _ hc' q _ => kp b o (nch b hc').1 (nch b hc').2 q) (fun b o _ _ hc' q _ => ⟨o.slots, kp b o (nch b hc').1 (nch b hc').2 q⟩)
        (fun b o hc' q n => by rw [upd_ne (Nat.ne_of_lt (Heap.lt_size q))]; exact n) (fun b o hc' q => ⟨o, kp b o (nch b hc').1 (nch b hc').2 q⟩)
        (fun b zs q => by rw [upd_ne (ne_of_none q fr)]; exact q) (fun b o zs q => by rw [upd_ne (ne_of_none q fr)]; exact q) (fun b ps q => ⟨#[], by rw [upd_ne (ne_of_none q fr), q]; simp⟩) (fun m hm => ?_) (fun b o q => ?_) I.bare
      · rcases List.mem_cons.mp hb with q | q
        · subst q
          exact ⟨fE.2.2.2.1, fE.2.1, fE.2.2.2.2.1, fE.2.2.2.2.2⟩
        · have q' := List.mem_singleton.mp q
          subst q'
          exact ⟨fI.2.2.2.1, fI.2.1, fI.2.2.2.2.1, fI.2.2.2.2.2⟩
      · obtain ⟨o, es, ep, ho, r⟩ := hm
        exact ⟨o, es, ep, kp _ o (Ne.symm fE.2.1) (Ne.symm fI.2.1) ho, r⟩
      · by_cases hb : b = s.heap.objs.size
        · subst hb
          rw [upd_same] at q
          cases q
          refine ⟨by show 2 ≤ sizeLine; decide, [.int i tk, y], .cons ⟨tk, rfl⟩ (.cons ru .nil), ⟨_, (sb2.2 _ (Nat.ne_of_gt ltE)).trans hT1, rfl, _, rfl⟩⟩
        · rw [upd_ne hb] at q
          refine (I.hok b o q).stay (fun c v hc' q' => ?_) (fun c q' => by rw [upd_ne (ne_of_none q' fr)]; exact q') fun c zs q' => by rw [upd_ne (ne_of_none q' fr)]; exact q'
          have hcn : c ≠ e ∧ c ≠ it := by
            rcases hc' with z | z
            · rw [z]; exact trk b o q
            · exact trk c _ z
          exact kp c v hcn.1 hcn.2 q'
    · obtain ⟨o, ho, r⟩ := hs1.1
      exact ⟨o, (sb2.2 it (Ne.symm hne)).trans ho, r⟩
    · have hlt' : b < s.heap.objs.size := by
        rcases List.mem_cons.mp hb with q | q
        · rw [q]; exact ltE
        · rw [List.mem_singleton.mp q]; exact ltI
      rw [upd_ne (Nat.ne_of_lt hlt')]
      exact (hf b hb).1
  done := by
    intro X hP hw hK hc i pins s σ H E I hf st hg
    subst hP hw hK
    obtain ⟨xs, hq, hx⟩ := hg
    obtain ⟨its, rv, p₀, hz⟩ := I.list hq
    have p := p₀.isList
    obtain ⟨⟨old, he⟩, hit⟩ := st
    have hai : a ≠ it := fun z => by
      obtain ⟨o, ho, c, _⟩ := p
      obtain ⟨o', ho', c', _⟩ := hit
      rw [z, ho'] at ho
      cases ho
      rw [c] at c'
      exact absurd c' (by intro q; injection q with q; exact absurd q (by decide))
    have D := Draws.list (prog := X.prog) (w := X.w) (A := X.A.in1) (I.ok.hd hc) it a hai its.toArray
    have hl := rv.length
    have en : i = its.toArray.size := by simp; omega
    obtain ⟨f0, f1, f2, f3, f4, f5⟩ := hf it (by simp)
    exact wpAny_pyNext_enum_endD D he ⟨en ▸ hit, p⟩ fun h' ex => ⟨rfl, I.turned (t' := s.toks) (fun b o hb q => ex b o hb q) f0 f1 f3 f4 f5⟩
  self := fun A i s Q E st h => by
    obtain ⟨⟨old, he⟩, _⟩ := st
    exact wpAny_pyIter_enum he h
section
variable {X : Cx}
def iEnumL (K : PySem.W.Frag) (ta : TA) : TI := fun σ H R => ta σ H fun vs H1 => ∃ a, vs = [.ref a] ∧ (∃ xs, SqL K H1 a xs) ∧ R (Itle K a) H1
theorem pi_enumL {elts : List Expr} {k : Nat} {tpos : Pos} {a : Expr} {ta : TA} {p pos : Pos} (hg : Gl X "enumerate") (hm : X.mg "enumerate" = none) (ha : PA X [a] ta) (hs : starEach [a] X.env = [(false, eval a X.env)] := by rfl) :
    PI X (.Tuple elts k tpos) (.Call (.Name "enumerate" p) [a] [] pos) (iEnumL X.K ta) := by
  intro pins s σ H R I h
  refine Call_ (ld_blt I hg hm boot_enumerate (PyProof.Rows.callWith_type1 (thn (ha pos pins s σ H _ I h) fun us s1 ⟨vs, H1, I1, r1, q1⟩ => ?_) hs rfl))
  obtain ⟨b, e, ⟨xs, hq⟩, q⟩ := q1
  subst e
  obtain ⟨u, rfl, rx⟩ := vals1 r1
  cases rx
  obtain ⟨its, rv, p₀, hz⟩ := I1.list hq
  have p' := p₀.isList
  refine call_enumerate_list p' fun g he hit hsz kp => ?_
  have I2 : Inv X pins σ H1 { s1 with heap := g } := I1.kept (t' := s1.toks) kp
  refine wpAny_pyIter_enum he ?_
  refine ⟨s1.heap.objs.size + 1, [s1.heap.objs.size + 1, s1.heap.objs.size], _, _, H1, rfl, I2, turn_enumL b _ _ (Nat.succ_ne_self _), ⟨⟨_, he⟩, hit⟩, fun c hc => ?_, q⟩
  rcases List.mem_cons.mp hc with z | z
  · subst z
    have := I1.fpOk (b := s1.heap.objs.size + 1) (H' := H1) (Nat.le_succ _) (I1.hok.fresh (Nat.le_succ _))
    exact this
  · rw [List.mem_singleton.mp z]
    exact I1.fpOk (H' := H1) (Nat.le_refl _) (I1.hok.fresh (Nat.le_refl _))
end
theorem for_enumL {K : PySem.W.Frag} {a : Addr} {xs : List V} {g : TG} {tb : TS} {D : Ends} {σ : St} {H : Hp} (Pv : Nat → St → Hp → Prop) (h0 : Pv 0 σ H) (hl : ∀ i σ H, i ≤ xs.length → Pv i σ H → SqL K H a xs)
    (hs : ∀ i x σ H p, xs[i]? = some x → Pv i σ H → H p = none → g (.ref p) σ (upd H p (.tup [.int (i : Nat), x])) fun σ2 H2 => tb { D with nx := Pv (i + 1), ct := Pv (i + 1), bk := D.nx } σ2 H2) (hd : ∀ σ H, Pv xs.length σ H → D.nx σ H) :
    ∃ W : Nat → Nat → St → Hp → Prop, (∃ m, W 0 m σ H) ∧ ∀ i m σ H, W i m σ H →
      ((Itle K a).stop i H ∧ D.nx σ H) ∨ ((Itle K a).go i H ∧ ∃ N : St → Hp → Prop, (∀ σ' H', N σ' H' → ∃ m', m' < m ∧ W (i + 1) m' σ' H') ∧ ∀ x H', (Itle K a).yld i H x H' → g x σ H' fun σ2 H2 => tb { D with nx := N, ct := N, bk := D.nx } σ2 H2) := by
  refine ⟨fun i m σ H => m = xs.length - i ∧ i ≤ xs.length ∧ Pv i σ H, ⟨xs.length, by simp, Nat.zero_le _, h0⟩, ?_⟩
  rintro i m σ H ⟨rfl, hi, p⟩
  have q := hl i σ H hi p
  by_cases hlt : i < xs.length
  · refine .inr ⟨⟨xs, xs[i], q, by simp [hlt]⟩, Pv (i + 1), fun σ' H' p' => ⟨xs.length - (i + 1), by omega, rfl, hlt, p'⟩, fun x H' y => ?_⟩
    obtain ⟨pp, xx, rfl, hn, rfl, y⟩ := y
    exact hs i xx σ _ pp (y xs q) p hn
  · have e : i = xs.length := by omega
    subst e
    exact .inl ⟨⟨xs, q, rfl⟩, hd σ H p⟩
end L2

set_option linter.all false
namespace Tm
/-! ### ranks -/
def fact : Nat → Nat
  | 0 => 1
  | n + 1 => (n + 1) * fact n
theorem fact_pos : ∀ n, 0 < fact n
  | 0 => by decide
  | n + 1 => Nat.mul_pos (Nat.succ_pos n) (fact_pos n)
def valP : Nat → List Nat → Nat
  | r, [] => r
  | r, p :: ps => valP (r * (ps.length + 1) + p) ps
theorem valP_eq : ∀ (ps : List Nat) (r : Nat), valP r ps = r * fact ps.length + valP 0 ps
  | [], r => by simp [valP, fact]
  | p :: ps, r => by
    rw [valP, valP_eq ps (r * (ps.length + 1) + p), valP, valP_eq ps (0 * (ps.length + 1) + p), List.length_cons, fact, Nat.add_mul, Nat.zero_mul, Nat.zero_add, Nat.mul_assoc]
    omega
theorem valP_cons (p : Nat) (ps : List Nat) : valP 0 (p :: ps) = p * fact ps.length + valP 0 ps := by
  rw [valP, valP_eq, Nat.zero_mul, Nat.zero_add]
/-- each place is below the count of those left -/
def Bd : List Nat → Prop
  | [] => True
  | p :: ps => p ≤ ps.length ∧ Bd ps
theorem valP_lt : ∀ (ps : List Nat), Bd ps → valP 0 ps < fact ps.length
  | [], _ => by simp [valP, fact]
  | p :: ps, ⟨h, b⟩ => by
    rw [valP_cons, List.length_cons, fact]
    have := valP_lt ps b
    have h2 : p * fact ps.length ≤ ps.length * fact ps.length := Nat.mul_le_mul_right _ h
    rw [Nat.add_mul]
    omega
/-- the places of the seats among those left -/
def pls : List Int → List Int → List Nat
  | _, [] => []
  | free, x :: t => free.idxOf x :: pls (free.erase x) t
theorem pls_length : ∀ (xs free : List Int), (pls free xs).length = xs.length
  | [], _ => rfl
  | x :: t, free => by rw [pls, List.length_cons, pls_length t, List.length_cons]
theorem perm_tail {free t : List Int} {x : Int} (h : (x :: t).Perm free) : t.Perm (free.erase x) := by
  have hm : x ∈ free := h.subset (List.mem_cons_self ..)
  exact (h.trans (List.perm_cons_erase hm)).cons_inv
theorem erase_len {free t : List Int} {x : Int} (h : (x :: t).Perm free) : (free.erase x).length = t.length := (perm_tail h).length_eq.symm
theorem pls_bd : ∀ (xs free : List Int), xs.Perm free → Bd (pls free xs)
  | [], _, _ => trivial
  | x :: t, free, h => by
    have hm : x ∈ free := h.subset (List.mem_cons_self ..)
    refine ⟨?_, pls_bd t _ (perm_tail h)⟩
    rw [pls_length]
    have h1 : free.idxOf x < free.length := List.idxOf_lt_length_iff.mpr hm
    have h2 := h.length_eq
    rw [List.length_cons] at h2
    omega
/-- how many behind it are less -/
def les : List Int → List Nat
  | [] => []
  | x :: t => (t.filter fun y => decide (y < x)).length :: les t
theorem les_length : ∀ xs : List Int, (les xs).length = xs.length
  | [] => rfl
  | x :: t => by rw [les, List.length_cons, les_length t, List.length_cons]
theorem idx_tail {a x : Int} {r : List Int} (e : ¬ a = x) : (a :: r).idxOf x = r.idxOf x + 1 := by
  have : (a == x) = false := by simpa using e
  rw [List.idxOf_cons, this]
  rfl
theorem idxOf_sorted : ∀ (free : List Int) (x : Int), free.Pairwise (· < ·) → x ∈ free → free.idxOf x = (free.filter fun y => decide (y < x)).length
  | [], x, _, hm => by cases hm
  | a :: r, x, hs, hm => by
    have hp := List.pairwise_cons.mp hs
    by_cases e : a = x
    · subst e
      have h0 : (r.filter fun y => decide (y < a)) = [] := List.filter_eq_nil_iff.mpr fun y hy => by
        have := hp.1 y hy
        simp; omega
      rw [List.idxOf_cons_self, List.filter_cons_of_neg (by simp), h0]
      rfl
    · have hm' : x ∈ r := by
        rcases List.mem_cons.mp hm with z | z
        · exact absurd z.symm e
        · exact z
      have lt := hp.1 x hm'
      have ei : (a :: r).idxOf x = r.idxOf x + 1 := idx_tail e
      rw [ei, List.filter_cons_of_pos (by simpa using lt), List.length_cons, ← idxOf_sorted r x hp.2 hm']
theorem filter_erase_lt {free : List Int} {x : Int} : ((free.erase x).filter fun y => decide (y < x)).length = (free.filter fun y => decide (y < x)).length := by
  induction free with
  | nil => rfl
  | cons a r ih =>
    by_cases e : a = x
    · subst e
      rw [List.erase_cons_head, List.filter_cons_of_neg (by simp)]
    · rw [List.erase_cons_tail (by simpa using e)]
      by_cases l : a < x
      · rw [List.filter_cons_of_pos (by simpa using l), List.filter_cons_of_pos (by simpa using l), List.length_cons, List.length_cons, ih]
      · rw [List.filter_cons_of_neg (by simpa using l), List.filter_cons_of_neg (by simpa using l), ih]
theorem pls_les : ∀ (xs free : List Int), xs.Perm free → free.Pairwise (· < ·) → pls free xs = les xs
  | [], _, _, _ => rfl
  | x :: t, free, h, hs => by
    have hm : x ∈ free := h.subset (List.mem_cons_self ..)
    rw [pls, les, pls_les t _ (perm_tail h) (hs.sublist List.erase_sublist), idxOf_sorted free x hs hm, ← filter_erase_lt (x := x), ((perm_tail h).filter _).length_eq]
/-! ### back from a rank -/
def dig (r : Nat) : Nat → List Nat
  | 0 => []
  | m + 1 => ((r / fact m) % (m + 1)) :: dig r m
theorem dig_length (r : Nat) : ∀ n, (dig r n).length = n
  | 0 => rfl
  | n + 1 => by rw [dig, List.length_cons, dig_length r n]
theorem dig_bd (r : Nat) : ∀ n, Bd (dig r n)
  | 0 => trivial
  | n + 1 => ⟨by rw [dig_length]; exact Nat.le_of_lt_succ (Nat.mod_lt (r / fact n) (Nat.succ_pos n)), dig_bd r n⟩
theorem fact_dvd {j m : Nat} (h : j < m) : fact j * (j + 1) ∣ fact m := by
  induction m with
  | zero => omega
  | succ m ih =>
    by_cases e : j = m
    · subst e
      rw [fact, Nat.mul_comm]
      exact Nat.dvd_refl _
    · exact Nat.dvd_trans (ih (by omega)) (Nat.dvd_mul_left _ _)
theorem dig_add (p v : Nat) {m : Nat} : ∀ n, n ≤ m → dig (p * fact m + v) n = dig v n
  | 0, _ => rfl
  | n + 1, h => by
    rw [dig, dig, dig_add p v n (by omega)]
    congr 1
    obtain ⟨c, hc⟩ := fact_dvd (j := n) (m := m) (by omega)
    have e : p * fact m + v = fact n * ((n + 1) * (c * p)) + v := by
      rw [hc, Nat.mul_comm p, Nat.mul_assoc (fact n), Nat.mul_assoc (fact n), Nat.mul_assoc (n + 1)]
    rw [e, Nat.mul_add_div (fact_pos n), Nat.mul_add_mod]
theorem dig_val : ∀ (ps : List Nat), Bd ps → dig (valP 0 ps) ps.length = ps
  | [], _ => rfl
  | p :: ps, ⟨h, b⟩ => by
    have lt := valP_lt ps b
    rw [List.length_cons, dig, valP_cons, dig_add _ _ _ (Nat.le_refl _), dig_val ps b]
    congr 1
    rw [Nat.mul_comm, Nat.mul_add_div (fact_pos _), Nat.div_eq_of_lt lt, Nat.add_zero, Nat.mod_eq_of_lt (by omega)]
def unp : List Int → List Nat → List Int
  | _, [] => []
  | free, p :: ps => free.getD p 0 :: unp (free.eraseIdx p) ps
theorem unp_length : ∀ (ps : List Nat) (free : List Int), (unp free ps).length = ps.length
  | [], _ => rfl
  | p :: ps, free => by rw [unp, List.length_cons, unp_length ps, List.length_cons]
theorem erase_idx : ∀ {free : List Int} {x : Int}, x ∈ free → free.getD (free.idxOf x) 0 = x ∧ free.eraseIdx (free.idxOf x) = free.erase x
  | [], x, h => by cases h
  | a :: r, x, h => by
    by_cases e : a = x
    · subst e
      rw [List.idxOf_cons_self]
      exact ⟨rfl, by rw [List.erase_cons_head]; rfl⟩
    · have hm : x ∈ r := by
        rcases List.mem_cons.mp h with z | z
        · exact absurd z.symm e
        · exact z
      obtain ⟨h1, h2⟩ := erase_idx hm
      have ei : (a :: r).idxOf x = r.idxOf x + 1 := idx_tail e
      rw [ei]
      refine ⟨by rw [List.getD_cons_succ]; exact h1, ?_⟩
      rw [List.eraseIdx_cons_succ, h2, List.erase_cons_tail (by simpa using e)]
theorem unp_pls : ∀ (xs free : List Int), xs.Perm free → unp free (pls free xs) = xs
  | [], _, _ => rfl
  | x :: t, free, h => by
    have hm : x ∈ free := h.subset (List.mem_cons_self ..)
    obtain ⟨h1, h2⟩ := erase_idx hm
    rw [pls, unp, h1, h2, unp_pls t _ (perm_tail h)]
/-! ### the order -/
def ahead : List Int → List Int → Bool
  | x :: t, y :: u => if x ≠ y then decide (x < y) else ahead t u
  | _, _ => false
theorem idx_lt {free : List Int} (hs : free.Pairwise (· < ·)) {x y : Int} (hx : x ∈ free) (hy : y ∈ free) (l : x < y) : free.idxOf x < free.idxOf y := by
  have a := erase_idx hx
  have b := erase_idx hy
  have hx' : free.idxOf x < free.length := List.idxOf_lt_length_iff.mpr hx
  have hy' : free.idxOf y < free.length := List.idxOf_lt_length_iff.mpr hy
  have gx : free[free.idxOf x]'hx' = x := by have := a.1; rw [List.getD_eq_getElem?_getD, List.getElem?_eq_getElem hx'] at this; exact this
  have gy : free[free.idxOf y]'hy' = y := by have := b.1; rw [List.getD_eq_getElem?_getD, List.getElem?_eq_getElem hy'] at this; exact this
  rcases Nat.lt_trichotomy (free.idxOf x) (free.idxOf y) with z | z | z
  · exact z
  · have : x = y := by rw [← gx, ← gy]; simp only [z]
    omega
  · have := List.pairwise_iff_getElem.mp hs _ _ hy' hx' z
    rw [gx, gy] at this
    omega
theorem rank_order : ∀ (xs ys free : List Int), xs.Perm free → ys.Perm free → free.Pairwise (· < ·) → (decide (valP 0 (pls free xs) < valP 0 (pls free ys)) = ahead xs ys)
  | [], [], _, _, _, _ => by simp [pls, valP, ahead]
  | [], y :: u, free, h, h', _ => by have := h.length_eq; have := h'.length_eq; simp at *; omega
  | x :: t, [], free, h, h', _ => by have := h.length_eq; have := h'.length_eq; simp at *; omega
  | x :: t, y :: u, free, h, h', hs => by
    have hx : x ∈ free := h.subset (List.mem_cons_self ..)
    have hy : y ∈ free := h'.subset (List.mem_cons_self ..)
    have lt : t.length = u.length := by have a := h.length_eq; have b := h'.length_eq; simp at a b; omega
    rw [ahead, pls, pls, valP_cons, valP_cons, pls_length, pls_length, ← lt]
    have bx := valP_lt _ (pls_bd t _ (perm_tail h))
    have by' := valP_lt _ (pls_bd u _ (perm_tail h'))
    rw [pls_length] at bx by'
    rw [← lt] at by'
    by_cases e : x = y
    · subst e
      rw [if_neg (by simp), ← rank_order t u _ (perm_tail h) (perm_tail h') (hs.sublist List.erase_sublist)]
      congr 1
      apply propext
      constructor <;> intro z <;> omega
    · rw [if_pos e]
      rcases Int.lt_trichotomy x y with z | z | z
      · have i := idx_lt hs hx hy z
        have m : (free.idxOf x + 1) * fact t.length ≤ free.idxOf y * fact t.length := Nat.mul_le_mul_right _ i
        rw [Nat.add_mul] at m
        rw [decide_eq_true (by omega), decide_eq_true z]
      · exact absurd z e
      · have i := idx_lt hs hy hx z
        have m : (free.idxOf y + 1) * fact t.length ≤ free.idxOf x * fact t.length := Nat.mul_le_mul_right _ i
        rw [Nat.add_mul] at m
        rw [decide_eq_false (by omega), decide_eq_false (by omega)]
theorem ups_lt (lo : Int) (n : Nat) : (ups lo n).Pairwise (· < ·) := by
  induction n with
  | zero => exact List.Pairwise.nil
  | succ n ih =>
    rw [ups_succ]
    refine List.pairwise_append.mpr ⟨ih, List.pairwise_singleton _ _, fun a ha b hb => ?_⟩
    have h1 := (ups_mem.mp ha).2
    have h2 := List.mem_singleton.mp hb
    omega
/-- the rank of a turning -/
def rank (xs : List Int) : Nat := valP 0 (les xs)
theorem rank_lt {xs : List Int} (h : IsT xs) : rank xs < fact xs.length := by
  unfold rank
  have := valP_lt _ (pls_bd xs _ h)
  rwa [pls_les xs _ h (ups_lt _ _), les_length] at this
theorem rank_ahead {xs ys : List Int} (h : IsT xs) (h' : IsT ys) (e : xs.length = ys.length) : decide (rank xs < rank ys) = ahead xs ys := by
  unfold rank
  have h2 : ys.Perm (ups 0 xs.length) := by rw [e]; exact h'
  rw [← pls_les xs _ h (ups_lt _ _), ← pls_les ys _ h2 (ups_lt _ _)]
  exact rank_order xs ys _ h h2 (ups_lt _ _)
theorem at_rank {xs : List Int} (h : IsT xs) : unp (ups 0 xs.length) (dig (rank xs) xs.length) = xs := by
  unfold rank
  have hb := pls_bd xs _ h
  have e := pls_les xs _ h (ups_lt 0 xs.length)
  have := dig_val _ hb
  rw [e, les_length] at this
  rw [this, ← e]
  exact unp_pls xs _ h
end Tm

set_option linter.all false
namespace Tm
/-! ### words -/
theorem isT_join {xs ys : List Int} (hx : IsT xs) (hy : IsT ys) (hl : xs.length = ys.length) : IsT (join xs ys) := by
  refine isT_of ?_ fun v hv => ?_
  · unfold join
    rw [List.Nodup, List.pairwise_map]
    refine hx.nodup.imp_of_mem fun {a b} ha hb hab e => hab ?_
    have ba := hx.mem.mp ha
    have bb := hx.mem.mp hb
    have e1 := getD_of (ys := ys) (k := a.toNat) (by omega)
    have e2 := getD_of (ys := ys) (k := b.toNat) (by omega)
    rw [e] at e1
    have := (List.getElem?_inj (by omega : a.toNat < ys.length) hy.nodup).mp (e1.trans e2.symm)
    omega
  · unfold join at hv
    obtain ⟨a, ha, rfl⟩ := List.mem_map.mp hv
    have ba := hx.mem.mp ha
    have := hy.bd (getD_of (ys := ys) (k := a.toNat) (by omega))
    rw [join_length]
    omega
/-- the turns of n seats -/
structure Turns (n : Nat) (us : List (List Int)) : Prop where
  is : ∀ u ∈ us, IsT u
  len : ∀ u ∈ us, u.length = n
def step (us : List (List Int)) (x : List Int) (k : Nat) : List Int := join x (us.getD k [])
def led (us : List (List Int)) (n : Nat) (w : List Nat) : List Int := w.foldl (step us) (ups 0 n)
def Valid (us : List (List Int)) (w : List Nat) : Prop := ∀ k ∈ w, k < us.length
theorem led_snoc (us : List (List Int)) (n : Nat) (w : List Nat) (k : Nat) : led us n (w ++ [k]) = step us (led us n w) k := by unfold led; rw [List.foldl_append]; rfl
theorem valid_snoc {us : List (List Int)} {w : List Nat} {k : Nat} : Valid us (w ++ [k]) ↔ Valid us w ∧ k < us.length := by
  unfold Valid
  constructor
  · intro h
    exact ⟨fun j hj => h j (List.mem_append_left _ hj), h k (List.mem_append_right _ (List.mem_singleton.mpr rfl))⟩
  · rintro ⟨h1, h2⟩ j hj
    rcases List.mem_append.mp hj with q | q
    · exact h1 j q
    · rw [List.mem_singleton.mp q]; exact h2
theorem getD_turn {n : Nat} {us : List (List Int)} (T : Turns n us) {k : Nat} (hk : k < us.length) : us[k]? = some (us.getD k []) ∧ IsT (us.getD k []) ∧ (us.getD k []).length = n := by
  have e : us[k]? = some (us.getD k []) := by rw [List.getD_eq_getElem?_getD, List.getElem?_eq_getElem hk]; rfl
  have hm := List.mem_of_getElem? e
  exact ⟨e, T.is _ hm, T.len _ hm⟩
theorem step_isT {n : Nat} {us : List (List Int)} (T : Turns n us) {x : List Int} {k : Nat} (hx : IsT x) (lx : x.length = n) (hk : k < us.length) : IsT (step us x k) ∧ (step us x k).length = n := by
  obtain ⟨_, h1, h2⟩ := getD_turn T hk
  exact ⟨isT_join hx h1 (by omega), by unfold step; rw [join_length, lx]⟩
theorem snoc_ind {P : List Nat → Prop} (h0 : P []) (h1 : ∀ w k, P w → P (w ++ [k])) : ∀ w, P w := by
  have : ∀ m (w : List Nat), w.length = m → P w := by
    intro m
    induction m with
    | zero => intro w hw; rw [List.length_eq_zero_iff.mp hw]; exact h0
    | succ m ih =>
      intro w hw
      rcases List.eq_nil_or_concat w with rfl | ⟨v, k, rfl⟩
      · cases hw
      · rw [List.concat_eq_append] at hw ⊢
        rw [List.length_append, List.length_singleton] at hw
        exact h1 v k (ih v (by omega))
  exact fun w => this _ w rfl
theorem led_isT {n : Nat} {us : List (List Int)} (T : Turns n us) : ∀ w : List Nat, Valid us w → IsT (led us n w) ∧ (led us n w).length = n := by
  refine snoc_ind ?_ ?_
  · intro _; exact ⟨isT_ups n, ups_length 0 n⟩
  · intro w k ih h
    obtain ⟨h1, h2⟩ := valid_snoc.mp h
    obtain ⟨a, b⟩ := ih h1
    rw [led_snoc]
    exact step_isT T a b h2
/-- how many turnings there are at most -/
theorem turn_count {n : Nat} {ks : List (List Int)} (nd : ks.Nodup) (h : ∀ k ∈ ks, IsT k ∧ k.length = n) : ks.length ≤ fact n := by
  have e : (ks.map fun k => (rank k : Int)).length ≤ fact n := by
    refine nodup_le (fact n) _ ?_ fun v hv => ?_
    · rw [List.Nodup, List.pairwise_map]
      refine nd.imp_of_mem fun {a b} ha hb hab e => hab ?_
      obtain ⟨h1, l1⟩ := h a ha
      obtain ⟨h2, l2⟩ := h b hb
      have e' : rank a = rank b := by omega
      have r1 := at_rank h1
      have r2 := at_rank h2
      rw [l1, e'] at r1
      rw [l2] at r2
      exact r1.symm.trans r2
    · obtain ⟨k, hk, rfl⟩ := List.mem_map.mp hv
      obtain ⟨h1, l1⟩ := h k hk
      have := rank_lt h1
      rw [l1] at this
      omega
  rwa [List.length_map] at e
theorem fact_five {n : Nat} (h : n ≤ 5) : fact n ≤ 120 := by
  have : n = 0 ∨ n = 1 ∨ n = 2 ∨ n = 3 ∨ n = 4 ∨ n = 5 := by omega
  rcases this with rfl | rfl | rfl | rfl | rfl | rfl <;> decide
/-! ### the search, level by level -/
abbrev WL := List (List Int × List Nat)
structure Lvl (us : List (List Int)) (n L : Nat) (W : WL) (E : List (List Int)) : Prop where
  word : ∀ p ∈ W, Valid us p.2 ∧ led us n p.2 = p.1 ∧ p.2.length ≤ L
  nd : (W.map (·.1)).Nodup
  all : ∀ v, Valid us v → v.length ≤ L → ∃ w, (led us n v, w) ∈ W ∧ w.length ≤ v.length
  ends : ∀ k, k ∈ E ↔ ∃ w, (k, w) ∈ W ∧ w.length = L
  much : L ≤ W.length ∧ (E ≠ [] → L + 1 ≤ W.length)
theorem key_one {W : WL} (nd : (W.map (·.1)).Nodup) {k : List Int} {w v : List Nat} (h1 : (k, w) ∈ W) (h2 : (k, v) ∈ W) : w = v := by
  induction W with
  | nil => cases h1
  | cons p r ih =>
    rw [List.map_cons] at nd
    obtain ⟨n1, n2⟩ := List.nodup_cons.mp nd
    rcases List.mem_cons.mp h1 with e1 | e1
    · rcases List.mem_cons.mp h2 with e2 | e2
      · rw [← e1] at e2
        exact (Prod.mk.inj e2).2.symm
      · exact absurd (by rw [← e1]; exact List.mem_map_of_mem (f := (·.1)) e2) n1
    · rcases List.mem_cons.mp h2 with e2 | e2
      · exact absurd (by rw [← e2]; exact List.mem_map_of_mem (f := (·.1)) e1) n1
      · exact ih n2 e1 e2
theorem lvl0 (us : List (List Int)) (n : Nat) : Lvl us n 0 [(ups 0 n, [])] [ups 0 n] := by
  refine ⟨fun p hp => ?_, List.nodup_cons.mpr ⟨List.not_mem_nil, List.nodup_nil⟩, fun v hv hl => ?_, fun k => ?_, ⟨Nat.zero_le _, fun _ => Nat.le_refl _⟩⟩
  · rw [List.mem_singleton.mp hp]
    exact ⟨fun k hk => (by cases hk), rfl, Nat.le_refl _⟩
  · have : v = [] := List.length_eq_zero_iff.mp (by omega)
    subst this
    exact ⟨[], List.mem_singleton.mpr rfl, Nat.le_refl _⟩
  · constructor
    · intro h
      rw [List.mem_singleton.mp h]
      exact ⟨[], List.mem_singleton.mpr rfl, rfl⟩
    · rintro ⟨w, hw, _⟩
      have := List.mem_singleton.mp hw
      rw [(Prod.mk.inj this).1]
      exact List.mem_singleton.mpr rfl
/-- what one round adds -/
structure Add (us : List (List Int)) (n L : Nat) (W : WL) (E : List (List Int)) (N : WL) : Prop where
  word : ∀ p ∈ N, Valid us p.2 ∧ led us n p.2 = p.1 ∧ p.2.length = L + 1
  nd : ((W ++ N).map (·.1)).Nodup
  all : ∀ e ∈ E, ∀ k, k < us.length → ∃ w, (step us e k, w) ∈ W ++ N
theorem lvl_next {us : List (List Int)} {n L : Nat} {W N : WL} {E : List (List Int)} (V : Lvl us n L W E) (A : Add us n L W E N) (hE : E ≠ []) : Lvl us n (L + 1) (W ++ N) (N.map (·.1)) := by
  refine ⟨fun p hp => ?_, A.nd, fun v hv hl => ?_, fun k => ?_, ⟨?_, fun ne => ?_⟩⟩
  · rcases List.mem_append.mp hp with q | q
    · obtain ⟨a, b, c⟩ := V.word p q
      exact ⟨a, b, by omega⟩
    · obtain ⟨a, b, c⟩ := A.word p q
      exact ⟨a, b, by omega⟩
  · by_cases h : v.length ≤ L
    · obtain ⟨w, hw, l⟩ := V.all v hv h
      exact ⟨w, List.mem_append_left _ hw, l⟩
    · rcases List.eq_nil_or_concat v with rfl | ⟨v0, k, rfl⟩
      · simp at h
      · rw [List.concat_eq_append] at hv hl h ⊢
        rw [List.length_append, List.length_singleton] at hl h
        obtain ⟨hv0, hk⟩ := valid_snoc.mp hv
        obtain ⟨w0, hw0, l0⟩ := V.all v0 hv0 (by omega)
        obtain ⟨va, le, ll⟩ := V.word _ hw0
        rw [led_snoc, List.length_append, List.length_singleton]
        by_cases h0 : w0.length = L
        · obtain ⟨w, hw⟩ := A.all _ ((V.ends _).mpr ⟨w0, hw0, h0⟩) k hk
          refine ⟨w, hw, ?_⟩
          rcases List.mem_append.mp hw with q | q
          · have := (V.word _ q).2.2
            have : w.length ≤ L := this
            omega
          · have := (A.word _ q).2.2
            have : w.length = L + 1 := this
            omega
        · have hw1 : Valid us (w0 ++ [k]) := valid_snoc.mpr ⟨va, hk⟩
          obtain ⟨w, hw, l⟩ := V.all (w0 ++ [k]) hw1 (by rw [List.length_append, List.length_singleton]; have : w0.length ≤ L := ll; omega)
          rw [led_snoc] at hw
          have e2 : led us n w0 = led us n v0 := le
          rw [e2] at hw
          rw [List.length_append, List.length_singleton] at l
          have : w0.length ≤ L := ll
          exact ⟨w, List.mem_append_left _ hw, by omega⟩
  · constructor
    · intro h
      obtain ⟨p, hp, rfl⟩ := List.mem_map.mp h
      exact ⟨p.2, List.mem_append_right _ hp, (A.word p hp).2.2⟩
    · rintro ⟨w, hw, l⟩
      rcases List.mem_append.mp hw with q | q
      · have := (V.word _ q).2.2
        have : w.length ≤ L := this
        omega
      · exact List.mem_map.mpr ⟨_, q, rfl⟩
  · have := V.much.2 hE
    rw [List.length_append]
    omega
  · have := V.much.2 hE
    have : N ≠ [] := fun z => ne (by rw [z]; rfl)
    have : 0 < N.length := List.length_pos_iff.mpr this
    rw [List.length_append]
    omega
/-- each word is a shortest one -/
theorem Lvl.least {us : List (List Int)} {n L : Nat} {W : WL} {E : List (List Int)} (V : Lvl us n L W E) {k : List Int} {w v : List Nat} (h : (k, w) ∈ W) (hv : Valid us v) (e : led us n v = k) : w.length ≤ v.length := by
  by_cases l : v.length ≤ L
  · obtain ⟨w', hw', l'⟩ := V.all v hv l
    rw [e] at hw'
    rw [key_one V.nd h hw']
    exact l'
  · have := (V.word _ h).2.2
    have : w.length ≤ L := this
    omega
/-- no end any more: closed -/
theorem Lvl.closed {us : List (List Int)} {n L : Nat} {W : WL} (V : Lvl us n L W []) : ∀ v, Valid us v → ∃ w, (led us n v, w) ∈ W := by
  refine snoc_ind ?_ ?_
  · intro h
    obtain ⟨w, hw, _⟩ := V.all [] h (Nat.zero_le _)
    exact ⟨w, hw⟩
  · intro v k ih h
    obtain ⟨h1, h2⟩ := valid_snoc.mp h
    obtain ⟨w, hw⟩ := ih h1
    obtain ⟨va, le, ll⟩ := V.word _ hw
    have lt : w.length < L := by
      have a : w.length ≤ L := ll
      have b : w.length ≠ L := fun z => by
        have := (V.ends (led us n v)).mpr ⟨w, hw, z⟩
        cases this
      omega
    obtain ⟨w2, hw2, _⟩ := V.all (w ++ [k]) (valid_snoc.mpr ⟨va, h2⟩) (by rw [List.length_append, List.length_singleton]; omega)
    have e2 : led us n w = led us n v := le
    rw [led_snoc, e2, ← led_snoc] at hw2
    exact ⟨w2, hw2⟩
theorem Lvl.count {us : List (List Int)} {n L : Nat} {W : WL} {E : List (List Int)} (T : Turns n us) (V : Lvl us n L W E) : W.length ≤ fact n := by
  have := turn_count V.nd fun k hk => by
    obtain ⟨p, hp, rfl⟩ := List.mem_map.mp hk
    obtain ⟨a, b, _⟩ := V.word p hp
    rw [← b]
    exact led_isT T p.2 a
  rwa [List.length_map] at this
end Tm

set_option Elab.async false
set_option linter.all false
set_option maxRecDepth 100000
set_option maxHeartbeats 4000000
namespace L2
open PySem PySem.Spec PyProof.Rows Tm
def natV (k : Nat) : V := .int (k : Int)
/-- a tuple of ints as a key -/
def kk (xs : List Int) : List Key := xs.map Sum.inl
theorem kk_map (xs : List Int) : (kk xs).map kV = xs.map V.int := by
  unfold kk
  rw [List.map_map]
  rfl
theorem kk_inj {xs ys : List Int} (h : kk xs = kk ys) : xs = ys := by
  unfold kk at h
  induction xs generalizing ys with
  | nil => cases ys with
    | nil => rfl
    | cons b t => cases h
  | cons a r ih => cases ys with
    | nil => cases h
    | cons b t =>
      rw [List.map_cons, List.map_cons] at h
      injection h with h1 h2
      injection h1 with h1
      rw [h1, ih h2]
/-- tuples of ints, one behind the other -/
inductive TL (H : Hp) : List Addr → List (List Int) → Prop where
  | nil : TL H [] []
  | cons {a : Addr} {l : List Int} {as : List Addr} {ls : List (List Int)} (e : H a = some (.tup (l.map V.int))) (r : TL H as ls) : TL H (a :: as) (l :: ls)
theorem TL.length {H : Hp} : ∀ {as : List Addr} {ls : List (List Int)}, TL H as ls → as.length = ls.length
  | _, _, .nil => rfl
  | _, _, .cons _ r => by rw [List.length_cons, List.length_cons, r.length]
theorem TL.app {H : Hp} : ∀ {as bs : List Addr} {ls ms : List (List Int)}, TL H as ls → TL H bs ms → TL H (as ++ bs) (ls ++ ms)
  | _, _, _, _, .nil, q => q
  | _, _, _, _, .cons e r, q => .cons e (r.app q)
theorem TL.get {H : Hp} : ∀ {as : List Addr} {ls : List (List Int)} {i : Nat} {a : Addr}, TL H as ls → as[i]? = some a → ∃ l, ls[i]? = some l ∧ H a = some (.tup (l.map V.int))
  | _, _, 0, _, .cons e r, h => by cases h; exact ⟨_, rfl, e⟩
  | _, _, i + 1, _, .cons e r, h => r.get (i := i) h
theorem TL.getL {H : Hp} : ∀ {as : List Addr} {ls : List (List Int)} {i : Nat} {l : List Int}, TL H as ls → ls[i]? = some l → ∃ a, as[i]? = some a ∧ H a = some (.tup (l.map V.int))
  | _, _, 0, _, .cons e r, h => by cases h; exact ⟨_, rfl, e⟩
  | _, _, i + 1, _, .cons e r, h => r.getL (i := i) h
theorem TL.mono {H H' : Hp} (s : ∀ b xs, H b = some (.tup xs) → H' b = some (.tup xs)) : ∀ {as : List Addr} {ls : List (List Int)}, TL H as ls → TL H' as ls
  | _, _, .nil => .nil
  | _, _, .cons e r => .cons (s _ _ e) (r.mono s)
theorem TL.same {H H' : Hp} (s : Same H H') {as : List Addr} {ls : List (List Int)} (h : TL H as ls) : TL H' as ls := h.mono fun b xs e => s b _ e
/-- the table of words: keys and lists of places -/
inductive DW (H : Hp) : List (List Key × V) → WL → Prop where
  | nil : DW H [] []
  | cons {p : Addr} {k : List Int} {w : List Nat} {kvs : List (List Key × V)} {W : WL} (e : H p = some (.lst (w.map natV))) (r : DW H kvs W) : DW H ((kk k, .ref p) :: kvs) ((k, w) :: W)
theorem DW.length {H : Hp} : ∀ {kvs : List (List Key × V)} {W : WL}, DW H kvs W → kvs.length = W.length
  | _, _, .nil => rfl
  | _, _, .cons _ r => by rw [List.length_cons, List.length_cons, r.length]
theorem DW.app {H : Hp} : ∀ {kvs kvs' : List (List Key × V)} {W W' : WL}, DW H kvs W → DW H kvs' W' → DW H (kvs ++ kvs') (W ++ W')
  | _, _, _, _, .nil, q => q
  | _, _, _, _, .cons e r, q => .cons e (r.app q)
theorem DW.look {H : Hp} {k : List Int} {v : V} : ∀ {kvs : List (List Key × V)} {W : WL}, DW H kvs W → valV kvs (kk k) = some v → ∃ p w, v = .ref p ∧ (k, w) ∈ W ∧ H p = some (.lst (w.map natV))
  | _, _, .nil, h => by cases h
  | _, _, @DW.cons _ p k' w kvs W e r, h => by
    by_cases ek : kk k' = kk k
    · rw [valV_pos (p := (kk k', V.ref p)) ek] at h
      cases h
      have : k' = k := kk_inj ek
      subst this
      exact ⟨p, w, rfl, List.mem_cons_self .., e⟩
    · rw [valV_neg (p := (kk k', V.ref p)) ek] at h
      obtain ⟨p', w', a, b, c⟩ := r.look h
      exact ⟨p', w', a, List.mem_cons_of_mem _ b, c⟩
theorem DW.some {H : Hp} {k : List Int} {w : List Nat} : ∀ {kvs : List (List Key × V)} {W : WL}, DW H kvs W → (k, w) ∈ W → ∃ v, valV kvs (kk k) = Option.some v
  | _, _, @DW.cons _ p k' w' kvs W e r, h => by
    by_cases ek : kk k' = kk k
    · exact ⟨_, valV_pos (p := (kk k', V.ref p)) ek⟩
    · rcases List.mem_cons.mp h with z | z
      · exact absurd (by rw [(Prod.mk.inj z).1]) ek
      · obtain ⟨v, hv⟩ := r.some z
        exact ⟨v, by rw [valV_neg (p := (kk k', V.ref p)) ek]; exact hv⟩
theorem DW.none {H : Hp} {k : List Int} {kvs : List (List Key × V)} {W : WL} (h : DW H kvs W) (e : valV kvs (kk k) = Option.none) : k ∉ W.map (·.1) := fun z => by
  obtain ⟨p, hp, rfl⟩ := List.mem_map.mp z
  obtain ⟨v, hv⟩ := h.some (k := p.1) (w := p.2) hp
  rw [e] at hv
  cases hv
theorem DW.mono {H H' : Hp} : ∀ {kvs : List (List Key × V)} {W : WL}, DW H kvs W → (∀ x ∈ kvs, ∀ p, x.2 = V.ref p → H' p = H p) → DW H' kvs W
  | _, _, .nil, _ => .nil
  | _, _, @DW.cons _ p k w kvs W e r, h => .cons (by rw [h (kk k, V.ref p) (List.mem_cons_self ..) p rfl]; exact e) (r.mono fun x hx => h x (List.mem_cons_of_mem _ hx))
theorem DW.lst {H : Hp} : ∀ {kvs : List (List Key × V)} {W : WL}, DW H kvs W → ∀ x ∈ kvs, ∀ p, x.2 = V.ref p → ∃ w : List Nat, H p = Option.some (.lst (w.map natV))
  | _, _, @DW.cons _ p k w kvs W e r, x, hx, p', ep => by
    rcases List.mem_cons.mp hx with z | z
    · subst z
      cases ep
      exact ⟨w, e⟩
    · exact r.lst x z p' ep
theorem DW.same {H H' : Hp} (s : Same H H') {kvs : List (List Key × V)} {W : WL} (h : DW H kvs W) : DW H' kvs W := h.mono fun x hx p ep => by
  obtain ⟨w, e⟩ := h.lst x hx p ep
  rw [e, s _ _ e]
/-- a store elsewhere -/
theorem DW.put {H : Hp} {kvs : List (List Key × V)} {W : WL} (h : DW H kvs W) {q : Addr} {o : HO} (n : ∀ x ∈ kvs, x.2 ≠ V.ref q) : DW (upd H q o) kvs W := h.mono fun x hx p ep => by
  rw [upd_ne (fun z => n x hx (by rw [ep, z]))]
theorem DW.off {H : Hp} {kvs : List (List Key × V)} {W : WL} (h : DW H kvs W) {q : Addr} (n : ∀ l, H q ≠ Option.some (.lst l)) : ∀ x ∈ kvs, x.2 ≠ V.ref q := fun x hx e => by
  obtain ⟨w, z⟩ := h.lst x hx q e
  exact n _ z
/-- all but d as before -/
def SameB (d : Addr) (H H' : Hp) : Prop := ∀ b o, b ≠ d → H b = some o → H' b = some o
theorem SameB.refl (d : Addr) (H : Hp) : SameB d H H := fun _ _ _ h => h
theorem SameB.trans {d : Addr} {H H1 H2 : Hp} (a : SameB d H H1) (b : SameB d H1 H2) : SameB d H H2 := fun c o n h => b c o n (a c o n h)
theorem Same.toB {d : Addr} {H H' : Hp} (s : Same H H') : SameB d H H' := fun b o _ h => s b o h
theorem SameB.put {d : Addr} {H H' : Hp} (s : SameB d H H') {p : Addr} (n : H p = none) (o : HO) : SameB d H (upd H' p o) := fun b u nd e => by rw [upd_ne (ne_of_none e n)]; exact s b u nd e
theorem SameB.putD {d : Addr} {H H' : Hp} (s : SameB d H H') (o : HO) : SameB d H (upd H' d o) := fun b u nd e => by rw [upd_ne nd]; exact s b u nd e
theorem TL.sameB {d : Addr} {H H' : Hp} (s : SameB d H H') {kvs : List (List Key × V)} (hd : H d = some (.dT kvs)) {as : List Addr} {ls : List (List Int)} (h : TL H as ls) : TL H' as ls := h.mono fun b xs e => s b _ (fun z => by rw [z, hd] at e; cases e) e
/-- a comprehension over a range, the elements plain -/
theorem comp_rng {lo : Int} {n : Nat} {js : List Nat} {te : TE} {σ : St} {H1 : Hp} {Q : VK} (f : Nat → V) (hz : n ≤ 1000)
    (he : ∀ (i : Nat) H' Q', i < n → Same H1 H' → Q' (f i) H' → te (some (.int (lo + i)) :: capd σ js) H' Q') (fin : ∀ D H', H1 D = Option.none → Same H1 H' → H' D = Option.some (.lst ((List.range n).map f)) → Q (.ref D) H') : tCompW js tTrue te σ (Itr lo n) H1 Q := by
  intro D hD
  refine ⟨fun i m ys H => m = n - i ∧ i ≤ n ∧ ys = (List.range i).map f ∧ H D = Option.some (.lst ys) ∧ Same H1 H, ⟨n, by simp, Nat.zero_le _, rfl, upd_same, same_new hD _⟩, ?_⟩
  rintro i m ys H ⟨rfl, hi, rfl, hH, sm⟩
  refine ⟨hH, ?_⟩
  by_cases hlt : i < n
  · refine .inr ⟨hlt, fun v H' y => ?_⟩
    obtain ⟨rfl, rfl⟩ := y
    refine he i _ _ hlt sm ⟨hH, small1000 ?_, n - (i + 1), by omega, rfl, hlt, ?_, upd_same, fun b u q => by rw [upd_ne (ne_of_none q hD)]; exact sm b u q⟩
    · rw [List.length_map, List.length_range]; omega
    · rw [List.range_succ, List.map_append]
      rfl
  · have e : i = n := by omega
    subst e
    exact .inl ⟨Nat.le_refl _, fin D H hD sm hH⟩
/-- over a list that stays; the new list is new -/
theorem comp_lstM {K : PySem.W.Frag} {a : Addr} {xs : List V} {js : List Nat} {te : TE} {σ : St} {H1 : Hp} {Q : VK} (f : V → V) (hS : SqL K H1 a xs) (hz : xs.length ≤ 1000)
    (he : ∀ (i : Nat) v H' Q', xs[i]? = Option.some v → Same H1 H' → Q' (f v) H' → te (Option.some v :: capd σ js) H' Q') (fin : ∀ D H', H1 D = Option.none → Same H1 H' → H' D = Option.some (.lst (xs.map f)) → Q (.ref D) H') : tCompW js tTrue te σ (Itl K a) H1 Q := by
  intro D hD
  refine ⟨fun i m ys H => m = xs.length - i ∧ i ≤ xs.length ∧ ys = (xs.take i).map f ∧ H D = Option.some (.lst ys) ∧ Same H1 H, ⟨xs.length, by simp, Nat.zero_le _, rfl, upd_same, same_new hD _⟩, ?_⟩
  rintro i m ys H ⟨rfl, hi, rfl, hH, sm⟩
  refine ⟨hH, ?_⟩
  by_cases hlt : i < xs.length
  · refine .inr ⟨⟨xs, xs[i], sm.seq hS, by simp [hlt]⟩, fun v H' y => ?_⟩
    obtain ⟨rfl, y⟩ := y
    have hv := y xs (sm.seq hS)
    refine he i v _ _ hv sm ⟨hH, small1000 ?_, xs.length - (i + 1), by omega, rfl, hlt, ?_, upd_same, fun b u q => by rw [upd_ne (ne_of_none q hD)]; exact sm b u q⟩
    · rw [List.length_map, List.length_take]; omega
    · rw [List.take_succ, hv, List.map_append]
      rfl
  · have e : i = xs.length := by omega
    subst e
    exact .inl ⟨⟨xs, sm.seq hS, Nat.le_refl _⟩, fin D H hD sm (by rw [hH, List.take_length])⟩
end L2

set_option Elab.async false
set_option linter.all false
set_option maxRecDepth 100000
set_option maxHeartbeats 4000000
namespace L2
open PySem PySem.Spec PyProof.Rows Tm
/-! ### a dict by its entries, walked key by key -/
def RawD (h : Heap) (d : Addr) (es : Array DictEntry) (ep : Nat) : Prop := ∃ o, h.get? d = some o ∧ o.ExactDict ∧ o.data = .dict es ep
theorem RawD.ty {s : Shared} {d : Addr} {es : Array DictEntry} {ep : Nat} (x : RawD s.heap d es ep) : s.TypeIs (.ref d) "dict" := let ⟨o, ho, hc, _⟩ := x; ⟨o, ho, hc.1⟩
theorem RawD.at {h h' : Heap} {d : Addr} {es : Array DictEntry} {ep : Nat} (x : RawD h d es ep) (k : ∀ o, h.get? d = some o → h'.get? d = some o) : RawD h' d es ep := let ⟨o, ho, r⟩ := x; ⟨o, k o ho, r⟩
section
variable {prog : Program} {w : World} {A : Around} {E : Value → Shared → Prop} {s : Shared} {d it : Addr} {es : Array DictEntry} {ep i : Nat}
theorem rd_iter {Q : Value → Shared → Prop} (lo : (d == sysModules) = false) (hm : RawD s.heap d es ep)
    (q : Q (.ref s.heap.objs.size) { s with heap := s.heap.push { cls := .type "dict_keyiterator", data := .fields #[.ref d, .int 0 0, .int es.size 0, .int ep 0] } }) : wpAny (model prog w) A (pyIter (.ref d)) Q E s := by
  have ty := hm.ty
  obtain ⟨o, ho, hc, hdat⟩ := hm
  refine wpAny_pyIter_slot ty F.slot_dict_iter (wpAny_call_entry F.slot_dict_iter ty F.entry_dict_iter ?_ (F.args_dict_iter_1 _))
  unfold Builtin.«dict.__iter__»
  refine wpAny_bind ?_
  unfold Builtin.Dict.dictSlotNone
  refine wpAny_bind (wpAny_notOrdered_dict ty ?_)
  refine (show wpAny _ _ (pure (Value.ref d)) _ _ s from wpAny_pure ?_)
  refine (show wpAny _ _ (Builtin.Dict.showsAll d >>= _) _ _ s from ?_)
  unfold Builtin.Dict.showsAll
  rw [if_neg (by rw [lo]; decide)]
  refine wpAny_bind (wpAny_pure (wpAny_bind (wpAny_dictEntries ho hdat (wpAny_bind (wpAny_dictEpoch ho hdat ?_)))))
  exact wpAny_bind (wpAny_newObj_type (wpAny_pure ⟨_, rfl, "dict_keyiterator", _, ⟨_, Heap.get?_push_size _ rfl, rfl⟩, F.slot_dict_keyiterator_next.lookup, by simpa [rawInt] using q⟩))
theorem rd_next {Q : Option Value → Shared → Prop} {e : DictEntry} (hi : s.heap.IsKeyIter it d i es.size ep) (hm : RawD s.heap d es ep) (hx : es[i]? = some e)
    (q : ∀ g, Heap.IsKeyIter g it d (i + 1) es.size ep → Heap.SameBut it s.heap g → Q (some e.key) { s with heap := g }) : wpAny (model prog w) A (pyNext (.ref it)) Q E s := by
  have ty := hi.typeIs
  obtain ⟨o, ho, hc, hd⟩ := hi
  obtain ⟨od, hod, hcd, hdd⟩ := hm
  unfold pyNext
  refine wpAny_bind (wpAny_attempt (wpAny_callSpecial?_slot (name := Str.ofString "__next__") ty F.slot_dict_keyiterator_next (wpAny_call_entry F.slot_dict_keyiterator_next ty F.entry_dict_keyiterator_next ?_ (F.args_dict_keyiterator_next_1 _))))
  refine wpAny_bind (wpAny_pure (wpAny_bind (wpAny_bind ?_)))
  refine wpAny_bind (wpAny_typeNameOfWhole_keyiter ty (wpAny_pure (wpAny_bind (wpAny_fieldsOf ho hd ?_))))
  have ow : Builtin.Dict_items.ownsTuple "dict_keyiterator" = false := by decide
  simp only [ow, Bool.false_eq_true, if_false]
  refine (show wpAny _ _ (if (Value.ref d == Value.none) = true then _ else _) _ _ s from ?_)
  rw [if_neg (by intro z; cases z)]
  refine wpAny_bind (wpAny_pure (wpAny_bind (wpAny_dictEntries hod hdd ?_)))
  rw [if_neg (by simp)]
  refine wpAny_bind (wpAny_pure (wpAny_bind (wpAny_dictEpoch hod hdd ?_)))
  rw [if_neg (by simp)]
  refine wpAny_pure ?_
  have nn : ¬ ((i : Int) < 0) := by omega
  simp only [nn, if_false, Int.toNat_natCast, hx]
  refine wpAny_bind (wpAny_bind (wpAny_typeNameOfWhole_keyiter ty (wpAny_pure ?_)))
  refine wpAny_bind (wpAny_isOneOf_keyiter ty ?_)
  refine (show wpAny _ _ (setField (.ref it) 1 (rawInt ((i : Int) + 1)) >>= _) _ _ s from wpAny_bind (wpAny_setField ho hd (by simp) ?_))
  have hi' : Heap.IsKeyIter (s.heap.update it (Obj.mapFields (·.setIfInBounds 1 (rawInt ((i : Int) + 1))))) it d (i + 1) es.size ep := by
    refine ⟨_, Heap.get?_update_self _ ho (Obj.isFreed_of_fields (Obj.data_mapFields hd _)), (Obj.cls_mapFields ..).trans hc, ?_⟩
    rw [Obj.data_mapFields hd]
    simp [rawInt]
  have sb : Heap.SameBut it s.heap (s.heap.update it (Obj.mapFields (·.setIfInBounds 1 (rawInt ((i : Int) + 1))))) := Heap.SameBut.update ..
  generalize s.heap.update it (Obj.mapFields (·.setIfInBounds 1 (rawInt ((i : Int) + 1)))) = g at hi' sb ⊢
  refine wpAny_bind (wpAny_holding (wpAny_bind (wpAny_isOneOf_keyiter (s := { s with heap := g }) hi'.typeIs ?_)))
  exact (show wpAny _ _ (pure e.key) _ _ _ from wpAny_pure (wpAny_pure ⟨_, rfl, wpAny_pure (q g hi' sb)⟩))
theorem rd_end {Q : Option Value → Shared → Prop} (hh : A.handled = none) (hi : s.heap.IsKeyIter it d es.size es.size ep) (hm : RawD s.heap d es ep)
    (q : ∀ g, Heap.ExtBut it s.heap g → Q none { s with heap := g }) : wpAny (model prog w) A (pyNext (.ref it)) Q E s := by
  have ty := hi.typeIs
  obtain ⟨o, ho, hc, hd⟩ := hi
  obtain ⟨od, hod, hcd, hdd⟩ := hm
  unfold pyNext
  refine wpAny_bind (wpAny_attempt (wpAny_callSpecial?_slot (name := Str.ofString "__next__") ty F.slot_dict_keyiterator_next (wpAny_call_entry F.slot_dict_keyiterator_next ty F.entry_dict_keyiterator_next ?_ (F.args_dict_keyiterator_next_1 _))))
  refine wpAny_bind (wpAny_pure (wpAny_bind (wpAny_bind ?_)))
  refine wpAny_bind (wpAny_typeNameOfWhole_keyiter ty (wpAny_pure (wpAny_bind (wpAny_fieldsOf ho hd ?_))))
  have ow : Builtin.Dict_items.ownsTuple "dict_keyiterator" = false := by decide
  simp only [ow, Bool.false_eq_true, if_false]
  refine (show wpAny _ _ (if (Value.ref d == Value.none) = true then _ else _) _ _ s from ?_)
  rw [if_neg (by intro z; cases z)]
  refine wpAny_bind (wpAny_pure (wpAny_bind (wpAny_dictEntries hod hdd ?_)))
  rw [if_neg (by simp)]
  refine wpAny_bind (wpAny_pure (wpAny_bind (wpAny_dictEpoch hod hdd ?_)))
  rw [if_neg (by simp)]
  refine wpAny_pure ?_
  have nn : ¬ ((es.size : Int) < 0) := by omega
  have no : es[es.size]? = none := Array.getElem?_eq_none (Nat.le_refl _)
  simp only [nn, if_false, Int.toNat_natCast, no]
  refine wpAny_bind (wpAny_bind (wpAny_typeNameOfWhole_keyiter ty (wpAny_pure ?_)))
  refine (show wpAny _ _ (setField (.ref it) 0 .none >>= _) _ _ s from wpAny_bind (wpAny_setField ho hd (by simp) ?_))
  have x0 : Heap.ExtBut it s.heap (s.heap.update it (Obj.mapFields (·.setIfInBounds 0 Value.none))) := (Heap.SameBut.update ..).extBut
  generalize s.heap.update it (Obj.mapFields (·.setIfInBounds 0 Value.none)) = g at x0 ⊢
  refine (show wpAny _ _ (newExc (.type "StopIteration") [] >>= _) _ _ _ from wpAny_bind ?_)
  simp only [newExc, newTuple]
  refine wpAny_bind (wpAny_newObj_type (wpAny_bind (m := firstArgMember _ _) (wpAny_of_eq (a := Value.none) (by first | rfl | (simp only [firstArgMember]; rfl)) (wpAny_newObj_type ?_ (by size_fits)))) (by size_fits))
  simp only [raiseNew]
  refine wpAny_bind (wpAny_handled ?_)
  first | rw [show A.in1.handled = none from hh]
        | rw [hh]
  refine wpAny_bind (wpAny_pure (wpAny_throw ?_))
  refine wpAny_bind (wpAny_isInstance (T := "StopIteration")
    (b := true) ⟨_, Heap.get?_push_size _ rfl, rfl⟩ isSubtype_stop ?_)
  exact wpAny_pure (q _ ((x0.push _).push _))
theorem rd_walks (hh : A.handled = none) (ne : d ≠ it) : Walks prog w A it [it, d] [it] es.size (fun i v => ∃ e, es[i]? = some e ∧ v = e.key) (fun i h => h.IsKeyIter it d i es.size ep ∧ RawD h d es ep) where
  sub := fun b hb => by simp at hb; simp [hb]
  frame := fun _ _ _ st hk => ⟨let ⟨o, ho, r⟩ := st.1; ⟨o, hk it (by simp) o ho, r⟩, st.2.at fun o e => hk d (by simp) o e⟩
  item := fun i s Q E hi st hQ => by
    have hx : es[i]? = some es[i] := Array.getElem?_eq_getElem hi
    exact rd_next st.1 st.2 hx fun g hg sb => hQ _ g s.toks ⟨_, hx, rfl⟩ ⟨hg, st.2.at fun o e => sb.extBut d o ne e⟩ fun b o hb e => sb.extBut b o (fun h => hb (by simp [h])) e
  done := fun s Q E st hQ => rd_end hh st.1 st.2 fun g x => hQ g s.toks fun b o hb e => x b o (fun h => hb (by simp [h])) e
  self := fun _ _ _ _ st hQ => wpAny_pyIter_keyiter st.1 hQ
theorem rd_src (lo : (d == sysModules) = false) : PySem.W.KdlSrc prog w "dict" d d es.size (fun i v => ∃ e, es[i]? = some e ∧ v = e.key) (fun h => RawD h d es ep) where
  type := fun _ hm => hm.ty
  there := fun _ hm => ⟨let ⟨_, ho, _⟩ := hm; Heap.lt_size ho, let ⟨_, ho, _⟩ := hm; Heap.lt_size ho⟩
  keep := fun _ _ hm hk => hm.at fun o e => hk d (.inl rfl) o e
  notList := by decide
  notTuple := by decide
  hint := fun _ _ _ _ hm hq => PySem.W.kdl_hint_dict hm.ty hq
  iter := fun A s hh hm => by
    have hlt : d < s.heap.objs.size := let ⟨_, ho, _⟩ := hm; Heap.lt_size ho
    exact ⟨_, _, (fun _ _ hq => rd_iter lo hm hq), rd_walks (A := A) (es := es) (ep := ep) hh (Nat.ne_of_lt hlt), ⟨⟨_, Heap.get?_push_size _ rfl, rfl, rfl⟩, hm.at fun o e => Heap.get?_push_of_some _ e⟩⟩
end
/-! ### sorting tuples of ints of one length -/
def TupI (h : Heap) (v : Value) (k : List Int) : Prop := ∃ (a : Addr) (us : List Value), v = .ref a ∧ IsTup h a us.toArray ∧ IntsAre us k
theorem TupI.keep {h h' : Heap} {v : Value} {k : List Int} (x : TupI h v k) (g : ∀ a o, o.cls = .type "tuple" → h.get? a = some o → h'.get? a = some o) : TupI h' v k := by
  obtain ⟨a, us, e, ⟨o, ho, hc, r⟩, hi⟩ := x
  exact ⟨a, us, e, ⟨o, g a o hc ho, hc, r⟩, hi⟩
section
variable {prog : Program} {w : World} {A : Around} {E : Value → Shared → Prop} {s : Shared}
open PySem.W in
theorem lex_go {Q : Bool → Shared → Prop} : ∀ {us vs : List Value} {xs ys : List Int} (i : Nat), IntsAre us xs → IntsAre vs ys → xs.length = ys.length → Q (ahead xs ys) s → KatLex prog w A true false Q (us.zip vs) i s
  | _, _, _, _, _, .nil, .nil, _, q => kat_nil q
  | _, _, _, _, _, .nil, .cons .., hl, _ => by cases hl
  | _, _, _, _, _, .cons .., .nil, hl, _ => by cases hl
  | _, _, _, _, i, .cons a ta ra, .cons b tb rb, hl, q => by
    refine kat_cons (wpAny_eqBool_int ?_)
    rw [ahead] at q
    by_cases c : a = b
    · rw [show (a == b) = true from beq_iff_eq.mpr c]
      rw [if_neg (by simpa using c)] at q
      exact kat_yes (lex_go (i + 1) ra rb (Nat.succ.inj hl) q)
    · rw [show (a == b) = false from beq_eq_false_iff_ne.mpr c]
      rw [if_pos c] at q
      refine kat_no ?_
      cases i with
      | zero => exact oneLt_int q
      | succ j => exact kat_one _ _ (lt_int (show PySem.W.BoolBack Q (.bool (decide (a < b))) s from q))
open PySem.W in
theorem tups_lt {v u : Value} {x y : List Int} {Q : Bool → Shared → Prop} (hv : TupI s.heap v x) (hu : TupI s.heap u y) (hl : x.length = y.length) (q : Q (ahead x y) s) : wpAny (model prog w) A (keyLt' (tuples' true) v u) Q E s := by
  obtain ⟨a, as, rfl, ⟨o, ho, hc, n, hd⟩, ia⟩ := hv
  obtain ⟨b, bs, rfl, ⟨o', ho', hc', n', hd'⟩, ib⟩ := hu
  refine kat_lt ho hd ho' hd' ?_
  have l1 := ia.length
  have l2 := ib.length
  have e : decide (as.toArray.size < bs.toArray.size) = false := decide_eq_false (by rw [List.size_toArray, List.size_toArray]; omega)
  rw [e]
  simpa using lex_go (Q := Q) 0 ia ib hl q
/-- values and what they are, one by one -/
inductive TIs (h : Heap) : List Value → List (List Int) → Prop where
  | nil : TIs h [] []
  | cons {v : Value} {k : List Int} {vs : List Value} {ks : List (List Int)} (e : TupI h v k) (r : TIs h vs ks) : TIs h (v :: vs) (k :: ks)
theorem TIs.length {h : Heap} : ∀ {vs : List Value} {ks : List (List Int)}, TIs h vs ks → vs.length = ks.length
  | _, _, .nil => rfl
  | _, _, .cons _ r => by rw [List.length_cons, List.length_cons, r.length]
theorem TIs.keep {h h' : Heap} (g : ∀ a o, o.cls = .type "tuple" → h.get? a = some o → h'.get? a = some o) : ∀ {vs : List Value} {ks : List (List Int)}, TIs h vs ks → TIs h' vs ks
  | _, _, .nil => .nil
  | _, _, .cons e r => .cons (e.keep g) (r.keep g)
theorem TIs.get {h : Heap} : ∀ {vs : List Value} {ks : List (List Int)} {i : Nat}, TIs h vs ks → i < ks.length → TupI h (vs.getD i Value.none) (ks.getD i [])
  | _, _, 0, .cons e _, _ => e
  | _, _, i + 1, .cons _ r, hi => r.get (i := i) (Nat.lt_of_succ_lt_succ hi)
theorem rank_inj {x y : List Int} (hx : IsT x) (hy : IsT y) (hl : x.length = y.length) (e : rank x = rank y) : x = y := by
  rw [← at_rank hx, ← at_rank hy, hl, e]
theorem srt_asks {vs : List Value} {ks : List (List Int)} {n : Nat} (T : TIs s.heap vs ks) (ht : ∀ k ∈ ks, IsT k ∧ k.length = n) : Asks ks.length (fun i => ((rank (ks.getD i []) : Nat) : Int)) (fun s' => s' = s) (PySem.W.kas_ask prog w A (tuples' true) vs) := by
  rintro i j C s' hi hj rfl k
  unfold PySem.W.kas_ask
  have gi : ks.getD i [] ∈ ks := by rw [List.getD_eq_getElem?_getD, List.getElem?_eq_getElem hi]; exact List.getElem_mem hi
  have gj : ks.getD j [] ∈ ks := by rw [List.getD_eq_getElem?_getD, List.getElem?_eq_getElem hj]; exact List.getElem_mem hj
  have el := (ht _ gi).2.trans (ht _ gj).2.symm
  refine tups_lt (T.get hi) (T.get hj) el ?_
  rw [← rank_ahead (ht _ gi).1 (ht _ gj).1 el]
  have := k s' rfl
  have e : (((rank (ks.getD i []) : Nat) : Int) < ((rank (ks.getD j []) : Nat) : Int)) = (rank (ks.getD i []) < rank (ks.getD j [])) := propext Int.ofNat_lt
  simpa only [e] using this
theorem tups_of {h : Heap} : ∀ {vs : List Value} {ks : List (List Int)}, TIs h vs ks → (∀ k ∈ ks, k ≠ []) → ∃ fs : List Value, fs.length = vs.length ∧ PySem.W.KatTups h vs fs ∧ ∀ v ∈ fs, ∃ n t, v = .int n t
  | _, _, .nil, _ => ⟨[], rfl, .nil, fun v hv => by cases hv⟩
  | _, _, .cons e r, hk => by
    obtain ⟨fs, hl, T, hf⟩ := tups_of r fun k hk' => hk k (List.mem_cons_of_mem _ hk')
    obtain ⟨a, us, rfl, ⟨o, ho, hc, n, hd⟩, hi⟩ := e
    cases hi with
    | nil => exact absurd rfl (hk [] (List.mem_cons_self ..))
    | cons z t r' =>
      exact ⟨.int z t :: fs, by rw [List.length_cons, List.length_cons, hl], .cons ho hc hd rfl T, fun v hv => by
        rcases List.mem_cons.mp hv with q | q
        · exact ⟨z, t, q⟩
        · exact hf v q⟩
theorem map_range_getD {α : Type} (d : α) (l : List α) : (List.range l.length).map (fun i => l.getD i d) = l := by
  apply List.ext_getElem (by simp)
  intro i h1 h2
  simp [h2]
theorem st_list_sort {a : Addr} {vs : List Value} {ks : List (List Int)} {m n : Nat} {R : PySem.Fin → Shared → Prop} (ho : s.heap.get? a = some (seqObj "list" vs.toArray m)) (T : TIs s.heap vs ks) (ht : ∀ k ∈ ks, IsT k ∧ k.length = n) (n0 : 0 < n) (nd : ks.Nodup) (h64 : ks.length < 64)
    (h : ∀ p : List Nat, p.Perm (List.range ks.length) → (p.map fun i => ks.getD i []).Pairwise (fun x y => ahead x y = true) → R (.done (.ret .none)) { s with heap := sortedHeap s.heap a vs (p.map fun i => vs.getD i Value.none).toArray }) :
    wpAny (model prog w) A (Builtin.«list.sort» ⟨[.ref a], []⟩) R E s := by
  have ll := T.length
  have ha : a < s.heap.objs.size := Heap.lt_size ho
  have hsz : vs.toArray.size = vs.length := by simp
  rw [list_sort_plain]
  refine wpAny_bind (listItems_at ho rfl (wpAny_bind (listUpdate_at ho rfl ?_ (by rw [List.size_toArray, sizeLine_eq]; omega) (Nat.zero_le _))))
  obtain ⟨e1, ho1⟩ : ∃ e1, (s.heap.update a (Obj.mapSeq fun _ => (#[] : Array Value))).get? a = some (seqObj "list" #[] e1) := ⟨_, get?_update_seq ho fun _ => #[]⟩
  refine wpAny_bind (seqEpoch_at ho1 rfl (wpAny_bind (wpAny_newTuple (wpAny_bind (wpAny_newList (wpAny_holding ?_) (Nat.zero_le _))) (by show vs.length ≤ _; rw [sizeLine_eq]; omega))))
  have ho6 : (((s.heap.update a (Obj.mapSeq fun _ => (#[] : Array Value))).push (seqObj "tuple" vs.toArray 0)).push (seqObj "list" #[] 0)).get? a = some (seqObj "list" #[] e1) := Heap.get?_push_of_some _ (Heap.get?_push_of_some _ ho1)
  have T6 : TIs (((s.heap.update a (Obj.mapSeq fun _ => (#[] : Array Value))).push (seqObj "tuple" vs.toArray 0)).push (seqObj "list" #[] 0)) vs ks := T.keep fun b o hc e => by
    have hba : b ≠ a := fun z => by
      rw [z, ho] at e
      cases e
      simp at hc
    exact Heap.get?_push_of_some _ (Heap.get?_push_of_some _ ((Heap.get?_update_ne _ _ _ _ hba).trans e))
  refine (show wpAny (model prog w) A _ R E { s with heap := ((s.heap.update a (Obj.mapSeq fun _ => (#[] : Array Value))).push (seqObj "tuple" vs.toArray 0)).push (seqObj "list" #[] 0) } from ?_)
  dsimp only
  by_cases h2 : vs.toArray.size < 2
  · rw [if_pos h2, if_pos h2]
    refine wpAny_bind (wpAny_pure ?_)
    rw [StateT.run_pure]
    refine wpAny_bind (wpAny_pure ?_)
    dsimp only
    have eo : ((vs.toArray.zip vs.toArray).map (·.2)) = ((List.range ks.length).map fun i => vs.getD i Value.none).toArray := by
      rw [← ll, map_range_getD]
      apply Array.toList_inj.mp
      rw [Array.toList_map, Array.toList_zip]
      simp [List.map_snd_zip]
    refine wpAny_bind (seqEpoch_at ho6 rfl (wpAny_bind (listUpdate_at ho6 rfl ?_ (Nat.zero_le _) (by rw [Array.size_map, Array.size_zip, List.size_toArray, sizeLine_eq]; omega))))
    simp only [bne_self_eq_false, Bool.false_eq_true, if_false]
    refine wpAny_pure ?_
    show R _ { s with heap := sortedHeap s.heap a vs ((vs.toArray.zip vs.toArray).map (·.2)) }
    rw [eo]
    refine h (List.range ks.length) (List.Perm.refl _) ?_
    rw [map_range_getD]
    match ks, ll with
    | [], _ => exact .nil
    | [_], _ => exact List.pairwise_singleton _ _
    | _ :: _ :: _, ll => rw [hsz, ll] at h2; simp at h2; omega
  · rw [if_neg h2, if_neg h2]
    have h2' : 2 ≤ vs.length := by omega
    obtain ⟨fs, lf, KT6, hf⟩ := tups_of T6 fun k hk z => by have := (ht k hk).2; rw [z] at this; simp at this; omega
    refine wpAny_bind (PySem.W.kat_kind (T := .type "int") KT6 (by omega) (fun v hv => ?_) (by decide) ?_)
    · obtain ⟨z, t, rfl⟩ := hf v hv
      exact PySem.W.Looks.of_pure rfl
    have ek : (Value.type "int" != Value.type "tuple") = true := by decide
    rw [ek]
    have inj : ∀ i j, i < ks.length → j < ks.length → ((rank (ks.getD i []) : Nat) : Int) = ((rank (ks.getD j []) : Nat) : Int) → i = j := fun i j hi hj e => by
      have gi : ks.getD i [] ∈ ks := by rw [List.getD_eq_getElem?_getD, List.getElem?_eq_getElem hi]; exact List.getElem_mem hi
      have gj : ks.getD j [] ∈ ks := by rw [List.getD_eq_getElem?_getD, List.getElem?_eq_getElem hj]; exact List.getElem_mem hj
      have := rank_inj (ht _ gi).1 (ht _ gj).1 ((ht _ gi).2.trans (ht _ gj).2.symm) (by omega)
      rw [List.getD_eq_getElem?_getD, List.getElem?_eq_getElem hi, List.getD_eq_getElem?_getD, List.getElem?_eq_getElem hj] at this
      exact (List.getElem_inj nd).mp this
    have SA := srt_asks (prog := prog) (w := w) (A := A) (s := { s with heap := ((s.heap.update a (Obj.mapSeq fun _ => (#[] : Array Value))).push (seqObj "tuple" vs.toArray 0)).push (seqObj "list" #[] 0) }) T6 ht
    have run := kas_sort_go SA inj (by omega) (s := { s with heap := ((s.heap.update a (Obj.mapSeq fun _ => (#[] : Array Value))).push (seqObj "tuple" vs.toArray 0)).push (seqObj "list" #[] 0) }) rfl (G := fun p s' => s' = { s with heap := ((s.heap.update a (Obj.mapSeq fun _ => (#[] : Array Value))).push (seqObj "tuple" vs.toArray 0)).push (seqObj "list" #[] 0) } ∧ Pm ks.length p ∧ Asc (fun i => ((rank (ks.getD i []) : Nat) : Int)) p ks.length) fun p s' P As e => ⟨e, P, As⟩
    rw [← ll] at run
    refine wpAny_bind (wpAny_mono (PySem.W.kat_run (Q := fun st' s' => ∃ p : Array Nat, p.size = vs.length ∧ arrOf st' = p.map (PySem.W.kas_item (vs.toArray.zip vs.toArray)) ∧ failedOf st' = none ∧ s' = { s with heap := ((s.heap.update a (Obj.mapSeq fun _ => (#[] : Array Value))).push (seqObj "tuple" vs.toArray 0)).push (seqObj "list" #[] 0) } ∧ Pm vs.length p ∧ Asc (fun i => ((rank (ks.getD i []) : Nat) : Int)) p vs.length)
      rfl h2' (by omega) (fun p st' s' b1 b2 b3 b4 => ⟨p, b1, b2, b3, b4⟩) run) ?_ fun _ _ e => e)
    rintro ⟨⟨⟩, st'⟩ s' ⟨p, hp, har, hfl, rfl, P, As⟩
    dsimp only
    have eo := PySem.W.kat_snds rfl har
    refine wpAny_bind (seqEpoch_at ho6 rfl (wpAny_bind (listUpdate_at ho6 rfl ?_ (Nat.zero_le _) ?_)))
    · rw [hfl]
      simp only [bne_self_eq_false, Bool.false_eq_true, if_false]
      refine wpAny_pure ?_
      show R _ { s with heap := sortedHeap s.heap a vs ((arrOf st').map (·.2)) }
      rw [eo]
      have PL := P.toList
      rw [ll] at PL
      refine h p.toList PL ?_
      rw [List.pairwise_iff_getElem]
      intro i j hi hj hij
      rw [List.length_map, Array.length_toList, hp] at hi hj
      rw [List.getElem_map, List.getElem_map]
      have q := As i j hij (by omega)
      have gp : ∀ x (hx : x < p.toList.length), p.toList[x] = pat p x := fun x hx => by
        have := P.get (k := x) (by rw [Array.length_toList, hp] at hx; exact hx)
        rw [List.getElem?_eq_getElem hx] at this
        exact Option.some.inj this
      rw [gp i (by rw [Array.length_toList, hp]; exact hi), gp j (by rw [Array.length_toList, hp]; exact hj)]
      have mi := P.lt (k := i) (by omega)
      have mj := P.lt (k := j) (by omega)
      have gi : ks.getD (pat p i) [] ∈ ks := by rw [List.getD_eq_getElem?_getD, List.getElem?_eq_getElem (by omega)]; exact List.getElem_mem _
      have gj : ks.getD (pat p j) [] ∈ ks := by rw [List.getD_eq_getElem?_getD, List.getElem?_eq_getElem (by omega)]; exact List.getElem_mem _
      rw [← rank_ahead (ht _ gi).1 (ht _ gj).1 ((ht _ gi).2.trans (ht _ gj).2.symm)]
      exact decide_eq_true (by have q' : ((rank (ks.getD (pat p i) []) : Nat) : Int) < ((rank (ks.getD (pat p j) []) : Nat) : Int) := q; omega)
    · rw [eo, List.size_toArray, List.length_map, Array.length_toList, hp, sizeLine_eq]
      omega
end
end L2

set_option Elab.async false
set_option linter.all false
set_option maxRecDepth 100000
set_option maxHeartbeats 4000000
namespace L2
open PySem PySem.Spec PyProof.Rows Tm
/-! ### sorted(d), d a dict whose keys are turnings of one length -/
theorem TL.pick {H : Hp} {rs : List Addr} {ks : List (List Int)} (T : TL H rs ks) : ∀ p : List Nat, (∀ i ∈ p, i < ks.length) → TL H (p.map fun i => rs.getD i 0) (p.map fun i => ks.getD i [])
  | [], _ => .nil
  | i :: p, h => by
    have hi : i < ks.length := h i (List.mem_cons_self ..)
    obtain ⟨a, ea, ha⟩ := T.getL (List.getElem?_eq_getElem hi)
    refine .cons ?_ (T.pick p fun j hj => h j (List.mem_cons_of_mem _ hj))
    dsimp only
    rw [List.getD_eq_getElem?_getD, ea, List.getD_eq_getElem?_getD, List.getElem?_eq_getElem hi]
    exact ha
theorem TIs.of {P : Program} {w : World} {H : Hp} {h : Heap} (ok : HOk P w H h) : ∀ {rs : List Addr} {ks : List (List Int)}, TL H rs ks → TIs h (rs.map Value.ref) ks
  | _, _, .nil => .nil
  | _, _, .cons e r => by
    obtain ⟨_, its, rv, hp⟩ := (show ObjOk P w H h _ (.tup _) from ok _ _ e)
    exact .cons ⟨_, its, rfl, hp, ints_of_vals rv⟩ (TIs.of ok r)
theorem kt_tl {H : Hp} : ∀ {kvs : List (List Key × V)} {xs : List (List Key × Addr × Value)} {ks : List (List Int)}, KT H kvs xs → kvs.map (·.1) = ks.map kk → TL H (xs.map (·.2.1)) ks ∧ xs.map (·.1) = ks.map kk
  | _, _, [], .nil, _ => ⟨.nil, rfl⟩
  | _, _, _ :: _, .nil, e => by cases e
  | _, _, [], .cons _ _, e => by cases e
  | _, _, k :: ks, .cons (a := p) (b := q) h r, e => by
    rw [List.map_cons, List.map_cons] at e
    injection e with e1 e2
    obtain ⟨T, z⟩ := kt_tl r e2
    refine ⟨.cons ?_ T, ?_⟩
    · have := h.2.1
      rw [e1, kk_map] at this
      exact this
    · rw [List.map_cons, List.map_cons, z, ← h.1, e1]
theorem vals_pick {rs : List Addr} : ∀ p : List Nat, (∀ i ∈ p, i < rs.length) → Vals ((p.map fun i => rs.getD i 0).map V.ref) (p.map fun i => (rs.map Value.ref).getD i Value.none)
  | [], _ => .nil
  | i :: p, h => by
    have hi : i < rs.length := h i (List.mem_cons_self ..)
    refine .cons ?_ (vals_pick p fun j hj => h j (List.mem_cons_of_mem _ hj))
    dsimp only
    rw [List.getD_eq_getElem?_getD, List.getD_eq_getElem?_getD, List.getElem?_map, List.getElem?_eq_getElem hi]
    rfl
section
variable {X : Cx}
def rSrtD : List V → Hp → VK → Prop := fun xs H Q => ∃ (d : Addr) (kvs : List (List Key × V)) (ks : List (List Int)) (n : Nat), xs = [.ref d] ∧ H d = some (.dT kvs) ∧ kvs.map (·.1) = ks.map kk ∧ (∀ k ∈ ks, IsT k ∧ k.length = n) ∧ 0 < n ∧ ks.length < 64 ∧
  ∀ (p : Addr) (rs : List Addr) (ls : List (List Int)), H p = none → TL H rs ls → ls.Perm ks → ls.Pairwise (fun x y => ahead x y = true) → Q (.ref p) (upd H p (.lst (rs.map V.ref)))
theorem call_sortedD (hc : X.calm = true) : CallR X (.builtin "sorted") rSrtD := by
  intro pins s σ H xs us Q I r h
  obtain ⟨d, kvs, ks, n, rfl, hd, ek, ht, n0, h64, q⟩ := h
  obtain ⟨u, rfl, rx⟩ := vals1 r
  cases rx
  obtain ⟨hz, lo, zs, kt, o, es, ep, ho, hx, hdat, hes, hk, hn⟩ := dt_of I.hok hd
  obtain ⟨T, ez⟩ := kt_tl kt ek
  have nd : ks.Nodup := by
    rw [ez] at hn
    exact (List.pairwise_map.mp hn).imp fun h z => h (by rw [z])
  have lT := T.length
  rw [List.length_map] at lT
  have hsz : es.size = ks.length := by rw [← Array.length_toList, hes, List.length_map, lT]
  refine Calls.call_function_entry kind_sorted plain_sorted entry_sorted (args_sorted1 _) ?_
  unfold Builtin.«sorted»
  refine wpAny_bind (m := checkCount "sorted" 1 1 _) (wpAny_pure ?_)
  refine wpAny_bind (PySem.W.kdu_collect (A := X.A.in1) (rd_src (es := es) (ep := ep) lo) (I.ok.hd hc) ⟨o, ho, hx, hdat⟩ (by rw [hsz, sizeLine_eq]; omega) fun g tk acc kp hacc => ?_)
  have ea : acc.toList = (zs.map (·.2.1)).map Value.ref := by
    apply List.ext_getElem?
    intro i
    rw [Array.getElem?_toList]
    by_cases hi : i < es.size
    · have ha : i < acc.size := by rw [hacc.1]; exact hi
      obtain ⟨e, he, hv⟩ := hacc.2 i acc[i] (Array.getElem?_eq_getElem ha)
      rw [Array.getElem?_eq_getElem ha, hv]
      have he' : es.toList[i]? = some e := by rw [Array.getElem?_toList]; exact he
      rw [hes, List.getElem?_map] at he'
      rw [List.map_map, List.getElem?_map]
      cases c : zs[i]? with
      | none => rw [c] at he'; cases he'
      | some z =>
        rw [c] at he'
        cases he'
        rfl
    · rw [Array.getElem?_eq_none (by rw [hacc.1]; omega), List.getElem?_eq_none (by rw [List.length_map, List.length_map]; omega)]
  rw [ea]
  have I1 : Inv X pins σ H { s with heap := g, toks := tk } := I.kept kp
  refine wpAny_bind (wpAny_newList ?_ (by rw [List.length_map, List.length_map, sizeLine_eq]; omega))
  have hoL : (g.push (seqObj "list" ((zs.map (·.2.1)).map Value.ref).toArray 0)).get? g.objs.size = some (seqObj "list" ((zs.map (·.2.1)).map Value.ref).toArray 0) := Heap.get?_push_size _ rfl
  have I2 : Inv X pins σ H { s with heap := g.push (seqObj "list" ((zs.map (·.2.1)).map Value.ref).toArray 0), toks := tk } := I1.kept (t' := tk) fun b o e => Heap.get?_push_of_some _ e
  have T2 := TIs.of I2.hok T
  refine wpAny_bind (wpAny_holding (wpAny_call_entry slot_list_sort ⟨_, hoL, rfl⟩ entry_list_sort (st_list_sort (s := { s with heap := g.push (seqObj "list" ((zs.map (·.2.1)).map Value.ref).toArray 0), toks := tk }) hoL T2 ht n0 nd h64 fun p pp pw => ⟨_, rfl, ?_⟩) (args_list_sort _)))
  refine wpAny_pure ?_
  have hp : ∀ i ∈ p, i < ks.length := fun i hi => List.mem_range.mp (pp.subset hi)
  obtain ⟨k, hk'⟩ := sortedHeap_at (out := (p.map fun i => ((zs.map (·.2.1)).map Value.ref).getD i Value.none).toArray) hoL
  refine ⟨_, rfl, ⟨.ref g.objs.size, _, I1.laid (t' := tk) (fun b u e1 => ?_) (Nat.le_refl _) (show ObjOk X.prog X.w _ _ _ (.lst ((p.map fun i => (zs.map (·.2.1)).getD i 0).map V.ref)) from ⟨?_, _, k, vals_pick p fun i hi => by rw [List.length_map]; have := hp i hi; omega, hk'⟩), rfl, q _ _ _ (I1.hok.fresh (Nat.le_refl _)) (T.pick p hp) ?_ pw⟩⟩
  · exact (sortedHeap_old (Nat.ne_of_lt (Heap.lt_size e1)) (by rw [size_push']; exact Nat.lt_succ_of_lt (Heap.lt_size e1))).trans (Heap.get?_push_of_some _ e1)
  · rw [List.length_map, List.length_map, pp.length_eq, List.length_range, sizeLine_eq]
    omega
  · have := pp.map fun i => ks.getD i []
    rwa [map_range_getD] at this
end
end L2

set_option Elab.async false
set_option linter.all false
set_option maxRecDepth 100000
set_option maxHeartbeats 4000000
namespace L2
open PySem PySem.Spec PyProof.Rows Tm
/-! ### len(d), d keyed by tuples -/
section
variable {prog : Program} {w : World} {A : Around} {E : Value → Shared → Prop} {s : Shared} {d : Addr} {es : Array DictEntry} {ep : Nat}
theorem rd_len {Q : Value → Shared → Prop} (lo : (d == sysModules) = false) (hm : RawD s.heap d es ep) (hz : (es.size : Int) < 2 ^ 63) (q : ∀ t tk, Q (.int es.size t) { s with toks := tk }) : wpAny (model prog w) A (call (.builtin "len") [.ref d]) Q E s := by
  have ty := hm.ty
  obtain ⟨o, ho, hc, hdat⟩ := hm
  refine Calls.call_function_entry kind_len plain_len entry_len (args_len1 _) ?_
  unfold Builtin.«len»
  refine wpAny_bind (m := oneArg "len" _) (wpAny_pure ?_)
  refine wpAny_bind (m := callSpecial? (.ref d) (Str.ofString "__len__")) (wpAny_callSpecial?_slot (name := Str.ofString "__len__") ty F.slot_dict_len (wpAny_call_entry F.slot_dict_len ty F.entry_dict_len ?_ (F.args_dict_len_1 _)))
  refine (show wpAny _ _ (dictSize d >>= _) _ _ s from ?_)
  unfold dictSize
  refine wpAny_bind (wpAny_bind (wpAny_dictEntries ho hdat (wpAny_pure ?_)))
  refine (show wpAny _ _ (Builtin.Dict.pendingCount d >>= _) _ _ s from wpAny_bind (wpAny_pendingCount_other lo (wpAny_ret_mkInt ?_)))
  try rw [Nat.add_zero]
  try rw [show ((es.size : Int) + ((0 : Nat) : Int)) = (es.size : Int) by omega]
  refine (show wpAny _ _ _ _ _ { s with toks := s.toks + 1 } from wpAny_bind (wpAny_holding (wpAny_pure (wpAny_bind (wpAny_letGo ?_)))))
  refine (show wpAny _ _ (if ((es.size : Nat) : Int) < 0 then _ else _) _ _ _ from ?_)
  rw [if_neg (by omega)]
  refine (show wpAny _ _ (if ((es.size : Nat) : Int) ≥ 2 ^ 63 then _ else _) _ _ _ from ?_)
  rw [if_neg (by omega)]
  exact wpAny_bind (wpAny_mkInt (wpAny_pure ⟨_, rfl, q _ _⟩))
end
section
variable {X : Cx}
theorem call_lenDT : CallR X (.builtin "len") (fun xs H Q => ∃ a kvs, xs = [V.ref a] ∧ H a = some (.dT kvs) ∧ Q (.int kvs.length) H) := by
  intro pins s σ H xs us Q I r h
  obtain ⟨a, kvs, rfl, ha, q⟩ := h
  obtain ⟨u, rfl, ru⟩ := vals1 r
  cases ru
  obtain ⟨hz, lo, zs, kt, o, es, ep, ho, hx, hdat, hes, hk, hn⟩ := dt_of I.hok ha
  have e : es.size = kvs.length := by rw [← Array.length_toList, hes, List.length_map, kt.length]
  refine rd_len lo ⟨o, ho, hx, hdat⟩ (by rw [sizeLine_eq] at hz; omega) fun t tk => ⟨.int kvs.length, H, I.tok tk, ⟨t, by rw [e]⟩, q⟩
end
end L2

set_option linter.all false
namespace Tm
/-! ### what turns lead to is closed: at most half of the turnings, if one is outside -/
theorem getD_join {ys zs : List Int} {k : Nat} (h : k < ys.length) : (join ys zs).getD k 0 = zs.getD (ys.getD k 0).toNat 0 := by
  have e := join_get (ys := zs) (getD_of (ys := ys) h)
  rw [List.getD_eq_getElem?_getD, e]
  rfl
theorem join_assoc {xs ys zs : List Int} (hx : IsT xs) (l1 : xs.length = ys.length) : join (join xs ys) zs = join xs (join ys zs) := by
  show (xs.map _).map _ = xs.map _
  rw [List.map_map]
  refine List.map_congr_left fun a ha => ?_
  have := hx.mem.mp ha
  exact (getD_join (by omega)).symm
theorem join_left {ys : List Int} {n : Nat} (l : ys.length = n) : join (ups 0 n) ys = ys := by
  apply List.ext_getElem?
  intro i
  by_cases h : i < n
  · rw [join_get (ups_get h), show ((0 : Int) + (i : Int)).toNat = i by omega, getD_of (by omega)]
  · rw [List.getElem?_eq_none (by rw [join_length, ups_length]; omega), List.getElem?_eq_none (by omega)]
theorem join_right {xs : List Int} {n : Nat} (hx : IsT xs) (l : xs.length = n) : join xs (ups 0 n) = xs := by
  unfold join
  conv => rhs; rw [← List.map_id xs]
  refine List.map_congr_left fun a ha => ?_
  have := hx.mem.mp ha
  rw [List.getD_eq_getElem?_getD, ups_get (by omega)]
  show (0 : Int) + (a.toNat : Int) = a
  omega
theorem join_cancel {x y r : List Int} (hx : IsT x) (hy : IsT y) (hr : IsT r) (l1 : x.length = r.length) (l2 : y.length = r.length) (e : join x r = join y r) : x = y := by
  apply List.ext_getElem?
  intro i
  by_cases h : i < x.length
  · have a1 := getD_of (ys := x) h
    have a2 := getD_of (ys := y) (k := i) (by omega)
    have b1 := hx.bd a1
    have b2 := hy.bd a2
    have c1 := join_get (ys := r) a1
    have c2 := join_get (ys := r) a2
    rw [e, c2] at c1
    have d1 := getD_of (ys := r) (k := (x.getD i 0).toNat) (by omega)
    have d2 := getD_of (ys := r) (k := (y.getD i 0).toNat) (by omega)
    have := (List.getElem?_inj (by omega) hr.nodup).mp (d1.trans (c1.symm.trans d2.symm))
    rw [a1, a2]
    congr 1
    omega
  · rw [List.getElem?_eq_none (by omega), List.getElem?_eq_none (by omega)]
theorem valid_app {us : List (List Int)} {v w : List Nat} (h1 : Valid us v) (h2 : Valid us w) : Valid us (v ++ w) := fun k hk => by
  rcases List.mem_append.mp hk with q | q
  · exact h1 k q
  · exact h2 k q
theorem led_app {n : Nat} {us : List (List Int)} (T : Turns n us) {v : List Nat} (hv : Valid us v) : ∀ w : List Nat, Valid us w → led us n (v ++ w) = join (led us n v) (led us n w) := by
  obtain ⟨a, b⟩ := led_isT T v hv
  refine snoc_ind ?_ ?_
  · intro _
    rw [List.append_nil]
    exact (join_right a b).symm
  · intro w k ih h
    obtain ⟨h1, h2⟩ := valid_snoc.mp h
    obtain ⟨c, d⟩ := led_isT T w h1
    rw [← List.append_assoc, led_snoc, led_snoc, ih h1]
    exact join_assoc a (by omega)
theorem nd_sub {α : Type} [DecidableEq α] : ∀ {l m : List α}, l.Nodup → (∀ x ∈ l, x ∈ m) → l.length ≤ m.length
  | [], _, _, _ => Nat.zero_le _
  | a :: r, m, nd, h => by
    obtain ⟨n1, n2⟩ := List.nodup_cons.mp nd
    have hm := h a (List.mem_cons_self ..)
    have := nd_sub (m := m.erase a) n2 fun x hx => (List.mem_erase_of_ne (fun z => n1 (by rw [← z]; exact hx))).mpr (h x (List.mem_cons_of_mem _ hx))
    rw [List.length_erase_of_mem hm] at this
    have : 0 < m.length := List.length_pos_of_mem hm
    rw [List.length_cons]
    omega
theorem onto {l : List (List Int)} (nd : l.Nodup) {f : List Int → List Int} (into : ∀ x ∈ l, f x ∈ l) (inj : ∀ x ∈ l, ∀ y ∈ l, f x = f y → x = y) {y : List Int} (hy : y ∈ l) : ∃ x ∈ l, f x = y := by
  have nd2 : (l.map f).Nodup := by
    rw [List.Nodup, List.pairwise_map]
    exact nd.imp_of_mem fun {a b} ha hb hab e => hab (inj a ha b hb e)
  by_cases h : y ∈ l.map f
  · obtain ⟨x, hx, e⟩ := List.mem_map.mp h
    exact ⟨x, hx, e⟩
  · have := nd_sub (m := l) (List.nodup_cons.mpr ⟨h, nd2⟩) fun x hx => by
      rcases List.mem_cons.mp hx with z | z
      · rw [z]; exact hy
      · obtain ⟨a, ha, rfl⟩ := List.mem_map.mp z
        exact into a ha
    rw [List.length_cons, List.length_map] at this
    omega
theorem half {us : List (List Int)} {n : Nat} (T : Turns n us) {R : List (List Int)} (nd : R.Nodup) (hR : ∀ x, x ∈ R ↔ ∃ v, Valid us v ∧ led us n v = x) {g : List Int} (tg : IsT g) (lg : g.length = n) (ng : g ∉ R) : 2 * R.length ≤ fact n := by
  have isR : ∀ x ∈ R, IsT x ∧ x.length = n := fun x hx => by
    obtain ⟨v, hv, rfl⟩ := (hR x).mp hx
    exact led_isT T v hv
  have cl : ∀ x ∈ R, ∀ y ∈ R, join x y ∈ R := fun x hx y hy => by
    obtain ⟨v, hv, rfl⟩ := (hR x).mp hx
    obtain ⟨w, hw, rfl⟩ := (hR y).mp hy
    exact (hR _).mpr ⟨v ++ w, valid_app hv hw, led_app T hv w hw⟩
  have id : ups 0 n ∈ R := (hR _).mpr ⟨[], fun k hk => (by cases hk), rfl⟩
  have nd2 : (R ++ R.map fun x => join x g).Nodup := by
    rw [List.nodup_append]
    refine ⟨nd, ?_, ?_⟩
    · rw [List.Nodup, List.pairwise_map]
      exact nd.imp_of_mem fun {a b} ha hb hab e => hab (join_cancel (isR a ha).1 (isR b hb).1 tg ((isR a ha).2.trans lg.symm) ((isR b hb).2.trans lg.symm) e)
    · intro y hy z hz e
      subst e
      obtain ⟨x, hx, e⟩ := List.mem_map.mp hz
      obtain ⟨tx, lx⟩ := isR x hx
      obtain ⟨x', hx', ex⟩ := onto nd (f := fun a => join a x) (fun a ha => cl a ha x hx) (fun a ha b hb e => join_cancel (isR a ha).1 (isR b hb).1 tx ((isR a ha).2.trans lx.symm) ((isR b hb).2.trans lx.symm) e) id
      apply ng
      have e2 : g = join x' y := by
        rw [← e, ← join_assoc (isR x' hx').1 ((isR x' hx').2.trans lx.symm)]
        have ex' : join x' x = ups 0 n := ex
        rw [ex', join_left lg]
      rw [e2]
      exact cl x' hx' y hy
  have := turn_count (n := n) nd2 fun k hk => by
    rcases List.mem_append.mp hk with q | q
    · exact isR k q
    · obtain ⟨x, hx, rfl⟩ := List.mem_map.mp q
      obtain ⟨tx, lx⟩ := isR x hx
      exact ⟨isT_join tx tg (lx.trans lg.symm), by rw [join_length]; exact lx⟩
  rw [List.length_append, List.length_map] at this
  omega
end Tm

set_option linter.all false
namespace Tm
/-! ### a search by a queue: steps to what is reached -/
structure BQ (us : List (List Int)) (n f j : Nat) (P : List (List Int × Nat)) : Prop where
  word : ∀ p ∈ P, ∃ v, Valid us v ∧ led us n v = p.1 ∧ v.length = p.2
  nd : (P.map (·.1)).Nodup
  asc : P.Pairwise (fun a b => a.2 ≤ b.2)
  near : ∀ e, P[f]? = some e → ∀ p ∈ P, p.2 ≤ e.2 + 1
  cl : ∀ i p, P[i]? = some p → ∀ k, k < us.length → (i < f ∨ (i = f ∧ k < j)) → ∃ q ∈ P, q.1 = step us p.1 k ∧ q.2 ≤ p.2 + 1
  start : P[0]? = some (ups 0 n, 0)
theorem bq0 (us : List (List Int)) (n : Nat) : BQ us n 0 0 [(ups 0 n, 0)] := by
  refine ⟨fun p hp => ?_, by simp, List.pairwise_singleton _ _, fun e he p hp => ?_, fun i p hp k hk h => ?_, rfl⟩
  · rw [List.mem_singleton.mp hp]
    exact ⟨[], fun k hk => (by cases hk), rfl, rfl⟩
  · rw [List.mem_singleton.mp hp]
    exact Nat.zero_le _
  · rcases h with h | ⟨_, h⟩ <;> omega
section
variable {us : List (List Int)} {n f j : Nat} {P : List (List Int × Nat)} {e : List Int × Nat}
theorem BQ.count (T : Turns n us) (B : BQ us n f j P) : P.length ≤ fact n := by
  have := turn_count (n := n) B.nd fun k hk => by
    obtain ⟨p, hp, rfl⟩ := List.mem_map.mp hk
    obtain ⟨v, hv, ev, _⟩ := B.word p hp
    rw [← ev]
    exact led_isT T v hv
  rwa [List.length_map] at this
theorem BQ.have (B : BQ us n f j P) (hf : P[f]? = some e) (h : step us e.1 j ∈ P.map (·.1)) : BQ us n f (j + 1) P := by
  refine ⟨B.word, B.nd, B.asc, B.near, fun i p hp k hk hi => ?_, B.start⟩
  by_cases c : i < f ∨ (i = f ∧ k < j)
  · exact B.cl i p hp k hk c
  · obtain ⟨rfl, rfl⟩ : i = f ∧ k = j := by omega
    rw [hf] at hp
    cases hp
    obtain ⟨q, hq, eq⟩ := List.mem_map.mp h
    exact ⟨q, hq, eq, B.near e hf q hq⟩
theorem BQ.add (B : BQ us n f j P) (hf : P[f]? = some e) (hj : j < us.length) (h : step us e.1 j ∉ P.map (·.1)) : BQ us n f (j + 1) (P ++ [(step us e.1 j, e.2 + 1)]) := by
  have hlt : f < P.length := (List.getElem?_eq_some_iff.mp hf).1
  have he := List.mem_of_getElem? hf
  refine ⟨fun p hp => ?_, ?_, ?_, fun e' he' p hp => ?_, fun i p hp k hk hi => ?_, ?_⟩
  · rcases List.mem_append.mp hp with q | q
    · exact B.word p q
    · rw [List.mem_singleton.mp q]
      obtain ⟨v, hv, ev, lv⟩ := B.word e he
      exact ⟨v ++ [j], valid_snoc.mpr ⟨hv, hj⟩, by rw [led_snoc, ev], by rw [List.length_append, lv]; rfl⟩
  · rw [List.map_append]
    refine List.nodup_append.mpr ⟨B.nd, by simp, fun a ha b hb => ?_⟩
    rintro rfl
    rw [List.mem_singleton.mp hb] at ha
    exact h ha
  · refine List.pairwise_append.mpr ⟨B.asc, List.pairwise_singleton _ _, fun a ha b hb => ?_⟩
    rw [List.mem_singleton.mp hb]
    exact B.near e hf a ha
  · rw [List.getElem?_append_left hlt, hf] at he'
    cases he'
    rcases List.mem_append.mp hp with q | q
    · exact B.near e hf p q
    · rw [List.mem_singleton.mp q]
      exact Nat.le_refl _
  · have hil : i < P.length := by omega
    rw [List.getElem?_append_left hil] at hp
    by_cases c : i < f ∨ (i = f ∧ k < j)
    · obtain ⟨q, hq, eq⟩ := B.cl i p hp k hk c
      exact ⟨q, List.mem_append_left _ hq, eq⟩
    · obtain ⟨rfl, rfl⟩ : i = f ∧ k = j := by omega
      rw [hf] at hp
      cases hp
      exact ⟨_, List.mem_append_right _ (List.mem_singleton.mpr rfl), rfl, Nat.le_refl _⟩
  · rw [List.getElem?_append_left (by omega)]
    exact B.start
theorem BQ.next (B : BQ us n f us.length P) (hlt : f < P.length) : BQ us n (f + 1) 0 P := by
  refine ⟨B.word, B.nd, B.asc, fun e' he' p hp => ?_, fun i p hp k hk hi => B.cl i p hp k hk (by omega), B.start⟩
  have hf : P[f]? = some P[f] := List.getElem?_eq_getElem hlt
  have a1 := B.near _ hf p hp
  have hlt2 : f + 1 < P.length := (List.getElem?_eq_some_iff.mp he').1
  have a2 := List.pairwise_iff_getElem.mp B.asc f (f + 1) hlt hlt2 (Nat.lt_succ_self _)
  have e2 := (List.getElem?_eq_some_iff.mp he').2
  rw [e2] at a2
  omega
theorem BQ.all (B : BQ us n f 0 P) (hf : P.length ≤ f) : ∀ v, Valid us v → ∃ q ∈ P, q.1 = led us n v ∧ q.2 ≤ v.length := by
  refine snoc_ind ?_ ?_
  · intro _
    exact ⟨_, List.mem_of_getElem? B.start, rfl, Nat.le_refl _⟩
  · intro v k ih h
    obtain ⟨h1, h2⟩ := valid_snoc.mp h
    obtain ⟨q, hq, eq, lq⟩ := ih h1
    obtain ⟨i, hi, ei⟩ := List.getElem_of_mem hq
    obtain ⟨q', hq', eq', lq'⟩ := B.cl i q (by rw [List.getElem?_eq_getElem hi, ei]) k h2 (.inl (by omega))
    refine ⟨q', hq', by rw [led_snoc, eq', eq], ?_⟩
    rw [List.length_append, List.length_singleton]
    omega
theorem BQ.least (B : BQ us n f 0 P) (hf : P.length ≤ f) {g : List Int} {w : List Nat} (hw : Valid us w) (ew : led us n w = g) (lw : ∀ v, Valid us v → led us n v = g → w.length ≤ v.length) : (g, w.length) ∈ P := by
  obtain ⟨⟨x, d⟩, hq, eq, lq⟩ := B.all hf w hw
  obtain ⟨v, hv, ev, lv⟩ := B.word _ hq
  have a1 : x = led us n w := eq
  have a2 : d ≤ w.length := lq
  have a3 : led us n v = x := ev
  have a4 : v.length = d := lv
  have := lw v hv (by rw [a3, a1, ew])
  have ed : d = w.length := by omega
  rw [ed, a1, ew] at hq
  exact hq
end
/-! ### a search by a stack: all that is reached -/
structure DS (us : List (List Int)) (n : Nat) (R S Td : List (List Int)) (h : List Int) (j : Nat) : Prop where
  mem : ∀ x ∈ S, x ∈ R
  nd : S.Nodup
  sub : ∀ x ∈ Td, x ∈ S
  here : h ∈ S
  start : ups 0 n ∈ S
  cl : ∀ x ∈ S, x ∉ Td → ∀ k, k < us.length → (x = h → k < j) → step us x k ∈ S
section
variable {us : List (List Int)} {n j : Nat} {R S Td : List (List Int)} {h : List Int}
theorem ds0 (hR : ups 0 n ∈ R) : DS us n R [ups 0 n] [ups 0 n] (ups 0 n) us.length :=
  ⟨fun x hx => by rw [List.mem_singleton.mp hx]; exact hR, by simp, fun x hx => hx, List.mem_singleton.mpr rfl, List.mem_singleton.mpr rfl, fun x hx nx => absurd hx nx⟩
theorem DS.pop {y : List Int} (D : DS us n R S (Td ++ [y]) h us.length) : DS us n R S Td y 0 := by
  refine ⟨D.mem, D.nd, fun x hx => D.sub x (List.mem_append_left _ hx), D.sub y (List.mem_append_right _ (List.mem_singleton.mpr rfl)), D.start, fun x hx nx k hk hl => D.cl x hx (fun z => ?_) k hk fun _ => hk⟩
  rcases List.mem_append.mp z with q | q
  · exact nx q
  · exact absurd (hl (List.mem_singleton.mp q)) (Nat.not_lt_zero _)
theorem DS.have (D : DS us n R S Td h j) (m : step us h j ∈ S) : DS us n R S Td h (j + 1) := by
  refine ⟨D.mem, D.nd, D.sub, D.here, D.start, fun x hx nx k hk hl => ?_⟩
  by_cases e : x = h
  · by_cases ek : k = j
    · rw [e, ek]; exact m
    · exact D.cl x hx nx k hk fun z => by have := hl z; omega
  · exact D.cl x hx nx k hk fun z => absurd z e
theorem DS.add (D : DS us n R S Td h j) (hR : step us h j ∈ R) (m : step us h j ∉ S) : DS us n R (S ++ [step us h j]) (Td ++ [step us h j]) h (j + 1) := by
  refine ⟨fun x hx => ?_, List.nodup_append.mpr ⟨D.nd, by simp, fun a ha b hb => ?_⟩, fun x hx => ?_, List.mem_append_left _ D.here, List.mem_append_left _ D.start, fun x hx nx k hk hl => ?_⟩
  · rcases List.mem_append.mp hx with q | q
    · exact D.mem x q
    · rw [List.mem_singleton.mp q]; exact hR
  · rintro rfl
    rw [List.mem_singleton.mp hb] at ha
    exact m ha
  · rcases List.mem_append.mp hx with q | q
    · exact List.mem_append_left _ (D.sub x q)
    · exact List.mem_append_right _ q
  · have hx' : x ∈ S := by
      rcases List.mem_append.mp hx with q | q
      · exact q
      · exact absurd (List.mem_append_right _ q) nx
    by_cases e : x = h ∧ k = j
    · rw [e.1, e.2]
      exact List.mem_append_right _ (List.mem_singleton.mpr rfl)
    · exact List.mem_append_left _ (D.cl x hx' (fun z => nx (List.mem_append_left _ z)) k hk fun z => by
        have := hl z
        have : k ≠ j := fun y => e ⟨z, y⟩
        omega)
theorem DS.all (D : DS us n R S [] h us.length) : ∀ v, Valid us v → led us n v ∈ S := by
  refine snoc_ind ?_ ?_
  · intro _; exact D.start
  · intro v k ih hv
    obtain ⟨h1, h2⟩ := valid_snoc.mp hv
    rw [led_snoc]
    exact D.cl _ (ih h1) List.not_mem_nil k h2 fun _ => h2
theorem DS.length (D : DS us n R S [] h us.length) (ndR : R.Nodup) (hR : ∀ x, x ∈ R ↔ ∃ v, Valid us v ∧ led us n v = x) : S.length = R.length := by
  have a := nd_sub D.nd D.mem
  have b := nd_sub ndR fun x hx => by
    obtain ⟨v, hv, rfl⟩ := (hR x).mp hx
    exact D.all v hv
  omega
end
end Tm

set_option Elab.async false
set_option linter.all false
set_option maxRecDepth 100000
set_option maxHeartbeats 4000000
namespace L2
open PySem PySem.Spec PyProof.Rows Tm
/-! ### tables keyed by turnings, by a list -/
section
variable {α : Type} {f : α → List Int} {g : α → V}
theorem tab_some {k : List Int} {v : V} : ∀ {l : List α}, valV (l.map fun p => (kk (f p), g p)) (kk k) = some v → ∃ p ∈ l, f p = k ∧ g p = v
  | [], h => by cases h
  | p :: l, h => by
    rw [List.map_cons] at h
    by_cases e : kk (f p) = kk k
    · rw [valV_pos (p := (kk (f p), g p)) e] at h
      exact ⟨p, List.mem_cons_self .., kk_inj e, Option.some.inj h⟩
    · rw [valV_neg (p := (kk (f p), g p)) e] at h
      obtain ⟨q, hq, r⟩ := tab_some h
      exact ⟨q, List.mem_cons_of_mem _ hq, r⟩
theorem tab_none {k : List Int} : ∀ {l : List α}, valV (l.map fun p => (kk (f p), g p)) (kk k) = none → k ∉ l.map f
  | [], _ => List.not_mem_nil
  | p :: l, h => by
    rw [List.map_cons] at h
    by_cases e : kk (f p) = kk k
    · rw [valV_pos (p := (kk (f p), g p)) e] at h
      cases h
    · rw [valV_neg (p := (kk (f p), g p)) e] at h
      rw [List.map_cons]
      intro z
      rcases List.mem_cons.mp z with z | z
      · exact e (by rw [z])
      · exact tab_none h z
theorem tab_at {p : α} : ∀ {l : List α}, (l.map f).Nodup → p ∈ l → valV (l.map fun p => (kk (f p), g p)) (kk (f p)) = some (g p)
  | [], _, h => by cases h
  | q :: l, nd, h => by
    rw [List.map_cons] at nd ⊢
    obtain ⟨n1, n2⟩ := List.nodup_cons.mp nd
    by_cases e : kk (f q) = kk (f p)
    · rw [valV_pos (p := (kk (f q), g q)) e]
      rcases List.mem_cons.mp h with z | z
      · rw [z]
      · exact absurd (by rw [kk_inj e]; exact List.mem_map_of_mem z) n1
    · rw [valV_neg (p := (kk (f q), g q)) e]
      rcases List.mem_cons.mp h with z | z
      · exact absurd (by rw [z]) e
      · exact tab_at n2 z
end
end L2

set_option linter.all false
namespace Tm
/-! ### rings tell a turning -/
structure PT (n : Nat) (D : List (Int × Int)) (ys : List Int) : Prop where
  len : ys.length = n
  at_ : ∀ p ∈ D, ys[p.1.toNat]? = some p.2
  rest : ∀ i : Nat, i < n → (∀ p ∈ D, p.1 ≠ (i : Int)) → ys[i]? = some (i : Int)
theorem PT.nil (n : Nat) : PT n [] (ups 0 n) := ⟨ups_length 0 n, fun p hp => (by cases hp), fun i hi _ => by rw [ups_get hi]; congr 1; omega⟩
theorem PT.add {n : Nat} {D : List (Int × Int)} {ys : List Int} (T : PT n D ys) {s v : Int} (h0 : 0 ≤ s) (h1 : s < n) (hd : ∀ p ∈ D, p.1 ≠ s) (hD : ∀ p ∈ D, 0 ≤ p.1) : PT n (D ++ [(s, v)]) (ys.set s.toNat v) := by
  refine ⟨by rw [List.length_set, T.len], fun p hp => ?_, fun i hi hn => ?_⟩
  · rcases List.mem_append.mp hp with hp | hp
    · have a := hd p hp
      have b := hD p hp
      rw [List.getElem?_set_ne (by omega)]
      exact T.at_ p hp
    · rw [List.mem_singleton.mp hp]
      show (ys.set s.toNat v)[s.toNat]? = some v
      rw [List.getElem?_set_self (by rw [T.len]; omega)]
  · have a := hn (s, v) (List.mem_append_right _ (List.mem_singleton.mpr rfl))
    have a' : s ≠ (i : Int) := a
    rw [List.getElem?_set_ne (by omega)]
    exact T.rest i hi fun p hp => hn p (List.mem_append_left _ hp)
theorem PT.unique {n : Nat} {D D' : List (Int × Int)} {ys zs : List Int} (T : PT n D ys) (U : PT n D' zs) (h : ∀ p, p ∈ D ↔ p ∈ D') (hD : ∀ p ∈ D, 0 ≤ p.1) : ys = zs := by
  refine List.ext_getElem? fun i => ?_
  by_cases hi : i < n
  · by_cases hp : ∃ p ∈ D, p.1 = (i : Int)
    · obtain ⟨p, hp, e⟩ := hp
      have a := T.at_ p hp
      have b := U.at_ p ((h p).mp hp)
      rw [e, Int.toNat_natCast] at a b
      rw [a, b]
    · rw [T.rest i hi fun p q e => hp ⟨p, q, e⟩, U.rest i hi fun p q e => hp ⟨p, (h p).mpr q, e⟩]
  · rw [List.getElem?_eq_none (by rw [T.len]; omega), List.getElem?_eq_none (by rw [U.len]; omega)]
def pairs (l : List Int) : List (Int × Int) := (List.range l.length).map fun k => (l.getD k 0, l.getD ((k + 1) % l.length) 0)
theorem pairs_length (l : List Int) : (pairs l).length = l.length := by unfold pairs; simp
theorem pairs_fst (l : List Int) : (pairs l).map (·.1) = l := by
  refine List.ext_getElem? fun i => ?_
  unfold pairs
  rw [List.map_map, List.getElem?_map]
  by_cases hi : i < l.length
  · rw [List.getElem?_range hi]
    show some (l.getD i 0) = _
    rw [getD_of hi]
  · rw [List.getElem?_eq_none (by rw [List.length_range]; omega), List.getElem?_eq_none (by omega)]
    rfl
theorem pairs_get {l : List Int} {k : Nat} (hk : k < l.length) : (pairs l)[k]? = some (l.getD k 0, l.getD ((k + 1) % l.length) 0) := by
  unfold pairs
  rw [List.getElem?_map, List.getElem?_range hk]
  rfl
theorem pairs_take {l : List Int} {k : Nat} (hk : k < l.length) : (pairs l).take (k + 1) = (pairs l).take k ++ [(l.getD k 0, l.getD ((k + 1) % l.length) 0)] := by
  rw [List.take_succ, pairs_get hk]
  rfl
def pairsL (ls : List (List Int)) : List (Int × Int) := ls.flatMap pairs
theorem pairsL_fst (ls : List (List Int)) : (pairsL ls).map (·.1) = ls.flatten := by
  unfold pairsL
  induction ls with
  | nil => rfl
  | cons l r ih => rw [List.flatMap_cons, List.map_append, pairs_fst, ih, List.flatten_cons]
/-- what is wanted of rings -/
structure Good (n : Nat) (ls : List (List Int)) : Prop where
  two : ∀ l ∈ ls, 2 ≤ l.length
  bd : ∀ l ∈ ls, ∀ s ∈ l, 0 ≤ s ∧ s < (n : Int)
  nd : ls.flatten.Nodup
theorem Good.bdp {n : Nat} {ls : List (List Int)} (G : Good n ls) : ∀ p ∈ pairsL ls, 0 ≤ p.1 ∧ p.1 < (n : Int) := fun p hp => by
  have : p.1 ∈ (pairsL ls).map (·.1) := List.mem_map_of_mem hp
  rw [pairsL_fst] at this
  obtain ⟨l, hl, hs⟩ := List.mem_flatten.mp this
  exact G.bd l hl _ hs
/-- the seat at a place is none of those ahead -/
theorem Good.fresh {n : Nat} {ls : List (List Int)} (G : Good n ls) {j k : Nat} {l : List Int} (hl : ls[j]? = some l) (hk : k < l.length) :
    ∀ s ∈ (ls.take j).flatten ++ l.take k, s ≠ l.getD k 0 := by
  have hj : j < ls.length := (List.getElem?_eq_some_iff.mp hl).1
  have e : ls = ls.take j ++ l :: ls.drop (j + 1) := by
    have := List.take_append_drop j ls
    rw [List.drop_eq_getElem_cons hj] at this
    have e2 : ls[j] = l := (List.getElem?_eq_some_iff.mp hl).2
    rw [e2] at this
    exact this.symm
  have nd := G.nd
  rw [e, List.flatten_append, List.flatten_cons] at nd
  have e3 : l = l.take k ++ l.getD k 0 :: l.drop (k + 1) := by
    have := List.take_append_drop k l
    rw [List.drop_eq_getElem_cons hk] at this
    have e2 : l[k] = l.getD k 0 := by rw [List.getD_eq_getElem?_getD, List.getElem?_eq_getElem hk]; rfl
    rw [e2] at this
    exact this.symm
  intro s hs es
  rcases List.mem_append.mp hs with hs | hs
  · have := (List.nodup_append.mp nd).2.2 s hs (l.getD k 0) (List.mem_append_left _ (List.mem_of_getElem? (getD_of hk)))
    exact this es
  · have nl := (List.nodup_append.mp (List.nodup_append.mp nd).2.1).1
    rw [e3] at nl
    have := (List.nodup_append.mp nl).2.2 s hs (l.getD k 0) (List.mem_cons_self ..)
    exact this es
theorem Good.step {n : Nat} {ls : List (List Int)} (G : Good n ls) {j k : Nat} {l ys : List Int} (hl : ls[j]? = some l) (hk : k < l.length) (T : PT n (pairsL (ls.take j) ++ (pairs l).take k) ys) :
    PT n (pairsL (ls.take j) ++ (pairs l).take (k + 1)) (ys.set (l.getD k 0).toNat (l.getD ((k + 1) % l.length) 0)) := by
  have hm : l ∈ ls := List.mem_of_getElem? hl
  have hs := G.bd l hm _ (List.mem_of_getElem? (getD_of hk))
  have keys : ∀ p ∈ pairsL (ls.take j) ++ (pairs l).take k, p.1 ∈ (ls.take j).flatten ++ l.take k := fun p hp => by
    rcases List.mem_append.mp hp with hp | hp
    · refine List.mem_append_left _ ?_
      rw [← pairsL_fst]
      exact List.mem_map_of_mem hp
    · refine List.mem_append_right _ ?_
      have : p.1 ∈ ((pairs l).take k).map (·.1) := List.mem_map_of_mem hp
      rw [List.map_take, pairs_fst] at this
      exact this
  rw [pairs_take hk, ← List.append_assoc]
  refine T.add hs.1 hs.2 (fun p hp => G.fresh hl hk _ (keys p hp)) fun p hp => ?_
  rcases List.mem_append.mp (keys p hp) with q | q
  · obtain ⟨l', hl', hs'⟩ := List.mem_flatten.mp q
    exact (G.bd l' (List.mem_of_mem_take hl') _ hs').1
  · exact (G.bd l hm _ (List.mem_of_mem_take q)).1
theorem pairsL_take {ls : List (List Int)} {j : Nat} {l : List Int} (hl : ls[j]? = some l) : pairsL (ls.take (j + 1)) = pairsL (ls.take j) ++ (pairs l).take l.length := by
  rw [List.take_succ, hl]
  unfold pairsL
  have e : (pairs l).take l.length = pairs l := List.take_of_length_le (by rw [pairs_length]; exact Nat.le_refl _)
  rw [List.flatMap_append, e]
  simp
/-! ### the rings of a turning tell it, from whichever seat on -/
def Apart (xs : List Int) (gs : List Int) : Prop := gs.Pairwise fun a b => ∀ s, On xs a s → ¬ On xs b s
section
variable {xs : List Int} (h : IsT xs)
include h
theorem good_rings {gs : List Int} (hb : ∀ g ∈ gs, 0 ≤ g ∧ g < xs.length ∧ nx xs g ≠ g) (ha : Apart xs gs) : Good xs.length (gs.map (ring xs)) := by
  refine ⟨fun l hl => ?_, fun l hl s hs => ?_, ?_⟩
  · obtain ⟨g, hg, rfl⟩ := List.mem_map.mp hl
    obtain ⟨g0, g1, gn⟩ := hb g hg
    rw [ring_length]
    exact per_two h g0 g1 gn
  · obtain ⟨g, hg, rfl⟩ := List.mem_map.mp hl
    obtain ⟨g0, g1, gn⟩ := hb g hg
    exact On.bd h g0 g1 ((mem_ring h g0 g1).mp hs)
  · refine List.pairwise_flatten.mpr ⟨fun l hl => ?_, ?_⟩
    · obtain ⟨g, hg, rfl⟩ := List.mem_map.mp hl
      obtain ⟨g0, g1, gn⟩ := hb g hg
      exact ring_nodup h g0 g1
    · rw [List.pairwise_map]
      refine ha.imp_of_mem fun {a b} hma hmb hab x hx y hy e => ?_
      obtain ⟨a0, a1, _⟩ := hb a hma
      obtain ⟨b0, b1, _⟩ := hb b hmb
      rw [← e] at hy
      exact hab x ((mem_ring h a0 a1).mp hx) ((mem_ring h b0 b1).mp hy)
theorem ring_pair {g : Int} (g0 : 0 ≤ g) (g1 : g < xs.length) {p : Int × Int} (hp : p ∈ pairs (ring xs g)) : ∃ s, On xs g s ∧ p = (s, nx xs s) := by
  unfold pairs at hp
  obtain ⟨k, hk, rfl⟩ := List.mem_map.mp hp
  have hk' : k < per xs g := by have := List.mem_range.mp hk; rwa [ring_length] at this
  have pp := (per_is h g0 g1).pos
  refine ⟨orb xs g k, ⟨k, rfl⟩, ?_⟩
  have e1 : (ring xs g).getD k 0 = orb xs g k := by rw [List.getD_eq_getElem?_getD, ring_get hk']; rfl
  have e2 : (ring xs g).getD ((k + 1) % (ring xs g).length) 0 = nx xs (orb xs g k) := by
    rw [ring_length, List.getD_eq_getElem?_getD, ring_get (Nat.mod_lt _ pp), ← orb_mod h g0 g1]
    rfl
  rw [e1, e2]
theorem ring_tells {gs : List Int} (hb : ∀ g ∈ gs, 0 ≤ g ∧ g < xs.length ∧ nx xs g ≠ g) (hc : ∀ s : Int, 0 ≤ s → s < xs.length → nx xs s ≠ s → ∃ g ∈ gs, On xs g s) : PT xs.length (pairsL (gs.map (ring xs))) xs := by
  refine ⟨rfl, fun p hp => ?_, fun i hi hn => ?_⟩
  · unfold pairsL at hp
    obtain ⟨l, hl, hp⟩ := List.mem_flatMap.mp hp
    obtain ⟨g, hg, rfl⟩ := List.mem_map.mp hl
    obtain ⟨g0, g1, gn⟩ := hb g hg
    obtain ⟨s, o, rfl⟩ := ring_pair h g0 g1 hp
    have b := On.bd h g0 g1 o
    exact nx_get h b.1 b.2
  · have e : nx xs i = i := by
      apply Classical.byContradiction
      intro ne
      obtain ⟨g, hg, o⟩ := hc i (by omega) (by omega) ne
      obtain ⟨g0, g1, gn⟩ := hb g hg
      have hm : (i : Int) ∈ (pairsL (gs.map (ring xs))).map (·.1) := by
        rw [pairsL_fst]
        exact List.mem_flatten.mpr ⟨_, List.mem_map_of_mem hg, (mem_ring h g0 g1).mpr o⟩
      obtain ⟨p, hp, ep⟩ := List.mem_map.mp hm
      exact hn p hp ep
    have := nx_get h (i := i) (by omega) (by omega)
    rw [Int.toNat_natCast, e] at this
    exact this
/-- from another seat on -/
theorem ring_rot {f : Int} (f0 : 0 ≤ f) (f1 : f < xs.length) {sp : Nat} (hs : sp < per xs f) : (ring xs f).drop sp ++ (ring xs f).take sp = ring xs (orb xs f sp) := by
  have b := orb_bd h f0 f1 sp
  have ep : per xs (orb xs f sp) = per xs f := per_on h f0 f1 ⟨sp, rfl⟩
  have lr := ring_length xs f
  refine List.ext_getElem? fun i => ?_
  by_cases hi : i < per xs f
  · rw [ring_get (by rw [ep]; exact hi), ← orb_add]
    by_cases hc : i < per xs f - sp
    · rw [List.getElem?_append_left (by rw [List.length_drop, lr]; exact hc), List.getElem?_drop, ring_get (by omega)]
    · rw [List.getElem?_append_right (by rw [List.length_drop, lr]; omega), List.length_drop, lr, List.getElem?_take_of_lt (by omega), ring_get (by omega), orb_mod h f0 f1 (sp + i)]
      congr 2
      have : sp + i = per xs f + (i - (per xs f - sp)) := by omega
      rw [this, Nat.add_mod_left, Nat.mod_eq_of_lt (by omega)]
  · rw [List.getElem?_eq_none (by rw [List.length_append, List.length_drop, List.length_take, lr]; omega), List.getElem?_eq_none (by rw [ring_length, ep]; omega)]
end
theorem flat_take (ls : List (List Int)) (j : Nat) : (ls.take j).flatten.length ≤ ls.flatten.length := by
  have e : ls.flatten = (ls.take j).flatten ++ (ls.drop j).flatten := by rw [← List.flatten_append, List.take_append_drop]
  rw [e, List.length_append]
  omega
theorem flat_mem {ls : List (List Int)} {l : List Int} (h : l ∈ ls) : l.length ≤ ls.flatten.length := by
  obtain ⟨s, t, rfl⟩ := List.append_of_mem h
  rw [List.flatten_append, List.flatten_cons, List.length_append, List.length_append]
  omega
end Tm

set_option Elab.async false
set_option linter.all false
set_option maxRecDepth 100000
set_option maxHeartbeats 4000000
namespace L2
open PySem PySem.Spec PyProof.Rows
theorem atI_lastI {ns : List Int} (h : 0 < ns.length) : atI (ns.map V.int) (-1) = some (.int (ns.getD (ns.length - 1) 0)) := by
  unfold atI ixN
  rw [List.length_map, if_neg (by decide), if_pos (by omega)]
  have e : (-1 + (ns.length : Int)).toNat = ns.length - 1 := by omega
  rw [e]
  show (ns.map V.int)[ns.length - 1]? = _
  rw [List.getElem?_map, Tm.getD_of (by omega)]
  rfl
section
variable {X : Cx}
/-! ### min of a list of ints -/
theorem call_min1 (hc : X.calm = true) : CallR X (.builtin "min") (fun xs H Q => ∃ (p : Addr) (ns : List Int), xs = [.ref p] ∧ SqL X.K H p (ns.map V.int) ∧ 0 < ns.length ∧ ∀ M : Int, M ∈ ns → (∀ a ∈ ns, M ≤ a) → Q (.int M) H) := by
  intro pins s σ H xs us Q I r h
  obtain ⟨p, ns, rfl, hq, hne, q⟩ := h
  obtain ⟨u, rfl, rx⟩ := vals1 r
  cases rx
  obtain ⟨its, rv, pl, hz⟩ := I.list hq
  have hi := ints_of_vals rv
  obtain ⟨ys, e⟩ := hi.allInts.items
  have hns : ns = ys.toList.map (·.1) := by rw [← hi.numsOf, ← nums_intItems, ← e]
  have hsz : 0 < ys.size := by
    have h3 := hne; rw [hns, List.length_map, Array.length_toList] at h3; exact h3
  have hl := pl.isList
  rw [e] at hl
  refine min_intList (I.ok.hd hc) hl hsz fun v h' tk hv hk => ?_
  obtain ⟨t, rfl⟩ := intItems_at hv
  obtain ⟨h1, h2⟩ := argBest_lt (numAt ys) (ys.size - 1)
  refine ⟨.int _, H, I.kept hk, ⟨t, rfl⟩, q _ ?_ fun a ha => ?_⟩
  · rw [hns, numAt_eq]; exact getD_mem (by rw [List.length_map, Array.length_toList]; omega)
  · rw [hns] at ha
    obtain ⟨j, hj, rfl⟩ := mem_getD ha
    rw [List.length_map, Array.length_toList] at hj
    rw [← numAt_eq]; exact h2 j (by omega)
end
end L2

set_option Elab.async false
set_option linter.all false
set_option maxRecDepth 100000
set_option maxHeartbeats 4000000
namespace L2
open PySem PySem.Spec PyProof.Rows
/-! ### for x in reversed(l), l a list of n items -/
def Itrv (K : PySem.W.Frag) (a : Addr) (n : Nat) : It :=
  ⟨fun i H => ∃ xs x, SqL K H a xs ∧ xs.length = n ∧ i < n ∧ xs[n - 1 - i]? = some x, fun i H x H' => H' = H ∧ ∀ xs, SqL K H a xs → xs[n - 1 - i]? = some x, fun i H => n ≤ i⟩
theorem turn_rev {P : Program} {w : World} {K : PySem.W.Frag} {tg : Expr} (a it : Addr) (n : Nat) : Turn P w K tg (Itrv K a n) [it] it (fun i h => i ≤ n ∧ h.IsRevIter it a ((n : Int) - 1 - (i : Int))) where
  mem := by simp
  obj := fun i h st b hb => by
    have e : b = it := by simpa using hb
    subst e
    obtain ⟨_, o, e, c, d⟩ := st
    exact ⟨o, e, fun v z => by rw [d] at z; cases z⟩
  keep := fun i h h' st k => ⟨st.1, st.2.at fun o e => k it (by simp) o e⟩
  item := by
    intro X hP hw hK hc i pins s σ H E I hf st hg
    subst hP hw hK
    obtain ⟨xs, x, hq, hn, hi, hx⟩ := hg
    obtain ⟨its, rv, p, hz⟩ := I.list hq
    obtain ⟨u, hu, ru⟩ := rv.get hx
    obtain ⟨f0, f1, f2, f3, f4, f5⟩ := hf it (by simp)
    have en : (n : Int) - 1 - (i : Int) = ((n - 1 - i : Nat) : Int) := by omega
    have st1 := st.2
    rw [en] at st1
    refine wpAny_pyNext_rev_item st1 p.isList (x := u) (by simpa using hu) fun h' st' sb => ?_
    have I1 : Inv X pins σ H { s with heap := h' } := I.turned (t' := s.toks) (fun b o hb e => (sb.2 b hb).trans e) f0 f1 f3 f4 f5
    have en2 : ((n - 1 - i : Nat) : Int) - 1 = (n : Int) - 1 - ((i + 1 : Nat) : Int) := by omega
    rw [en2] at st'
    obtain ⟨o, e, c, d⟩ := id st'
    exact ⟨u, rfl, go_of (s := { s with heap := h' }) e c d (by decide) ⟨x, H, I1, ru, ⟨rfl, fun ys hy => by rw [I.list_inj hy hq]; exact hx⟩, ⟨hi, st'⟩, fun b hb => (hf b hb).1⟩⟩
  done := by
    intro X hP hw hK hc i pins s σ H E I hf st hg
    subst hP hw hK
    have hg' : n ≤ i := hg
    obtain ⟨f0, f1, f2, f3, f4, f5⟩ := hf it (by simp)
    have en : (n : Int) - 1 - (i : Int) = -1 := by have := st.1; omega
    have st1 := st.2
    rw [en] at st1
    exact wpAny_pyNext_rev_end (I.ok.hd hc) st1 fun h' eb => ⟨rfl, I.turned (t' := s.toks) (fun b o hb e => eb b o hb e) f0 f1 f3 f4 f5⟩
  self := fun _ _ _ _ _ st h => wpAny_pyIter_revIter st.2 h
theorem boot_reversed : bootBuiltins "reversed" = some (.type "reversed") := by decide +kernel
section
variable {X : Cx} {tg : Expr}
def iRev (K : PySem.W.Frag) (ta : TA) : TI := fun σ H R => ta σ H fun vs H1 => ∃ a xs, vs = [.ref a] ∧ SqL K H1 a xs ∧ R (Itrv K a xs.length) H1
theorem pi_rev {a : Expr} {ta : TA} {p pos : Pos} (hg : Gl X "reversed") (hm : X.mg "reversed" = none) (ha : PA X [a] ta) (hs : starEach [a] X.env = [(false, eval a X.env)] := by rfl) :
    PI X tg (.Call (.Name "reversed" p) [a] [] pos) (iRev X.K ta) := by
  intro pins s σ H R I h
  refine Call_ (ld_blt I hg hm boot_reversed (PyProof.Rows.callWith_type1 (thn (ha pos pins s σ H _ I h) fun us s1 ⟨vs, H1, I1, r1, q1⟩ => ?_) hs rfl))
  obtain ⟨b, xs, e, hq, q⟩ := q1
  subst e
  obtain ⟨u, rfl, rx⟩ := vals1 r1
  cases rx
  obtain ⟨its, rv, p', hz⟩ := I1.list hq
  have hl := rv.length
  refine call_reversed_list p'.isList ?_
  have hit : (s1.heap.push (revObj b ((its.toArray.size : Int) - 1))).IsRevIter s1.heap.objs.size b ((xs.length : Int) - 1 - ((0 : Nat) : Int)) := by
    refine ⟨_, Heap.get?_push_size _ rfl, rfl, ?_⟩
    have e1 : ((its.toArray.size : Nat) : Int) - 1 = (xs.length : Int) - 1 - ((0 : Nat) : Int) := by simp; omega
    rw [e1]
    rfl
  refine wpAny_pyIter_revIter hit ?_
  refine ⟨s1.heap.objs.size, [s1.heap.objs.size], _, _, H1, rfl, I1.kept (t' := s1.toks) fun b o e => Heap.get?_push_of_some _ e, turn_rev b _ xs.length, ⟨Nat.zero_le _, hit⟩, fun c hc => ?_, q⟩
  have e : c = s1.heap.objs.size := by simpa using hc
  subst e
  exact I1.fpOk (Nat.le_refl _) (I1.hok.fresh (Nat.le_refl _))
end
theorem for_rev {K : PySem.W.Frag} {a : Addr} {xs : List V} {g : TG} {tb : TS} {D : Ends} {σ : St} {H : Hp} (Pv : Nat → St → Hp → Prop) (h0 : Pv 0 σ H) (hl : ∀ i σ H, i ≤ xs.length → Pv i σ H → SqL K H a xs)
    (hs : ∀ i x σ H, xs.reverse[i]? = some x → Pv i σ H → g x σ H fun σ2 H2 => tb { D with nx := Pv (i + 1), ct := Pv (i + 1), bk := D.nx } σ2 H2) (hd : ∀ σ H, Pv xs.length σ H → D.nx σ H) :
    ∃ W : Nat → Nat → St → Hp → Prop, (∃ m, W 0 m σ H) ∧ ∀ i m σ H, W i m σ H →
      ((Itrv K a xs.length).stop i H ∧ D.nx σ H) ∨ ((Itrv K a xs.length).go i H ∧ ∃ N : St → Hp → Prop, (∀ σ' H', N σ' H' → ∃ m', m' < m ∧ W (i + 1) m' σ' H') ∧ ∀ x H', (Itrv K a xs.length).yld i H x H' → g x σ H' fun σ2 H2 => tb { D with nx := N, ct := N, bk := D.nx } σ2 H2) := by
  refine ⟨fun i m σ H => m = xs.length - i ∧ i ≤ xs.length ∧ Pv i σ H, ⟨xs.length, by simp, Nat.zero_le _, h0⟩, ?_⟩
  rintro i m σ H ⟨rfl, hi, p⟩
  have q := hl i σ H hi p
  by_cases hlt : i < xs.length
  · have hx : xs[xs.length - 1 - i]? = some (xs[xs.length - 1 - i]'(by omega)) := List.getElem?_eq_getElem (by omega)
    refine .inr ⟨⟨xs, _, q, rfl, hlt, hx⟩, Pv (i + 1), fun σ' H' p' => ⟨xs.length - (i + 1), by omega, rfl, hlt, p'⟩, fun x H' y => ?_⟩
    obtain ⟨e, y⟩ := y
    subst e
    exact hs i x σ _ (by rw [List.getElem?_reverse hlt]; exact y xs q) p
  · have e : i = xs.length := by omega
    subst e
    exact .inl ⟨Nat.le_refl _, hd σ H p⟩
section
variable {X : Cx}
/-! ### l.index(k), ints -/
def rIndex (K : PySem.W.Frag) : V → List V → Hp → VK → Prop := fun x vs H Q => ∃ (l : Addr) (ns : List Int) (k : Int), x = .ref l ∧ vs = [.int k] ∧ SqL K H l (ns.map V.int) ∧ k ∈ ns ∧ ns.length ≤ 1000 ∧ Q (.int (ns.idxOf k : Nat)) H
theorem mt_index : MtM X "list.index" (rIndex X.K) := by
  intro pins s σ H x vs v us Q I rx rv h
  obtain ⟨l, ns, k, rfl, rfl, hq, hk, hz, q⟩ := h
  cases rx
  obtain ⟨u, rfl, ru⟩ := vals1 rv
  obtain ⟨t, rfl⟩ := ru
  obtain ⟨its, r, pl, _⟩ := I.list hq
  have hi := ints_of_vals r
  obtain ⟨⟨cls, dd, data, sl⟩, ho, hc, n, hd⟩ := pl.isList
  simp only at hc hd
  subst hc hd
  have hlen := hi.length
  have hj : ns.idxOf k < ns.length := List.idxOf_lt_length_iff.mpr hk
  have fin : EP X pins σ Q (.int (ns.idxOf k : Nat) s.toks) { s with toks := s.toks + 1 } := ⟨.int _, H, I.tok _, ⟨_, rfl⟩, q⟩
  refine call_meets PySem.F.slot_list_index ⟨_, ho, rfl⟩ PySem.F.entry_list_index (PySem.F.args_list_index_2 _ _)
    (SeqAt.list_indexAt l its.toArray n dd sl (.int k t) (isInt k) (ns.idxOf k) (by simpa [hlen] using hj) (by omega) ?_ ?_) ⟨ho, fun y hy => (eq_isInt k t hi y (by simpa using hy)).at _ _, fin⟩
  · show isInt k its[ns.idxOf k] = true
    rw [isInt_at k hi _ (by omega) hj]
    simpa using List.getElem_idxOf hj
  · intro j hjs hlt
    show isInt k its[j] = false
    rw [isInt_at k hi j (by simpa using hjs) (by omega)]
    exact ne_of_lt_idxOf hlt _
/-! ### l.count(b), bools -/
theorem readsAll_bools {h : Heap} : ∀ {us : List Value} {bs : List Bool}, Vals (bs.map V.bl) us → ∃ as, ReadsAll h us (bs.map PyData.bool) as
  | _, [], .nil => ⟨_, ReadsAll.nil⟩
  | _, b :: bs, .cons r t => by
    cases (show _ = Value.bool b from r)
    obtain ⟨as, q⟩ := readsAll_bools t
    exact ⟨_, ReadsAll.cons (Reads.bool b) q⟩
def rCount (K : PySem.W.Frag) : V → List V → Hp → VK → Prop := fun x vs H Q => ∃ (l : Addr) (bs : List Bool) (k : Bool), x = .ref l ∧ vs = [.bl k] ∧ SqL K H l (bs.map V.bl) ∧ Q (.int (countIn (.bool k) (bs.map PyData.bool))) H
theorem mt_count : MtM X "list.count" (rCount X.K) := by
  intro pins s σ H x vs v us Q I rx rv h
  obtain ⟨l, bs, k, rfl, rfl, hq, q⟩ := h
  cases rx
  obtain ⟨u, rfl, ru⟩ := vals1 rv
  cases (show u = Value.bool k from ru)
  obtain ⟨its, r, pl, _⟩ := I.list hq
  obtain ⟨as, ra⟩ := readsAll_bools (h := s.heap) r
  refine count_list_bools pl.isList ra ?_ ⟨.int _, H, I.tok _, ⟨_, rfl⟩, q⟩
  rw [List.all_map, List.all_eq_true]
  intro b _
  rfl
end
end L2

set_option Elab.async false
set_option linter.all false
set_option maxRecDepth 100000
set_option maxHeartbeats 4000000
namespace L2
open PySem PySem.Spec PyProof.Rows
/-! ### an exception that has a name -/
/-- at ea lies an exception of the own class C -/
def exOf (ea C : Addr) : Heap → Prop := fun h => ∃ o, h.get? ea = some o ∧ o.cls = .ref C ∧ PySem.W.notCls o = true
theorem exOf_st (ea C : Addr) : ∀ h1 h2 : Heap, exOf ea C h1 → (∀ o, h1.get? ea = some o → h2.get? ea = some o) → exOf ea C h2 := fun h1 h2 ⟨o, e, r⟩ k => ⟨o, k o e, r⟩
section
variable {X : Cx} {pins : List (Addr × Obj)} {σ : St} {H : Hp} {s : Shared}
/-- an object that lay there is now kept in view -/
theorem Inv.track {ea : Addr} {o : HO} (I : Inv X pins σ H s) (hn : H ea = none) (h0 : X.s₀.heap.get? ea = none) (hL : ea ≠ X.env.locals) (hC : ∀ x c, X.env.cells.lookup x = some c → c ≠ ea) (hp : ∀ p ∈ X.pn ++ pins, p.1 ≠ ea)
    (new : ObjOk X.prog X.w (upd H ea o) s.heap ea o) : Inv X pins σ (upd H ea o) s := by
  have ne0 : ∀ b ob, X.s₀.heap.get? b = some ob → b ≠ ea := fun b ob e z => by rw [z, h0] at e; cases e
  refine ⟨I.ok, I.os, I.bare, ⟨I.base.keep, I.base.slot, fun b ob q n hx => by rw [upd_ne (ne0 b ob q)]; exact I.base.free b ob q n hx, I.base.there, fun b xs q => ?_, fun b ob u q => ?_, fun b ps q => ?_⟩, I.loc, I.cell, by rw [upd_ne hL.symm]; exact I.free, fun x c e => by rw [upd_ne (hC x c e)]; exact I.freeC x c e, fun p hpp => ?_, fun b u q => ?_, I.len⟩
  · have e := I.base.tups b xs q
    rw [upd_ne (ne_of_none e hn)]; exact e
  · have e := I.base.frzs b ob u q
    rw [upd_ne (ne_of_none e hn)]; exact e
  · obtain ⟨more, e⟩ := I.base.tbls b ps q
    exact ⟨more, by rw [upd_ne (ne_of_none e hn)]; exact e⟩
  · obtain ⟨a1, a2, a3, a4, a5⟩ := I.pin p hpp
    exact ⟨a1, by rw [upd_ne (hp p hpp)]; exact a2, a3, a4, a5⟩
  · by_cases hb : b = ea
    · subst hb
      rw [upd_same] at q
      cases q
      exact new
    · rw [upd_ne hb] at q
      exact (I.hok b u q).stay (fun c v hc r => r) (fun c q' => by rw [upd_ne (ne_of_none q' hn)]; exact q') fun c zs q' => by rw [upd_ne (ne_of_none q' hn)]; exact q'
/-- the frame's own table has changed: nothing is known of the names -/
theorem Inv.forget {h' : Heap} {m' : Str → Option Value} {t' : Nat} (I : Inv X pins σ H s) (hn : h'.Ns X.env.locals m') (sb : Heap.SameBut X.env.locals s.heap h') : Inv X pins (List.replicate σ.length none) H { s with heap := h', toks := t' } := by
  have neL : ∀ b o, X.s₀.heap.get? b = some o → b ≠ X.env.locals := fun b o e => Nat.ne_of_lt (Nat.lt_of_lt_of_le (Heap.lt_size e) I.ok.above)
  refine ⟨I.ok, I.os, I.bare, ⟨fun b o q n hb hx => ?_, fun b o q n hb hx => ?_, I.base.free, fun b o q hx => ?_, I.base.tups, I.base.frzs, I.base.tbls⟩, ⟨m', hn, fun i x v e1 e2 => ?_⟩, fun x c e => ?_, I.free, I.freeC, fun p hp => ?_, fun b u q => ?_, by rw [List.length_replicate]; exact I.len⟩
  · exact (sb.2 b (neL b o q)).trans (I.base.keep b o q n hb hx)
  · obtain ⟨sl, e⟩ := I.base.slot b o q n hb hx
    exact ⟨sl, (sb.2 b (neL b o q)).trans e⟩
  · obtain ⟨o', e⟩ := I.base.there b o q hx
    exact ⟨o', (sb.2 b (neL b o q)).trans e⟩
  · rw [List.getElem?_replicate] at e2
    split at e2 <;> cases e2
  · obtain ⟨v, o, ho, hd⟩ := I.cell x c e
    exact ⟨v, o, (sb.2 c (I.cne x c e)).trans ho, hd⟩
  · obtain ⟨a1, a2, a3, a4, a5⟩ := I.pin p hp
    exact ⟨(sb.2 p.1 a3).trans a1, a2, a3, a4, a5⟩
  · refine (I.hok b u q).stay (fun c v hc r => (sb.2 c ?_).trans r) (fun _ z => z) fun _ _ z => z
    intro z
    rcases hc with y | y
    · rw [y] at z; rw [z, I.free] at q; cases q
    · rw [z, I.free] at y; cases y
end
/-- except x as n: suite, all of whose ways out are returns -/
def thAs (K : PySem.W.Frag) (C' : Addr) (i : Nat) (ts : TS) (tr : TH) : TH := fun C ea D σ H => Xe K C ∧ ∃ b, PySem.W.mroIn K C (.ref C') = some b ∧
  if b = true then ts { D with nx := fun _ _ => False, bk := fun _ _ => False, ct := fun _ _ => False } (σ.set i (some (.ref ea))) (upd H ea (.ext (exOf ea C))) else tr C ea D σ H
theorem ph_as {X : Cx} {i : Nat} {x n : Str} {C' : Addr} {np hpos : Pos} {b₀ : Stmt} {suite : List Stmt} {rest : List ExceptHandler} {ts : TS} {tr : TH} (hN : X.N.Nodup) (hi : X.N[i]? = some n) (hy : Loc X.env.scope n) (c : Xc X.K x C') (hg : Gl X x) (hs : ∀ ea, PSs (X.marked ea) (b₀ :: suite) ts) (hr : PH X rest tr)
    (hk : X.env.kindOf n = some .local := by rfl) (hex : X.ex = [] := by rfl) (hdb : (x == ("__debug__" : Str)) = false := by decide) (hf : X.fn n = true ∨ X.env.scope.names.lookup n = some .local := by first | exact .inl rfl | exact .inr rfl | assumption) :
    PH X (.ExceptHandler (some (.Name x np)) (some n) (b₀ :: suite) hpos :: rest) (thAs X.K C' i ts tr) := by
  intro pins s σ H D C ea B a0 I fl hB h
  obtain ⟨xe, b, mb, h⟩ := h
  have Im := I.marked ea
  have hm : X.mg x = some (.ref C') := c.mg I.ok.mod.kin I.ok.mod.glob
  refine wpAny_handleBy_cons (codeAny_handlers_test (ld_glob (X := X.marked ea) Im hg hm ?_ hdb)) (by intro q; cases q)
  obtain ⟨nm, q, N, bs, bm, hdct, sn, sub, ab, col, dd, k0, k1, k2, k3, k5, hC, _, hmro⟩ := xe.obj I.kIn
  obtain ⟨nm', q', N', bs', bm', hdct', sn', sub', ab', col', dd', k0', k1', k2', k3', k5', hC', hbase', _⟩ := c.toXe.obj I.kIn
  obtain ⟨oe, hoe, hoc⟩ := fl.there
  have hcls : (X.env.scope.kind == .class || (X.env.scope.kind == .module && X.env.locals != X.env.globals)) = false := by rw [I.ok.kind]; rfl
  obtain ⟨hh, g, d, tk, os⟩ := s
  refine em_own hC hoe hoc hC' hbase' ?_
  rw [hmro _ _ mb]
  cases b with
  | true =>
    rw [if_pos rfl] at h
    refine codeAny_handlers_suite_as ?_
    refine lands_againW fl fun h₆ fl₆ up₆ => ?_
    have I6 := I.fly hB fl₆.1 up₆
    have hB6 := hB.fly I fl₆.1
    obtain ⟨o6, vs6, e6, c6, d6, _⟩ := fl₆.first
    have eB : B.get? ea = none := fl₆.2.1
    have nstk : ea ∉ frs X.stack := fun z => by
      obtain ⟨_, o2, e2, nf⟩ := I6.stack.mem z
      have e2' : h₆.get? ea = some o2 := e2
      rw [e6] at e2'; cases e2'
      exact nf _ d6
    have notB : ∀ w : Prop, (w → (((∃ o', X.s₀.heap.get? ea = some o') ∧ ea ∉ X.ex) ∨ H ea ≠ none ∨ (∃ x, X.env.cells.lookup x = some ea) ∨ ∃ p ∈ X.pn ++ pins, p.1 = ea)) → ¬ w := fun w k z => by
      have := hB6 ea o6 e6 nstk (k z)
      rw [eB] at this; cases this
    have hH : H ea = none := by
      cases r : H ea with
      | none => rfl
      | some u => exact absurd (by rw [r]; simp : H ea ≠ none) (notB _ fun z => .inr (.inl z))
    have h0 : X.s₀.heap.get? ea = none := by
      cases r : X.s₀.heap.get? ea with
      | none => rfl
      | some o' =>
        have hx : ea ∉ X.ex := by rw [hex]; exact List.not_mem_nil
        exact absurd (⟨o', r⟩ : ∃ o', X.s₀.heap.get? ea = some o') (notB _ fun z => .inl ⟨z, hx⟩)
    have hL : ea ≠ X.env.locals := fun z => by
      obtain ⟨m, ⟨oL, es, ep, hoL, hdL, _⟩, _⟩ := I6.loc
      have hoL' : h₆.get? X.env.locals = some oL := hoL
      rw [← z, e6] at hoL'
      cases hoL'
      rw [d6] at hdL
      cases hdL
    have J : Inv (X.marked ea) pins σ (upd H ea (.ext (exOf ea C))) _ := Inv.track (X := X.marked ea) (I6.marked ea) hH h0 hL (fun y cc ec z => notB _ (fun (w : ∃ x, X.env.cells.lookup x = some ea) => .inr (.inr (.inl w))) ⟨y, by rw [← z]; exact ec⟩) (fun p hp z => notB _ (fun (w : ∃ p ∈ X.pn ++ pins, p.1 = ea) => .inr (.inr (.inr w))) ⟨p, hp, z⟩)
      (show exOf ea C h₆ ∧ _ ∧ _ from ⟨⟨o6, e6, c6, by unfold PySem.W.notCls; rw [d6]⟩, ⟨o6, e6⟩, exOf_st ea C⟩)
    refine store_ok (X := X.marked ea) (v := .ref ea) J hN hi hy rfl (fun s2 I2 => ?_) hf
    refine wpAny_mono (hs ea pins s2 _ _ _ I2 h) (fun f s3 q3 => ?_) fun _ _ z => False.elim z
    cases f with
    | next => obtain ⟨_, _, _, z⟩ := q3; exact z.elim
    | brk => obtain ⟨_, _, _, z⟩ := q3; exact z.elim
    | cont => obtain ⟨_, _, _, z⟩ := q3; exact z.elim
    | ret u =>
      obtain ⟨v, σ', H', I', rv, qv⟩ := q3
      have I'' := I'.unmark I.ok.hd
      obtain ⟨m, hn, _⟩ := id I''.loc
      refine wpAny_nameGoes hk hn hcls fun h' m' hn' sb => ?_
      exact ⟨v, _, H', I''.forget hn' sb, rv, qv⟩
  | false =>
    rw [if_neg Bool.false_ne_true] at h
    exact hr pins _ σ H D C ea B a0 I fl hB h
end L2

set_option Elab.async false
set_option linter.all false
set_option maxRecDepth 100000
set_option maxHeartbeats 4000000
namespace L2
open PySem PySem.Spec PySem.Calls PyProof.Rows
/-- what is read of an exception's class by isinstance -/
structure Ka7 (K : PySem.W.Frag) (C : Addr) : Prop where
  ga : PySem.W.findIn K (.ref C) "__getattribute__" = some (some (.builtin "BaseException.__getattribute__"))
  gr : PySem.W.findIn K (.ref C) "__getattr__" = some none
  cl : PySem.W.findIn K (.ref C) "__class__" = some (some (.builtin "object.__class__"))
  ge : PySem.W.specialIn K (.builtin "object.__class__") "__get__" = some (some (.builtin "getset_descriptor.__get__"))
  tk : PySem.W.takesIn K (.builtin "object.__class__") = some true
  ob : PySem.W.mroIn K C (.type "object") = some true
  be : PySem.W.mroIn K C (.type "BaseException") = some true
structure Ka (K : PySem.W.Frag) (C : Addr) : Prop extends Ka7 K C where
  ci : (PySem.W.clsIn K C).isSome = true
section
variable {prog : Program} {w : World} {A : Around} {E : Value → Shared → Prop} {s : Shared} {K : PySem.W.Frag} {x C : Addr}
open PySem.W Builtin Builtin.ObjectAttr Builtin.Getset_descriptor
theorem ex_type {M : Model} {h : Heap} (p : exOf x C h) : Looks M h (typeOf (.ref x)) (.ref C) := by
  obtain ⟨o, h1, h2, _⟩ := p
  rw [← h2]
  exact (Looks.ld h1).andThen .now
theorem ex_find {M : Model} {h : Heap} (X : K.In h) (Z : Ka K C) : Looks M h (find (.ref x) (.ref C) "__class__") (.bind (.builtin "getset_descriptor.__get__") (.builtin "object.__class__")) := by
  have a1 := looks_findIn (M := M) X Z.cl
  have a2 : Looks M h (getOf (some (.builtin "object.__class__"))) (some (.builtin "getset_descriptor.__get__")) := looks_specialIn X Z.ge
  have a3 := looks_takesIn (M := M) X Z.tk
  have a4 : Looks M h (dataDescriptor? (some (.builtin "object.__class__")) (some (.builtin "getset_descriptor.__get__"))) (some (.builtin "getset_descriptor.__get__", .builtin "object.__class__")) := a3.andThen .now
  exact a1.andThen (a2.andThen (a4.andThen (Looks.tag .now)))
theorem ex_get {tp : Value} {R : Result → Shared → Prop} (X : K.In s.heap) (p : exOf x C s.heap) (Z : Ka K C) (h : R (.ok (.ret (.ref C))) s) :
    codeAny (model prog w) A (.call (.builtin "getset_descriptor.__get__") ⟨[.builtin "object.__class__", .ref x, tp], []⟩) R s := by
  obtain ⟨hh, g, dr, t, os⟩ := s
  have l0 := ex_type (M := model prog w) p
  have l1 := looks_mroIn (M := model prog w) X Z.ob
  refine codeAny_call_builtin KF.slot_gs.plain
    KF.entry_gs (KF.slot_gs.check _ _ _ _ _ _ _ _ KF.type_class
      (KF.args_gs _ _ _) ?_)
  unfold Builtin.«getset_descriptor.__get__»
    descrGet
  rw [dga_obj]
  refine wpAny_bind (wpAny_pure ?_)
  unfold descrGetter
    descrCheckInstance descrNameAndClass
    isInstance
  simp only [KF.owner_class]
  repeat lk
  refine ⟨Code.quiet_builtin _ (by decide +kernel),
    codeAny_builtin KF.entry_class ?_⟩
  unfold Builtin.«object.__class__»
    shownTypeOf
  repeat lk
  exact h
theorem ex_entry {tk : Tok} {Q : Fin → Shared → Prop} (X : K.In s.heap) (p : exOf x C s.heap) (Z : Ka K C) (h : Q (.done (.ret (.ref C))) s) :
    wpAny (model prog w) A (Builtin.«object.__getattribute__» ⟨[.ref x, .str "__class__" tk], []⟩) Q E s := by
  obtain ⟨hh, g, dr, t, os⟩ := s
  have l0 := ex_type (M := model prog w) p
  have l1 := ex_find (M := model prog w) (x := x) X Z
  unfold Builtin.«object.__getattribute__»
  refine wpAny_bind (wpAny_pure ?_)
  refine wpAny_bind (wpAny_pure ?_)
  refine wpAny_bind (l0.at ?_)
  refine wpAny_bind (l1.at ?_)
  show wpAny _ _ (bindTo _ _ _ _) _ _ _
  unfold bindTo
  refine wpAny_bind (wpAny_holding (wpAny_call (ex_get X p Z ?_)))
  exact wpAny_pure h
theorem ex_check {nameV : Value} {Q : Unit → Shared → Prop} {M : Model} (X : K.In s.heap) (p : exOf x C s.heap) (Z : Ka K C) (h : Q () s) : wpAny M A (checkBuiltinCall "BaseException.__getattribute__" ⟨[.ref x, nameV], []⟩) Q E s := by
  have hk : builtinKind "BaseException.__getattribute__" = some .slot := by decide +kernel
  have hsp : splitId "BaseException.__getattribute__" = some ("BaseException", "__getattribute__") := by decide +kernel
  have ha := F.args_bexc_ga (.ref x) nameV
  obtain ⟨hh, g, dr, t, os⟩ := s
  have l0 := ex_type (M := M) p
  have l1 := looks_mroIn (M := M) X Z.be
  have l2 : Looks M hh (isInstance (.ref x) (.type "BaseException")) true := l0.andThen l1
  simp only [checkBuiltinCall, hk, hsp]
  refine wpAny_bind (l2.at ?_)
  repeat (first | exact h | wp_step)
theorem ex_class {Q : Option Value → Shared → Prop} (X : K.In s.heap) (p : exOf x C s.heap) (Z : Ka K C) (h : Q (some (.ref C)) { s with toks := s.toks + 1 }) : wpAny (model prog w) A (getAttr? (.ref x) "__class__") Q E s := by
  obtain ⟨hh, g, dr, t, os⟩ := s
  have l0 := ex_type (M := model prog w) p
  have l1 := looks_findIn (M := model prog w) X Z.ga
  have l2 := looks_findIn (M := model prog w) X Z.gr
  have sl := F.excAttr_ValueError.ga
  have f3 := sl.bind (.ref x)
  unfold getAttr? getAttrBy? getAttrBy
  refine wpAny_bind (wpAny_mkText ?_)
  refine wpAny_bind (wpAny_attempt ?_)
  refine wpAny_holding (wpAny_bind (l0.at (wpAny_bind (l1.at ?_))))
  have hne : (onTheHeap (Value.ref C) && (Value.builtin "BaseException.__getattribute__" == Value.builtin "object.__getattribute__")) = false := by
    have : (Value.builtin "BaseException.__getattribute__" == Value.builtin "object.__getattribute__") = false := by decide +kernel
    rw [this]; rfl
  show wpAny _ _ (if (onTheHeap (Value.ref C) && (Value.builtin "BaseException.__getattribute__" == Value.builtin "object.__getattribute__")) = true then _ else _) _ _ _
  rw [hne, if_neg Bool.false_ne_true]
  unfold getAttrByItsOwn hookBefore
  refine wpAny_bind (show wpAny _ _ (typeLookup (.ref C) "__getattr__") _ _ _ from l2.at ?_)
  refine wpAny_bind (wpAny_attempt (wpAny_holding ?_))
  show wpAny _ _ (boundAndCalled _ _ _) _ _ _
  unfold boundAndCalled
  refine wpAny_bind (wpAny_of_eq f3 ?_)
  refine wpAny_call (codeAny_call_builtin sl.plain F.entry_bexc_ga (ex_check (s := ⟨hh, g, dr, t + 1, os⟩) X p Z (ex_entry (s := ⟨hh, g, dr, t + 1, os⟩) X p Z ?_)))
  exact wpAny_pure (wpAny_pure h)
theorem kitx_exc (Z : Ka K C) : KitX K (.ref x) (.ref C) (exOf x C) where
  ty := fun _ _ _ p => ex_type p
  it := fun _ _ X _ => by
    have hc := Z.ci
    unfold clsIn at hc
    split at hc
    · rename_i ho
      intro A' Q' E' s' k q
      unfold isType loadHead
      exact wpAny_bind (wpAny_loadPart (k _ _ (X _ _ ho))
        (wpAny_pure q))
    · cases hc
  ne := fun h tp dd its n sl X htp => by
    have hc := Z.ci
    refine Bool.eq_false_iff.mpr fun q => ?_
    have e : C = tp := Value.ref.inj (beq_iff_eq.mp q)
    subst e
    unfold clsIn at hc
    split at hc
    · rename_i ho
      have z := (X _ _ ho).symm.trans htp
      cases z
    · cases hc
  ca := fun X p k => ex_class X p Z k
end
section
variable {X : Cx}
/-- isinstance(e, c), e an exception of the own class C -/
theorem call_isinstX : CallR X (.builtin "isinstance") (fun xs H Q => ∃ (ea C : Addr) (y : V) (c : Value) (b : Bool), xs = [.ref ea, y] ∧ RelV y c ∧ (∀ u, RelV y u → u = c) ∧ H ea = some (.ext (exOf ea C)) ∧ Ka X.K C ∧ PySem.W.kitOne X.K (.ref C) c = some b ∧ Q (.bl b) H) := by
  intro pins s σ H xs us Q I r h
  obtain ⟨ea, C, y, c, b, rfl, ry, uy, he, Z, e, q⟩ := h
  obtain ⟨u, v, rfl, r1, r2⟩ := r.two
  cases r1
  obtain rfl := uy _ r2
  have p := (show ObjOk X.prog X.w H s.heap ea (.ext (exOf ea C)) from I.hok ea _ he).1
  exact PySem.W.kia_one (kitx_exc Z) I.kIn p e (fun z => nomatch z) fun tk => ⟨.bl b, H, I.tok tk, rfl, q⟩
end
end L2
namespace L2
open PySem PySem.Spec PyProof.Rows
theorem Xe.look {K : PySem.W.Frag} {C : Addr} (c : Xe K C) : ∃ d cd sl bm, K.lookup C = some ⟨.type "type", d, .cls cd, sl⟩ ∧ cd.mro = .ref C :: bm := by
  have q := c.ex
  unfold PySem.W.excIn at q
  split at q
  · rename_i dd cd sl ho
    split at q
    · rename_i C' bm k0 k1 k2 k3 n k5 hm hs
      simp only [Bool.and_eq_true, beq_iff_eq, Bool.not_eq_true'] at q
      obtain ⟨⟨⟨⟨⟨hc, _⟩, _⟩, _⟩, _⟩, _⟩ := q
      subst hc
      exact ⟨dd, cd, sl, bm, ho, hm⟩
    · cases q
  · cases q
theorem Xe.ci {K : PySem.W.Frag} {C : Addr} (c : Xe K C) : (PySem.W.clsIn K C).isSome = true := by
  obtain ⟨d, cd, sl, bm, ho, _⟩ := c.look
  unfold PySem.W.clsIn
  rw [ho]
  rfl
theorem kit_ref {K : PySem.W.Frag} {C D : Addr} {b : Bool} (c : Xe K D) (m : PySem.W.mroIn K C (.ref D) = some b) : PySem.W.kitOne K (.ref C) (.ref D) = some b := by
  obtain ⟨d, cd, sl, bm, ho, hm⟩ := c.look
  have ty : PySem.W.typeIn K (.ref D) = some (.type "type") := by
    show (K.lookup D).map (·.cls) = _
    rw [ho]
    rfl
  unfold PySem.W.kitOne
  by_cases e : C = D
  · subst e
    rw [if_pos (by simp)]
    unfold PySem.W.mroIn PySem.W.clsIn at m
    rw [ho] at m
    have m' : some (cd.mro.contains (.ref C)) = some b := by
      have m2 : ¬ cd.mro = [] ∧ decide (Value.ref C ∈ cd.mro) = b := by simpa using m
      simpa using m2.2
    rw [hm] at m'
    rw [← m']
    simp
  · rw [if_neg (by simp [e])]
    unfold PySem.W.kitCls
    dsimp only
    rw [c.ci, ty]
    exact m
theorem kit_VE {K : PySem.W.Frag} {C : Addr} (m : PySem.W.mroIn K C (.type "ValueError") = some true) : PySem.W.kitOne K (.ref C) (.type "ValueError") = some true := by
  unfold PySem.W.kitOne
  rw [if_neg (by simp)]
  unfold PySem.W.kitCls
  dsimp only
  rw [if_pos (by decide +kernel)]
  exact m
theorem boot_VE : bootBuiltins "ValueError" = some (.type "ValueError") := by decide +kernel
/-! ### the same, the written part named (within an except suite) -/
section
variable {X : Cx}
def rIsX (K : PySem.W.Frag) : List V → Hp → VK → Prop := fun xs H Q => ∃ (ea C : Addr) (y : V) (c : Value) (b : Bool), xs = [.ref ea, y] ∧ RelV y c ∧ (∀ u, RelV y u → u = c) ∧ H ea = some (.ext (exOf ea C)) ∧ Ka K C ∧ PySem.W.kitOne K (.ref C) c = some b ∧ Q (.bl b) H
theorem call_isinstXK (K : PySem.W.Frag) (h : X.K = K := by rfl) : CallR X (.builtin "isinstance") (rIsX K) := h ▸ call_isinstX
theorem mt_countK (K : PySem.W.Frag) (h : X.K = K := by rfl) : MtR X "list.count" (rCount K) := h ▸ mt_count
variable {o e : Expr} {es : List Expr} {to : TE} {t : TA} {name : Str} {apos cpos : Pos} {T id : String} {r : V → List V → Hp → VK → Prop}
theorem pe_bmK (K : PySem.W.Frag) (pa : PlainAttrs T) (slot : Slot T name id) (hty : typeOf (.builtin id) = pure (.type "method_descriptor")) (hm : MtR X id r) (ho : PE X o to) (ha : PA X (e :: es) t) (hK : X.K = K := by rfl)
    (hbase : attributeBase o name X.env (eval o X.env) = eval o X.env := by rfl)
    (hfew : ((backTo cpos (starEach (e :: es) X.env)).all (fun x => !x.1) && (backToKw cpos (keywordEach [] X.env)).all (fun x => x.1.isSome)
      && decide ((e :: es).length + ([] : List Keyword).length + (if ([] : List Keyword).isEmpty then 0 else 1) < 30)) = true := by rfl)
    (hline : (apos.endLine == cpos.line) = true := by rfl) (hs : starEach (e :: es) X.env = (false, eval e X.env) :: starEach es X.env := by rfl) (hplain : (backTo cpos (starEach es X.env)).any (·.1) = false := by rfl) :
    PE X (.Call (.Attribute o name apos) (e :: es) [] cpos) (tBM K T r to t) := hK ▸ pe_bm pa slot hty hm ho ha hbase hfew hline hs hplain
end
end L2

set_option Elab.async false
set_option linter.all false
set_option maxRecDepth 100000
set_option maxHeartbeats 4000000
namespace L2
open PySem PySem.Spec PyProof.Rows
/-! ### reversed(t), t a tuple -/
namespace RT
theorem s_next : Slot "reversed" "__next__" "reversed.__next__" := .of (owner := "reversed") (n := "__next__") (by rw [typeLookup_type, builtinLookup_eq_fast]; kernel_rfl) (by decide +kernel) (by decide +kernel) (by decide +kernel) (by first | exact .inl (by decide +kernel) | exact .inr (by decide +kernel)) (by rw [isSubtype_type]; kernel_rfl)
theorem e_next : entryFor table "reversed.__next__" = some Builtin.«reversed.__next__» := entryFor_of_tree (by kernel_rfl)
theorem a_next (a : Value) : argsOk "reversed.__next__" ⟨[a], []⟩ := by unfold argsOk; kernel_rfl
theorem s_iter : Slot "reversed" "__iter__" "reversed.__iter__" := .of (owner := "reversed") (n := "__iter__") (by rw [typeLookup_type, builtinLookup_eq_fast]; kernel_rfl) (by decide +kernel) (by decide +kernel) (by decide +kernel) (by first | exact .inl (by decide +kernel) | exact .inr (by decide +kernel)) (by rw [isSubtype_type]; kernel_rfl)
theorem a_iter (a : Value) : argsOk "reversed.__iter__" ⟨[a], []⟩ := by unfold argsOk; kernel_rfl
theorem e_iter : entryFor table "reversed.__iter__" = some Builtin.«dict_keyiterator.__iter__» := entryFor_alias (id' := "dict_keyiterator.__iter__") (by kernel_rfl) (by first | rfl | decide +kernel | (unfold String.splitOn; simp +decide [String.splitOnAux])) (by decide +kernel) (by kernel_rfl)
theorem l_len : typeLookup (.type "reversed") "__len__" = pure none := by rw [typeLookup_type, builtinLookup_eq_fast]; kernel_rfl
theorem s_hint : Slot "reversed" "__length_hint__" "reversed.__length_hint__" := .of (owner := "reversed") (n := "__length_hint__") (by rw [typeLookup_type, builtinLookup_eq_fast]; kernel_rfl) (by decide +kernel) (by decide +kernel) (by decide +kernel) (by first | exact .inl (by decide +kernel) | exact .inr (by decide +kernel)) (by rw [isSubtype_type]; kernel_rfl)
theorem e_hint : entryFor table "reversed.__length_hint__" = some Builtin.«reversed.__length_hint__» := entryFor_of_tree (by kernel_rfl)
theorem a_hint (a : Value) : argsOk "reversed.__length_hint__" ⟨[a], []⟩ := by unfold argsOk; kernel_rfl
theorem l_trev : typeLookup (.type "tuple") "__reversed__" = pure none := by rw [typeLookup_type, builtinLookup_eq_fast]; kernel_rfl
theorem l_init : typeLookup (.type "reversed") "__init__" = pure (some (.builtin "object.__init__")) := by rw [typeLookup_type, builtinLookup_eq_fast]; kernel_rfl
theorem t_dict : isSubtype (.type "tuple") (.type "dict") = pure false := by rw [isSubtype_type]; kernel_rfl
end RT
/-- a reversed over the tuple t, i the next place -/
def IsRT (h : Heap) (r t : Addr) (i : Int) : Prop := ∃ o, h.get? r = some o ∧ o.cls = .type "reversed" ∧ o.data = .fields #[.ref t, rawInt i]
section
variable {prog : Program} {w : World} {A : Around} {E : Value → Shared → Prop} {s : Shared}
theorem rt_type {r t : Addr} {i : Int} (h : IsRT s.heap r t i) : s.TypeIs (.ref r) "reversed" := let ⟨o, ho, hc, _⟩ := h; ⟨o, ho, hc⟩
theorem rt_next {r t : Addr} {i : Nat} {items : Array Value} {x : Value} {Q : Option Value → Shared → Prop} (hi : IsRT s.heap r t (i : Int)) (ht : IsTup s.heap t items) (hz : (i : Int) < 2 ^ 62) (hx : items[i]? = some x)
    (hQ : ∀ g, IsRT g r t ((i : Int) - 1) → Heap.SameBut r s.heap g → Q (some x) { s with heap := g, toks := s.toks + 1 }) : wpAny (model prog w) A (pyNext (.ref r)) Q E s := by
  obtain ⟨o, ho, hc, hd⟩ := id hi
  unfold pyNext
  refine wpAny_bind (wpAny_attempt (wpAny_callSpecial?_slot (name := Str.ofString "__next__") (rt_type hi) RT.s_next (wpAny_call_entry RT.s_next (rt_type hi) RT.e_next ?_ (RT.a_next _))))
  unfold Builtin.«reversed.__next__»
  refine wpAny_bind (wpAny_of_eq (a := (Value.ref r, [])) rfl ?_)
  try dsimp only
  refine wpAny_bind (wpAny_field ho hd (x := .ref t) rfl ?_)
  refine wpAny_bind (wpAny_field ho hd (x := rawInt (i : Int)) rfl ?_)
  show wpAny _ _ (if (i : Int) < 0 then _ else _) _ _ s
  rw [if_neg (by omega)]
  refine wpAny_bind (wpAny_specialOf ht.typeIs slot_tuple_getitem.lookup ?_)
  show wpAny _ _ (if false = true then _ else _) _ _ s
  rw [if_neg Bool.false_ne_true]
  refine wpAny_bind (wpAny_mkInt ?_)
  have hlt : i < items.size := (Array.getElem?_eq_some_iff.mp hx).1
  refine wpAny_bind (wpAny_attempt (PyProof.Rows.getItem_tuple (j := i) (x := x) (s := { s with toks := s.toks + 1 }) ht (by omega) (by omega) ((ixN_seq (ixN_at (by omega) (by omega))).1.trans (by rw [Int.toNat_natCast])) hx ?_))
  refine wpAny_bind (wpAny_field (s := { s with toks := s.toks + 1 }) ho hd (x := rawInt (i : Int)) rfl ?_)
  refine wpAny_bind (wpAny_setField (s := { s with toks := s.toks + 1 }) ho hd (by simp) ?_)
  refine wpAny_pure ⟨x, rfl, wpAny_pure (hQ _ ?_ (Heap.SameBut.update ..))⟩
  exact ⟨_, Heap.get?_update_self _ ho (Obj.isFreed_of_fields (Obj.data_mapFields hd _)), (Obj.cls_mapFields ..).trans hc, by rw [Obj.data_mapFields hd]; simp⟩
theorem rt_end {r t : Addr} {Q : Option Value → Shared → Prop} (hh : A.handled = none) (hi : IsRT s.heap r t (-1)) (hQ : ∀ g, Heap.ExtBut r s.heap g → Q none { s with heap := g }) : wpAny (model prog w) A (pyNext (.ref r)) Q E s := by
  obtain ⟨o, ho, hc, hd⟩ := id hi
  unfold pyNext
  refine wpAny_bind (wpAny_attempt (wpAny_callSpecial?_slot (name := Str.ofString "__next__") (rt_type hi) RT.s_next (wpAny_call_entry RT.s_next (rt_type hi) RT.e_next ?_ (RT.a_next _))))
  unfold Builtin.«reversed.__next__»
  refine wpAny_bind (wpAny_of_eq (a := (Value.ref r, [])) rfl ?_)
  try dsimp only
  refine wpAny_bind (wpAny_field ho hd (x := .ref t) rfl ?_)
  refine wpAny_bind (wpAny_field ho hd (x := rawInt (-1)) rfl ?_)
  show wpAny _ _ (if (-1 : Int) < 0 then _ else _) _ _ s
  rw [if_pos (by decide)]
  refine wpAny_bind (wpAny_rule ?_)
  have d1 := Obj.data_mapFields hd (f := (·.setIfInBounds 1 (rawInt (-1))))
  have h1 := Heap.get?_update_self (Obj.mapFields (·.setIfInBounds 1 (rawInt (-1)))) ho (Obj.isFreed_of_fields d1)
  refine wpAny_bind (show wpAny _ _ (setField (Value.ref r) 1 (rawInt (-1)) >>= fun _ => setField (Value.ref r) 0 Value.none) _ _ _ from wpAny_bind (wpAny_setField ho hd (by simp) (wpAny_setField h1 d1 (by simp) ?_)))
  have x2 : Heap.ExtBut r s.heap ((s.heap.update r (Obj.mapFields (·.setIfInBounds 1 (rawInt (-1))))).update r (Obj.mapFields (·.setIfInBounds 0 Value.none))) := ((Heap.SameBut.update ..).trans (Heap.SameBut.update ..)).extBut
  generalize (s.heap.update r (Obj.mapFields (·.setIfInBounds 1 (rawInt (-1))))).update r (Obj.mapFields (·.setIfInBounds 0 Value.none)) = g2 at x2 ⊢
  refine wpAny_bind (show wpAny _ _ (newExc (.type "StopIteration") [] >>= fun e => raiseNew e) _ _ _ from ?_)
  refine wpAny_bind ?_
  simp only [newExc, newTuple]
  refine wpAny_bind (wpAny_newObj_type ?_ (by size_fits))
  refine wpAny_bind (m := firstArgMember _ _) (wpAny_of_eq (a := Value.none)
    (by first | rfl | (simp only [firstArgMember]; rfl)) ?_)
  refine wpAny_newObj_type ?_ (by size_fits)
  simp only [raiseNew]
  refine wpAny_bind (wpAny_handled ?_)
  first | rw [show A.in1.handled = none from hh]
        | rw [hh]
  refine wpAny_bind (wpAny_pure (wpAny_throw ?_))
  refine wpAny_bind (wpAny_isInstance (T := "StopIteration") (b := true)
    ⟨_, Heap.get?_push_size _ rfl, rfl⟩ isSubtype_stop ?_)
  exact wpAny_pure (hQ _ ((x2.push _).push _))
theorem rt_iter {r t : Addr} {i : Int} {Q : Value → Shared → Prop} (hi : IsRT s.heap r t i) (h : Q (.ref r) s) : wpAny (model prog w) A (pyIter (.ref r)) Q E s := by
  refine wpAny_pyIter_slot (rt_type hi) RT.s_iter (wpAny_call_entry RT.s_iter (rt_type hi) RT.e_iter ?_ (RT.a_iter _))
  show wpAny _ _ (ret (.ref r)) _ _ s
  exact wpAny_pure ⟨_, rfl, "reversed", _, rt_type hi, RT.s_next.lookup, h⟩
theorem rt_walks (hh : A.handled = none) (r t : Addr) (hne : t ≠ r) (items : Array Value) (hz : (items.size : Int) < 2 ^ 62) :
    Walks prog w A r [r, t] [r] items.size (fun i v => items[items.size - 1 - i]? = some v) (fun i h => i ≤ items.size ∧ IsRT h r t ((items.size : Int) - 1 - (i : Int)) ∧ IsTup h t items) where
  sub := fun b hb => by simp at hb; simp [hb]
  frame := fun _ _ _ x hk => ⟨x.1, let ⟨o, ho, q⟩ := x.2.1; ⟨o, hk r (by simp) o ho, q⟩, let ⟨o, ho, q⟩ := x.2.2; ⟨o, hk t (by simp) o ho, q⟩⟩
  item := fun i s Q E hi x hQ => by
    have e : (items.size : Int) - 1 - (i : Int) = ((items.size - 1 - i : Nat) : Int) := by omega
    have hit := x.2.1
    rw [e] at hit
    have hx : items[items.size - 1 - i]? = some (items[items.size - 1 - i]'(by omega)) := Array.getElem?_eq_getElem (by omega)
    refine rt_next hit x.2.2 (by omega) hx fun g hg sb => ?_
    have e2 : ((items.size - 1 - i : Nat) : Int) - 1 = (items.size : Int) - 1 - ((i + 1 : Nat) : Int) := by omega
    rw [e2] at hg
    exact hQ _ g (s.toks + 1) hx ⟨hi, hg, let ⟨o, ho, q⟩ := x.2.2; ⟨o, (sb.2 t hne).trans ho, q⟩⟩ fun b o hb eo => sb.extBut b o (fun z => hb (by simp [z])) eo
  done := fun s Q E x hQ => by
    have e : (items.size : Int) - 1 - (items.size : Int) = -1 := by omega
    have hit := x.2.1
    rw [e] at hit
    exact rt_end hh hit fun g hg => hQ g s.toks fun b o hb eo => hg b o (fun z => hb (by simp [z])) eo
  self := fun _ _ _ _ x hQ => rt_iter x.2.1 hQ
/-- what it tells of its length -/
theorem rt_hint {r t : Addr} {items : Array Value} {Q : Value → Shared → Prop} (hi : IsRT s.heap r t ((items.size : Int) - 1)) (ht : IsTup s.heap t items) (hz : items.size ≤ sizeLine) (h : ∀ k tk, Q (.int (items.size : Int) k) { s with toks := tk }) :
    wpAny (model prog w) A (call (.builtin "reversed.__length_hint__") [.ref r]) Q E s := by
  obtain ⟨o, ho, hc, hd⟩ := id hi
  refine wpAny_call_entry RT.s_hint (rt_type hi) RT.e_hint ?_ (RT.a_hint _)
  unfold Builtin.«reversed.__length_hint__»
  refine wpAny_bind (wpAny_of_eq (a := Value.ref r) rfl ?_)
  refine wpAny_bind (wpAny_field ho hd (x := .ref t) rfl ?_)
  show wpAny _ _ (if (Value.ref t == Value.none) = true then _ else _) _ _ s
  rw [if_neg (by intro z; cases z)]
  have hn := line63
  refine wpAny_bind (len_tuple ht (by omega) ?_)
  refine wpAny_bind (wpAny_pure ?_)
  show wpAny _ _ (field (Value.ref r) 1 >>= _) _ _ _
  refine wpAny_bind (wpAny_field ho hd (x := rawInt ((items.size : Int) - 1)) rfl ?_)
  show wpAny _ _ (if (items.size : Int) < (items.size : Int) - 1 + 1 then _ else _) _ _ _
  rw [if_neg (by omega)]
  have e : (items.size : Int) - 1 + 1 = items.size := by omega
  rw [e]
  exact wpAny_bind (wpAny_mkInt (wpAny_pure ⟨_, rfl, h _ _⟩))
theorem rt_collect {r t : Addr} {items : Array Value} {Q : List Value → Shared → Prop} (hh : A.handled = none) (hi : IsRT s.heap r t ((items.size : Int) - 1)) (ht : IsTup s.heap t items) (hne : t ≠ r) (hz : items.size ≤ 1000)
    (hQ : ∀ (g : Heap) (tk : Nat) (acc : Array Value), (∀ b o, b ≠ r → s.heap.get? b = some o → g.get? b = some o) → ItemsOf (fun i v => items[items.size - 1 - i]? = some v) acc items.size → Q acc.toList { s with heap := g, toks := tk }) :
    wpAny (model prog w) A (collect (.ref r)) Q E s := by
  have hr : r < s.heap.objs.size := let ⟨o, ho, _⟩ := hi; Heap.lt_size ho
  have htl : t < s.heap.objs.size := let ⟨o, ho, _⟩ := ht; Heap.lt_size ho
  have hSr : s.heap.objs.size ≠ r := Nat.ne_of_gt hr
  unfold collect
  refine wpAny_bind (wpAny_runValue (codeAny_builtin F.entry_proto_collect ?_))
  rw [Around.under_plainId F.plain_proto_collect _]
  show wpAny _ A.in1 (newList [] >>= fun z => again (.builtin "list.__iadd__" ⟨[z, .ref r], []⟩)) _ _ s
  refine wpAny_bind (wpAny_newObj_type ?_)
  refine wpAny_pure ⟨plainId_quiet F.plain_list_iadd _, codeAny_builtin F.entry_list_iadd ?_⟩
  rw [Around.under_plainId F.plain_list_iadd _]
  have hi1 : IsRT (s.heap.push { cls := .type "list", data := .seq ([] : List Value).toArray }) r t ((items.size : Int) - 1) := let ⟨o, ho, q⟩ := hi; ⟨o, Heap.get?_push_of_some _ ho, q⟩
  have ht1 : IsTup (s.heap.push { cls := .type "list", data := .seq ([] : List Value).toArray }) t items := let ⟨o, ho, q⟩ := ht; ⟨o, Heap.get?_push_of_some _ ho, q⟩
  have hS1 : (s.heap.push { cls := .type "list", data := .seq ([] : List Value).toArray }).get? s.heap.objs.size = some { cls := .type "list", data := .seq #[] 0 } := Heap.get?_push_size _ rfl
  have hk1 : ∀ b o, s.heap.get? b = some o → (s.heap.push { cls := .type "list", data := .seq ([] : List Value).toArray }).get? b = some o := fun b o e => Heap.get?_push_of_some _ e
  generalize s.heap.push { cls := .type "list", data := .seq ([] : List Value).toArray } = g1 at hi1 ht1 hS1 hk1 ⊢
  generalize hSS : s.heap.objs.size = S at hS1 hSr ⊢
  have h1 : Builtin.List.listSameRef (.ref S) (.ref r) = false := by simp [Builtin.List.listSameRef, hSr]
  show wpAny _ A.in1 (Builtin.List.listExtendWith (.ref S) (.ref r) (.ref S)) _ _ _
  unfold Builtin.List.listExtendWith
  refine wpAny_bind (wpAny_typeOf (rt_type (s := { s with heap := g1 }) hi1) ?_)
  rw [if_neg (by rw [h1]; decide)]
  refine wpAny_bind (rt_iter (s := { s with heap := g1 }) hi1 ?_)
  refine wpAny_bind (wpAny_holding ?_)
  unfold Builtin.List.listLengthHint
  refine wpAny_bind (wpAny_specialOf (rt_type (s := { s with heap := g1 }) hi1) RT.l_len ?_)
  show wpAny _ A.in1 (specialOf (Value.ref r) (Str.ofString "__length_hint__") >>= _) _ _ _
  refine wpAny_bind (wpAny_specialOf (rt_type (s := { s with heap := g1 }) hi1) RT.s_hint.lookup ?_)
  have hsp : splitId "reversed.__length_hint__" = some ("reversed", "__length_hint__") := by decide +kernel
  dsimp only
  rw [hsp]
  dsimp only
  refine wpAny_bind (wpAny_isInstance (b := true) (rt_type (s := { s with heap := g1 }) hi1) F.sub_reversed_self ?_)
  rw [if_neg (by decide)]
  rw [if_neg (by decide +kernel)]
  refine wpAny_bind (wpAny_rule ?_)
  refine wpAny_bind (wpAny_of_eq (RT.s_hint.bind _) ?_)
  dsimp only
  refine wpAny_bind (wpAny_attempt (rt_hint (s := { s with heap := g1 }) hi1 ht1 (small_of hz) fun k tk => ?_))
  dsimp only
  have hai : asInt? (Value.int (items.size : Int) k) = pure (some (items.size : Int)) := rfl
  have f1 : Builtin.List.listFitsIndex (items.size : Int) = true := by
    unfold Builtin.List.listFitsIndex
    simp only [Bool.and_eq_true, decide_eq_true_eq]
    omega
  have f2 : ¬ ((items.size : Int) < 0) := by omega
  have f3 : Builtin.List.listTooLong ((items.size : Int)).toNat = false := by rw [Int.toNat_natCast]; exact notLongL (small_of hz)
  simp only [hai, pure_bind, f1, f2, f3, Bool.not_true, Bool.false_eq_true, if_false]
  refine wpAny_pure ?_
  have W := rt_walks (prog := prog) (w := w) (A := A.in1) hh r t hne items (by omega)
  have hSf : S ∉ [r, t] := by
    intro z
    rcases List.mem_cons.mp z with z | z
    · exact hSr z
    · have e := List.mem_singleton.mp z
      exact absurd htl (by rw [hSS, e]; exact Nat.lt_irrefl _)
  have hz0 : items.size ≤ sizeLine := small_of hz
  have fin : ∀ s' acc' c', Moved (S :: [r]) (fun a b => b = a) { s with heap := g1, toks := tk } s' → s'.heap.get? S = some { cls := .type "list", dict := none, data := .seq acc' c', slots := #[] } → ItemsOf (fun i v => items[items.size - 1 - i]? = some v) acc' items.size → Q acc'.toList s' := fun s' acc' c' hm _ hacc => by
    obtain ⟨h', g', d', t', o'⟩ := s'
    have e1 : g' = s.gens := hm.gens
    have e2 : d' = s.drawn := hm.drawn
    have e3 : o' = s.os := hm.os
    subst e1 e2 e3
    exact hQ h' t' acc' (fun b o hb e => hm.heap b o (fun z => by
      rcases List.mem_cons.mp z with z | z
      · rw [z, ← hSS] at e
        exact absurd (Heap.lt_size e) (Nat.lt_irrefl _)
      · exact hb (List.mem_singleton.mp z)) (hk1 b o e)) hacc
  by_cases hs0 : items.size = 0
  · have e0 : ((items.size : Int) != 0) = false := by rw [hs0]; rfl
    rw [e0, if_neg (by decide +kernel)]
    refine wpAny_pure ⟨plainId_quiet F.plain_extend_loop _, codeAny_extend_loopS W.toS hz0 S hSf _ items.size 0 _ _ _ rfl (Nat.zero_le _) ⟨Nat.zero_le _, by simpa using hi1, ht1⟩ hS1 (ItemsOf.nil _) fun s' acc' c' hm hS' hacc => ?_⟩
    show wpAny _ A (load S >>= _) _ _ s'
    exact wpAny_bind (wpAny_load hS' (wpAny_pure (fin s' acc' c' hm hS' hacc)))
  · have e0 : ((items.size : Int) != 0) = true := bne_iff_ne.mpr (by omega)
    rw [e0, if_pos (by rfl)]
    refine wpAny_bind (wpAny_rule ?_)
    obtain ⟨c2, hS2⟩ : ∃ c2, (g1.update S (Obj.mapSeq fun x => x.push Value.none)).get? S = some (seqObj "list" #[Value.none] c2) := ⟨_, get?_update_seq (c := "list") (xs := #[]) (n := 0) hS1 fun x => x.push Value.none⟩
    obtain ⟨c3, hS3⟩ : ∃ c3, ((g1.update S (Obj.mapSeq fun x => x.push Value.none)).update S (Obj.mapSeq fun x => x.pop)).get? S = some (seqObj "list" #[] c3) := ⟨_, get?_update_seq (c := "list") hS2 fun x => x.pop⟩
    refine wpAny_bind (show wpAny _ _ (Builtin.List.listUpdate (.ref S) (fun x => x.push Value.none) >>= fun _ => Builtin.List.listUpdate (.ref S) (fun x => x.pop)) _ _ _ from wpAny_bind (listUpdate_at (s := { s with heap := g1, toks := tk }) hS1 rfl (listUpdate_at hS2 rfl ?_ (by show 1 ≤ sizeLine; decide) (by show 0 ≤ sizeLine + 1; exact Nat.zero_le _)) (by show 0 ≤ sizeLine; decide) (by show 1 ≤ sizeLine + 1; exact Nat.le_add_left 1 _)))
    have sb : Heap.SameBut S g1 ((g1.update S (Obj.mapSeq fun x => x.push Value.none)).update S (Obj.mapSeq fun x => x.pop)) := (Heap.SameBut.update ..).trans (Heap.SameBut.update ..)
    generalize (g1.update S (Obj.mapSeq fun x => x.push Value.none)).update S (Obj.mapSeq fun x => x.pop) = g3 at hS3 sb ⊢
    have hi3 : IsRT g3 r t ((items.size : Int) - 1) := let ⟨o, ho, q⟩ := hi1; ⟨o, (sb.2 r (Ne.symm hSr)).trans ho, q⟩
    have ht3 : IsTup g3 t items := let ⟨o, ho, q⟩ := ht1; ⟨o, (sb.2 t (fun z => hSf (by simp [z]))).trans ho, q⟩
    refine wpAny_pure ⟨plainId_quiet F.plain_extend_loop _, codeAny_extend_loopS W.toS hz0 S hSf _ items.size 0 _ _ _ rfl (Nat.zero_le _) ⟨Nat.zero_le _, by simpa using hi3, ht3⟩ hS3 (ItemsOf.nil _) fun s' acc' c' hm hS' hacc => ?_⟩
    show wpAny _ A (load S >>= _) _ _ s'
    refine wpAny_bind (wpAny_load hS' (wpAny_pure (fin s' acc' c' ⟨fun b o hb e => hm.heap b o hb ((sb.2 b (fun z => hb (by simp [z]))).trans e), hm.gens, hm.drawn, hm.os, hm.toks⟩ hS' hacc)))
/-- tuple(r), r a reversed -/
theorem rt_tuple {r t : Addr} {items : Array Value} {Q : Value → Shared → Prop} (hh : A.handled = none) (hi : IsRT s.heap r t ((items.size : Int) - 1)) (ht : IsTup s.heap t items) (hne : t ≠ r) (hz : items.size ≤ 1000)
    (hQ : ∀ (g : Heap) (tk : Nat) (acc : Array Value), (∀ b o, b ≠ r → s.heap.get? b = some o → g.get? b = some o) → ItemsOf (fun i v => items[items.size - 1 - i]? = some v) acc items.size → Q (.ref g.objs.size) { s with heap := g.push { cls := .type "tuple", data := .seq acc }, toks := tk }) :
    wpAny (model prog w) A (call (.type "tuple") [.ref r]) Q E s := by
  refine callType_codes (Q₁ := fun obj s₁ => s₁.TypeIs obj "tuple" ∧ Q obj s₁) F.called_tuple (F.typeCall_tuple_1 _) F.entry_object_init ?_ fun obj s₁ h₁ =>
    ⟨h₁.1, F.args_object_init_2 obj _, object_init_meets F.called_tuple.init.lookup F.called_tuple.made (by decide) prog w A.in1 _ s₁ ⟨h₁.1, rfl, h₁.2⟩⟩
  refine codeAny_of_tree ?_
  show wpAny _ _ (do checkBuiltinCall "tuple.__new__" ⟨[.type "tuple", .ref r], []⟩; again (.builtin "tuple.__new__" ⟨[.type "tuple", .ref r], []⟩)) _ _ s
  refine wpAny_bind (wpAny_of_eq (F.newCall_tuple_1 _) (wpAny_pure ⟨plainId_quiet F.plain_tuple_new _, codeAny_builtin F.entry_tuple_new ?_⟩))
  rw [Around.under_plainId F.plain_tuple_new _]
  have x1 := sub_tuple_self
  have x2 := init_tuple_lookup
  have x3 := madeHere_tuple
  have hT : s.TypeIs (.ref r) "reversed" := rt_type hi
  wp_walk using wpAny_typeOf hT, rt_collect (A := A.in1.in1) hh hi ht hne hz
  intro g tk acc kp ha
  show wpAny _ _ (Builtin.Tuple.tupleExact acc.toList.toArray >>= fun z => ret z) _ _ _
  unfold Builtin.Tuple.tupleExact
  have el : acc.toList.toArray = acc := by simp
  rw [el]
  refine wpAny_bind (wpAny_newObj_type ?_ (by show acc.size ≤ sizeLine; rw [ha.1, sizeLine_eq]; omega))
  exact wpAny_pure ⟨⟨_, Heap.get?_push_size _ rfl, rfl⟩, hQ g tk acc kp ha⟩
/-- reversed(t) -/
theorem rt_made : TypeCalled "reversed" "reversed.__new__" "object.__init__" :=
  ⟨by decide +kernel, by decide +kernel, ⟨_, _, F.mro_reversed⟩, F.made_reversed, by decide +kernel, F.sub_reversed_self, .of (owner := "object") (n := "__init__") RT.l_init (by decide +kernel) (by decide +kernel) (by decide +kernel) (by first | exact .inl (by decide +kernel) | exact .inr (by decide +kernel)) (by rw [isSubtype_type]; kernel_rfl)⟩
theorem rt_new {t : Addr} {items : Array Value} {Q : Value → Shared → Prop} (ht : IsTup s.heap t items) (hz : items.size ≤ sizeLine)
    (hQ : ∀ tk, Q (.ref s.heap.objs.size) { s with heap := s.heap.push { cls := .type "reversed", data := .fields #[.ref t, rawInt ((items.size : Int) - 1)] }, toks := tk }) :
    wpAny (model prog w) A (call (.type "reversed") [.ref t]) Q E s := by
  refine callType_codes (Q₁ := fun obj s₁ => s₁.TypeIs obj "reversed" ∧ Q obj s₁) rt_made (F.typeCall_reversed_1 _) F.entry_object_init ?_ fun obj s₁ h₁ =>
    ⟨h₁.1, F.args_object_init_2 obj _, object_init_meets rt_made.init.lookup rt_made.made (by decide) prog w A.in1 _ s₁ ⟨h₁.1, rfl, h₁.2⟩⟩
  refine codeAny_of_tree ?_
  show wpAny _ _ (do checkBuiltinCall "reversed.__new__" ⟨[.type "reversed", .ref t], []⟩; again (.builtin "reversed.__new__" ⟨[.type "reversed", .ref t], []⟩)) _ _ s
  refine wpAny_bind (wpAny_of_eq (F.newCall_reversed_1 _)
    (wpAny_pure ⟨plainId_quiet F.plain_reversed_new _, codeAny_builtin F.entry_reversed_new ?_⟩))
  rw [Around.under_plainId F.plain_reversed_new _]
  unfold Builtin.«reversed.__new__»
  refine wpAny_bind (wpAny_of_eq (newClass_reversed _) ?_)
  try dsimp only
  refine wpAny_bind (wpAny_of_eq (a := ())
    (by first | rfl | kernel_rfl) ?_)
  refine wpAny_bind (wpAny_of_eq (a := ())
    (by first | rfl | kernel_rfl) ?_)
  try dsimp only
  refine wpAny_bind (wpAny_specialOf ht.typeIs RT.l_trev ?_)
  try dsimp only
  refine wpAny_bind ?_
  wp_delta
  refine wpAny_bind (wpAny_isInstance (b := false) ht.typeIs RT.t_dict ?_)
  rw [if_neg (by decide)]
  refine wpAny_bind (wpAny_specialOf ht.typeIs slot_tuple_getitem.lookup ?_)
  dsimp only
  rw [if_pos (by decide)]
  refine wpAny_pure ?_
  rw [if_neg (by decide)]
  have hn := line63
  refine wpAny_bind (len_tuple ht (by omega) ?_)
  have hai : ∀ k, asInt? (Value.int (items.size : Int) k) = pure (some (items.size : Int)) := fun _ => rfl
  simp only [hai, pure_bind]
  refine wpAny_bind (show wpAny _ _ (newObj (.type "reversed") (.fields #[.ref t, rawInt ((items.size : Int) - 1)])) _ _ _ from wpAny_newObj_type ?_)
  exact wpAny_pure ⟨⟨_, Heap.get?_push_size _ rfl, rfl⟩, hQ _⟩
end
section
variable {X : Cx}
def rRevT (K : PySem.W.Frag) : List V → Hp → VK → Prop := fun xs H Q => ∃ (a : Addr) (ys : List V), xs = [.ref a] ∧ SqT K H a ys ∧ ys.length ≤ 1000 ∧ ∀ p, H p = none → Q (.ref p) (upd H p (.ext fun h => IsRT h p a ((ys.length : Int) - 1)))
theorem call_revT : CallR X (.type "reversed") (rRevT X.K) := by
  intro pins s σ H xs us Q I r h
  obtain ⟨a, ys, rfl, hq, hz, q⟩ := h
  obtain ⟨u, rfl, rx⟩ := vals1 r
  cases rx
  obtain ⟨its, rv, pl, hz'⟩ := I.tuple hq
  have hl := rv.length
  refine rt_new pl (by rw [List.size_toArray, ← hl]; exact hz') fun tk => ?_
  have e : ((its.toArray.size : Nat) : Int) - 1 = (ys.length : Int) - 1 := by rw [List.size_toArray, hl]
  rw [e]
  refine ⟨.ref s.heap.objs.size, _, I.laid (t' := tk) (o := .ext fun h => IsRT h s.heap.objs.size a ((ys.length : Int) - 1)) (fun b o e => Heap.get?_push_of_some _ e) (Nat.le_refl _) ?_, rfl, q _ I.fresh⟩
  exact ⟨⟨_, Heap.get?_push_size _ rfl, rfl, rfl⟩, ⟨_, Heap.get?_push_size _ rfl⟩, fun h1 h2 ⟨o, ho, x⟩ k => ⟨o, k o ho, x⟩⟩
/-- tuple(reversed(t)) -/
def tTupRev (K : PySem.W.Frag) (t : TA) : TE := fun σ H Q => t σ H fun vs H1 => ∃ (a : Addr) (ys : List V), vs = [.ref a] ∧ SqT K H1 a ys ∧ ys.length ≤ 1000 ∧ ∀ p, H1 p = none → Q (.ref p) (upd H1 p (.tup ys.reverse))
theorem pe_tuprev {e : Expr} {ta : TA} {p p2 pos pos2 : Pos} (hc : X.calm = true) (hg : Gl X "tuple") (hm : X.mg "tuple" = none) (hg2 : Gl X "reversed") (hm2 : X.mg "reversed" = none) (ha : PA X [e] ta) (hs : starEach [e] X.env = [(false, eval e X.env)] := by rfl)
    (hs2 : starEach [.Call (.Name "reversed" p2) [e] [] pos2] X.env = [(false, eval (.Call (.Name "reversed" p2) [e] [] pos2) X.env)] := by rfl) :
    PE X (.Call (.Name "tuple" p) [.Call (.Name "reversed" p2) [e] [] pos2] [] pos) (tTupRev X.K ta) := by
  intro pins s σ H Q I h
  refine Call_ (ld_blt I hg hm boot_tuple (PyProof.Rows.callWith_type1 ?_ hs2 rfl))
  rw [hs2]
  show wpAny _ _ (spliced ((false, eval (.Call (.Name "reversed" p2) [e] [] pos2) X.env) :: [])) _ _ s
  refine Calls.spliced_cons ?_
  refine Call_ (ld_blt I hg2 hm2 boot_reversed (PyProof.Rows.callWith_type1 (thn (ha pos2 pins s σ H _ I h) fun us s1 ⟨vs, H1, I1, r1, q1⟩ => ?_) hs rfl))
  obtain ⟨a, ys, e1, hq, hz, q⟩ := q1
  subst e1
  obtain ⟨u, rfl, rx⟩ := vals1 r1
  cases rx
  obtain ⟨its, rv, pl, hz'⟩ := I1.tuple hq
  have hl := rv.length
  refine rt_new pl (by rw [List.size_toArray, ← hl]; exact hz') fun tk => ?_
  refine Calls.spliced_nil ?_
  have I2 : Inv X pins σ H1 { s1 with heap := s1.heap.push { cls := .type "reversed", data := .fields #[.ref a, rawInt ((its.toArray.size : Int) - 1)] }, toks := tk } := I1.kept fun b o e => Heap.get?_push_of_some _ e
  have fp : FpOk X pins H1 s1.heap.objs.size := I1.fpOk (Nat.le_refl _) (I1.hok.fresh (Nat.le_refl _))
  have hIR : IsRT (s1.heap.push { cls := .type "reversed", data := .fields #[.ref a, rawInt ((its.toArray.size : Int) - 1)] }) s1.heap.objs.size a ((its.toArray.size : Int) - 1) := ⟨_, Heap.get?_push_size _ rfl, rfl, rfl⟩
  have hT2 : IsTup (s1.heap.push { cls := .type "reversed", data := .fields #[.ref a, rawInt ((its.toArray.size : Int) - 1)] }) a its.toArray := let ⟨o, ho, z⟩ := pl; ⟨o, Heap.get?_push_of_some _ ho, z⟩
  have hne : a ≠ s1.heap.objs.size := let ⟨o, ho, _⟩ := pl; Nat.ne_of_lt (Heap.lt_size ho)
  refine rt_tuple (s := { s1 with heap := s1.heap.push { cls := .type "reversed", data := .fields #[.ref a, rawInt ((its.toArray.size : Int) - 1)] }, toks := tk }) (I.ok.hd hc) hIR hT2 hne (by rw [List.size_toArray, ← hl]; exact hz) fun g tk' acc kp hacc => ?_
  obtain ⟨f0, f1, f2, f3, f4, f5⟩ := fp
  have I3 : Inv X pins σ H1 { s1 with heap := g, toks := tk' } := I2.turned (t' := tk') (fun b o hb e => kp b o hb e) f0 f1 f3 f4 f5
  have hv : Vals ys.reverse acc.toList := by
    have hla : acc.toList.length = its.length := by rw [Array.length_toList, hacc.1, List.size_toArray]
    refine vals_of_get (by rw [List.length_reverse, hla, hl]) fun i u e => ?_
    have e' : acc[i]? = some u := by simpa using e
    have hi : i < its.toArray.size := by
      have := (Array.getElem?_eq_some_iff.mp e').1
      rw [hacc.1] at this; exact this
    have hu := hacc.2 i u e'
    have hi' : i < its.length := by simpa using hi
    have hu' : its[its.length - 1 - i]? = some u := by simpa using hu
    have ex : ys[its.length - 1 - i]? = some (ys[its.length - 1 - i]'(by omega)) := List.getElem?_eq_getElem (by omega)
    obtain ⟨u', eu', rx⟩ := rv.get ex
    rw [hu'] at eu'
    cases eu'
    refine ⟨_, ?_, rx⟩
    have ei : ys.length - 1 - i = its.length - 1 - i := by rw [hl]
    rw [List.getElem?_reverse (by omega)]
    exact (congrArg (fun z => ys[z]?) ei).trans ex
  refine ⟨.ref g.objs.size, _, I3.laid (fun b o e => Heap.get?_push_of_some _ e) (Nat.le_refl _) (show ObjOk X.prog X.w _ _ _ (.tup ys.reverse) from ⟨?_, acc.toList, hv, ?_⟩), rfl, q _ (I3.hok.fresh (Nat.le_refl _))⟩
  · rw [List.length_reverse]
    exact small_of hz
  · rw [Array.toArray_toList]
    exact IsTup.new _ _
/-! ### t[lo:hi], the whole of it or not -/
def rSlTA (K : PySem.W.Frag) : V → Option Int → Option Int → Hp → VK → Prop := fun x lo hi H Q => ∃ a xs, x = .ref a ∧ SqT K H a xs ∧ ∀ p H', (H' = H ∨ (H p = none ∧ H' = upd H p (.tup (cutV xs lo hi)))) → SqT K H' p (cutV xs lo hi) → Q (.ref p) H'
theorem sl_tupA : SlR X (rSlTA X.K) := by
  intro pins s σ H x v vl vu lo hi sl Q I rx hs pl pu h
  obtain ⟨a, xs, rfl, hx, q⟩ := h
  by_cases hw : HT.sIx xs.length 0 lo = 0 ∧ HT.sIx xs.length xs.length hi = xs.length
  · have ec : cutV xs lo hi = xs := by
      unfold cutV
      rw [hw.1, hw.2, List.drop_zero, Nat.sub_zero, List.take_length]
    cases rx
    obtain ⟨its, r, ht, hz⟩ := I.tuple hx
    have hlen : its.toArray.size = xs.length := by rw [List.size_toArray]; exact r.length.symm
    refine ⟨"tuple", _, PyProof.Rows.slot_tuple_getitem.lookup, ht.typeIs, ?_⟩
    obtain ⟨os, hos, hcs, hds⟩ := id hs
    have hTs : s.TypeIs (.ref sl) "slice" := ⟨os, hos, hcs⟩
    unfold getItem
    try with_reducible refine wpAny_holding ?_
    first | refine wpAny_bind (wpAny_pure ?_) | skip
    refine wpAny_bind (wpAny_sequenceKey ht.typeIs (by decide) ?_)
    refine wpAny_bind (wpAny_callSpecial?_slot (name := Str.ofString "__getitem__") ht.typeIs PyProof.Rows.slot_tuple_getitem
      (wpAny_call_entry PyProof.Rows.slot_tuple_getitem ht.typeIs entry_tuple_getitem ?_ (args_tuple_getitem _ _)))
    show wpAny _ _ (Builtin.Tuple.tupleItemsOf (.ref a) >>= _) _ _ s
    refine wpAny_bind (tupleItemsOf_ ht ?_)
    refine wpAny_bind (wpAny_typeOf hTs ?_)
    rw [if_pos (by decide)]
    refine wpAny_bind (HT.sliceApplied_gen hs pl pu ?_)
    rw [hlen]
    show wpAny _ _ (if (((HT.sIx xs.length 0 lo : Nat) : Int) == 0 && (1 : Int) == 1 && (HT.sIx xs.length xs.length hi - HT.sIx xs.length 0 lo) == xs.length) = true then _ else _) _ _ s
    rw [if_pos (by rw [hw.1, hw.2]; simp)]
    have fin : EP X pins σ Q (.ref a) s := ⟨.ref a, H, I, rfl, q a H (.inl rfl) (by rw [ec]; exact hx)⟩
    refine wpAny_bind (show wpAny _ _ (typeOf (Value.ref a) >>= fun t => pure (t == .type "tuple")) _ _ _ from wpAny_bind (wpAny_typeOf ht.typeIs (wpAny_pure ?_)))
    rw [if_pos (by decide)]
    refine wpAny_bind (wpAny_rule ?_)
    first
      | exact wpAny_pure ⟨_, rfl, wpAny_pure fin⟩
      | exact wpAny_bind (wpAny_pure (wpAny_pure ⟨_, rfl, wpAny_pure fin⟩))
      | exact wpAny_pure (wpAny_pure ⟨_, rfl, wpAny_pure fin⟩)
  · exact sl_tup pins s σ H _ v vl vu lo hi sl Q I rx hs pl pu ⟨a, xs, rfl, hx, hw, fun p hp => q p _ (.inr ⟨hp, rfl⟩) (SqT.of upd_same)⟩
end
end L2

namespace Tm
/-! ### undone -/
def backN (xs : List Int) : Nat → List Int
  | 0 => List.replicate xs.length 0
  | i + 1 => (backN xs i).set (xs.getD i 0).toNat (i : Int)
theorem backN_length (xs : List Int) : ∀ i, (backN xs i).length = xs.length
  | 0 => by simp [backN]
  | i + 1 => by simp [backN, backN_length xs i]
theorem backN_get {xs : List Int} (h : IsT xs) : ∀ {i j : Nat}, j < i → i ≤ xs.length → (backN xs i)[(xs.getD j 0).toNat]? = some (j : Int)
  | 0, j, hj, _ => by omega
  | i + 1, j, hj, hi => by
    have bj := h.bd (getD_of (ys := xs) (k := j) (by omega))
    have bi := h.bd (getD_of (ys := xs) (k := i) (by omega))
    show ((backN xs i).set (xs.getD i 0).toNat (i : Int))[(xs.getD j 0).toNat]? = some (j : Int)
    by_cases e : j = i
    · subst e
      rw [List.getElem?_set_self (by rw [backN_length]; omega)]
    · have ne : (xs.getD i 0).toNat ≠ (xs.getD j 0).toNat := by
        intro z
        have z' : xs.getD i 0 = xs.getD j 0 := by omega
        have h1 := getD_of (ys := xs) (k := j) (by omega)
        have h2 := getD_of (ys := xs) (k := i) (by omega)
        rw [z'] at h2
        have := (List.getElem?_inj (by omega : j < xs.length) h.nodup).mp (h1.trans h2.symm)
        exact e this
      rw [List.getElem?_set_ne ne]
      exact backN_get h (by omega) (by omega)
def inv (xs : List Int) : List Int := backN xs xs.length
theorem inv_length (xs : List Int) : (inv xs).length = xs.length := backN_length xs _
theorem inv_get {xs : List Int} (h : IsT xs) {j : Nat} {v : Int} (e : xs[j]? = some v) : (inv xs)[v.toNat]? = some (j : Int) := by
  have hj : j < xs.length := (List.getElem?_eq_some_iff.mp e).1
  have q := getD_of (ys := xs) hj
  rw [e] at q
  have q' : v = xs.getD j 0 := Option.some.inj q
  rw [q']
  exact backN_get h hj (Nat.le_refl _)
/-- each item of the inverse is a seat, and the turning brings it back -/
theorem inv_at {xs : List Int} (h : IsT xs) {i : Nat} (hi : i < xs.length) : ∃ j : Nat, j < xs.length ∧ xs[j]? = some (i : Int) ∧ (inv xs)[i]? = some (j : Int) := by
  have hm : (i : Int) ∈ xs := h.mem.mpr ⟨by omega, by omega⟩
  obtain ⟨j, hj, e⟩ := List.getElem_of_mem hm
  have e' : xs[j]? = some (i : Int) := by rw [List.getElem?_eq_getElem hj, e]
  refine ⟨j, hj, e', ?_⟩
  have q := inv_get h e'
  rwa [Int.toNat_natCast] at q
end Tm

set_option Elab.async false
set_option linter.all false
set_option maxRecDepth 100000
set_option maxHeartbeats 4000000
namespace L2
open PySem PySem.Spec PyProof.Rows Tm
section
variable {X : Cx}
/-- t + u: which of the two it is, or a new one -/
theorem op_catTB : OpR X (binaryOp .Add) (fun x y H Q => ∃ a b xs ys, x = .ref a ∧ y = .ref b ∧ SqT X.K H a xs ∧ SqT X.K H b ys ∧ xs.length + ys.length ≤ sizeLine ∧
    (xs = [] → Q (.ref b) H) ∧ (xs ≠ [] → ys = [] → Q (.ref a) H) ∧ (xs ≠ [] → ys ≠ [] → ∀ p, H p = none → Q (.ref p) (upd H p (.tup (xs ++ ys))))) := by
  intro pins s σ H x y v u Q I rx ry h
  obtain ⟨a, b, xs, ys, rfl, rfl, ha, hb, hz, q1, q2, q3⟩ := h
  cases xs with
  | nil => exact op_catT0 pins s σ H _ _ v u Q I rx ry ⟨a, b, ys, rfl, rfl, ha, hb, q1 rfl⟩
  | cons z zs => exact op_catT pins s σ H _ _ v u Q I rx ry ⟨a, b, z :: zs, ys, rfl, rfl, ha, hb, (fun e => nomatch e), hz, fun e => q2 (fun e => nomatch e) e, fun ne p hp => q3 (fun e => nomatch e) ne p hp⟩
end
end L2

set_option Elab.async false
set_option linter.all false
set_option maxRecDepth 100000
set_option maxHeartbeats 4000000
namespace KP
open PySem L2 Tm
/-! ### the text by places -/
def top (i : Nat) : Stmt := PySem.Challenge.pw_seatturn_k09_refused.main.body.getD i (.Pass ⟨0, 0, 0, 0⟩)
abbrev sRest : Stmt := top 7
abbrev sReqT : Stmt := top 8
abbrev sReqL : Stmt := top 9
abbrev sJoin : Stmt := top 10
abbrev sBack : Stmt := top 11
abbrev sSeat : Stmt := top 12
abbrev sRF : Stmt := top 14
abbrev sRO : Stmt := top 15
abbrev sGD : Stmt := top 16
abbrev sTR : Stmt := top 17
abbrev sRank : Stmt := top 19
abbrev sRT : Stmt := top 21
abbrev sLn : Stmt := top 22
abbrev sSW : Stmt := top 23
abbrev sRch : Stmt := top 24
abbrev sAt : Stmt := top 26
abbrev sTb : Stmt := top 27
abbrev sSaid : Stmt := top 28
abbrev sSp : Stmt := top 29
abbrev sWR : Stmt := top 30
abbrev sRfs : Stmt := top 31
abbrev sLaw : Stmt := top 32
/-- the built-in names that the text leaves as they are -/
structure Blt (mg : Str → Option Value) : Prop where
  tup : mg "tuple" = none
  rng : mg "range" = none
  srt : mg "sorted" = none
  len : mg "len" = none
  enm : mg "enumerate" = none
  isi : mg "isinstance" = none
  int : mg "int" = none
  bool : mg "bool" = none
  list : mg "list" = none
  str : mg "str" = none
  mx : mg "max" = none
  mn : mg "min" = none
  rev : mg "reversed" = none
  verr : mg "ValueError" = none
section
variable {P : Program} {w : World} {K : PySem.W.Frag} {mg : Str → Option Value} {base : Heap} {f g : Addr} {fd gd : FuncData}
/-! ### resting -/
def spRest : Sp := fun vs H Q _ => ∃ n : Nat, vs = [.int n] ∧ n ≤ 1000 ∧ ∀ r H', Same H H' → H' r = some (.tup ((ups 0 n).map V.int)) → Q (.ref r) H'
theorem scRest : FnScope ["count"] ["count"] (defScope sRest) := ⟨rfl, rfl, rfl, by decide +kernel, rfl, by decide +kernel, by decide +kernel⟩
theorem ok_rest (F : Fun K "resting" "resting" sRest f fd) (B : Blt mg) : FnOk P w K mg base CX0 1 f fd ["count"] spRest := by
  refine F.ok scRest (fun vs H Q E h => ?_) (fun cdv A outer s H vs Q E hr h => ?_)
  · obtain ⟨n, rfl, _⟩ := h
    rfl
  obtain ⟨n, rfl, hn, q⟩ := h
  refine ⟨_, pss_one (ps_ret (pe_callTy (call_tuple_rng rfl) rfl B.tup PyProof.Rows.boot_tuple (pa_cons (pe_callTy call_range1 rfl B.rng PyProof.Rows.boot_range (pa_cons (pv 0) pa_nil)) pa_nil))), ?_⟩
  refine ⟨_, rfl, (n : Int), rfl, fun p hp => ⟨p, 0, (n : Int), rfl, upd_same, ⟨by decide, by decide, by omega, by omega⟩, by omega, fun l hl => ?_⟩⟩
  refine q l _ ((same_new hp _).trans (same_new hl _)) ?_
  rw [upd_same]
  have e : ((n : Int) - 0).toNat = n := by omega
  rw [e]
/-! ### require_turning -/
def spReqT (K : PySem.W.Frag) (cB : Addr) : Sp := fun vs H Q E => ∃ (a : Addr) (xs : List Int), vs = [.ref a] ∧ SqT K H a (xs.map V.int) ∧ xs.length < 64 ∧ (IsT xs → ∀ H', Same H H' → Q .non H') ∧ (¬ IsT xs → ∀ H', Same H H' → E (.ref cB) none H')
theorem scReqT : FnScope ["turning"] ["turning"] (defScope sReqT) := ⟨rfl, rfl, rfl, by decide +kernel, rfl, by decide +kernel, by decide +kernel⟩
theorem ok_reqT {cB : Addr} (F : Fun K "require_turning" "require_turning" sReqT f fd) (B : Blt mg) (cb : Xc K "BadTurning" cB) (G : FnOk P w K mg base CX0 1 g gd ["count"] spRest) (bG : Binds K gd ["count"] []) (kG : PySem.W.keepIn K (.ref g) = true) (mG : mg "resting" = some (.ref g)) :
    FnOk P w K mg base (CXx P w) 2 f fd ["turning"] (spReqT K cB) := by
  refine F.okX scReqT (fun vs H Q E h => ?_) (fun X cdv A outer s H vs Q E eX hX hP hr h => ?_)
  · obtain ⟨a, xs, rfl, _⟩ := h
    rfl
  subst eX
  obtain ⟨a, xs, rfl, hS, h64, q1, q2⟩ := h
  refine ⟨_, pss_one (ps_if (pt_cmpR (op_neT hr.units) (pe_callTy call_tuple_of rfl B.tup PyProof.Rows.boot_tuple (pa_cons (pe_callB call_sorted rfl B.srt PyProof.Rows.boot_sorted (pa_cons (pv 0) pa_nil)) pa_nil))
    (pe_call G hr rfl mG kG bG .nil pass0 (pa_cons (pe_callB call_len_seq rfl B.len PySem.boot_len (pa_cons (pv 0) pa_nil)) pa_nil)) (nomark _))
    (pss_one (ps_raise hX cb rfl rfl (pa_cons pe_str pa_nil))) pss_nil), ?_⟩
  refine ⟨_, rfl, a, xs, rfl, .inr hS, h64, fun l ms hl hp hs => ⟨l, _, rfl, .inl ⟨SqL.of upd_same, fun l2 hl2 => ?_⟩⟩⟩
  have g1 : Same H (upd (upd H l (.lst (ms.map V.int))) l2 (.tup (ms.map V.int))) := (same_new hl _).trans (same_new hl2 _)
  refine ⟨_, rfl, a, _, rfl, .inr (g1.seqT hS), xs.length, by rw [List.length_map]; rfl, by omega, fun r H' g2 hr' => ?_⟩
  refine ⟨l2, r, ms, ups 0 xs.length, rfl, rfl, .inl ⟨SqT.of (g2 _ _ upd_same), SqT.of hr'⟩, _, rfl, ?_⟩
  have sm := g1.trans g2
  by_cases ht : IsT xs
  · rw [decide_eq_true ((isT_sorted hp hs).mpr ht)]
    exact iteF (q1 ht _ sm)
  · rw [decide_eq_false (fun e => ht ((isT_sorted hp hs).mp e))]
    exact iteT ⟨by show 1 ≤ sizeLine; decide, q2 ht _ sm⟩
/-! ### require_one_length -/
def spReqL (K : PySem.W.Frag) (cO : Addr) : Sp := fun vs H Q E => ∃ (a b : Addr) (xs ys : List V), vs = [.ref a, .ref b] ∧ (SqL K H a xs ∨ SqT K H a xs) ∧ (SqL K H b ys ∨ SqT K H b ys) ∧ (xs.length = ys.length → Q .non H) ∧ (xs.length ≠ ys.length → E (.ref cO) none H)
theorem scReqL : FnScope ["one", "two"] ["one", "two"] (defScope sReqL) := ⟨rfl, rfl, rfl, by decide +kernel, rfl, by decide +kernel, by decide +kernel⟩
theorem ok_reqL {cO : Addr} (F : Fun K "require_one_length" "require_one_length" sReqL f fd) (B : Blt mg) (co : Xc K "OtherLength" cO) : FnOk P w K mg base (CXx P w) 1 f fd ["one", "two"] (spReqL K cO) := by
  refine F.okX scReqL (fun vs H Q E h => ?_) (fun X cdv A outer s H vs Q E eX hX hP hr h => ?_)
  · obtain ⟨a, b, xs, ys, rfl, _⟩ := h
    rfl
  subst eX
  obtain ⟨a, b, xs, ys, rfl, ha, hb, q1, q2⟩ := h
  refine ⟨_, pss_one (ps_if (pt_cmpR op_ne (pe_callB call_len_seq rfl B.len PySem.boot_len (pa_cons (pv 0) pa_nil)) (pe_callB call_len_seq rfl B.len PySem.boot_len (pa_cons (pv 1) pa_nil)) (nomark _))
    (pss_one (ps_raise hX co rfl rfl (pa_cons pe_str pa_nil))) pss_nil), ?_⟩
  refine ⟨_, rfl, a, xs, rfl, ha, _, rfl, b, ys, rfl, hb, rfl, _, rfl, ?_⟩
  by_cases e : xs.length = ys.length
  · have e' : V.int (xs.length : Nat) = V.int (ys.length : Nat) := by rw [e]
    rw [decide_eq_true e']
    exact iteF (q1 e)
  · have e' : ¬ V.int (xs.length : Nat) = V.int (ys.length : Nat) := fun z => e (by injection z with z; omega)
    rw [decide_eq_false e']
    exact iteT ⟨by show 1 ≤ sizeLine; decide, q2 e⟩
/-! ### joined -/
def spJoin (K : PySem.W.Frag) (cB cO : Addr) : Sp := fun vs H Q E => ∃ (a b : Addr) (xs ys : List Int), vs = [.ref a, .ref b] ∧ SqT K H a (xs.map V.int) ∧ SqT K H b (ys.map V.int) ∧ xs.length < 64 ∧ ys.length < 64 ∧
  (¬ (IsT xs ∧ IsT ys) → ∀ H', Same H H' → E (.ref cB) none H') ∧ (IsT xs → IsT ys → xs.length ≠ ys.length → ∀ H', Same H H' → E (.ref cO) none H') ∧
  (IsT xs → IsT ys → xs.length = ys.length → ∀ r H', Same H H' → H' r = some (.tup ((join xs ys).map V.int)) → Q (.ref r) H')
theorem scJoin : FnScope ["one", "two"] ["one", "two"] (defScope sJoin) := ⟨rfl, rfl, rfl, by decide +kernel, rfl, by decide +kernel, by decide +kernel⟩
theorem ok_join {cB cO gT gL : Addr} {gdT gdL : FuncData} (F : Fun K "joined" "joined" sJoin f fd) (B : Blt mg)
    (GT : FnOk P w K mg base (CXx P w) 2 gT gdT ["turning"] (spReqT K cB)) (bT : Binds K gdT ["turning"] []) (kT : PySem.W.keepIn K (.ref gT) = true) (mT : mg "require_turning" = some (.ref gT))
    (GL : FnOk P w K mg base (CXx P w) 1 gL gdL ["one", "two"] (spReqL K cO)) (bL : Binds K gdL ["one", "two"] []) (kL : PySem.W.keepIn K (.ref gL) = true) (mL : mg "require_one_length" = some (.ref gL)) :
    FnOk P w K mg base (CXx P w) 3 f fd ["one", "two"] (spJoin K cB cO) := by
  refine F.okX scJoin (fun vs H Q E h => ?_) (fun X cdv A outer s H vs Q E eX hX hP hr h => ?_)
  · obtain ⟨a, b, xs, ys, rfl, _⟩ := h
    rfl
  subst eX
  obtain ⟨a, b, xs, ys, rfl, ha, hb, hx64, hy64, q1, q2, q3⟩ := h
  refine ⟨_, pss_cons (ps_expr (pe_call GT hr rfl mT kT bT .nil hP (pa_cons (pv 0) pa_nil)))
    (pss_cons (ps_expr (pe_call GT hr rfl mT kT bT .nil hP (pa_cons (pv 1) pa_nil)))
    (pss_cons (ps_expr (pe_call GL (hr.mono (by decide)) rfl mL kL bL .nil hP (pa_cons (pv 0) (pa_cons (pv 1) pa_nil))))
    (pss_one (ps_ret (pe_callTy call_tuple_of rfl B.tup PyProof.Rows.boot_tuple (pa_cons
      (pe_comp (cl := [("two", s.heap.objs.size + 1)]) (ys := ["two"]) (js := [1]) ⟨rfl, by decide +kernel, by decide +kernel, rfl, rfl, by intro p hp; rw [List.mem_singleton.mp hp]; rfl, rfl, by decide +kernel, rfl, by intro y hy; rw [List.mem_singleton.mp hy]; exact ⟨rfl, rfl⟩⟩
        rfl (pi_tup (pv 0)) (fun _ _ _ _ => pts_nil) (fun _ _ _ _ => pe_ix (ix_tupK K) (pv 1) (pv 0) (fun _ _ => rfl))) pa_nil)))))), ?_⟩
  refine ⟨_, rfl, a, xs, rfl, ha, hx64, fun tx H1 g1 => ?_, fun nx H1 g1 => q1 (fun z => nx z.1) H1 g1⟩
  refine ⟨_, rfl, b, ys, rfl, g1.seqT hb, hy64, fun ty H2 g2 => ?_, fun ny H2 g2 => q1 (fun z => ny z.2) H2 (g1.trans g2)⟩
  have g12 := g1.trans g2
  refine ⟨_, rfl, _, rfl, a, b, _, _, rfl, .inr (g12.seqT ha), .inr (g12.seqT hb), fun el => ?_, fun nl => q2 tx ty (by simpa using nl) H2 g12⟩
  have el' : xs.length = ys.length := by simpa using el
  refine ⟨_, rfl, a, rfl, ⟨_, g12.seqT ha⟩, comp_tup (fun v => match v with | .int k => .int (ys.getD k.toNat 0) | v => v) (g12.seqT ha) (by rw [List.length_map]; omega) ?_ ?_⟩
  · intro i v H' Q' hv sm hq
    rw [List.getElem?_map] at hv
    cases e : xs[i]? with
    | none => rw [e] at hv; cases hv
    | some k =>
      rw [e] at hv
      cases hv
      have hk := tx.bd e
      have hat := tx.at_ el' e
      have ek : k = ((k.toNat : Nat) : Int) := by omega
      refine ⟨_, rfl, _, rfl, b, _, k, .int (ys.getD k.toNat 0), rfl, rfl, sm.seqT (g12.seqT hb), ?_, hq⟩
      have z : atI (ys.map V.int) ((k.toNat : Nat) : Int) = some (.int (ys.getD k.toNat 0)) := atI_nat (by rw [List.getElem?_map, hat]; rfl)
      rw [← ek] at z
      exact z
  · intro D H' sm hD
    refine ⟨D, _, rfl, .inl ⟨SqL.of hD, fun l hl => ?_⟩⟩
    refine q3 tx ty el' l _ (g12.trans (sm.trans (same_new hl _))) ?_
    rw [upd_same, List.map_map]
    unfold join
    rw [List.map_map]
    rfl
/-! ### turned_back -/
def spBack (K : PySem.W.Frag) (cB : Addr) : Sp := fun vs H Q E => ∃ (a : Addr) (xs : List Int), vs = [.ref a] ∧ SqT K H a (xs.map V.int) ∧ xs.length < 64 ∧ (IsT xs → ∀ r H', Same H H' → H' r = some (.tup ((inv xs).map V.int)) → Q (.ref r) H') ∧ (¬ IsT xs → ∀ H', Same H H' → E (.ref cB) none H')
theorem scBack : FnScope ["turning", "back", "start", "end"] ["turning"] (defScope sBack) := ⟨rfl, rfl, rfl, by decide +kernel, rfl, by decide +kernel, by decide +kernel⟩
theorem ok_back {cB gT : Addr} {gdT : FuncData} (F : Fun K "turned_back" "turned_back" sBack f fd) (B : Blt mg)
    (GT : FnOk P w K mg base (CXx P w) 2 gT gdT ["turning"] (spReqT K cB)) (bT : Binds K gdT ["turning"] []) (kT : PySem.W.keepIn K (.ref gT) = true) (mT : mg "require_turning" = some (.ref gT)) :
    FnOk P w K mg base (CXx P w) 3 f fd ["turning"] (spBack K cB) := by
  refine F.okX scBack (fun vs H Q E h => ?_) (fun X cdv A outer s H vs Q E eX hX hP hr h => ?_)
  · obtain ⟨a, xs, rfl, _⟩ := h
    rfl
  subst eX
  obtain ⟨a, xs, rfl, hS, h64, q1, q2⟩ := h
  refine ⟨_, pss_cons (ps_expr (pe_call GT hr rfl mT kT bT .nil hP (pa_cons (pv 0) pa_nil)))
      (pss_cons (ps_set (i := 1) scBack.nd rfl (Or.inl rfl) (pe_op op_rep (pe_lst (pa_cons pe_int pa_nil)) (pe_callB call_len_seq rfl B.len PySem.boot_len (pa_cons (pv 0) pa_nil))))
      (pss_cons (PS.nox (ps_for PassesOwn.never rfl (pi_enum rfl B.enm (pa_cons (pv 0) pa_nil)) (pg_tup rfl (pgs_cons (pg_name (i := 2) scBack.nd rfl (Or.inl rfl)) (pgs_cons (pg_name (i := 3) scBack.nd rfl (Or.inl rfl)) pgs_nil))) (pss_one (ps_asg (pv 2) (pg_sub (pv 1) (pv 3) set_list)))))
      (pss_one (ps_ret (pe_callTy call_tuple_of rfl B.tup PyProof.Rows.boot_tuple (pa_cons (pv 1) pa_nil)))))), ?_⟩
  refine ⟨_, rfl, a, xs, rfl, hS, h64, fun tx H1 g1 => ?_, fun nx H1 g1 => q2 nx H1 g1⟩
  refine ⟨by show 1 ≤ sizeLine; decide, fun p0 hp0 => ?_⟩
  have g2 := g1.trans (same_new hp0 (.lst [V.int 0]))
  refine ⟨_, rfl, a, _, rfl, .inr (g2.seqT hS), p0, _, _, rfl, rfl, upd_same, by omega, by rw [List.length_map]; omega, ?_, fun pR hpR => ?_⟩
  · rw [List.length_map, List.length_singleton, Int.toNat_natCast, Nat.one_mul]
    exact small_of (by omega)
  have e0 : (List.replicate (((xs.map V.int).length : Nat) : Int).toNat [V.int 0]).flatten = (backN xs 0).map V.int := by
    rw [List.length_map, Int.toNat_natCast, rep_ints]
    rfl
  rw [e0]
  have g3 := g2.trans (same_new hpR (.lst ((backN xs 0).map V.int)))
  have nR : H pR = none := g2.free hpR
  refine ⟨_, rfl, a, rfl, ⟨_, g3.seqT hS⟩, ?_⟩
  refine for_enum (xs := xs.map V.int) (fun i σ H2 => ∃ v2 v3 : Option V, σ = [some (.ref a), some (.ref pR), v2, v3] ∧ Same H H2 ∧ H2 pR = some (.lst ((backN xs i).map V.int))) ⟨none, none, rfl, g3, upd_same⟩ (fun i σ H2 _ ⟨_, _, _, sm, _⟩ => sm.seqT hS) ?_ ?_
  · rintro i x σ H2 p hx ⟨v2, v3, rfl, sm, hR⟩ hp
    rw [List.getElem?_map] at hx
    cases e : xs[i]? with
    | none => rw [e] at hx; cases hx
    | some k =>
      rw [e] at hx
      cases hx
      have hb := tx.bd e
      have hi : i < xs.length := (List.getElem?_eq_some_iff.mp e).1
      have ek : xs.getD i 0 = k := by
        have := getD_of (ys := xs) hi
        rw [e] at this
        exact (Option.some.inj this).symm
      have hpR2 : pR ≠ p := ne_of_none hR hp
      refine ⟨p, _, rfl, SqT.of upd_same, rfl, _, _, rfl, _, _, rfl, rfl, _, rfl, _, rfl, _, rfl, pR, _, _, _, rfl, rfl, by rw [upd_ne hpR2]; exact hR, ixN_at hb.1 (by rw [List.length_map, backN_length]; exact hb.2), ?_⟩
      refine ⟨_, _, rfl, fun b o q => ?_, ?_⟩
      · rw [upd_ne (ne_of_none q nR), upd_ne (ne_of_none (sm b o q) hp)]
        exact sm b o q
      · rw [upd_same, ← List.map_set]
        show _ = some (HO.lst (((backN xs i).set (xs.getD i 0).toNat (i : Int)).map V.int))
        rw [ek]
  · rintro σ H2 ⟨v2, v3, rfl, sm, hR⟩
    rw [List.length_map] at hR
    refine ⟨_, rfl, pR, _, rfl, .inl ⟨SqL.of hR, fun r hr' => ?_⟩⟩
    exact q1 tx r _ (sm.trans (same_new hr' _)) upd_same
/-! ### seated -/
def spSeat (K : PySem.W.Frag) (cB cO : Addr) : Sp := fun vs H Q E => ∃ (a b : Addr) (xs : List Int) (row : List V), vs = [.ref a, .ref b] ∧ SqT K H a (xs.map V.int) ∧ SqL K H b row ∧ xs.length < 64 ∧
  (¬ IsT xs → ∀ H', Same H H' → E (.ref cB) none H') ∧ (IsT xs → xs.length ≠ row.length → ∀ H', Same H H' → E (.ref cO) none H') ∧
  (IsT xs → xs.length = row.length → ∀ r H', Same H H' → H' r = some (.lst ((inv xs).map fun k => row.getD k.toNat .non)) → Q (.ref r) H')
theorem scSeat : FnScope ["turning", "row", "back"] ["turning", "row"] (defScope sSeat) := ⟨rfl, rfl, rfl, by decide +kernel, rfl, by decide +kernel, by decide +kernel⟩
theorem ok_seat {cB cO gK gL : Addr} {gdK gdL : FuncData} (F : Fun K "seated" "seated" sSeat f fd) (B : Blt mg)
    (GK : FnOk P w K mg base (CXx P w) 3 gK gdK ["turning"] (spBack K cB)) (bK : Binds K gdK ["turning"] []) (kK : PySem.W.keepIn K (.ref gK) = true) (mK : mg "turned_back" = some (.ref gK))
    (GL : FnOk P w K mg base (CXx P w) 1 gL gdL ["one", "two"] (spReqL K cO)) (bL : Binds K gdL ["one", "two"] []) (kL : PySem.W.keepIn K (.ref gL) = true) (mL : mg "require_one_length" = some (.ref gL)) :
    FnOk P w K mg base (CXx P w) 4 f fd ["turning", "row"] (spSeat K cB cO) := by
  refine F.okX scSeat (fun vs H Q E h => ?_) (fun X cdv A outer s H vs Q E eX hX hP hr h => ?_)
  · obtain ⟨a, b, xs, row, rfl, _⟩ := h
    rfl
  subst eX
  obtain ⟨a, b, xs, row, rfl, ha, hb, h64, q1, q2, q3⟩ := h
  refine ⟨_, pss_cons (ps_set (i := 2) scSeat.nd rfl (Or.inl rfl) (pe_call GK hr rfl mK kK bK .nil hP (pa_cons (pv 0) pa_nil)))
      (pss_cons (ps_expr (pe_call GL (hr.mono (by decide)) rfl mL kL bL .nil hP (pa_cons (pv 0) (pa_cons (pv 1) pa_nil))))
      (pss_one (ps_ret (pe_comp (cl := [("row", s.heap.objs.size + 1)]) (ys := ["row"]) (js := [1]) ⟨rfl, by decide +kernel, by decide +kernel, rfl, rfl, by intro p hp; rw [List.mem_singleton.mp hp]; rfl, rfl, by decide +kernel, rfl, by intro y hy; rw [List.mem_singleton.mp hy]; exact ⟨rfl, rfl⟩⟩
        rfl (pi_tup (pv 2)) (fun _ _ _ _ => pts_nil) (fun _ _ _ _ => pe_ix (ix_listK K) (pv 1) (pv 0) (fun _ _ => rfl)))))), ?_⟩
  refine ⟨_, rfl, a, xs, rfl, ha, h64, fun tx r H1 g1 hr1 => ?_, fun nx H1 g1 => q1 nx H1 g1⟩
  refine ⟨_, rfl, _, rfl, a, b, _, _, rfl, .inr (g1.seqT ha), .inl (g1.seq hb), fun el => ?_, fun nl => q2 tx (by rw [List.length_map] at nl; exact nl) H1 g1⟩
  rw [List.length_map] at el
  refine ⟨_, rfl, r, rfl, ⟨_, SqT.of hr1⟩, comp_tup (fun v => match v with | .int k => row.getD k.toNat .non | v => v) (SqT.of hr1) (by rw [List.length_map, inv_length]; omega) ?_ ?_⟩
  · intro i v H' Q' hv sm hq
    rw [List.getElem?_map] at hv
    cases e : (inv xs)[i]? with
    | none => rw [e] at hv; cases hv
    | some k =>
      rw [e] at hv
      cases hv
      have hi : i < (inv xs).length := (List.getElem?_eq_some_iff.mp e).1
      rw [inv_length] at hi
      obtain ⟨j, hj, _, ej⟩ := inv_at tx hi
      rw [e] at ej
      obtain rfl : k = (j : Int) := Option.some.inj ej
      refine ⟨_, rfl, _, rfl, b, _, _, row.getD j .non, rfl, rfl, sm.seq (g1.seq hb), ?_, hq⟩
      refine atI_nat ?_
      rw [List.getD_eq_getElem?_getD, List.getElem?_eq_getElem (by omega)]
      rfl
  · intro D H' sm hD
    refine q3 tx el D _ (g1.trans sm) ?_
    rw [hD, List.map_map]
    rfl
/-! ### ring_from -/
def spRF (K : PySem.W.Frag) : Sp := fun vs H Q _ => ∃ (a : Addr) (xs : List Int) (i : Int), vs = [.ref a, .int i] ∧ SqT K H a (xs.map V.int) ∧ IsT xs ∧ xs.length < 64 ∧ 0 ≤ i ∧ i < xs.length ∧ ∀ r H', H r = none → Same H H' → H' r = some (.lst ((ring xs i).map V.int)) → Q (.ref r) H'
theorem scRF : FnScope ["turning", "first", "ring", "seat"] ["turning", "first"] (defScope sRF) := ⟨rfl, rfl, rfl, by decide +kernel, rfl, by decide +kernel, by decide +kernel⟩
theorem ok_rf (F : Fun K "ring_from" "ring_from" sRF f fd) (B : Blt mg) :
    FnOk P w K mg base CX0 1 f fd ["turning", "first"] (spRF K) := by
  refine F.ok scRF (fun vs H Q E h => ?_) (fun cdv A outer s H vs Q E hr h => ?_)
  · obtain ⟨a, xs, i, rfl, _⟩ := h
    rfl
  obtain ⟨a, xs, i, rfl, hS, tx, h64, i0, i1, q⟩ := h
  have pp := (per_is tx i0 i1).pos
  have pl := per_le tx i0 i1
  refine ⟨_, (pss_cons (ps_set (i := 2) scRF.nd rfl (Or.inl rfl) (pe_lst (pa_cons (pv 1) pa_nil)))
      (pss_cons (ps_set (i := 3) scRF.nd rfl (Or.inl rfl) (pe_ix ix_tup (pv 0) (pv 1) (fun _ _ => rfl)))
      (pss_cons (ps_while PassesOwn.never (pt_cmpR op_ne (pv 3) (pv 1) (nomark _)) (pss_cons (ps_expr (pe_bm PySem.F.plainAttrs_list PySem.F.slot_list_append PySem.F.type_list_append mt_append (pv 2) (pa_cons (pv 3) pa_nil)))
      (pss_one (ps_set (i := 3) scRF.nd rfl (Or.inl rfl) (pe_ix ix_tup (pv 0) (pv 3) (fun _ _ => rfl))))))
      (pss_one (ps_ret (pv 2)))))), ?_⟩
  refine ⟨_, rfl, by show 1 ≤ sizeLine; decide, fun p hp => ?_⟩
  have g1 := same_new hp (.lst [V.int i])
  refine ⟨_, rfl, _, rfl, a, _, _, _, rfl, rfl, g1.seqT hS, atI_ints i0 i1, ?_⟩
  try dsimp only
  refine mid (fun σ' H' => σ' = [some (.ref a), some (.int i), some (.ref p), some (.int i)] ∧ Same H H' ∧ H' p = some (.lst ((ring xs i).map V.int))) ?_ ?_
  case refine_2 =>
    intro N hN
    refine ⟨fun m σ H2 => ∃ k : Nat, σ = [some (.ref a), some (.int i), some (.ref p), some (.int (orb xs i (k + 1)))] ∧ Same H H2 ∧ H2 p = some (.lst (((List.range (k + 1)).map (orb xs i)).map V.int)) ∧ k < per xs i ∧ m = per xs i - k, ⟨_, 0, rfl, g1, upd_same, pp, rfl⟩, ?_⟩
    rintro m σ H2 ⟨k, rfl, sm, hp2, hk, rfl⟩
    refine ⟨_, rfl, _, rfl, rfl, _, rfl, ?_⟩
    by_cases e : orb xs i (k + 1) = i
    · have ek : k + 1 = per xs i := by
        rcases Nat.lt_or_ge (k + 1) (per xs i) with z | z
        · exact absurd e ((per_is tx i0 i1).first _ (by omega) z)
        · omega
      rw [e, decide_eq_true rfl]
      refine iteF (hN _ _ ⟨rfl, sm, ?_⟩)
      rw [hp2, ek]
      rfl
    · have ek : k + 1 < per xs i := by
        rcases Nat.lt_or_ge (k + 1) (per xs i) with z | z
        · exact z
        · have z' : k + 1 = per xs i := by omega
          rw [z'] at e
          exact absurd (per_is tx i0 i1).back e
      rw [decide_eq_false (fun z => e (by injection z))]
      refine iteT ⟨fun σ' H' => σ' = [some (.ref a), some (.int i), some (.ref p), some (.int (orb xs i (k + 1 + 1)))] ∧ Same H H' ∧ H' p = some (.lst (((List.range (k + 1 + 1)).map (orb xs i)).map V.int)), fun σ' H' ⟨a1, a2, a3⟩ => ⟨_, by omega, k + 1, a1, a2, a3, ek, rfl⟩, ?_⟩
      have hb := orb_bd tx i0 i1 (k + 1)
      refine ⟨_, rfl, .inl ⟨rfl, _, SqL.of hp2⟩, _, rfl, p, _, _, rfl, rfl, hp2, ?_, ?_⟩
      · rw [List.length_map, List.length_map, List.length_range]
        exact small1000 (by omega)
      have s3 := sm.put hp (.lst ((((List.range (k + 1)).map (orb xs i)).map V.int) ++ [V.int (orb xs i (k + 1))]))
      refine ⟨_, rfl, _, rfl, a, _, _, _, rfl, rfl, s3.seqT hS, atI_ints hb.1 hb.2, ?_⟩
      refine ⟨rfl, s3, ?_⟩
      rw [upd_same, List.range_succ (n := k + 1), List.map_append, List.map_append]
      rfl
  rintro σ' H' ⟨rfl, sm, hp2⟩
  exact ⟨_, rfl, q p H' hp sm hp2⟩
/-! ### rings_of -/
def spRO (K : PySem.W.Frag) (cB : Addr) : Sp := fun vs H Q E => ∃ (a : Addr) (xs : List Int), vs = [.ref a] ∧ SqT K H a (xs.map V.int) ∧ xs.length < 64 ∧
  (IsT xs → ∀ (r : Addr) (rs : List Addr) (fs : List Int) (H' : Hp), H r = none → Same H H' → H' r = some (.lst (rs.map V.ref)) → Firsts xs xs.length fs → LL H' rs (fs.map (ring xs)) → Q (.ref r) H') ∧
  (¬ IsT xs → ∀ H', Same H H' → E (.ref cB) none H')
theorem scRO : FnScope ["turning", "rings", "told", "first", "end", "ring", "seat"] ["turning"] (defScope sRO) := ⟨rfl, rfl, rfl, by decide +kernel, rfl, by decide +kernel, by decide +kernel⟩
theorem ok_ro {cB gT gR : Addr} {dT dR : FuncData} (F : Fun K "rings_of" "rings_of" sRO f fd) (B : Blt mg)
    (GT : FnOk P w K mg base (CXx P w) 2 gT dT ["turning"] (spReqT K cB)) (bT : Binds K dT ["turning"] []) (kT : PySem.W.keepIn K (.ref gT) = true) (mT : mg "require_turning" = some (.ref gT))
    (GR : FnOk P w K mg base CX0 1 gR dR ["turning", "first"] (spRF K)) (bR : Binds K dR ["turning", "first"] []) (kR : PySem.W.keepIn K (.ref gR) = true) (mR : mg "ring_from" = some (.ref gR)) :
    FnOk P w K mg base (CXx P w) 3 f fd ["turning"] (spRO K cB) := by
  refine F.okX scRO (fun vs H Q E h => ?_) (fun X cdv A outer s H vs Q E eX hX hP hr h => ?_)
  · obtain ⟨a, xs, rfl, _⟩ := h
    rfl
  subst eX
  have hr1 : Room 1 _ := hr.mono (by decide)
  have hr2 : Room 2 _ := hr
  have hu := hu_of hr
  obtain ⟨a, xs, rfl, hS, h64, q1, q2⟩ := h
  refine ⟨_, (pss_cons (ps_expr (pe_call GT hr2 rfl mT kT bT .nil hP (pa_cons (pv 0) pa_nil)))
      (pss_cons (ps_set (i := 1) scRO.nd rfl (Or.inl rfl) (pe_lst pa_nil))
      (pss_cons (ps_set (i := 2) scRO.nd rfl (Or.inl rfl) pe_dnewK)
      (pss_cons (PS.nox (ps_for PassesOwn.never rfl (pi_enum rfl B.enm (pa_cons (pv 0) pa_nil)) (pg_tup rfl (pgs_cons (pg_name (i := 3) scRO.nd rfl (Or.inl rfl)) (pgs_cons (pg_name (i := 4) scRO.nd rfl (Or.inl rfl)) pgs_nil))) (pss_one (ps_if (PW.pt (pw_and (pt_cmpR op_ne (pv 4) (pv 3) (nomark _)) (pw_and1 (pt_cmp (pc_dnotin hu (pv 3) (pv 2)))))) (pss_cons (ps_set (i := 5) scRO.nd rfl (Or.inl rfl) (pe_call GR hr1 rfl mR kR bR .nil pass0 (pa_cons (pv 0) (pa_cons (pv 3) pa_nil))))
      (pss_cons (ps_expr (pe_bm PySem.F.plainAttrs_list PySem.F.slot_list_append PySem.F.type_list_append mt_append (pv 1) (pa_cons (pv 5) pa_nil)))
      (pss_one (ps_for PassesOwn.never rfl (pi_list (pv 5)) (pg_name (i := 6) scRO.nd rfl (Or.inl rfl)) (pss_one (ps_dput hu (pv 2) (pv 6) pe_bl rfl)))))) pss_nil))))
      (pss_one (ps_ret (pv 1))))))), ?_⟩
  refine ⟨_, rfl, a, xs, rfl, hS, h64, fun tx H1 g1 => ?_, fun nx H1 g1 => q2 nx H1 g1⟩
  refine ⟨by show 0 ≤ sizeLine; decide, fun pR hpR => ?_⟩
  have nR : H pR = none := g1.free hpR
  have g2 := g1.trans (same_new hpR (.lst []))
  refine fun d hd => ?_
  have nd : H d = none := g2.free hd
  have hRd : pR ≠ d := ne_of_none (upd_same (H := H1) (a := pR) (o := .lst [])) hd
  have g3 := g2.trans (same_new hd (.dK []))
  refine ⟨_, rfl, a, rfl, ⟨_, g3.seqT hS⟩, ?_⟩
  refine for_enum (xs := xs.map V.int) (fun i σ H2 => ∃ (rs : List Addr) (fs : List Int) (kvs : List (Key × V)) (v3 v4 v5 v6 : Option V), σ = [some (.ref a), some (.ref pR), some (.ref d), v3, v4, v5, v6] ∧ Same H H2 ∧ H2 pR = some (.lst (rs.map V.ref)) ∧ H2 d = some (.dK kvs) ∧ Firsts xs i fs ∧ LL H2 rs (fs.map (ring xs)) ∧
    (∀ s : Int, (valV kvs (Sum.inl s)).isSome = true ↔ ∃ f ∈ fs, On xs f s) ∧ kvs.length ≤ 64 * i ∧ (∀ r ∈ rs, r ≠ pR) ∧ rs.length ≤ i)
    ⟨[], [], [], none, none, none, none, rfl, g3, by rw [upd_ne hRd]; exact upd_same, upd_same, firsts_nil xs, .nil, fun s => ⟨fun z => (by cases z), fun ⟨f, hf, _⟩ => (by cases hf)⟩, Nat.zero_le _, fun r hr => (by cases hr), Nat.zero_le _⟩ (fun i σ H2 _ ⟨_, _, _, _, _, _, _, _, sm, _⟩ => sm.seqT hS) ?_ ?_
  · rintro i x σ H2 p hx ⟨rs, fs, kvs, v3, v4, v5, v6, rfl, sm, hR, hD, F, LLr, hK, hl, nrp, rl⟩ hp
    rw [List.getElem?_map] at hx
    cases e : xs[i]? with
    | none => rw [e] at hx; cases hx
    | some k =>
      rw [e] at hx
      cases hx
      have hb := tx.bd e
      have hi : i < xs.length := (List.getElem?_eq_some_iff.mp e).1
      have ek : nx xs (i : Int) = k := by
        have := getD_of (ys := xs) hi
        rw [e] at this
        show xs.getD ((i : Int)).toNat 0 = k
        rw [Int.toNat_natCast]
        exact (Option.some.inj this).symm
      have hpR2 : pR ≠ p := ne_of_none hR hp
      have hpd2 : d ≠ p := ne_of_none hD hp
      have sm2 := sm.trans (same_new hp (.tup [V.int (i : Int), V.int k]))
      have hR2 : (upd H2 p (.tup [V.int (i : Int), V.int k])) pR = some (.lst (rs.map V.ref)) := by rw [upd_ne hpR2]; exact hR
      have hD2 : (upd H2 p (.tup [V.int (i : Int), V.int k])) d = some (.dK kvs) := by rw [upd_ne hpd2]; exact hD
      have LL2 := LLr.same (same_new hp (.tup [V.int (i : Int), V.int k]))
      refine ⟨p, _, rfl, SqT.of upd_same, rfl, _, _, rfl, _, _, rfl, rfl, ?_⟩
      generalize upd H2 p (.tup [V.int (i : Int), V.int k]) = H3 at sm2 hR2 hD2 LL2 ⊢
      refine ⟨_, rfl, _, rfl, rfl, _, rfl, ?_⟩
      by_cases eki : k = (i : Int)
      · rw [eki, decide_eq_true rfl]
        refine iteF (iteF ?_)
        exact ⟨rs, fs, kvs, _, _, _, _, rfl, sm2, hR2, hD2, firsts_skip F (.inl (by rw [ek, eki])), LL2, hK, by omega, nrp, by omega⟩
      rw [decide_eq_false (fun z => eki (by injection z))]
      refine iteT ?_
      refine ⟨_, rfl, _, rfl, d, _, rfl, DGet.k (k := Sum.inl (i : Int)) hD2, _, rfl, ?_⟩
      have hKi := hK i
      cases ev : valV kvs (Sum.inl (i : Int)) with
      | some v =>
        rw [ev] at hKi
        refine iteF ?_
        exact ⟨rs, fs, kvs, _, _, _, _, rfl, sm2, hR2, hD2, firsts_skip F (.inr (hKi.mp rfl)), LL2, hK, by omega, nrp, by omega⟩
      | none =>
        rw [ev] at hKi
        have hno : ¬ ∃ f ∈ fs, On xs f i := fun z => by have := hKi.mpr z; cases this
        have hne : nx xs (i : Int) ≠ i := by rw [ek]; exact eki
        have i0 : (0 : Int) ≤ i := by omega
        have i1 : (i : Int) < xs.length := by omega
        have F2 := firsts_add tx F hi hne hno
        have pl := per_le tx i0 i1
        refine iteT ?_
        refine ⟨_, rfl, _, rfl, a, xs, (i : Int), rfl, sm2.seqT hS, tx, h64, i0, i1, fun r H4 nr s4 hr4 => ?_⟩
        have hR4 := s4 _ _ hR2
        have hD4 := s4 _ _ hD2
        have hrR : r ≠ pR := fun z => by rw [z, hR2] at nr; cases nr
        have hrd : r ≠ d := fun z => by rw [z, hD2] at nr; cases nr
        have sm4 := sm2.trans s4
        refine ⟨_, rfl, .inl ⟨rfl, _, SqL.of hR4⟩, _, rfl, pR, _, _, rfl, rfl, hR4, by rw [List.length_map]; exact small1000 (by omega), ?_⟩
        have sm5 := sm4.put nR (.lst (rs.map V.ref ++ [V.ref r]))
        have hR5 : (upd H4 pR (.lst (rs.map V.ref ++ [V.ref r]))) pR = some (.lst ((rs ++ [r]).map V.ref)) := by rw [upd_same, List.map_append]; rfl
        have hD5 : (upd H4 pR (.lst (rs.map V.ref ++ [V.ref r]))) d = some (.dK kvs) := by rw [upd_ne hRd.symm]; exact hD4
        have hr5 : (upd H4 pR (.lst (rs.map V.ref ++ [V.ref r]))) r = some (.lst ((ring xs i).map V.int)) := by rw [upd_ne hrR]; exact hr4
        have LL5 : LL (upd H4 pR (.lst (rs.map V.ref ++ [V.ref r]))) (rs ++ [r]) ((fs ++ [(i : Int)]).map (ring xs)) := by
          rw [List.map_append]
          exact ((LL2.same s4).put nrp).app (.cons hr5 .nil)
        generalize upd H4 pR (.lst (rs.map V.ref ++ [V.ref r])) = H5 at sm5 hR5 hD5 hr5 LL5 ⊢
        refine ⟨_, rfl, r, rfl, ⟨_, SqL.of hr5⟩, ?_⟩
        refine for_list (xs := (ring xs i).map V.int) (fun j σ H6 => ∃ (kv : List (Key × V)) (v6 : Option V), σ = [some (.ref a), some (.ref pR), some (.ref d), some (.int i), some (.int k), some (.ref r), v6] ∧ Same H H6 ∧ H6 pR = some (.lst ((rs ++ [r]).map V.ref)) ∧ H6 d = some (.dK kv) ∧ LL H6 (rs ++ [r]) ((fs ++ [(i : Int)]).map (ring xs)) ∧
          (∀ s : Int, (valV kv (Sum.inl s)).isSome = true ↔ (∃ f ∈ fs, On xs f s) ∨ ∃ m, m < j ∧ orb xs i m = s) ∧ kv.length ≤ 64 * i + j ∧ H6 r = some (.lst ((ring xs i).map V.int)))
          ⟨kvs, _, rfl, sm5, hR5, hD5, LL5, fun s => ⟨fun z => .inl ((hK s).mp z), fun z => (hK s).mpr (z.elim id fun ⟨m, hm, _⟩ => by omega)⟩, by omega, hr5⟩ (fun j σ H6 _ ⟨_, _, _, _, _, _, _, _, _, h6⟩ => SqL.of h6) ?_ ?_
        · rintro j x σ H6 hx ⟨kv, v6, rfl, sm6, hR6, hD6, LL6, hK6, hl6, hr6⟩
          rw [List.getElem?_map] at hx
          have hj : j < per xs i := by
            rcases Nat.lt_or_ge j (per xs i) with z | z
            · exact z
            · rw [List.getElem?_eq_none (by rw [ring_length]; exact z)] at hx
              cases hx
          rw [ring_get hj] at hx
          cases hx
          refine ⟨_, rfl, _, rfl, d, _, rfl, DPut.k (k := Sum.inl (orb xs i j)) hD6 (by rw [sizeLine_eq]; omega), ?_⟩
          have hrd' : r ≠ d := hrd
          refine ⟨_, _, rfl, sm6.put nd _, by rw [upd_ne hRd]; exact hR6, upd_same, LL6.put (fun z hz => ?_), fun s => ?_, ?_, by rw [upd_ne hrd']; exact hr6⟩
          · intro ez
            subst ez
            obtain ⟨l, el⟩ := LL6.mem hz
            rw [hD6] at el
            cases el
          · rw [valV_put]
            by_cases es : (Sum.inl s : Key) = Sum.inl (orb xs i j)
            · rw [if_pos es]
              have es' : s = orb xs i j := by injection es
              exact ⟨fun _ => .inr ⟨j, by omega, es'.symm⟩, fun _ => rfl⟩
            · rw [if_neg es, hK6 s]
              have es' : orb xs i j ≠ s := fun z => es (by rw [z])
              constructor
              · rintro (z | ⟨m, hm, e⟩)
                · exact .inl z
                · exact .inr ⟨m, by omega, e⟩
              · rintro (z | ⟨m, hm, e⟩)
                · exact .inl z
                · refine .inr ⟨m, ?_, e⟩
                  have : m ≠ j := fun z => es' (by rw [← z]; exact e)
                  omega
          · have := length_putK kv (Sum.inl (orb xs i j)) (V.bl true)
            omega
        · rintro σ H6 ⟨kv, v6, rfl, sm6, hR6, hD6, LL6, hK6, hl6, hr6⟩
          rw [List.length_map, ring_length] at hK6 hl6
          refine ⟨rs ++ [r], fs ++ [(i : Int)], kv, _, _, _, _, rfl, sm6, hR6, hD6, F2, LL6, fun s => ?_, by omega, fun z hz => ?_, by rw [List.length_append, List.length_singleton]; omega⟩
          · rw [hK6 s]
            constructor
            · rintro (⟨f, hf, o⟩ | ⟨m, hm, e⟩)
              · exact ⟨f, List.mem_append_left _ hf, o⟩
              · exact ⟨_, List.mem_append_right _ (List.mem_singleton.mpr rfl), m, e⟩
            · rintro ⟨f, hf, o⟩
              rcases List.mem_append.mp hf with hf | hf
              · exact .inl ⟨f, hf, o⟩
              · rw [List.mem_singleton.mp hf] at o
                obtain ⟨m, e⟩ := o
                exact .inr ⟨m % per xs i, Nat.mod_lt _ (per_is tx i0 i1).pos, by rw [← orb_mod tx i0 i1]; exact e⟩
          · rcases List.mem_append.mp hz with hz | hz
            · exact nrp z hz
            · rw [List.mem_singleton.mp hz]; exact hrR
  · rintro σ H2 ⟨rs, fs, kvs, v3, v4, v5, v6, rfl, sm, hR, hD, F, LLr, hK, hl, nrp, rl⟩
    rw [List.length_map] at F
    exact ⟨_, rfl, q1 tx pR rs fs H2 nR sm hR F LLr⟩
/-! ### greatest_divisor -/
def spGD : Sp := fun vs H Q _ => ∃ (m n : Nat), vs = [.int m, .int n] ∧ Q (.int (Nat.gcd m n : Nat)) H
theorem scGD : FnScope ["one", "two", "left"] ["one", "two"] (defScope sGD) := ⟨rfl, rfl, rfl, by decide +kernel, rfl, by decide +kernel, by decide +kernel⟩
theorem ok_gd (F : Fun K "greatest_divisor" "greatest_divisor" sGD f fd) (B : Blt mg) :
    FnOk P w K mg base CX0 1 f fd ["one", "two"] spGD := by
  refine F.ok scGD (fun vs H Q E h => ?_) (fun cdv A outer s H vs Q E hr h => ?_)
  · obtain ⟨m, n, rfl, _⟩ := h
    rfl
  obtain ⟨m, n, rfl, q⟩ := h
  refine ⟨_, (pss_cons (ps_while PassesOwn.never (pt_cmpR op_gt (pv 1) pe_int (nomark _)) (pss_cons (ps_set (i := 2) scGD.nd rfl (Or.inl rfl) (pe_op op_mod (pv 0) (pv 1)))
      (pss_cons (ps_set (i := 0) scGD.nd rfl (Or.inl rfl) (pv 1))
      (pss_one (ps_set (i := 1) scGD.nd rfl (Or.inl rfl) (pv 2))))))
      (pss_one (ps_ret (pv 0)))), ?_⟩
  try dsimp only
  refine mid (fun σ' H' => ∃ v1 v2 : Option V, σ' = [some (.int (Nat.gcd m n : Nat)), v1, v2] ∧ H = H') ?_ ?_
  case refine_2 =>
    intro N hN
    refine ⟨fun k σ H2 => ∃ (x y : Nat) (v2 : Option V), σ = [some (.int x), some (.int y), v2] ∧ H = H2 ∧ Nat.gcd x y = Nat.gcd m n ∧ k = y, ⟨_, m, n, none, rfl, rfl, rfl, rfl⟩, ?_⟩
    rintro k σ H2 ⟨x, y, v2, rfl, rfl, hg, rfl⟩
    refine ⟨_, rfl, _, _, rfl, rfl, _, rfl, ?_⟩
    by_cases c : (0 : Int) < (k : Int)
    · refine iteTn c ⟨fun σ' H' => ∃ v2 : Option V, σ' = [some (.int k), some (.int (x % k : Nat)), v2] ∧ H = H', fun σ' H' ⟨v2, a1, a2⟩ => ⟨_, Nat.mod_lt x (by omega), k, x % k, v2, a1, a2, ?_, rfl⟩, ?_⟩
      · rw [← hg, Nat.gcd_comm, ← Nat.gcd_rec, Nat.gcd_comm]
      · exact ⟨_, rfl, _, rfl, _, _, rfl, rfl, c, _, rfl, _, rfl, _, rfl, rfl⟩
    · refine iteFn c (hN _ _ ⟨some (.int k), v2, ?_, rfl⟩)
      have e : k = 0 := by omega
      subst e
      rw [← hg, Nat.gcd_zero_right]
  rintro σ' H' ⟨v1, v2, rfl, rfl⟩
  exact ⟨_, rfl, q⟩
/-! ### times_round -/
def spTR (K : PySem.W.Frag) (cB : Addr) : Sp := fun vs H Q E => ∃ (a : Addr) (xs : List Int), vs = [.ref a] ∧ SqT K H a (xs.map V.int) ∧ xs.length < 64 ∧
  (IsT xs → ∀ (fs : List Int) (H' : Hp), Same H H' → Firsts xs xs.length fs → Q (.int (lcms (fs.map (per xs)) : Nat)) H') ∧
  (¬ IsT xs → ∀ H', Same H H' → E (.ref cB) none H')
theorem scTR : FnScope ["turning", "times", "ring"] ["turning"] (defScope sTR) := ⟨rfl, rfl, rfl, by decide +kernel, rfl, by decide +kernel, by decide +kernel⟩
theorem ok_tr {cB gO gD : Addr} {dO dD : FuncData} (F : Fun K "times_round" "times_round" sTR f fd) (B : Blt mg)
    (GO : FnOk P w K mg base (CXx P w) 3 gO dO ["turning"] (spRO K cB)) (bO : Binds K dO ["turning"] []) (kO : PySem.W.keepIn K (.ref gO) = true) (mO : mg "rings_of" = some (.ref gO))
    (GD : FnOk P w K mg base CX0 1 gD dD ["one", "two"] spGD) (bD : Binds K dD ["one", "two"] []) (kD : PySem.W.keepIn K (.ref gD) = true) (mD : mg "greatest_divisor" = some (.ref gD)) :
    FnOk P w K mg base (CXx P w) 4 f fd ["turning"] (spTR K cB) := by
  refine F.okX scTR (fun vs H Q E h => ?_) (fun X cdv A outer s H vs Q E eX hX hP hr h => ?_)
  · obtain ⟨a, xs, rfl, _⟩ := h
    rfl
  subst eX
  have hr1 : Room 1 _ := hr.mono (by decide)
  have hr2 : Room 2 _ := hr.mono (by decide)
  have hr3 : Room 3 _ := hr
  obtain ⟨a, xs, rfl, hS, h64, q1, q2⟩ := h
  refine ⟨_, (pss_cons (ps_set (i := 1) scTR.nd rfl (Or.inl rfl) pe_int)
      (pss_cons (PS.xs (ps_for (XS.own ⟨rfl, rfl⟩) rfl (pi_list (pe_call GO hr3 rfl mO kO bO .nil XS.pass (pa_cons (pv 0) pa_nil))) (pg_name (i := 2) scTR.nd rfl (Or.inl rfl)) (pss_one (ps_set (i := 1) scTR.nd rfl (Or.inl rfl) (pe_op op_mul (pe_op op_fdiv (pv 1) (pe_call GD hr1 rfl mD kD bD .nil pass0 (pa_cons (pv 1) (pa_cons (pe_callB call_len_seq rfl B.len PySem.boot_len (pa_cons (pv 2) pa_nil)) pa_nil)))) (pe_callB call_len_seq rfl B.len PySem.boot_len (pa_cons (pv 2) pa_nil)))))))
      (pss_one (ps_ret (pv 1))))), ?_⟩
  refine ⟨_, rfl, a, xs, rfl, hS, h64, fun tx r rs fs H1 nr s1 hr1 F L1 => ?_, fun nt H1 s1 => q2 nt H1 s1⟩
  refine ⟨r, rfl, ⟨_, SqL.of hr1⟩, ?_⟩
  have ll := L1.length
  rw [List.length_map] at ll
  refine for_list (xs := rs.map V.ref) (fun i σ H2 => ∃ v2 : Option V, σ = [some (.ref a), some (.int (lcms ((fs.take i).map (per xs)) : Nat)), v2] ∧ H1 = H2) ⟨none, rfl, rfl⟩ (fun i σ H2 _ ⟨_, _, z⟩ => z ▸ SqL.of hr1) ?_ ?_
  · rintro i x σ H2 hx ⟨v2, rfl, rfl⟩
    rw [List.getElem?_map] at hx
    cases e : rs[i]? with
    | none => rw [e] at hx; cases hx
    | some ri =>
      rw [e] at hx
      cases hx
      obtain ⟨l, hl, hri⟩ := L1.get e
      rw [List.getElem?_map] at hl
      cases ef : fs[i]? with
      | none => rw [ef] at hl; cases hl
      | some fi =>
        rw [ef] at hl
        cases hl
        have hfi := F.bd fi (List.mem_of_getElem? ef)
        have pp := (per_is tx hfi.1 hfi.2.2).pos
        have pl := per_le tx hfi.1 hfi.2.2
        have lr : ((ring xs fi).map V.int).length = per xs fi := by rw [List.length_map, ring_length]
        generalize hm : lcms ((fs.take i).map (per xs)) = m
        have gp : 0 < Nat.gcd m (per xs fi) := Nat.gcd_pos_of_pos_right _ pp
        have gl : Nat.gcd m (per xs fi) ≤ per xs fi := Nat.gcd_le_right _ pp
        refine ⟨_, rfl, _, rfl, _, rfl, ri, _, rfl, .inl (SqL.of hri), m, per xs fi, by rw [lr]; rfl, _, _, rfl, rfl, ⟨by omega, by omega⟩, _, rfl, ri, _, rfl, .inl (SqL.of hri), _, _, rfl, rfl, .inr ⟨by rw [lr]; omega, by rw [lr]; omega⟩, ?_⟩
        refine ⟨some (.ref ri), ?_, rfl⟩
        have e2 : lcms ((fs.take (i + 1)).map (per xs)) = Nat.lcm m (per xs fi) := by
          rw [List.take_succ, ef, List.map_append]
          show lcms (_ ++ [per xs fi]) = _
          rw [lcms_snoc, hm]
        have e3 : ((m : Int) / (Nat.gcd m (per xs fi) : Nat) * ((((ring xs fi).map V.int).length : Nat) : Int)) = ((lcms ((fs.take (i + 1)).map (per xs)) : Nat) : Int) := by
          rw [e2, lr, ← lcm_div]
          rfl
        show [some (V.ref a), some (V.int _), some (V.ref ri)] = _
        rw [e3]
  · rintro σ H2 ⟨v2, rfl, rfl⟩
    rw [List.length_map, ll, List.take_length]
    exact ⟨_, rfl, q1 tx fs H1 s1 F⟩
/-! ### rank_of -/
theorem erIdx_map {α β : Type} (f : α → β) : ∀ (l : List α) (i : Nat), (l.map f).eraseIdx i = (l.eraseIdx i).map f
  | [], _ => rfl
  | _ :: _, 0 => rfl
  | a :: r, i + 1 => congrArg (f a :: ·) (erIdx_map f r i)
def spRank (K : PySem.W.Frag) (cB : Addr) : Sp := fun vs H Q E => ∃ (a : Addr) (xs : List Int), vs = [.ref a] ∧ SqT K H a (xs.map V.int) ∧ xs.length < 64 ∧
  (IsT xs → ∀ H' : Hp, Same H H' → Q (.int (rank xs : Nat)) H') ∧ (¬ IsT xs → ∀ H', Same H H' → E (.ref cB) none H')
theorem scRank : FnScope ["turning", "rank", "free", "seat", "place"] ["turning"] (defScope sRank) := ⟨rfl, rfl, rfl, by decide +kernel, rfl, by decide +kernel, by decide +kernel⟩
theorem ok_rank {cB gT gR : Addr} {dT dR : FuncData} (F : Fun K "rank_of" "rank_of" sRank f fd) (B : Blt mg)
    (GT : FnOk P w K mg base (CXx P w) 2 gT dT ["turning"] (spReqT K cB)) (bT : Binds K dT ["turning"] []) (kT : PySem.W.keepIn K (.ref gT) = true) (mT : mg "require_turning" = some (.ref gT))
    (GR : FnOk P w K mg base CX0 1 gR dR ["count"] spRest) (bR : Binds K dR ["count"] []) (kR : PySem.W.keepIn K (.ref gR) = true) (mR : mg "resting" = some (.ref gR)) :
    FnOk P w K mg base (CXx P w) 3 f fd ["turning"] (spRank K cB) := by
  refine F.okX scRank (fun vs H Q E h => ?_) (fun X cdv A outer s H vs Q E eX hX hP hr h => ?_)
  · obtain ⟨a, xs, rfl, _⟩ := h
    rfl
  subst eX
  have hr1 : Room 1 _ := hr.mono (by decide)
  have hr2 : Room 2 _ := hr
  obtain ⟨a, xs, rfl, hS, h64, q1, q2⟩ := h
  refine ⟨_, (pss_cons (ps_expr (pe_call GT hr2 rfl mT kT bT .nil hP (pa_cons (pv 0) pa_nil)))
      (pss_cons (ps_set (i := 1) scRank.nd rfl (Or.inl rfl) pe_int)
      (pss_cons (ps_set (i := 2) scRank.nd rfl (Or.inl rfl) (pe_callTy call_list_of rfl B.list PyProof.Rows.boot_list (pa_cons (pe_call GR hr1 rfl mR kR bR .nil pass0 (pa_cons (pe_callB call_len_seq rfl B.len PySem.boot_len (pa_cons (pv 0) pa_nil)) pa_nil)) pa_nil)))
      (pss_cons (PS.nox (ps_for PassesOwn.never rfl (pi_tup (pv 0)) (pg_name (i := 3) scRank.nd rfl (Or.inl rfl)) (pss_cons (ps_set (i := 4) scRank.nd rfl (Or.inl rfl) (pe_bm PySem.F.plainAttrs_list PySem.F.slot_list_index PySem.F.type_list_index mt_index (pv 2) (pa_cons (pv 3) pa_nil)))
      (pss_cons (ps_set (i := 1) scRank.nd rfl (Or.inl rfl) (pe_op op_add (pe_op op_mul (pv 1) (pe_callB call_len_seq rfl B.len PySem.boot_len (pa_cons (pv 2) pa_nil))) (pv 4)))
      (pss_one (ps_expr (pe_bm PySem.F.plainAttrs_list PySem.F.slot_list_pop PySem.F.type_list_pop mt_popAt (pv 2) (pa_cons (pv 4) pa_nil))))))))
      (pss_one (ps_ret (pv 1))))))), ?_⟩
  refine ⟨_, rfl, a, xs, rfl, hS, h64, fun tx H1 g1 => ?_, fun nx H1 g1 => q2 nx H1 g1⟩
  refine ⟨_, rfl, a, _, rfl, .inr (g1.seqT hS), xs.length, by rw [List.length_map]; rfl, by omega, fun r2 H2 g2 hr2 => ?_⟩
  refine ⟨r2, _, rfl, .inr (SqT.of hr2), fun pF hpF => ?_⟩
  have nF : H pF = none := (g1.trans g2).free hpF
  have g3 := (g1.trans g2).trans (same_new hpF (.lst ((ups 0 xs.length).map V.int)))
  refine ⟨_, rfl, a, rfl, ⟨_, g3.seqT hS⟩, ?_⟩
  refine for_tup (xs := xs.map V.int) (fun i σ H4 => ∃ (fr : List Int) (r : Nat) (v3 v4 : Option V), σ = [some (.ref a), some (.int r), some (.ref pF), v3, v4] ∧ Same H H4 ∧ H4 pF = some (.lst (fr.map V.int)) ∧ (xs.drop i).Perm fr ∧ fr.Pairwise (· < ·) ∧ valP r (les (xs.drop i)) = rank xs)
    ⟨_, 0, none, none, rfl, g3, upd_same, by rw [List.drop_zero]; exact tx, ups_lt 0 _, by rw [List.drop_zero]; rfl⟩ (fun i σ H4 _ ⟨_, _, _, _, _, sm, _⟩ => sm.seqT hS) ?_ ?_
  · rintro i x σ H4 hx ⟨fr, r, v3, v4, rfl, sm, hF, hp, hs, hv⟩
    rw [List.getElem?_map] at hx
    cases e : xs[i]? with
    | none => rw [e] at hx; cases hx
    | some k =>
    rw [e] at hx
    cases hx
    have hi : i < xs.length := (List.getElem?_eq_some_iff.mp e).1
    have ed : xs.drop i = k :: xs.drop (i + 1) := by rw [List.drop_eq_getElem_cons hi, (List.getElem?_eq_some_iff.mp e).2]
    rw [ed] at hp hv
    have hm : k ∈ fr := hp.subset (List.mem_cons_self ..)
    have lf : fr.length = (xs.drop (i + 1)).length + 1 := by have := hp.length_eq; rw [List.length_cons] at this; omega
    have lz : (xs.drop (i + 1)).length < 64 := by rw [List.length_drop]; omega
    have hpl := pls_les _ _ hp hs
    rw [pls, les] at hpl
    injection hpl with hp1 hp2
    have hix : fr.idxOf k < fr.length := List.idxOf_lt_length_iff.mpr hm
    refine ⟨_, rfl, .inl ⟨rfl, _, SqL.of hF⟩, _, rfl, pF, fr, k, rfl, rfl, SqL.of hF, hm, by omega, ?_⟩
    refine ⟨_, rfl, _, rfl, pF, _, rfl, .inl (SqL.of hF), _, _, rfl, rfl, .inr ⟨by rw [List.length_map]; omega, by rw [List.length_map]; omega⟩, _, rfl, _, _, rfl, rfl, ?_⟩
    obtain ⟨z1, z2⟩ := erase_idx hm
    refine ⟨_, rfl, .inl ⟨rfl, _, SqL.of hF⟩, _, rfl, pF, _, _, fr.idxOf k, .int k, rfl, rfl, hF, by omega, by omega, (ixN_seq (ixN_at (by omega) (by rw [List.length_map]; omega))).1.trans (by rw [Int.toNat_natCast]), ?_, ?_⟩
    · rw [List.getElem?_map, getD_of hix, z1]
      rfl
    · refine ⟨fr.erase k, r * fr.length + fr.idxOf k, some (.int k), some (.int (fr.idxOf k : Nat)), ?_, sm.put nF _, ?_, perm_tail hp, hs.sublist List.erase_sublist, ?_⟩
      · have ez : (r : Int) * (((fr.map V.int).length : Nat) : Int) + ((fr.idxOf k : Nat) : Int) = ((r * fr.length + fr.idxOf k : Nat) : Int) := by rw [List.length_map]; push_cast; rfl
        show [_, some (V.int _), _, _, _] = _
        rw [ez]
      · rw [upd_same, erIdx_map, z2]
      · rw [← hv, les, valP, ← hp1, les_length, lf]
  · rintro σ H4 ⟨fr, r, v3, v4, rfl, sm, hF, hp, hs, hv⟩
    have ez : xs.drop (xs.map V.int).length = [] := by rw [List.length_map, List.drop_length]
    rw [ez] at hv
    have er : r = rank xs := hv
    subst er
    exact ⟨_, rfl, q1 tx _ sm⟩
/-! ### require_turns -/
def spRT (K : PySem.W.Frag) (cB cO : Addr) : Sp := fun vs H Q E => ∃ (pt a : Addr) (ts : List Addr) (us : List (List Int)) (g : List Int), vs = [.ref pt, .ref a] ∧ H pt = some (.lst (ts.map V.ref)) ∧ TL H ts us ∧ SqT K H a (g.map V.int) ∧ g.length < 64 ∧ (∀ u ∈ us, u.length < 64) ∧
  ((¬ IsT g ∨ ∃ u ∈ us, ¬ IsT u) → ∀ H', Same H H' → E (.ref cB) none H') ∧ (IsT g → (∀ u ∈ us, IsT u) → (∃ u ∈ us, u.length ≠ g.length) → ∀ H', Same H H' → E (.ref cO) none H') ∧
  (IsT g → (∀ u ∈ us, IsT u) → (∀ u ∈ us, u.length = g.length) → ∀ H', Same H H' → Q .non H')
theorem scRT : FnScope ["turns", "goal", "turn"] ["turns", "goal"] (defScope sRT) := ⟨rfl, rfl, rfl, by decide +kernel, rfl, by decide +kernel, by decide +kernel⟩
theorem ok_rt {cB cO gT gL : Addr} {dT dL : FuncData} (F : Fun K "require_turns" "require_turns" sRT f fd) (B : Blt mg)
    (GT : FnOk P w K mg base (CXx P w) 2 gT dT ["turning"] (spReqT K cB)) (bT : Binds K dT ["turning"] []) (kT : PySem.W.keepIn K (.ref gT) = true) (mT : mg "require_turning" = some (.ref gT))
    (GL : FnOk P w K mg base (CXx P w) 1 gL dL ["one", "two"] (spReqL K cO)) (bL : Binds K dL ["one", "two"] []) (kL : PySem.W.keepIn K (.ref gL) = true) (mL : mg "require_one_length" = some (.ref gL)) :
    FnOk P w K mg base (CXx P w) 3 f fd ["turns", "goal"] (spRT K cB cO) := by
  refine F.okX scRT (fun vs H Q E h => ?_) (fun X cdv A outer s H vs Q E eX hX hP hr h => ?_)
  · obtain ⟨pt, a, ts, us, g, rfl, _⟩ := h
    rfl
  subst eX
  have hr1 : Room 1 _ := hr.mono (by decide)
  have hr2 : Room 2 _ := hr
  obtain ⟨pt, a, ts, us, g, rfl, ht, T0, hg, lg, lu, q1, q2, q3⟩ := h
  have ll := T0.length
  refine ⟨_, (pss_cons (ps_expr (pe_call GT hr2 rfl mT kT bT .nil hP (pa_cons (pv 1) pa_nil)))
      (pss_cons (PS.xs (ps_for (XS.own ⟨rfl, rfl⟩) rfl (pi_list (pv 0)) (pg_name (i := 2) scRT.nd rfl (Or.inl rfl)) (pss_one (ps_expr (pe_call GT hr2 rfl mT kT bT .nil XS.pass (pa_cons (pv 2) pa_nil))))))
      (pss_one (PS.xs (ps_for (XS.own ⟨rfl, rfl⟩) rfl (pi_list (pv 0)) (pg_name (i := 2) scRT.nd rfl (Or.inl rfl)) (pss_one (ps_expr (pe_call GL hr1 rfl mL kL bL .nil XS.pass (pa_cons (pv 2) (pa_cons (pv 1) pa_nil)))))))))), ?_⟩
  refine ⟨_, rfl, a, g, rfl, hg, lg, fun tg H1 g1 => ?_, fun ng H1 g1 => q1 (.inl ng) H1 g1⟩
  try dsimp only
  refine mid (fun σ' H' => ∃ v2 : Option V, σ' = [some (.ref pt), some (.ref a), v2] ∧ Same H H' ∧ ∀ u ∈ us, IsT u) ?_ ?_
  case refine_2 =>
    intro N hN
    refine ⟨_, rfl, pt, rfl, ⟨_, SqL.of (g1 _ _ ht)⟩, ?_⟩
    refine for_list (xs := ts.map V.ref) (fun i σ H2 => ∃ v2 : Option V, σ = [some (.ref pt), some (.ref a), v2] ∧ Same H H2 ∧ ∀ u ∈ us.take i, IsT u) ⟨none, rfl, g1, fun u hu => (by cases hu)⟩ (fun i σ H2 _ ⟨_, _, sm, _⟩ => SqL.of (sm _ _ ht)) ?_ ?_
    · rintro i x σ H2 hx ⟨v2, rfl, sm, hi⟩
      rw [List.getElem?_map] at hx
      cases e : ts[i]? with
      | none => rw [e] at hx; cases hx
      | some t =>
      rw [e] at hx
      cases hx
      obtain ⟨u, eu, hu⟩ := T0.get e
      have mu : u ∈ us := List.mem_of_getElem? eu
      refine ⟨_, rfl, t, u, rfl, SqT.of (sm _ _ hu), lu u mu, fun tu H3 g3 => ?_, fun nu H3 g3 => q1 (.inr ⟨u, mu, nu⟩) _ (sm.trans g3)⟩
      refine ⟨_, rfl, sm.trans g3, fun z hz => ?_⟩
      rw [List.take_succ, eu] at hz
      rcases List.mem_append.mp hz with y | y
      · exact hi z y
      · have : z = u := by simpa using y
        rw [this]; exact tu
    · rintro σ H2 ⟨v2, rfl, sm, hi⟩
      rw [List.length_map, ll, List.take_length] at hi
      exact hN _ _ ⟨v2, rfl, sm, hi⟩
  rintro σ' H2 ⟨v2, rfl, s2, hu⟩
  refine ⟨_, rfl, pt, rfl, ⟨_, SqL.of (s2 _ _ ht)⟩, ?_⟩
  refine for_list (xs := ts.map V.ref) (fun i σ H3 => ∃ v2 : Option V, σ = [some (.ref pt), some (.ref a), v2] ∧ H2 = H3 ∧ ∀ u ∈ us.take i, u.length = g.length) ⟨v2, rfl, rfl, fun u hu => (by cases hu)⟩ (fun i σ H3 _ ⟨_, _, z, _⟩ => z ▸ SqL.of (s2 _ _ ht)) ?_ ?_
  · rintro i x σ H3 hx ⟨v2, rfl, rfl, hi⟩
    rw [List.getElem?_map] at hx
    cases e : ts[i]? with
    | none => rw [e] at hx; cases hx
    | some t =>
    rw [e] at hx
    cases hx
    obtain ⟨u, eu, hut⟩ := T0.get e
    have mu : u ∈ us := List.mem_of_getElem? eu
    refine ⟨_, rfl, _, rfl, t, a, _, _, rfl, .inr (SqT.of (s2 _ _ hut)), .inr (s2.seqT hg), fun el => ?_, fun nl => q2 tg hu ⟨u, mu, by rw [List.length_map, List.length_map] at nl; exact nl⟩ _ s2⟩
    rw [List.length_map, List.length_map] at el
    refine ⟨_, rfl, rfl, fun z hz => ?_⟩
    rw [List.take_succ, eu] at hz
    rcases List.mem_append.mp hz with y | y
    · exact hi z y
    · have : z = u := by simpa using y
      rw [this]; exact el
  · rintro σ H3 ⟨v2, rfl, rfl, hi⟩
    rw [List.length_map, ll, List.take_length] at hi
    exact q3 tg hu hi _ s2
/-! ### lengthened -/
def spLn (K : PySem.W.Frag) : Sp := fun vs H Q _ => ∃ (d pe pt : Addr) (kvs : List (List Key × V)) (W : WL) (es ts : List Addr) (Es us : List (List Int)) (n L : Nat), vs = [.ref d, .ref pe, .ref pt] ∧ H d = some (.dT kvs) ∧ DW H kvs W ∧ H pe = some (.lst (es.map V.ref)) ∧ TL H es Es ∧ H pt = some (.lst (ts.map V.ref)) ∧ TL H ts us ∧ n ≤ 5 ∧ Turns n us ∧ Lvl us n L W Es ∧
  ∀ (r : Addr) (ns : List Addr) (N : WL) (kvs' : List (List Key × V)) (H' : Hp), SameB d H H' → H r = none → H' d = some (.dT kvs') → DW H' kvs' (W ++ N) → H' r = some (.lst (ns.map V.ref)) → TL H' ns (N.map (·.1)) → Add us n L W Es N → Q (.ref r) H'
theorem add_count {us : List (List Int)} {n : Nat} (T : Turns n us) (hn : n ≤ 5) {W : WL} (hw : ∀ p ∈ W, Valid us p.2 ∧ led us n p.2 = p.1) (nd : (W.map (·.1)).Nodup) : W.length ≤ 120 := by
  have := turn_count nd fun k hk => by
    obtain ⟨p, hp, rfl⟩ := List.mem_map.mp hk
    obtain ⟨a, b⟩ := hw p hp
    rw [← b]
    exact led_isT T p.2 a
  rw [List.length_map] at this
  have := fact_five hn
  omega
theorem scLn : FnScope ["words", "ends", "turns", "newer", "end", "place", "turn", "further"] ["words", "ends", "turns"] (defScope sLn) := ⟨rfl, rfl, rfl, by decide +kernel, rfl, by decide +kernel, by decide +kernel⟩
theorem ok_ln {cB cO gJ : Addr} {dJ : FuncData} (F : Fun K "lengthened" "lengthened" sLn f fd) (B : Blt mg)
    (GJ : FnOk P w K mg base (CXx P w) 3 gJ dJ ["one", "two"] (spJoin K cB cO)) (bJ : Binds K dJ ["one", "two"] []) (kJ : PySem.W.keepIn K (.ref gJ) = true) (mJ : mg "joined" = some (.ref gJ)) :
    FnOk P w K mg base (CXx P w) 4 f fd ["words", "ends", "turns"] (spLn K) := by
  refine F.okX scLn (fun vs H Q E h => ?_) (fun X cdv A outer s H vs Q E eX hX hP hr h => ?_)
  · obtain ⟨d, pe, pt, kvs, W, es, ts, Es, us, n, L, rfl, _⟩ := h
    rfl
  subst eX
  have hr1 : Room 1 _ := hr.mono (by decide)
  have hr2 : Room 2 _ := hr.mono (by decide)
  have hr3 : Room 3 _ := hr
  have hu := hu_of hr
  obtain ⟨d, pe, pt, kvs, W, es, ts, Es, us, n, L, rfl, hd, D0, he, TE0, ht, TT0, hn, T, LV, q⟩ := h
  have le := TE0.length
  have lt := TT0.length
  have wW : ∀ p ∈ W, Valid us p.2 ∧ led us n p.2 = p.1 := fun p hp => ⟨(LV.word p hp).1, (LV.word p hp).2.1⟩
  have cW : W.length ≤ 120 := add_count T hn wW LV.nd
  refine ⟨_, (pss_cons (ps_set (i := 3) scLn.nd rfl (Or.inl rfl) (pe_lst pa_nil))
      (pss_cons (PS.xs (ps_for (XS.own ⟨rfl, rfl⟩) rfl (pi_list (pv 1)) (pg_name (i := 4) scLn.nd rfl (Or.inl rfl)) (pss_one (ps_for (XS.own ⟨rfl, rfl⟩) rfl (pi_enumL rfl B.enm (pa_cons (pv 2) pa_nil)) (pg_tup rfl (pgs_cons (pg_name (i := 5) scLn.nd rfl (Or.inl rfl)) (pgs_cons (pg_name (i := 6) scLn.nd rfl (Or.inl rfl)) pgs_nil))) (pss_cons (ps_set (i := 7) scLn.nd rfl (Or.inl rfl) (pe_call GJ hr3 rfl mJ kJ bJ .nil XS.pass (pa_cons (pv 4) (pa_cons (pv 6) pa_nil))))
      (pss_one (ps_if (pt_cmp (pc_dnotin hu (pv 7) (pv 0))) (pss_cons (ps_dput hu (pv 0) (pv 7) (pe_op op_cat (pe_dget hu (pv 0) (pv 4) (fun _ _ => rfl)) (pe_lst (pa_cons (pv 5) pa_nil))) rfl)
      (pss_one (ps_expr (pe_bm PySem.F.plainAttrs_list PySem.F.slot_list_append PySem.F.type_list_append mt_append (pv 3) (pa_cons (pv 7) pa_nil))))) pss_nil)))))))
      (pss_one (ps_ret (pv 3))))), ?_⟩
  refine ⟨by show 0 ≤ sizeLine; decide, fun pN hpN => ?_⟩
  have g1 := same_new hpN (.lst [])
  have ndN : d ≠ pN := ne_of_none hd hpN
  refine ⟨_, rfl, pe, rfl, ⟨_, SqL.of (g1 _ _ he)⟩, ?_⟩
  have hpe : pe ≠ d := fun z => by rw [z, hd] at he; cases he
  have hpt : pt ≠ d := fun z => by rw [z, hd] at ht; cases ht
  refine for_list (xs := es.map V.ref) (fun i σ H2 => ∃ (kv : List (List Key × V)) (N : WL) (ns : List Addr) (v4 v5 v6 v7 : Option V), σ = [some (.ref d), some (.ref pe), some (.ref pt), some (.ref pN), v4, v5, v6, v7] ∧ SameB d H H2 ∧ H2 d = some (.dT kv) ∧ DW H2 kv (W ++ N) ∧ H2 pN = some (.lst (ns.map V.ref)) ∧ TL H2 ns (N.map (·.1)) ∧
    (∀ p ∈ N, Valid us p.2 ∧ led us n p.2 = p.1 ∧ p.2.length = L + 1) ∧ ((W ++ N).map (·.1)).Nodup ∧ (∀ e ∈ Es.take i, ∀ k, k < us.length → ∃ w, (step us e k, w) ∈ W ++ N) ∧ (∀ x ∈ kv, x.2 ≠ V.ref pN))
    ⟨kvs, [], [], none, none, none, none, rfl, g1.toB, g1 _ _ hd, by rw [List.append_nil]; exact D0.same g1, upd_same, .nil, fun p hp => (by cases hp), by rw [List.append_nil]; exact LV.nd, fun e he => (by cases he), D0.off (fun l z => by rw [hpN] at z; cases z)⟩
    (fun i σ H2 _ ⟨_, _, _, _, _, _, _, _, sm, _⟩ => SqL.of (sm _ _ hpe he)) ?_ ?_
  · rintro i x σ H2 hx ⟨kv, N, ns, v4, v5, v6, v7, rfl, sm, hD, DD, hN, TN, wN, nd, cl, nr⟩
    rw [List.getElem?_map] at hx
    cases ei : es[i]? with
    | none => rw [ei] at hx; cases hx
    | some ea =>
    rw [ei] at hx
    cases hx
    obtain ⟨e, ee, hea⟩ := TE0.get ei
    have me : e ∈ Es := List.mem_of_getElem? ee
    have hed : ea ≠ d := fun z => by rw [z, hd] at hea; cases hea
    obtain ⟨w0, hw0, lw0⟩ := (LV.ends e).mp me
    obtain ⟨va0, le0⟩ := wW _ hw0
    have te : IsT e ∧ e.length = n := by
      have := led_isT T w0 va0
      have e2 : led us n w0 = e := le0
      rwa [e2] at this
    refine ⟨_, rfl, pt, rfl, ⟨_, SqL.of (sm _ _ hpt ht)⟩, ?_⟩
    refine for_enumL (xs := ts.map V.ref) (fun j σ H3 => ∃ (kv : List (List Key × V)) (N : WL) (ns : List Addr) (v5 v6 v7 : Option V), σ = [some (.ref d), some (.ref pe), some (.ref pt), some (.ref pN), some (.ref ea), v5, v6, v7] ∧ SameB d H H3 ∧ H3 d = some (.dT kv) ∧ DW H3 kv (W ++ N) ∧ H3 pN = some (.lst (ns.map V.ref)) ∧ TL H3 ns (N.map (·.1)) ∧
      (∀ p ∈ N, Valid us p.2 ∧ led us n p.2 = p.1 ∧ p.2.length = L + 1) ∧ ((W ++ N).map (·.1)).Nodup ∧ (∀ e ∈ Es.take i, ∀ k, k < us.length → ∃ w, (step us e k, w) ∈ W ++ N) ∧ (∀ x ∈ kv, x.2 ≠ V.ref pN) ∧ (∀ k, k < j → ∃ w, (step us e k, w) ∈ W ++ N))
      ⟨kv, N, ns, v5, v6, v7, rfl, sm, hD, DD, hN, TN, wN, nd, cl, nr, fun k hk => by omega⟩ (fun j σ H3 _ ⟨_, _, _, _, _, _, _, sm3, _⟩ => SqL.of (sm3 _ _ hpt ht)) ?_ ?_
    · rintro j x σ H3 p hx ⟨kv, N, ns, v5, v6, v7, rfl, sm3, hD3, DD3, hN3, TN3, wN3, nd3, cl3, nr3, cj⟩ hp
      rw [List.getElem?_map] at hx
      cases ej : ts[j]? with
      | none => rw [ej] at hx; cases hx
      | some ta =>
      rw [ej] at hx
      cases hx
      obtain ⟨u, eu, hta⟩ := TT0.get ej
      have htd : ta ≠ d := fun z => by rw [z, hd] at hta; cases hta
      have hj : j < us.length := (List.getElem?_eq_some_iff.mp eu).1
      have mu : u ∈ us := List.mem_of_getElem? eu
      have egd : us.getD j [] = u := by rw [List.getD_eq_getElem?_getD, eu]; rfl
      have tu := T.is u mu
      have lu := T.len u mu
      have gp := same_new hp (.tup [V.int (j : Nat), V.ref ta])
      have hea3 := gp _ _ (sm3 _ _ hed hea)
      have hta3 := gp _ _ (sm3 _ _ htd hta)
      refine ⟨p, _, rfl, SqT.of upd_same, rfl, _, _, rfl, _, _, rfl, rfl, ?_⟩
      refine ⟨_, rfl, _, rfl, ea, ta, e, u, rfl, SqT.of hea3, SqT.of hta3, by omega, by omega, fun nn => absurd ⟨te.1, tu⟩ nn, fun _ _ ne => absurd (by omega) ne, fun _ _ _ r H4 g4 hr4 => ?_⟩
      have g34 := gp.trans g4
      have hD4 := g34 _ _ hD3
      have hN4 := g34 _ _ hN3
      have DD4 := DD3.same g34
      have TN4 := TN3.same g34
      have hr4' : H4 r = some (.tup ((kk (step us e j)).map kV)) := by
        rw [kk_map]
        show _ = some (HO.tup ((join e (us.getD j [])).map V.int))
        rw [egd]
        exact hr4
      have sm4 : SameB d H H4 := sm3.trans g34.toB
      have wA : ∀ p ∈ W ++ N, Valid us p.2 ∧ led us n p.2 = p.1 := fun p hp => by
        rcases List.mem_append.mp hp with z | z
        · exact wW p z
        · exact ⟨(wN3 p z).1, (wN3 p z).2.1⟩
      have cA := add_count T hn wA nd3
      have lkv : kv.length ≤ 120 := by rw [DD3.length]; exact cA
      generalize hj4 : step us e j = x4 at hr4'
      refine ⟨_, rfl, _, rfl, d, _, rfl, DGet.t hD4 hr4', _, rfl, ?_⟩
      cases ev : valV kv (kk x4) with
      | some v =>
        obtain ⟨pw, w, _, hw, _⟩ := DD4.look ev
        refine iteF ⟨kv, N, ns, _, _, _, rfl, sm4, hD4, DD4, hN4, TN4, wN3, nd3, cl3, nr3, fun k hk => ?_⟩
        by_cases ek : k = j
        · subst ek
          rw [hj4]
          exact ⟨w, hw⟩
        · exact cj k (by omega)
      | none =>
        refine iteT ?_
        have hnew := DD4.none ev
        -- words[end] + [place]
        obtain ⟨v0, hv0⟩ := DD4.some (k := e) (w := w0) (List.mem_append_left _ hw0)
        obtain ⟨p0, w0', rfl, hw0', hp0⟩ := DD4.look hv0
        have ew : w0' = w0 := key_one nd3 hw0' (List.mem_append_left _ hw0)
        subst ew
        have hea4 : H4 ea = some (.tup ((kk e).map kV)) := by rw [kk_map]; exact g4 _ _ hea3
        refine ⟨_, rfl, _, rfl, d, _, rfl, by rw [← hv0]; exact DGet.t hD4 hea4, _, rfl, by show 1 ≤ sizeLine; decide, fun pL hpL => ?_⟩
        have gL := same_new hpL (.lst [V.int (j : Nat)])
        refine ⟨p0, pL, _, _, rfl, rfl, gL _ _ hp0, upd_same, by rw [List.length_map, List.length_singleton]; exact small_of (by have := LV.much.1; omega), fun pW hpW => ?_⟩
        have gW := gL.trans (same_new hpW (.lst (w0'.map natV ++ [V.int (j : Nat)])))
        have hDW := gW _ _ hD4
        have hNW := gW _ _ hN4
        have ndW : d ≠ pW := ne_of_none (gL _ _ hD4) hpW
        have nNW : pN ≠ pW := ne_of_none (gL _ _ hN4) hpW
        refine ⟨_, rfl, _, rfl, d, _, rfl, DPut.t hDW (gW _ _ hr4') (small1000 (by omega)), ?_⟩
        rw [putK_new _ ev]
        have DDW : DW (upd (upd H4 pL (.lst [V.int (j : Nat)])) pW (.lst (w0'.map natV ++ [V.int (j : Nat)]))) (kv ++ [(kk x4, V.ref pW)]) (W ++ (N ++ [(x4, w0' ++ [j])])) := by
          rw [← List.append_assoc]
          refine (DD4.same gW).app (.cons ?_ .nil)
          rw [upd_same, List.map_append]
          rfl
        refine ⟨_, rfl, .inl ⟨rfl, _, SqL.of (by rw [upd_ne ndN.symm]; exact hNW)⟩, _, rfl, pN, _, _, rfl, rfl, by rw [upd_ne ndN.symm]; exact hNW, by rw [List.length_map]; exact small1000 (by have := TN4.length; rw [List.length_map] at this; rw [List.length_append] at cA; omega), ?_⟩
        have nrN : ∀ x ∈ kv ++ [(kk x4, V.ref pW)], x.2 ≠ V.ref pN := fun x hx => by
          rcases List.mem_append.mp hx with z | z
          · exact nr3 x z
          · rw [List.mem_singleton.mp z]
            intro y
            injection y with y
            exact nNW y.symm
        refine ⟨kv ++ [(kk x4, V.ref pW)], N ++ [(x4, w0' ++ [j])], ns ++ [r], _, _, _, rfl, ((sm4.trans gW.toB).putD _).put hpN _, by rw [upd_ne ndN]; exact upd_same, (DDW.put (fun x hx => DDW.off (fun l z => by rw [hDW] at z; cases z) x hx)).put nrN, by rw [upd_same, List.map_append]; rfl, ?_, fun p hp => ?_, ?_, fun f hf k hk => ?_, nrN, fun k hk => ?_⟩
        · rw [List.map_append]
          have hrW := gW _ _ hr4'
          rw [kk_map] at hrW
          have up : ∀ b xs, (upd (upd H4 pL (.lst [V.int (j : Nat)])) pW (.lst (w0'.map natV ++ [V.int (j : Nat)]))) b = some (.tup xs) → (upd (upd (upd (upd H4 pL (.lst [V.int (j : Nat)])) pW (.lst (w0'.map natV ++ [V.int (j : Nat)]))) d (.dT (kv ++ [(kk x4, V.ref pW)]))) pN (.lst (ns.map V.ref ++ [V.ref r]))) b = some (.tup xs) := fun b xs z => by
            rw [upd_ne (fun y => by rw [y, hNW] at z; cases z), upd_ne (fun y => by rw [y, hDW] at z; cases z)]
            exact z
          exact ((TN4.same gW).mono up).app (.cons (up _ _ hrW) .nil)
        · rcases List.mem_append.mp hp with z | z
          · exact wN3 p z
          · rw [List.mem_singleton.mp z]
            refine ⟨valid_snoc.mpr ⟨va0, hj⟩, ?_, by show (w0' ++ [j]).length = L + 1; rw [List.length_append, lw0]; rfl⟩
            show led us n (w0' ++ [j]) = x4
            rw [led_snoc, ← hj4]
            have e2 : led us n w0' = e := le0
            rw [e2]
        · rw [← List.append_assoc, List.map_append]
          refine List.nodup_append.mpr ⟨nd3, List.nodup_cons.mpr ⟨List.not_mem_nil, List.nodup_nil⟩, fun a ha b hb => ?_⟩
          rw [List.mem_singleton.mp hb]
          rintro rfl
          exact hnew ha
        · obtain ⟨w, hw⟩ := cl3 f hf k hk
          exact ⟨w, by rw [← List.append_assoc]; exact List.mem_append_left _ hw⟩
        · by_cases ek : k = j
          · subst ek
            rw [hj4]
            exact ⟨_, by rw [← List.append_assoc]; exact List.mem_append_right _ (List.mem_singleton.mpr rfl)⟩
          · obtain ⟨w, hw⟩ := cj k (by omega)
            exact ⟨w, by rw [← List.append_assoc]; exact List.mem_append_left _ hw⟩
    · rintro σ H3 ⟨kv, N, ns, v5, v6, v7, rfl, sm3, hD3, DD3, hN3, TN3, wN3, nd3, cl3, nr3, cj⟩
      rw [List.length_map, lt] at cj
      refine ⟨kv, N, ns, _, _, _, _, rfl, sm3, hD3, DD3, hN3, TN3, wN3, nd3, fun f hf k hk => ?_, nr3⟩
      rw [List.take_succ, ee] at hf
      rcases List.mem_append.mp hf with z | z
      · exact cl3 f z k hk
      · have : f = e := by simpa using z
        rw [this]
        exact cj k hk
  · rintro σ H2 ⟨kv, N, ns, v4, v5, v6, v7, rfl, sm, hD, DD, hN, TN, wN, nd, cl, nr⟩
    rw [List.length_map, le, List.take_length] at cl
    exact ⟨_, rfl, q pN ns N kv H2 sm hpN hD DD hN TN ⟨wN, nd, cl⟩⟩
/-! ### shortest_words -/
def spSW (K : PySem.W.Frag) : Sp := fun vs H Q _ => ∃ (pt a : Addr) (ts : List Addr) (us : List (List Int)) (g : List Int) (n : Nat), vs = [.ref pt, .ref a] ∧ H pt = some (.lst (ts.map V.ref)) ∧ TL H ts us ∧ H a = some (.tup (g.map V.int)) ∧ g.length = n ∧ n ≤ 5 ∧ Turns n us ∧
  ∀ (d : Addr) (kvs : List (List Key × V)) (W : WL) (L : Nat) (Es : List (List Int)) (H' : Hp), Same H H' → H' d = some (.dT kvs) → DW H' kvs W → Lvl us n L W Es → (g ∈ W.map (·.1) ∨ Es = []) → Q (.ref d) H'
theorem scSW : FnScope ["turns", "goal", "rest", "words", "ends"] ["turns", "goal"] (defScope sSW) := ⟨rfl, rfl, rfl, by decide +kernel, rfl, by decide +kernel, by decide +kernel⟩
theorem ok_sw {gR gN : Addr} {dR dN : FuncData} (F : Fun K "shortest_words" "shortest_words" sSW f fd) (B : Blt mg)
    (GR : FnOk P w K mg base CX0 1 gR dR ["count"] spRest) (bR : Binds K dR ["count"] []) (kR : PySem.W.keepIn K (.ref gR) = true) (mR : mg "resting" = some (.ref gR))
    (GN : FnOk P w K mg base (CXx P w) 4 gN dN ["words", "ends", "turns"] (spLn K)) (bN : Binds K dN ["words", "ends", "turns"] []) (kN : PySem.W.keepIn K (.ref gN) = true) (mN : mg "lengthened" = some (.ref gN)) :
    FnOk P w K mg base (CXx P w) 5 f fd ["turns", "goal"] (spSW K) := by
  refine F.okX scSW (fun vs H Q E h => ?_) (fun X cdv A outer s H vs Q E eX hX hP hr h => ?_)
  · obtain ⟨pt, a, ts, us, g, n, rfl, _⟩ := h
    rfl
  subst eX
  have hr1 : Room 1 _ := hr.mono (by decide)
  have hr2 : Room 2 _ := hr.mono (by decide)
  have hr3 : Room 3 _ := hr.mono (by decide)
  have hr4 : Room 4 _ := hr
  have hu := hu_of hr
  obtain ⟨pt, a, ts, us, g, n, rfl, ht, TT0, ha, lg, hn, T, q⟩ := h
  refine ⟨_, (pss_cons (ps_set (i := 2) scSW.nd rfl (Or.inl rfl) (pe_call GR hr1 rfl mR kR bR .nil pass0 (pa_cons (pe_callB call_len_seq rfl B.len PySem.boot_len (pa_cons (pv 1) pa_nil)) pa_nil)))
      (pss_cons (ps_set (i := 3) scSW.nd rfl (Or.inl rfl) (pe_dispT1 hu (pv 2) (pe_lst pa_nil)))
      (pss_cons (ps_set (i := 4) scSW.nd rfl (Or.inl rfl) (pe_lst (pa_cons (pv 2) pa_nil)))
      (pss_cons (PS.xs (ps_while (XS.own ⟨rfl, rfl⟩) (PW.pt (pw_and (pt_cmp (pc_dnotin hu (pv 1) (pv 3))) (pw_and1 (pt_cmpR op_gt (pe_callB call_len_seq rfl B.len PySem.boot_len (pa_cons (pv 4) pa_nil)) pe_int (nomark _))))) (pss_one (ps_set (i := 4) scSW.nd rfl (Or.inl rfl) (pe_call GN hr4 rfl mN kN bN .nil XS.pass (pa_cons (pv 3) (pa_cons (pv 4) (pa_cons (pv 0) pa_nil))))))))
      (pss_one (ps_ret (pv 3))))))), ?_⟩
  refine ⟨_, rfl, a, _, rfl, .inr (SqT.of ha), n, by rw [List.length_map, lg]; rfl, by omega, fun r1 H1 g1 hr1 => ?_⟩
  refine fun d hd => ?_
  have nd : H d = none := g1.free hd
  have gd := same_new hd (.dT [])
  refine ⟨_, rfl, by show 0 ≤ sizeLine; decide, fun pw hpw => ?_⟩
  have gw := gd.trans (same_new hpw (.lst []))
  have ndw : d ≠ pw := ne_of_none (upd_same (H := H1) (a := d) (o := .dT [])) hpw
  refine ⟨r1, kk (ups 0 n), rfl, by rw [upd_ne ndw]; exact upd_same, by rw [kk_map]; exact gw _ _ hr1, ?_⟩
  have s2 : Same H (upd (upd (upd H1 d (.dT [])) pw (.lst [])) d (.dT [(kk (ups 0 n), V.ref pw)])) := (g1.trans gw).put nd _
  have hd2 : (upd (upd (upd H1 d (.dT [])) pw (.lst [])) d (.dT [(kk (ups 0 n), V.ref pw)])) d = some (.dT [(kk (ups 0 n), V.ref pw)]) := upd_same
  have hw2 : (upd (upd (upd H1 d (.dT [])) pw (.lst [])) d (.dT [(kk (ups 0 n), V.ref pw)])) pw = some (.lst (([] : List Nat).map natV)) := by rw [upd_ne ndw.symm]; exact upd_same
  have hr2 : (upd (upd (upd H1 d (.dT [])) pw (.lst [])) d (.dT [(kk (ups 0 n), V.ref pw)])) r1 = some (.tup ((ups 0 n).map V.int)) := by
    rw [upd_ne (ne_of_none hr1 hd)]
    exact gw _ _ hr1
  generalize upd (upd (upd H1 d (.dT [])) pw (.lst [])) d (.dT [(kk (ups 0 n), V.ref pw)]) = H2 at s2 hd2 hw2 hr2 ⊢
  refine ⟨_, rfl, by show 1 ≤ sizeLine; decide, fun pe hpe => ?_⟩
  have ge := same_new hpe (.lst [V.ref r1])
  try dsimp only
  refine mid (fun σ' H' => ∃ (kvs : List (List Key × V)) (W : WL) (L : Nat) (Es : List (List Int)) (v4 : Option V), σ' = [some (.ref pt), some (.ref a), some (.ref r1), some (.ref d), v4] ∧ Same H H' ∧ H' d = some (.dT kvs) ∧ DW H' kvs W ∧ Lvl us n L W Es ∧ (g ∈ W.map (·.1) ∨ Es = [])) ?_ ?_
  case refine_2 =>
    intro N hN
    refine ⟨fun m σ H3 => ∃ (kvs : List (List Key × V)) (W : WL) (L : Nat) (Es : List (List Int)) (p : Addr) (es : List Addr), σ = [some (.ref pt), some (.ref a), some (.ref r1), some (.ref d), some (.ref p)] ∧ Same H H3 ∧ H3 d = some (.dT kvs) ∧ DW H3 kvs W ∧ H3 p = some (.lst (es.map V.ref)) ∧ TL H3 es Es ∧ Lvl us n L W Es ∧ m = 2 * (121 - W.length) + (if Es = [] then 0 else 1),
      ⟨_, _, _, 0, [ups 0 n], pe, [r1], rfl, s2.trans ge, ge _ _ hd2, .cons (ge _ _ hw2) .nil, upd_same, .cons (ge _ _ hr2) .nil, lvl0 us n, rfl⟩, ?_⟩
    rintro m σ H3 ⟨kvs, W, L, Es, p, es, rfl, s3, hd3, D3, hp3, TE3, LV, rfl⟩
    have cW : W.length ≤ 120 := by have := LV.count T; have := fact_five hn; omega
    have le := TE3.length
    have ha3 : H3 a = some (.tup ((kk g).map kV)) := by rw [kk_map]; exact s3 _ _ ha
    refine ⟨_, rfl, _, rfl, d, _, rfl, DGet.t hd3 ha3, _, rfl, ?_⟩
    cases ev : valV kvs (kk g) with
    | some v =>
      obtain ⟨_, w, _, hw, _⟩ := D3.look ev
      exact iteF (iteF (hN _ _ ⟨kvs, W, L, Es, _, rfl, s3, hd3, D3, LV, .inl (List.mem_map.mpr ⟨_, hw, rfl⟩)⟩))
    | none =>
      refine iteT ?_
      refine ⟨_, rfl, p, _, rfl, .inl (SqL.of hp3), _, _, rfl, rfl, _, rfl, ?_⟩
      by_cases c : (0 : Int) < (((es.map V.ref).length : Nat) : Int)
      case neg =>
        rw [List.length_map] at c
        have : Es = [] := List.length_eq_zero_iff.mp (by omega)
        subst this
        exact iteFn (by rw [List.length_map]; exact c) (hN _ _ ⟨kvs, W, L, [], _, rfl, s3, hd3, D3, LV, .inr rfl⟩)
      have hE : Es ≠ [] := fun z => by rw [z] at le; rw [List.length_map, le] at c; exact absurd c (by decide)
      refine iteTn c ⟨fun σ' H' => ∃ (kvs : List (List Key × V)) (W' : WL) (L : Nat) (Es : List (List Int)) (p : Addr) (es : List Addr), σ' = [some (.ref pt), some (.ref a), some (.ref r1), some (.ref d), some (.ref p)] ∧ Same H H' ∧ H' d = some (.dT kvs) ∧ DW H' kvs W' ∧ H' p = some (.lst (es.map V.ref)) ∧ TL H' es Es ∧ Lvl us n L W' Es ∧ 2 * (121 - W'.length) + (if Es = [] then 0 else 1) < 2 * (121 - W.length) + 1,
        fun σ' H' ⟨b1, b2, b3, b4, b5, b6, b7, b8, b9, b10, b11, b12, b13, b14⟩ => ⟨_, by rw [if_neg hE]; exact b14, b1, b2, b3, b4, b5, b6, b7, b8, b9, b10, b11, b12, b13, rfl⟩, ?_⟩
      refine ⟨_, rfl, _, rfl, _, rfl, d, p, pt, kvs, W, es, ts, Es, us, n, L, rfl, hd3, D3, hp3, TE3, s3 _ _ ht, TT0.same s3, hn, T, LV, fun r ns N' kvs' H4 sm4 nr hd4 D4 hr4 TN4 A4 => ?_⟩
      have V4 := lvl_next LV A4 hE
      have c4 : (W ++ N').length ≤ 120 := by have := V4.count T; have := fact_five hn; omega
      rw [List.length_append] at c4
      refine ⟨kvs', W ++ N', L + 1, N'.map (·.1), r, ns, rfl, fun b o e => sm4 b o (fun z => by rw [z, nd] at e; cases e) (s3 b o e), hd4, D4, hr4, TN4, V4, ?_⟩
      rw [List.length_append]
      cases N' with
      | nil => simp
      | cons y ys =>
        rw [if_neg (by simp)]
        rw [List.length_cons] at c4 ⊢
        omega
  rintro σ' H3 ⟨kvs, W, L, Es, v4, rfl, s3, hd3, D3, LV, fin⟩
  exact ⟨_, rfl, q d kvs W L Es H3 s3 hd3 D3 LV fin⟩
/-! ### reached -/
theorem dw_keys {H : Hp} : ∀ {kvs : List (List Key × V)} {W : WL}, DW H kvs W → kvs.map (·.1) = (W.map (·.1)).map kk
  | _, _, .nil => rfl
  | _, _, .cons _ r => by rw [List.map_cons, List.map_cons, List.map_cons, dw_keys r]
def spRchG (K : PySem.W.Frag) (cB cO : Addr) : Sp := fun vs H Q E => ∃ (pt a : Addr) (ts : List Addr) (us : List (List Int)) (g : List Int), vs = [.ref pt, .ref a] ∧ H pt = some (.lst (ts.map V.ref)) ∧ TL H ts us ∧ H a = some (.tup (g.map V.int)) ∧ g.length ≤ 5 ∧ (∀ u ∈ us, u.length ≤ 5) ∧
  ((¬ IsT g ∨ ∃ u ∈ us, ¬ IsT u) → ∀ H', Same H H' → E (.ref cB) none H') ∧ (IsT g → (∀ u ∈ us, IsT u) → (∃ u ∈ us, u.length ≠ g.length) → ∀ H', Same H H' → E (.ref cO) none H') ∧
  (IsT g → Turns g.length us → ∀ (r p : Addr) (w : List Nat) (H' : Hp), Same H H' → H' r = some (.tup [V.str "word", V.ref p]) → H' p = some (.lst (w.map natV)) → Valid us w → led us g.length w = g → (∀ v, Valid us v → led us g.length v = g → w.length ≤ v.length) → w.length ≤ 120 → Q (.ref r) H') ∧
  (IsT g → Turns g.length us → ∀ (r p : Addr) (rs : List Addr) (ls : List (List Int)) (H' : Hp), Same H H' → H' r = some (.tup [V.str "apart", V.ref p]) → H' p = some (.lst (rs.map V.ref)) → TL H' rs ls → ls.Pairwise (fun x y => ahead x y = true) → ls.Nodup → (∀ x, x ∈ ls ↔ ∃ v, Valid us v ∧ led us g.length v = x) → g ∉ ls → ls.length < 64 → Q (.ref r) H')
theorem scRch : FnScope ["turns", "goal", "words"] ["turns", "goal"] (defScope sRch) := ⟨rfl, rfl, rfl, by decide +kernel, rfl, by decide +kernel, by decide +kernel⟩
theorem ok_rch {cB cO gQ gW : Addr} {dQ dW : FuncData} (F : Fun K "reached" "reached" sRch f fd) (B : Blt mg)
    (GQ : FnOk P w K mg base (CXx P w) 3 gQ dQ ["turns", "goal"] (spRT K cB cO)) (bQ : Binds K dQ ["turns", "goal"] []) (kQ : PySem.W.keepIn K (.ref gQ) = true) (mQ : mg "require_turns" = some (.ref gQ))
    (GW : FnOk P w K mg base (CXx P w) 5 gW dW ["turns", "goal"] (spSW K)) (bW : Binds K dW ["turns", "goal"] []) (kW : PySem.W.keepIn K (.ref gW) = true) (mW : mg "shortest_words" = some (.ref gW)) :
    FnOk P w K mg base (CXx P w) 6 f fd ["turns", "goal"] (spRchG K cB cO) := by
  refine F.okX scRch (fun vs H Q E h => ?_) (fun X cdv A outer s H vs Q E eX hX hP hr h => ?_)
  · obtain ⟨pt, a, ts, us, g, rfl, _⟩ := h
    rfl
  subst eX
  have hr1 : Room 1 _ := hr.mono (by decide)
  have hr2 : Room 2 _ := hr.mono (by decide)
  have hr3 : Room 3 _ := hr.mono (by decide)
  have hr4 : Room 4 _ := hr.mono (by decide)
  have hr5 : Room 5 _ := hr
  have hu := hu_of hr
  obtain ⟨pt, a, ts, us, g, rfl, ht, TT0, ha, lg, lu, q1, q2, q3, q4⟩ := h
  refine ⟨_, (pss_cons (ps_expr (pe_call GQ hr3 rfl mQ kQ bQ .nil hP (pa_cons (pv 0) (pa_cons (pv 1) pa_nil))))
      (pss_cons (ps_set (i := 2) scRch.nd rfl (Or.inl rfl) (pe_call GW hr5 rfl mW kW bW .nil hP (pa_cons (pv 0) (pa_cons (pv 1) pa_nil))))
      (pss_cons (ps_if (pt_cmp (pc_din hu (pv 1) (pv 2))) (pss_one (ps_ret (pe_tup (pa_cons pe_str (pa_cons (pe_dget hu (pv 2) (pv 1) (fun _ _ => rfl)) pa_nil))))) pss_nil)
      (pss_one (ps_ret (pe_tup (pa_cons pe_str (pa_cons (pe_callB (call_sortedD rfl) rfl B.srt PyProof.Rows.boot_sorted (pa_cons (pv 2) pa_nil)) pa_nil)))))))), ?_⟩
  refine ⟨_, rfl, _, rfl, pt, a, ts, us, g, rfl, ht, TT0, SqT.of ha, by omega, fun u hu => by have := lu u hu; omega, q1, q2, fun tg tu tl H1 g1 => ?_⟩
  have T : Turns g.length us := ⟨tu, tl⟩
  refine ⟨_, rfl, _, rfl, pt, a, ts, us, g, g.length, rfl, g1 _ _ ht, TT0.same g1, g1 _ _ ha, rfl, lg, T, fun d kvs W L Es H2 s2 hd D LV fin => ?_⟩
  have ha2 : H2 a = some (.tup ((kk g).map kV)) := by rw [kk_map]; exact s2 _ _ (g1 _ _ ha)
  refine ⟨_, rfl, _, rfl, d, _, rfl, DGet.t hd ha2, _, rfl, ?_⟩
  cases hv : valV kvs (kk g) with
  | some v =>
    obtain ⟨p, w', rfl, hw', hp⟩ := D.look hv
    refine iteT ?_
    refine ⟨_, rfl, _, rfl, d, _, rfl, by rw [← hv]; exact DGet.t hd ha2, by show 2 ≤ sizeLine; decide, fun r hr' => ?_⟩
    have gr := same_new hr' (.tup [V.str "word", V.ref p])
    have wd := LV.word _ hw'
    refine q3 tg T r p w' _ (g1.trans (s2.trans gr)) upd_same (gr _ _ hp) wd.1 wd.2.1 (fun v hv' e => LV.least hw' hv' e) ?_
    have a1 : w'.length ≤ L := wd.2.2
    have a2 := LV.much.1
    have a3 := LV.count T
    have a4 := fact_five lg
    omega
  | none =>
    have ng : g ∉ W.map (·.1) := D.none hv
    have eE : Es = [] := by
      rcases fin with z | z
      · exact absurd z ng
      · exact z
    subst eE
    have hR : ∀ x, x ∈ W.map (·.1) ↔ ∃ v, Valid us v ∧ led us g.length v = x := fun x => by
      constructor
      · intro h
        obtain ⟨p, hp, rfl⟩ := List.mem_map.mp h
        obtain ⟨b1, b2, _⟩ := LV.word p hp
        exact ⟨p.2, b1, b2⟩
      · rintro ⟨v, hv, rfl⟩
        obtain ⟨w, hw⟩ := LV.closed v hv
        exact List.mem_map.mpr ⟨_, hw, rfl⟩
    have hh := half T LV.nd hR tg rfl ng
    have n0 : 0 < g.length := by
      rcases Nat.eq_zero_or_pos g.length with z | z
      · exfalso
        apply ng
        refine (hR g).mpr ⟨[], fun k hk => (by cases hk), ?_⟩
        rw [List.length_eq_zero_iff.mp z]
        rfl
      · exact z
    have a4 := fact_five lg
    refine iteF ?_
    refine ⟨_, rfl, d, kvs, W.map (·.1), g.length, rfl, hd, dw_keys D, fun k hk => ?_, n0, by omega, fun p rs ls np TLs pm pw => ?_⟩
    · obtain ⟨v, hv, rfl⟩ := (hR k).mp hk
      exact led_isT T v hv
    have gp := same_new np (.lst (rs.map V.ref))
    refine ⟨by show 2 ≤ sizeLine; decide, fun r hr' => ?_⟩
    have gr := same_new hr' (.tup [V.str "apart", V.ref p])
    refine q4 tg T r p rs ls _ (g1.trans (s2.trans (gp.trans gr))) upd_same (gr _ _ upd_same) (TLs.same (gp.trans gr)) pw (pm.nodup_iff.mpr LV.nd) (fun x => pm.mem_iff.trans (hR x)) (fun z => ng (pm.mem_iff.mp z)) ?_
    rw [pm.length_eq]
    omega
end
end KP

set_option Elab.async false
set_option linter.all false
set_option maxRecDepth 100000
set_option maxHeartbeats 4000000
namespace KP
open PySem L2 Tm
section
variable {P : Program} {w : World} {K : PySem.W.Frag} {mg : Str → Option Value} {base : Heap} {f g : Addr} {fd gd : FuncData}
/-! ### _law_at -/
def spAt (K : PySem.W.Frag) : Sp := fun vs H Q _ => ∃ (a : Addr) (ns : List Int) (k : Int), vs = [.ref a, .int k] ∧ SqL K H a (ns.map V.int) ∧ 0 ≤ k ∧ Q (.int (ns.getD k.toNat 0)) H
theorem scAt : FnScope ["_law_script", "_law_k"] ["_law_script", "_law_k"] (defScope sAt) := ⟨rfl, rfl, rfl, by decide +kernel, rfl, by decide +kernel, by decide +kernel⟩
theorem ok_at (F : Fun K "_law_at" "_law_at" sAt f fd) (B : Blt mg) : FnOk P w K mg base CX0 1 f fd ["_law_script", "_law_k"] (spAt K) := by
  refine F.ok scAt (fun vs H Q E h => ?_) (fun cdv A outer s H vs Q E hr h => ?_)
  · obtain ⟨a, ns, k, rfl, _⟩ := h
    rfl
  obtain ⟨a, ns, k, rfl, hS, h0, q⟩ := h
  refine ⟨_, pss_cons (ps_if (pt_cmpR op_lt (pv 1) (pe_callB call_len_seq rfl B.len PySem.boot_len (pa_cons (pv 0) pa_nil)) (nomark _)) (pss_one (ps_ret (pe_ix ix_list (pv 0) (pv 1) (fun _ _ => rfl)))) pss_nil) (pss_one (ps_ret pe_int)), ?_⟩
  refine ⟨_, rfl, _, rfl, a, _, rfl, .inl hS, _, _, rfl, rfl, _, rfl, ?_⟩
  rw [List.length_map]
  by_cases c : k < (ns.length : Int)
  · refine iteTn c ?_
    exact ⟨_, rfl, _, rfl, a, _, _, _, rfl, rfl, hS, atI_ints h0 c, q⟩
  · refine iteFn c ?_
    have e : ns.getD k.toNat 0 = 0 := by rw [List.getD_eq_getElem?_getD, List.getElem?_eq_none (by omega)]; rfl
    rw [e] at q
    exact q
/-! ### _law_turning_by -/
def spTb (K : PySem.W.Frag) : Sp := fun vs H Q _ => ∃ (a : Addr) (ns : List Int), vs = [.ref a] ∧ SqL K H a (ns.map V.int) ∧ ns.length ≤ 500 ∧ ∀ r H', Same H H' → H' r = some (.tup ((turnBy ns).map V.int)) → Q (.ref r) H'
theorem scTb : FnScope ["_law_cells", "_law_made", "_law_k", "_law_spot"] ["_law_cells"] (defScope sTb) := ⟨rfl, rfl, rfl, by decide +kernel, rfl, by decide +kernel, by decide +kernel⟩
theorem ok_tb (F : Fun K "_law_turning_by" "_law_turning_by" sTb f fd) (B : Blt mg) : FnOk P w K mg base CX0 1 f fd ["_law_cells"] (spTb K) := by
  refine F.ok scTb (fun vs H Q E h => ?_) (fun cdv A outer s H vs Q E hr h => ?_)
  · obtain ⟨a, ns, rfl, _⟩ := h
    rfl
  obtain ⟨a, ns, rfl, hS, hl, q⟩ := h
  refine ⟨_, pss_cons (ps_set (i := 1) scTb.nd rfl (Or.inl rfl) (pe_lst pa_nil))
    (pss_cons (ps_for PassesOwn.never rfl (pi_range1 rfl B.rng (pa_cons (pe_callB call_len_seq rfl B.len PySem.boot_len (pa_cons (pv 0) pa_nil)) pa_nil)) (pg_name (i := 2) scTb.nd rfl (Or.inl rfl))
      (pss_cons (ps_set (i := 3) scTb.nd rfl (Or.inl rfl) (pe_op op_mod (pe_ix ix_list (pv 0) (pv 2) (fun _ _ => rfl)) (pe_op op_add (pv 2) pe_int)))
      (pss_one (ps_set (i := 1) scTb.nd rfl (Or.inl rfl) (pe_op op_cat (pe_op op_cat (pe_slice sl_list (pv 1) po_none (po_some (pv 3))) (pe_lst (pa_cons (pv 2) pa_nil))) (pe_slice sl_list (pv 1) (po_some (pv 3)) po_none))))))
    (pss_one (ps_ret (pe_callTy call_tuple_of rfl B.tup PyProof.Rows.boot_tuple (pa_cons (pv 1) pa_nil))))), ?_⟩
  refine ⟨by show 0 ≤ sizeLine; decide, fun p0 hp0 => ?_⟩
  refine ⟨_, rfl, a, _, rfl, .inl ((same_new hp0 _).seq hS), _, rfl, by rw [List.length_map]; omega, by rw [List.length_map]; omega, ?_⟩
  refine for_range (fun i σ H2 => ∃ (p : Addr) (v2 v3 : Option V), σ = [some (.ref a), some (.ref p), v2, v3] ∧ Same H H2 ∧ H2 p = some (.lst ((tb ns i).map V.int))) ⟨p0, none, none, rfl, same_new hp0 _, upd_same⟩ ?_ ?_
  · rintro i σ H2 hi ⟨p, v2, v3, rfl, sm, hp⟩
    have hi' : i < ns.length := by rw [List.length_map] at hi; omega
    have ei : (0 : Int) + (i : Int) = i := by omega
    rw [ei]
    have hpos : (0 : Int) < (i : Int) + 1 := by omega
    refine ⟨_, rfl, _, rfl, a, _, _, _, rfl, rfl, sm.seq hS, atI_ints (by omega) (by omega), _, rfl, _, _, rfl, rfl, _, _, rfl, rfl, hpos, ?_⟩
    have e2 : ((i : Int)).toNat = i := by omega
    rw [e2]
    have s0 := Int.emod_nonneg (ns.getD i 0) (by omega : (i : Int) + 1 ≠ 0)
    have s1 := Int.emod_lt_of_pos (ns.getD i 0) hpos
    have htl := tb_length ns i
    refine ⟨_, rfl, _, rfl, _, rfl, p, _, rfl, SqL.of hp, fun pA hpA => ?_⟩
    have g1 := same_new hpA (.lst (cutV ((tb ns i).map V.int) none (some (ns.getD i 0 % ((i : Int) + 1)))))
    refine ⟨_, rfl, by show 1 ≤ sizeLine; decide, fun pB hpB => ?_⟩
    have g2 := same_new hpB (.lst [V.int (i : Int)])
    refine ⟨pA, pB, _, _, rfl, rfl, g2 _ _ upd_same, upd_same, ?_, fun pC hpC => ?_⟩
    · rw [cutV_map_take s0, List.length_map, List.length_take, List.length_singleton]
      exact small_of (by omega)
    have g3 := same_new hpC (.lst (cutV ((tb ns i).map V.int) none (some (ns.getD i 0 % ((i : Int) + 1))) ++ [V.int (i : Int)]))
    refine ⟨_, rfl, _, rfl, _, rfl, p, _, rfl, SqL.of (g3 _ _ (g2 _ _ (g1 _ _ hp))), fun pD hpD => ?_⟩
    have g4 := same_new hpD (.lst (cutV ((tb ns i).map V.int) (some (ns.getD i 0 % ((i : Int) + 1))) none))
    refine ⟨pC, pD, _, _, rfl, rfl, g4 _ _ upd_same, upd_same, ?_, fun pE hpE => ?_⟩
    · rw [cutV_map_take s0, cutV_map_drop s0, List.length_append, List.length_map, List.length_take, List.length_singleton, List.length_map, List.length_drop]
      exact small_of (by omega)
    refine ⟨pE, _, _, rfl, sm.trans (g1.trans (g2.trans (g3.trans (g4.trans (same_new hpE _))))), ?_⟩
    rw [upd_same, cutV_map_take s0, cutV_map_drop s0]
    congr 2
    show _ = (insAt (tb ns i) (ns.getD i 0 % ((i : Int) + 1)).toNat (i : Int)).map V.int
    unfold insAt
    rw [List.map_append, List.map_append]
    rfl
  · rintro σ H2 ⟨p, v2, v3, rfl, sm, hp⟩
    refine ⟨_, rfl, p, _, rfl, .inl ⟨SqL.of hp, fun r hr' => ?_⟩⟩
    refine q r _ (sm.trans (same_new hr' _)) ?_
    rw [upd_same]
    have e3 : ((ns.map V.int).length : Int).toNat = ns.length := by rw [List.length_map]; omega
    rw [e3]
    rfl
/-! ### what is due -/
def dn : V := .str "done"
def ln : V := .str "length"
def tn : V := .str "turning"
def dueV (gx gy ll lr : Bool) : Nat → V
  | 0 => if (gx && gy) = true then (if ll = true then dn else ln) else tn
  | 1 => if (gx && gy) = true then (if ll = true then dn else ln) else tn
  | 2 => if gx = true then (if lr = true then dn else ln) else tn
  | _ => if gx = true then dn else tn
structure Kn (xs ys : List Int) (m : Nat) (gx gy ll lr : Bool) : Prop where
  hx : gx = true ↔ IsT xs
  hy : gy = true ↔ IsT ys
  hl : ll = true ↔ xs.length = ys.length
  hr : lr = true ↔ xs.length = m
section
variable {xs ys : List Int} {m : Nat} {gx gy ll lr : Bool}
theorem Kn.fx (k : Kn xs ys m gx gy ll lr) (h : ¬ IsT xs) : gx = false := by
  cases gx with
  | false => rfl
  | true => exact absurd (k.hx.mp rfl) h
theorem Kn.bad (k : Kn xs ys m gx gy ll lr) (h : ¬ (IsT xs ∧ IsT ys)) (i : Nat) (hi : i < 2) : dueV gx gy ll lr i = tn := by
  have e : (gx && gy) = false := by
    cases e1 : gx with
    | false => rfl
    | true =>
      cases e2 : gy with
      | false => rfl
      | true => exact absurd ⟨k.hx.mp e1, k.hy.mp e2⟩ h
  have : i = 0 ∨ i = 1 := by omega
  rcases this with rfl | rfl
  · show (if (gx && gy) = true then _ else _) = _
    rw [e, if_neg Bool.false_ne_true]
  · show (if (gx && gy) = true then _ else _) = _
    rw [e, if_neg Bool.false_ne_true]
theorem Kn.both (k : Kn xs ys m gx gy ll lr) (tx : IsT xs) (ty : IsT ys) (i : Nat) (hi : i < 2) : dueV gx gy ll lr i = if ll = true then dn else ln := by
  have e1 := k.hx.mpr tx
  have e2 := k.hy.mpr ty
  subst e1 e2
  have : i = 0 ∨ i = 1 := by omega
  rcases this with rfl | rfl <;> rfl
theorem Kn.far (k : Kn xs ys m gx gy ll lr) (tx : IsT xs) (ty : IsT ys) (nl : xs.length ≠ ys.length) (i : Nat) (hi : i < 2) : dueV gx gy ll lr i = ln := by
  rw [k.both tx ty i hi, if_neg fun z => nl (k.hl.mp z)]
theorem Kn.ok (k : Kn xs ys m gx gy ll lr) (tx : IsT xs) (ty : IsT ys) (el : xs.length = ys.length) (i : Nat) (hi : i < 2) : dueV gx gy ll lr i = dn := by
  rw [k.both tx ty i hi, if_pos (k.hl.mpr el)]
theorem Kn.badx (k : Kn xs ys m gx gy ll lr) (h : ¬ IsT xs) (i : Nat) (hi : 2 ≤ i) : dueV gx gy ll lr i = tn := by
  have e := k.fx h
  subst e
  match i, hi with
  | 2, _ => rfl
  | i + 3, _ => rfl
theorem Kn.farr (k : Kn xs ys m gx gy ll lr) (tx : IsT xs) (nl : xs.length ≠ m) : dueV gx gy ll lr 2 = ln := by
  have e1 := k.hx.mpr tx
  subst e1
  show (if lr = true then dn else ln) = ln
  rw [if_neg fun z => nl (k.hr.mp z)]
theorem Kn.okr (k : Kn xs ys m gx gy ll lr) (tx : IsT xs) (el : xs.length = m) : dueV gx gy ll lr 2 = dn := by
  have e1 := k.hx.mpr tx
  subst e1
  show (if lr = true then dn else ln) = dn
  rw [if_pos (k.hr.mpr el)]
theorem Kn.okx (k : Kn xs ys m gx gy ll lr) (tx : IsT xs) (i : Nat) (hi : 3 ≤ i) : dueV gx gy ll lr i = dn := by
  have e1 := k.hx.mpr tx
  subst e1
  match i, hi with
  | i + 3, _ => rfl
end
/-! ### _law_said -/
def spSaid (K : PySem.W.Frag) : Sp := fun vs H Q _ => ∃ (k : Nat) (a b c : Addr) (xs ys : List Int) (row : List V) (gx gy ll lr : Bool), vs = [.int k, .ref a, .ref b, .ref c] ∧ H a = some (.tup (xs.map V.int)) ∧ H b = some (.tup (ys.map V.int)) ∧ SqL K H c row ∧ xs.length ≤ 5 ∧ ys.length ≤ 5 ∧ k < 7 ∧ Kn xs ys row.length gx gy ll lr ∧
  ∀ H', Same H H' → Q (dueV gx gy ll lr k) H'
theorem scSaid : FnScope ["_law_which", "_law_one", "_law_two", "_law_row", "_law_word"] ["_law_which", "_law_one", "_law_two", "_law_row"] (defScope sSaid) := ⟨rfl, rfl, rfl, by decide +kernel, rfl, by decide +kernel, by decide +kernel⟩
theorem ok_said {cB cO gJ gC gE gK gO gM gN : Addr} {dJ dC dE dK dO dM dN : FuncData} (F : Fun K "_law_said" "_law_said" sSaid f fd) (B : Blt mg) (xcB : Xc K "BadTurning" cB) (xcO : Xc K "OtherLength" cO) (mcBcB : PySem.W.mroIn K cB (.ref cB) = some true) (mcOcB : PySem.W.mroIn K cO (.ref cB) = some false) (mcOcO : PySem.W.mroIn K cO (.ref cO) = some true)
    (GJ : FnOk P w K mg base (CXx P w) 3 gJ dJ ["one", "two"] (spJoin K cB cO)) (bJ : Binds K dJ ["one", "two"] []) (kJ : PySem.W.keepIn K (.ref gJ) = true) (mJ : mg "joined" = some (.ref gJ))
    (GC : FnOk P w K mg base (CXx P w) 6 gC dC ["turns", "goal"] (spRchG K cB cO)) (bC : Binds K dC ["turns", "goal"] []) (kC : PySem.W.keepIn K (.ref gC) = true) (mC : mg "reached" = some (.ref gC))
    (GE : FnOk P w K mg base (CXx P w) 4 gE dE ["turning", "row"] (spSeat K cB cO)) (bE : Binds K dE ["turning", "row"] []) (kE : PySem.W.keepIn K (.ref gE) = true) (mE : mg "seated" = some (.ref gE))
    (GK : FnOk P w K mg base (CXx P w) 3 gK dK ["turning"] (spBack K cB)) (bK : Binds K dK ["turning"] []) (kK : PySem.W.keepIn K (.ref gK) = true) (mK : mg "turned_back" = some (.ref gK))
    (GO : FnOk P w K mg base (CXx P w) 3 gO dO ["turning"] (spRO K cB)) (bO : Binds K dO ["turning"] []) (kO : PySem.W.keepIn K (.ref gO) = true) (mO : mg "rings_of" = some (.ref gO))
    (GM : FnOk P w K mg base (CXx P w) 4 gM dM ["turning"] (spTR K cB)) (bM : Binds K dM ["turning"] []) (kM : PySem.W.keepIn K (.ref gM) = true) (mM : mg "times_round" = some (.ref gM))
    (GN : FnOk P w K mg base (CXx P w) 3 gN dN ["turning"] (spRank K cB)) (bN : Binds K dN ["turning"] []) (kN : PySem.W.keepIn K (.ref gN) = true) (mN : mg "rank_of" = some (.ref gN)) :
    FnOk P w K mg base CX0 7 f fd ["_law_which", "_law_one", "_law_two", "_law_row"] (spSaid K) := by
  refine F.ok scSaid (fun vs H Q E h => ?_) (fun cdv A outer s H vs Q E hr h => ?_)
  · obtain ⟨k, a, b, c, xs, ys, row, gx, gy, ll, lr, rfl, _⟩ := h
    rfl
  have hr1 : Room 1 _ := hr.mono (by decide)
  have hr2 : Room 2 _ := hr.mono (by decide)
  have hr3 : Room 3 _ := hr.mono (by decide)
  have hr4 : Room 4 _ := hr.mono (by decide)
  have hr5 : Room 5 _ := hr.mono (by decide)
  have hr6 : Room 6 _ := hr
  obtain ⟨k, a, b, c, xs, ys, row, gx, gy, ll, lr, rfl, ha, hb, hc, lx, ly, hk, kn, q⟩ := h
  refine ⟨_, (pss_cons (ps_set (i := 4) scSaid.nd rfl (Or.inl rfl) pe_str)
      (pss_cons (ps_try rfl ⟨rfl, rfl⟩ (pb_if (pt_cmpR op_eq (pv 0) pe_int (nomark _)) (pb_call GJ hr3 rfl mJ kJ bJ .nil (pa_cons (pv 1) (pa_cons (pv 2) pa_nil))) (pb_if (pt_cmpR op_eq (pv 0) pe_int (nomark _)) (pb_call GC hr6 rfl mC kC bC .nil (pa_cons (pe_lst (pa_cons (pe_callTy call_tuple_of rfl B.tup PyProof.Rows.boot_tuple (pa_cons (pe_comp (cl := []) (ys := []) (js := []) ⟨rfl, by decide +kernel, by decide +kernel, rfl, rfl, (fun p hp => nomatch hp), rfl, by decide +kernel, rfl, (fun y hy => nomatch hy)⟩ rfl (pi_range1 rfl B.rng (pa_cons (pe_callB call_len_seq rfl B.len PySem.boot_len (pa_cons (pv 1) pa_nil)) pa_nil)) (fun _ _ _ _ => pts_nil) (fun _ _ _ _ => (pv 0))) pa_nil)) (pa_cons (pv 2) pa_nil))) (pa_cons (pv 1) pa_nil))) (pb_if (pt_cmpR op_eq (pv 0) pe_int (nomark _)) (pb_call GE hr4 rfl mE kE bE .nil (pa_cons (pv 1) (pa_cons (pv 3) pa_nil))) (pb_if (pt_cmpR op_eq (pv 0) pe_int (nomark _)) (pb_call GK hr3 rfl mK kK bK .nil (pa_cons (pv 1) pa_nil)) (pb_if (pt_cmpR op_eq (pv 0) pe_int (nomark _)) (pb_call GO hr3 rfl mO kO bO .nil (pa_cons (pv 1) pa_nil)) (pb_if (pt_cmpR op_eq (pv 0) pe_int (nomark _)) (pb_call GM hr4 rfl mM kM bM .nil (pa_cons (pv 1) pa_nil)) (pb_call GN hr3 rfl mN kN bN .nil (pa_cons (pv 1) pa_nil)))))))) (ph_cons xcB rfl (fun ea => (pss_one (ps_set (i := 4) scSaid.nd rfl (Or.inl rfl) pe_str))) (ph_cons xcO rfl (fun ea => (pss_one (ps_set (i := 4) scSaid.nd rfl (Or.inl rfl) pe_str))) ph_nil)))
      (pss_one (ps_ret (pv 4))))), ?_⟩
  refine ⟨fun c _ H' => Same H H' ∧ ((c = .ref cB ∧ dueV gx gy ll lr k = tn) ∨ (c = .ref cO ∧ dueV gx gy ll lr k = ln)), ?_, ?_⟩
  · have hk' : k = 0 ∨ k = 1 ∨ k = 2 ∨ k = 3 ∨ k = 4 ∨ k = 5 ∨ k = 6 := by omega
    rcases hk' with rfl | rfl | rfl | rfl | rfl | rfl | rfl
    · exact ⟨_, rfl, rfl, _, rfl, iteTn rfl ⟨_, rfl, _, rfl, a, b, xs, ys, rfl, SqT.of ha, SqT.of hb, by omega, by omega, fun nb H' sm => ⟨sm, .inl ⟨rfl, kn.bad nb 0 (by decide)⟩⟩, fun tx ty nl H' sm => ⟨sm, .inr ⟨rfl, kn.far tx ty nl 0 (by decide)⟩⟩, fun tx ty el r H' sm _ => ⟨_, rfl, by have z := q H' sm; rw [(kn.ok tx ty el 0 (by decide))] at z; exact z⟩⟩⟩
    · refine ⟨_, rfl, rfl, _, rfl, iteFn (fun z => by injection z with z; omega) ⟨_, rfl, rfl, _, rfl, iteTn rfl ?_⟩⟩
      refine ⟨_, rfl, a, _, rfl, .inr (SqT.of ha), _, rfl, by rw [List.length_map]; omega, by rw [List.length_map]; omega, comp_rng (fun k => .int (0 + (k : Int))) (by rw [List.length_map]; omega) (fun k H' Q' hk sm hq => ⟨_, rfl, hq⟩) fun D H1 nD sm1 hD => ?_⟩
      refine ⟨D, _, rfl, .inl ⟨SqL.of hD, fun l hl => ?_⟩⟩
      have gl := same_new hl (.tup ((List.range (((xs.map V.int).length : Nat) : Int).toNat).map fun (k : Nat) => V.int (0 + (k : Int))))
      have el : (upd H1 l (.tup ((List.range (((xs.map V.int).length : Nat) : Int).toNat).map fun (k : Nat) => V.int (0 + (k : Int))))) l = some (.tup ((ups 0 xs.length).map V.int)) := by
        rw [upd_same, List.length_map, Int.toNat_natCast]
        unfold ups
        rw [List.map_map]
        rfl
      have s1 := sm1.trans gl
      generalize upd H1 l (.tup ((List.range (((xs.map V.int).length : Nat) : Int).toNat).map fun (k : Nat) => V.int (0 + (k : Int)))) = H2 at el s1 gl ⊢
      refine ⟨_, rfl, by show 2 ≤ sizeLine; decide, fun pr hpr => ?_⟩
      have gr := s1.trans (same_new hpr (.lst [V.ref l, V.ref b]))
      refine ⟨_, rfl, pr, a, [l, b], [ups 0 xs.length, ys], xs, rfl, upd_same, .cons (same_new hpr _ _ _ el) (.cons (gr _ _ hb) .nil), gr _ _ ha, by omega, fun u hu => ?_, fun nb H' sm => ⟨gr.trans sm, .inl ⟨rfl, kn.bad (fun z => ?_) 1 (by decide)⟩⟩, fun tx ty nl H' sm => ⟨gr.trans sm, .inr ⟨rfl, kn.far tx (ty ys (by simp)) (fun z => ?_) 1 (by decide)⟩⟩, fun tx T r p w H' sm _ _ _ _ _ _ => ?_, fun tx T r p rs ls H' sm _ _ _ _ _ _ _ _ => ?_⟩
      · rcases List.mem_cons.mp hu with z | z
        · rw [z, ups_length]; omega
        · rw [List.mem_singleton.mp z]; omega
      · rcases nb with nb | ⟨u, hu, nb⟩
        · exact nb z.1
        · rcases List.mem_cons.mp hu with y | y
          · rw [y] at nb; exact nb (isT_ups _)
          · rw [List.mem_singleton.mp y] at nb; exact nb z.2
      · obtain ⟨u, hu, nu⟩ := nl
        rcases List.mem_cons.mp hu with y | y
        · rw [y, ups_length] at nu; exact nu rfl
        · rw [List.mem_singleton.mp y] at nu; exact nu z.symm
      · have sm := gr.trans sm
        have tx' := tx
        have ee := kn.ok tx (T.is ys (by simp)) (T.len ys (by simp)).symm 1 (by decide)
        exact ⟨_, rfl, by have z := q H' sm; rw [(ee)] at z; exact z⟩
      · have sm := gr.trans sm
        have tx' := tx
        have ee := kn.ok tx (T.is ys (by simp)) (T.len ys (by simp)).symm 1 (by decide)
        exact ⟨_, rfl, by have z := q H' sm; rw [(ee)] at z; exact z⟩
    · exact ⟨_, rfl, rfl, _, rfl, iteFn (fun z => by injection z with z; omega) (⟨_, rfl, rfl, _, rfl, iteFn (fun z => by injection z with z; omega) (⟨_, rfl, rfl, _, rfl, iteTn rfl ⟨_, rfl, _, rfl, a, c, xs, row, rfl, SqT.of ha, hc, by omega, fun nb H' sm => ⟨sm, .inl ⟨rfl, kn.badx nb 2 (by decide)⟩⟩, fun tx nl H' sm => ⟨sm, .inr ⟨rfl, kn.farr tx nl⟩⟩, fun tx el r H' sm _ => ⟨_, rfl, by have z := q H' sm; rw [(kn.okr tx el)] at z; exact z⟩⟩⟩)⟩)⟩
    · exact ⟨_, rfl, rfl, _, rfl, iteFn (fun z => by injection z with z; omega) (⟨_, rfl, rfl, _, rfl, iteFn (fun z => by injection z with z; omega) (⟨_, rfl, rfl, _, rfl, iteFn (fun z => by injection z with z; omega) (⟨_, rfl, rfl, _, rfl, iteTn rfl ⟨_, rfl, a, xs, rfl, SqT.of ha, by omega, fun tx r H' sm _ => ⟨_, rfl, by have z := q H' sm; rw [(kn.okx tx 3 (by decide))] at z; exact z⟩, fun nb H' sm => ⟨sm, .inl ⟨rfl, kn.badx nb 3 (by decide)⟩⟩⟩⟩)⟩)⟩)⟩
    · exact ⟨_, rfl, rfl, _, rfl, iteFn (fun z => by injection z with z; omega) (⟨_, rfl, rfl, _, rfl, iteFn (fun z => by injection z with z; omega) (⟨_, rfl, rfl, _, rfl, iteFn (fun z => by injection z with z; omega) (⟨_, rfl, rfl, _, rfl, iteFn (fun z => by injection z with z; omega) (⟨_, rfl, rfl, _, rfl, iteTn rfl ⟨_, rfl, a, xs, rfl, SqT.of ha, by omega, fun tx r rs fs H' _ sm _ _ _ => ⟨_, rfl, by have z := q H' sm; rw [(kn.okx tx 4 (by decide))] at z; exact z⟩, fun nb H' sm => ⟨sm, .inl ⟨rfl, kn.badx nb 4 (by decide)⟩⟩⟩⟩)⟩)⟩)⟩)⟩
    · exact ⟨_, rfl, rfl, _, rfl, iteFn (fun z => by injection z with z; omega) (⟨_, rfl, rfl, _, rfl, iteFn (fun z => by injection z with z; omega) (⟨_, rfl, rfl, _, rfl, iteFn (fun z => by injection z with z; omega) (⟨_, rfl, rfl, _, rfl, iteFn (fun z => by injection z with z; omega) (⟨_, rfl, rfl, _, rfl, iteFn (fun z => by injection z with z; omega) (⟨_, rfl, rfl, _, rfl, iteTn rfl ⟨_, rfl, a, xs, rfl, SqT.of ha, by omega, fun tx fs H' sm _ => ⟨_, rfl, by have z := q H' sm; rw [(kn.okx tx 5 (by decide))] at z; exact z⟩, fun nb H' sm => ⟨sm, .inl ⟨rfl, kn.badx nb 5 (by decide)⟩⟩⟩⟩)⟩)⟩)⟩)⟩)⟩
    · exact ⟨_, rfl, rfl, _, rfl, iteFn (fun z => by injection z with z; omega) (⟨_, rfl, rfl, _, rfl, iteFn (fun z => by injection z with z; omega) (⟨_, rfl, rfl, _, rfl, iteFn (fun z => by injection z with z; omega) (⟨_, rfl, rfl, _, rfl, iteFn (fun z => by injection z with z; omega) (⟨_, rfl, rfl, _, rfl, iteFn (fun z => by injection z with z; omega) (⟨_, rfl, rfl, _, rfl, iteFn (fun z => by injection z with z; omega) (⟨_, rfl, a, xs, rfl, SqT.of ha, by omega, fun tx H' sm => ⟨_, rfl, by have z := q H' sm; rw [(kn.okx tx 6 (by decide))] at z; exact z⟩, fun nb H' sm => ⟨sm, .inl ⟨rfl, kn.badx nb 6 (by decide)⟩⟩⟩)⟩)⟩)⟩)⟩)⟩)⟩
  · rintro C ea H1 ⟨s1, z⟩ hea
    rcases z with ⟨ec, ed⟩ | ⟨ec, ed⟩
    · obtain rfl : C = cB := by injection ec
      exact ⟨xcB.toXe, true, mcBcB, iteT ⟨_, rfl, by have z := q H1 s1; rw [ed] at z; exact z⟩⟩
    · obtain rfl : C = cO := by injection ec
      exact ⟨xcO.toXe, false, mcOcB, iteF ⟨xcO.toXe, true, mcOcO, iteT ⟨_, rfl, by have z := q H1 s1; rw [ed] at z; exact z⟩⟩⟩
/-! ### _law_spoilt -/
theorem pick3 {x y z : Int} {w : Int} (h1 : 1 ≤ w) (h3 : w ≤ 3) : ∃ v : Int, atI [V.int x, V.int y, V.int z] (w - 1) = some (.int v) := by
  have h : w = 1 ∨ w = 2 ∨ w = 3 := by omega
  rcases h with rfl | rfl | rfl
  · exact ⟨x, rfl⟩
  · exact ⟨y, rfl⟩
  · exact ⟨z, rfl⟩
theorem at_back {xs : List Int} {s : Int} (h0 : 0 ≤ s) (h1 : s < xs.length) : ∃ v : Int, atI (xs.map V.int) (s - 1) = some (.int v) := by
  by_cases e : s = 0
  · subst e
    exact ⟨_, atI_lastI (by omega)⟩
  · exact ⟨_, atI_ints (by omega) (by omega)⟩
def spSp (K : PySem.W.Frag) : Sp := fun vs H Q _ => ∃ (a : Addr) (way seed : Int) (xs : List Int), vs = [.ref a, .int way, .int seed] ∧ H a = some (.tup (xs.map V.int)) ∧ 0 < xs.length ∧ xs.length ≤ 1000 ∧ 0 ≤ way ∧ way ≤ 3 ∧
  ∀ (p : Addr) (ys : List Int) (H' : Hp), Same H H' → H' p = some (.tup (ys.map V.int)) → ys.length = xs.length → Q (.ref p) H'
theorem scSp : FnScope ["_law_turning", "_law_way", "_law_seed", "_law_spot", "_law_wrong"] ["_law_turning", "_law_way", "_law_seed"] (defScope sSp) := ⟨rfl, rfl, rfl, by decide +kernel, rfl, by decide +kernel, by decide +kernel⟩
theorem ok_sp (F : Fun K "_law_spoilt" "_law_spoilt" sSp f fd) (B : Blt mg) :
    FnOk P w K mg base CX0 1 f fd ["_law_turning", "_law_way", "_law_seed"] (spSp K) := by
  refine F.ok scSp (fun vs H Q E h => ?_) (fun cdv A outer s H vs Q E hr h => ?_)
  · obtain ⟨a, way, seed, xs, rfl, _⟩ := h
    rfl
  have hu64 := hr.units
  obtain ⟨a, way, seed, xs, rfl, ha, n0, hz, w0, w3, q⟩ := h
  refine ⟨_, (pss_cons (ps_if (PW.pt (pw_or (pt_cmpR (op_eqT hu64) (pv 0) (pe_tup pa_nil) (nomark _)) (pw_or1 (pt_cmpR op_eq (pv 1) pe_int (nomark _))))) (pss_one (ps_ret (pv 0))) pss_nil)
      (pss_cons (ps_set (i := 3) scSp.nd rfl (Or.inl rfl) (pe_op op_mod (pv 2) (pe_callB call_len_seq rfl B.len PySem.boot_len (pa_cons (pv 0) pa_nil))))
      (pss_cons (ps_set (i := 4) scSp.nd rfl (Or.inl rfl) (pe_ix ix_list (pe_lst (pa_cons (pe_ix ix_tup (pv 0) (pe_op op_sub (pv 3) pe_int) (fun _ _ => rfl)) (pa_cons (pe_callB call_len_seq rfl B.len PySem.boot_len (pa_cons (pv 0) pa_nil)) (pa_cons (pe_un un_neg pe_int) pa_nil)))) (pe_op op_sub (pv 1) pe_int) (fun _ _ => rfl)))
      (pss_one (ps_ret (pe_op op_catTB (pe_op op_catTB (pe_slice sl_tupA (pv 0) po_none (po_some (pv 3))) (pe_tup (pa_cons (pv 4) pa_nil))) (pe_slice sl_tupA (pv 0) (po_some (pe_op op_add (pv 3) pe_int)) po_none))))))), ?_⟩
  refine ⟨_, rfl, by show 0 ≤ sizeLine; decide, fun pe hpe => ?_⟩
  have g1 := same_new hpe (.tup [])
  have ha1 := g1 _ _ ha
  refine ⟨a, pe, xs, [], rfl, rfl, .inl ⟨SqT.of ha1, SqT.of upd_same⟩, _, rfl, ?_⟩
  have xne : ¬ xs = [] := fun z => by rw [z] at n0; simp at n0
  rw [decide_eq_false xne]
  refine iteF ?_
  refine ⟨_, rfl, rfl, _, rfl, ?_⟩
  by_cases c : V.int way = V.int 0
  · exact iteTn c ⟨_, rfl, q a xs _ g1 ha1 rfl⟩
  refine iteFn c ?_
  have w1 : 1 ≤ way := by
    rcases Int.lt_or_le 0 way with z | z
    · omega
    · exact absurd (by rw [show way = 0 by omega]) c
  generalize upd H pe (.tup []) = H1 at g1 ha1 ⊢
  -- spot
  have hpos : (0 : Int) < (((xs.map V.int).length : Nat) : Int) := by rw [List.length_map]; omega
  try dsimp only
  refine mid (fun σ' H' => σ' = [some (.ref a), some (.int way), some (.int seed), none, none] ∧ H1 = H') ?_ (fun N hN => hN _ _ ⟨rfl, rfl⟩)
  rintro σ' H' ⟨rfl, rfl⟩
  try dsimp only
  refine mid (fun σ' H' => ∃ s : Int, σ' = [some (.ref a), some (.int way), some (.int seed), some (.int s), none] ∧ 0 ≤ s ∧ s < xs.length ∧ H1 = H') ?_ ?_
  case refine_2 =>
    intro N hN
    refine ⟨_, rfl, _, rfl, a, _, rfl, .inr (SqT.of ha1), _, _, rfl, rfl, hpos, hN _ _ ⟨_, rfl, Int.emod_nonneg _ (by omega), ?_, rfl⟩⟩
    have := Int.emod_lt_of_pos seed hpos
    show seed % (((xs.map V.int).length : Nat) : Int) < _
    rw [List.length_map] at this ⊢
    exact this
  rintro σ' H' ⟨s9, rfl, s0, sl, rfl⟩
  obtain ⟨vb, hvb⟩ := at_back s0 sl
  -- wrong
  refine ⟨_, rfl, _, rfl, _, _, rfl, rfl, a, _, _, _, rfl, rfl, SqT.of ha1, hvb, _, rfl, a, _, rfl, .inr (SqT.of ha1), _, rfl, by show 3 ≤ sizeLine; decide, fun pl hpl => ?_⟩
  obtain ⟨vw, hvw⟩ := pick3 (x := vb) (y := (((xs.map V.int).length : Nat) : Int)) (z := -1) w1 w3
  refine ⟨_, rfl, _, _, rfl, rfl, pl, _, _, _, rfl, rfl, SqL.of upd_same, hvw, ?_⟩
  have g2 := g1.trans (same_new hpl (.lst [V.int vb, V.int (((xs.map V.int).length : Nat) : Int), V.int (-1)]))
  have ha2 := same_new hpl (.lst [V.int vb, V.int (((xs.map V.int).length : Nat) : Int), V.int (-1)]) _ _ ha1
  generalize upd H1 pl (.lst [V.int vb, V.int (((xs.map V.int).length : Nat) : Int), V.int (-1)]) = H2 at g2 ha2 ⊢
  -- the parts
  refine ⟨_, rfl, _, rfl, _, rfl, a, _, rfl, SqT.of ha2, fun pa H3 h3 hq3 => ?_⟩
  have s3 : Same H2 H3 := by
    rcases h3 with rfl | ⟨hp, rfl⟩
    · exact Same.refl _
    · exact same_new hp _
  rw [cutV_map_take s0] at hq3
  refine ⟨_, rfl, by show 1 ≤ sizeLine; decide, fun pw hpw => ?_⟩
  have gw := same_new hpw (.tup [V.int vw])
  have l3 : ((xs.take s9.toNat).map V.int).length ≤ 1000 := by rw [List.length_map, List.length_take]; omega
  have fin : ∀ (pb : Addr) (H5 : Hp), Same H2 H5 → H5 pb = some (.tup ((xs.take s9.toNat ++ [vw]).map V.int)) → ∀ (pc : Addr) (H6 : Hp), (H6 = H5 ∨ (H5 pc = none ∧ H6 = upd H5 pc (.tup (cutV (xs.map V.int) (some (s9 + 1)) none)))) → SqT K H6 pc (cutV (xs.map V.int) (some (s9 + 1)) none) →
      ∃ (a b : Addr) (us vs : List V), V.ref pb = V.ref a ∧ V.ref pc = V.ref b ∧ SqT K H6 a us ∧ SqT K H6 b vs ∧ us.length + vs.length ≤ sizeLine ∧ (us = [] → Q (.ref b) H6) ∧ (us ≠ [] → vs = [] → Q (.ref a) H6) ∧ (us ≠ [] → vs ≠ [] → ∀ p, H6 p = none → Q (.ref p) (upd H6 p (.tup (us ++ vs)))) := by
    intro pb H5 s5 hb5 pc H6 h6 hq6
    have s6 : Same H5 H6 := by
      rcases h6 with rfl | ⟨hp, rfl⟩
      · exact Same.refl _
      · exact same_new hp _
    rw [cutV_map_drop (by omega)] at hq6
    have g6 := g2.trans (s5.trans s6)
    have hb6 := s6 _ _ hb5
    have et : (s9 + 1).toNat = s9.toNat + 1 := by omega
    rw [et] at hq6
    refine ⟨pb, pc, _, _, rfl, rfl, SqT.of hb6, hq6, ?_, fun z => ?_, fun _ z => ?_, fun _ _ p hp => ?_⟩
    · rw [List.length_map, List.length_append, List.length_singleton, List.length_take, List.length_map, List.length_drop]
      exact small_of (by omega)
    · rw [List.map_append] at z
      simp at z
    · have z' : xs.drop (s9.toNat + 1) = [] := List.map_eq_nil_iff.mp z
      refine q pb _ _ g6 hb6 ?_
      have := congrArg List.length z'
      rw [List.length_drop, List.length_nil] at this
      rw [List.length_append, List.length_singleton, List.length_take]
      omega
    · refine q p (xs.take s9.toNat ++ [vw] ++ xs.drop (s9.toNat + 1)) _ (g6.trans (same_new hp _)) ?_ ?_
      · rw [upd_same]
        congr 2
        rw [List.map_append (l₁ := xs.take s9.toNat ++ [vw])]
      · rw [List.length_append, List.length_append, List.length_singleton, List.length_take, List.length_drop]
        omega
  refine ⟨pa, pw, _, _, rfl, rfl, gw.seqT hq3, SqT.of upd_same, ?_, fun z => ?_, fun _ z => ?_, fun _ _ p hp => ?_⟩
  · rw [List.length_singleton]
    exact small_of (by rw [List.length_map, List.length_take]; omega)
  · refine ⟨_, rfl, _, rfl, _, _, rfl, rfl, _, rfl, a, _, rfl, SqT.of (gw _ _ (s3 _ _ ha2)), fun pc H6 h6 hq6 => fin pw _ (s3.trans gw) ?_ pc H6 h6 hq6⟩
    rw [upd_same, List.map_append, z]
    rfl
  · exact absurd z (by simp)
  · have gp := same_new hp (.tup ((xs.take s9.toNat).map V.int ++ [V.int vw]))
    refine ⟨_, rfl, _, rfl, _, _, rfl, rfl, _, rfl, a, _, rfl, SqT.of (gp _ _ (gw _ _ (s3 _ _ ha2))), fun pc H6 h6 hq6 => fin p _ (s3.trans (gw.trans gp)) ?_ pc H6 h6 hq6⟩
    rw [upd_same, List.map_append]
    rfl
/-! ### _law_whole_row -/
theorem inV_ints (s : Int) : ∀ l : List Int, inV (.int s) (l.map V.int) = decide (s ∈ l)
  | [] => rfl
  | a :: r => by
    have ih := inV_ints s r
    unfold inV at ih ⊢
    rw [List.map_cons, List.any_cons, ih]
    by_cases e : a = s
    · subst e
      simp [eqV]
    · have e' : ¬ s = a := fun z => e z.symm
      simp [eqV, e, e']
theorem flat_ints (l : List Int) : (l.map V.int).all flatV = true := by
  rw [List.all_map, List.all_eq_true]
  intro x _
  rfl
theorem perm_of : ∀ {l m : List Int}, l.Nodup → (∀ x ∈ l, x ∈ m) → l.length = m.length → l.Perm m
  | [], m, _, _, e => by rw [List.length_eq_zero_iff.mp e.symm]
  | a :: r, m, nd, h, e => by
    obtain ⟨n1, n2⟩ := List.nodup_cons.mp nd
    have hm := h a (List.mem_cons_self ..)
    have hl := List.length_erase_of_mem hm
    rw [List.length_cons] at e
    exact ((perm_of (m := m.erase a) n2 (fun x hx => (List.mem_erase_of_ne (fun z => n1 (by rw [← z]; exact hx))).mpr (h x (List.mem_cons_of_mem _ hx))) (by omega)).cons a).trans (List.perm_cons_erase hm).symm
def spWR (K : PySem.W.Frag) : Sp := fun vs H Q _ => ∃ (a : Addr) (xs : List Int), vs = [.ref a] ∧ SqT K H a (xs.map V.int) ∧ xs.length ≤ 1000 ∧ (IsT xs → Q (.bl true) H) ∧ (¬ IsT xs → Q (.bl false) H)
theorem scWR : FnScope ["_law_turning", "_law_k"] ["_law_turning"] (defScope sWR) := ⟨rfl, rfl, rfl, by decide +kernel, rfl, by decide +kernel, by decide +kernel⟩
theorem ok_wr (F : Fun K "_law_whole_row" "_law_whole_row" sWR f fd) (B : Blt mg) :
    FnOk P w K mg base CX0 1 f fd ["_law_turning"] (spWR K) := by
  refine F.ok scWR (fun vs H Q E h => ?_) (fun cdv A outer s H vs Q E hr h => ?_)
  · obtain ⟨a, xs, rfl, _⟩ := h
    rfl
  obtain ⟨a, xs, rfl, ha, hz, q1, q2⟩ := h
  refine ⟨_, (pss_cons (ps_for PassesOwn.never rfl (pi_range1 rfl B.rng (pa_cons (pe_callB call_len_seq rfl B.len PySem.boot_len (pa_cons (pv 0) pa_nil)) pa_nil)) (pg_name (i := 1) scWR.nd rfl (Or.inl rfl)) (pss_one (ps_if (pt_cmpR op_notIn_seq (pv 1) (pv 0) (by with_unfolding_all rfl)) (pss_one (ps_ret pe_bl)) pss_nil)))
      (pss_one (ps_ret pe_bl))), ?_⟩
  refine ⟨_, rfl, a, _, rfl, .inr ha, _, rfl, by rw [List.length_map]; omega, by rw [List.length_map]; omega, ?_⟩
  refine for_range (fun i σ H2 => ∃ v1 : Option V, σ = [some (.ref a), v1] ∧ H = H2 ∧ ∀ k : Nat, k < i → (k : Int) ∈ xs) ⟨none, rfl, rfl, fun k hk => by omega⟩ ?_ ?_
  · rintro i σ H2 hi ⟨v1, rfl, rfl, hm⟩
    rw [List.length_map] at hi
    have ei : (0 : Int) + (i : Int) = i := by omega
    rw [ei]
    refine ⟨_, rfl, _, rfl, a, _, rfl, .inr ha, rfl, flat_ints xs, _, rfl, ?_⟩
    rw [if_pos rfl, inV_ints]
    by_cases c : (i : Int) ∈ xs
    · refine iteNS c ⟨_, rfl, rfl, fun k hk => ?_⟩
      by_cases e : k = i
      · rw [e]; exact c
      · exact hm k (by omega)
    · exact iteNT c (q2 fun t => c (t.mem.mpr (by omega)))
  · rintro σ H2 ⟨v1, rfl, rfl, hm⟩
    rw [List.length_map, Int.toNat_natCast] at hm
    refine q1 ?_
    have : (ups 0 xs.length).Perm xs := perm_of (ups_nodup _ _) (fun x hx => by
      have := ups_mem.mp hx
      have h2 := hm x.toNat (by omega)
      rwa [Int.toNat_of_nonneg (by omega)] at h2) (ups_length _ _)
    exact this.symm
/-! ### _law_refuses -/
def spRfs (K : PySem.W.Frag) : Sp := fun vs H Q _ => ∃ (k : Nat) (a b c : Addr) (xs ys : List Int) (row : List V) (gx gy ll lr : Bool), vs = [.int k, .ref a, .ref b, .ref c] ∧ H a = some (.tup (xs.map V.int)) ∧ H b = some (.tup (ys.map V.int)) ∧ SqL K H c row ∧ xs.length ≤ 5 ∧ ys.length ≤ 5 ∧ k < 7 ∧ Kn xs ys row.length gx gy ll lr ∧
  ∀ H', Same H H' → Q (.bl (decide (dueV gx gy ll lr k ≠ dn))) H'
theorem scRfs : FnScope ["_law_which", "_law_one", "_law_two", "_law_row", "e", "_law_under"] ["_law_which", "_law_one", "_law_two", "_law_row"] (defScope sRfs) := ⟨rfl, rfl, rfl, by decide +kernel, rfl, by decide +kernel, by decide +kernel⟩
theorem ok_rfs {cS cB cO cR cN gJ gC gE gK gO gM gN : Addr} {dJ dC dE dK dO dM dN : FuncData} (F : Fun K "_law_refuses" "_law_refuses" sRfs f fd) (B : Blt mg) (xcS : Xc K "SeatError" cS) (xcB : Xc K "BadTurning" cB) (xcO : Xc K "OtherLength" cO) (mcBcS : PySem.W.mroIn K cB (.ref cS) = some true) (mcOcS : PySem.W.mroIn K cO (.ref cS) = some true) (gcB : mg "BadTurning" = some (.ref cB)) (gcO : mg "OtherLength" = some (.ref cO)) (gcR : mg "BadRings" = some (.ref cR)) (gcN : mg "NoRank" = some (.ref cN)) (kacB : Ka K cB) (kacO : Ka K cO) (kcBcB : PySem.W.kitOne K (.ref cB) (.ref cB) = some true) (kcBcO : PySem.W.kitOne K (.ref cB) (.ref cO) = some false) (kcBcR : PySem.W.kitOne K (.ref cB) (.ref cR) = some false) (kcBcN : PySem.W.kitOne K (.ref cB) (.ref cN) = some false) (kcOcB : PySem.W.kitOne K (.ref cO) (.ref cB) = some false) (kcOcO : PySem.W.kitOne K (.ref cO) (.ref cO) = some true) (kcOcR : PySem.W.kitOne K (.ref cO) (.ref cR) = some false) (kcOcN : PySem.W.kitOne K (.ref cO) (.ref cN) = some false) (wcB : PySem.W.kitOne K (.ref cB) (.type "ValueError") = some true) (wcO : PySem.W.kitOne K (.ref cO) (.type "ValueError") = some true)
    (GJ : FnOk P w K mg base (CXx P w) 3 gJ dJ ["one", "two"] (spJoin K cB cO)) (bJ : Binds K dJ ["one", "two"] []) (kJ : PySem.W.keepIn K (.ref gJ) = true) (mJ : mg "joined" = some (.ref gJ))
    (GC : FnOk P w K mg base (CXx P w) 6 gC dC ["turns", "goal"] (spRchG K cB cO)) (bC : Binds K dC ["turns", "goal"] []) (kC : PySem.W.keepIn K (.ref gC) = true) (mC : mg "reached" = some (.ref gC))
    (GE : FnOk P w K mg base (CXx P w) 4 gE dE ["turning", "row"] (spSeat K cB cO)) (bE : Binds K dE ["turning", "row"] []) (kE : PySem.W.keepIn K (.ref gE) = true) (mE : mg "seated" = some (.ref gE))
    (GK : FnOk P w K mg base (CXx P w) 3 gK dK ["turning"] (spBack K cB)) (bK : Binds K dK ["turning"] []) (kK : PySem.W.keepIn K (.ref gK) = true) (mK : mg "turned_back" = some (.ref gK))
    (GO : FnOk P w K mg base (CXx P w) 3 gO dO ["turning"] (spRO K cB)) (bO : Binds K dO ["turning"] []) (kO : PySem.W.keepIn K (.ref gO) = true) (mO : mg "rings_of" = some (.ref gO))
    (GM : FnOk P w K mg base (CXx P w) 4 gM dM ["turning"] (spTR K cB)) (bM : Binds K dM ["turning"] []) (kM : PySem.W.keepIn K (.ref gM) = true) (mM : mg "times_round" = some (.ref gM))
    (GN : FnOk P w K mg base (CXx P w) 3 gN dN ["turning"] (spRank K cB)) (bN : Binds K dN ["turning"] []) (kN : PySem.W.keepIn K (.ref gN) = true) (mN : mg "rank_of" = some (.ref gN)) :
    FnOk P w K mg base CX0 7 f fd ["_law_which", "_law_one", "_law_two", "_law_row"] (spRfs K) := by
  refine F.ok scRfs (fun vs H Q E h => ?_) (fun cdv A outer s H vs Q E hr h => ?_)
  · obtain ⟨k, a, b, c, xs, ys, row, gx, gy, ll, lr, rfl, _⟩ := h
    rfl
  have hr1 : Room 1 _ := hr.mono (by decide)
  have hr2 : Room 2 _ := hr.mono (by decide)
  have hr3 : Room 3 _ := hr.mono (by decide)
  have hr4 : Room 4 _ := hr.mono (by decide)
  have hr5 : Room 5 _ := hr.mono (by decide)
  have hr6 : Room 6 _ := hr
  obtain ⟨k, a, b, c, xs, ys, row, gx, gy, ll, lr, rfl, ha, hb, hc, lx, ly, hk, kn, q⟩ := h
  refine ⟨_, (pss_cons (ps_try rfl ⟨rfl, rfl⟩ (pb_if (pt_cmpR op_eq (pv 0) pe_int (nomark _)) (pb_call GJ hr3 rfl mJ kJ bJ .nil (pa_cons (pv 1) (pa_cons (pv 2) pa_nil))) (pb_if (pt_cmpR op_eq (pv 0) pe_int (nomark _)) (pb_call GC hr6 rfl mC kC bC .nil (pa_cons (pe_lst (pa_cons (pe_callTy call_tuple_of rfl B.tup PyProof.Rows.boot_tuple (pa_cons (pe_comp (cl := []) (ys := []) (js := []) ⟨rfl, by decide +kernel, by decide +kernel, rfl, rfl, (fun p hp => nomatch hp), rfl, by decide +kernel, rfl, (fun y hy => nomatch hy)⟩ rfl (pi_range1 rfl B.rng (pa_cons (pe_callB call_len_seq rfl B.len PySem.boot_len (pa_cons (pv 1) pa_nil)) pa_nil)) (fun _ _ _ _ => pts_nil) (fun _ _ _ _ => (pv 0))) pa_nil)) (pa_cons (pv 2) pa_nil))) (pa_cons (pv 1) pa_nil))) (pb_if (pt_cmpR op_eq (pv 0) pe_int (nomark _)) (pb_call GE hr4 rfl mE kE bE .nil (pa_cons (pv 1) (pa_cons (pv 3) pa_nil))) (pb_if (pt_cmpR op_eq (pv 0) pe_int (nomark _)) (pb_call GK hr3 rfl mK kK bK .nil (pa_cons (pv 1) pa_nil)) (pb_if (pt_cmpR op_eq (pv 0) pe_int (nomark _)) (pb_call GO hr3 rfl mO kO bO .nil (pa_cons (pv 1) pa_nil)) (pb_if (pt_cmpR op_eq (pv 0) pe_int (nomark _)) (pb_call GM hr4 rfl mM kM bM .nil (pa_cons (pv 1) pa_nil)) (pb_call GN hr3 rfl mN kN bN .nil (pa_cons (pv 1) pa_nil)))))))) (ph_as (i := 4) scRfs.nd rfl (Or.inl rfl) xcS rfl (fun ea => (pss_cons (ps_set (i := 5) scRfs.nd rfl (Or.inl rfl) (pe_lst (pa_cons (pe_callB (call_isinstXK K) rfl B.isi PyProof.Rows.boot_isinstance (pa_cons (pv 4) (pa_cons (pe_glob (v := .ref cB) rfl gcB rfl) pa_nil))) (pa_cons (pe_callB (call_isinstXK K) rfl B.isi PyProof.Rows.boot_isinstance (pa_cons (pv 4) (pa_cons (pe_glob (v := .ref cO) rfl gcO rfl) pa_nil))) (pa_cons (pe_callB (call_isinstXK K) rfl B.isi PyProof.Rows.boot_isinstance (pa_cons (pv 4) (pa_cons (pe_glob (v := .ref cR) rfl gcR rfl) pa_nil))) pa_nil)))))
      (pss_cons (ps_set (i := 5) scRfs.nd rfl (Or.inl rfl) (pe_op op_cat (pv 5) (pe_lst (pa_cons (pe_callB (call_isinstXK K) rfl B.isi PyProof.Rows.boot_isinstance (pa_cons (pv 4) (pa_cons (pe_glob (v := .ref cN) rfl gcN rfl) pa_nil))) pa_nil))))
      (pss_one (ps_ret (pe_and (pe_callB (call_isinstXK K) rfl B.isi PyProof.Rows.boot_isinstance (pa_cons (pv 4) (pa_cons (pe_bltn (v := .ty "ValueError") rfl B.verr boot_VE rfl) pa_nil))) (pe_one (pe_cmpR op_eq (pe_bmK K PySem.F.plainAttrs_list PySem.F.slot_list_count PySem.F.type_list_count (mt_countK K) (pv 5) (pa_cons pe_bl pa_nil)) pe_int (nomark _))))))))) ph_nil))
      (pss_one (ps_ret pe_bl))), ?_⟩
  refine ⟨fun c _ H' => Same H H' ∧ ((c = .ref cB ∧ dueV gx gy ll lr k = tn) ∨ (c = .ref cO ∧ dueV gx gy ll lr k = ln)), ?_, ?_⟩
  · have hk' : k = 0 ∨ k = 1 ∨ k = 2 ∨ k = 3 ∨ k = 4 ∨ k = 5 ∨ k = 6 := by omega
    rcases hk' with rfl | rfl | rfl | rfl | rfl | rfl | rfl
    · exact ⟨_, rfl, rfl, _, rfl, iteTn rfl ⟨_, rfl, _, rfl, a, b, xs, ys, rfl, SqT.of ha, SqT.of hb, by omega, by omega, fun nb H' sm => ⟨sm, .inl ⟨rfl, kn.bad nb 0 (by decide)⟩⟩, fun tx ty nl H' sm => ⟨sm, .inr ⟨rfl, kn.far tx ty nl 0 (by decide)⟩⟩, fun tx ty el r H' sm _ => (by have z := q H' sm; rw [kn.ok tx ty el 0 (by decide)] at z; exact z)⟩⟩
    · refine ⟨_, rfl, rfl, _, rfl, iteFn (fun z => by injection z with z; omega) ⟨_, rfl, rfl, _, rfl, iteTn rfl ?_⟩⟩
      refine ⟨_, rfl, a, _, rfl, .inr (SqT.of ha), _, rfl, by rw [List.length_map]; omega, by rw [List.length_map]; omega, comp_rng (fun k => .int (0 + (k : Int))) (by rw [List.length_map]; omega) (fun k H' Q' hk sm hq => ⟨_, rfl, hq⟩) fun D H1 nD sm1 hD => ?_⟩
      refine ⟨D, _, rfl, .inl ⟨SqL.of hD, fun l hl => ?_⟩⟩
      have gl := same_new hl (.tup ((List.range (((xs.map V.int).length : Nat) : Int).toNat).map fun (k : Nat) => V.int (0 + (k : Int))))
      have el : (upd H1 l (.tup ((List.range (((xs.map V.int).length : Nat) : Int).toNat).map fun (k : Nat) => V.int (0 + (k : Int))))) l = some (.tup ((ups 0 xs.length).map V.int)) := by
        rw [upd_same, List.length_map, Int.toNat_natCast]
        unfold ups
        rw [List.map_map]
        rfl
      have s1 := sm1.trans gl
      generalize upd H1 l (.tup ((List.range (((xs.map V.int).length : Nat) : Int).toNat).map fun (k : Nat) => V.int (0 + (k : Int)))) = H2 at el s1 gl ⊢
      refine ⟨_, rfl, by show 2 ≤ sizeLine; decide, fun pr hpr => ?_⟩
      have gr := s1.trans (same_new hpr (.lst [V.ref l, V.ref b]))
      refine ⟨_, rfl, pr, a, [l, b], [ups 0 xs.length, ys], xs, rfl, upd_same, .cons (same_new hpr _ _ _ el) (.cons (gr _ _ hb) .nil), gr _ _ ha, by omega, fun u hu => ?_, fun nb H' sm => ⟨gr.trans sm, .inl ⟨rfl, kn.bad (fun z => ?_) 1 (by decide)⟩⟩, fun tx ty nl H' sm => ⟨gr.trans sm, .inr ⟨rfl, kn.far tx (ty ys (by simp)) (fun z => ?_) 1 (by decide)⟩⟩, fun tx T r p w H' sm _ _ _ _ _ _ => ?_, fun tx T r p rs ls H' sm _ _ _ _ _ _ _ _ => ?_⟩
      · rcases List.mem_cons.mp hu with z | z
        · rw [z, ups_length]; omega
        · rw [List.mem_singleton.mp z]; omega
      · rcases nb with nb | ⟨u, hu, nb⟩
        · exact nb z.1
        · rcases List.mem_cons.mp hu with y | y
          · rw [y] at nb; exact nb (isT_ups _)
          · rw [List.mem_singleton.mp y] at nb; exact nb z.2
      · obtain ⟨u, hu, nu⟩ := nl
        rcases List.mem_cons.mp hu with y | y
        · rw [y, ups_length] at nu; exact nu rfl
        · rw [List.mem_singleton.mp y] at nu; exact nu z.symm
      · have sm := gr.trans sm
        have tx' := tx
        have ee := kn.ok tx (T.is ys (by simp)) (T.len ys (by simp)).symm 1 (by decide)
        exact (by have z := q H' sm; rw [ee] at z; exact z)
      · have sm := gr.trans sm
        have tx' := tx
        have ee := kn.ok tx (T.is ys (by simp)) (T.len ys (by simp)).symm 1 (by decide)
        exact (by have z := q H' sm; rw [ee] at z; exact z)
    · exact ⟨_, rfl, rfl, _, rfl, iteFn (fun z => by injection z with z; omega) (⟨_, rfl, rfl, _, rfl, iteFn (fun z => by injection z with z; omega) (⟨_, rfl, rfl, _, rfl, iteTn rfl ⟨_, rfl, _, rfl, a, c, xs, row, rfl, SqT.of ha, hc, by omega, fun nb H' sm => ⟨sm, .inl ⟨rfl, kn.badx nb 2 (by decide)⟩⟩, fun tx nl H' sm => ⟨sm, .inr ⟨rfl, kn.farr tx nl⟩⟩, fun tx el r H' sm _ => (by have z := q H' sm; rw [kn.okr tx el] at z; exact z)⟩⟩)⟩)⟩
    · exact ⟨_, rfl, rfl, _, rfl, iteFn (fun z => by injection z with z; omega) (⟨_, rfl, rfl, _, rfl, iteFn (fun z => by injection z with z; omega) (⟨_, rfl, rfl, _, rfl, iteFn (fun z => by injection z with z; omega) (⟨_, rfl, rfl, _, rfl, iteTn rfl ⟨_, rfl, a, xs, rfl, SqT.of ha, by omega, fun tx r H' sm _ => (by have z := q H' sm; rw [kn.okx tx 3 (by decide)] at z; exact z), fun nb H' sm => ⟨sm, .inl ⟨rfl, kn.badx nb 3 (by decide)⟩⟩⟩⟩)⟩)⟩)⟩
    · exact ⟨_, rfl, rfl, _, rfl, iteFn (fun z => by injection z with z; omega) (⟨_, rfl, rfl, _, rfl, iteFn (fun z => by injection z with z; omega) (⟨_, rfl, rfl, _, rfl, iteFn (fun z => by injection z with z; omega) (⟨_, rfl, rfl, _, rfl, iteFn (fun z => by injection z with z; omega) (⟨_, rfl, rfl, _, rfl, iteTn rfl ⟨_, rfl, a, xs, rfl, SqT.of ha, by omega, fun tx r rs fs H' _ sm _ _ _ => (by have z := q H' sm; rw [kn.okx tx 4 (by decide)] at z; exact z), fun nb H' sm => ⟨sm, .inl ⟨rfl, kn.badx nb 4 (by decide)⟩⟩⟩⟩)⟩)⟩)⟩)⟩
    · exact ⟨_, rfl, rfl, _, rfl, iteFn (fun z => by injection z with z; omega) (⟨_, rfl, rfl, _, rfl, iteFn (fun z => by injection z with z; omega) (⟨_, rfl, rfl, _, rfl, iteFn (fun z => by injection z with z; omega) (⟨_, rfl, rfl, _, rfl, iteFn (fun z => by injection z with z; omega) (⟨_, rfl, rfl, _, rfl, iteFn (fun z => by injection z with z; omega) (⟨_, rfl, rfl, _, rfl, iteTn rfl ⟨_, rfl, a, xs, rfl, SqT.of ha, by omega, fun tx fs H' sm _ => (by have z := q H' sm; rw [kn.okx tx 5 (by decide)] at z; exact z), fun nb H' sm => ⟨sm, .inl ⟨rfl, kn.badx nb 5 (by decide)⟩⟩⟩⟩)⟩)⟩)⟩)⟩)⟩
    · exact ⟨_, rfl, rfl, _, rfl, iteFn (fun z => by injection z with z; omega) (⟨_, rfl, rfl, _, rfl, iteFn (fun z => by injection z with z; omega) (⟨_, rfl, rfl, _, rfl, iteFn (fun z => by injection z with z; omega) (⟨_, rfl, rfl, _, rfl, iteFn (fun z => by injection z with z; omega) (⟨_, rfl, rfl, _, rfl, iteFn (fun z => by injection z with z; omega) (⟨_, rfl, rfl, _, rfl, iteFn (fun z => by injection z with z; omega) (⟨_, rfl, a, xs, rfl, SqT.of ha, by omega, fun tx H' sm => (by have z := q H' sm; rw [kn.okx tx 6 (by decide)] at z; exact z), fun nb H' sm => ⟨sm, .inl ⟨rfl, kn.badx nb 6 (by decide)⟩⟩⟩)⟩)⟩)⟩)⟩)⟩)⟩
  · rintro C ea H1 ⟨s1, z⟩ hea
    rcases z with ⟨ec, ed⟩ | ⟨ec, ed⟩
    · obtain rfl : C = cB := by injection ec
      refine ⟨xcB.toXe, true, mcBcS, iteT ?_⟩
      have s2 := s1.trans (same_new hea (.ext (exOf ea C)))
      have he : (upd H1 ea (.ext (exOf ea C))) ea = some (.ext (exOf ea C)) := upd_same
      generalize upd H1 ea (.ext (exOf ea C)) = H2 at s2 he ⊢
      refine ⟨_, rfl, ea, C, .ref C, .ref C, true, rfl, rfl, fun _ r => r, he, kacB, kcBcB, _, rfl, ea, C, .ref cO, .ref cO, false, rfl, rfl, fun _ r => r, he, kacB, kcBcO, _, rfl, ea, C, .ref cR, .ref cR, false, rfl, rfl, fun _ r => r, he, kacB, kcBcR, by show 3 ≤ sizeLine; decide, fun pU hpU => ?_⟩
      have g3 := same_new hpU (.lst [V.bl true, V.bl false, V.bl false])
      have he3 := g3 _ _ he
      refine ⟨_, rfl, _, rfl, ea, C, .ref cN, .ref cN, false, rfl, rfl, fun _ r => r, he3, kacB, kcBcN, by show 1 ≤ sizeLine; decide, fun pV hpV => ?_⟩
      have g4 := same_new hpV (.lst [V.bl false])
      refine ⟨pU, pV, _, _, rfl, rfl, g4 _ _ upd_same, upd_same, by show 4 ≤ sizeLine; decide, fun pW hpW => ?_⟩
      have g5 := same_new hpW (.lst ([V.bl true, V.bl false, V.bl false] ++ [V.bl false]))
      have he5 := g5 _ _ (g4 _ _ he3)
      refine ⟨_, rfl, ea, C, .ty "ValueError", .type "ValueError", true, rfl, rfl, fun _ r => r, he5, kacB, wcB, true, rfl, iteT ?_⟩
      refine ⟨_, rfl, .inl ⟨rfl, _, SqL.of upd_same⟩, pW, [true, false, false, false], true, rfl, rfl, SqL.of upd_same, rfl, ?_⟩
      have e1 : PySem.Spec.countIn (.bool true) ([true, false, false, false].map PyData.bool) = 1 := by decide
      rw [e1, decide_eq_true rfl]
      have z := q _ (s2.trans (g3.trans (g4.trans g5)))
      rw [ed] at z
      exact z
    · obtain rfl : C = cO := by injection ec
      refine ⟨xcO.toXe, true, mcOcS, iteT ?_⟩
      have s2 := s1.trans (same_new hea (.ext (exOf ea C)))
      have he : (upd H1 ea (.ext (exOf ea C))) ea = some (.ext (exOf ea C)) := upd_same
      generalize upd H1 ea (.ext (exOf ea C)) = H2 at s2 he ⊢
      refine ⟨_, rfl, ea, C, .ref cB, .ref cB, false, rfl, rfl, fun _ r => r, he, kacO, kcOcB, _, rfl, ea, C, .ref C, .ref C, true, rfl, rfl, fun _ r => r, he, kacO, kcOcO, _, rfl, ea, C, .ref cR, .ref cR, false, rfl, rfl, fun _ r => r, he, kacO, kcOcR, by show 3 ≤ sizeLine; decide, fun pU hpU => ?_⟩
      have g3 := same_new hpU (.lst [V.bl false, V.bl true, V.bl false])
      have he3 := g3 _ _ he
      refine ⟨_, rfl, _, rfl, ea, C, .ref cN, .ref cN, false, rfl, rfl, fun _ r => r, he3, kacO, kcOcN, by show 1 ≤ sizeLine; decide, fun pV hpV => ?_⟩
      have g4 := same_new hpV (.lst [V.bl false])
      refine ⟨pU, pV, _, _, rfl, rfl, g4 _ _ upd_same, upd_same, by show 4 ≤ sizeLine; decide, fun pW hpW => ?_⟩
      have g5 := same_new hpW (.lst ([V.bl false, V.bl true, V.bl false] ++ [V.bl false]))
      have he5 := g5 _ _ (g4 _ _ he3)
      refine ⟨_, rfl, ea, C, .ty "ValueError", .type "ValueError", true, rfl, rfl, fun _ r => r, he5, kacO, wcO, true, rfl, iteT ?_⟩
      refine ⟨_, rfl, .inl ⟨rfl, _, SqL.of upd_same⟩, pW, [false, true, false, false], true, rfl, rfl, SqL.of upd_same, rfl, ?_⟩
      have e1 : PySem.Spec.countIn (.bool true) ([false, true, false, false].map PyData.bool) = 1 := by decide
      rw [e1, decide_eq_true rfl]
      have z := q _ (s2.trans (g3.trans (g4.trans g5)))
      rw [ed] at z
      exact z
end
end KP

set_option Elab.async false
set_option linter.all false
set_option maxRecDepth 100000
set_option maxHeartbeats 4000000
namespace KP
open PySem L2 Tm
section
variable {P : Program} {w : World} {K : PySem.W.Frag} {mg : Str → Option Value} {base : Heap} {f g : Addr} {fd gd : FuncData}
/-! ### law -/
def due1 (ll : Bool) : List V := if ll = true then [dn, dn, dn, dn, dn, dn, dn] else [ln, ln, dn, dn, dn, dn, dn]
def due2 (ll lr : Bool) : List V := if lr = true then due1 ll else (due1 ll).set 2 ln
def due3 (gx ll lr : Bool) : List V := if gx = true then due2 ll lr else [tn, tn, tn, tn, tn, tn, tn]
def due4 (gx gy ll lr : Bool) : List V := if gy = true then due3 gx ll lr else ((due3 gx ll lr).set 0 tn).set 1 tn
theorem due4_get (gx gy ll lr : Bool) {k : Nat} (hk : k < 7) : (due4 gx gy ll lr)[k]? = some (dueV gx gy ll lr k) := by
  have : k = 0 ∨ k = 1 ∨ k = 2 ∨ k = 3 ∨ k = 4 ∨ k = 5 ∨ k = 6 := by omega
  cases gx <;> cases gy <;> cases ll <;> cases lr <;> rcases this with rfl | rfl | rfl | rfl | rfl | rfl | rfl <;> rfl
theorem due_str (gx gy ll lr : Bool) {k : Nat} (hk : k < 7) : ∃ s, dueV gx gy ll lr k = .str s := by
  have : k = 0 ∨ k = 1 ∨ k = 2 ∨ k = 3 ∨ k = 4 ∨ k = 5 ∨ k = 6 := by omega
  cases gx <;> cases gy <;> cases ll <;> cases lr <;> rcases this with rfl | rfl | rfl | rfl | rfl | rfl | rfl <;> exact ⟨_, rfl⟩
theorem due1_len (ll : Bool) : (due1 ll).length = 7 := by cases ll <;> rfl
theorem due3_len (gx ll lr : Bool) : (due3 gx ll lr).length = 7 := by cases gx <;> cases ll <;> cases lr <;> rfl
def spLaw (K : PySem.W.Frag) : Sp := fun vs H Q _ => ∃ (a : Addr) (ns : List Int), vs = [.ref a] ∧ SqL K H a (ns.map V.int) ∧ ns.length ≤ 63 ∧ ∀ H', Q (.bl true) H'
theorem scLaw : FnScope ["_law_script", "_law_seed", "_law_size", "_law_one", "_law_two", "_law_row", "_law_good", "_law_due", "_law_which"] ["_law_script"] (defScope sLaw) := ⟨rfl, rfl, rfl, by decide +kernel, rfl, by decide +kernel, by decide +kernel⟩
theorem ok_law {gA gT gP gW gS gF : Addr} {dA dT dP dW dS dF : FuncData} (F : Fun K "law" "law" sLaw f fd) (B : Blt mg)
    (GA : FnOk P w K mg base CX0 1 gA dA ["_law_script", "_law_k"] (spAt K)) (bA : Binds K dA ["_law_script", "_law_k"] []) (kA : PySem.W.keepIn K (.ref gA) = true) (mA : mg "_law_at" = some (.ref gA))
    (GT : FnOk P w K mg base CX0 1 gT dT ["_law_cells"] (spTb K)) (bT : Binds K dT ["_law_cells"] []) (kT : PySem.W.keepIn K (.ref gT) = true) (mT : mg "_law_turning_by" = some (.ref gT))
    (GP : FnOk P w K mg base CX0 1 gP dP ["_law_turning", "_law_way", "_law_seed"] (spSp K)) (bP : Binds K dP ["_law_turning", "_law_way", "_law_seed"] []) (kP : PySem.W.keepIn K (.ref gP) = true) (mP : mg "_law_spoilt" = some (.ref gP))
    (GW : FnOk P w K mg base CX0 1 gW dW ["_law_turning"] (spWR K)) (bW : Binds K dW ["_law_turning"] []) (kW : PySem.W.keepIn K (.ref gW) = true) (mW : mg "_law_whole_row" = some (.ref gW))
    (GS : FnOk P w K mg base CX0 7 gS dS ["_law_which", "_law_one", "_law_two", "_law_row"] (spSaid K)) (bS : Binds K dS ["_law_which", "_law_one", "_law_two", "_law_row"] []) (kS : PySem.W.keepIn K (.ref gS) = true) (mS : mg "_law_said" = some (.ref gS))
    (GF : FnOk P w K mg base CX0 7 gF dF ["_law_which", "_law_one", "_law_two", "_law_row"] (spRfs K)) (bF : Binds K dF ["_law_which", "_law_one", "_law_two", "_law_row"] []) (kF : PySem.W.keepIn K (.ref gF) = true) (mF : mg "_law_refuses" = some (.ref gF)) :
    FnOk P w K mg base CX0 8 f fd ["_law_script"] (spLaw K) := by
  refine F.ok scLaw (fun vs H Q E h => ?_) (fun cdv A outer s H vs Q E hr h => ?_)
  · obtain ⟨a, ns, rfl, _⟩ := h
    rfl
  have hr1 : Room 1 _ := hr.mono (by decide)
  have hr2 : Room 2 _ := hr.mono (by decide)
  have hr3 : Room 3 _ := hr.mono (by decide)
  have hr4 : Room 4 _ := hr.mono (by decide)
  have hr5 : Room 5 _ := hr.mono (by decide)
  have hr6 : Room 6 _ := hr.mono (by decide)
  have hr7 : Room 7 _ := hr
  have hu64 := hr.units
  obtain ⟨a, ns, rfl, hS, h63, q⟩ := h
  refine ⟨_, (pss_cons (ps_set (i := 0) scLaw.nd rfl (Or.inr rfl) (pe_slice sl_list (pv 0) po_none (po_some pe_int)))
      (pss_cons (ps_set (i := 1) scLaw.nd rfl (Or.inl rfl) (pe_call GA hr1 rfl mA kA bA .nil pass0 (pa_cons (pv 0) (pa_cons pe_int pa_nil))))
      (pss_cons (ps_set (i := 2) scLaw.nd rfl (Or.inl rfl) (pe_op op_add pe_int (pe_op op_mod (pe_op op_fdiv (pv 1) pe_int) pe_int)))
      (pss_cons (ps_set (i := 3) scLaw.nd rfl (Or.inl rfl) (pe_call GT hr1 rfl mT kT bT .nil pass0 (pa_cons (pe_comp (cl := [("_law_script", s.heap.objs.size + 1)]) (ys := ["_law_script"]) (js := [0]) ⟨rfl, by decide +kernel, by decide +kernel, rfl, rfl, (by intro p hp; simp only [List.mem_cons, List.not_mem_nil, or_false] at hp; rcases hp with rfl <;> rfl), rfl, by decide +kernel, rfl, (by intro y hy; simp only [List.mem_cons, List.not_mem_nil, or_false] at hy; rcases hy with rfl <;> exact ⟨rfl, rfl⟩)⟩ rfl (pi_range1 rfl B.rng (pa_cons (pv 2) pa_nil)) (fun _ _ _ _ => pts_nil) (fun _ _ _ _ => (pe_call GA hr1 rfl mA kA bA .nil pass0 (pa_cons (pv 1) (pa_cons (pe_op op_add pe_int (pv 0)) pa_nil))))) pa_nil)))
      (pss_cons (ps_set (i := 4) scLaw.nd rfl (Or.inl rfl) (pe_call GT hr1 rfl mT kT bT .nil pass0 (pa_cons (pe_comp (cl := [("_law_script", s.heap.objs.size + 1)]) (ys := ["_law_script"]) (js := [0]) ⟨rfl, by decide +kernel, by decide +kernel, rfl, rfl, (by intro p hp; simp only [List.mem_cons, List.not_mem_nil, or_false] at hp; rcases hp with rfl <;> rfl), rfl, by decide +kernel, rfl, (by intro y hy; simp only [List.mem_cons, List.not_mem_nil, or_false] at hy; rcases hy with rfl <;> exact ⟨rfl, rfl⟩)⟩ rfl (pi_range1 rfl B.rng (pa_cons (pe_op op_add pe_int (pe_op op_mod (pe_op op_fdiv (pv 1) pe_int) pe_int)) pa_nil)) (fun _ _ _ _ => pts_nil) (fun _ _ _ _ => (pe_call GA hr1 rfl mA kA bA .nil pass0 (pa_cons (pv 1) (pa_cons (pe_op op_add pe_int (pv 0)) pa_nil))))) pa_nil)))
      (pss_cons (ps_set (i := 3) scLaw.nd rfl (Or.inl rfl) (pe_call GP hr1 rfl mP kP bP .nil pass0 (pa_cons (pv 3) (pa_cons (pe_op op_mod (pe_call GA hr1 rfl mA kA bA .nil pass0 (pa_cons (pv 0) (pa_cons pe_int pa_nil))) pe_int) (pa_cons (pv 1) pa_nil)))))
      (pss_cons (ps_set (i := 4) scLaw.nd rfl (Or.inl rfl) (pe_call GP hr1 rfl mP kP bP .nil pass0 (pa_cons (pv 4) (pa_cons (pe_op op_mod (pe_op op_fdiv (pe_call GA hr1 rfl mA kA bA .nil pass0 (pa_cons (pv 0) (pa_cons pe_int pa_nil))) pe_int) pe_int) (pa_cons (pe_op op_fdiv (pv 1) pe_int) pa_nil)))))
      (pss_cons (ps_set (i := 5) scLaw.nd rfl (Or.inl rfl) (pe_op op_rep (pe_lst (pa_cons pe_str pa_nil)) (pe_op op_add pe_int (pe_op op_mod (pe_op op_fdiv (pe_call GA hr1 rfl mA kA bA .nil pass0 (pa_cons (pv 0) (pa_cons pe_int pa_nil))) pe_int) pe_int))))
      (pss_cons (ps_set (i := 6) scLaw.nd rfl (Or.inl rfl) (pe_call GW hr1 rfl mW kW bW .nil pass0 (pa_cons (pv 3) pa_nil)))
      (pss_cons (ps_set (i := 7) scLaw.nd rfl (Or.inl rfl) (pe_op op_rep (pe_lst (pa_cons pe_str pa_nil)) pe_int))
      (pss_cons (ps_if (pt_cmpR op_ne (pe_callB call_len_seq rfl B.len PySem.boot_len (pa_cons (pv 3) pa_nil)) (pe_callB call_len_seq rfl B.len PySem.boot_len (pa_cons (pv 4) pa_nil)) (nomark _)) (pss_one (ps_set (i := 7) scLaw.nd rfl (Or.inl rfl) (pe_op op_cat (pe_lst (pa_cons pe_str (pa_cons pe_str pa_nil))) (pe_op op_rep (pe_lst (pa_cons pe_str pa_nil)) pe_int)))) pss_nil)
      (pss_cons (ps_if (pt_cmpR op_ne (pe_callB call_len_seq rfl B.len PySem.boot_len (pa_cons (pv 3) pa_nil)) (pe_callB call_len_seq rfl B.len PySem.boot_len (pa_cons (pv 5) pa_nil)) (nomark _)) (pss_one (ps_asg pe_str (pg_sub (pv 7) pe_int set_list))) pss_nil)
      (pss_cons (ps_if (pt_not (pt_val (pv 6))) (pss_one (ps_set (i := 7) scLaw.nd rfl (Or.inl rfl) (pe_op op_rep (pe_lst (pa_cons pe_str pa_nil)) pe_int))) pss_nil)
      (pss_cons (ps_if (pt_not (pt_val (pe_call GW hr1 rfl mW kW bW .nil pass0 (pa_cons (pv 4) pa_nil)))) (pss_cons (ps_asg pe_str (pg_sub (pv 7) pe_int set_list))
      (pss_one (ps_asg pe_str (pg_sub (pv 7) pe_int set_list)))) pss_nil)
      (pss_cons (ps_for PassesOwn.never rfl (pi_range1 rfl B.rng (pa_cons pe_int pa_nil)) (pg_name (i := 8) scLaw.nd rfl (Or.inl rfl)) (pss_cons (ps_if (pt_cmpR op_ne (pe_call GS hr7 rfl mS kS bS .nil pass0 (pa_cons (pv 8) (pa_cons (pv 3) (pa_cons (pv 4) (pa_cons (pe_callTy call_list_of rfl B.list PyProof.Rows.boot_list (pa_cons (pv 5) pa_nil)) pa_nil))))) (pe_ix ix_list (pv 7) (pv 8) (fun _ _ => rfl)) (nomark _)) (pss_one (ps_ret pe_bl)) pss_nil)
      (pss_one (ps_if (pt_cmpR op_ne (pe_call GF hr7 rfl mF kF bF .nil pass0 (pa_cons (pv 8) (pa_cons (pv 3) (pa_cons (pv 4) (pa_cons (pe_callTy call_list_of rfl B.list PyProof.Rows.boot_list (pa_cons (pv 5) pa_nil)) pa_nil))))) (pe_cmpR op_ne (pe_ix ix_list (pv 7) (pv 8) (fun _ _ => rfl)) pe_str (nomark _)) (nomark _)) (pss_one (ps_ret pe_bl)) pss_nil))))
      (pss_one (ps_ret pe_bl))))))))))))))))), ?_⟩
  -- script[:500]
  refine ⟨_, rfl, _, rfl, a, _, rfl, hS, fun p0 hp0 => ?_⟩
  have e0 : cutV (ns.map V.int) none (some 500) = ns.map V.int := by
    rw [cutV_map_take (by decide), List.take_of_length_le (by show ns.length ≤ 500; omega)]
  have hS0 : SqL K (upd H p0 (.lst (cutV (ns.map V.int) none (some 500)))) p0 (ns.map V.int) := SqL.of (by rw [upd_same, e0])
  generalize upd H p0 (.lst (cutV (ns.map V.int) none (some 500))) = H0 at hS0
  -- seed
  refine ⟨_, rfl, p0, ns, 1, rfl, hS0, by decide, ?_⟩
  generalize ns.getD (1 : Int).toNat 0 = seed
  -- size
  try dsimp only
  refine mid (fun σ' H' => ∃ n : Nat, σ' = [some (.ref p0), some (.int seed), some (.int (n : Int)), none, none, none, none, none, none] ∧ 1 ≤ n ∧ n ≤ 5 ∧ H0 = H') ?_ ?_
  case refine_2 =>
    intro N hN
    have m0 := Int.emod_nonneg (seed / 4) (by decide : (5 : Int) ≠ 0)
    have m1 := Int.emod_lt_of_pos (seed / 4) (by decide : (0 : Int) < 5)
    refine ⟨_, rfl, _, _, rfl, rfl, ⟨by decide, by decide⟩, _, _, rfl, rfl, (by show (0 : Int) < 5; decide), _, _, rfl, rfl, hN _ _ ⟨(1 + seed / 4 % 5).toNat, ?_, by omega, by omega, rfl⟩⟩
    rw [Int.toNat_of_nonneg (by omega)]
    rfl
  rintro σ' H' ⟨n, rfl, n1, n5, rfl⟩
  -- one
  try dsimp only
  refine mid (fun σ' H' => ∃ (r : Addr) (xs : List Int), σ' = [some (.ref p0), some (.int seed), some (.int (n : Int)), some (.ref r), none, none, none, none, none] ∧ Same H0 H' ∧ H' r = some (.tup (xs.map V.int)) ∧ 0 < xs.length ∧ xs.length ≤ 5) ?_ ?_
  case refine_2 =>
    intro N hN
    refine ⟨_, rfl, _, rfl, by omega, by omega, comp_rng (fun (i : Nat) => .int (ns.getD ((2 : Int) + (0 + (i : Int))).toNat 0)) (by omega) (fun i H' Q' hi sm hq => ⟨_, rfl, _, rfl, _, _, rfl, rfl, p0, ns, _, rfl, sm.seq hS0, by show (0 : Int) ≤ 2 + (0 + (i : Int)); omega, hq⟩) fun D H1 nD s1 hD => ?_⟩
    refine ⟨D, (List.range n).map fun (i : Nat) => ns.getD ((2 : Int) + (0 + (i : Int))).toNat 0, rfl, SqL.of (by rw [hD, Int.toNat_natCast, List.map_map]; rfl), by rw [List.length_map, List.length_range]; omega, fun r H2 g2 hr => hN _ _ ⟨r, _, rfl, s1.trans g2, hr, ?_, ?_⟩⟩
    · rw [turnBy_length, List.length_map, List.length_range]; omega
    · rw [turnBy_length, List.length_map, List.length_range]; omega
  rintro σ' H1 ⟨r1, xs1, rfl, s1, hr1, x0, x5⟩
  have hS1 := s1.seq hS0
  -- two
  try dsimp only
  refine mid (fun σ' H' => ∃ (r : Addr) (ys : List Int), σ' = [some (.ref p0), some (.int seed), some (.int (n : Int)), some (.ref r1), some (.ref r), none, none, none, none] ∧ Same H1 H' ∧ H' r = some (.tup (ys.map V.int)) ∧ 0 < ys.length ∧ ys.length ≤ 5) ?_ ?_
  case refine_2 =>
    intro N hN
    have m0 := Int.emod_nonneg (seed / 20) (by decide : (5 : Int) ≠ 0)
    have m1 := Int.emod_lt_of_pos (seed / 20) (by decide : (0 : Int) < 5)
    refine ⟨_, rfl, _, _, rfl, rfl, ⟨by decide, by decide⟩, _, _, rfl, rfl, (by show (0 : Int) < 5; decide), _, _, rfl, rfl, 1 + seed / 20 % 5, rfl, by omega, by omega, comp_rng (fun (i : Nat) => .int (ns.getD ((3 : Int) + (0 + (i : Int))).toNat 0)) (by omega) (fun i H' Q' hi sm hq => ⟨_, rfl, _, rfl, _, _, rfl, rfl, p0, ns, _, rfl, sm.seq hS1, by show (0 : Int) ≤ 3 + (0 + (i : Int)); omega, hq⟩) fun D H2 nD s2 hD => ?_⟩
    refine ⟨D, (List.range (1 + seed / 20 % 5).toNat).map fun (i : Nat) => ns.getD ((3 : Int) + (0 + (i : Int))).toNat 0, rfl, SqL.of (by rw [hD, List.map_map]; rfl), by rw [List.length_map, List.length_range]; omega, fun r H3 g3 hr => hN _ _ ⟨r, _, rfl, s2.trans g3, hr, ?_, ?_⟩⟩
    · rw [turnBy_length, List.length_map, List.length_range]; omega
    · rw [turnBy_length, List.length_map, List.length_range]; omega
  rintro σ' H2 ⟨r2, ys1, rfl, s2, hr2, y0, y5⟩
  have hS2 := s2.seq hS1
  have hr12 := s2 _ _ hr1
  generalize ns.getD (0 : Int).toNat 0 = c0 at *
  -- spoilt
  try dsimp only
  refine mid (fun σ' H' => ∃ (r : Addr) (xs : List Int), σ' = [some (.ref p0), some (.int seed), some (.int (n : Int)), some (.ref r), some (.ref r2), none, none, none, none] ∧ Same H2 H' ∧ H' r = some (.tup (xs.map V.int)) ∧ xs.length ≤ 5) ?_ ?_
  case refine_2 =>
    intro N hN
    have m0 := Int.emod_nonneg (ns.getD (0 : Int).toNat 0) (by decide : (4 : Int) ≠ 0)
    have m1 := Int.emod_lt_of_pos (ns.getD (0 : Int).toNat 0) (by decide : (0 : Int) < 4)
    exact ⟨_, rfl, _, rfl, p0, ns, 0, rfl, hS2, by decide, _, _, rfl, rfl, (by show (0 : Int) < 4; decide), _, rfl, r1, ns.getD (0 : Int).toNat 0 % 4, seed, xs1, rfl, hr12, x0, by omega, m0, by omega, fun p zs H' sm hp el => hN _ _ ⟨p, zs, rfl, sm, hp, by omega⟩⟩
  rintro σ' H3 ⟨rx, xs, rfl, s3, hrx3, lx⟩
  have hS3 := s3.seq hS2
  have hr23 := s3 _ _ hr2
  try dsimp only
  refine mid (fun σ' H' => ∃ (r : Addr) (ys : List Int), σ' = [some (.ref p0), some (.int seed), some (.int (n : Int)), some (.ref rx), some (.ref r), none, none, none, none] ∧ Same H3 H' ∧ H' r = some (.tup (ys.map V.int)) ∧ ys.length ≤ 5) ?_ ?_
  case refine_2 =>
    intro N hN
    have m0 := Int.emod_nonneg (ns.getD (0 : Int).toNat 0 / 4) (by decide : (4 : Int) ≠ 0)
    have m1 := Int.emod_lt_of_pos (ns.getD (0 : Int).toNat 0 / 4) (by decide : (0 : Int) < 4)
    exact ⟨_, rfl, _, rfl, p0, ns, 0, rfl, hS3, by decide, _, _, rfl, rfl, ⟨by decide, by decide⟩, _, _, rfl, rfl, (by show (0 : Int) < 4; decide), _, rfl, _, _, rfl, rfl, ⟨by decide, by decide⟩, r2, ns.getD (0 : Int).toNat 0 / 4 % 4, _, ys1, rfl, hr23, y0, by omega, m0, by omega, fun p zs H' sm hp el => hN _ _ ⟨p, zs, rfl, sm, hp, by omega⟩⟩
  rintro σ' H4 ⟨ry, ys, rfl, s4, hry4, ly⟩
  have hS4 := s4.seq hS3
  have hrx4 := s4 _ _ hrx3
  -- row
  try dsimp only
  refine mid (fun σ' H' => ∃ (pr : Addr) (row : List V), σ' = [some (.ref p0), some (.int seed), some (.int (n : Int)), some (.ref rx), some (.ref ry), some (.ref pr), none, none, none] ∧ Same H4 H' ∧ H' pr = some (.lst row) ∧ row.length ≤ 5) ?_ ?_
  case refine_2 =>
    intro N hN
    have m0 := Int.emod_nonneg (ns.getD (0 : Int).toNat 0 / 16) (by decide : (5 : Int) ≠ 0)
    have m1 := Int.emod_lt_of_pos (ns.getD (0 : Int).toNat 0 / 16) (by decide : (0 : Int) < 5)
    refine ⟨by show 1 ≤ sizeLine; decide, fun pg hpg => ?_⟩
    have gg := same_new hpg (.lst [V.str "g"])
    refine ⟨_, rfl, p0, ns, 0, rfl, gg.seq hS4, by decide, _, _, rfl, rfl, ⟨by decide, by decide⟩, _, _, rfl, rfl, (by show (0 : Int) < 5; decide), _, _, rfl, rfl, pg, 1 + ns.getD (0 : Int).toNat 0 / 16 % 5, _, rfl, rfl, upd_same, by omega, by omega, ?_, fun pr hpr => hN _ _ ⟨pr, _, rfl, gg.trans (same_new hpr _), upd_same, ?_⟩⟩
    · rw [List.length_singleton]
      exact small_of (by omega)
    · rw [len_rep, List.length_singleton]
      omega
  rintro σ' H5 ⟨pr, row, rfl, s5, hpr5, lrow⟩
  have hrx5 := s5 _ _ hrx4
  have hry5 := s5 _ _ hry4
  -- good
  try dsimp only
  refine mid (fun σ' H' => ∃ gx : Bool, σ' = [some (.ref p0), some (.int seed), some (.int (n : Int)), some (.ref rx), some (.ref ry), some (.ref pr), some (.bl gx), none, none] ∧ (gx = true ↔ IsT xs) ∧ H5 = H') ?_ ?_
  case refine_2 =>
    intro N hN
    exact ⟨_, rfl, rx, xs, rfl, SqT.of hrx5, by omega, fun tx => hN _ _ ⟨true, rfl, ⟨fun _ => tx, fun _ => rfl⟩, rfl⟩, fun nx => hN _ _ ⟨false, rfl, ⟨fun z => (by cases z), fun z => absurd z nx⟩, rfl⟩⟩
  rintro σ' H' ⟨gx, rfl, hgx, rfl⟩
  -- due
  try dsimp only
  refine mid (fun σ' H' => ∃ pd : Addr, σ' = [some (.ref p0), some (.int seed), some (.int (n : Int)), some (.ref rx), some (.ref ry), some (.ref pr), some (.bl gx), some (.ref pd), none] ∧ Same H5 H' ∧ H5 pd = none ∧ H' pd = some (.lst (due1 true))) ?_ ?_
  case refine_2 =>
    intro N hN
    refine ⟨by show 1 ≤ sizeLine; decide, fun pg hpg => ⟨pg, _, _, rfl, rfl, upd_same, by decide, by decide, by show 1 * 7 ≤ sizeLine; decide, fun pd hpd => hN _ _ ⟨pd, rfl, (same_new hpg _).trans (same_new hpd _), (same_new hpg _).free hpd, ?_⟩⟩⟩
    rw [upd_same]
    rfl
  rintro σ' H6 ⟨pd, rfl, s6, nd6, hd6⟩
  -- lengths
  try dsimp only
  refine mid (fun σ' H' => ∃ (pd : Addr) (ll : Bool), σ' = [some (.ref p0), some (.int seed), some (.int (n : Int)), some (.ref rx), some (.ref ry), some (.ref pr), some (.bl gx), some (.ref pd), none] ∧ Same H5 H' ∧ H5 pd = none ∧ H' pd = some (.lst (due1 ll)) ∧ (ll = true ↔ xs.length = ys.length)) ?_ ?_
  case refine_2 =>
    intro N hN
    refine ⟨_, rfl, rx, _, rfl, .inr (SqT.of (s6 _ _ hrx5)), _, rfl, ry, _, rfl, .inr (SqT.of (s6 _ _ hry5)), rfl, _, rfl, ?_⟩
    by_cases c : V.int (((xs.map V.int).length : Nat) : Int) = V.int (((ys.map V.int).length : Nat) : Int)
    · refine iteNS c (hN _ _ ⟨pd, true, rfl, s6, nd6, hd6, ⟨fun _ => ?_, fun _ => rfl⟩⟩)
      injection c with c
      rw [List.length_map, List.length_map] at c
      omega
    · refine iteNT c ?_
      have c' : ¬ xs.length = ys.length := fun z => c (by rw [List.length_map, List.length_map, z])
      refine ⟨by show 2 ≤ sizeLine; decide, fun pa hpa => ⟨by show 1 ≤ sizeLine; decide, fun pb hpb => ⟨pb, _, _, rfl, rfl, upd_same, by decide, by decide, by show 1 * 5 ≤ sizeLine; decide, fun pc hpc => ⟨pa, pc, _, _, rfl, rfl, (same_new hpc _) _ _ ((same_new hpb _) _ _ upd_same), upd_same, by show 2 + 5 ≤ sizeLine; decide, fun pe hpe => ?_⟩⟩⟩⟩
      have gg := (same_new hpa (.lst [V.str "length", V.str "length"])).trans ((same_new hpb (.lst [V.str "done"])).trans (same_new hpc (.lst (List.replicate (5 : Int).toNat [V.str "done"]).flatten)))
      refine hN _ _ ⟨pe, false, rfl, s6.trans (gg.trans (same_new hpe _)), (s6.trans gg).free hpe, ?_, ⟨fun z => (by cases z), fun z => absurd z c'⟩⟩
      rw [upd_same]
      rfl
  clear hd6 nd6 s6 pd
  rintro σ' H7 ⟨pd, ll, rfl, s7, nd, hd7, hll⟩
  -- the row's length
  try dsimp only
  refine mid (fun σ' H' => ∃ lr : Bool, σ' = [some (.ref p0), some (.int seed), some (.int (n : Int)), some (.ref rx), some (.ref ry), some (.ref pr), some (.bl gx), some (.ref pd), none] ∧ Same H5 H' ∧ H' pd = some (.lst (due2 ll lr)) ∧ (lr = true ↔ xs.length = row.length)) ?_ ?_
  case refine_2 =>
    intro N hN
    refine ⟨_, rfl, rx, _, rfl, .inr (SqT.of (s7 _ _ hrx5)), _, rfl, pr, _, rfl, .inl (SqL.of (s7 _ _ hpr5)), rfl, _, rfl, ?_⟩
    by_cases c : V.int (((xs.map V.int).length : Nat) : Int) = V.int ((row.length : Nat) : Int)
    · refine iteNS c (hN _ _ ⟨true, rfl, s7, hd7, ⟨fun _ => ?_, fun _ => rfl⟩⟩)
      injection c with c
      rw [List.length_map] at c
      omega
    · refine iteNT c ?_
      have c' : ¬ xs.length = row.length := fun z => c (by rw [List.length_map, z])
      refine ⟨_, rfl, pd, _, _, _, rfl, rfl, hd7, ixN_at (by decide) (by rw [due1_len]; decide), ?_⟩
      exact hN _ _ ⟨false, rfl, s7.put nd _, by rw [upd_same]; rfl, ⟨fun z => (by cases z), fun z => absurd z c'⟩⟩
  rintro σ' H8 ⟨lr, rfl, s8, hd8, hlr⟩
  -- not good
  try dsimp only
  refine mid (fun σ' H' => ∃ pd : Addr, σ' = [some (.ref p0), some (.int seed), some (.int (n : Int)), some (.ref rx), some (.ref ry), some (.ref pr), some (.bl gx), some (.ref pd), none] ∧ Same H5 H' ∧ H5 pd = none ∧ H' pd = some (.lst (due3 gx ll lr))) ?_ ?_
  case refine_2 =>
    intro N hN
    cases gx with
    | true => exact ⟨_, rfl, true, rfl, iteF (hN _ _ ⟨pd, rfl, s8, nd, hd8⟩)⟩
    | false =>
      refine ⟨_, rfl, false, rfl, iteT ?_⟩
      refine ⟨by show 1 ≤ sizeLine; decide, fun pg hpg => ⟨pg, _, _, rfl, rfl, upd_same, by decide, by decide, by show 1 * 7 ≤ sizeLine; decide, fun pe hpe => hN _ _ ⟨pe, rfl, s8.trans ((same_new hpg _).trans (same_new hpe _)), (s8.trans (same_new hpg _)).free hpe, ?_⟩⟩⟩
      rw [upd_same]
      rfl
  clear hd8 s8 hd7 s7 nd pd
  rintro σ' H9 ⟨pd, rfl, s9, nd, hd9⟩
  -- the other
  try dsimp only
  refine mid (fun σ' H' => ∃ gy : Bool, σ' = [some (.ref p0), some (.int seed), some (.int (n : Int)), some (.ref rx), some (.ref ry), some (.ref pr), some (.bl gx), some (.ref pd), none] ∧ Same H5 H' ∧ H' pd = some (.lst (due4 gx gy ll lr)) ∧ (gy = true ↔ IsT ys)) ?_ ?_
  case refine_2 =>
    intro N hN
    refine ⟨_, rfl, ry, ys, rfl, SqT.of (s9 _ _ hry5), by omega, fun ty => ?_, fun ny => ?_⟩
    · exact ⟨true, rfl, iteF (hN _ _ ⟨true, rfl, s9, hd9, ⟨fun _ => ty, fun _ => rfl⟩⟩)⟩
    · refine ⟨false, rfl, iteT ?_⟩
      refine ⟨_, rfl, pd, _, _, _, rfl, rfl, hd9, ixN_at (by decide) (by rw [due3_len]; decide), ?_⟩
      refine ⟨_, rfl, pd, _, _, _, rfl, rfl, upd_same, ixN_at (by decide) (by rw [List.length_set, due3_len]; decide), ?_⟩
      exact hN _ _ ⟨false, rfl, (s9.put nd _).put nd _, by rw [upd_same]; rfl, ⟨fun z => (by cases z), fun z => absurd z ny⟩⟩
  clear hd9 s9
  rintro σ' H9 ⟨gy, rfl, s9, hd9, hgy⟩
  have kn : Kn xs ys row.length gx gy ll lr := ⟨hgx, hgy, hll, hlr⟩
  -- each of the seven
  refine ⟨_, rfl, by decide, by decide, ?_⟩
  refine for_range (fun i σ H' => ∃ v8 : Option V, σ = [some (.ref p0), some (.int seed), some (.int (n : Int)), some (.ref rx), some (.ref ry), some (.ref pr), some (.bl gx), some (.ref pd), v8] ∧ Same H9 H') ⟨none, rfl, Same.refl _⟩ ?_ (fun σ H' h => q _)
  rintro i σ H10 hi ⟨v8, rfl, s10⟩
  have hi7 : i < 7 := hi
  have ei : (0 : Int) + (i : Int) = i := by omega
  rw [ei]
  obtain ⟨st, es⟩ := due_str gx gy ll lr hi7
  have hat : atI (due4 gx gy ll lr) (i : Int) = some (.str st) := atI_nat (by rw [due4_get gx gy ll lr hi7, es])
  have f10 := s9.trans s10
  have hpr10 := f10 _ _ hpr5
  try dsimp only
  refine mid (fun σ' H' => σ' = [some (.ref p0), some (.int seed), some (.int (n : Int)), some (.ref rx), some (.ref ry), some (.ref pr), some (.bl gx), some (.ref pd), some (.int (i : Int))] ∧ Same H9 H') ?_ ?_
  case refine_2 =>
    intro N hN
    refine ⟨_, rfl, _, rfl, _, rfl, _, rfl, pr, _, rfl, .inl (SqL.of hpr10), fun pl hpl => ?_⟩
    have gl := same_new hpl (.lst row)
    refine ⟨i, rx, ry, pl, xs, ys, row, gx, gy, ll, lr, rfl, gl _ _ (f10 _ _ hrx5), gl _ _ (f10 _ _ hry5), SqL.of upd_same, lx, ly, hi7, kn, fun H11 s11 => ?_⟩
    have g11 := s10.trans (gl.trans s11)
    rw [es]
    refine ⟨_, rfl, _, rfl, pd, _, _, _, rfl, rfl, SqL.of (g11 _ _ hd9), hat, rfl, _, rfl, iteNS rfl (hN _ _ ⟨rfl, g11⟩)⟩
  rintro σ' H11 ⟨rfl, s11⟩
  have f11 := s9.trans s11
  refine ⟨_, rfl, _, rfl, _, rfl, _, rfl, pr, _, rfl, .inl (SqL.of (f11 _ _ hpr5)), fun pl hpl => ?_⟩
  have gl := same_new hpl (.lst row)
  refine ⟨i, rx, ry, pl, xs, ys, row, gx, gy, ll, lr, rfl, gl _ _ (f11 _ _ hrx5), gl _ _ (f11 _ _ hry5), SqL.of upd_same, lx, ly, hi7, kn, fun H12 s12 => ?_⟩
  have g12 := s11.trans (gl.trans s12)
  refine ⟨_, rfl, _, rfl, pd, _, _, _, rfl, rfl, SqL.of (g12 _ _ hd9), hat, rfl, rfl, _, rfl, iteNS ?_ ⟨_, rfl, g12⟩⟩
  rw [es]
  simp [dn]
end
end KP

set_option Elab.async false
set_option linter.all false
set_option maxRecDepth 100000
set_option maxHeartbeats 4000000
namespace KP
open PySem L2 Tm
theorem all_mk {l : PySem.W.OpenLaw} {w : World} {K : PySem.W.Frag} {h : Heap} {mg : Str → Option Value} {fa fAF fBF fCF fDF fEF fFF fGF fHF fIF fJF fKF fLF fMF fNF fOF fPF fQF fRF fSF fTF fUF fVF cS cB cO cR cN : Addr} (X : K.In h) (G : h.Ns mainGlobals mg) (hfa : mg "law" = some (.ref fa))
    {odAF anAF odBF anBF odCF anCF odDF anDF odEF anEF odFF anFF odGF anGF odHF anHF odIF anIF odJF anJF odKF anKF odLF anLF odMF anMF odNF anNF odOF anOF odPF anPF odQF anQF odRF anRF odSF anSF odTF anTF odUF anUF odVF anVF : Option Addr} {slAF slBF slCF slDF slEF slFF slGF slHF slIF slJF slKF slLF slMF slNF slOF slPF slQF slRF slSF slTF slUF slVF : Array (Option Value)} {ocAF kVAF dcAF pmAF cdAF ctAF ocBF kVBF dcBF pmBF cdBF ctBF ocCF kVCF dcCF pmCF cdCF ctCF ocDF kVDF dcDF pmDF cdDF ctDF ocEF kVEF dcEF pmEF cdEF ctEF ocFF kVFF dcFF pmFF cdFF ctFF ocGF kVGF dcGF pmGF cdGF ctGF ocHF kVHF dcHF pmHF cdHF ctHF ocIF kVIF dcIF pmIF cdIF ctIF ocJF kVJF dcJF pmJF cdJF ctJF ocKF kVKF dcKF pmKF cdKF ctKF ocLF kVLF dcLF pmLF cdLF ctLF ocMF kVMF dcMF pmMF cdMF ctMF ocNF kVNF dcNF pmNF cdNF ctNF ocOF kVOF dcOF pmOF cdOF ctOF ocPF kVPF dcPF pmPF cdPF ctPF ocQF kVQF dcQF pmQF cdQF ctQF ocRF kVRF dcRF pmRF cdRF ctRF ocSF kVSF dcSF pmSF cdSF ctSF ocTF kVTF dcTF pmTF cdTF ctTF ocUF kVUF dcUF pmUF cdUF ctUF ocVF kVVF dcVF pmVF cdVF ctVF : Value}
    (aAF : PySem.W.nsIn K mainGlobals "resting" = some (some (.ref fAF))) (lAF : K.lookup fAF = some ⟨ocAF, odAF, .func (PySem.W.fnOf "resting" "resting" (defArgs sRest) (defBody sRest) (defScope sRest) .none kVAF dcAF pmAF anAF cdAF ctAF), slAF⟩) (cAF : PySem.W.codeIn K cdAF "resting" = true) (kAF : PySem.W.keepIn K (.ref fAF) = true)
    (aBF : PySem.W.nsIn K mainGlobals "require_turning" = some (some (.ref fBF))) (lBF : K.lookup fBF = some ⟨ocBF, odBF, .func (PySem.W.fnOf "require_turning" "require_turning" (defArgs sReqT) (defBody sReqT) (defScope sReqT) .none kVBF dcBF pmBF anBF cdBF ctBF), slBF⟩) (cBF : PySem.W.codeIn K cdBF "require_turning" = true) (kBF : PySem.W.keepIn K (.ref fBF) = true)
    (aCF : PySem.W.nsIn K mainGlobals "require_one_length" = some (some (.ref fCF))) (lCF : K.lookup fCF = some ⟨ocCF, odCF, .func (PySem.W.fnOf "require_one_length" "require_one_length" (defArgs sReqL) (defBody sReqL) (defScope sReqL) .none kVCF dcCF pmCF anCF cdCF ctCF), slCF⟩) (cCF : PySem.W.codeIn K cdCF "require_one_length" = true) (kCF : PySem.W.keepIn K (.ref fCF) = true)
    (aDF : PySem.W.nsIn K mainGlobals "joined" = some (some (.ref fDF))) (lDF : K.lookup fDF = some ⟨ocDF, odDF, .func (PySem.W.fnOf "joined" "joined" (defArgs sJoin) (defBody sJoin) (defScope sJoin) .none kVDF dcDF pmDF anDF cdDF ctDF), slDF⟩) (cDF : PySem.W.codeIn K cdDF "joined" = true) (kDF : PySem.W.keepIn K (.ref fDF) = true)
    (aEF : PySem.W.nsIn K mainGlobals "turned_back" = some (some (.ref fEF))) (lEF : K.lookup fEF = some ⟨ocEF, odEF, .func (PySem.W.fnOf "turned_back" "turned_back" (defArgs sBack) (defBody sBack) (defScope sBack) .none kVEF dcEF pmEF anEF cdEF ctEF), slEF⟩) (cEF : PySem.W.codeIn K cdEF "turned_back" = true) (kEF : PySem.W.keepIn K (.ref fEF) = true)
    (aFF : PySem.W.nsIn K mainGlobals "seated" = some (some (.ref fFF))) (lFF : K.lookup fFF = some ⟨ocFF, odFF, .func (PySem.W.fnOf "seated" "seated" (defArgs sSeat) (defBody sSeat) (defScope sSeat) .none kVFF dcFF pmFF anFF cdFF ctFF), slFF⟩) (cFF : PySem.W.codeIn K cdFF "seated" = true) (kFF : PySem.W.keepIn K (.ref fFF) = true)
    (aGF : PySem.W.nsIn K mainGlobals "ring_from" = some (some (.ref fGF))) (lGF : K.lookup fGF = some ⟨ocGF, odGF, .func (PySem.W.fnOf "ring_from" "ring_from" (defArgs sRF) (defBody sRF) (defScope sRF) .none kVGF dcGF pmGF anGF cdGF ctGF), slGF⟩) (cGF : PySem.W.codeIn K cdGF "ring_from" = true) (kGF : PySem.W.keepIn K (.ref fGF) = true)
    (aHF : PySem.W.nsIn K mainGlobals "rings_of" = some (some (.ref fHF))) (lHF : K.lookup fHF = some ⟨ocHF, odHF, .func (PySem.W.fnOf "rings_of" "rings_of" (defArgs sRO) (defBody sRO) (defScope sRO) .none kVHF dcHF pmHF anHF cdHF ctHF), slHF⟩) (cHF : PySem.W.codeIn K cdHF "rings_of" = true) (kHF : PySem.W.keepIn K (.ref fHF) = true)
    (aIF : PySem.W.nsIn K mainGlobals "greatest_divisor" = some (some (.ref fIF))) (lIF : K.lookup fIF = some ⟨ocIF, odIF, .func (PySem.W.fnOf "greatest_divisor" "greatest_divisor" (defArgs sGD) (defBody sGD) (defScope sGD) .none kVIF dcIF pmIF anIF cdIF ctIF), slIF⟩) (cIF : PySem.W.codeIn K cdIF "greatest_divisor" = true) (kIF : PySem.W.keepIn K (.ref fIF) = true)
    (aJF : PySem.W.nsIn K mainGlobals "times_round" = some (some (.ref fJF))) (lJF : K.lookup fJF = some ⟨ocJF, odJF, .func (PySem.W.fnOf "times_round" "times_round" (defArgs sTR) (defBody sTR) (defScope sTR) .none kVJF dcJF pmJF anJF cdJF ctJF), slJF⟩) (cJF : PySem.W.codeIn K cdJF "times_round" = true) (kJF : PySem.W.keepIn K (.ref fJF) = true)
    (aKF : PySem.W.nsIn K mainGlobals "rank_of" = some (some (.ref fKF))) (lKF : K.lookup fKF = some ⟨ocKF, odKF, .func (PySem.W.fnOf "rank_of" "rank_of" (defArgs sRank) (defBody sRank) (defScope sRank) .none kVKF dcKF pmKF anKF cdKF ctKF), slKF⟩) (cKF : PySem.W.codeIn K cdKF "rank_of" = true) (kKF : PySem.W.keepIn K (.ref fKF) = true)
    (aLF : PySem.W.nsIn K mainGlobals "require_turns" = some (some (.ref fLF))) (lLF : K.lookup fLF = some ⟨ocLF, odLF, .func (PySem.W.fnOf "require_turns" "require_turns" (defArgs sRT) (defBody sRT) (defScope sRT) .none kVLF dcLF pmLF anLF cdLF ctLF), slLF⟩) (cLF : PySem.W.codeIn K cdLF "require_turns" = true) (kLF : PySem.W.keepIn K (.ref fLF) = true)
    (aMF : PySem.W.nsIn K mainGlobals "lengthened" = some (some (.ref fMF))) (lMF : K.lookup fMF = some ⟨ocMF, odMF, .func (PySem.W.fnOf "lengthened" "lengthened" (defArgs sLn) (defBody sLn) (defScope sLn) .none kVMF dcMF pmMF anMF cdMF ctMF), slMF⟩) (cMF : PySem.W.codeIn K cdMF "lengthened" = true) (kMF : PySem.W.keepIn K (.ref fMF) = true)
    (aNF : PySem.W.nsIn K mainGlobals "shortest_words" = some (some (.ref fNF))) (lNF : K.lookup fNF = some ⟨ocNF, odNF, .func (PySem.W.fnOf "shortest_words" "shortest_words" (defArgs sSW) (defBody sSW) (defScope sSW) .none kVNF dcNF pmNF anNF cdNF ctNF), slNF⟩) (cNF : PySem.W.codeIn K cdNF "shortest_words" = true) (kNF : PySem.W.keepIn K (.ref fNF) = true)
    (aOF : PySem.W.nsIn K mainGlobals "reached" = some (some (.ref fOF))) (lOF : K.lookup fOF = some ⟨ocOF, odOF, .func (PySem.W.fnOf "reached" "reached" (defArgs sRch) (defBody sRch) (defScope sRch) .none kVOF dcOF pmOF anOF cdOF ctOF), slOF⟩) (cOF : PySem.W.codeIn K cdOF "reached" = true) (kOF : PySem.W.keepIn K (.ref fOF) = true)
    (aPF : PySem.W.nsIn K mainGlobals "_law_at" = some (some (.ref fPF))) (lPF : K.lookup fPF = some ⟨ocPF, odPF, .func (PySem.W.fnOf "_law_at" "_law_at" (defArgs sAt) (defBody sAt) (defScope sAt) .none kVPF dcPF pmPF anPF cdPF ctPF), slPF⟩) (cPF : PySem.W.codeIn K cdPF "_law_at" = true) (kPF : PySem.W.keepIn K (.ref fPF) = true)
    (aQF : PySem.W.nsIn K mainGlobals "_law_turning_by" = some (some (.ref fQF))) (lQF : K.lookup fQF = some ⟨ocQF, odQF, .func (PySem.W.fnOf "_law_turning_by" "_law_turning_by" (defArgs sTb) (defBody sTb) (defScope sTb) .none kVQF dcQF pmQF anQF cdQF ctQF), slQF⟩) (cQF : PySem.W.codeIn K cdQF "_law_turning_by" = true) (kQF : PySem.W.keepIn K (.ref fQF) = true)
    (aRF : PySem.W.nsIn K mainGlobals "_law_said" = some (some (.ref fRF))) (lRF : K.lookup fRF = some ⟨ocRF, odRF, .func (PySem.W.fnOf "_law_said" "_law_said" (defArgs sSaid) (defBody sSaid) (defScope sSaid) .none kVRF dcRF pmRF anRF cdRF ctRF), slRF⟩) (cRF : PySem.W.codeIn K cdRF "_law_said" = true) (kRF : PySem.W.keepIn K (.ref fRF) = true)
    (aSF : PySem.W.nsIn K mainGlobals "_law_spoilt" = some (some (.ref fSF))) (lSF : K.lookup fSF = some ⟨ocSF, odSF, .func (PySem.W.fnOf "_law_spoilt" "_law_spoilt" (defArgs sSp) (defBody sSp) (defScope sSp) .none kVSF dcSF pmSF anSF cdSF ctSF), slSF⟩) (cSF : PySem.W.codeIn K cdSF "_law_spoilt" = true) (kSF : PySem.W.keepIn K (.ref fSF) = true)
    (aTF : PySem.W.nsIn K mainGlobals "_law_whole_row" = some (some (.ref fTF))) (lTF : K.lookup fTF = some ⟨ocTF, odTF, .func (PySem.W.fnOf "_law_whole_row" "_law_whole_row" (defArgs sWR) (defBody sWR) (defScope sWR) .none kVTF dcTF pmTF anTF cdTF ctTF), slTF⟩) (cTF : PySem.W.codeIn K cdTF "_law_whole_row" = true) (kTF : PySem.W.keepIn K (.ref fTF) = true)
    (aUF : PySem.W.nsIn K mainGlobals "_law_refuses" = some (some (.ref fUF))) (lUF : K.lookup fUF = some ⟨ocUF, odUF, .func (PySem.W.fnOf "_law_refuses" "_law_refuses" (defArgs sRfs) (defBody sRfs) (defScope sRfs) .none kVUF dcUF pmUF anUF cdUF ctUF), slUF⟩) (cUF : PySem.W.codeIn K cdUF "_law_refuses" = true) (kUF : PySem.W.keepIn K (.ref fUF) = true)
    (aVF : PySem.W.nsIn K mainGlobals "law" = some (some (.ref fVF))) (lVF : K.lookup fVF = some ⟨ocVF, odVF, .func (PySem.W.fnOf "law" "law" (defArgs sLaw) (defBody sLaw) (defScope sLaw) .none kVVF dcVF pmVF anVF cdVF ctVF), slVF⟩) (cVF : PySem.W.codeIn K cdVF "law" = true) (kVF : PySem.W.keepIn K (.ref fVF) = true)
    (ncS : PySem.W.nsIn K mainGlobals "SeatError" = some (some (.ref cS))) (xcS : PySem.W.excIn K cS [.type "ValueError", .type "Exception", .type "BaseException", .type "object"] "ValueError.__new__" = true)
    (ncB : PySem.W.nsIn K mainGlobals "BadTurning" = some (some (.ref cB))) (xcB : PySem.W.excIn K cB [.type "ValueError", .type "Exception", .type "BaseException", .type "object"] "ValueError.__new__" = true)
    (ncO : PySem.W.nsIn K mainGlobals "OtherLength" = some (some (.ref cO))) (xcO : PySem.W.excIn K cO [.type "ValueError", .type "Exception", .type "BaseException", .type "object"] "ValueError.__new__" = true)
    (ncR : PySem.W.nsIn K mainGlobals "BadRings" = some (some (.ref cR))) (xcR : PySem.W.excIn K cR [.type "ValueError", .type "Exception", .type "BaseException", .type "object"] "ValueError.__new__" = true)
    (ncN : PySem.W.nsIn K mainGlobals "NoRank" = some (some (.ref cN))) (xcN : PySem.W.excIn K cN [.type "ValueError", .type "Exception", .type "BaseException", .type "object"] "ValueError.__new__" = true)
    (m0 : PySem.W.mroIn K cB (.ref cB) = some true)
    (m1 : PySem.W.mroIn K cO (.ref cB) = some false)
    (m2 : PySem.W.mroIn K cO (.ref cO) = some true)
    (m3 : PySem.W.mroIn K cB (.ref cS) = some true)
    (m4 : PySem.W.mroIn K cO (.ref cS) = some true)
    (kacB : Ka7 K cB)
    (kacO : Ka7 K cO)
    (kcBcB : PySem.W.mroIn K cB (.ref cB) = some true)
    (kcBcO : PySem.W.mroIn K cB (.ref cO) = some false)
    (kcBcR : PySem.W.mroIn K cB (.ref cR) = some false)
    (kcBcN : PySem.W.mroIn K cB (.ref cN) = some false)
    (kcOcB : PySem.W.mroIn K cO (.ref cB) = some false)
    (kcOcO : PySem.W.mroIn K cO (.ref cO) = some true)
    (kcOcR : PySem.W.mroIn K cO (.ref cR) = some false)
    (kcOcN : PySem.W.mroIn K cO (.ref cN) = some false)
    (wcB : PySem.W.mroIn K cB (.type "ValueError") = some true)
    (wcO : PySem.W.mroIn K cO (.type "ValueError") = some true)
    (z0 : PySem.W.nsIn K mainGlobals "tuple" = some none)
    (z1 : PySem.W.nsIn K mainGlobals "range" = some none)
    (z2 : PySem.W.nsIn K mainGlobals "sorted" = some none)
    (z3 : PySem.W.nsIn K mainGlobals "len" = some none)
    (z4 : PySem.W.nsIn K mainGlobals "enumerate" = some none)
    (z5 : PySem.W.nsIn K mainGlobals "isinstance" = some none)
    (z6 : PySem.W.nsIn K mainGlobals "int" = some none)
    (z7 : PySem.W.nsIn K mainGlobals "bool" = some none)
    (z8 : PySem.W.nsIn K mainGlobals "list" = some none)
    (z9 : PySem.W.nsIn K mainGlobals "str" = some none)
    (z10 : PySem.W.nsIn K mainGlobals "max" = some none)
    (z11 : PySem.W.nsIn K mainGlobals "min" = some none)
    (z12 : PySem.W.nsIn K mainGlobals "reversed" = some none)
    (z13 : PySem.W.nsIn K mainGlobals "ValueError" = some none)
    : ∃ fd : FuncData, (∀ (s : Shared) (v : Value), BindsTo s fd ⟨[v], []⟩ [("_law_script", v)]) ∧ ∀ base : Heap, K.In base → base.Ns mainGlobals mg → FnOk l.prog w K mg base CX0 8 fa fd ["_law_script"] (spLaw K) := by
  have e := hfa.symm.trans (PySem.W.mg_of X G aVF)
  cases e
  have FAF := fun_mk (st := sRest) lAF cAF kAF
  have bAF := FAF.binds (ps := ["count"]) fun _ _ _ _ _ _ us hl => match us, hl with | [_], _ => rfl
  have gAF := PySem.W.mg_of X G aAF
  have FBF := fun_mk (st := sReqT) lBF cBF kBF
  have bBF := FBF.binds (ps := ["turning"]) fun _ _ _ _ _ _ us hl => match us, hl with | [_], _ => rfl
  have gBF := PySem.W.mg_of X G aBF
  have FCF := fun_mk (st := sReqL) lCF cCF kCF
  have bCF := FCF.binds (ps := ["one", "two"]) fun _ _ _ _ _ _ us hl => match us, hl with | [_, _], _ => rfl
  have gCF := PySem.W.mg_of X G aCF
  have FDF := fun_mk (st := sJoin) lDF cDF kDF
  have bDF := FDF.binds (ps := ["one", "two"]) fun _ _ _ _ _ _ us hl => match us, hl with | [_, _], _ => rfl
  have gDF := PySem.W.mg_of X G aDF
  have FEF := fun_mk (st := sBack) lEF cEF kEF
  have bEF := FEF.binds (ps := ["turning"]) fun _ _ _ _ _ _ us hl => match us, hl with | [_], _ => rfl
  have gEF := PySem.W.mg_of X G aEF
  have FFF := fun_mk (st := sSeat) lFF cFF kFF
  have bFF := FFF.binds (ps := ["turning", "row"]) fun _ _ _ _ _ _ us hl => match us, hl with | [_, _], _ => rfl
  have gFF := PySem.W.mg_of X G aFF
  have FGF := fun_mk (st := sRF) lGF cGF kGF
  have bGF := FGF.binds (ps := ["turning", "first"]) fun _ _ _ _ _ _ us hl => match us, hl with | [_, _], _ => rfl
  have gGF := PySem.W.mg_of X G aGF
  have FHF := fun_mk (st := sRO) lHF cHF kHF
  have bHF := FHF.binds (ps := ["turning"]) fun _ _ _ _ _ _ us hl => match us, hl with | [_], _ => rfl
  have gHF := PySem.W.mg_of X G aHF
  have FIF := fun_mk (st := sGD) lIF cIF kIF
  have bIF := FIF.binds (ps := ["one", "two"]) fun _ _ _ _ _ _ us hl => match us, hl with | [_, _], _ => rfl
  have gIF := PySem.W.mg_of X G aIF
  have FJF := fun_mk (st := sTR) lJF cJF kJF
  have bJF := FJF.binds (ps := ["turning"]) fun _ _ _ _ _ _ us hl => match us, hl with | [_], _ => rfl
  have gJF := PySem.W.mg_of X G aJF
  have FKF := fun_mk (st := sRank) lKF cKF kKF
  have bKF := FKF.binds (ps := ["turning"]) fun _ _ _ _ _ _ us hl => match us, hl with | [_], _ => rfl
  have gKF := PySem.W.mg_of X G aKF
  have FLF := fun_mk (st := sRT) lLF cLF kLF
  have bLF := FLF.binds (ps := ["turns", "goal"]) fun _ _ _ _ _ _ us hl => match us, hl with | [_, _], _ => rfl
  have gLF := PySem.W.mg_of X G aLF
  have FMF := fun_mk (st := sLn) lMF cMF kMF
  have bMF := FMF.binds (ps := ["words", "ends", "turns"]) fun _ _ _ _ _ _ us hl => match us, hl with | [_, _, _], _ => rfl
  have gMF := PySem.W.mg_of X G aMF
  have FNF := fun_mk (st := sSW) lNF cNF kNF
  have bNF := FNF.binds (ps := ["turns", "goal"]) fun _ _ _ _ _ _ us hl => match us, hl with | [_, _], _ => rfl
  have gNF := PySem.W.mg_of X G aNF
  have FOF := fun_mk (st := sRch) lOF cOF kOF
  have bOF := FOF.binds (ps := ["turns", "goal"]) fun _ _ _ _ _ _ us hl => match us, hl with | [_, _], _ => rfl
  have gOF := PySem.W.mg_of X G aOF
  have FPF := fun_mk (st := sAt) lPF cPF kPF
  have bPF := FPF.binds (ps := ["_law_script", "_law_k"]) fun _ _ _ _ _ _ us hl => match us, hl with | [_, _], _ => rfl
  have gPF := PySem.W.mg_of X G aPF
  have FQF := fun_mk (st := sTb) lQF cQF kQF
  have bQF := FQF.binds (ps := ["_law_cells"]) fun _ _ _ _ _ _ us hl => match us, hl with | [_], _ => rfl
  have gQF := PySem.W.mg_of X G aQF
  have FRF := fun_mk (st := sSaid) lRF cRF kRF
  have bRF := FRF.binds (ps := ["_law_which", "_law_one", "_law_two", "_law_row"]) fun _ _ _ _ _ _ us hl => match us, hl with | [_, _, _, _], _ => rfl
  have gRF := PySem.W.mg_of X G aRF
  have FSF := fun_mk (st := sSp) lSF cSF kSF
  have bSF := FSF.binds (ps := ["_law_turning", "_law_way", "_law_seed"]) fun _ _ _ _ _ _ us hl => match us, hl with | [_, _, _], _ => rfl
  have gSF := PySem.W.mg_of X G aSF
  have FTF := fun_mk (st := sWR) lTF cTF kTF
  have bTF := FTF.binds (ps := ["_law_turning"]) fun _ _ _ _ _ _ us hl => match us, hl with | [_], _ => rfl
  have gTF := PySem.W.mg_of X G aTF
  have FUF := fun_mk (st := sRfs) lUF cUF kUF
  have bUF := FUF.binds (ps := ["_law_which", "_law_one", "_law_two", "_law_row"]) fun _ _ _ _ _ _ us hl => match us, hl with | [_, _, _, _], _ => rfl
  have gUF := PySem.W.mg_of X G aUF
  have FVF := fun_mk (st := sLaw) lVF cVF kVF
  have x_cS : Xc K "SeatError" cS := ⟨⟨xcS⟩, ncS⟩
  have x_cB : Xc K "BadTurning" cB := ⟨⟨xcB⟩, ncB⟩
  have x_cO : Xc K "OtherLength" cO := ⟨⟨xcO⟩, ncO⟩
  have x_cR : Xc K "BadRings" cR := ⟨⟨xcR⟩, ncR⟩
  have x_cN : Xc K "NoRank" cN := ⟨⟨xcN⟩, ncN⟩
  have zz0 := PySem.W.mg_none_of X G z0
  have zz1 := PySem.W.mg_none_of X G z1
  have zz2 := PySem.W.mg_none_of X G z2
  have zz3 := PySem.W.mg_none_of X G z3
  have zz4 := PySem.W.mg_none_of X G z4
  have zz5 := PySem.W.mg_none_of X G z5
  have zz6 := PySem.W.mg_none_of X G z6
  have zz7 := PySem.W.mg_none_of X G z7
  have zz8 := PySem.W.mg_none_of X G z8
  have zz9 := PySem.W.mg_none_of X G z9
  have zz10 := PySem.W.mg_none_of X G z10
  have zz11 := PySem.W.mg_none_of X G z11
  have zz12 := PySem.W.mg_none_of X G z12
  have zz13 := PySem.W.mg_none_of X G z13
  refine ⟨PySem.W.fnOf "law" "law" (defArgs sLaw) (defBody sLaw) (defScope sLaw) .none kVVF dcVF pmVF anVF cdVF ctVF, fun s v => .of_eq rfl, fun base kb nb => ?_⟩
  have B : Blt mg := ⟨zz0, zz1, zz2, zz3, zz4, zz5, zz6, zz7, zz8, zz9, zz10, zz11, zz12, zz13⟩
  have oAF : FnOk l.prog w K mg base CX0 1 fAF _ ["count"] spRest := ok_rest FAF B 
  have oBF : FnOk l.prog w K mg base (CXx l.prog w) 2 fBF _ ["turning"] (spReqT K cB) := ok_reqT FBF B x_cB oAF bAF kAF gAF
  have oCF : FnOk l.prog w K mg base (CXx l.prog w) 1 fCF _ ["one", "two"] (spReqL K cO) := ok_reqL FCF B x_cO
  have oDF : FnOk l.prog w K mg base (CXx l.prog w) 3 fDF _ ["one", "two"] (spJoin K cB cO) := ok_join FDF B oBF bBF kBF gBF oCF bCF kCF gCF
  have oEF : FnOk l.prog w K mg base (CXx l.prog w) 3 fEF _ ["turning"] (spBack K cB) := ok_back FEF B oBF bBF kBF gBF
  have oFF : FnOk l.prog w K mg base (CXx l.prog w) 4 fFF _ ["turning", "row"] (spSeat K cB cO) := ok_seat FFF B oEF bEF kEF gEF oCF bCF kCF gCF
  have oGF : FnOk l.prog w K mg base CX0 1 fGF _ ["turning", "first"] (spRF K) := ok_rf FGF B 
  have oHF : FnOk l.prog w K mg base (CXx l.prog w) 3 fHF _ ["turning"] (spRO K cB) := ok_ro FHF B oBF bBF kBF gBF oGF bGF kGF gGF
  have oIF : FnOk l.prog w K mg base CX0 1 fIF _ ["one", "two"] spGD := ok_gd FIF B 
  have oJF : FnOk l.prog w K mg base (CXx l.prog w) 4 fJF _ ["turning"] (spTR K cB) := ok_tr FJF B oHF bHF kHF gHF oIF bIF kIF gIF
  have oKF : FnOk l.prog w K mg base (CXx l.prog w) 3 fKF _ ["turning"] (spRank K cB) := ok_rank FKF B oBF bBF kBF gBF oAF bAF kAF gAF
  have oLF : FnOk l.prog w K mg base (CXx l.prog w) 3 fLF _ ["turns", "goal"] (spRT K cB cO) := ok_rt FLF B oBF bBF kBF gBF oCF bCF kCF gCF
  have oMF : FnOk l.prog w K mg base (CXx l.prog w) 4 fMF _ ["words", "ends", "turns"] (spLn K) := ok_ln FMF B oDF bDF kDF gDF
  have oNF : FnOk l.prog w K mg base (CXx l.prog w) 5 fNF _ ["turns", "goal"] (spSW K) := ok_sw FNF B oAF bAF kAF gAF oMF bMF kMF gMF
  have oOF : FnOk l.prog w K mg base (CXx l.prog w) 6 fOF _ ["turns", "goal"] (spRchG K cB cO) := ok_rch FOF B oLF bLF kLF gLF oNF bNF kNF gNF
  have oPF : FnOk l.prog w K mg base CX0 1 fPF _ ["_law_script", "_law_k"] (spAt K) := ok_at FPF B 
  have oQF : FnOk l.prog w K mg base CX0 1 fQF _ ["_law_cells"] (spTb K) := ok_tb FQF B 
  have oRF : FnOk l.prog w K mg base CX0 7 fRF _ ["_law_which", "_law_one", "_law_two", "_law_row"] (spSaid K) := ok_said FRF B x_cB x_cO m0 m1 m2 oDF bDF kDF gDF oOF bOF kOF gOF oFF bFF kFF gFF oEF bEF kEF gEF oHF bHF kHF gHF oJF bJF kJF gJF oKF bKF kKF gKF
  have oSF : FnOk l.prog w K mg base CX0 1 fSF _ ["_law_turning", "_law_way", "_law_seed"] (spSp K) := ok_sp FSF B 
  have oTF : FnOk l.prog w K mg base CX0 1 fTF _ ["_law_turning"] (spWR K) := ok_wr FTF B 
  have oUF : FnOk l.prog w K mg base CX0 7 fUF _ ["_law_which", "_law_one", "_law_two", "_law_row"] (spRfs K) := ok_rfs FUF B x_cS x_cB x_cO m3 m4 (PySem.W.mg_of X G ncB) (PySem.W.mg_of X G ncO) (PySem.W.mg_of X G ncR) (PySem.W.mg_of X G ncN) ⟨kacB, x_cB.toXe.ci⟩ ⟨kacO, x_cO.toXe.ci⟩ (kit_ref x_cB.toXe kcBcB) (kit_ref x_cO.toXe kcBcO) (kit_ref x_cR.toXe kcBcR) (kit_ref x_cN.toXe kcBcN) (kit_ref x_cB.toXe kcOcB) (kit_ref x_cO.toXe kcOcO) (kit_ref x_cR.toXe kcOcR) (kit_ref x_cN.toXe kcOcN) (kit_VE wcB) (kit_VE wcO) oDF bDF kDF gDF oOF bOF kOF gOF oFF bFF kFF gFF oEF bEF kEF gEF oHF bHF kHF gHF oJF bJF kJF gJF oKF bKF kKF gKF
  exact ok_law FVF B oPF bPF kPF gPF oQF bQF kQF gQF oSF bSF kSF gSF oTF bTF kTF gTF oRF bRF kRF gRF oUF bUF kUF gUF
theorem walk {l : PySem.W.OpenLaw} {q : Program} {loose : List Str} {XP : (Str → Option Value) → Heap → Prop} {YP : World → Heap → Prop} {d : DefRec} {K : Params → PySem.W.Frag} (hn : l.most = some 63) (hdf : d.params.defaults = [])
    (hY : ∀ (w : World) (h : Heap), YP w h → (K w.params).In h)
    (F : ∀ (w : World) (mg : Str → Option Value) (fa : Addr) (h : Heap), (K w.params).In h → h.Ns mainGlobals mg → mg d.name = some (.ref fa) →
      ∃ fd : FuncData, (∀ (s : Shared) (u : Value), BindsTo s fd ⟨[u], []⟩ [("_law_script", u)]) ∧ ∀ base : Heap, (K w.params).In base → base.Ns mainGlobals mg → FnOk l.prog w (K w.params) mg base CX0 8 fa fd ["_law_script"] (spLaw (K w.params))) :
    PySem.W.WalkO q loose XP YP l.row.toRowW d [] (fun f vs => PySem.call f vs) :=
  L2.walk_of (n := 63) (k := 8) (x := "_law_script") (CX := fun _ => CX0) (sp := fun w => spLaw (K w.params)) hn (by decide) hdf ⟨rfl, by decide, by decide⟩ hY F (fun _ _ a ns hl _ hS => ⟨a, ns, rfl, hS, hl, fun _ => rfl⟩) fun _ _ _ _ _ z => z
end KP
open PySem PySem.W PyProof.Rows
set_option maxRecDepth 100000 in
set_option maxHeartbeats 0 in
theorem PySem.Challenge.cw_seatturn_k09_refused_holds : PySem.Challenge.rw_seatturn_k09_refused.Holds := by
  w_on; o_law; k_head; (case hw => w_witness2)
  k_fill
  refine KP.walk (l := PySem.Challenge.rw_seatturn_k09_refused) rfl rfl (fun w h Y => PySem.W.kIn_of Y) ?F
  case F =>
    intro w mg fa h KX G hmg
    refine' KP.all_mk KX G hmg ?aAF ?lAF ?cAF ?kAF ?aBF ?lBF ?cBF ?kBF ?aCF ?lCF ?cCF ?kCF ?aDF ?lDF ?cDF ?kDF ?aEF ?lEF ?cEF ?kEF ?aFF ?lFF ?cFF ?kFF ?aGF ?lGF ?cGF ?kGF ?aHF ?lHF ?cHF ?kHF ?aIF ?lIF ?cIF ?kIF ?aJF ?lJF ?cJF ?kJF ?aKF ?lKF ?cKF ?kKF ?aLF ?lLF ?cLF ?kLF ?aMF ?lMF ?cMF ?kMF ?aNF ?lNF ?cNF ?kNF ?aOF ?lOF ?cOF ?kOF ?aPF ?lPF ?cPF ?kPF ?aQF ?lQF ?cQF ?kQF ?aRF ?lRF ?cRF ?kRF ?aSF ?lSF ?cSF ?kSF ?aTF ?lTF ?cTF ?kTF ?aUF ?lUF ?cUF ?kUF ?aVF ?lVF ?cVF ?kVF ?ncS ?xcS ?ncB ?xcB ?ncO ?xcO ?ncR ?xcR ?ncN ?xcN ?m0 ?m1 ?m2 ?m3 ?m4 ?kacB ?kacO ?kcBcB ?kcBcO ?kcBcR ?kcBcN ?kcOcB ?kcOcO ?kcOcR ?kcOcN ?wcB ?wcO ?z0 ?z1 ?z2 ?z3 ?z4 ?z5 ?z6 ?z7 ?z8 ?z9 ?z10 ?z11 ?z12 ?z13
    (case aAF => k_is)
    (case lAF => k_is)
    (case cAF => k_is)
    (case kAF => k_is)
    (case aBF => k_is)
    (case lBF => k_is)
    (case cBF => k_is)
    (case kBF => k_is)
    (case aCF => k_is)
    (case lCF => k_is)
    (case cCF => k_is)
    (case kCF => k_is)
    (case aDF => k_is)
    (case lDF => k_is)
    (case cDF => k_is)
    (case kDF => k_is)
    (case aEF => k_is)
    (case lEF => k_is)
    (case cEF => k_is)
    (case kEF => k_is)
    (case aFF => k_is)
    (case lFF => k_is)
    (case cFF => k_is)
    (case kFF => k_is)
    (case aGF => k_is)
    (case lGF => k_is)
    (case cGF => k_is)
    (case kGF => k_is)
    (case aHF => k_is)
    (case lHF => k_is)
    (case cHF => k_is)
    (case kHF => k_is)
    (case aIF => k_is)
    (case lIF => k_is)
    (case cIF => k_is)
    (case kIF => k_is)
    (case aJF => k_is)
    (case lJF => k_is)
    (case cJF => k_is)
    (case kJF => k_is)
    (case aKF => k_is)
    (case lKF => k_is)
    (case cKF => k_is)
    (case kKF => k_is)
    (case aLF => k_is)
    (case lLF => k_is)
    (case cLF => k_is)
    (case kLF => k_is)
    (case aMF => k_is)
    (case lMF => k_is)
    (case cMF => k_is)
    (case kMF => k_is)
    (case aNF => k_is)
    (case lNF => k_is)
    (case cNF => k_is)
    (case kNF => k_is)
    (case aOF => k_is)
    (case lOF => k_is)
    (case cOF => k_is)
    (case kOF => k_is)
    (case aPF => k_is)
    (case lPF => k_is)
    (case cPF => k_is)
    (case kPF => k_is)
    (case aQF => k_is)
    (case lQF => k_is)
    (case cQF => k_is)
    (case kQF => k_is)
    (case aRF => k_is)
    (case lRF => k_is)
    (case cRF => k_is)
    (case kRF => k_is)
    (case aSF => k_is)
    (case lSF => k_is)
    (case cSF => k_is)
    (case kSF => k_is)
    (case aTF => k_is)
    (case lTF => k_is)
    (case cTF => k_is)
    (case kTF => k_is)
    (case aUF => k_is)
    (case lUF => k_is)
    (case cUF => k_is)
    (case kUF => k_is)
    (case aVF => k_is)
    (case lVF => k_is)
    (case cVF => k_is)
    (case kVF => k_is)
    (case ncS => k_is)
    (case xcS => k_exc)
    (case ncB => k_is)
    (case xcB => k_exc)
    (case ncO => k_is)
    (case xcO => k_exc)
    (case ncR => k_is)
    (case xcR => k_exc)
    (case ncN => k_is)
    (case xcN => k_exc)
    (case m0 => k_is)
    (case m1 => k_is)
    (case m2 => k_is)
    (case m3 => k_is)
    (case m4 => k_is)
    (case kacB => exact ⟨by k_is, by k_is, by k_is, by k_is, by k_is, by k_is, by k_is⟩)
    (case kacO => exact ⟨by k_is, by k_is, by k_is, by k_is, by k_is, by k_is, by k_is⟩)
    (case kcBcB => k_is)
    (case kcBcO => k_is)
    (case kcBcR => k_is)
    (case kcBcN => k_is)
    (case kcOcB => k_is)
    (case kcOcO => k_is)
    (case kcOcR => k_is)
    (case kcOcN => k_is)
    (case wcB => k_is)
    (case wcO => k_is)
    (case z0 => k_is)
    (case z1 => k_is)
    (case z2 => k_is)
    (case z3 => k_is)
    (case z4 => k_is)
    (case z5 => k_is)
    (case z6 => k_is)
    (case z7 => k_is)
    (case z8 => k_is)
    (case z9 => k_is)
    (case z10 => k_is)
    (case z11 => k_is)
    (case z12 => k_is)
    (case z13 => k_is)
