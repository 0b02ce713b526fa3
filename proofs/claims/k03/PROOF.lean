import PyProof.Rows.All
import Wide.All
import OpenK.AllK
import Wide.FinOn
import PySem.Challenge.RW_lanescounted_k03_marks_moved_by_ranges
import HandS.ForMost
import HandS.ForExc
import HandS.Wide
import HandS.IsInst
import HandS.EndBits
import HandS.Small
import HandS.FStr
import HandS.Gcd
import HandS.Strs
import HandS.SetFor
import HandS.ExcIs
import HandS.TryMany
set_option Elab.async false
set_option linter.all false
set_option maxRecDepth 100000
set_option maxHeartbeats 4000000
namespace MRange
def st (l c s : Nat) : Nat := (l * s + c - 1) / c
def lane (c s m : Nat) : Nat := m * c / s
def D (b a s m : Nat) : Bool := decide (lane b s m ≠ lane a s m)
def C (b a s n : Nat) : Nat := (List.range n).countP (D b a s)
theorem ceil_le {x c m : Nat} (hc : 0 < c) : (x + c - 1) / c ≤ m ↔ x ≤ m * c := by
  rw [← Nat.lt_succ_iff, Nat.div_lt_iff_lt_mul hc, Nat.succ_mul]
  omega
theorem lane_ge {l c s m : Nat} (hc : 0 < c) (hs : 0 < s) : l ≤ lane c s m ↔ st l c s ≤ m := by
  unfold lane st
  rw [Nat.le_div_iff_mul_le hs, ceil_le hc]
theorem st_top {c s : Nat} (hc : 0 < c) : st c c s = s := by
  unfold st
  have h1 : (c * s + c - 1) / c ≤ s := (ceil_le hc).mpr (by rw [Nat.mul_comm]; exact Nat.le_refl _)
  have h2 : s ≤ (c * s + c - 1) / c := by
    rw [Nat.le_div_iff_mul_le hc, Nat.mul_comm s c]; omega
  omega
theorem st_zero {c s : Nat} (hc : 0 < c) : st 0 c s = 0 := by
  unfold st
  rw [Nat.zero_mul, Nat.zero_add]
  exact Nat.div_eq_of_lt (by omega)
theorem st_mono {i j c s : Nat} (h : i ≤ j) : st i c s ≤ st j c s := by
  unfold st
  have := Nat.mul_le_mul_right s h
  exact Nat.div_le_div_right (by omega)
theorem lane_mono {low high s m : Nat} (h : low ≤ high) : lane low s m ≤ lane high s m := by
  unfold lane
  exact Nat.div_le_div_right (Nat.mul_le_mul_left m h)
theorem st_anti {low high s l : Nat} (h0 : 0 < low) (hs : 0 < s) (h : low ≤ high) : st l high s ≤ st l low s :=
  (lane_ge (by omega) hs).mp (Nat.le_trans ((lane_ge h0 hs).mpr (Nat.le_refl _)) (lane_mono h))
theorem lane_lt {c s m : Nat} (hs : 0 < s) (hm : m < s) (hc : 0 < c) : lane c s m < c := by
  unfold lane
  rw [Nat.div_lt_iff_lt_mul hs, Nat.mul_comm c s]
  exact Nat.mul_lt_mul_of_pos_right hm hc
theorem D_comm (b a s m : Nat) : D b a s m = D a b s m := by
  unfold D
  by_cases h : lane b s m = lane a s m
  · simp [h]
  · have h2 : ¬ lane a s m = lane b s m := fun z => h z.symm
    simp [h, h2]
theorem C_comm (b a s n : Nat) : C b a s n = C a b s n := by
  unfold C
  rw [show D b a s = D a b s from funext (D_comm b a s)]
theorem count_between (lo hi : Nat) (n : Nat) : (List.range n).countP (fun m => decide (lo ≤ m ∧ m < hi)) = min n hi - lo := by
  induction n with
  | zero => simp
  | succ n ih =>
    rw [List.range_succ, List.countP_append, ih, List.countP_singleton]
    by_cases h : lo ≤ n ∧ n < hi
    · rw [if_pos (decide_eq_true h)]; omega
    · rw [if_neg (fun z => h (of_decide_eq_true z))]; omega
/-- kept: the same lane by both, below n -/
def Kn (low high s n : Nat) : Nat := (List.range s).countP fun m => decide (lane low s m = lane high s m ∧ lane low s m < n)
def gap (low high s l : Nat) : Nat := st (l + 1) high s - st l low s
theorem countP_or {α : Type} (p q r : α → Bool) (l : List α) (h : ∀ x ∈ l, (p x = true ↔ q x = true ∨ r x = true)) (hn : ∀ x ∈ l, ¬ (q x = true ∧ r x = true)) : l.countP p = l.countP q + l.countP r := by
  induction l with
  | nil => rfl
  | cons x t ih =>
    have hx := h x List.mem_cons_self
    have nx := hn x List.mem_cons_self
    rw [List.countP_cons, List.countP_cons, List.countP_cons, ih (fun y hy => h y (List.mem_cons_of_mem _ hy)) (fun y hy => hn y (List.mem_cons_of_mem _ hy))]
    by_cases hq : q x = true
    · have hr : ¬ r x = true := fun z => nx ⟨hq, z⟩
      rw [if_pos (hx.mpr (.inl hq)), if_pos hq, if_neg hr]; omega
    · by_cases hr : r x = true
      · rw [if_pos (hx.mpr (.inr hr)), if_neg hq, if_pos hr]; omega
      · rw [if_neg (fun z => (hx.mp z).elim hq hr), if_neg hq, if_neg hr]; omega
theorem Kn_succ {low high s n : Nat} (h0 : 0 < low) (hs : 0 < s) (h : low ≤ high) (hn : n < low) : Kn low high s (n + 1) = Kn low high s n + gap low high s n := by
  have hi : st (n + 1) high s ≤ s := by
    have := st_mono (c := high) (s := s) (show n + 1 ≤ high by omega)
    rw [st_top (by omega)] at this; exact this
  have e : gap low high s n = (List.range s).countP fun m => decide (st n low s ≤ m ∧ m < st (n + 1) high s) := by
    rw [count_between]; unfold gap; omega
  rw [e]
  unfold Kn
  refine countP_or _ _ _ _ (fun m _ => ?_) (fun m _ => ?_)
  · simp only [decide_eq_true_eq]
    rw [← lane_ge h0 hs]
    have h2 : m < st (n + 1) high s ↔ lane high s m < n + 1 := by
      rw [← Nat.not_le, ← lane_ge (by omega) hs, Nat.not_le]
    rw [h2]
    have h3 := lane_mono (s := s) (m := m) h
    omega
  · simp only [decide_eq_true_eq]
    rw [← lane_ge h0 hs]
    omega
theorem C_Kn {low high s : Nat} (h0 : 0 < low) (hs : 0 < s) (h : low ≤ high) : C low high s s + Kn low high s low = s := by
  have e : (List.range s).countP (fun _ => true) = C low high s s + Kn low high s low := by
    unfold C Kn
    refine countP_or _ _ _ _ (fun m hm => ?_) (fun m hm => ?_)
    · have := lane_lt hs (List.mem_range.mp hm) h0
      unfold D
      simp only [decide_eq_true_eq, true_iff]
      omega
    · unfold D
      simp only [decide_eq_true_eq]
      omega
  rw [← e]; simp
/-- parts between ends -/
def parts : List Nat → List (Nat × Nat)
  | x :: y :: r => (x, y) :: parts (y :: r)
  | _ => []
/-- a chain of ends from h to e, lanes constant between them -/
inductive Chain (b a s : Nat) : List Nat → Nat → Nat → Prop where
  | one (e : Nat) : Chain b a s [e] e e
  | cons {x y e : Nat} {r : List Nat} (lt : x < y) (same : ∀ m, x ≤ m → m < y → D b a s m = D b a s x) (t : Chain b a s (y :: r) y e) : Chain b a s (x :: y :: r) x e
theorem C_step (b a s n : Nat) : C b a s (n + 1) = C b a s n + (if D b a s n = true then 1 else 0) := by
  unfold C
  rw [List.range_succ, List.countP_append, List.countP_singleton]
theorem C_const {b a s x : Nat} : ∀ (k : Nat), (∀ m, x ≤ m → m < x + k → D b a s m = D b a s x) → C b a s (x + k) = C b a s x + (if D b a s x = true then k else 0)
  | 0, _ => by simp
  | k + 1, h => by
    rw [← Nat.add_assoc, C_step, C_const k (fun m h1 h2 => h m h1 (by omega)), h (x + k) (by omega) (by omega)]
    split <;> omega
def total (l : List (Nat × Nat)) : Nat := (l.map fun p => p.2 - p.1).sum
theorem chain_le {b a s : Nat} {l : List Nat} {h e : Nat} (c : Chain b a s l h e) : h ≤ e := by
  induction c with
  | one e => exact Nat.le_refl _
  | cons lt same t ih => omega
theorem chain_total {b a s : Nat} {l : List Nat} {h e : Nat} (c : Chain b a s l h e) : C b a s h + total ((parts l).filter fun p => D b a s p.1) = C b a s e := by
  induction c with
  | one e => rfl
  | @cons x y e r lt same t ih =>
    have k := C_const (b := b) (a := a) (s := s) (x := x) (y - x) (fun m h1 h2 => same m h1 (by omega))
    rw [show x + (y - x) = y by omega] at k
    unfold parts
    by_cases d : D b a s x = true
    · rw [List.filter_cons_of_pos (by exact d)]
      rw [if_pos d] at k
      show C b a s x + ((y - x) + total _) = _
      omega
    · rw [List.filter_cons_of_neg (by exact d)]
      rw [if_neg d] at k
      omega
theorem chain_first {b a s : Nat} {l : List Nat} {h e : Nat} (c : Chain b a s l h e) :
    (((parts l).filter fun p => D b a s p.1) = [] ∧ ∀ m, h ≤ m → m < e → D b a s m = false) ∨
    ∃ x y t, ((parts l).filter fun p => D b a s p.1) = (x, y) :: t ∧ h ≤ x ∧ x < e ∧ D b a s x = true ∧ ∀ m, h ≤ m → m < x → D b a s m = false := by
  induction c with
  | one e => exact .inl ⟨rfl, fun m h1 h2 => by omega⟩
  | @cons x y e r lt same t ih =>
    have le := chain_le t
    unfold parts
    by_cases d : D b a s x = true
    · refine .inr ⟨x, y, _, List.filter_cons_of_pos (by exact d), Nat.le_refl _, by omega, d, fun m h1 h2 => by omega⟩
    · have df : D b a s x = false := by simpa using d
      rw [List.filter_cons_of_neg (by exact d)]
      have pre : ∀ m, x ≤ m → m < y → D b a s m = false := fun m h1 h2 => by rw [same m h1 h2, df]
      rcases ih with ⟨e1, h1⟩ | ⟨x', y', t', e1, h1, h2, h3, h4⟩
      · refine .inl ⟨e1, fun m q1 q2 => ?_⟩
        rcases Nat.lt_or_ge m y with z | z
        · exact pre m q1 z
        · exact h1 m z q2
      · refine .inr ⟨x', y', t', e1, by omega, h2, h3, fun m q1 q2 => ?_⟩
        rcases Nat.lt_or_ge m y with z | z
        · exact pre m q1 z
        · exact h4 m z q2
/-- all marks one by one -/
theorem chain_range (b a s : Nat) : ∀ (k h : Nat), Chain b a s ((List.range (k + 1)).map (h + ·)) h (h + k)
  | 0, h => by simpa using Chain.one h
  | k + 1, h => by
    have ih := chain_range b a s k (h + 1)
    have e : (List.range (k + 1 + 1)).map (h + ·) = h :: (List.range (k + 1)).map (h + 1 + ·) := by
      rw [List.range_succ_eq_map, List.map_cons, List.map_map]
      congr 1
      apply List.map_congr_left
      intro i _
      show h + (i + 1) = h + 1 + i
      omega
    have e2 : (List.range (k + 1)).map (h + 1 + ·) = (h + 1) :: (List.range k).map (h + 1 + 1 + ·) := by
      rw [List.range_succ_eq_map, List.map_cons, List.map_map]
      congr 1
      apply List.map_congr_left
      intro i _
      show h + 1 + (i + 1) = h + 1 + 1 + i
      omega
    rw [e, e2]
    rw [e2] at ih
    rw [show h + (k + 1) = h + 1 + k by omega]
    exact .cons (by omega) (fun m h1 h2 => by rw [show m = h by omega]) ih
/-- the ends of all lanes -/
def IsEnd (b a s x : Nat) : Prop := (∃ k, k ≤ b ∧ x = st k b s) ∨ ∃ k, k ≤ a ∧ x = st k a s
theorem lane_const {c s x y m : Nat} (hc : 0 < c) (hs : 0 < s) (hy : y ≤ s) (h1 : x ≤ m) (h2 : m < y) (no : ∀ k, k ≤ c → ¬ (x < st k c s ∧ st k c s < y)) : lane c s m = lane c s x := by
  have le : lane c s x ≤ lane c s m := by
    unfold lane; exact Nat.div_le_div_right (Nat.mul_le_mul_right c h1)
  have lt := lane_lt (c := c) hs (show m < s by omega) hc
  rcases Nat.lt_or_ge (lane c s x) (lane c s m) with z | z
  · have q1 : st (lane c s m) c s ≤ m := (lane_ge hc hs).mp (Nat.le_refl _)
    have q2 : ¬ st (lane c s m) c s ≤ x := fun w => by
      have := (lane_ge hc hs).mpr w
      omega
    exact absurd ⟨by omega, by omega⟩ (no (lane c s m) (by omega))
  · omega
theorem chain_ends {b a s : Nat} (hb : 0 < b) (ha : 0 < a) (hs : 0 < s) : ∀ (l : List Nat) (h : Nat), (h :: l).Pairwise (· < ·) → (∀ x ∈ h :: l, x ≤ s) → (∀ x, IsEnd b a s x → h ≤ x → x ∈ h :: l) → h ≤ s → Chain b a s (h :: l) h s
  | [], h, pw, le, all, hh => by
    have e : s ∈ [h] := all s (.inl ⟨b, Nat.le_refl _, (st_top hb).symm⟩) hh
    have e2 : s = h := List.mem_singleton.mp e
    subst e2
    exact .one _
  | y :: r, h, pw, le, all, hh => by
    have lt : h < y := (List.pairwise_cons.mp pw).1 y List.mem_cons_self
    have no : ∀ x, IsEnd b a s x → ¬ (h < x ∧ x < y) := fun x hx ⟨z1, z2⟩ => by
      have m := all x hx (by omega)
      rcases List.mem_cons.mp m with rfl | m
      · omega
      · rcases List.mem_cons.mp m with rfl | m
        · omega
        · have := (List.pairwise_cons.mp (List.pairwise_cons.mp pw).2).1 x m
          omega
    have ys : y ≤ s := le y (List.mem_cons_of_mem _ List.mem_cons_self)
    refine .cons lt (fun m h1 h2 => ?_) (chain_ends hb ha hs r y (List.pairwise_cons.mp pw).2 (fun x hx => le x (List.mem_cons_of_mem _ hx)) (fun x hx hxy => ?_) ys)
    · unfold D
      rw [lane_const hb hs ys h1 h2 (fun k hk => no _ (.inl ⟨k, hk, rfl⟩)), lane_const ha hs ys h1 h2 (fun k hk => no _ (.inr ⟨k, hk, rfl⟩))]
    · have m := all x hx (by omega)
      rcases List.mem_cons.mp m with rfl | m
      · omega
      · exact m
theorem end_le {b a s x : Nat} (hb : 0 < b) (ha : 0 < a) (h : IsEnd b a s x) : x ≤ s := by
  rcases h with ⟨k, hk, rfl⟩ | ⟨k, hk, rfl⟩
  · have := st_mono (c := b) (s := s) hk; rw [st_top hb] at this; exact this
  · have := st_mono (c := a) (s := s) hk; rw [st_top ha] at this; exact this
/-- the first moved mark by starts -/
theorem first_at {low high s l : Nat} (h0 : 0 < low) (hs : 0 < s) (h : low ≤ high) (l2 : l ≤ low) (h3 : st l high s < st l low s) (h4 : ∀ j, 1 ≤ j → j < l → st j low s ≤ st j high s) :
    D low high s (st l high s) = true ∧ st l high s < s ∧ ∀ m, m < st l high s → D low high s m = false := by
  have top : st l low s ≤ s := by have := st_mono (c := low) (s := s) l2; rw [st_top h0] at this; exact this
  refine ⟨?_, by omega, fun m hm => ?_⟩
  · have q1 : l ≤ lane high s (st l high s) := (lane_ge (by omega) hs).mpr (Nat.le_refl _)
    have q2 : ¬ l ≤ lane low s (st l high s) := fun z => by
      have := (lane_ge h0 hs).mp z; omega
    unfold D
    exact decide_eq_true (by omega)
  · unfold D
    have mono := lane_mono (s := s) (m := m) h
    refine decide_eq_false (fun ne => ?_)
    have lt : lane low s m < lane high s m := by omega
    have q1 : st (lane high s m) high s ≤ m := (lane_ge (by omega) hs).mp (Nat.le_refl _)
    have jl : lane high s m < l := by
      rcases Nat.lt_or_ge (lane high s m) l with z | z
      · exact z
      · have := st_mono (c := high) (s := s) z; omega
    have q2 := h4 (lane high s m) (by omega) jl
    have q3 := (lane_ge h0 hs).mpr (show st (lane high s m) low s ≤ m by omega)
    omega
theorem first_no {low high s : Nat} (h0 : 0 < low) (hs : 0 < s) (h : low ≤ high) (h4 : ∀ j, 1 ≤ j → j ≤ low → st j low s ≤ st j high s) (m : Nat) (hm : m < s) : D low high s m = false := by
  unfold D
  have mono := lane_mono (s := s) (m := m) h
  refine decide_eq_false (fun ne => ?_)
  have lt : lane low s m < lane high s m := by omega
  have ll := lane_lt hs hm h0
  have q1 : lane low s m + 1 ≤ lane high s m := by omega
  have q2 : st (lane low s m + 1) high s ≤ m := (lane_ge (by omega) hs).mp q1
  have q3 := h4 (lane low s m + 1) (by omega) (by omega)
  have q4 := (lane_ge h0 hs).mpr (show st (lane low s m + 1) low s ≤ m by omega)
  omega
end MRange
namespace LcS
open PySem PySem.Spec PyProof.Rows L2
section
variable {P : Program} {w : World} {A : Around} {E : Value → Shared → Prop} {s : Shared}
/-- a set just made -/
abbrev nul (w : World) : Obj := { cls := .type "set", dict := none, data := .set #[] 0 (.fresh 0 0 (!w.params.followText "set-order")) }
set_option maxHeartbeats 8000000 in
theorem set_of_list {l : Addr} {its : Array Value} (ns : List Int) {Q : Value → Shared → Prop} (hd : A.handled = none) (hl : s.heap.IsList l its) (ar : IntsAre its.toList ns) (room : ns.length + 1 < scanBound)
    (fin : ∀ (g : Heap) (tk c : Nat), SetR w g s.heap.objs.size (fun j => decide (j ∈ ns)) c → c ≤ ns.length → (∀ b o, s.heap.get? b = some o → g.get? b = some o) → Q (.ref s.heap.objs.size) { s with heap := g, toks := tk }) :
    wpAny (model P w) A (call (.type "set") [.ref l]) Q E s := by
  have size : its.size = ns.length := (Array.length_toList ▸ IntsAre.length ar)
  obtain ⟨mc, mt, mro⟩ := F.called_set.mro
  have made := F.called_set.made
  have sub := F.called_set.sub
  have notT := F.called_set.notType
  have can := F.called_set.canCreate
  have chk := F.typeCall_set_1 (.ref l)
  refine wpAny_call (codeAny_of_tree (show wpAny _ _ (callAny (.type "set") _) _ _ _ from wpAny_pure ⟨Code.quiet_builtin _ (by decide +kernel), codeAny_builtin F.entry_type_call ?_⟩))
  rw [Around.under_plain (weight_type_call_type "set" [.ref l] []) rfl]
  repeat (any_goals (first | assumption | wp_step))
  refine codeAny_mono (code_set_led1 (.ref l) (E := E) (Q₁ := fun v z => v = .ref s.heap.objs.size ∧ z = { s with heap := s.heap.push (nul w) }) ⟨rfl, rfl⟩) ?_
  rintro (x | fl) z hz
  · exact hz
  cases fl <;> try exact hz.elim
  rename_i v
  obtain ⟨rfl, rfl⟩ := hz
  have at0 : (s.heap.push (nul w)).get? s.heap.objs.size = some (nul w) := Heap.get?_push_size _ rfl
  have ty0 : Shared.TypeIs { s with heap := s.heap.push (nul w) } (.ref s.heap.objs.size) "set" := ⟨_, at0, rfl⟩
  have il := F.called_set.init.lookup
  have ib := F.called_set.init.bind (.ref s.heap.objs.size)
  repeat (any_goals (first | assumption | wp_step))
  refine codeAny_mono (codeAny_call_builtin (R := wants (fun r z => r = .none ∧ ∃ g tk c, z = { s with heap := g, toks := tk } ∧ SetR w g s.heap.objs.size (fun j => decide (j ∈ ns)) c ∧ c ≤ ns.length ∧ (∀ b o, s.heap.get? b = some o → g.get? b = some o)) E)
    F.called_set.init.plain F.entry_set_init (check_set_init_1 ty0 ?_)) ?_
  · obtain ⟨⟨oc, od, odata, osl⟩, hol, hcl, nl, hdl⟩ := hl
    simp only at hcl hdl
    subst hcl; subst hdl
    have at1 : (s.heap.push (nul w)).get? l = some { cls := .type "list", dict := od, data := .seq its nl, slots := osl } := Heap.get?_push_of_some _ hol
    have s1 := F.sub_list_set
    have s2 := F.sub_list_frozenset
    have nd : (Value.type "list" == Value.type "dict") = false := by decide
    have hl1 : (s.heap.push (nul w)).IsList l its := ⟨_, at1, rfl, nl, rfl⟩
    unfold Builtin.«set.__init__» noKeywords Builtin.Frozenset.updateFrom
    generalize eI : pyIter = PI
    wp_walk
    subst eI
    refine wpAny_pyIter_list hl1 (wpAny_bind (wpAny_runValue ?_))
    have ll : l < s.heap.objs.size := Heap.lt_size hol
    have sz : (s.heap.push (nul w)).objs.size = s.heap.objs.size + 1 := Heap.size_push ..
    have hd3 : A.in1.in1.in1.handled = none := by simp [hd]
    have lI : l ≠ (s.heap.push (nul w)).objs.size := fun e => by rw [e, sz] at ll; exact absurd ll (by exact fun z => Nat.lt_irrefl _ (Nat.lt_of_succ_lt z))
    have out : s.heap.objs.size ∉ [(s.heap.push (nul w)).objs.size, l] := by
      rw [sz]
      simp only [List.mem_cons, List.not_mem_nil, or_false, not_or]
      exact ⟨fun z => Nat.succ_ne_self _ z.symm, fun z => Nat.lt_irrefl _ (z ▸ ll)⟩
    have val : ∀ (i : Nat) (v : Value), its[i]? = some v → ∃ k t, ns[i]? = some k ∧ v = .int k t := fun i v hv => by
      have hi : i < ns.length := size ▸ (Array.getElem?_eq_some_iff.mp hv).1
      obtain ⟨t, rfl⟩ := PyProof.Rows.IntsAre.int_at ar i v (by rw [Array.getElem?_toList]; exact hv)
      exact ⟨ns[i], t, List.getElem?_eq_getElem hi, by rw [List.getD_eq_getElem?_getD, List.getElem?_eq_getElem hi] <;> rfl⟩
    refine set_update_ints ((Walks.list hd3 _ l lI its).toS) s.heap.objs.size out ns size room val (its.size - 0) 0 _ (by omega) (Nat.zero_le _) ⟨⟨_, Heap.get?_push_size _ rfl, rfl, rfl⟩, (hl1.push _)⟩ ?_ ?_
    · exact ⟨0, Nat.le_refl 0, setR_new_at (Heap.get?_push_of_some _ at0)⟩
    · rintro ⟨g, g2, d2, tk, os2⟩ c mv hc R
      have e1 : g2 = s.gens := mv.gens
      have e2 : d2 = s.drawn := mv.drawn
      have e3 : os2 = s.os := mv.os
      subst e1 e2 e3
      refine wpAny_pure (show wpAny _ _ (ret Value.none) _ _ _ from wpAny_pure ⟨rfl, g, tk, c, rfl, R, size ▸ hc, fun b o e => ?_⟩)
      have bl := Heap.lt_size e
      exact mv.heap b o (by rw [sz]; simp only [List.mem_cons, List.not_mem_nil, or_false, not_or]; exact ⟨fun z => Nat.lt_irrefl _ (z ▸ bl), fun z => Nat.lt_irrefl _ (Nat.lt_of_succ_lt (z ▸ bl))⟩) (Heap.get?_push_of_some _ (Heap.get?_push_of_some _ e))
  · rintro (x | fl) z hz
    · exact hz
    cases fl <;> try exact hz.elim
    obtain ⟨rfl, g, tk, c, rfl, R, hc, k⟩ := hz
    repeat (any_goals (first | assumption | wp_step))
    exact fin _ _ _ R hc k
end
/-- set(xs), xs a list of ints -/
def rSetL (K : PySem.W.Frag) (w : World) : List V → Hp → VK → Prop := fun xs H Q => ∃ (l : Addr) (ns : List Int), xs = [.ref l] ∧ SqL K H l (ns.map V.int) ∧ ns.length ≤ 2000 ∧
  ∀ p c, H p = none → c ≤ ns.length → Q (.ref p) (upd H p (SetO w p (fun j => decide (j ∈ ns)) c))
theorem cr_setL {X : Cx} (hc : X.calm = true) : CallR X (.type "set") (rSetL X.K X.w) := by
  intro pins s σ H xs us Q I r h
  obtain ⟨l, ns, rfl, hq, hn, q⟩ := h
  rw [Vals.ref1 r]
  obtain ⟨its, rv, pl, _⟩ := I.list hq
  refine set_of_list ns (I.ok.hd hc) pl.isList (by simpa using rv.ints) (by unfold scanBound; omega) fun g tk c R hcn k => ?_
  exact ⟨.ref _, _, I.laid (t' := tk) k (Nat.le_refl _) (setO_new R), rfl, q _ c (I.hok.fresh (Nat.le_refl _)) hcn⟩
end LcS
namespace Lc
open PySem PySem.Spec PyProof.Rows L2
/-! ### great ints -/
/-- two factors of together less than a hundred million bits -/
def CMulX (i j : Int) : Prop := i.natAbs.log2 + j.natAbs.log2 < 100000000
theorem intBits_le (x : Int) : Builtin.Int.intBits x ≤ x.natAbs.log2 + 1 := by
  unfold Builtin.Int.intBits; split <;> omega
theorem CMulX.ok {i j : Int} (h : CMulX i j) : IntMulOk i j := by
  have a := intBits_le i
  have b := intBits_le j
  unfold CMulX at h
  intro z
  have y := (Bool.and_eq_true _ _ ▸ z).2
  unfold Builtin.Int.intTooBig at y
  have x := of_decide_eq_true y
  have l : bitsLine = 134217728 := by decide
  omega
theorem op_mulX {X : Cx} : OpR X (binaryOp .Mult) (rI CMulX fun i j => .int (i * j)) := opI fun _ _ _ _ _ _ _ hc q => mul_int q hc.ok
/-- few bits -/
def Few (i : Int) : Prop := i.natAbs.log2 ≤ 2000000
theorem few_of {i : Int} (h : i.natAbs < 2 ^ 240) : Few i := by
  have := PySem.Flt.log2_lt_of (n := i.natAbs) (k := 240) (by omega) h
  unfold Few; omega
theorem few_le {i : Int} {b : Int} (h0 : 0 ≤ i) (h : i ≤ b) (hb : b.natAbs < 2 ^ 240) : Few i := few_of (Nat.lt_of_le_of_lt (by omega) hb)
theorem mulX {i j : Int} (h : Few i) (h' : Few j) : CMulX i j := by unfold CMulX; unfold Few at h h'; omega
theorem divX {i j : Int} (h : 0 < j) (hb : j.natAbs < 2 ^ 240) : CDivW i j := wide_div (b := 240) h hb (by decide) (by decide)
theorem log2_mono {a b : Nat} (h : a ≤ b) : a.log2 ≤ b.log2 := by
  rcases Nat.eq_zero_or_pos a with h0 | h0
  · subst h0; simp
  · have hb : b ≠ 0 := by omega
    have h1 : 2 ^ a.log2 ≤ a := Nat.log2_self_le (by omega)
    exact (Nat.le_log2 hb).mpr (by omega)
theorem bits_log {z : Int} (h : Builtin.Int.intBits z ≤ 1048576) : z.natAbs.log2 ≤ 1048576 := by
  unfold Builtin.Int.intBits at h
  split at h
  · rename_i h0; simp_all
  · omega
/-! ### heaps -/
/-- all that was tracked, but for a, is as it was -/
def But (a : Addr) (H H' : Hp) : Prop := ∀ b o, b ≠ a → H b = some o → H' b = some o
theorem But.refl (a : Addr) (H : Hp) : But a H H := fun _ _ _ h => h
theorem But.trans {a : Addr} {H H1 H2 : Hp} (x : But a H H1) (y : But a H1 H2) : But a H H2 := fun b o n h => y b o n (x b o n h)
theorem But.same {a : Addr} {H H1 H2 : Hp} (x : But a H H1) (y : Same H1 H2) : But a H H2 := fun b o n h => y b o (x b o n h)
theorem Same.but {a : Addr} {H H1 : Hp} (y : Same H H1) : But a H H1 := fun b o _ h => y b o h
theorem But.new {a : Addr} {H H1 H2 : Hp} (y : Same H H1) (x : But a H1 H2) : But a H H2 := fun b o n h => x b o n (y b o h)
theorem same_upd {H : Hp} {p : Addr} {o : HO} (h : H p = none) : Same H (upd H p o) := fun b x e => by
  rw [upd_ne (ne_of_none e h)]
  exact e
theorem But.upd {a : Addr} {H H' : Hp} {o : HO} (x : But a H H') : But a H (upd H' a o) := fun b u n h => by
  rw [upd_ne n]
  exact x b u n h
/-! ### statements joined behind an if -/
theorem seq_cut {t u : TS} {D : Ends} {σ : L2.St} {H : Hp} (M : L2.St → Hp → Prop) (h2 : ∀ σ' H', M σ' H' → u D σ' H') (h1 : (∀ σ' H', M σ' H' → u D σ' H') → t { D with nx := u D } σ H) : tSeq t u D σ H := h1 h2
theorem if_cut {c : TT} {t1 t2 u : TS} {D : Ends} {σ : L2.St} {H : Hp} (M : L2.St → Hp → Prop) (h2 : ∀ σ' H', M σ' H' → u D σ' H') (h1 : (∀ σ' H', M σ' H' → u D σ' H') → tIfS c t1 t2 { D with nx := u D } σ H) : tSeq (tIfS c t1 t2) u D σ H := h1 h2
/-! ### the source of draws -/
structure Src (H : Hp) (a : Addr) (n : Nat) : Prop where
  ex : ∃ (l : Addr) (ns : List Int) (x y z : Int), H a = some (.lst [.ref l, .int x, .int y, .int z]) ∧ H l = some (.lst (ns.map V.int)) ∧ (∀ k ∈ ns, k.natAbs.log2 ≤ 1048576) ∧ ns.length ≤ 63 ∧
    0 ≤ x ∧ x.natAbs.log2 ≤ 1048576 ∧ 0 ≤ y ∧ y < 2147483647 ∧ 0 ≤ z ∧ z ≤ (n : Int)
def spDraw : Sp := fun vs H Q _ => ∃ (a : Addr) (n : Nat) (lim : Int), vs = [.ref a, .int lim] ∧ Src H a n ∧ n < 1000000 ∧ 1 ≤ lim ∧ lim ≤ 1000000000000 ∧
  ∀ d H', 0 ≤ d → d < lim → Src H' a (n + 1) → But a H H' → Q (.int d) H'
def spSource (K : PySem.W.Frag) : Sp := fun vs H Q _ => ∃ (a : Addr) (ns : List Int), vs = [.ref a] ∧ SqL K H a (ns.map V.int) ∧ ns.length ≤ 63 ∧ (∀ z ∈ ns, Builtin.Int.intBits z ≤ 1048576) ∧
  ∀ p H', H p = none → Src H' p 0 → Same H H' → Q (.ref p) H'
def spGreat : Sp := fun vs H Q _ => ∃ (a : Addr) (n : Nat) (lim : Int), vs = [.ref a, .int lim] ∧ Src H a n ∧ n + 5 < 1000000 ∧ 1 ≤ lim ∧ lim ≤ 10 ^ 60 ∧
  ∀ d H', 0 ≤ d → d < lim → Src H' a (n + 5) → But a H H' → Q (.int d) H'
/-- what is behind the first if of a draw -/
structure Mid (H0 : Hp) (a : Addr) (n : Nat) (H : Hp) : Prop where
  src : Src H a n
  but : But a H0 H
theorem src_ne {H : Hp} {a b : Addr} {n : Nat} (S : Src H a n) (h : H b = none) : b ≠ a := by
  obtain ⟨l, ns, x, y, z, h1, _⟩ := S.ex
  intro e; subst e; rw [h] at h1; cases h1
theorem Src.le {H : Hp} {a : Addr} {n m : Nat} (S : Src H a n) (h : n ≤ m) : Src H a m := by
  obtain ⟨l, ns, x, y, z, h1, h2, h3, h4, h5, h6, h7, h8, h9, h10⟩ := S.ex
  exact ⟨l, ns, x, y, z, h1, h2, h3, h4, h5, h6, h7, h8, h9, by omega⟩
theorem Src.same {H H' : Hp} {a : Addr} {n : Nat} (S : Src H a n) (k : Same H H') : Src H' a n := by
  obtain ⟨l, ns, x, y, z, h1, h2, h3⟩ := S.ex
  exact ⟨l, ns, x, y, z, k _ _ h1, k _ _ h2, h3⟩
theorem cut1 (l : List V) : cutV l (some 1) none = l.drop 1 := by
  have e1 : HT.sIx l.length 0 (some 1) = min 1 l.length := HT.sIx_nat l.length 0 1
  have e2 : HT.sIx l.length l.length none = l.length := HT.sIx_none ..
  show ((l.drop (HT.sIx l.length 0 (some 1))).take (HT.sIx l.length l.length none - HT.sIx l.length 0 (some 1))) = l.drop 1
  rw [e1, e2]
  match l with
  | [] => rfl
  | a :: r =>
    have e3 : min 1 (a :: r).length = 1 := Nat.min_eq_left (by simp)
    rw [e3]
    exact List.take_of_length_le (by simp)
theorem idiv_log {x j : Int} (h0 : 0 ≤ x) (hj : 1 ≤ j) {k : Nat} (h : x.natAbs.log2 ≤ k) : (x / j).natAbs.log2 ≤ k := by
  have h1 : 0 ≤ x / j := Int.ediv_nonneg h0 (by omega)
  have h2 : x / j ≤ x := Int.ediv_le_self j h0
  have h3 : (x / j).natAbs ≤ x.natAbs := by omega
  exact Nat.le_trans (log2_mono h3) h
def pw9 : Nat → Int
  | 0 => 1
  | n + 1 => pw9 n * 1000000000
theorem pw9_le {i : Nat} (h : i ≤ 5) : pw9 i ≤ 1000000000000000000000000000000000000000000000 := by
  match i, h with
  | 0, _ => decide
  | 1, _ => decide
  | 2, _ => decide
  | 3, _ => decide
  | 4, _ => decide
  | 5, _ => decide
theorem few_bits {k : Int} (h : k.natAbs.log2 ≤ 1048576) : Few k := by unfold Few; omega
theorem ends_true {Q : VK} {b : Bool} {H : Hp} (q : ∀ H', Q (.bl true) H') (h : b = true) : Q (.bl b) H := h ▸ q H
/-! ### rules with the written part by its name (within a comprehension) -/
theorem ixL {X : Cx} (K : PySem.W.Frag) (h : X.K = K := by rfl) : IxR X (rIxL K) := h ▸ ix_list
theorem ixT {X : Cx} (K : PySem.W.Frag) (h : X.K = K := by rfl) : IxR X (rIxT K) := h ▸ ix_tup
/-! ### what an object is -/
inductive Arg (K : PySem.W.Frag) (H : Hp) : V → String → Prop where
  | non : Arg K H .non "NoneType"
  | bl (b : Bool) : Arg K H (.bl b) "bool"
  | int (i : Int) : Arg K H (.int i) "int"
  | str (x : Str) : Arg K H (.str x) "str"
  | lst {a : Addr} {xs : List V} (e : H a = some (.lst xs)) : Arg K H (.ref a) "list"
  | tup {a : Addr} {xs : List V} (e : H a = some (.tup xs)) : Arg K H (.ref a) "tuple"
  | dK {a : Addr} {kvs : List (Key × V)} (e : H a = some (.dK kvs)) : Arg K H (.ref a) "dict"
def isI : V → Bool
  | .int _ => true | .bl _ => true | _ => false
def isB : V → Bool
  | .bl _ => true | _ => false
def isS : V → Bool
  | .str _ => true | _ => false
section
variable {K : PySem.W.Frag} {H : Hp} {x : V} {n : String}
theorem Arg.ty (h : Arg K H x n) : TyX K H x (.type n) := by
  cases h with
  | non => exact .base .non
  | bl b => exact .base (.bl b)
  | int i => exact .base (.int i)
  | str s => exact .base (.str s)
  | lst e => exact .base (.lst e)
  | tup e => exact .base (.tup e)
  | dK e => exact .base (.dK e)
theorem Arg.int? (h : Arg K H x n) : PySem.W.kitOne K (.type n) (.type "int") = some (isI x) := by
  cases h <;> first | exact kit_ty (r := true) (by decide +kernel) | exact kit_ty (r := false) (by decide +kernel)
theorem Arg.bool? (h : Arg K H x n) : PySem.W.kitOne K (.type n) (.type "bool") = some (isB x) := by
  cases h <;> first | exact kit_ty (r := true) (by decide +kernel) | exact kit_ty (r := false) (by decide +kernel)
theorem Arg.str? (h : Arg K H x n) : PySem.W.kitOne K (.type n) (.type "str") = some (isS x) := by
  cases h <;> first | exact kit_ty (r := true) (by decide +kernel) | exact kit_ty (r := false) (by decide +kernel)
end
/-- an integer from lo to hi, no bool -/
def wholeV (x : V) (lo hi : Int) : Bool := match x with
  | .int i => decide (lo ≤ i) && decide (i ≤ hi)
  | _ => false
def wordV (x : V) (ws : List Str) : Bool := match x with
  | .str s => decide (s ∈ ws)
  | _ => false
theorem inV_str (s : Str) (ws : List Str) : inV (.str s) (ws.map V.str) = decide (s ∈ ws) := by
  unfold inV
  induction ws with
  | nil => rfl
  | cons w r ih =>
    rw [List.map_cons, List.any_cons, ih]
    show ((w == s) || decide (s ∈ r)) = decide (s ∈ w :: r)
    by_cases e : w = s
    · subst e; simp
    · have e2 : (w == s) = false := beq_eq_false_iff_ne.mpr e
      have e3 : ¬ s = w := fun z => e z.symm
      rw [e2, Bool.false_or]
      simp [e3]
theorem all_flat_str (ws : List Str) : (ws.map V.str).all flatV = true := by
  induction ws with
  | nil => rfl
  | cons w r ih => rw [List.map_cons, List.all_cons, ih]; rfl
theorem atI_two {α : Type} {x y : α} {d : Int} (h0 : 0 ≤ d) (h1 : d < 2) : atI [x, y] d = some (if d = 0 then x else y) := by
  have h : d = 0 ∨ d = 1 := by omega
  rcases h with rfl | rfl <;> rfl
theorem atI_three {α : Type} {x y z : α} {d : Int} (h0 : 0 ≤ d) (h1 : d < 3) : atI [x, y, z] d = some (if d = 0 then x else if d = 1 then y else z) := by
  have h : d = 0 ∨ d = 1 ∨ d = 2 := by omega
  rcases h with rfl | rfl | rfl <;> rfl
def spWhole (K : PySem.W.Frag) : Sp := fun vs H Q _ => ∃ (x : V) (lo hi : Int) (n : String), vs = [x, .int lo, .int hi] ∧ Arg K H x n ∧ Q (.bl (wholeV x lo hi)) H
def spWord (K : PySem.W.Frag) : Sp := fun vs H Q _ => ∃ (x : V) (t : Addr) (ws : List Str) (n : String), vs = [x, .ref t] ∧ SqT K H t (ws.map V.str) ∧ Arg K H x n ∧ Q (.bl (wordV x ws)) H
def spIsInt (K : PySem.W.Frag) : Sp := fun vs H Q _ => ∃ (x : V) (n : String), vs = [x] ∧ Arg K H x n ∧ Q (.bl (isI x && !isB x)) H
/-- what a def hands back or raises, nothing written -/
def spRes (exc : String → Addr) (r : Except String V) (H : Hp) (Q : VK) (E : XK) : Prop := match r with
  | .ok v => Q v H
  | .error n => E (.ref (exc n)) none H
theorem ite_of {c : Prop} [Decidable c] {α : Type} {a b : α} (h : c) : (if c then a else b) = a := if_pos h
/-! ### tables: what its defs hand back or raise -/
def kindV (x : V) : Bool := wordV x ["rest", "ranges"]
def laneAt (k : V) (c m s : Int) : Int := if k = .str "rest" then m % c else m * c / s
def laneOf (k c m s : V) : Except String V :=
  if kindV k = false then .error "BadKind" else if wholeV c 1 (10 ^ 20) = false then .error "BadCount" else if wholeV m 0 (10 ^ 40) = false then .error "BadMark" else
  if wholeV s 1 (10 ^ 40) = false then .error "BadSize" else match c, m, s with
    | .int c, .int m, .int s => if s ≤ m then .error "BadMark" else .ok (.int (laneAt k c m s))
    | _, _, _ => .ok .non
def spChk (K : PySem.W.Frag) (exc : String → Addr) (good : V → Bool) (n : String) : Sp := fun vs H Q E => ∃ (x : V) (tn : String), vs = [x] ∧ Arg K H x tn ∧ spRes exc (if good x = false then .error n else .ok .non) H Q E
def spChkC (K : PySem.W.Frag) (exc : String → Addr) : Sp := fun vs H Q E => ∃ (x : V) (g : Int) (tn : String), vs = [x, .int g] ∧ (g = 10 ^ 20 ∨ g = 1000) ∧ Arg K H x tn ∧ spRes exc (if wholeV x 1 g = false then .error "BadCount" else .ok .non) H Q E
def spLaneAt : Sp := fun vs H Q _ => ∃ (k : Str) (c m s : Int), vs = [.str k, .int c, .int m, .int s] ∧ 1 ≤ c ∧ c ≤ 10 ^ 20 ∧ 0 ≤ m ∧ m < s ∧ s ≤ 10 ^ 40 ∧ Q (.int (laneAt (.str k) c m s)) H
def spLaneOf (K : PySem.W.Frag) (exc : String → Addr) : Sp := fun vs H Q E => ∃ (k c m s : V) (tk tc tm ts : String), vs = [k, c, m, s] ∧ Arg K H k tk ∧ Arg K H c tc ∧ Arg K H m tm ∧ Arg K H s ts ∧ spRes exc (laneOf k c m s) H Q E
theorem whole_int {x : V} {lo hi : Int} (h : wholeV x lo hi = true) : ∃ i, x = .int i ∧ lo ≤ i ∧ i ≤ hi := by
  cases x with
  | int i =>
    have h2 : (decide (lo ≤ i) && decide (i ≤ hi)) = true := h
    rw [Bool.and_eq_true] at h2
    exact ⟨i, rfl, of_decide_eq_true h2.1, of_decide_eq_true h2.2⟩
  | _ => exact nomatch h
theorem word_str {x : V} {ws : List Str} (h : wordV x ws = true) : ∃ s, x = .str s ∧ s ∈ ws := by
  cases x with
  | str s => exact ⟨s, rfl, of_decide_eq_true h⟩
  | _ => exact nomatch h
theorem whole_of {i lo hi : Int} (h : lo ≤ i) (h' : i ≤ hi) : wholeV (.int i) lo hi = true := by
  show (decide (lo ≤ i) && decide (i ≤ hi)) = true
  rw [decide_eq_true h, decide_eq_true h']; rfl
theorem fmt20 : (toString ((10 : Int) ^ 20) : Str).length = 21 := by decide +kernel
/-! ### lcm, and ranges of any ints -/
def rLcm : List V → Hp → VK → Prop := fun vs H Q => ∃ a b : Nat, vs = [.int (a : Int), .int (b : Int)] ∧ a < 10 ^ 40 ∧ b < 10 ^ 40 ∧ 0 < a ∧ Q (.int ((Nat.lcm a b : Nat) : Int)) H
theorem cr_lcm {X : Cx} : CallR X (.builtin "math.lcm") rLcm := by
  intro pins s σ H vs us Q I r h
  obtain ⟨a, b, rfl, ha, hb, h0, q⟩ := h
  obtain ⟨t, u, rfl⟩ := Vals.int2 r
  have la : (max 1 ((a : Int).natAbs)).log2 ≤ 199 := PySem.W.mg_log (Nat.lt_of_lt_of_le (by rw [Int.natAbs_natCast]; omega : max 1 ((a : Int).natAbs) < 10 ^ 40) (by decide))
  have lb : (max ((a : Int).natAbs) ((b : Int).natAbs)).log2 ≤ 199 := PySem.W.mg_log (Nat.lt_of_lt_of_le (by rw [Int.natAbs_natCast, Int.natAbs_natCast]; omega : max ((a : Int).natAbs) ((b : Int).natAbs) < 10 ^ 40) (by decide))
  have e : ((Nat.lcm 1 ((a : Int).natAbs)).lcm ((b : Int).natAbs) : Nat) = Nat.lcm a b := by rw [Int.natAbs_natCast, Int.natAbs_natCast, Nat.lcm_one_left]
  have ls : (((((Nat.lcm 1 ((a : Int).natAbs)).lcm ((b : Int).natAbs) : Nat)) : Int)).natAbs.log2 < bitsLine := by
    rw [e, Int.natAbs_natCast]
    have h1 : Nat.lcm a b ≤ a * b := by
      unfold Nat.lcm; exact Nat.div_le_self _ _
    have h2 : a * b ≤ 10 ^ 40 * 10 ^ 40 := Nat.mul_le_mul (Nat.le_of_lt ha) (Nat.le_of_lt hb)
    have h3 : (Nat.lcm a b).log2 ≤ 399 := PySem.W.mg_log (Nat.lt_of_le_of_lt (Nat.le_trans h1 h2) (by decide))
    exact Nat.lt_of_le_of_lt h3 (by decide)
  exact PySem.call_function_meets PySem.W.MGF.kind_lcm PySem.W.MGF.plain_lcm PySem.W.MGF.entry_lcm (PySem.W.MGF.args_lcm _ _) (PySem.W.mg_run_lcm _ t _ u (by omega) (by omega) ls).meets ⟨.int _, H, I.tok _, ⟨_, rfl⟩, (by rw [e]; exact q)⟩
theorem turn_long {P : Program} {w : World} {K : PySem.W.Frag} {tg : Expr} (c : Addr) (lo : Int) (n : Nat) : Turn P w K tg (Itr lo n) [c] c (fun i h => IsLongIter h c (lo + (i : Nat) * 1) ((n : Int) - (i : Nat)) 1) := by
  refine { mem := List.mem_singleton.mpr rfl, obj := ?o, keep := ?k, item := ?i, done := ?d, self := ?s }
  case o =>
    intro i h hc b hb
    cases List.mem_singleton.mp hb
    exact ⟨_, hc, fun v (z : Data.fields _ = Data.cell v) => nomatch z⟩
  case k => exact fun i h h' hc k => k c (List.mem_singleton.mpr rfl) _ hc
  case i =>
    rintro X rfl rfl rfl hh i pins s σ H E I hf hc hg
    have hq := hf c (List.mem_singleton.mpr rfl)
    obtain ⟨q0, q1, q2, q3, q4, q5⟩ := hq
    refine (Walks.longrange (prog := X.prog) (w := X.w) (I.ok.hd hh) c lo 1 n).item i s _ _ hg hc fun v h' tk hv hc' hk => ?_
    obtain ⟨t, rfl⟩ := hv
    have J : Inv X pins σ H { s with heap := h', toks := tk } := I.turned (fun b o hb e => hk b o (fun z => hb (List.mem_singleton.mp z)) e) q0 q1 q3 q4 q5
    exact ⟨_, rfl, go_of (s := { s with heap := h', toks := tk }) (n := "longrange_iterator") hc' rfl rfl (by decide) ⟨.int (lo + i), H, J, ⟨t, by rw [Int.mul_one]⟩, ⟨rfl, rfl⟩, hc', fun b hb => (hf b hb).1⟩⟩
  case d =>
    rintro X rfl rfl rfl hh i pins s σ H E I hf hc hg
    obtain ⟨q0, q1, q2, q3, q4, q5⟩ := hf c (List.mem_singleton.mpr rfl)
    have hni : n ≤ i := hg
    exact wpAny_pyNext_long_end (I.ok.hd hh) hc (by omega) fun h' k => ⟨rfl, I.turned (t' := s.toks) (fun b o hb e => k b o hb e) q0 q1 q3 q4 q5⟩
  case s => exact fun _ _ _ _ _ hc h => wpAny_pyIter_longiter hc h
theorem any_range {X : Cx} {tg : Expr} {pins : List (Addr × Obj)} {σ : L2.St} {H : Hp} {s : Shared} {R : It → Hp → Prop} {E : Value → Shared → Prop} {lo hi : Int} {t u v : Tok} {tk : Nat} (I : Inv X pins σ H s) (q : R (Itr lo (hi - lo).toNat) H) :
    wpAny (model X.prog X.w) X.A (pyIter (.ref s.heap.objs.size)) (PIE X pins σ tg R) E { s with heap := s.heap.push { cls := .type "range", data := .fields #[.int lo t, .int hi u, .int 1 v] }, toks := tk } := by
  have J : Inv X pins σ H { s with heap := s.heap.push { cls := .type "range", data := .fields #[.int lo t, .int hi u, .int 1 v] }, toks := tk } := I.kept fun b o e => Heap.get?_push_of_some _ e
  have ez : lo + ((0 : Nat) : Int) * 1 = lo := by omega
  have en : (((hi - lo).toNat : Nat) : Int) - ((0 : Nat) : Int) = Builtin.Range.rangeSize lo hi 1 := by
    rw [rangeSize_one]; split <;> omega
  cases hsm : Builtin.Range.small lo hi 1 with
  | true =>
    refine wpAny_pyIter_range (IsRange.new ..) hsm ?_
    refine ⟨_, [_], _, _, H, rfl, J.kept (t' := tk) fun b o e => Heap.get?_push_of_some _ e, turn_range _ lo (hi - lo).toNat, ?_, fun b hb => ?_, q⟩
    · show IsRangeIter _ _ (lo + ((0 : Nat) : Int) * 1) ((((hi - lo).toNat : Nat) : Int) - ((0 : Nat) : Int)) 1
      rw [ez, en]; exact Heap.get?_push_size _ rfl
    · cases List.mem_singleton.mp hb
      exact J.fpOk (Nat.le_refl _) (J.hok.fresh (Nat.le_refl _))
  | false =>
    refine wpAny_pyIter_longrange (IsRange.new ..) hsm ?_
    refine ⟨_, [_], _, _, H, rfl, J.kept (t' := tk) fun b o e => Heap.get?_push_of_some _ e, turn_long _ lo (hi - lo).toNat, ?_, fun b hb => ?_, q⟩
    · show IsLongIter _ _ (lo + ((0 : Nat) : Int) * 1) ((((hi - lo).toNat : Nat) : Int) - ((0 : Nat) : Int)) 1
      rw [ez, en]; exact Heap.get?_push_size _ rfl
    · cases List.mem_singleton.mp hb
      exact J.fpOk (Nat.le_refl _) (J.hok.fresh (Nat.le_refl _))
def iRngA (ta : TA) : TI := fun σ H R => ta σ H fun vs H1 => ∃ i j : Int, vs = [.int i, .int j] ∧ R (Itr i (j - i).toNat) H1
theorem pi_rangeA {X : Cx} {tg a b : Expr} {ta : TA} {p pos : Pos} (hg : Gl X "range") (hm : X.mg "range" = none) (ha : PA X [a, b] ta) (hs : starEach [a, b] X.env = [(false, eval a X.env), (false, eval b X.env)] := by rfl) (hs2 : starEach [b] X.env = [(false, eval b X.env)] := by rfl) :
    PI X tg (.Call (.Name "range" p) [a, b] [] pos) (iRngA ta) := by
  refine ⟨fun pins s σ H R I h => Call_ (ld_blt I hg hm boot_range (PyProof.Rows.callWith_type1 (thn (ha.run pos pins s σ H _ I h) fun us s1 hh => ?_) (by rw [hs, hs2]) (by rw [hs2]; rfl)))⟩
  obtain ⟨vs, H1, J, r1, i, j, e, q⟩ := hh
  subst e
  obtain ⟨t, t', rfl⟩ := Vals.int2 r1
  exact call_range_2 (any_range J q)
/-! ### marks that move -/
def lstart (l c s : Int) : Int := (l * s + c - 1) / c
def lcmI (a b : Int) : Int := ((Nat.lcm a.toNat b.toNat : Nat) : Int)
def keptRest (low high size : Int) : Int := size / lcmI low high * low + (if low < size % lcmI low high then low else size % lcmI low high)
def gapI (high low size : Int) (l : Int) : Int := if lstart (l + 1) high size - lstart l low size > 0 then lstart (l + 1) high size - lstart l low size else 0
def keptR (high low size : Int) : Nat → Int
  | 0 => 0
  | n + 1 => keptR high low size n + gapI high low size (n : Int)
inductive FirstR (low high size : Int) : V → Prop where
  | at (l : Int) (h1 : 1 ≤ l) (h2 : l ≤ low) (h3 : lstart l high size < lstart l low size) (h4 : ∀ j, 1 ≤ j → j < l → lstart j low size ≤ lstart j high size) : FirstR low high size (.int (lstart l high size))
  | no (h : ∀ j, 1 ≤ j → j ≤ low → lstart j low size ≤ lstart j high size) : FirstR low high size .non
def lowI (b a : Int) : Int := if a < b then a else b
def highI (b a : Int) : Int := if a > b then a else b
def countM (k : Str) (b a s : Int) : Int := if V.str k = .str "rest" then s - keptRest (lowI b a) (highI b a) s else s - keptR (highI b a) (lowI b a) s (lowI b a).toNat
def FirstM (k : Str) (b a s : Int) (r : V) : Prop := if V.str k = .str "ranges" then FirstR (lowI b a) (highI b a) s r else
  r = (if lowI b a < (if s < highI b a then s else highI b a) then .int (lowI b a) else .non)
def mostOf (k : V) : Int := if k = .str "rest" then 10 ^ 20 else 1000
def chkM (k b a s : V) : Option String :=
  if kindV k = false then some "BadKind" else if wholeV b 1 (mostOf k) = false then some "BadCount" else if wholeV a 1 (mostOf k) = false then some "BadCount" else if wholeV s 1 (10 ^ 40) = false then some "BadSize" else none
structure Mvd (ks : Str) (b a s : Int) : Prop where
  k : kindV (.str ks) = true
  b1 : 1 ≤ b
  b2 : b ≤ mostOf (.str ks)
  a1 : 1 ≤ a
  a2 : a ≤ mostOf (.str ks)
  s1 : 1 ≤ s
  s2 : s ≤ 10 ^ 40
theorem chkM_none {k b a s : V} (h : chkM k b a s = none) : ∃ ks bi ai si, k = .str ks ∧ b = .int bi ∧ a = .int ai ∧ s = .int si ∧ Mvd ks bi ai si := by
  unfold chkM at h
  cases e1 : kindV k with
  | false => rw [if_pos e1] at h; cases h
  | true =>
  rw [if_neg (by rw [e1]; decide)] at h
  cases e2 : wholeV b 1 (mostOf k) with
  | false => rw [if_pos e2] at h; cases h
  | true =>
  rw [if_neg (by rw [e2]; decide)] at h
  cases e3 : wholeV a 1 (mostOf k) with
  | false => rw [if_pos e3] at h; cases h
  | true =>
  rw [if_neg (by rw [e3]; decide)] at h
  cases e4 : wholeV s 1 (10 ^ 40) with
  | false => rw [if_pos e4] at h; cases h
  | true =>
  obtain ⟨bi, rfl, b1, b2⟩ := whole_int e2
  obtain ⟨ai, rfl, a1, a2⟩ := whole_int e3
  obtain ⟨si, rfl, s1, s2⟩ := whole_int e4
  obtain ⟨ks, rfl, _⟩ := word_str e1
  exact ⟨ks, bi, ai, si, rfl, rfl, rfl, rfl, e1, b1, b2, a1, a2, s1, s2⟩
theorem chkM_ok {ks : Str} {b a s : Int} (h : Mvd ks b a s) : chkM (.str ks) (.int b) (.int a) (.int s) = none := by
  unfold chkM
  rw [if_neg (by rw [h.k]; decide), if_neg (by rw [whole_of h.b1 h.b2]; decide), if_neg (by rw [whole_of h.a1 h.a2]; decide), if_neg (by rw [whole_of h.s1 h.s2]; decide)]
/-- one who asks: the error, or what comes of good ones -/
def spAskM (K : PySem.W.Frag) (exc : String → Addr) (G : Str → Int → Int → Int → V → Prop) : Sp := fun vs H Q E => ∃ (k b a s : V) (tk tb ta ts : String), vs = [k, b, a, s] ∧ Arg K H k tk ∧ Arg K H b tb ∧ Arg K H a ta ∧ Arg K H s ts ∧
  (∀ n, chkM k b a s = some n → E (.ref (exc n)) none H) ∧ (∀ ks bi ai si, k = .str ks → b = .int bi → a = .int ai → s = .int si → Mvd ks bi ai si → ∀ r, G ks bi ai si r → Q r H)
def spLstart : Sp := fun vs H Q _ => ∃ l c s : Int, vs = [.int l, .int c, .int s] ∧ 0 ≤ l ∧ l ≤ 2000 ∧ 1 ≤ c ∧ c ≤ 1000 ∧ 1 ≤ s ∧ s ≤ 10 ^ 40 ∧ Q (.int (lstart l c s)) H
def spKeptRest : Sp := fun vs H Q _ => ∃ l h s : Int, vs = [.int l, .int h, .int s] ∧ 1 ≤ l ∧ l ≤ 10 ^ 20 ∧ 1 ≤ h ∧ h ≤ 10 ^ 20 ∧ 1 ≤ s ∧ s ≤ 10 ^ 40 ∧ Q (.int (keptRest l h s)) H
def spKeptRanges : Sp := fun vs H Q _ => ∃ l h s : Int, vs = [.int l, .int h, .int s] ∧ 1 ≤ l ∧ l ≤ 1000 ∧ 1 ≤ h ∧ h ≤ 1000 ∧ 1 ≤ s ∧ s ≤ 10 ^ 40 ∧ Q (.int (keptR h l s l.toNat)) H
def spFirstRanges : Sp := fun vs H Q _ => ∃ l h s : Int, vs = [.int l, .int h, .int s] ∧ 1 ≤ l ∧ l ≤ 1000 ∧ 1 ≤ h ∧ h ≤ 1000 ∧ 1 ≤ s ∧ s ≤ 10 ^ 40 ∧ ∀ r, FirstR l h s r → Q r H
theorem lcmI_pos {a b : Int} (ha : 1 ≤ a) (hb : 1 ≤ b) : 1 ≤ lcmI a b := by
  unfold lcmI
  have : 0 < Nat.lcm a.toNat b.toNat := Nat.lcm_pos (by omega) (by omega)
  omega
theorem lcmI_le {a b : Int} (ha : 1 ≤ a) (hb : 1 ≤ b) (ha2 : a ≤ 10 ^ 20) (hb2 : b ≤ 10 ^ 20) : lcmI a b ≤ 10 ^ 40 := by
  unfold lcmI
  have h1 : Nat.lcm a.toNat b.toNat ≤ a.toNat * b.toNat := by
    unfold Nat.lcm; exact Nat.div_le_self _ _
  have h2 : a.toNat * b.toNat ≤ 10 ^ 20 * 10 ^ 20 := Nat.mul_le_mul (by omega) (by omega)
  have h3 : (10 : Nat) ^ 20 * 10 ^ 20 = 10 ^ 40 := by decide
  omega
theorem most_cases {ks : Str} (h : kindV (.str ks) = true) : (V.str ks = .str "rest" ∧ mostOf (.str ks) = 10 ^ 20) ∨ (V.str ks = .str "ranges" ∧ ¬ V.str ks = .str "rest" ∧ mostOf (.str ks) = 1000) := by
  obtain ⟨s, e, hs⟩ := word_str h
  cases e
  rcases List.mem_cons.mp hs with rfl | hs
  · exact .inl ⟨rfl, rfl⟩
  · rcases List.mem_cons.mp hs with rfl | hs
    · exact .inr ⟨rfl, by decide, rfl⟩
    · exact nomatch hs
/-! ### errors caught -/
theorem exm_pair {K : PySem.W.Frag} {A B : Addr} {b : Bool} (p : PySem.W.subIn K (.ref B) (.type "BaseException") = some true) (i : PySem.W.isClsIn K B = true) (t : PySem.W.typeIn K (.ref B) = some (.type "type")) (q : PySem.W.subIn K (.ref A) (.ref B) = some b) :
    PySem.W.exmOne K (.ref A) (.ref B) = some b := by
  have i' : (PySem.W.clsIn K B).isSome = true := i
  unfold PySem.W.exmOne PySem.W.kitCls
  rw [p]
  dsimp only
  rw [i', t]
  exact q
theorem kit_ve {K : PySem.W.Frag} {A : Addr} {b : Bool} (q : PySem.W.subIn K (.ref A) (.type "ValueError") = some b) : PySem.W.kitOne K (.ref A) (.type "ValueError") = some b := by
  have m : PySem.W.kitMeta "ValueError" = true := by decide +kernel
  unfold PySem.W.kitOne PySem.W.kitCls
  dsimp only
  rw [m]
  exact q
/-- isinstance of the error that a suite holds -/
def rIsG (K : PySem.W.Frag) (a : Addr) (cls : Value) (d : Option Addr) : List V → Hp → VK → Prop := fun xs H Q => ∃ D, cls = .ref D ∧ d = none ∧ ExcC K D ∧ rIsE K D a xs H Q
theorem call_isG {X : Cx} {a : Addr} {oe : Obj} {cls : Value} {d : Option Addr} {pn : List (Addr × Obj)} (hz : Zc cls d oe) (hf : ∃ vs, oe.data = .fields vs) : CallR (X.suite a ((a, oe) :: pn)) (.builtin "isinstance") (rIsG X.K a cls d) := by
  intro pins s σ H xs us Q I r h
  obtain ⟨D, rfl, rfl, C, h⟩ := h
  exact call_isE C hz hf pins s σ H xs us Q I r h
end Lc
namespace K03
open PySem PySem.Spec PyProof.Rows L2 Lc
def topS (i : Nat) : Stmt := PySem.Challenge.pw_lanescounted_k03_marks_moved_by_ranges.main.body.getD i (.Pass ⟨0, 0, 0, 0⟩)
abbrev s_is_whole : Stmt := topS 2
theorem sc_is_whole : FnScope ["thing", "low", "high"] ["thing", "low", "high"] (defScope s_is_whole) := ⟨rfl, rfl, rfl, by decide +kernel, rfl, by decide +kernel, by decide +kernel⟩
abbrev s_is_word : Stmt := topS 3
theorem sc_is_word : FnScope ["thing", "words"] ["thing", "words"] (defScope s_is_word) := ⟨rfl, rfl, rfl, by decide +kernel, rfl, by decide +kernel, by decide +kernel⟩
abbrev s_count_moved : Stmt := topS 14
theorem sc_count_moved : FnScope ["kind", "before", "after", "size", "low", "high"] ["kind", "before", "after", "size"] (defScope s_count_moved) := ⟨rfl, rfl, rfl, by decide +kernel, rfl, by decide +kernel, by decide +kernel⟩
abbrev s_first_moved : Stmt := topS 15
theorem sc_first_moved : FnScope ["kind", "before", "after", "size", "low", "high"] ["kind", "before", "after", "size"] (defScope s_first_moved) := ⟨rfl, rfl, rfl, by decide +kernel, rfl, by decide +kernel, by decide +kernel⟩
abbrev s_check_kind : Stmt := topS 16
theorem sc_check_kind : FnScope ["kind"] ["kind"] (defScope s_check_kind) := ⟨rfl, rfl, rfl, by decide +kernel, rfl, by decide +kernel, by decide +kernel⟩
abbrev s_check_count : Stmt := topS 17
theorem sc_check_count : FnScope ["count", "greatest"] ["count", "greatest"] (defScope s_check_count) := ⟨rfl, rfl, rfl, by decide +kernel, rfl, by decide +kernel, by decide +kernel⟩
abbrev s_check_size : Stmt := topS 18
theorem sc_check_size : FnScope ["size"] ["size"] (defScope s_check_size) := ⟨rfl, rfl, rfl, by decide +kernel, rfl, by decide +kernel, by decide +kernel⟩
abbrev s_check_moved : Stmt := topS 19
theorem sc_check_moved : FnScope ["kind", "before", "after", "size", "greatest"] ["kind", "before", "after", "size"] (defScope s_check_moved) := ⟨rfl, rfl, rfl, by decide +kernel, rfl, by decide +kernel, by decide +kernel⟩
abbrev s_kept_by_rest : Stmt := topS 20
theorem sc_kept_by_rest : FnScope ["low", "high", "size", "period"] ["low", "high", "size"] (defScope s_kept_by_rest) := ⟨rfl, rfl, rfl, by decide +kernel, rfl, by decide +kernel, by decide +kernel⟩
abbrev s_lane_start : Stmt := topS 21
theorem sc_lane_start : FnScope ["lane", "count", "size"] ["lane", "count", "size"] (defScope s_lane_start) := ⟨rfl, rfl, rfl, by decide +kernel, rfl, by decide +kernel, by decide +kernel⟩
abbrev s_kept_by_ranges : Stmt := topS 22
theorem sc_kept_by_ranges : FnScope ["low", "high", "size", "kept", "lane"] ["low", "high", "size"] (defScope s_kept_by_ranges) := ⟨rfl, rfl, rfl, by decide +kernel, rfl, by decide +kernel, by decide +kernel⟩
abbrev s_first_moved_by_ranges : Stmt := topS 23
theorem sc_first_moved_by_ranges : FnScope ["low", "high", "size", "lane", "start"] ["low", "high", "size"] (defScope s_first_moved_by_ranges) := ⟨rfl, rfl, rfl, by decide +kernel, rfl, by decide +kernel, by decide +kernel⟩
abbrev s_law_source : Stmt := topS 25
theorem sc_law_source : FnScope ["_law_script"] ["_law_script"] (defScope s_law_source) := ⟨rfl, rfl, rfl, by decide +kernel, rfl, by decide +kernel, by decide +kernel⟩
abbrev s_law_draw : Stmt := topS 26
theorem sc_law_draw : FnScope ["_law_source_here", "_law_limit", "_law_cell", "_law_digit", "_law_mixed"] ["_law_source_here", "_law_limit"] (defScope s_law_draw) := ⟨rfl, rfl, rfl, by decide +kernel, rfl, by decide +kernel, by decide +kernel⟩
abbrev s_law_great : Stmt := topS 27
theorem sc_law_great : FnScope ["_law_source_here", "_law_limit", "_law_total", "_law_k"] ["_law_source_here", "_law_limit"] (defScope s_law_great) := ⟨rfl, rfl, rfl, by decide +kernel, rfl, by decide +kernel, by decide +kernel⟩
abbrev s_law_integer : Stmt := topS 28
theorem sc_law_integer : FnScope ["_law_found"] ["_law_found"] (defScope s_law_integer) := ⟨rfl, rfl, rfl, by decide +kernel, rfl, by decide +kernel, by decide +kernel⟩
abbrev s_law_parts : Stmt := topS 29
theorem sc_law_parts : FnScope ["_law_before", "_law_after", "_law_size", "_law_ends", "_law_k"] ["_law_before", "_law_after", "_law_size"] (defScope s_law_parts) := ⟨rfl, rfl, rfl, by decide +kernel, rfl, by decide +kernel, by decide +kernel⟩
abbrev s_law : Stmt := topS 30
theorem sc_law : FnScope ["_law_script", "_law_source_here", "_law_way", "_law_before", "_law_after", "_law_size", "_law_parts_here", "_law_rows", "_law_due", "_law_found", "_law_least", "_law_row", "_law_mark"] ["_law_script"] (defScope s_law) := ⟨rfl, rfl, rfl, by decide +kernel, rfl, by decide +kernel, by decide +kernel⟩
structure Txt (K : PySem.W.Frag) (mg : Str → Option Value) where
  a_is_whole : Addr
  d_is_whole : FuncData
  F_is_whole : Fun K "is_whole" "is_whole" s_is_whole a_is_whole d_is_whole
  g_is_whole : mg "is_whole" = some (.ref a_is_whole)
  b_is_whole : Binds K d_is_whole ["thing", "low", "high"] []
  a_is_word : Addr
  d_is_word : FuncData
  F_is_word : Fun K "is_word" "is_word" s_is_word a_is_word d_is_word
  g_is_word : mg "is_word" = some (.ref a_is_word)
  b_is_word : Binds K d_is_word ["thing", "words"] []
  a_count_moved : Addr
  d_count_moved : FuncData
  F_count_moved : Fun K "count_moved" "count_moved" s_count_moved a_count_moved d_count_moved
  g_count_moved : mg "count_moved" = some (.ref a_count_moved)
  b_count_moved : Binds K d_count_moved ["kind", "before", "after", "size"] []
  a_first_moved : Addr
  d_first_moved : FuncData
  F_first_moved : Fun K "first_moved" "first_moved" s_first_moved a_first_moved d_first_moved
  g_first_moved : mg "first_moved" = some (.ref a_first_moved)
  b_first_moved : Binds K d_first_moved ["kind", "before", "after", "size"] []
  a_check_kind : Addr
  d_check_kind : FuncData
  F_check_kind : Fun K "check_kind" "check_kind" s_check_kind a_check_kind d_check_kind
  g_check_kind : mg "check_kind" = some (.ref a_check_kind)
  b_check_kind : Binds K d_check_kind ["kind"] []
  a_check_count : Addr
  d_check_count : FuncData
  F_check_count : Fun K "check_count" "check_count" s_check_count a_check_count d_check_count
  g_check_count : mg "check_count" = some (.ref a_check_count)
  b_check_count : Binds K d_check_count ["count", "greatest"] []
  a_check_size : Addr
  d_check_size : FuncData
  F_check_size : Fun K "check_size" "check_size" s_check_size a_check_size d_check_size
  g_check_size : mg "check_size" = some (.ref a_check_size)
  b_check_size : Binds K d_check_size ["size"] []
  a_check_moved : Addr
  d_check_moved : FuncData
  F_check_moved : Fun K "check_moved" "check_moved" s_check_moved a_check_moved d_check_moved
  g_check_moved : mg "check_moved" = some (.ref a_check_moved)
  b_check_moved : Binds K d_check_moved ["kind", "before", "after", "size"] []
  a_kept_by_rest : Addr
  d_kept_by_rest : FuncData
  F_kept_by_rest : Fun K "kept_by_rest" "kept_by_rest" s_kept_by_rest a_kept_by_rest d_kept_by_rest
  g_kept_by_rest : mg "kept_by_rest" = some (.ref a_kept_by_rest)
  b_kept_by_rest : Binds K d_kept_by_rest ["low", "high", "size"] []
  a_lane_start : Addr
  d_lane_start : FuncData
  F_lane_start : Fun K "lane_start" "lane_start" s_lane_start a_lane_start d_lane_start
  g_lane_start : mg "lane_start" = some (.ref a_lane_start)
  b_lane_start : Binds K d_lane_start ["lane", "count", "size"] []
  a_kept_by_ranges : Addr
  d_kept_by_ranges : FuncData
  F_kept_by_ranges : Fun K "kept_by_ranges" "kept_by_ranges" s_kept_by_ranges a_kept_by_ranges d_kept_by_ranges
  g_kept_by_ranges : mg "kept_by_ranges" = some (.ref a_kept_by_ranges)
  b_kept_by_ranges : Binds K d_kept_by_ranges ["low", "high", "size"] []
  a_first_moved_by_ranges : Addr
  d_first_moved_by_ranges : FuncData
  F_first_moved_by_ranges : Fun K "first_moved_by_ranges" "first_moved_by_ranges" s_first_moved_by_ranges a_first_moved_by_ranges d_first_moved_by_ranges
  g_first_moved_by_ranges : mg "first_moved_by_ranges" = some (.ref a_first_moved_by_ranges)
  b_first_moved_by_ranges : Binds K d_first_moved_by_ranges ["low", "high", "size"] []
  a_law_source : Addr
  d_law_source : FuncData
  F_law_source : Fun K "_law_source" "_law_source" s_law_source a_law_source d_law_source
  g_law_source : mg "_law_source" = some (.ref a_law_source)
  b_law_source : Binds K d_law_source ["_law_script"] []
  a_law_draw : Addr
  d_law_draw : FuncData
  F_law_draw : Fun K "_law_draw" "_law_draw" s_law_draw a_law_draw d_law_draw
  g_law_draw : mg "_law_draw" = some (.ref a_law_draw)
  b_law_draw : Binds K d_law_draw ["_law_source_here", "_law_limit"] []
  a_law_great : Addr
  d_law_great : FuncData
  F_law_great : Fun K "_law_great" "_law_great" s_law_great a_law_great d_law_great
  g_law_great : mg "_law_great" = some (.ref a_law_great)
  b_law_great : Binds K d_law_great ["_law_source_here", "_law_limit"] []
  a_law_integer : Addr
  d_law_integer : FuncData
  F_law_integer : Fun K "_law_integer" "_law_integer" s_law_integer a_law_integer d_law_integer
  g_law_integer : mg "_law_integer" = some (.ref a_law_integer)
  b_law_integer : Binds K d_law_integer ["_law_found"] []
  a_law_parts : Addr
  d_law_parts : FuncData
  F_law_parts : Fun K "_law_parts" "_law_parts" s_law_parts a_law_parts d_law_parts
  g_law_parts : mg "_law_parts" = some (.ref a_law_parts)
  b_law_parts : Binds K d_law_parts ["_law_before", "_law_after", "_law_size"] []
  a_law : Addr
  d_law : FuncData
  F_law : Fun K "law" "law" s_law a_law d_law
  g_law : mg "law" = some (.ref a_law)
  b_law : Binds K d_law ["_law_script"] []
  z_bool : mg "bool" = none
  z_int : mg "int" = none
  z_isinstance : mg "isinstance" = none
  z_len : mg "len" = none
  z_list : mg "list" = none
  z_max : mg "max" = none
  z_min : mg "min" = none
  z_range : mg "range" = none
  z_set : mg "set" = none
  z_sorted : mg "sorted" = none
  z_str : mg "str" = none
  z_sum : mg "sum" = none
  g_lcm : mg "lcm" = some (.builtin "math.lcm")
  c_KINDS : Addr
  g_KINDS : mg "KINDS" = some (.ref c_KINDS)
  r_KINDS : RelV (.ref c_KINDS) (.ref c_KINDS)
  q_KINDS : ∀ H, SqT K H c_KINDS [.str "rest", .str "ranges"]
  u_GREATEST_COUNT : Value
  g_GREATEST_COUNT : mg "GREATEST_COUNT" = some u_GREATEST_COUNT
  r_GREATEST_COUNT : RelV (.int 100000000000000000000) u_GREATEST_COUNT
  u_GREATEST_MOVED_BY_RANGES : Value
  g_GREATEST_MOVED_BY_RANGES : mg "GREATEST_MOVED_BY_RANGES" = some u_GREATEST_MOVED_BY_RANGES
  r_GREATEST_MOVED_BY_RANGES : RelV (.int 1000) u_GREATEST_MOVED_BY_RANGES
  u_GREATEST_SIZE : Value
  g_GREATEST_SIZE : mg "GREATEST_SIZE" = some u_GREATEST_SIZE
  r_GREATEST_SIZE : RelV (.int 10000000000000000000000000000000000000000) u_GREATEST_SIZE
  C_LaneError : Addr
  g_LaneError : mg "LaneError" = some (.ref C_LaneError)
  x_LaneError : PySem.W.excIn K C_LaneError [.type "ValueError", .type "Exception", .type "BaseException", .type "object"] "ValueError.__new__" = true
  k_LaneError : PySem.W.keepIn K (.ref C_LaneError) = true
  p_LaneError : PySem.W.subIn K (.ref C_LaneError) (.type "BaseException") = some true
  t_LaneError : PySem.W.typeIn K (.ref C_LaneError) = some (.type "type")
  i_LaneError : PySem.W.isClsIn K C_LaneError = true
  C_BadKind : Addr
  g_BadKind : mg "BadKind" = some (.ref C_BadKind)
  x_BadKind : PySem.W.excIn K C_BadKind [.type "ValueError", .type "Exception", .type "BaseException", .type "object"] "ValueError.__new__" = true
  k_BadKind : PySem.W.keepIn K (.ref C_BadKind) = true
  p_BadKind : PySem.W.subIn K (.ref C_BadKind) (.type "BaseException") = some true
  t_BadKind : PySem.W.typeIn K (.ref C_BadKind) = some (.type "type")
  i_BadKind : PySem.W.isClsIn K C_BadKind = true
  C_BadCount : Addr
  g_BadCount : mg "BadCount" = some (.ref C_BadCount)
  x_BadCount : PySem.W.excIn K C_BadCount [.type "ValueError", .type "Exception", .type "BaseException", .type "object"] "ValueError.__new__" = true
  k_BadCount : PySem.W.keepIn K (.ref C_BadCount) = true
  p_BadCount : PySem.W.subIn K (.ref C_BadCount) (.type "BaseException") = some true
  t_BadCount : PySem.W.typeIn K (.ref C_BadCount) = some (.type "type")
  i_BadCount : PySem.W.isClsIn K C_BadCount = true
  C_BadSize : Addr
  g_BadSize : mg "BadSize" = some (.ref C_BadSize)
  x_BadSize : PySem.W.excIn K C_BadSize [.type "ValueError", .type "Exception", .type "BaseException", .type "object"] "ValueError.__new__" = true
  k_BadSize : PySem.W.keepIn K (.ref C_BadSize) = true
  p_BadSize : PySem.W.subIn K (.ref C_BadSize) (.type "BaseException") = some true
  t_BadSize : PySem.W.typeIn K (.ref C_BadSize) = some (.type "type")
  i_BadSize : PySem.W.isClsIn K C_BadSize = true
def Txt.exc {K : PySem.W.Frag} {mg : Str → Option Value} (T : Txt K mg) (n : String) : Addr := if n = "LaneError" then T.C_LaneError else if n = "BadKind" then T.C_BadKind else if n = "BadCount" then T.C_BadCount else if n = "BadSize" then T.C_BadSize else 0
section
variable {P : Program} {w : World} {K : PySem.W.Frag} {mg : Str → Option Value} {base : Heap}
theorem ok_law_source (T : Txt K mg) : FnOk P w K mg base CX0 1 T.a_law_source T.d_law_source ["_law_script"] (spSource K) := by
  refine T.F_law_source.ok sc_law_source (fun vs H Q E h => ?_) (fun cdv A outer s H vs Q E hr h => ?_)
  · obtain ⟨a, ns, rfl, _⟩ := h
    rfl
  · obtain ⟨a, ns, rfl, hS, hlen, hb, q⟩ := h
    refine ⟨_, (pss_one (ps_ret (pe_lst (pa_cons (pe_callTy call_list_of (by rfl) T.z_list (by decide +kernel) (pa_cons (pv 0) pa_nil)) (pa_cons pe_int (pa_cons pe_int (pa_cons pe_int pa_nil))))))), ?_⟩
    refine ⟨.ref a, rfl, a, _, rfl, .inl hS, fun l hl => ⟨(by show 4 ≤ sizeLine; decide), fun p hp => ?_⟩⟩
    have hpl : l ≠ p := ne_of_none upd_same hp
    have hp0 : H p = none := by rw [← upd_ne (H := H) (o := .lst (ns.map V.int)) hpl.symm]; exact hp
    refine q p _ hp0 ⟨l, ns, 0, 1, 0, upd_same, (by rw [upd_ne hpl]; exact upd_same), fun k hk => bits_log (hb k hk), hlen, by decide, by decide, by decide, by decide, by decide, by decide⟩ ((same_upd hl).trans (same_upd hp))
theorem ok_law_draw (T : Txt K mg) : FnOk P w K mg base CX0 1 T.a_law_draw T.d_law_draw ["_law_source_here", "_law_limit"] spDraw := by
  refine T.F_law_draw.ok sc_law_draw (fun vs H Q E h => ?_) (fun cdv A outer s H vs Q E hr h => ?_)
  · obtain ⟨a, n, lim, rfl, _⟩ := h
    rfl
  · obtain ⟨a, n, lim, rfl, S, hn, l1, l2, q⟩ := h
    refine ⟨_, (pss_cons (ps_if (PW.pt (pw_and (pt_cmpR op_lt (pe_ix (ixL K) (pv 0) pe_int (fun _ _ => rfl)) (pv 1) (nomark _)) (pw_and1 (pt_truth (pe_ix (ixL K) (pv 0) pe_int (fun _ _ => rfl)) (by intro _; rfl)))))
      (pss_cons (ps_set (i := 2) sc_law_draw.nd rfl (Or.inl rfl) (pe_ix (ixL K) (pe_ix (ixL K) (pv 0) pe_int (fun _ _ => rfl)) pe_int (fun _ _ => rfl)))
      (pss_cons (ps_asg (pe_slice sl_list (pe_ix (ixL K) (pv 0) pe_int (fun _ _ => rfl)) (po_some pe_int) po_none) (pg_sub (pv 0) pe_int set_list))
      (pss_one (ps_if (pt_cmpR op_ge (pv 2) (pe_op op_pow pe_int pe_int) (nomark _))
      (pss_one (ps_asg (pv 2) (pg_sub (pv 0) pe_int set_list)))
      (pss_one (ps_asg (pe_op op_mod (pe_callTy call_int1 (by rfl) T.z_int (by decide +kernel) (pa_cons (pe_op op_add (pe_op op_add (pe_op Lc.op_mulX (pe_ix (ixL K) (pv 0) pe_int (fun _ _ => rfl)) pe_int) (pe_op Lc.op_mulX (pv 2) pe_int)) pe_int) pa_nil)) pe_int) (pg_sub (pv 0) pe_int set_list)))))))
      pss_nil)
      (pss_cons (ps_if (pt_cmpR op_ge (pe_ix (ixL K) (pv 0) pe_int (fun _ _ => rfl)) (pv 1) (nomark _))
      (pss_cons (ps_set (i := 3) sc_law_draw.nd rfl (Or.inl rfl) (pe_op op_mod (pe_callTy call_int1 (by rfl) T.z_int (by decide +kernel) (pa_cons (pe_ix (ixL K) (pv 0) pe_int (fun _ _ => rfl)) pa_nil)) (pv 1)))
      (pss_cons (ps_asg (pe_op op_fdivW (pe_ix (ixL K) (pv 0) pe_int (fun _ _ => rfl)) (pv 1)) (pg_sub (pv 0) pe_int set_list))
      (pss_one (ps_ret (pv 3)))))
      pss_nil)
      (pss_cons (ps_asg (pe_op op_add (pe_ix (ixL K) (pv 0) pe_int (fun _ _ => rfl)) pe_int) (pg_sub (pv 0) pe_int set_list))
      (pss_cons (ps_set (i := 4) sc_law_draw.nd rfl (Or.inl rfl) (pe_op op_mod (pe_callTy call_int1 (by rfl) T.z_int (by decide +kernel) (pa_cons (pe_op op_add (pe_ix (ixL K) (pv 0) pe_int (fun _ _ => rfl)) (pe_op Lc.op_mulX (pe_ix (ixL K) (pv 0) pe_int (fun _ _ => rfl)) pe_int)) pa_nil)) pe_int))
      (pss_one (ps_ret (pe_op op_mod (pe_op op_mod (pe_callTy call_int1 (by rfl) T.z_int (by decide +kernel) (pa_cons (pe_op op_add (pe_op op_add (pe_op Lc.op_mulX (pv 4) (pv 4)) (pe_op Lc.op_mulX (pe_ix (ixL K) (pv 0) pe_int (fun _ _ => rfl)) pe_int)) (pe_ix (ixL K) (pv 0) pe_int (fun _ _ => rfl))) pa_nil)) pe_int) (pv 1)))))))), ?_⟩
    refine seq_cut (fun σ' H' => ∃ c, σ' = [some (.ref a), some (.int lim), c, none, none] ∧ Src H' a n ∧ But a H H') ?_ (fun K1 => ?_)
    · rintro σ' H' ⟨c, rfl, S', B'⟩
      obtain ⟨l, ns, x, y, z, ha, hl, hb, hlen, x0, xb, y0, y1, z0, z1⟩ := S'.ex
      have nla : l ≠ a := fun e => by
        subst e; rw [ha] at hl
        have e2 := HO.lst.inj (Option.some.inj hl)
        cases ns with
        | nil => exact nomatch e2
        | cons k r => exact nomatch (List.cons.inj e2).1
      refine ⟨.ref a, rfl, a, _, 1, .int x, rfl, rfl, SqL.of ha, atI_nat (j := 1) rfl, .int lim, rfl, x, lim, rfl, rfl, _, rfl, ite2 (fun e => ?_) (fun e => ?_)⟩
      · have e1 : lim ≤ x := of_decide_eq_true e
        refine ⟨.ref a, rfl, a, _, 1, .int x, rfl, rfl, SqL.of ha, atI_nat (j := 1) rfl, .inl ⟨x, rfl, .int lim, rfl, x, lim, rfl, rfl, (by show 0 < lim; omega), ?_⟩⟩
        refine ⟨.ref a, rfl, a, _, 1, .int x, rfl, rfl, SqL.of ha, atI_nat (j := 1) rfl, .int lim, rfl, x, lim, rfl, rfl, divX (by omega) (Nat.lt_of_lt_of_le (by omega : lim.natAbs < 2 ^ 64) (Nat.pow_le_pow_right (by decide) (by decide))), .ref a, rfl, a, _, 1, 1, rfl, rfl, ha, rfl, ?_⟩
        refine ⟨.int (x % lim), rfl, q _ _ (Int.emod_nonneg x (by omega)) (Int.emod_lt_of_pos x (by omega)) ?_ B'.upd⟩
        exact ⟨l, ns, x / lim, y, z, upd_same, (by rw [upd_ne nla]; exact hl), hb, hlen, Int.ediv_nonneg x0 (by omega), idiv_log x0 l1 xb, y0, y1, z0, by omega⟩
      · refine ⟨.ref a, rfl, a, _, 3, .int z, rfl, rfl, SqL.of ha, atI_nat (j := 3) rfl, z, 1, rfl, rfl, .ref a, rfl, a, _, 3, 3, rfl, rfl, ha, rfl, ?_⟩
        have ha2 : (upd H' a (.lst [.ref l, .int x, .int y, .int (z + 1)])) a = some (.lst [.ref l, .int x, .int y, .int (z + 1)]) := upd_same
        have fz : Few (z + 1) := few_le (b := 1000000) (by omega) (by omega) (by decide)
        refine ⟨.ref a, rfl, a, _, 2, .int y, rfl, rfl, SqL.of ha2, atI_nat (j := 2) rfl, .ref a, rfl, a, _, 3, .int (z + 1), rfl, rfl, SqL.of ha2, atI_nat (j := 3) rfl, z + 1, 40692, rfl, rfl, mulX fz (few_le (b := 40692) (by decide) (by decide) (by decide)), y, _, rfl, rfl, .inl ⟨_, rfl, _, _, rfl, rfl, (by show (0 : Int) < 2147483399; decide), ?_⟩⟩
        have m0 : 0 ≤ (y + (z + 1) * 40692) % 2147483399 := Int.emod_nonneg _ (by decide)
        have m1 : (y + (z + 1) * 40692) % 2147483399 < 2147483399 := Int.emod_lt_of_pos _ (by decide)
        have fm := few_le (b := 2147483399) m0 (Int.le_of_lt m1) (by decide)
        refine ⟨_, rfl, _, rfl, _, _, rfl, rfl, mulX fm fm, .ref a, rfl, a, _, 3, .int (z + 1), rfl, rfl, SqL.of ha2, atI_nat (j := 3) rfl, z + 1, 3791, rfl, rfl, mulX fz (few_le (b := 3791) (by decide) (by decide) (by decide)), _, _, rfl, rfl, .ref a, rfl, a, _, 2, .int y, rfl, rfl, SqL.of ha2, atI_nat (j := 2) rfl, _, y, rfl, rfl, .inl ⟨_, rfl, _, _, rfl, rfl, (by show (0 : Int) < 2147483647; decide), .int lim, rfl, _, lim, rfl, rfl, (by show 0 < lim; omega), ?_⟩⟩
        refine q _ _ (Int.emod_nonneg _ (by omega)) (Int.emod_lt_of_pos _ (by omega)) ?_ B'.upd
        exact ⟨l, ns, x, y, z + 1, upd_same, (by rw [upd_ne nla]; exact hl), hb, hlen, x0, xb, y0, y1, by omega, by omega⟩
    · obtain ⟨l, ns, x, y, z, ha, hl, hb, hlen, x0, xb, y0, y1, z0, z1⟩ := S.ex
      refine ⟨.ref a, rfl, a, _, 1, .int x, rfl, rfl, SqL.of ha, atI_nat (j := 1) rfl, .int lim, rfl, x, lim, rfl, rfl, _, rfl, ite2 (fun e => ?_) (fun e => ?_)⟩
      · refine ⟨.ref a, rfl, a, _, 0, .ref l, rfl, rfl, SqL.of ha, atI_nat (j := 0) rfl, _, .inl ⟨_, SqL.of hl, rfl⟩, ?_⟩
        cases ns with
        | nil => exact iteF (K1 _ _ ⟨none, rfl, S, But.refl _ _⟩)
        | cons k r =>
          refine iteT ?_
          refine ⟨.ref a, rfl, a, _, 0, .ref l, rfl, rfl, SqL.of ha, atI_nat (j := 0) rfl, l, _, 0, .int k, rfl, rfl, SqL.of hl, atI_nat (j := 0) rfl, ?_⟩
          refine ⟨.ref a, rfl, a, _, 0, .ref l, rfl, rfl, SqL.of ha, atI_nat (j := 0) rfl, 1, rfl, l, _, rfl, SqL.of hl, fun p hp => ?_⟩
          have npa : a ≠ p := ne_of_none ha hp
          have ha1 : (upd H p (.lst (cutV ((k :: r).map V.int) (some 1) none))) a = some (.lst [.ref l, .int x, .int y, .int z]) := by
            rw [upd_ne npa]; exact ha
          refine ⟨.ref a, rfl, a, _, 0, 0, rfl, rfl, ha1, rfl, ?_⟩
          have ec : cutV ((k :: r).map V.int) (some 1) none = r.map V.int := by rw [cut1]; rfl
          rw [ec]
          have ha2 : (upd (upd H p (.lst (r.map V.int))) a (.lst [.ref p, .int x, .int y, .int z])) a = some (.lst [.ref p, .int x, .int y, .int z]) := upd_same
          have hp2 : (upd (upd H p (.lst (r.map V.int))) a (.lst [.ref p, .int x, .int y, .int z])) p = some (.lst (r.map V.int)) := by
            rw [upd_ne npa.symm]; exact upd_same
          have B2 : But a H (upd (upd H p (.lst (r.map V.int))) a (.lst [.ref p, .int x, .int y, .int z])) := (Same.but (same_upd hp)).upd
          have hk : k.natAbs.log2 ≤ 1048576 := hb k List.mem_cons_self
          have hr' : ∀ j ∈ r, j.natAbs.log2 ≤ 1048576 := fun j hj => hb j (List.mem_cons_of_mem _ hj)
          have hlr : r.length ≤ 63 := by rw [List.length_cons] at hlen; omega
          refine ⟨.int k, rfl, 10, 18, rfl, rfl, ⟨by decide, by decide, by decide⟩, k, _, rfl, rfl, _, rfl, ite2 (fun e => ?_) (fun e => ?_)⟩
          · have e1 : (10 : Int) ^ 18 ≤ k := of_decide_eq_true e
            refine ⟨.int k, rfl, .ref a, rfl, a, _, 1, 1, rfl, rfl, ha2, rfl, ?_⟩
            refine K1 _ _ ⟨some (.int k), rfl, ⟨p, r, k, y, z, upd_same, ?_, hr', hlr, by omega, hk, y0, y1, z0, z1⟩, B2.upd⟩
            rw [upd_ne npa.symm]; exact hp2
          · refine ⟨.ref a, rfl, a, _, 2, .int y, rfl, rfl, SqL.of ha2, atI_nat (j := 2) rfl, y, 48271, rfl, rfl, mulX (few_le (b := 2147483647) y0 (by omega) (by decide)) (few_le (b := 48271) (by decide) (by decide) (by decide)), .int k, rfl, k, 69621, rfl, rfl, mulX (few_bits hk) (few_le (b := 69621) (by decide) (by decide) (by decide)), _, _, rfl, rfl, _, 7, rfl, rfl, .inl ⟨_, rfl, _, _, rfl, rfl, (by show (0 : Int) < 2147483647; decide), .ref a, rfl, a, _, 2, 2, rfl, rfl, ha2, rfl, ?_⟩⟩
            refine K1 _ _ ⟨some (.int k), rfl, ⟨p, r, x, _, z, upd_same, ?_, hr', hlr, x0, xb, Int.emod_nonneg _ (by decide), Int.emod_lt_of_pos _ (by decide), z0, z1⟩, B2.upd⟩
            rw [upd_ne npa.symm]; exact hp2
      · exact iteF (K1 _ _ ⟨none, rfl, S, But.refl _ _⟩)
end

section
variable {P : Program} {w : World} {K : PySem.W.Frag} {mg : Str → Option Value} {base : Heap}
theorem ok_law_great (T : Txt K mg) : FnOk P w K mg base CX0 2 T.a_law_great T.d_law_great ["_law_source_here", "_law_limit"] spGreat := by
  refine T.F_law_great.ok sc_law_great (fun vs H Q E h => ?_) (fun cdv A outer s H vs Q E hr h => ?_)
  · obtain ⟨a, n, lim, rfl, _⟩ := h
    rfl
  · obtain ⟨a, n, lim, rfl, S, hn, l1, l2, q⟩ := h
    refine ⟨_, (pss_cons (ps_set (i := 2) sc_law_great.nd rfl (Or.inl rfl) pe_int)
      (pss_cons (ps_for PassesOwn.never rfl (pi_range1 rfl T.z_range (pa_cons pe_int pa_nil)) (pg_name (i := 3) sc_law_great.nd rfl (Or.inl rfl))
      (pss_one (ps_set (i := 2) sc_law_great.nd rfl (Or.inl rfl) (pe_op op_add (pe_op Lc.op_mulX (pv 2) (pe_op op_pow pe_int pe_int)) (pe_call (ok_law_draw T) (hr.mono (by decide)) rfl T.g_law_draw T.F_law_draw.kp T.b_law_draw .nil pass0 (pa_cons (pv 0) (pa_cons (pe_op op_pow pe_int pe_int) pa_nil)))))))
      (pss_one (ps_ret (pe_op op_mod (pe_callTy call_int1 (by rfl) T.z_int (by decide +kernel) (pa_cons (pv 2) pa_nil)) (pv 1)))))), ?_⟩
    refine ⟨5, rfl, by decide, by decide, for_range (n := 5) (fun i σ' H' => ∃ t c, σ' = [some (.ref a), some (.int lim), some (.int t), c] ∧ 0 ≤ t ∧ t < pw9 i ∧ Src H' a (n + i) ∧ But a H H') ⟨0, none, rfl, by decide, by decide, S, But.refl _ _⟩ ?_ ?_⟩
    · rintro i σ' H' hi ⟨t, c, rfl, t0, t1, S', B'⟩
      have hp := pw9_le (Nat.le_of_lt hi)
      have ft : Few t := few_le (b := 10 ^ 60) t0 (by omega) (by decide)
      refine ⟨.int t, rfl, 10, 9, rfl, rfl, ⟨by decide, by decide, by decide⟩, t, _, rfl, rfl, mulX ft (few_of (by decide)), .ref a, rfl, 10, 9, rfl, rfl, ⟨by decide, by decide, by decide⟩, a, n + i, _, rfl, S', by omega, by decide, by decide, fun d H2 d0 d1 S2 B2 => ?_⟩
      have d1' : d < 1000000000 := d1
      refine ⟨_, d, rfl, rfl, t * 10 ^ (9 : Int).toNat + d, _, rfl, ?_, ?_, S2, B'.trans B2⟩
      · have : t * 10 ^ (9 : Int).toNat = t * 1000000000 := rfl
        omega
      · have e : t * 10 ^ (9 : Int).toNat = t * 1000000000 := rfl
        have e2 : pw9 (i + 1) = pw9 i * 1000000000 := rfl
        omega
    · rintro σ' H' ⟨t, c, rfl, t0, t1, S', B'⟩
      refine ⟨.int t, rfl, .inl ⟨t, rfl, .int lim, rfl, t, lim, rfl, rfl, (by show 0 < lim; omega), ?_⟩⟩
      exact q _ _ (Int.emod_nonneg _ (by omega)) (Int.emod_lt_of_pos _ (by omega)) S' B'
end

section
variable {P : Program} {w : World} {K : PySem.W.Frag} {mg : Str → Option Value} {base : Heap}
theorem ok_is_whole (T : Txt K mg) : FnOk P w K mg base CX0 1 T.a_is_whole T.d_is_whole ["thing", "low", "high"] (spWhole K) := by
  refine T.F_is_whole.ok sc_is_whole (fun vs H Q E h => ?_) (fun cdv A outer s H vs Q E hr h => ?_)
  · obtain ⟨x, lo, hi, n, rfl, _⟩ := h
    rfl
  · obtain ⟨x, lo, hi, n, rfl, hx, q⟩ := h
    refine ⟨_, (pss_one (ps_ret (pe_and (pe_callB call_isi (by rfl) T.z_isinstance (by decide +kernel) (pa_cons (pv 0) (pa_cons (pe_bltn (v := .ty "int") (by rfl) T.z_int (by decide +kernel) rfl) pa_nil))) (pe_and (pe_not (pe_callB call_isi (by rfl) T.z_isinstance (by decide +kernel) (pa_cons (pv 0) (pa_cons (pe_bltn (v := .ty "bool") (by rfl) T.z_bool (by decide +kernel) rfl) pa_nil)))) (pe_one (pe_chain op_le op_le (pv 1) (pv 0) (pv 2))))))), ?_⟩
    refine ⟨x, rfl, x, _, _, _, _, rfl, .ty _, hx.ty, hx.int?, _, rfl, ?_⟩
    cases x with
    | int i =>
      refine iteT ⟨_, rfl, _, _, _, _, _, rfl, .ty _, hx.ty, hx.bool?, _, rfl, _, rfl, iteT ?_⟩
      refine ⟨_, rfl, _, rfl, lo, i, rfl, rfl, _, rfl, ite2 (fun e => ?_) (fun e => ?_)⟩
      · refine ⟨_, rfl, i, hi, rfl, rfl, ?_⟩
        have e2 : wholeV (.int i) lo hi = decide (i ≤ hi) := by
          show (decide (lo ≤ i) && decide (i ≤ hi)) = _
          rw [e, Bool.true_and]
        rw [e2] at q
        exact q
      · have e2 : wholeV (.int i) lo hi = false := by
          show (decide (lo ≤ i) && decide (i ≤ hi)) = _
          rw [Bool.eq_false_iff.mpr e, Bool.false_and]
        rw [e2] at q
        exact q
    | bl b => exact iteT ⟨_, rfl, _, _, _, _, _, rfl, .ty _, hx.ty, hx.bool?, _, rfl, _, rfl, iteF q⟩
    | non => exact iteF q
    | str z => exact iteF q
    | byt z => cases hx
    | flt z => cases hx
    | ref z => exact iteF q
    | ty z => cases hx
theorem ok_is_word (T : Txt K mg) : FnOk P w K mg base CX0 1 T.a_is_word T.d_is_word ["thing", "words"] (spWord K) := by
  refine T.F_is_word.ok sc_is_word (fun vs H Q E h => ?_) (fun cdv A outer s H vs Q E hr h => ?_)
  · obtain ⟨x, t, ws, n, rfl, _⟩ := h
    rfl
  · obtain ⟨x, t, ws, n, rfl, ht, hx, q⟩ := h
    refine ⟨_, (pss_one (ps_ret (pe_and (pe_callB call_isi (by rfl) T.z_isinstance (by decide +kernel) (pa_cons (pv 0) (pa_cons (pe_bltn (v := .ty "str") (by rfl) T.z_str (by decide +kernel) rfl) pa_nil))) (pe_one (pe_cmpR op_in_seq (pv 0) (pv 1) rfl))))), ?_⟩
    refine ⟨x, rfl, x, _, _, _, _, rfl, .ty _, hx.ty, hx.str?, _, rfl, ?_⟩
    cases x with
    | str z =>
      refine iteT ⟨_, rfl, _, rfl, t, _, rfl, .inr ht, rfl, all_flat_str ws, ?_⟩
      rw [show (if false = true then !inV (V.str z) (ws.map V.str) else inV (V.str z) (ws.map V.str)) = decide (z ∈ ws) from inV_str z ws]
      exact q
    | int i => exact iteF q
    | bl b => exact iteF q
    | non => exact iteF q
    | byt z => cases hx
    | flt z => cases hx
    | ref z => exact iteF q
    | ty z => cases hx
end

section
variable {P : Program} {w : World} {K : PySem.W.Frag} {mg : Str → Option Value} {base : Heap}
theorem ok_law_integer (T : Txt K mg) : FnOk P w K mg base CX0 1 T.a_law_integer T.d_law_integer ["_law_found"] (spIsInt K) := by
  refine T.F_law_integer.ok sc_law_integer (fun vs H Q E h => ?_) (fun cdv A outer s H vs Q E hr h => ?_)
  · obtain ⟨x, n, rfl, _⟩ := h
    rfl
  · obtain ⟨x, n, rfl, hx, q⟩ := h
    refine ⟨_, (pss_one (ps_ret (pe_and (pe_callB call_isi (by rfl) T.z_isinstance (by decide +kernel) (pa_cons (pv 0) (pa_cons (pe_bltn (v := .ty "int") (by rfl) T.z_int (by decide +kernel) rfl) pa_nil))) (pe_one (pe_not (pe_callB call_isi (by rfl) T.z_isinstance (by decide +kernel) (pa_cons (pv 0) (pa_cons (pe_bltn (v := .ty "bool") (by rfl) T.z_bool (by decide +kernel) rfl) pa_nil)))))))), ?_⟩
    refine ⟨x, rfl, x, _, _, _, _, rfl, .ty _, hx.ty, hx.int?, _, rfl, ?_⟩
    cases e : isI x with
    | true =>
      rw [e, Bool.true_and] at q
      exact iteT ⟨_, rfl, _, _, _, _, _, rfl, .ty _, hx.ty, hx.bool?, _, rfl, q⟩
    | false =>
      rw [e, Bool.false_and] at q
      exact iteF q
end

section
variable {P : Program} {w : World} {K : PySem.W.Frag} {mg : Str → Option Value} {base : Heap}
theorem ok_check_kind (T : Txt K mg) : FnOk P w K mg base (L2.CX P w) 2 T.a_check_kind T.d_check_kind ["kind"] (spChk K T.exc kindV "BadKind") := by
  refine T.F_check_kind.okX sc_check_kind (fun vs H Q E h => ?_) (fun cdv A outer s H vs Q E hr h => ?_)
  · obtain ⟨x, n, rfl, _⟩ := h
    rfl
  · obtain ⟨x, n, rfl, hx, q⟩ := h
    refine ⟨_, (pss_one (ps_if (pt_not (pt_val (pe_call (ok_is_word T) (hr.mono (by decide)) rfl T.g_is_word T.F_is_word.kp T.b_is_word .nil pass0 (pa_cons (pv 0) (pa_cons (pe_glob rfl T.g_KINDS T.r_KINDS) pa_nil)))))
      (pss_one (ps_raise rfl (takes_of rfl rfl rfl rfl) (pmk_own PySem.F.excBase_ValueError T.x_BadKind T.g_BadKind T.k_BadKind (raises_own T.p_BadKind T.t_BadKind) rfl)))
      pss_nil)), ?_⟩
    refine ⟨x, rfl, x, T.c_KINDS, ["rest", "ranges"], n, rfl, T.q_KINDS H, hx, _, rfl, ?_⟩
    cases e : kindV x with
    | false =>
      rw [e] at q
      exact if_pos (show (!kindV x) = true by rw [e]; rfl) ▸ q
    | true =>
      rw [e] at q
      exact if_neg (show ¬ (!kindV x) = true by rw [e]; decide) ▸ q
theorem ok_check_size (T : Txt K mg) : FnOk P w K mg base (L2.CX P w) 2 T.a_check_size T.d_check_size ["size"] (spChk K T.exc (fun x => wholeV x 1 (10 ^ 40)) "BadSize") := by
  refine T.F_check_size.okX sc_check_size (fun vs H Q E h => ?_) (fun cdv A outer s H vs Q E hr h => ?_)
  · obtain ⟨x, n, rfl, _⟩ := h
    rfl
  · obtain ⟨x, n, rfl, hx, q⟩ := h
    refine ⟨_, (pss_one (ps_if (pt_not (pt_val (pe_call (ok_is_whole T) (hr.mono (by decide)) rfl T.g_is_whole T.F_is_whole.kp T.b_is_whole .nil pass0 (pa_cons (pv 0) (pa_cons pe_int (pa_cons (pe_glob rfl T.g_GREATEST_SIZE T.r_GREATEST_SIZE) pa_nil))))))
      (pss_one (ps_raise rfl (takes_of rfl rfl rfl rfl) (pmk_own PySem.F.excBase_ValueError T.x_BadSize T.g_BadSize T.k_BadSize (raises_own T.p_BadSize T.t_BadSize) rfl)))
      pss_nil)), ?_⟩
    refine ⟨x, rfl, x, 1, 10 ^ 40, n, rfl, hx, _, rfl, ?_⟩
    cases e : wholeV x 1 (10 ^ 40) with
    | false =>
      simp only [e] at q
      exact q
    | true =>
      simp only [e] at q
      exact q
theorem ok_check_count (T : Txt K mg) : FnOk P w K mg base (L2.CX P w) 2 T.a_check_count T.d_check_count ["count", "greatest"] (spChkC K T.exc) := by
  refine T.F_check_count.okX sc_check_count (fun vs H Q E h => ?_) (fun cdv A outer s H vs Q E hr h => ?_)
  · obtain ⟨x, g, n, rfl, _⟩ := h
    rfl
  · obtain ⟨x, g, n, rfl, hg, hx, q⟩ := h
    refine ⟨_, (pss_one (ps_if (pt_not (pt_val (pe_call (ok_is_whole T) (hr.mono (by decide)) rfl T.g_is_whole T.F_is_whole.kp T.b_is_whole .nil pass0 (pa_cons (pv 0) (pa_cons pe_int (pa_cons (pv 1) pa_nil))))))
      (pss_one (ps_raise rfl (takes_of rfl rfl rfl rfl) (pmk_ownA PySem.F.excBase_ValueError T.x_BadCount T.g_BadCount T.k_BadCount (raises_own T.p_BadCount T.t_BadCount) rfl (pa_cons (pe_joined (.cons pe_str (.cons (pe_fmt (pv 1)) (.cons pe_str .nil)))) pa_nil))))
      pss_nil)), ?_⟩
    refine ⟨x, rfl, .int g, rfl, x, 1, g, n, rfl, hx, _, rfl, ?_⟩
    cases e : wholeV x 1 g with
    | false =>
      simp only [e] at q
      refine iteT ?_
      rcases hg with rfl | rfl
      · exact ⟨_, rfl, by decide +kernel, .int _, rfl, .inr ⟨_, rfl, by decide +kernel, _, rfl, by decide +kernel, _, rfl, by decide +kernel, by decide +kernel, q⟩⟩
      · exact ⟨_, rfl, by decide +kernel, .int _, rfl, .inr ⟨_, rfl, by decide +kernel, _, rfl, by decide +kernel, _, rfl, by decide +kernel, by decide +kernel, q⟩⟩
    | true =>
      simp only [e] at q
      exact iteF q
end

section
variable {P : Program} {w : World} {K : PySem.W.Frag} {mg : Str → Option Value} {base : Heap}
theorem ok_check_moved (T : Txt K mg) : FnOk P w K mg base (L2.CX P w) 3 T.a_check_moved T.d_check_moved ["kind", "before", "after", "size"] (spAskM K T.exc fun _ _ _ _ r => r = .non) := by
  refine T.F_check_moved.okX sc_check_moved (fun vs H Q E h => ?_) (fun cdv A outer s₀ H vs Q E hr h => ?_)
  · obtain ⟨k, b, a, s, _, _, _, _, rfl, _⟩ := h
    rfl
  · obtain ⟨k, b, a, s, tk, tb, ta, ts, rfl, hk, hb, ha, hs, qe, qo⟩ := h
    refine ⟨_, (pss_cons (ps_expr (pe_call (ok_check_kind T) (hr.mono (by decide)) rfl T.g_check_kind T.F_check_kind.kp T.b_check_kind .nil (passes_call (takes_of rfl rfl rfl rfl) (fun _ _ _ _ h => h)) (pa_cons (pv 0) pa_nil)))
      (pss_cons (ps_set (i := 4) sc_check_moved.nd rfl (Or.inl rfl) (pe_ifExp (pt_cmpR op_eq (pv 0) pe_str (nomark _)) (pe_glob rfl T.g_GREATEST_COUNT T.r_GREATEST_COUNT) (pe_glob rfl T.g_GREATEST_MOVED_BY_RANGES T.r_GREATEST_MOVED_BY_RANGES)))
      (pss_cons (ps_expr (pe_call (ok_check_count T) (hr.mono (by decide)) rfl T.g_check_count T.F_check_count.kp T.b_check_count .nil (passes_call (takes_of rfl rfl rfl rfl) (fun _ _ _ _ h => h)) (pa_cons (pv 1) (pa_cons (pv 4) pa_nil))))
      (pss_cons (ps_expr (pe_call (ok_check_count T) (hr.mono (by decide)) rfl T.g_check_count T.F_check_count.kp T.b_check_count .nil (passes_call (takes_of rfl rfl rfl rfl) (fun _ _ _ _ h => h)) (pa_cons (pv 2) (pa_cons (pv 4) pa_nil))))
      (pss_one (ps_expr (pe_call (ok_check_size T) (hr.mono (by decide)) rfl T.g_check_size T.F_check_size.kp T.b_check_size .nil (passes_call (takes_of rfl rfl rfl rfl) (fun _ _ _ _ h => h)) (pa_cons (pv 3) pa_nil)))))))), ?_⟩
    unfold chkM at qe
    refine ⟨k, rfl, k, tk, rfl, hk, ?_⟩
    cases e1 : kindV k with
    | false => exact qe _ (if_pos e1)
    | true =>
    rw [if_neg (by rw [e1]; decide)] at qe
    obtain ⟨ks, rfl, _⟩ := word_str e1
    refine ⟨_, rfl, rfl, _, rfl, ?_⟩
    refine ite2 (fun e => ?_) (fun e => ?_)
    · have e9 : mostOf (.str ks) = 10 ^ 20 := by unfold mostOf; rw [if_pos (of_decide_eq_true e)]
      rw [e9] at qe
      refine ⟨b, rfl, .int (10 ^ 20), rfl, b, 10 ^ 20, tb, rfl, .inl rfl, hb, ?_⟩
      cases e2 : wholeV b 1 (10 ^ 20) with
      | false => rw [if_pos e2] at qe; exact qe _ rfl
      | true =>
      rw [if_neg (by rw [e2]; decide)] at qe
      refine ⟨a, rfl, .int (10 ^ 20), rfl, a, 10 ^ 20, ta, rfl, .inl rfl, ha, ?_⟩
      cases e3 : wholeV a 1 (10 ^ 20) with
      | false => rw [if_pos e3] at qe; exact qe _ rfl
      | true =>
      rw [if_neg (by rw [e3]; decide)] at qe
      refine ⟨s, rfl, s, ts, rfl, hs, ?_⟩
      cases e4 : wholeV s 1 (10 ^ 40) with
      | false =>
        rw [if_pos e4] at qe
        show spRes T.exc (if wholeV s 1 (10 ^ 40) = false then _ else _) _ _ _
        rw [if_pos e4]; exact qe _ rfl
      | true =>
        show spRes T.exc (if wholeV s 1 (10 ^ 40) = false then _ else _) _ _ _
        rw [if_neg (by rw [e4]; decide)]
        obtain ⟨bi, rfl, b1, b2⟩ := whole_int e2
        obtain ⟨ai, rfl, a1, a2⟩ := whole_int e3
        obtain ⟨si, rfl, s1, s2⟩ := whole_int e4
        exact qo ks bi ai si rfl rfl rfl rfl ⟨e1, b1, by rw [e9]; exact b2, a1, by rw [e9]; exact a2, s1, s2⟩ _ rfl
    · have e9 : mostOf (.str ks) = 1000 := by unfold mostOf; rw [if_neg (fun z => e (decide_eq_true z))]
      rw [e9] at qe
      refine ⟨b, rfl, .int 1000, rfl, b, 1000, tb, rfl, .inr rfl, hb, ?_⟩
      cases e2 : wholeV b 1 1000 with
      | false => rw [if_pos e2] at qe; exact qe _ rfl
      | true =>
      rw [if_neg (by rw [e2]; decide)] at qe
      refine ⟨a, rfl, .int 1000, rfl, a, 1000, ta, rfl, .inr rfl, ha, ?_⟩
      cases e3 : wholeV a 1 1000 with
      | false => rw [if_pos e3] at qe; exact qe _ rfl
      | true =>
      rw [if_neg (by rw [e3]; decide)] at qe
      refine ⟨s, rfl, s, ts, rfl, hs, ?_⟩
      cases e4 : wholeV s 1 (10 ^ 40) with
      | false =>
        rw [if_pos e4] at qe
        show spRes T.exc (if wholeV s 1 (10 ^ 40) = false then _ else _) _ _ _
        rw [if_pos e4]; exact qe _ rfl
      | true =>
        show spRes T.exc (if wholeV s 1 (10 ^ 40) = false then _ else _) _ _ _
        rw [if_neg (by rw [e4]; decide)]
        obtain ⟨bi, rfl, b1, b2⟩ := whole_int e2
        obtain ⟨ai, rfl, a1, a2⟩ := whole_int e3
        obtain ⟨si, rfl, s1, s2⟩ := whole_int e4
        exact qo ks bi ai si rfl rfl rfl rfl ⟨e1, b1, by rw [e9]; exact b2, a1, by rw [e9]; exact a2, s1, s2⟩ _ rfl
theorem ok_lane_start (T : Txt K mg) : FnOk P w K mg base CX0 1 T.a_lane_start T.d_lane_start ["lane", "count", "size"] spLstart := by
  refine T.F_lane_start.ok sc_lane_start (fun vs H Q E h => ?_) (fun cdv A outer s₀ H vs Q E hr h => ?_)
  · obtain ⟨l, c, s, rfl, _⟩ := h
    rfl
  · obtain ⟨l, c, s, rfl, l0, l1, c1, c2, s1, s2, q⟩ := h
    refine ⟨_, (pss_one (ps_ret (pe_op op_fdivW (pe_op op_sub (pe_op op_add (pe_op Lc.op_mulX (pv 0) (pv 2)) (pv 1)) pe_int) (pv 1)))), ?_⟩
    have fl : Few l := few_le (b := 2000) l0 l1 (by decide)
    have fs : Few s := few_le (b := 10 ^ 40) (by omega) s2 (by decide)
    exact ⟨_, rfl, _, rfl, _, _, rfl, rfl, mulX fl fs, _, rfl, _, _, rfl, rfl, _, _, rfl, rfl, _, rfl, _, _, rfl, rfl, divX (by omega) (Nat.lt_of_le_of_lt (by omega : c.natAbs ≤ 1000) (by decide)), q⟩
theorem ok_kept_by_rest (T : Txt K mg) : FnOk P w K mg base CX0 1 T.a_kept_by_rest T.d_kept_by_rest ["low", "high", "size"] spKeptRest := by
  refine T.F_kept_by_rest.ok sc_kept_by_rest (fun vs H Q E h => ?_) (fun cdv A outer s₀ H vs Q E hr h => ?_)
  · obtain ⟨l, c, s, rfl, _⟩ := h
    rfl
  · obtain ⟨l, c, s, rfl, l1, l2, c1, c2, s1, s2, q⟩ := h
    refine ⟨_, (pss_cons (ps_set (i := 3) sc_kept_by_rest.nd rfl (Or.inl rfl) (pe_callBfun Lc.cr_lcm rfl T.g_lcm (pa_cons (pv 0) (pa_cons (pv 1) pa_nil))))
      (pss_one (ps_ret (pe_op op_add (pe_op Lc.op_mulX (pe_op op_fdivW (pv 2) (pv 3)) (pv 0)) (pe_callB (call_min2 rfl) (by rfl) T.z_min (by decide +kernel) (pa_cons (pe_op op_mod (pv 2) (pv 3)) (pa_cons (pv 0) pa_nil))))))), ?_⟩
    have el : ((l.toNat : Nat) : Int) = l := Int.toNat_of_nonneg (by omega)
    have ec : ((c.toNat : Nat) : Int) = c := Int.toNat_of_nonneg (by omega)
    have p1 := lcmI_pos l1 c1
    have p2 := lcmI_le l1 c1 l2 c2
    have hp : (lcmI l c).natAbs < 2 ^ 240 := Nat.lt_of_le_of_lt (by omega : (lcmI l c).natAbs ≤ 10 ^ 40) (by decide)
    have fq : Few (s / lcmI l c) := few_le (b := 10 ^ 40) (Int.ediv_nonneg (by omega) (by omega)) (Int.le_trans (Int.ediv_le_self _ (by omega)) s2) (by decide)
    have fl : Few l := few_le (b := 10 ^ 20) (by omega) l2 (by decide)
    refine ⟨_, rfl, _, rfl, l.toNat, c.toNat, (by rw [el, ec]), Nat.lt_of_le_of_lt (by omega : l.toNat ≤ 10 ^ 20) (by decide), Nat.lt_of_le_of_lt (by omega : c.toNat ≤ 10 ^ 20) (by decide), by omega, ?_⟩
    exact ⟨_, rfl, _, rfl, _, _, rfl, rfl, divX (by show 0 < lcmI l c; omega) hp, _, rfl, _, _, rfl, rfl, mulX fq fl, _, rfl, _, rfl, _, _, rfl, rfl, (by show 0 < lcmI l c; omega), _, rfl, _, _, rfl, _, _, rfl, rfl, q⟩
theorem ok_kept_by_ranges (T : Txt K mg) : FnOk P w K mg base CX0 2 T.a_kept_by_ranges T.d_kept_by_ranges ["low", "high", "size"] spKeptRanges := by
  refine T.F_kept_by_ranges.ok sc_kept_by_ranges (fun vs H Q E h => ?_) (fun cdv A outer s₀ H vs Q E hr h => ?_)
  · obtain ⟨l, c, s, rfl, _⟩ := h
    rfl
  · obtain ⟨l, c, s, rfl, l1, l2, c1, c2, s1, s2, q⟩ := h
    refine ⟨_, (pss_cons (ps_set (i := 3) sc_kept_by_ranges.nd rfl (Or.inl rfl) pe_int)
      (pss_cons (ps_for PassesOwn.never rfl (pi_range1 rfl T.z_range (pa_cons (pv 0) pa_nil)) (pg_name (i := 4) sc_kept_by_ranges.nd rfl (Or.inl rfl))
      (pss_one (ps_aug (i := 3) sc_kept_by_ranges.nd rfl (Or.inl rfl) (pe_callB (call_max2 rfl) (by rfl) T.z_max (by decide +kernel) (pa_cons pe_int (pa_cons (pe_op op_sub (pe_call (ok_lane_start T) (hr.mono (by decide)) rfl T.g_lane_start T.F_lane_start.kp T.b_lane_start .nil pass0 (pa_cons (pe_op op_add (pv 4) pe_int) (pa_cons (pv 1) (pa_cons (pv 2) pa_nil)))) (pe_call (ok_lane_start T) (hr.mono (by decide)) rfl T.g_lane_start T.F_lane_start.kp T.b_lane_start .nil pass0 (pa_cons (pv 4) (pa_cons (pv 0) (pa_cons (pv 2) pa_nil))))) pa_nil))) ip_add)))
      (pss_one (ps_ret (pv 3))))), ?_⟩
    refine ⟨_, rfl, l, rfl, by omega, by omega, for_range (n := l.toNat) (fun i σ' H' => ∃ x, σ' = [some (.int l), some (.int c), some (.int s), some (.int (keptR c l s i)), x] ∧ H' = H) ⟨none, rfl, rfl⟩ ?_ ?_⟩
    · rintro i σ' H' hi ⟨x, rfl, rfl⟩
      have e0 : (0 : Int) + (i : Int) = i := Int.zero_add _
      refine ⟨_, rfl, _, rfl, _, _, rfl, rfl, _, rfl, _, rfl, _, _, _, rfl, by omega, by omega, c1, c2, s1, s2, _, rfl, _, rfl, _, rfl, _, _, _, rfl, by omega, by omega, by omega, by omega, s1, s2, _, _, rfl, rfl, _, _, rfl, _, _, rfl, rfl, some (.int ((0 : Int) + i)), ?_, rfl⟩
      rw [e0]
      rfl
    · rintro σ' H' ⟨x, rfl, rfl⟩
      exact ⟨_, rfl, q⟩
theorem ok_first_moved_by_ranges (T : Txt K mg) : FnOk P w K mg base CX0 2 T.a_first_moved_by_ranges T.d_first_moved_by_ranges ["low", "high", "size"] spFirstRanges := by
  refine T.F_first_moved_by_ranges.ok sc_first_moved_by_ranges (fun vs H Q E h => ?_) (fun cdv A outer s₀ H vs Q E hr h => ?_)
  · obtain ⟨l, c, s, rfl, _⟩ := h
    rfl
  · obtain ⟨l, c, s, rfl, l1, l2, c1, c2, s1, s2, q⟩ := h
    refine ⟨_, (pss_cons (ps_for PassesOwn.never rfl (pi_range2 rfl T.z_range (pa_cons pe_int (pa_cons (pe_op op_add (pv 0) pe_int) pa_nil))) (pg_name (i := 3) sc_first_moved_by_ranges.nd rfl (Or.inl rfl))
      (pss_cons (ps_set (i := 4) sc_first_moved_by_ranges.nd rfl (Or.inl rfl) (pe_call (ok_lane_start T) (hr.mono (by decide)) rfl T.g_lane_start T.F_lane_start.kp T.b_lane_start .nil pass0 (pa_cons (pv 3) (pa_cons (pv 1) (pa_cons (pv 2) pa_nil)))))
      (pss_one (ps_if (pt_cmpR op_lt (pv 4) (pe_call (ok_lane_start T) (hr.mono (by decide)) rfl T.g_lane_start T.F_lane_start.kp T.b_lane_start .nil pass0 (pa_cons (pv 3) (pa_cons (pv 0) (pa_cons (pv 2) pa_nil)))) (nomark _))
      (pss_one (ps_ret (pv 4)))
      pss_nil))))
      (pss_one (ps_ret pe_non))), ?_⟩
    refine ⟨_, rfl, _, _, rfl, rfl, 1, l + 1, rfl, ⟨by decide, by decide, by omega, by omega⟩, for_range (lo := 1) (n := (l + 1 - 1).toNat) (fun i σ' H' => ∃ x y, σ' = [some (.int l), some (.int c), some (.int s), x, y] ∧ H' = H ∧ ∀ j : Int, 1 ≤ j → j ≤ i → lstart j l s ≤ lstart j c s) ⟨none, none, rfl, rfl, fun j h1 h2 => by omega⟩ ?_ ?_⟩
    · rintro i σ' H' hi ⟨x, y, rfl, rfl, hj⟩
      refine ⟨_, rfl, _, rfl, _, rfl, _, _, _, rfl, by omega, by omega, c1, c2, s1, s2, _, rfl, _, rfl, _, rfl, _, rfl, _, _, _, rfl, by omega, by omega, by omega, by omega, s1, s2, _, _, rfl, rfl, _, rfl, ite2 (fun e => ?_) (fun e => ?_)⟩
      · exact ⟨_, rfl, q _ (.at _ (by omega) (by omega) (of_decide_eq_true e) fun j h1 h2 => hj j h1 (by omega))⟩
      · refine ⟨_, _, rfl, rfl, fun j h1 h2 => ?_⟩
        by_cases h3 : j ≤ i
        · exact hj j h1 h3
        · have e2 : j = 1 + (i : Int) := by omega
          subst e2
          have e3 : ¬ lstart (1 + (i : Int)) c s < lstart (1 + (i : Int)) l s := fun z => e (decide_eq_true z)
          omega
    · rintro σ' H' ⟨x, y, rfl, rfl, hj⟩
      exact q _ (.no fun j h1 h2 => hj j h1 (by omega))
theorem low_high {b a m : Int} (b1 : 1 ≤ b) (b2 : b ≤ m) (a1 : 1 ≤ a) (a2 : a ≤ m) : 1 ≤ lowI b a ∧ lowI b a ≤ m ∧ 1 ≤ highI b a ∧ highI b a ≤ m := by
  unfold lowI highI
  split <;> split <;> omega
theorem ok_count_moved (T : Txt K mg) : FnOk P w K mg base (L2.CX P w) 4 T.a_count_moved T.d_count_moved ["kind", "before", "after", "size"] (spAskM K T.exc fun ks b a s r => r = .int (countM ks b a s)) := by
  refine T.F_count_moved.okX sc_count_moved (fun vs H Q E h => ?_) (fun cdv A outer s₀ H vs Q E hr h => ?_)
  · obtain ⟨k, b, a, s, _, _, _, _, rfl, _⟩ := h
    rfl
  · obtain ⟨k, b, a, s, tk, tb, ta, ts, rfl, hk, hb, ha, hs, qe, qo⟩ := h
    refine ⟨_, (pss_cons (ps_expr (pe_call (ok_check_moved T) (hr.mono (by decide)) rfl T.g_check_moved T.F_check_moved.kp T.b_check_moved .nil (passes_call (takes_of rfl rfl rfl rfl) (fun _ _ _ _ h => h)) (pa_cons (pv 0) (pa_cons (pv 1) (pa_cons (pv 2) (pa_cons (pv 3) pa_nil))))))
      (pss_cons (ps_par (i := 4) (j := 5) rfl sc_count_moved.nd rfl rfl (by decide) rfl rfl (pa_cons (pe_callB (call_min2 rfl) (by rfl) T.z_min (by decide +kernel) (pa_cons (pv 1) (pa_cons (pv 2) pa_nil))) (pa_cons (pe_callB (call_max2 rfl) (by rfl) T.z_max (by decide +kernel) (pa_cons (pv 1) (pa_cons (pv 2) pa_nil))) pa_nil)) rfl)
      (pss_cons (ps_if (pt_cmpR op_eq (pv 0) pe_str (nomark _))
      (pss_one (ps_ret (pe_op op_sub (pv 3) (pe_call (ok_kept_by_rest T) (hr.mono (by decide)) rfl T.g_kept_by_rest T.F_kept_by_rest.kp T.b_kept_by_rest .nil pass0 (pa_cons (pv 4) (pa_cons (pv 5) (pa_cons (pv 3) pa_nil)))))))
      pss_nil)
      (pss_one (ps_ret (pe_op op_sub (pv 3) (pe_call (ok_kept_by_ranges T) (hr.mono (by decide)) rfl T.g_kept_by_ranges T.F_kept_by_ranges.kp T.b_kept_by_ranges .nil pass0 (pa_cons (pv 4) (pa_cons (pv 5) (pa_cons (pv 3) pa_nil)))))))))), ?_⟩
    refine ⟨_, rfl, _, rfl, _, rfl, _, rfl, k, b, a, s, tk, tb, ta, ts, rfl, hk, hb, ha, hs, qe, ?_⟩
    rintro ks bi ai si rfl rfl rfl rfl M _ rfl
    have q := qo ks bi ai si rfl rfl rfl rfl M _ rfl
    have lh := low_high M.b1 M.b2 M.a1 M.a2
    refine ⟨_, rfl, _, rfl, _, _, rfl, _, rfl, _, rfl, _, _, rfl, _, _, rfl, ?_⟩
    refine ⟨_, rfl, rfl, _, rfl, ite2 (fun e => ?_) (fun e => ?_)⟩
    · have e2 : V.str ks = .str "rest" := of_decide_eq_true e
      have e9 : mostOf (.str ks) = 10 ^ 20 := by unfold mostOf; rw [if_pos e2]
      rw [e9] at lh
      refine ⟨_, rfl, _, rfl, _, rfl, _, rfl, _, _, _, rfl, lh.1, lh.2.1, lh.2.2.1, lh.2.2.2, M.s1, M.s2, _, _, rfl, rfl, ?_⟩
      unfold countM at q
      rw [if_pos e2] at q
      exact q
    · have e2 : ¬ V.str ks = .str "rest" := fun z => e (decide_eq_true z)
      have e9 : mostOf (.str ks) = 1000 := by unfold mostOf; rw [if_neg e2]
      rw [e9] at lh
      refine ⟨_, rfl, _, rfl, _, rfl, _, rfl, _, _, _, rfl, lh.1, lh.2.1, lh.2.2.1, lh.2.2.2, M.s1, M.s2, _, _, rfl, rfl, ?_⟩
      unfold countM at q
      rw [if_neg e2] at q
      exact q
theorem ok_first_moved (T : Txt K mg) : FnOk P w K mg base (L2.CX P w) 4 T.a_first_moved T.d_first_moved ["kind", "before", "after", "size"] (spAskM K T.exc FirstM) := by
  refine T.F_first_moved.okX sc_first_moved (fun vs H Q E h => ?_) (fun cdv A outer s₀ H vs Q E hr h => ?_)
  · obtain ⟨k, b, a, s, _, _, _, _, rfl, _⟩ := h
    rfl
  · obtain ⟨k, b, a, s, tk, tb, ta, ts, rfl, hk, hb, ha, hs, qe, qo⟩ := h
    refine ⟨_, (pss_cons (ps_expr (pe_call (ok_check_moved T) (hr.mono (by decide)) rfl T.g_check_moved T.F_check_moved.kp T.b_check_moved .nil (passes_call (takes_of rfl rfl rfl rfl) (fun _ _ _ _ h => h)) (pa_cons (pv 0) (pa_cons (pv 1) (pa_cons (pv 2) (pa_cons (pv 3) pa_nil))))))
      (pss_cons (ps_par (i := 4) (j := 5) rfl sc_first_moved.nd rfl rfl (by decide) rfl rfl (pa_cons (pe_callB (call_min2 rfl) (by rfl) T.z_min (by decide +kernel) (pa_cons (pv 1) (pa_cons (pv 2) pa_nil))) (pa_cons (pe_callB (call_max2 rfl) (by rfl) T.z_max (by decide +kernel) (pa_cons (pv 1) (pa_cons (pv 2) pa_nil))) pa_nil)) rfl)
      (pss_cons (ps_if (pt_cmpR op_eq (pv 0) pe_str (nomark _))
      (pss_one (ps_ret (pe_call (ok_first_moved_by_ranges T) (hr.mono (by decide)) rfl T.g_first_moved_by_ranges T.F_first_moved_by_ranges.kp T.b_first_moved_by_ranges .nil pass0 (pa_cons (pv 4) (pa_cons (pv 5) (pa_cons (pv 3) pa_nil))))))
      pss_nil)
      (pss_one (ps_ret (pe_ifExp (pt_cmpR op_lt (pv 4) (pe_callB (call_min2 rfl) (by rfl) T.z_min (by decide +kernel) (pa_cons (pv 5) (pa_cons (pv 3) pa_nil))) (nomark _)) (pv 4) pe_non)))))), ?_⟩
    refine ⟨_, rfl, _, rfl, _, rfl, _, rfl, k, b, a, s, tk, tb, ta, ts, rfl, hk, hb, ha, hs, qe, ?_⟩
    rintro ks bi ai si rfl rfl rfl rfl M _ rfl
    have q := qo ks bi ai si rfl rfl rfl rfl M
    have lh := low_high M.b1 M.b2 M.a1 M.a2
    refine ⟨_, rfl, _, rfl, _, _, rfl, _, rfl, _, rfl, _, _, rfl, _, _, rfl, ?_⟩
    refine ⟨_, rfl, rfl, _, rfl, ite2 (fun e => ?_) (fun e => ?_)⟩
    · have e2 : V.str ks = .str "ranges" := of_decide_eq_true e
      have e9 : mostOf (.str ks) = 1000 := by
        rcases most_cases M.k with h | h
        · rw [e2] at h; exact absurd h.1 (by decide)
        · exact h.2.2
      rw [e9] at lh
      refine ⟨_, rfl, _, rfl, _, rfl, _, _, _, rfl, lh.1, lh.2.1, lh.2.2.1, lh.2.2.2, M.s1, M.s2, fun r hr => q r ?_⟩
      unfold FirstM
      rw [if_pos e2]
      exact hr
    · have e2 : ¬ V.str ks = .str "ranges" := fun z => e (decide_eq_true z)
      refine ⟨_, rfl, _, rfl, _, rfl, _, _, rfl, _, _, rfl, rfl, _, rfl, ite2 (fun e3 => ?_) (fun e3 => ?_)⟩
      · refine ⟨_, rfl, q _ ?_⟩
        unfold FirstM
        rw [if_neg e2]
        exact (if_pos (show lowI bi ai < (if si < highI bi ai then si else highI bi ai) from of_decide_eq_true e3)).symm
      · refine q _ ?_
        unfold FirstM
        rw [if_neg e2]
        exact (if_neg (show ¬ lowI bi ai < (if si < highI bi ai then si else highI bi ai) from fun z => e3 (decide_eq_true z))).symm
end

def spLaw (K : PySem.W.Frag) : Sp := fun vs H Q _ => ∃ (a : Addr) (ns : List Int), vs = [.ref a] ∧ SqL K H a (ns.map V.int) ∧ ns.length ≤ 63 ∧ (∀ z ∈ ns, Builtin.Int.intBits z ≤ 1048576) ∧ ∀ H', Q (.bl true) H'
/-! ### the mathematics, in whole numbers -/
theorem lstart_nat {l c s : Nat} (hc : 1 ≤ c) : lstart (l : Int) (c : Int) (s : Int) = ((MRange.st l c s : Nat) : Int) := by
  unfold lstart MRange.st
  rw [Int.natCast_ediv, Int.natCast_sub (by omega), Int.natCast_add, Int.natCast_mul]
  rfl
theorem neg_ceil {x c : Int} (hc : 0 < c) : -((-x) / c) = (x + c - 1) / c := by
  have h1 := Int.mul_ediv_add_emod (x + c - 1) c
  have h2 := Int.mul_ediv_add_emod (-x) c
  have h3 := Int.emod_nonneg (x + c - 1) (show c ≠ 0 by omega)
  have h4 := Int.emod_lt_of_pos (x + c - 1) hc
  have h5 := Int.emod_nonneg (-x) (show c ≠ 0 by omega)
  have h6 := Int.emod_lt_of_pos (-x) hc
  have h7 : c * ((x + c - 1) / c + (-x) / c) = c * ((x + c - 1) / c) + c * ((-x) / c) := Int.mul_add _ _ _
  generalize (x + c - 1) / c = q at *
  generalize (-x) / c = p at *
  have h8 : q + p = 0 := by
    rcases Int.lt_trichotomy (q + p) 0 with z | z | z
    · have : c * (q + p) ≤ c * (-1) := Int.mul_le_mul_of_nonneg_left (by omega) (by omega)
      omega
    · exact z
    · have : c * 1 ≤ c * (q + p) := Int.mul_le_mul_of_nonneg_left (by omega) (by omega)
      omega
  omega
theorem keptR_nat {low high s : Nat} (h0 : 1 ≤ low) (hs : 1 ≤ s) (h : low ≤ high) : ∀ n, n ≤ low → keptR (high : Int) (low : Int) (s : Int) n = ((MRange.Kn low high s n : Nat) : Int)
  | 0, _ => by
    have : MRange.Kn low high s 0 = 0 := by unfold MRange.Kn; rw [List.countP_eq_zero]; intro m _; simp
    rw [this]; rfl
  | n + 1, hn => by
    rw [MRange.Kn_succ h0 hs h (by omega), Int.natCast_add, ← keptR_nat h0 hs h n (by omega)]
    show keptR (high : Int) (low : Int) (s : Int) n + gapI (high : Int) (low : Int) (s : Int) (n : Int) = _
    congr 1
    unfold gapI MRange.gap
    rw [show (n : Int) + 1 = ((n + 1 : Nat) : Int) from rfl, lstart_nat (by omega), lstart_nat (by omega)]
    split <;> omega
theorem countM_ranges (b a s : Nat) (hb : 1 ≤ b) (ha : 1 ≤ a) (hs : 1 ≤ s) : countM "ranges" (b : Int) (a : Int) (s : Int) = ((MRange.C b a s s : Nat) : Int) := by
  unfold countM
  rw [if_neg (by decide)]
  rcases Nat.lt_or_ge a b with e | e
  · have el : lowI (b : Int) (a : Int) = (a : Int) := by unfold lowI; split <;> omega
    have eh : highI (b : Int) (a : Int) = (b : Int) := by unfold highI; split <;> omega
    rw [el, eh, Int.toNat_natCast, keptR_nat ha hs (by omega) _ (Nat.le_refl _)]
    have := MRange.C_Kn (low := a) (high := b) ha hs (by omega)
    rw [MRange.C_comm b a]
    omega
  · have el : lowI (b : Int) (a : Int) = (b : Int) := by unfold lowI; split <;> omega
    have eh : highI (b : Int) (a : Int) = (a : Int) := by unfold highI; split <;> omega
    rw [el, eh, Int.toNat_natCast, keptR_nat hb hs e _ (Nat.le_refl _)]
    have := MRange.C_Kn (low := b) (high := a) hb hs e
    omega
theorem FirstM_ranges {b a s : Nat} {r : V} (hb : 1 ≤ b) (ha : 1 ≤ a) (hs : 1 ≤ s) (h : FirstM "ranges" (b : Int) (a : Int) (s : Int) r) :
    (r = .non ∧ ∀ m, m < s → MRange.D b a s m = false) ∨ ∃ x : Nat, r = .int (x : Int) ∧ MRange.D b a s x = true ∧ x < s ∧ ∀ m, m < x → MRange.D b a s m = false := by
  unfold FirstM at h
  rw [if_pos rfl] at h
  have main : ∀ low high : Nat, 1 ≤ low → low ≤ high → FirstR (low : Int) (high : Int) (s : Int) r →
      (r = .non ∧ ∀ m, m < s → MRange.D low high s m = false) ∨ ∃ x : Nat, r = .int (x : Int) ∧ MRange.D low high s x = true ∧ x < s ∧ ∀ m, m < x → MRange.D low high s m = false := by
    intro low high l1 lh f
    cases f with
    | «at» l h1 h2 h3 h4 =>
      obtain ⟨n, rfl⟩ : ∃ n : Nat, l = n := ⟨l.toNat, by omega⟩
      rw [lstart_nat (by omega), lstart_nat l1] at h3
      have g3 : MRange.st n high s < MRange.st n low s := by omega
      have g4 : ∀ j, 1 ≤ j → j < n → MRange.st j low s ≤ MRange.st j high s := fun j j1 j2 => by
        have := h4 (j : Int) (by omega) (by omega)
        rw [lstart_nat l1, lstart_nat (by omega)] at this
        omega
      have k := MRange.first_at (l := n) (by omega) (by omega) lh (by omega) g3 g4
      exact .inr ⟨_, by rw [lstart_nat (by omega)], k⟩
    | no h4 =>
      exact .inl ⟨rfl, MRange.first_no (by omega) (by omega) lh fun j j1 j2 => by
        have := h4 (j : Int) (by omega) (by omega)
        rw [lstart_nat (by omega), lstart_nat (by omega)] at this
        omega⟩
  rcases Nat.lt_or_ge a b with e | e
  · have el : lowI (b : Int) (a : Int) = (a : Int) := by unfold lowI; split <;> omega
    have eh : highI (b : Int) (a : Int) = (b : Int) := by unfold highI; split <;> omega
    rw [el, eh] at h
    rw [show MRange.D b a s = MRange.D a b s from funext (MRange.D_comm b a s)]
    exact main a b ha (by omega) h
  · have el : lowI (b : Int) (a : Int) = (b : Int) := by unfold lowI; split <;> omega
    have eh : highI (b : Int) (a : Int) = (a : Int) := by unfold highI; split <;> omega
    rw [el, eh] at h
    exact main b a hb e h
/-! ### lists of parts in the heap -/
abbrev Row := Addr × Nat × Nat
def refs (L : List Row) : List V := L.map fun q => V.ref q.1
def PartsAt (H : Hp) (rp : Addr) (L : List Row) : Prop := H rp = some (.lst (refs L)) ∧ ∀ q ∈ L, H q.1 = some (.tup [.int (q.2.1 : Nat), .int (q.2.2 : Nat)])
theorem PartsAt.same {H H' : Hp} {rp : Addr} {L : List Row} (h : PartsAt H rp L) (k : Same H H') : PartsAt H' rp L := ⟨k _ _ h.1, fun q hq => k _ _ (h.2 q hq)⟩
def spParts : Sp := fun vs H Q _ => ∃ b a s : Nat, vs = [.int b, .int a, .int s] ∧ 1 ≤ b ∧ b ≤ 12 ∧ 1 ≤ a ∧ a ≤ 12 ∧ 1 ≤ s ∧ s ≤ 10 ^ 40 ∧
  ∀ rp H' L, H rp = none → Same H H' → PartsAt H' rp L → L.length ≤ 100 → (∃ E, L.map (·.2) = MRange.parts E ∧ MRange.Chain b a s E 0 s) → Q (.ref rp) H'
def endsL (c s : Nat) (n : Nat) : List Int := (List.range n).map fun k => ((MRange.st k c s : Nat) : Int)
theorem endsL_succ (c s n : Nat) : endsL c s (n + 1) = endsL c s n ++ [((MRange.st n c s : Nat) : Int)] := by
  unfold endsL; rw [List.range_succ, List.map_append]; rfl
theorem end_val {c s i : Nat} (hc : 1 ≤ c) : -((-(((0 : Int) + (i : Int)) * (s : Int))) / (c : Int)) = ((MRange.st i c s : Nat) : Int) := by
  rw [Int.zero_add, neg_ceil (by omega), ← lstart_nat hc]; rfl
/-- parts by place -/
theorem parts_get : ∀ (E : List Nat) (i : Nat) (x y : Nat), E[i]? = some x → E[i + 1]? = some y → (MRange.parts E)[i]? = some (x, y)
  | [], _, _, _, h, _ => by simp at h
  | [_], 0, _, _, _, h => by simp at h
  | [_], i + 1, _, _, h, _ => by simp at h
  | a :: b :: r, 0, x, y, h, h2 => by
    have e1 : a = x := Option.some.inj h
    have e2 : b = y := Option.some.inj h2
    subst e1; subst e2; rfl
  | a :: b :: r, i + 1, x, y, h, h2 => parts_get (b :: r) i x y h h2
theorem parts_len : ∀ E : List Nat, (MRange.parts E).length = E.length - 1
  | [] => rfl
  | [_] => rfl
  | a :: b :: r => by
    show (MRange.parts (b :: r)).length + 1 = _
    rw [parts_len (b :: r)]
    simp
section
variable {P : Program} {w : World} {K : PySem.W.Frag} {mg : Str → Option Value} {base : Heap}
theorem ok_law_parts (T : Txt K mg) : FnOk P w K mg base CX0 1 T.a_law_parts T.d_law_parts ["_law_before", "_law_after", "_law_size"] spParts := by
  refine T.F_law_parts.ok sc_law_parts (fun vs H Q E h => ?_) (fun cdv A outer s₀ H vs Q E hr h => ?_)
  · obtain ⟨b, a, s, rfl, _⟩ := h
    rfl
  · obtain ⟨b, a, s, rfl, b1, b2, a1, a2, s1, s2, q⟩ := h
    refine ⟨_, (pss_cons (ps_set (i := 3) sc_law_parts.nd rfl (Or.inr rfl) (pe_lc (own := [("_law_k", 4)]) (g := gName 4) (tt := tYes) (by rfl) sc_law_parts.nd (pi_range1 rfl T.z_range (pa_cons (pe_op op_add (pv 0) pe_int) pa_nil)) (blkOk_by (own := [("_law_k", 4)]) (N := ["_law_before", "_law_after", "_law_size", "_law_ends", "_law_k"]) (sc := defScope s_law_parts) (by decide +kernel)) (fun _ _ _ _ _ => (pg_name (i := 4) sc_law_parts.nd rfl (Or.inl rfl))) (fun _ _ _ _ _ => pts_nil) (fun _ _ _ _ _ => (pe_un un_neg (pe_op op_fdivW (pe_un un_neg (pe_op Lc.op_mulX (pv 4) (pv 2))) (pv 0))))))
      (pss_cons (ps_set (i := 3) sc_law_parts.nd rfl (Or.inr rfl) (pe_op op_cat (pv 3) (pe_lc (own := [("_law_k", 4)]) (g := gName 4) (tt := tYes) (by rfl) sc_law_parts.nd (pi_range1 rfl T.z_range (pa_cons (pe_op op_add (pv 1) pe_int) pa_nil)) (blkOk_by (own := [("_law_k", 4)]) (N := ["_law_before", "_law_after", "_law_size", "_law_ends", "_law_k"]) (sc := defScope s_law_parts) (by decide +kernel)) (fun _ _ _ _ _ => (pg_name (i := 4) sc_law_parts.nd rfl (Or.inl rfl))) (fun _ _ _ _ _ => pts_nil) (fun _ _ _ _ _ => (pe_un un_neg (pe_op op_fdivW (pe_un un_neg (pe_op Lc.op_mulX (pv 4) (pv 2))) (pv 1)))))))
      (pss_cons (ps_set (i := 3) sc_law_parts.nd rfl (Or.inr rfl) (pe_callB (cr_sortedSet rfl) (by rfl) T.z_sorted (by decide +kernel) (pa_cons (pe_callTy (LcS.cr_setL rfl) (by rfl) T.z_set (by decide +kernel) (pa_cons (pv 3) pa_nil)) pa_nil)))
      (pss_one (ps_ret (pe_lc (own := [("_law_k", 4)]) (g := gName 4) (tt := tYes) (by rfl) sc_law_parts.nd (pi_range1 rfl T.z_range (pa_cons (pe_op op_sub (pe_callB call_len_seq (by rfl) T.z_len (by decide +kernel) (pa_cons (pv 3) pa_nil)) pe_int) pa_nil)) (blkOk_by (own := [("_law_k", 4)]) (N := ["_law_before", "_law_after", "_law_size", "_law_ends", "_law_k"]) (sc := defScope s_law_parts) (by decide +kernel)) (fun _ _ _ _ _ => (pg_name (i := 4) sc_law_parts.nd rfl (Or.inl rfl))) (fun _ _ _ _ _ => pts_nil) (fun _ _ _ _ _ => (pe_tup (pa_cons (pe_ix (ixL K) (pv 3) (pv 4) (fun _ _ => rfl)) (pa_cons (pe_ix (ixL K) (pv 3) (pe_op op_add (pv 4) pe_int) (fun _ _ => rfl)) pa_nil)))))))))), ?_⟩
    have fs : Few (s : Int) := few_le (b := 10 ^ 40) (by omega) (by omega) (by decide)
    have db : CDivW = CDivW := rfl
    refine ⟨_, rfl, _, _, rfl, rfl, _, rfl, by omega, by omega, fun p hp => ?_⟩
    refine lc_range (lo := 0) (fun i H' => Same H H' ∧ H' p = some (.lst ((endsL b s i).map V.int))) ⟨same_upd hp, upd_same⟩ ?_ ?_
    · rintro i H' hi ⟨k, e⟩
      have fi : Few ((0 : Int) + (i : Int)) := few_le (b := 100) (by omega) (by omega) (by decide)
      refine ⟨rfl, _, rfl, _, rfl, _, _, rfl, rfl, mulX fi fs, _, rfl, _, rfl, _, _, rfl, rfl, divX (by omega) (Nat.lt_of_le_of_lt (by omega : (b : Int).natAbs ≤ 12) (by decide)), _, rfl, _, e, ?_, fun c o ho => ?_, ?_⟩
      · unfold endsL; rw [List.length_map, List.length_map, List.length_range]
        exact Nat.lt_of_le_of_lt (show i ≤ 100 by omega) (by decide)
      · rw [upd_ne (ne_of_none ho hp)]; exact k c o ho
      · rw [upd_same, endsL_succ, List.map_append, ← end_val b1]; rfl
    rintro H1 ⟨k1, e1⟩
    refine ⟨_, rfl, _, rfl, _, _, rfl, rfl, _, rfl, by omega, by omega, fun p2 hp2 => ?_⟩
    refine lc_range (lo := 0) (fun i H' => Same H1 H' ∧ H' p2 = some (.lst ((endsL a s i).map V.int))) ⟨same_upd hp2, upd_same⟩ ?_ ?_
    · rintro i H' hi ⟨k, e⟩
      have fi : Few ((0 : Int) + (i : Int)) := few_le (b := 100) (by omega) (by omega) (by decide)
      refine ⟨rfl, _, rfl, _, rfl, _, _, rfl, rfl, mulX fi fs, _, rfl, _, rfl, _, _, rfl, rfl, divX (by omega) (Nat.lt_of_le_of_lt (by omega : (a : Int).natAbs ≤ 12) (by decide)), _, rfl, _, e, ?_, fun c o ho => ?_, ?_⟩
      · unfold endsL; rw [List.length_map, List.length_map, List.length_range]
        exact Nat.lt_of_le_of_lt (show i ≤ 100 by omega) (by decide)
      · rw [upd_ne (ne_of_none ho hp2)]; exact k c o ho
      · rw [upd_same, endsL_succ, List.map_append, ← end_val a1]; rfl
    rintro H2 ⟨k2, e2⟩
    have en1 : ((b : Int) + 1).toNat = b + 1 := by omega
    have en2 : ((a : Int) + 1).toNat = a + 1 := by omega
    rw [en1] at e1
    rw [en2] at e2
    refine ⟨p, p2, _, _, rfl, rfl, k2 _ _ e1, e2, ?_, fun p3 hp3 => ?_⟩
    · unfold endsL; rw [List.length_map, List.length_map, List.length_range, List.length_map, List.length_map, List.length_range]
      exact Nat.le_trans (show _ ≤ 100 by omega) (by decide)
    rw [← List.map_append]
    have k3 := same_upd (o := .lst ((endsL b s (b + 1) ++ endsL a s (a + 1)).map V.int)) hp3
    have ll : (endsL b s (b + 1) ++ endsL a s (a + 1)).length = b + 1 + (a + 1) := by
      unfold endsL; rw [List.length_append, List.length_map, List.length_map, List.length_range, List.length_range]
    refine ⟨_, rfl, p3, _, rfl, SqL.of upd_same, by omega, fun p4 c hp4 hc => ?_⟩
    refine ⟨p4, _, c, rfl, upd_same, by omega, fun ns p5 pw mem len hp5 => ?_⟩
    have k4 := same_upd (o := SetO w p4 (fun j => decide (j ∈ endsL b s (b + 1) ++ endsL a s (a + 1))) c) hp4
    have k5 := same_upd (o := .lst (ns.map V.int)) hp5
    have kk : Same H _ := k1.trans (k2.trans (k3.trans (k4.trans k5)))
    -- the ends as naturals
    obtain ⟨E, hE⟩ : ∃ E : List Nat, ns = E.map fun x => ((x : Nat) : Int) := by
      refine ⟨ns.map Int.toNat, ?_⟩
      rw [List.map_map]
      refine (List.map_id' ns).symm.trans (List.map_congr_left fun z hz => ?_)
      have m := of_decide_eq_true ((mem z).mp hz)
      have : 0 ≤ z := by
        rcases List.mem_append.mp m with m | m
        · obtain ⟨j, _, rfl⟩ := List.mem_map.mp m; omega
        · obtain ⟨j, _, rfl⟩ := List.mem_map.mp m; omega
      exact (Int.toNat_of_nonneg this).symm
    subst hE
    have memE : ∀ x : Nat, x ∈ E ↔ MRange.IsEnd b a s x := by
      intro x
      have m := mem (x : Int)
      rw [List.mem_map, decide_eq_true_eq, List.mem_append] at m
      constructor
      · intro h
        rcases m.mp ⟨x, h, rfl⟩ with z | z
        · obtain ⟨j, hj, e⟩ := List.mem_map.mp z
          exact .inl ⟨j, by have := List.mem_range.mp hj; omega, by omega⟩
        · obtain ⟨j, hj, e⟩ := List.mem_map.mp z
          exact .inr ⟨j, by have := List.mem_range.mp hj; omega, by omega⟩
      · intro h
        have : ∃ y ∈ E, ((y : Nat) : Int) = (x : Int) := m.mpr (by
          rcases h with ⟨j, hj, rfl⟩ | ⟨j, hj, rfl⟩
          · exact .inl (List.mem_map.mpr ⟨j, List.mem_range.mpr (by omega), rfl⟩)
          · exact .inr (List.mem_map.mpr ⟨j, List.mem_range.mpr (by omega), rfl⟩))
        obtain ⟨y, hy, e⟩ := this
        have : y = x := by omega
        rw [← this]; exact hy
    have pwE : E.Pairwise (· < ·) := by
      rw [List.pairwise_map] at pw
      exact pw.imp fun h => by omega
    have lenE : E.length ≤ 26 := by rw [List.length_map] at len; omega
    have ch : MRange.Chain b a s E 0 s := by
      have z0 : 0 ∈ E := (memE 0).mpr (.inl ⟨0, Nat.zero_le _, (MRange.st_zero (by omega)).symm⟩)
      cases E with
      | nil => exact nomatch z0
      | cons h t =>
        have h0 : h = 0 := by
          rcases List.mem_cons.mp z0 with z | z
          · exact z.symm
          · have := (List.pairwise_cons.mp pwE).1 0 z; omega
        subst h0
        exact MRange.chain_ends (by omega) (by omega) (by omega) t 0 pwE (fun x hx => MRange.end_le (by omega) (by omega) ((memE x).mp hx)) (fun x hx _ => (memE x).mpr hx) (Nat.zero_le _)
    -- the pairs
    refine ⟨_, rfl, p5, _, rfl, .inl (SqL.of upd_same), _, _, rfl, rfl, _, rfl, ?_, ?_, fun p6 hp6 => ?_⟩
    · rw [List.length_map]; omega
    · rw [List.length_map, List.length_map]; omega
    have en : ((((E.map fun x => ((x : Nat) : Int)).map V.int).length : Nat) : Int) - 1 = ((((E.map fun x => ((x : Nat) : Int)).map V.int).length : Nat) : Int) - 1 := rfl
    refine lc_range (lo := 0) (fun i H' => Same (upd (upd (upd H2 p3 (.lst ((endsL b s (b + 1) ++ endsL a s (a + 1)).map V.int))) p4 (SetO w p4 (fun j => decide (j ∈ endsL b s (b + 1) ++ endsL a s (a + 1))) c)) p5 (.lst ((E.map fun x => ((x : Nat) : Int)).map V.int))) H' ∧ ∃ L, PartsAt H' p6 L ∧ L.map (·.2) = (MRange.parts E).take i) ⟨same_upd hp6, [], ⟨upd_same, fun q hq => nomatch hq⟩, rfl⟩ ?_ ?_
    · rintro i H' hi ⟨k, L, hL, eL⟩
      rw [List.length_map, List.length_map] at hi
      have hi1 : i + 1 < E.length := by omega
      have gi : ∀ j : Nat, (hj : j < E.length) → ((E.map fun x => ((x : Nat) : Int)).map V.int)[j]? = some (.int ((E[j] : Nat) : Int)) := fun j hj => by
        rw [List.getElem?_map, List.getElem?_map, List.getElem?_eq_getElem hj]; rfl
      refine ⟨rfl, _, rfl, _, rfl, p5, _, _, _, rfl, rfl, SqL.of (k _ _ upd_same), at_of (j := i) (by omega) (gi i (by omega)), _, rfl, _, rfl, _, _, rfl, rfl, p5, _, _, _, rfl, rfl, SqL.of (k _ _ upd_same), at_of (j := i + 1) (by show (0 : Int) + (i : Int) + 1 = ((i + 1 : Nat) : Int); omega) (gi (i + 1) hi1), (by show 2 ≤ sizeLine; decide), fun t ht => ?_⟩
      have kt := same_upd (o := .tup [.int ((E[i] : Nat) : Int), .int ((E[i + 1] : Nat) : Int)]) ht
      have tp : p6 ≠ t := ne_of_none hL.1 ht
      have Ll : L.length = i := by
        have := congrArg List.length eL
        rw [List.length_map, List.length_take, parts_len] at this
        omega
      refine ⟨refs L, kt _ _ hL.1, ?_, fun x o hx => ?_, L ++ [(t, E[i], E[i + 1])], ⟨?_, fun y hy => ?_⟩, ?_⟩
      · unfold refs; rw [List.length_map, Ll]
        exact Nat.lt_of_le_of_lt (show i ≤ 100 by omega) (by decide)
      · rw [upd_ne]
        · exact kt _ _ (k x o hx)
        · intro e; subst e; exact absurd (hp6.symm.trans hx) (fun z => nomatch z)
      · rw [upd_same]; unfold refs; rw [List.map_append]; rfl
      · rcases List.mem_append.mp hy with hy | hy
        · have h9 := hL.2 y hy
          rw [upd_ne (ne_of h9 hL.1 (fun z => nomatch z))]
          exact kt _ _ h9
        · rw [List.mem_singleton.mp hy, upd_ne tp.symm]; exact upd_same
      · rw [List.map_append, eL, List.take_add_one, parts_get E i _ _ (List.getElem?_eq_getElem (by omega)) (List.getElem?_eq_getElem hi1)]; rfl
    · rintro H' ⟨k, L, hL, eL⟩
      have et : (MRange.parts E).take ((((E.map fun x => ((x : Nat) : Int)).map V.int).length : Int) - 1).toNat = MRange.parts E := by
        refine List.take_of_length_le ?_
        rw [parts_len, List.length_map, List.length_map]; omega
      rw [et] at eL
      refine q p6 H' L (kk.free hp6) (kk.trans k) hL ?_ ⟨E, eL, ch⟩
      have := congrArg List.length eL
      rw [List.length_map, parts_len] at this
      omega
end

def keepB (b a s : Nat) (q : Row) : Bool := MRange.D b a s q.2.1
theorem cond_nat {b a s x : Nat} : (!decide (V.int ((x : Int) * (b : Int) / (s : Int)) = V.int ((x : Int) * (a : Int) / (s : Int)))) = MRange.D b a s x := by
  rw [dec_int, ← Int.natCast_mul, ← Int.natCast_mul, ← Int.natCast_ediv, ← Int.natCast_ediv]
  unfold MRange.D MRange.lane
  by_cases z : x * b / s = x * a / s
  · rw [z]; simp
  · have z2 : ¬ ((x * b / s : Nat) : Int) = ((x * a / s : Nat) : Int) := fun y => z (by omega)
    rw [beq_eq_false_iff_ne.mpr z2]; simp [z]
def diffsL (L : List Row) : List Int := L.map fun q => ((q.2.2 : Nat) : Int) - ((q.2.1 : Nat) : Int)
theorem sum_diffs : ∀ L : List Row, (∀ q ∈ L, q.2.1 ≤ q.2.2) → (diffsL L).sum = ((MRange.total (L.map (·.2)) : Nat) : Int)
  | [], _ => rfl
  | q :: r, h => by
    have ih := sum_diffs r fun y hy => h y (List.mem_cons_of_mem _ hy)
    have h1 := h q List.mem_cons_self
    show ((((q.2.2 : Nat) : Int) - ((q.2.1 : Nat) : Int)) :: diffsL r).sum = ((MRange.total (q.2 :: r.map (·.2)) : Nat) : Int)
    have e : MRange.total (q.2 :: r.map (·.2)) = (q.2.2 - q.2.1) + MRange.total (r.map (·.2)) := rfl
    rw [List.sum_cons, ih, e]
    omega
theorem chain_pairs {b a s : Nat} {l : List Nat} {h e : Nat} (c : MRange.Chain b a s l h e) : ∀ p ∈ MRange.parts l, p.1 < p.2 ∧ p.2 ≤ e := by
  induction c with
  | one e => intro p hp; exact nomatch hp
  | @cons x y e r lt same t ih =>
    intro p hp
    unfold MRange.parts at hp
    rcases List.mem_cons.mp hp with rfl | hp
    · exact ⟨lt, MRange.chain_le t⟩
    · exact ih p hp
theorem filter_map2 (b a s : Nat) (L : List Row) : (L.filter (keepB b a s)).map (·.2) = (L.map (·.2)).filter fun p => MRange.D b a s p.1 := by
  induction L with
  | nil => rfl
  | cons q r ih =>
    rw [List.map_cons]
    by_cases d : MRange.D b a s q.2.1 = true
    · rw [List.filter_cons_of_pos (by exact d), List.filter_cons_of_pos (by exact d), List.map_cons, ih]
    · rw [List.filter_cons_of_neg (by exact d), List.filter_cons_of_neg (by exact d), ih]
section
variable {P : Program} {w : World} {K : PySem.W.Frag} {mg : Str → Option Value} {base : Heap}
theorem ask_goodR {exc : String → Addr} {G : Str → Int → Int → Int → V → Prop} {H : Hp} {Q : VK} {E : XK} {b a s : Nat} (b1 : 1 ≤ b) (b2 : b ≤ 1000) (a1 : 1 ≤ a) (a2 : a ≤ 1000) (s1 : 1 ≤ s) (s2 : s ≤ 10 ^ 40)
    (h : ∀ r, G "ranges" b a s r → Q r H) : spAskM K exc G [.str "ranges", .int b, .int a, .int s] H Q E := by
  have M : Mvd "ranges" b a s := ⟨rfl, by omega, by show (b : Int) ≤ 1000; omega, by omega, by show (a : Int) ≤ 1000; omega, by omega, by omega⟩
  refine ⟨_, _, _, _, _, _, _, _, rfl, .str _, .int _, .int _, .int _, fun n hn => ?_, ?_⟩
  · rw [chkM_ok M] at hn; cases hn
  · intro ks bi ai si e1 e2 e3 e4 _ r hr
    cases e1; cases e2; cases e3; cases e4
    exact h r hr
theorem refs_len (L : List Row) : (refs L).length = L.length := List.length_map _
theorem ok_law (T : Txt K mg) : FnOk P w K mg base CX0 5 T.a_law T.d_law ["_law_script"] (spLaw K) := by
  refine T.F_law.ok sc_law (fun vs H Q E h => ?_) (fun cdv A outer s₀ H vs Q E hr h => ?_)
  · obtain ⟨a, ns, rfl, _⟩ := h
    rfl
  · obtain ⟨x, ns, rfl, hS, hlen, hb, q⟩ := h
    refine ⟨_, (pss_cons (ps_set (i := 1) sc_law.nd rfl (Or.inl rfl) (pe_call (ok_law_source T) (hr.mono (by decide)) rfl T.g_law_source T.F_law_source.kp T.b_law_source .nil pass0 (pa_cons (pv 0) pa_nil)))
      (pss_cons (ps_set (i := 2) sc_law.nd rfl (Or.inl rfl) (pe_call (ok_law_draw T) (hr.mono (by decide)) rfl T.g_law_draw T.F_law_draw.kp T.b_law_draw .nil pass0 (pa_cons (pv 1) (pa_cons pe_int pa_nil))))
      (pss_cons (ps_set (i := 3) sc_law.nd rfl (Or.inr rfl) (pe_op op_add pe_int (pe_call (ok_law_draw T) (hr.mono (by decide)) rfl T.g_law_draw T.F_law_draw.kp T.b_law_draw .nil pass0 (pa_cons (pv 1) (pa_cons pe_int pa_nil)))))
      (pss_cons (ps_set (i := 4) sc_law.nd rfl (Or.inr rfl) (pe_op op_add pe_int (pe_call (ok_law_draw T) (hr.mono (by decide)) rfl T.g_law_draw T.F_law_draw.kp T.b_law_draw .nil pass0 (pa_cons (pv 1) (pa_cons pe_int pa_nil)))))
      (pss_cons (ps_set (i := 5) sc_law.nd rfl (Or.inr rfl) (pe_op op_add pe_int (pe_call (ok_law_great T) (hr.mono (by decide)) rfl T.g_law_great T.F_law_great.kp T.b_law_great .nil pass0 (pa_cons (pv 1) (pa_cons (pe_op op_pow pe_int pe_int) pa_nil)))))
      (pss_cons (ps_if (pt_cmpR op_eq (pv 2) pe_int (nomark _))
      (pss_one (ps_set (i := 4) sc_law.nd rfl (Or.inr rfl) (pv 3)))
      pss_nil)
      (pss_cons (ps_if (pt_cmpR op_ge (pv 2) pe_int (nomark _))
      (pss_cons (ps_set (i := 3) sc_law.nd rfl (Or.inr rfl) (pe_op op_add pe_int (pe_call (ok_law_draw T) (hr.mono (by decide)) rfl T.g_law_draw T.F_law_draw.kp T.b_law_draw .nil pass0 (pa_cons (pv 1) (pa_cons pe_int pa_nil)))))
      (pss_cons (ps_set (i := 4) sc_law.nd rfl (Or.inr rfl) (pe_op op_add pe_int (pe_call (ok_law_draw T) (hr.mono (by decide)) rfl T.g_law_draw T.F_law_draw.kp T.b_law_draw .nil pass0 (pa_cons (pv 1) (pa_cons pe_int pa_nil)))))
      (pss_cons (ps_set (i := 5) sc_law.nd rfl (Or.inr rfl) (pe_op op_add pe_int (pe_call (ok_law_draw T) (hr.mono (by decide)) rfl T.g_law_draw T.F_law_draw.kp T.b_law_draw .nil pass0 (pa_cons (pv 1) (pa_cons pe_int pa_nil)))))
      (pss_one (ps_setLc (i := 6) (own := [("_law_mark", 12)]) (g := gName 12) (tt := tYes) (by rfl) sc_law.nd rfl rfl (sw_true rfl rfl rfl (by decide +kernel)) (pi_range1 rfl T.z_range (pa_cons (pv 5) pa_nil)) (blkOk_by (own := [("_law_mark", 12)]) (N := ["_law_script", "_law_source_here", "_law_way", "_law_before", "_law_after", "_law_size", "_law_parts_here", "_law_rows", "_law_due", "_law_found", "_law_least", "_law_row", "_law_mark"]) (sc := defScope s_law) (by decide +kernel)) (fun _ _ _ _ _ => (pg_name (i := 12) sc_law.nd rfl (Or.inl rfl))) (fun _ _ _ _ _ => pts_nil) (fun _ _ _ _ _ => (pe_tup (pa_cons (pv 12) (pa_cons (pe_op op_add (pv 12) pe_int) pa_nil)))))))))
      (pss_one (ps_set (i := 6) sc_law.nd rfl (Or.inl rfl) (pe_call (ok_law_parts T) (hr.mono (by decide)) rfl T.g_law_parts T.F_law_parts.kp T.b_law_parts .nil pass0 (pa_cons (pv 3) (pa_cons (pv 4) (pa_cons (pv 5) pa_nil)))))))
      (pss_cons (ps_setLc (i := 7) (own := [("_law_row", 11)]) (g := gName 11) (by rfl) sc_law.nd rfl rfl (sw_true rfl rfl rfl (by decide +kernel)) (pi_list (pv 6)) (blkOk_by (own := [("_law_row", 11)]) (N := ["_law_script", "_law_source_here", "_law_way", "_law_before", "_law_after", "_law_size", "_law_parts_here", "_law_rows", "_law_due", "_law_found", "_law_least", "_law_row", "_law_mark"]) (sc := defScope s_law) (by decide +kernel)) (fun _ _ _ _ _ => (pg_name (i := 11) sc_law.nd rfl (Or.inl rfl))) (fun _ _ _ _ _ => (pts_one (pt_cmpR op_ne (pe_op op_fdivW (pe_op Lc.op_mulX (pe_ix (ixT K) (pv 11) pe_int (fun _ _ => rfl)) (pv 3)) (pv 5)) (pe_op op_fdivW (pe_op Lc.op_mulX (pe_ix (ixT K) (pv 11) pe_int (fun _ _ => rfl)) (pv 4)) (pv 5)) (nomark _)))) (fun _ _ _ _ _ => (pv 11)))
      (pss_cons (ps_set (i := 8) sc_law.nd rfl (Or.inl rfl) (pe_callB (cr_sum rfl) (by rfl) T.z_sum (by decide +kernel) (pa_cons (pe_lc (own := [("_law_row", 11)]) (g := gName 11) (tt := tYes) (by rfl) sc_law.nd (pi_list (pv 7)) (blkOk_by (own := [("_law_row", 11)]) (N := ["_law_script", "_law_source_here", "_law_way", "_law_before", "_law_after", "_law_size", "_law_parts_here", "_law_rows", "_law_due", "_law_found", "_law_least", "_law_row", "_law_mark"]) (sc := defScope s_law) (by decide +kernel)) (fun _ _ _ _ _ => (pg_name (i := 11) sc_law.nd rfl (Or.inl rfl))) (fun _ _ _ _ _ => pts_nil) (fun _ _ _ _ _ => (pe_op op_sub (pe_ix (ixT K) (pv 11) pe_int (fun _ _ => rfl)) (pe_ix (ixT K) (pv 11) pe_int (fun _ _ => rfl))))) pa_nil)))
      (pss_cons (ps_set (i := 9) sc_law.nd rfl (Or.inl rfl) (pe_call (ok_count_moved T) (hr.mono (by decide)) rfl T.g_count_moved T.F_count_moved.kp T.b_count_moved .nil passL (pa_cons pe_str (pa_cons (pv 3) (pa_cons (pv 4) (pa_cons (pv 5) pa_nil))))))
      (pss_cons (ps_set (i := 10) sc_law.nd rfl (Or.inl rfl) (pe_call (ok_first_moved T) (hr.mono (by decide)) rfl T.g_first_moved T.F_first_moved.kp T.b_first_moved .nil passL (pa_cons pe_str (pa_cons (pv 3) (pa_cons (pv 4) (pa_cons (pv 5) pa_nil))))))
      (pss_cons (ps_if (PW.pt (pw_or (pt_not (pt_val (pe_call (ok_law_integer T) (hr.mono (by decide)) rfl T.g_law_integer T.F_law_integer.kp T.b_law_integer .nil pass0 (pa_cons (pv 9) pa_nil)))) (pw_or (pt_cmpR op_ne (pv 9) (pv 8) (nomark _)) (pw_or1 (pt_cmpR op_ne (pe_call (ok_count_moved T) (hr.mono (by decide)) rfl T.g_count_moved T.F_count_moved.kp T.b_count_moved .nil passL (pa_cons pe_str (pa_cons (pv 4) (pa_cons (pv 3) (pa_cons (pv 5) pa_nil))))) (pv 8) (nomark _))))))
      (pss_one (ps_ret pe_bl))
      pss_nil)
      (pss_cons (ps_if (pt_not (pt_truth (pv 7) (by intro _; rfl)))
      (pss_one (ps_ret (pe_cmpR op_isN (pv 10) pe_non (nomark _))))
      pss_nil)
      (pss_one (ps_ret (pe_and (pe_call (ok_law_integer T) (hr.mono (by decide)) rfl T.g_law_integer T.F_law_integer.kp T.b_law_integer .nil pass0 (pa_cons (pv 10) pa_nil)) (pe_one (pe_cmpR op_eq (pv 10) (pe_ix (ixT K) (pe_ix (ixL K) (pv 7) pe_int (fun _ _ => rfl)) pe_int (fun _ _ => rfl)) (nomark _))))))))))))))))))), ?_⟩
    refine ⟨.ref x, rfl, x, ns, rfl, hS, hlen, hb, fun p H1 hp S1 k1 => ?_⟩
    refine ⟨.ref p, rfl, p, 0, 4, rfl, S1, by decide, by decide, by decide, fun wy H2 w0 w1 S2 _ => ?_⟩
    refine ⟨.ref p, rfl, p, 1, 12, rfl, S2, by decide, by decide, by decide, fun b0 H3 b00 b01 S3 _ => ⟨_, _, rfl, rfl, ?_⟩⟩
    refine ⟨.ref p, rfl, p, 2, 12, rfl, S3, by decide, by decide, by decide, fun a0 H4 a00 a01 S4 _ => ⟨_, _, rfl, rfl, ?_⟩⟩
    refine ⟨.ref p, rfl, 10, 40, rfl, rfl, ⟨by decide, by decide, by decide⟩, p, 3, _, rfl, S4, by decide, by decide, by decide, fun g H5 g0 g1 S5 _ => ⟨_, _, rfl, rfl, ?_⟩⟩
    have g1' : g < 10 ^ 40 := g1
    obtain ⟨s, es⟩ : ∃ s : Nat, (s : Int) = 1 + g := ⟨(1 + g).toNat, Int.toNat_of_nonneg (by omega)⟩
    obtain ⟨b, eb⟩ : ∃ s : Nat, (s : Int) = 1 + b0 := ⟨(1 + b0).toNat, Int.toNat_of_nonneg (by omega)⟩
    obtain ⟨a', ea⟩ : ∃ s : Nat, (s : Int) = 1 + a0 := ⟨(1 + a0).toNat, Int.toNat_of_nonneg (by omega)⟩
    simp only [← es, ← eb, ← ea]
    try dsimp only [gName]
    refine if_cut (fun σ' H' => ∃ a : Nat, σ' = [some (.ref x), some (.ref p), some (.int wy), some (.int b), some (.int a), some (.int s), none, none, none, none, none, none, none] ∧ 1 ≤ a ∧ a ≤ 12 ∧ Src H' p 10) ?_ (fun K1 => ?_)
    rotate_left
    · refine ⟨_, rfl, rfl, _, rfl, ite2 (fun _ => ?_) (fun _ => ?_)⟩
      · exact ⟨_, rfl, K1 _ _ ⟨b, rfl, by omega, by omega, S5.le (by decide)⟩⟩
      · exact K1 _ _ ⟨a', rfl, by omega, by omega, S5.le (by decide)⟩
    rintro σ' H6 ⟨a, rfl, a1, a2, S6⟩
    refine if_cut (fun σ' H' => ∃ (b a s : Nat) (rp : Addr) (L : List Row), σ' = [some (.ref x), some (.ref p), some (.int wy), some (.int b), some (.int a), some (.int s), some (.ref rp), none, none, none, none, none, none] ∧
      1 ≤ b ∧ b ≤ 1000 ∧ 1 ≤ a ∧ a ≤ 1000 ∧ 1 ≤ s ∧ s ≤ 10 ^ 40 ∧ PartsAt H' rp L ∧ L.length ≤ 200 ∧ ∃ E, L.map (·.2) = MRange.parts E ∧ MRange.Chain b a s E 0 s) ?_ (fun K1 => ?_)
    rotate_left
    · refine ⟨_, rfl, _, _, rfl, rfl, _, rfl, ite2 (fun _ => ?_) (fun _ => ?_)⟩
      · refine ⟨.ref p, rfl, p, 10, 1000, rfl, S6, by decide, by decide, by decide, fun b0 H7 b00 b01 S7 _ => ⟨_, _, rfl, rfl, ?_⟩⟩
        refine ⟨.ref p, rfl, p, 11, 1000, rfl, S7, by decide, by decide, by decide, fun a0 H8 a00 a01 S8 _ => ⟨_, _, rfl, rfl, ?_⟩⟩
        refine ⟨.ref p, rfl, p, 12, 120, rfl, S8, by decide, by decide, by decide, fun s0 H9 s00 s01 S9 _ => ⟨_, _, rfl, rfl, ?_⟩⟩
        obtain ⟨s, es⟩ : ∃ s : Nat, (s : Int) = 1 + s0 := ⟨(1 + s0).toNat, Int.toNat_of_nonneg (by omega)⟩
        obtain ⟨b, eb⟩ : ∃ s : Nat, (s : Int) = 1 + b0 := ⟨(1 + b0).toNat, Int.toNat_of_nonneg (by omega)⟩
        obtain ⟨a, ea⟩ : ∃ s : Nat, (s : Int) = 1 + a0 := ⟨(1 + a0).toNat, Int.toNat_of_nonneg (by omega)⟩
        simp only [← es, ← eb, ← ea]
        refine ⟨_, rfl, (s : Int), rfl, by omega, by omega, fun D hD => ?_⟩
        refine lc_range (lo := 0) (fun i H' => ∃ L, PartsAt H' D L ∧ L.map (·.2) = (List.range i).map fun m => (m, m + 1)) ⟨[], ⟨upd_same, fun q hq => nomatch hq⟩, rfl⟩ ?_ ?_
        · rintro i H' hi ⟨L, hL, eL⟩
          refine ⟨rfl, _, rfl, _, rfl, _, _, rfl, rfl, (by show 2 ≤ sizeLine; decide), fun t ht => ?_⟩
          have kt := same_upd (o := .tup [.int ((0 : Int) + (i : Int)), .int ((0 : Int) + (i : Int) + 1)]) ht
          have tp : D ≠ t := ne_of_none hL.1 ht
          have Ll : L.length = i := by
            have := congrArg List.length eL
            rw [List.length_map, List.length_map, List.length_range] at this
            exact this
          refine ⟨refs L, kt _ _ hL.1, ?_, L ++ [(t, i, i + 1)], ⟨?_, fun y hy => ?_⟩, ?_⟩
          · rw [refs_len, Ll]
            exact Nat.lt_of_le_of_lt (show i ≤ 200 by omega) (by decide)
          · rw [upd_same]; unfold refs; rw [List.map_append]; rfl
          · rcases List.mem_append.mp hy with hy | hy
            · have h9 := hL.2 y hy
              rw [upd_ne (ne_of h9 hL.1 (fun z => nomatch z))]
              exact kt _ _ h9
            · rw [List.mem_singleton.mp hy, upd_ne tp.symm]
              have e1 : (0 : Int) + (i : Int) = ((i : Nat) : Int) := by omega
              have e2 : (0 : Int) + (i : Int) + 1 = ((i + 1 : Nat) : Int) := by omega
              show (upd H' t (.tup [.int ((0 : Int) + (i : Int)), .int ((0 : Int) + (i : Int) + 1)])) t = some (.tup [.int ((i : Nat) : Int), .int ((i + 1 : Nat) : Int)])
              rw [e2, e1]; exact upd_same
          · rw [List.map_append, eL, List.range_succ, List.map_append]; rfl
        · rintro H' ⟨L, hL, eL⟩
          rw [Int.toNat_natCast] at eL
          refine K1 _ _ ⟨b, a, s, D, L, rfl, by omega, by omega, by omega, by omega, by omega, Nat.le_trans (show s ≤ 1000 by omega) (by decide), hL, ?_, (List.range (s + 1)).map (0 + ·), ?_, by simpa using MRange.chain_range b a s s 0⟩
          · have := congrArg List.length eL
            rw [List.length_map, List.length_map, List.length_range] at this
            omega
          · rw [eL]
            have ez : (List.range (s + 1)).map (0 + ·) = List.range (s + 1) := by
              rw [show ((0 : Nat) + ·) = (fun z : Nat => z) from funext fun z => Nat.zero_add z]; exact List.map_id' _
            rw [ez]
            apply List.ext_getElem?
            intro i
            by_cases hi : i < s
            · rw [parts_get (List.range (s + 1)) i i (i + 1) (by rw [List.getElem?_range (by omega)]) (by rw [List.getElem?_range (by omega)]), List.getElem?_map, List.getElem?_range hi]
              rfl
            · rw [List.getElem?_eq_none (by simp; omega), List.getElem?_eq_none (by rw [parts_len]; simp; omega)]
      · refine ⟨_, rfl, _, rfl, _, rfl, b, a, s, rfl, by omega, by omega, a1, a2, by omega, by omega, fun rp H' L hrp k hL hl hE => ?_⟩
        exact K1 _ _ ⟨b, a, s, rp, L, rfl, by omega, by omega, a1, by omega, by omega, by omega, hL, by omega, hE⟩
    rintro σ' H7 ⟨b, a, s, rp, L, rfl, b1, b2, a1, a2, s1, s2, hL, hLl, E0, hE, ch⟩
    have fs : Few (s : Int) := few_le (b := 10 ^ 40) (by omega) (by omega) (by decide)
    have fb : Few (b : Int) := few_le (b := 1000) (by omega) (by omega) (by decide)
    have fa : Few (a : Int) := few_le (b := 1000) (by omega) (by omega) (by decide)
    have ds : CDivW = CDivW := rfl
    have dsz : (s : Int).natAbs < 2 ^ 240 := Nat.lt_of_le_of_lt (by omega : (s : Int).natAbs ≤ 10 ^ 40) (by decide)
    have pairs : ∀ q ∈ L, q.2.1 < q.2.2 ∧ q.2.2 ≤ s := fun q hq => chain_pairs ch q.2 (by rw [← hE]; exact List.mem_map.mpr ⟨q, hq, rfl⟩)
    -- the rows
    refine ⟨_, rfl, rp, rfl, ⟨_, SqL.of hL.1⟩, fun D hD => ?_⟩
    have kD := same_upd (o := .lst []) hD
    refine lc_list (K := K) (a := rp) (xs := refs L) (fun i H' => Same H7 H' ∧ H' D = some (.lst (refs ((L.take i).filter (keepB b a s))))) ⟨kD, upd_same⟩ (fun i H' _ h => SqL.of (h.1 _ _ hL.1)) ?_ ?_
    · rintro i y H' hy ⟨k, e⟩
      obtain ⟨q', hq', rfl⟩ : ∃ q', L[i]? = some q' ∧ y = .ref q'.1 := by
        unfold refs at hy
        rw [List.getElem?_map] at hy
        cases e9 : L[i]? with
        | none => rw [e9] at hy; cases hy
        | some z => rw [e9] at hy; exact ⟨z, rfl, (Option.some.inj hy).symm⟩
      have hm : q' ∈ L := List.mem_of_getElem? hq'
      have ht := k _ _ (hL.2 q' hm)
      have pq := pairs q' hm
      have fx : Few ((q'.2.1 : Nat) : Int) := few_le (b := 10 ^ 40) (by omega) (by omega) (by decide)
      refine ⟨rfl, _, rfl, q'.1, _, 0, _, rfl, rfl, SqT.of ht, atI_nat (j := 0) rfl, _, rfl, _, _, rfl, rfl, mulX fx fb, _, rfl, _, _, rfl, rfl, divX (by omega) dsz, _, rfl, q'.1, _, 0, _, rfl, rfl, SqT.of ht, atI_nat (j := 0) rfl, _, rfl, _, _, rfl, rfl, mulX fx fa, _, rfl, _, _, rfl, rfl, divX (by omega) dsz, rfl, _, rfl, ?_⟩
      show (if (!decide (V.int (((q'.2.1 : Nat) : Int) * (b : Int) / (s : Int)) = V.int (((q'.2.1 : Nat) : Int) * (a : Int) / (s : Int)))) = true then _ else _)
      rw [cond_nat]
      have et : (L.take (i + 1)).filter (keepB b a s) = (L.take i).filter (keepB b a s) ++ (if MRange.D b a s q'.2.1 = true then [q'] else []) := by
        rw [List.take_add_one, hq', List.filter_append]
        congr 1
        show List.filter (keepB b a s) [q'] = _
        by_cases d : MRange.D b a s q'.2.1 = true
        · rw [if_pos d, List.filter_cons_of_pos (by exact d)]; rfl
        · rw [if_neg d, List.filter_cons_of_neg (by exact d)]; rfl
      refine ite2 (fun d => ?_) (fun d => ?_)
      · refine ⟨_, rfl, _, e, ?_, fun c o hc => ?_, ?_⟩
        · rw [refs_len]
          have h1 := List.length_filter_le (keepB b a s) (L.take i)
          have h2 : (L.take i).length ≤ L.length := by rw [List.length_take]; omega
          exact Nat.lt_of_le_of_lt (show _ ≤ 200 by omega) (by decide)
        · rw [upd_ne (ne_of_none hc hD)]; exact k c o hc
        · rw [upd_same, et, if_pos d]; unfold refs; rw [List.map_append]; rfl
      · refine ⟨k, ?_⟩
        rw [et, if_neg d, List.append_nil]; exact e
    rintro H8 ⟨k8, e8⟩
    rw [refs_len, List.take_length] at e8
    -- due
    have R0 : ∀ q ∈ L.filter (keepB b a s), q ∈ L := fun q hq => (List.mem_filter.mp hq).1
    refine ⟨_, rfl, D, rfl, ⟨_, SqL.of e8⟩, fun G hG => ?_⟩
    have kG := same_upd (o := .lst []) hG
    refine lc_list (K := K) (a := D) (xs := refs (L.filter (keepB b a s))) (fun i H' => Same H8 H' ∧ H' G = some (.lst ((diffsL ((L.filter (keepB b a s)).take i)).map V.int))) ⟨kG, upd_same⟩ (fun i H' _ h => SqL.of (h.1 _ _ e8)) ?_ ?_
    · rintro i y H' hy ⟨k, e⟩
      obtain ⟨q', hq', rfl⟩ : ∃ q', (L.filter (keepB b a s))[i]? = some q' ∧ y = .ref q'.1 := by
        unfold refs at hy
        rw [List.getElem?_map] at hy
        cases e9 : (L.filter (keepB b a s))[i]? with
        | none => rw [e9] at hy; cases hy
        | some z => rw [e9] at hy; exact ⟨z, rfl, (Option.some.inj hy).symm⟩
      have hm : q' ∈ L := R0 q' (List.mem_of_getElem? hq')
      have ht := k _ _ (k8 _ _ (hL.2 q' hm))
      refine ⟨rfl, _, rfl, q'.1, _, 1, _, rfl, rfl, SqT.of ht, atI_nat (j := 1) rfl, _, rfl, q'.1, _, 0, _, rfl, rfl, SqT.of ht, atI_nat (j := 0) rfl, _, _, rfl, rfl, _, e, ?_, fun c o hc => ?_, ?_⟩
      · rw [List.length_map]; unfold diffsL; rw [List.length_map]
        have h1 := List.length_filter_le (keepB b a s) L
        have h2 : ((L.filter (keepB b a s)).take i).length ≤ (L.filter (keepB b a s)).length := by rw [List.length_take]; omega
        exact Nat.lt_of_le_of_lt (show _ ≤ 200 by omega) (by decide)
      · rw [upd_ne (ne_of_none hc hG)]; exact k c o hc
      · rw [upd_same, List.take_add_one, hq']
        unfold diffsL
        rw [List.map_append, List.map_append]; rfl
    rintro H9 ⟨k9, e9⟩
    rw [refs_len, List.take_length] at e9
    refine ⟨G, _, rfl, SqL.of e9, ?_⟩
    have et : (diffsL (L.filter (keepB b a s))).sum = ((MRange.C b a s s : Nat) : Int) := by
      rw [sum_diffs _ (fun q hq => Nat.le_of_lt (pairs q (R0 q hq)).1), filter_map2, hE]
      have := MRange.chain_total ch
      have z : MRange.C b a s 0 = 0 := by unfold MRange.C; simp
      rw [z, Nat.zero_add] at this
      rw [this]
    rw [et]
    refine ⟨_, rfl, _, rfl, _, rfl, ask_goodR b1 b2 a1 a2 s1 s2 ?_⟩
    rintro _ rfl
    refine ⟨_, rfl, _, rfl, _, rfl, ask_goodR b1 b2 a1 a2 s1 s2 fun fr hf => ?_⟩
    rw [countM_ranges b a s b1 a1 s1]
    refine ⟨_, rfl, _, _, rfl, .int _, _, rfl, iteF ?_⟩
    refine ⟨_, rfl, _, rfl, rfl, _, rfl, ?_⟩
    rw [decide_eq_true rfl]
    refine iteF ?_
    refine ⟨_, rfl, _, rfl, _, rfl, ?_⟩
    dsimp only [tNil]
    refine ask_goodR a1 a2 b1 b2 s1 s2 ?_
    rintro _ rfl
    refine ⟨_, rfl, rfl, _, rfl, ?_⟩
    rw [countM_ranges a b s a1 b1 s1, MRange.C_comm a b, decide_eq_true rfl]
    have h8 := k9 _ _ e8
    refine iteF ⟨_, rfl, _, .inl ⟨_, SqL.of h8, rfl⟩, ?_⟩
    have cf := MRange.chain_first ch
    rw [← hE, ← filter_map2] at cf
    rcases FirstM_ranges b1 a1 s1 hf with ⟨rfl, no⟩ | ⟨z, rfl, z1, z2, z3⟩
    · rcases cf with ⟨e0, _⟩ | ⟨u, v, t, _, u1, u2, u3, _⟩
      · have e1 : L.filter (keepB b a s) = [] := List.map_eq_nil_iff.mp e0
        rw [e1]
        refine iteT ⟨_, rfl, rfl, ?_⟩
        exact ends_true q (decide_eq_true rfl)
      · rw [no u u2] at u3; cases u3
    · rcases cf with ⟨_, h0⟩ | ⟨u, v, t, e0, u1, u2, u3, u4⟩
      · rw [h0 z (Nat.zero_le _) z2] at z1; cases z1
      · have eu : u = z := by
          rcases Nat.lt_trichotomy u z with y | y | y
          · rw [z3 u y] at u3; cases u3
          · exact y
          · rw [u4 z (Nat.zero_le _) y] at z1; cases z1
        subst eu
        cases e1 : L.filter (keepB b a s) with
        | nil => rw [e1] at e0; cases e0
        | cons q' t' =>
          rw [e1, List.map_cons] at e0
          have eq' : q'.2 = (u, v) := (List.cons.inj e0).1
          have hm : q' ∈ L := R0 q' (by rw [e1]; exact List.mem_cons_self)
          have ht := k9 _ _ (k8 _ _ (hL.2 q' hm))
          rw [eq'] at ht
          rw [e1] at h8
          refine iteF ⟨_, rfl, _, _, rfl, .int _, _, rfl, iteT ⟨_, rfl, _, rfl, D, _, 0, .ref q'.1, rfl, rfl, SqL.of h8, atI_nat (j := 0) rfl, q'.1, _, 0, .int (u : Nat), rfl, rfl, SqT.of ht, atI_nat (j := 0) rfl, rfl, ?_⟩⟩
          exact ends_true q (decide_eq_true rfl)
end

theorem all_mk {P : Program} {w : World} {K : PySem.W.Frag} {h : Heap} {mg : Str → Option Value} {fa f_is_whole f_is_word f_count_moved f_first_moved f_check_kind f_check_count f_check_size f_check_moved f_kept_by_rest f_lane_start f_kept_by_ranges f_first_moved_by_ranges f_law_source f_law_draw f_law_great f_law_integer f_law_parts C_LaneError C_BadKind C_BadCount C_BadSize c_KINDS : Addr}
    (X : K.In h) (G : h.Ns mainGlobals mg) (hfa : mg "law" = some (.ref fa))
    {oc_is_whole kV_is_whole dc_is_whole pm_is_whole cd_is_whole ct_is_whole : Value} {od_is_whole an_is_whole : Option Addr} {sl_is_whole : Array (Option Value)}
    (a_is_whole : PySem.W.nsIn K mainGlobals "is_whole" = some (some (.ref f_is_whole)))
    (l_is_whole : K.lookup f_is_whole = some ⟨oc_is_whole, od_is_whole, .func (PySem.W.fnOf "is_whole" "is_whole" (defArgs s_is_whole) (defBody s_is_whole) (defScope s_is_whole) .none kV_is_whole dc_is_whole pm_is_whole an_is_whole cd_is_whole ct_is_whole), sl_is_whole⟩)
    (c_is_whole : PySem.W.codeIn K cd_is_whole "is_whole" = true) (k_is_whole : PySem.W.keepIn K (.ref f_is_whole) = true)
    {oc_is_word kV_is_word dc_is_word pm_is_word cd_is_word ct_is_word : Value} {od_is_word an_is_word : Option Addr} {sl_is_word : Array (Option Value)}
    (a_is_word : PySem.W.nsIn K mainGlobals "is_word" = some (some (.ref f_is_word)))
    (l_is_word : K.lookup f_is_word = some ⟨oc_is_word, od_is_word, .func (PySem.W.fnOf "is_word" "is_word" (defArgs s_is_word) (defBody s_is_word) (defScope s_is_word) .none kV_is_word dc_is_word pm_is_word an_is_word cd_is_word ct_is_word), sl_is_word⟩)
    (c_is_word : PySem.W.codeIn K cd_is_word "is_word" = true) (k_is_word : PySem.W.keepIn K (.ref f_is_word) = true)
    {oc_count_moved kV_count_moved dc_count_moved pm_count_moved cd_count_moved ct_count_moved : Value} {od_count_moved an_count_moved : Option Addr} {sl_count_moved : Array (Option Value)}
    (a_count_moved : PySem.W.nsIn K mainGlobals "count_moved" = some (some (.ref f_count_moved)))
    (l_count_moved : K.lookup f_count_moved = some ⟨oc_count_moved, od_count_moved, .func (PySem.W.fnOf "count_moved" "count_moved" (defArgs s_count_moved) (defBody s_count_moved) (defScope s_count_moved) .none kV_count_moved dc_count_moved pm_count_moved an_count_moved cd_count_moved ct_count_moved), sl_count_moved⟩)
    (c_count_moved : PySem.W.codeIn K cd_count_moved "count_moved" = true) (k_count_moved : PySem.W.keepIn K (.ref f_count_moved) = true)
    {oc_first_moved kV_first_moved dc_first_moved pm_first_moved cd_first_moved ct_first_moved : Value} {od_first_moved an_first_moved : Option Addr} {sl_first_moved : Array (Option Value)}
    (a_first_moved : PySem.W.nsIn K mainGlobals "first_moved" = some (some (.ref f_first_moved)))
    (l_first_moved : K.lookup f_first_moved = some ⟨oc_first_moved, od_first_moved, .func (PySem.W.fnOf "first_moved" "first_moved" (defArgs s_first_moved) (defBody s_first_moved) (defScope s_first_moved) .none kV_first_moved dc_first_moved pm_first_moved an_first_moved cd_first_moved ct_first_moved), sl_first_moved⟩)
    (c_first_moved : PySem.W.codeIn K cd_first_moved "first_moved" = true) (k_first_moved : PySem.W.keepIn K (.ref f_first_moved) = true)
    {oc_check_kind kV_check_kind dc_check_kind pm_check_kind cd_check_kind ct_check_kind : Value} {od_check_kind an_check_kind : Option Addr} {sl_check_kind : Array (Option Value)}
    (a_check_kind : PySem.W.nsIn K mainGlobals "check_kind" = some (some (.ref f_check_kind)))
    (l_check_kind : K.lookup f_check_kind = some ⟨oc_check_kind, od_check_kind, .func (PySem.W.fnOf "check_kind" "check_kind" (defArgs s_check_kind) (defBody s_check_kind) (defScope s_check_kind) .none kV_check_kind dc_check_kind pm_check_kind an_check_kind cd_check_kind ct_check_kind), sl_check_kind⟩)
    (c_check_kind : PySem.W.codeIn K cd_check_kind "check_kind" = true) (k_check_kind : PySem.W.keepIn K (.ref f_check_kind) = true)
    {oc_check_count kV_check_count dc_check_count pm_check_count cd_check_count ct_check_count : Value} {od_check_count an_check_count : Option Addr} {sl_check_count : Array (Option Value)}
    (a_check_count : PySem.W.nsIn K mainGlobals "check_count" = some (some (.ref f_check_count)))
    (l_check_count : K.lookup f_check_count = some ⟨oc_check_count, od_check_count, .func (PySem.W.fnOf "check_count" "check_count" (defArgs s_check_count) (defBody s_check_count) (defScope s_check_count) .none kV_check_count dc_check_count pm_check_count an_check_count cd_check_count ct_check_count), sl_check_count⟩)
    (c_check_count : PySem.W.codeIn K cd_check_count "check_count" = true) (k_check_count : PySem.W.keepIn K (.ref f_check_count) = true)
    {oc_check_size kV_check_size dc_check_size pm_check_size cd_check_size ct_check_size : Value} {od_check_size an_check_size : Option Addr} {sl_check_size : Array (Option Value)}
    (a_check_size : PySem.W.nsIn K mainGlobals "check_size" = some (some (.ref f_check_size)))
    (l_check_size : K.lookup f_check_size = some ⟨oc_check_size, od_check_size, .func (PySem.W.fnOf "check_size" "check_size" (defArgs s_check_size) (defBody s_check_size) (defScope s_check_size) .none kV_check_size dc_check_size pm_check_size an_check_size cd_check_size ct_check_size), sl_check_size⟩)
    (c_check_size : PySem.W.codeIn K cd_check_size "check_size" = true) (k_check_size : PySem.W.keepIn K (.ref f_check_size) = true)
    {oc_check_moved kV_check_moved dc_check_moved pm_check_moved cd_check_moved ct_check_moved : Value} {od_check_moved an_check_moved : Option Addr} {sl_check_moved : Array (Option Value)}
    (a_check_moved : PySem.W.nsIn K mainGlobals "check_moved" = some (some (.ref f_check_moved)))
    (l_check_moved : K.lookup f_check_moved = some ⟨oc_check_moved, od_check_moved, .func (PySem.W.fnOf "check_moved" "check_moved" (defArgs s_check_moved) (defBody s_check_moved) (defScope s_check_moved) .none kV_check_moved dc_check_moved pm_check_moved an_check_moved cd_check_moved ct_check_moved), sl_check_moved⟩)
    (c_check_moved : PySem.W.codeIn K cd_check_moved "check_moved" = true) (k_check_moved : PySem.W.keepIn K (.ref f_check_moved) = true)
    {oc_kept_by_rest kV_kept_by_rest dc_kept_by_rest pm_kept_by_rest cd_kept_by_rest ct_kept_by_rest : Value} {od_kept_by_rest an_kept_by_rest : Option Addr} {sl_kept_by_rest : Array (Option Value)}
    (a_kept_by_rest : PySem.W.nsIn K mainGlobals "kept_by_rest" = some (some (.ref f_kept_by_rest)))
    (l_kept_by_rest : K.lookup f_kept_by_rest = some ⟨oc_kept_by_rest, od_kept_by_rest, .func (PySem.W.fnOf "kept_by_rest" "kept_by_rest" (defArgs s_kept_by_rest) (defBody s_kept_by_rest) (defScope s_kept_by_rest) .none kV_kept_by_rest dc_kept_by_rest pm_kept_by_rest an_kept_by_rest cd_kept_by_rest ct_kept_by_rest), sl_kept_by_rest⟩)
    (c_kept_by_rest : PySem.W.codeIn K cd_kept_by_rest "kept_by_rest" = true) (k_kept_by_rest : PySem.W.keepIn K (.ref f_kept_by_rest) = true)
    {oc_lane_start kV_lane_start dc_lane_start pm_lane_start cd_lane_start ct_lane_start : Value} {od_lane_start an_lane_start : Option Addr} {sl_lane_start : Array (Option Value)}
    (a_lane_start : PySem.W.nsIn K mainGlobals "lane_start" = some (some (.ref f_lane_start)))
    (l_lane_start : K.lookup f_lane_start = some ⟨oc_lane_start, od_lane_start, .func (PySem.W.fnOf "lane_start" "lane_start" (defArgs s_lane_start) (defBody s_lane_start) (defScope s_lane_start) .none kV_lane_start dc_lane_start pm_lane_start an_lane_start cd_lane_start ct_lane_start), sl_lane_start⟩)
    (c_lane_start : PySem.W.codeIn K cd_lane_start "lane_start" = true) (k_lane_start : PySem.W.keepIn K (.ref f_lane_start) = true)
    {oc_kept_by_ranges kV_kept_by_ranges dc_kept_by_ranges pm_kept_by_ranges cd_kept_by_ranges ct_kept_by_ranges : Value} {od_kept_by_ranges an_kept_by_ranges : Option Addr} {sl_kept_by_ranges : Array (Option Value)}
    (a_kept_by_ranges : PySem.W.nsIn K mainGlobals "kept_by_ranges" = some (some (.ref f_kept_by_ranges)))
    (l_kept_by_ranges : K.lookup f_kept_by_ranges = some ⟨oc_kept_by_ranges, od_kept_by_ranges, .func (PySem.W.fnOf "kept_by_ranges" "kept_by_ranges" (defArgs s_kept_by_ranges) (defBody s_kept_by_ranges) (defScope s_kept_by_ranges) .none kV_kept_by_ranges dc_kept_by_ranges pm_kept_by_ranges an_kept_by_ranges cd_kept_by_ranges ct_kept_by_ranges), sl_kept_by_ranges⟩)
    (c_kept_by_ranges : PySem.W.codeIn K cd_kept_by_ranges "kept_by_ranges" = true) (k_kept_by_ranges : PySem.W.keepIn K (.ref f_kept_by_ranges) = true)
    {oc_first_moved_by_ranges kV_first_moved_by_ranges dc_first_moved_by_ranges pm_first_moved_by_ranges cd_first_moved_by_ranges ct_first_moved_by_ranges : Value} {od_first_moved_by_ranges an_first_moved_by_ranges : Option Addr} {sl_first_moved_by_ranges : Array (Option Value)}
    (a_first_moved_by_ranges : PySem.W.nsIn K mainGlobals "first_moved_by_ranges" = some (some (.ref f_first_moved_by_ranges)))
    (l_first_moved_by_ranges : K.lookup f_first_moved_by_ranges = some ⟨oc_first_moved_by_ranges, od_first_moved_by_ranges, .func (PySem.W.fnOf "first_moved_by_ranges" "first_moved_by_ranges" (defArgs s_first_moved_by_ranges) (defBody s_first_moved_by_ranges) (defScope s_first_moved_by_ranges) .none kV_first_moved_by_ranges dc_first_moved_by_ranges pm_first_moved_by_ranges an_first_moved_by_ranges cd_first_moved_by_ranges ct_first_moved_by_ranges), sl_first_moved_by_ranges⟩)
    (c_first_moved_by_ranges : PySem.W.codeIn K cd_first_moved_by_ranges "first_moved_by_ranges" = true) (k_first_moved_by_ranges : PySem.W.keepIn K (.ref f_first_moved_by_ranges) = true)
    {oc_law_source kV_law_source dc_law_source pm_law_source cd_law_source ct_law_source : Value} {od_law_source an_law_source : Option Addr} {sl_law_source : Array (Option Value)}
    (a_law_source : PySem.W.nsIn K mainGlobals "_law_source" = some (some (.ref f_law_source)))
    (l_law_source : K.lookup f_law_source = some ⟨oc_law_source, od_law_source, .func (PySem.W.fnOf "_law_source" "_law_source" (defArgs s_law_source) (defBody s_law_source) (defScope s_law_source) .none kV_law_source dc_law_source pm_law_source an_law_source cd_law_source ct_law_source), sl_law_source⟩)
    (c_law_source : PySem.W.codeIn K cd_law_source "_law_source" = true) (k_law_source : PySem.W.keepIn K (.ref f_law_source) = true)
    {oc_law_draw kV_law_draw dc_law_draw pm_law_draw cd_law_draw ct_law_draw : Value} {od_law_draw an_law_draw : Option Addr} {sl_law_draw : Array (Option Value)}
    (a_law_draw : PySem.W.nsIn K mainGlobals "_law_draw" = some (some (.ref f_law_draw)))
    (l_law_draw : K.lookup f_law_draw = some ⟨oc_law_draw, od_law_draw, .func (PySem.W.fnOf "_law_draw" "_law_draw" (defArgs s_law_draw) (defBody s_law_draw) (defScope s_law_draw) .none kV_law_draw dc_law_draw pm_law_draw an_law_draw cd_law_draw ct_law_draw), sl_law_draw⟩)
    (c_law_draw : PySem.W.codeIn K cd_law_draw "_law_draw" = true) (k_law_draw : PySem.W.keepIn K (.ref f_law_draw) = true)
    {oc_law_great kV_law_great dc_law_great pm_law_great cd_law_great ct_law_great : Value} {od_law_great an_law_great : Option Addr} {sl_law_great : Array (Option Value)}
    (a_law_great : PySem.W.nsIn K mainGlobals "_law_great" = some (some (.ref f_law_great)))
    (l_law_great : K.lookup f_law_great = some ⟨oc_law_great, od_law_great, .func (PySem.W.fnOf "_law_great" "_law_great" (defArgs s_law_great) (defBody s_law_great) (defScope s_law_great) .none kV_law_great dc_law_great pm_law_great an_law_great cd_law_great ct_law_great), sl_law_great⟩)
    (c_law_great : PySem.W.codeIn K cd_law_great "_law_great" = true) (k_law_great : PySem.W.keepIn K (.ref f_law_great) = true)
    {oc_law_integer kV_law_integer dc_law_integer pm_law_integer cd_law_integer ct_law_integer : Value} {od_law_integer an_law_integer : Option Addr} {sl_law_integer : Array (Option Value)}
    (a_law_integer : PySem.W.nsIn K mainGlobals "_law_integer" = some (some (.ref f_law_integer)))
    (l_law_integer : K.lookup f_law_integer = some ⟨oc_law_integer, od_law_integer, .func (PySem.W.fnOf "_law_integer" "_law_integer" (defArgs s_law_integer) (defBody s_law_integer) (defScope s_law_integer) .none kV_law_integer dc_law_integer pm_law_integer an_law_integer cd_law_integer ct_law_integer), sl_law_integer⟩)
    (c_law_integer : PySem.W.codeIn K cd_law_integer "_law_integer" = true) (k_law_integer : PySem.W.keepIn K (.ref f_law_integer) = true)
    {oc_law_parts kV_law_parts dc_law_parts pm_law_parts cd_law_parts ct_law_parts : Value} {od_law_parts an_law_parts : Option Addr} {sl_law_parts : Array (Option Value)}
    (a_law_parts : PySem.W.nsIn K mainGlobals "_law_parts" = some (some (.ref f_law_parts)))
    (l_law_parts : K.lookup f_law_parts = some ⟨oc_law_parts, od_law_parts, .func (PySem.W.fnOf "_law_parts" "_law_parts" (defArgs s_law_parts) (defBody s_law_parts) (defScope s_law_parts) .none kV_law_parts dc_law_parts pm_law_parts an_law_parts cd_law_parts ct_law_parts), sl_law_parts⟩)
    (c_law_parts : PySem.W.codeIn K cd_law_parts "_law_parts" = true) (k_law_parts : PySem.W.keepIn K (.ref f_law_parts) = true)
    {f_law : Addr}
    {oc_law kV_law dc_law pm_law cd_law ct_law : Value} {od_law an_law : Option Addr} {sl_law : Array (Option Value)}
    (a_law : PySem.W.nsIn K mainGlobals "law" = some (some (.ref f_law)))
    (l_law : K.lookup f_law = some ⟨oc_law, od_law, .func (PySem.W.fnOf "law" "law" (defArgs s_law) (defBody s_law) (defScope s_law) .none kV_law dc_law pm_law an_law cd_law ct_law), sl_law⟩)
    (c_law : PySem.W.codeIn K cd_law "law" = true) (k_law : PySem.W.keepIn K (.ref f_law) = true)
    (z_bool : PySem.W.nsIn K mainGlobals "bool" = some none)
    (z_int : PySem.W.nsIn K mainGlobals "int" = some none)
    (z_isinstance : PySem.W.nsIn K mainGlobals "isinstance" = some none)
    (z_len : PySem.W.nsIn K mainGlobals "len" = some none)
    (z_list : PySem.W.nsIn K mainGlobals "list" = some none)
    (z_max : PySem.W.nsIn K mainGlobals "max" = some none)
    (z_min : PySem.W.nsIn K mainGlobals "min" = some none)
    (z_range : PySem.W.nsIn K mainGlobals "range" = some none)
    (z_set : PySem.W.nsIn K mainGlobals "set" = some none)
    (z_sorted : PySem.W.nsIn K mainGlobals "sorted" = some none)
    (z_str : PySem.W.nsIn K mainGlobals "str" = some none)
    (z_sum : PySem.W.nsIn K mainGlobals "sum" = some none)
    (a_lcm : PySem.W.nsIn K mainGlobals "lcm" = some (some (.builtin "math.lcm")))
    {od_KINDS : Option Addr} {ns_KINDS : Nat} {sl_KINDS : Array (Option Value)} {t0_KINDS : Tok} {t1_KINDS : Tok}
    (a_KINDS : PySem.W.nsIn K mainGlobals "KINDS" = some (some (.ref c_KINDS)))
    (l_KINDS : K.lookup c_KINDS = some ⟨.type "tuple", od_KINDS, .seq #[.str "rest" t0_KINDS, .str "ranges" t1_KINDS] ns_KINDS, sl_KINDS⟩)
    {t_GREATEST_COUNT : Tok} (a_GREATEST_COUNT : PySem.W.nsIn K mainGlobals "GREATEST_COUNT" = some (some (.int 100000000000000000000 t_GREATEST_COUNT)))
    {t_GREATEST_MOVED_BY_RANGES : Tok} (a_GREATEST_MOVED_BY_RANGES : PySem.W.nsIn K mainGlobals "GREATEST_MOVED_BY_RANGES" = some (some (.int 1000 t_GREATEST_MOVED_BY_RANGES)))
    {t_GREATEST_SIZE : Tok} (a_GREATEST_SIZE : PySem.W.nsIn K mainGlobals "GREATEST_SIZE" = some (some (.int 10000000000000000000000000000000000000000 t_GREATEST_SIZE)))
    (ag_LaneError : PySem.W.nsIn K mainGlobals "LaneError" = some (some (.ref C_LaneError)))
    (ax_LaneError : PySem.W.excIn K C_LaneError [.type "ValueError", .type "Exception", .type "BaseException", .type "object"] "ValueError.__new__" = true)
    (ak_LaneError : PySem.W.keepIn K (.ref C_LaneError) = true) (ap_LaneError : PySem.W.subIn K (.ref C_LaneError) (.type "BaseException") = some true) (at_LaneError : PySem.W.typeIn K (.ref C_LaneError) = some (.type "type")) (ai_LaneError : PySem.W.isClsIn K C_LaneError = true)
    (ag_BadKind : PySem.W.nsIn K mainGlobals "BadKind" = some (some (.ref C_BadKind)))
    (ax_BadKind : PySem.W.excIn K C_BadKind [.type "ValueError", .type "Exception", .type "BaseException", .type "object"] "ValueError.__new__" = true)
    (ak_BadKind : PySem.W.keepIn K (.ref C_BadKind) = true) (ap_BadKind : PySem.W.subIn K (.ref C_BadKind) (.type "BaseException") = some true) (at_BadKind : PySem.W.typeIn K (.ref C_BadKind) = some (.type "type")) (ai_BadKind : PySem.W.isClsIn K C_BadKind = true)
    (ag_BadCount : PySem.W.nsIn K mainGlobals "BadCount" = some (some (.ref C_BadCount)))
    (ax_BadCount : PySem.W.excIn K C_BadCount [.type "ValueError", .type "Exception", .type "BaseException", .type "object"] "ValueError.__new__" = true)
    (ak_BadCount : PySem.W.keepIn K (.ref C_BadCount) = true) (ap_BadCount : PySem.W.subIn K (.ref C_BadCount) (.type "BaseException") = some true) (at_BadCount : PySem.W.typeIn K (.ref C_BadCount) = some (.type "type")) (ai_BadCount : PySem.W.isClsIn K C_BadCount = true)
    (ag_BadSize : PySem.W.nsIn K mainGlobals "BadSize" = some (some (.ref C_BadSize)))
    (ax_BadSize : PySem.W.excIn K C_BadSize [.type "ValueError", .type "Exception", .type "BaseException", .type "object"] "ValueError.__new__" = true)
    (ak_BadSize : PySem.W.keepIn K (.ref C_BadSize) = true) (ap_BadSize : PySem.W.subIn K (.ref C_BadSize) (.type "BaseException") = some true) (at_BadSize : PySem.W.typeIn K (.ref C_BadSize) = some (.type "type")) (ai_BadSize : PySem.W.isClsIn K C_BadSize = true) :
    ∃ fd : FuncData, (∀ (s : Shared) (v : Value), BindsTo s fd ⟨[v], []⟩ [("_law_script", v)]) ∧ ∀ base : Heap, K.In base → base.Ns mainGlobals mg → FnOk P w K mg base CX0 5 fa fd ["_law_script"] (spLaw K) := by
  have e := hfa.symm.trans (PySem.W.mg_of X G a_law)
  cases e
  have F_is_whole := fun_mk (st := s_is_whole) l_is_whole c_is_whole k_is_whole
  have b_is_whole := F_is_whole.binds (ps := ["thing", "low", "high"]) fun _ _ _ _ _ _ us hl => match us, hl with | [_, _, _], _ => rfl
  have F_is_word := fun_mk (st := s_is_word) l_is_word c_is_word k_is_word
  have b_is_word := F_is_word.binds (ps := ["thing", "words"]) fun _ _ _ _ _ _ us hl => match us, hl with | [_, _], _ => rfl
  have F_count_moved := fun_mk (st := s_count_moved) l_count_moved c_count_moved k_count_moved
  have b_count_moved := F_count_moved.binds (ps := ["kind", "before", "after", "size"]) fun _ _ _ _ _ _ us hl => match us, hl with | [_, _, _, _], _ => rfl
  have F_first_moved := fun_mk (st := s_first_moved) l_first_moved c_first_moved k_first_moved
  have b_first_moved := F_first_moved.binds (ps := ["kind", "before", "after", "size"]) fun _ _ _ _ _ _ us hl => match us, hl with | [_, _, _, _], _ => rfl
  have F_check_kind := fun_mk (st := s_check_kind) l_check_kind c_check_kind k_check_kind
  have b_check_kind := F_check_kind.binds (ps := ["kind"]) fun _ _ _ _ _ _ us hl => match us, hl with | [_], _ => rfl
  have F_check_count := fun_mk (st := s_check_count) l_check_count c_check_count k_check_count
  have b_check_count := F_check_count.binds (ps := ["count", "greatest"]) fun _ _ _ _ _ _ us hl => match us, hl with | [_, _], _ => rfl
  have F_check_size := fun_mk (st := s_check_size) l_check_size c_check_size k_check_size
  have b_check_size := F_check_size.binds (ps := ["size"]) fun _ _ _ _ _ _ us hl => match us, hl with | [_], _ => rfl
  have F_check_moved := fun_mk (st := s_check_moved) l_check_moved c_check_moved k_check_moved
  have b_check_moved := F_check_moved.binds (ps := ["kind", "before", "after", "size"]) fun _ _ _ _ _ _ us hl => match us, hl with | [_, _, _, _], _ => rfl
  have F_kept_by_rest := fun_mk (st := s_kept_by_rest) l_kept_by_rest c_kept_by_rest k_kept_by_rest
  have b_kept_by_rest := F_kept_by_rest.binds (ps := ["low", "high", "size"]) fun _ _ _ _ _ _ us hl => match us, hl with | [_, _, _], _ => rfl
  have F_lane_start := fun_mk (st := s_lane_start) l_lane_start c_lane_start k_lane_start
  have b_lane_start := F_lane_start.binds (ps := ["lane", "count", "size"]) fun _ _ _ _ _ _ us hl => match us, hl with | [_, _, _], _ => rfl
  have F_kept_by_ranges := fun_mk (st := s_kept_by_ranges) l_kept_by_ranges c_kept_by_ranges k_kept_by_ranges
  have b_kept_by_ranges := F_kept_by_ranges.binds (ps := ["low", "high", "size"]) fun _ _ _ _ _ _ us hl => match us, hl with | [_, _, _], _ => rfl
  have F_first_moved_by_ranges := fun_mk (st := s_first_moved_by_ranges) l_first_moved_by_ranges c_first_moved_by_ranges k_first_moved_by_ranges
  have b_first_moved_by_ranges := F_first_moved_by_ranges.binds (ps := ["low", "high", "size"]) fun _ _ _ _ _ _ us hl => match us, hl with | [_, _, _], _ => rfl
  have F_law_source := fun_mk (st := s_law_source) l_law_source c_law_source k_law_source
  have b_law_source := F_law_source.binds (ps := ["_law_script"]) fun _ _ _ _ _ _ us hl => match us, hl with | [_], _ => rfl
  have F_law_draw := fun_mk (st := s_law_draw) l_law_draw c_law_draw k_law_draw
  have b_law_draw := F_law_draw.binds (ps := ["_law_source_here", "_law_limit"]) fun _ _ _ _ _ _ us hl => match us, hl with | [_, _], _ => rfl
  have F_law_great := fun_mk (st := s_law_great) l_law_great c_law_great k_law_great
  have b_law_great := F_law_great.binds (ps := ["_law_source_here", "_law_limit"]) fun _ _ _ _ _ _ us hl => match us, hl with | [_, _], _ => rfl
  have F_law_integer := fun_mk (st := s_law_integer) l_law_integer c_law_integer k_law_integer
  have b_law_integer := F_law_integer.binds (ps := ["_law_found"]) fun _ _ _ _ _ _ us hl => match us, hl with | [_], _ => rfl
  have F_law_parts := fun_mk (st := s_law_parts) l_law_parts c_law_parts k_law_parts
  have b_law_parts := F_law_parts.binds (ps := ["_law_before", "_law_after", "_law_size"]) fun _ _ _ _ _ _ us hl => match us, hl with | [_, _, _], _ => rfl
  have F_law := fun_mk (st := s_law) l_law c_law k_law
  have b_law := F_law.binds (ps := ["_law_script"]) fun _ _ _ _ _ _ us hl => match us, hl with | [_], _ => rfl
  exact ⟨PySem.W.fnOf "law" "law" (defArgs s_law) (defBody s_law) (defScope s_law) .none kV_law dc_law pm_law an_law cd_law ct_law, fun s v => .of_eq rfl, fun base _ _ => ok_law (P := P) (w := w) (mg := mg) (base := base) ({ a_is_whole := _, d_is_whole := _, F_is_whole := F_is_whole, g_is_whole := PySem.W.mg_of X G a_is_whole, b_is_whole := b_is_whole, a_is_word := _, d_is_word := _, F_is_word := F_is_word, g_is_word := PySem.W.mg_of X G a_is_word, b_is_word := b_is_word, a_count_moved := _, d_count_moved := _, F_count_moved := F_count_moved, g_count_moved := PySem.W.mg_of X G a_count_moved, b_count_moved := b_count_moved, a_first_moved := _, d_first_moved := _, F_first_moved := F_first_moved, g_first_moved := PySem.W.mg_of X G a_first_moved, b_first_moved := b_first_moved, a_check_kind := _, d_check_kind := _, F_check_kind := F_check_kind, g_check_kind := PySem.W.mg_of X G a_check_kind, b_check_kind := b_check_kind, a_check_count := _, d_check_count := _, F_check_count := F_check_count, g_check_count := PySem.W.mg_of X G a_check_count, b_check_count := b_check_count, a_check_size := _, d_check_size := _, F_check_size := F_check_size, g_check_size := PySem.W.mg_of X G a_check_size, b_check_size := b_check_size, a_check_moved := _, d_check_moved := _, F_check_moved := F_check_moved, g_check_moved := PySem.W.mg_of X G a_check_moved, b_check_moved := b_check_moved, a_kept_by_rest := _, d_kept_by_rest := _, F_kept_by_rest := F_kept_by_rest, g_kept_by_rest := PySem.W.mg_of X G a_kept_by_rest, b_kept_by_rest := b_kept_by_rest, a_lane_start := _, d_lane_start := _, F_lane_start := F_lane_start, g_lane_start := PySem.W.mg_of X G a_lane_start, b_lane_start := b_lane_start, a_kept_by_ranges := _, d_kept_by_ranges := _, F_kept_by_ranges := F_kept_by_ranges, g_kept_by_ranges := PySem.W.mg_of X G a_kept_by_ranges, b_kept_by_ranges := b_kept_by_ranges, a_first_moved_by_ranges := _, d_first_moved_by_ranges := _, F_first_moved_by_ranges := F_first_moved_by_ranges, g_first_moved_by_ranges := PySem.W.mg_of X G a_first_moved_by_ranges, b_first_moved_by_ranges := b_first_moved_by_ranges, a_law_source := _, d_law_source := _, F_law_source := F_law_source, g_law_source := PySem.W.mg_of X G a_law_source, b_law_source := b_law_source, a_law_draw := _, d_law_draw := _, F_law_draw := F_law_draw, g_law_draw := PySem.W.mg_of X G a_law_draw, b_law_draw := b_law_draw, a_law_great := _, d_law_great := _, F_law_great := F_law_great, g_law_great := PySem.W.mg_of X G a_law_great, b_law_great := b_law_great, a_law_integer := _, d_law_integer := _, F_law_integer := F_law_integer, g_law_integer := PySem.W.mg_of X G a_law_integer, b_law_integer := b_law_integer, a_law_parts := _, d_law_parts := _, F_law_parts := F_law_parts, g_law_parts := PySem.W.mg_of X G a_law_parts, b_law_parts := b_law_parts, a_law := _, d_law := _, F_law := F_law, g_law := PySem.W.mg_of X G a_law, b_law := b_law, z_bool := PySem.W.mg_none_of X G z_bool, z_int := PySem.W.mg_none_of X G z_int, z_isinstance := PySem.W.mg_none_of X G z_isinstance, z_len := PySem.W.mg_none_of X G z_len, z_list := PySem.W.mg_none_of X G z_list, z_max := PySem.W.mg_none_of X G z_max, z_min := PySem.W.mg_none_of X G z_min, z_range := PySem.W.mg_none_of X G z_range, z_set := PySem.W.mg_none_of X G z_set, z_sorted := PySem.W.mg_none_of X G z_sorted, z_str := PySem.W.mg_none_of X G z_str, z_sum := PySem.W.mg_none_of X G z_sum, g_lcm := PySem.W.mg_of X G a_lcm, c_KINDS := _, g_KINDS := PySem.W.mg_of X G a_KINDS, r_KINDS := rfl, q_KINDS := fun _ => .inr ⟨_, _, _, l_KINDS, rfl, rfl, by show 2 ≤ sizeLine; decide, .cons ⟨_, rfl⟩ (.cons ⟨_, rfl⟩ (.nil))⟩, u_GREATEST_COUNT := _, g_GREATEST_COUNT := PySem.W.mg_of X G a_GREATEST_COUNT, r_GREATEST_COUNT := ⟨_, rfl⟩, u_GREATEST_MOVED_BY_RANGES := _, g_GREATEST_MOVED_BY_RANGES := PySem.W.mg_of X G a_GREATEST_MOVED_BY_RANGES, r_GREATEST_MOVED_BY_RANGES := ⟨_, rfl⟩, u_GREATEST_SIZE := _, g_GREATEST_SIZE := PySem.W.mg_of X G a_GREATEST_SIZE, r_GREATEST_SIZE := ⟨_, rfl⟩, C_LaneError := _, g_LaneError := PySem.W.mg_of X G ag_LaneError, x_LaneError := ax_LaneError, k_LaneError := ak_LaneError, p_LaneError := ap_LaneError, t_LaneError := at_LaneError, i_LaneError := ai_LaneError, C_BadKind := _, g_BadKind := PySem.W.mg_of X G ag_BadKind, x_BadKind := ax_BadKind, k_BadKind := ak_BadKind, p_BadKind := ap_BadKind, t_BadKind := at_BadKind, i_BadKind := ai_BadKind, C_BadCount := _, g_BadCount := PySem.W.mg_of X G ag_BadCount, x_BadCount := ax_BadCount, k_BadCount := ak_BadCount, p_BadCount := ap_BadCount, t_BadCount := at_BadCount, i_BadCount := ai_BadCount, C_BadSize := _, g_BadSize := PySem.W.mg_of X G ag_BadSize, x_BadSize := ax_BadSize, k_BadSize := ak_BadSize, p_BadSize := ap_BadSize, t_BadSize := at_BadSize, i_BadSize := ai_BadSize } : Txt K mg)⟩
end K03
open PySem PySem.W PyProof.Rows
set_option maxRecDepth 100000 in
set_option maxHeartbeats 0 in
theorem PySem.Challenge.cw_lanescounted_k03_marks_moved_by_ranges_holds : PySem.Challenge.rw_lanescounted_k03_marks_moved_by_ranges.Holds := by
  w_on; o_law; k_head; (case hw => w_witness2)
  k_fill
  refine L2.walk_ofB (l := PySem.Challenge.rw_lanescounted_k03_marks_moved_by_ranges) (n := 63) (k := 5) (x := "_law_script") (CX := fun w => L2.CX0) (sp := fun w => K03.spLaw _) rfl (by decide) rfl ⟨rfl, by decide, by decide⟩ (fun w h Y => PySem.W.kIn_of Y) ?F (fun _ _ a ns hl hb _ hS => ⟨a, ns, rfl, hS, hl, hb, fun _ => rfl⟩) (fun _ _ _ _ _ h => h)
  case F =>
    intro w mg fa h KX G hmg
    refine' K03.all_mk KX G hmg ?a_is_whole ?l_is_whole ?c_is_whole ?k_is_whole ?a_is_word ?l_is_word ?c_is_word ?k_is_word ?a_count_moved ?l_count_moved ?c_count_moved ?k_count_moved ?a_first_moved ?l_first_moved ?c_first_moved ?k_first_moved ?a_check_kind ?l_check_kind ?c_check_kind ?k_check_kind ?a_check_count ?l_check_count ?c_check_count ?k_check_count ?a_check_size ?l_check_size ?c_check_size ?k_check_size ?a_check_moved ?l_check_moved ?c_check_moved ?k_check_moved ?a_kept_by_rest ?l_kept_by_rest ?c_kept_by_rest ?k_kept_by_rest ?a_lane_start ?l_lane_start ?c_lane_start ?k_lane_start ?a_kept_by_ranges ?l_kept_by_ranges ?c_kept_by_ranges ?k_kept_by_ranges ?a_first_moved_by_ranges ?l_first_moved_by_ranges ?c_first_moved_by_ranges ?k_first_moved_by_ranges ?a_law_source ?l_law_source ?c_law_source ?k_law_source ?a_law_draw ?l_law_draw ?c_law_draw ?k_law_draw ?a_law_great ?l_law_great ?c_law_great ?k_law_great ?a_law_integer ?l_law_integer ?c_law_integer ?k_law_integer ?a_law_parts ?l_law_parts ?c_law_parts ?k_law_parts ?a_law ?l_law ?c_law ?k_law ?z_bool ?z_int ?z_isinstance ?z_len ?z_list ?z_max ?z_min ?z_range ?z_set ?z_sorted ?z_str ?z_sum ?a_lcm ?a_KINDS ?l_KINDS ?a_GREATEST_COUNT ?a_GREATEST_MOVED_BY_RANGES ?a_GREATEST_SIZE ?ag_LaneError ?ax_LaneError ?ak_LaneError ?ap_LaneError ?at_LaneError ?ai_LaneError ?ag_BadKind ?ax_BadKind ?ak_BadKind ?ap_BadKind ?at_BadKind ?ai_BadKind ?ag_BadCount ?ax_BadCount ?ak_BadCount ?ap_BadCount ?at_BadCount ?ai_BadCount ?ag_BadSize ?ax_BadSize ?ak_BadSize ?ap_BadSize ?at_BadSize ?ai_BadSize
    (case a_is_whole => k_is)
    (case l_is_whole => k_is)
    (case c_is_whole => k_is)
    (case k_is_whole => k_is)
    (case a_is_word => k_is)
    (case l_is_word => k_is)
    (case c_is_word => k_is)
    (case k_is_word => k_is)
    (case a_count_moved => k_is)
    (case l_count_moved => k_is)
    (case c_count_moved => k_is)
    (case k_count_moved => k_is)
    (case a_first_moved => k_is)
    (case l_first_moved => k_is)
    (case c_first_moved => k_is)
    (case k_first_moved => k_is)
    (case a_check_kind => k_is)
    (case l_check_kind => k_is)
    (case c_check_kind => k_is)
    (case k_check_kind => k_is)
    (case a_check_count => k_is)
    (case l_check_count => k_is)
    (case c_check_count => k_is)
    (case k_check_count => k_is)
    (case a_check_size => k_is)
    (case l_check_size => k_is)
    (case c_check_size => k_is)
    (case k_check_size => k_is)
    (case a_check_moved => k_is)
    (case l_check_moved => k_is)
    (case c_check_moved => k_is)
    (case k_check_moved => k_is)
    (case a_kept_by_rest => k_is)
    (case l_kept_by_rest => k_is)
    (case c_kept_by_rest => k_is)
    (case k_kept_by_rest => k_is)
    (case a_lane_start => k_is)
    (case l_lane_start => k_is)
    (case c_lane_start => k_is)
    (case k_lane_start => k_is)
    (case a_kept_by_ranges => k_is)
    (case l_kept_by_ranges => k_is)
    (case c_kept_by_ranges => k_is)
    (case k_kept_by_ranges => k_is)
    (case a_first_moved_by_ranges => k_is)
    (case l_first_moved_by_ranges => k_is)
    (case c_first_moved_by_ranges => k_is)
    (case k_first_moved_by_ranges => k_is)
    (case a_law_source => k_is)
    (case l_law_source => k_is)
    (case c_law_source => k_is)
    (case k_law_source => k_is)
    (case a_law_draw => k_is)
    (case l_law_draw => k_is)
    (case c_law_draw => k_is)
    (case k_law_draw => k_is)
    (case a_law_great => k_is)
    (case l_law_great => k_is)
    (case c_law_great => k_is)
    (case k_law_great => k_is)
    (case a_law_integer => k_is)
    (case l_law_integer => k_is)
    (case c_law_integer => k_is)
    (case k_law_integer => k_is)
    (case a_law_parts => k_is)
    (case l_law_parts => k_is)
    (case c_law_parts => k_is)
    (case k_law_parts => k_is)
    (case a_law => k_is)
    (case l_law => k_is)
    (case c_law => k_is)
    (case k_law => k_is)
    (case z_bool => k_is)
    (case z_int => k_is)
    (case z_isinstance => k_is)
    (case z_len => k_is)
    (case z_list => k_is)
    (case z_max => k_is)
    (case z_min => k_is)
    (case z_range => k_is)
    (case z_set => k_is)
    (case z_sorted => k_is)
    (case z_str => k_is)
    (case z_sum => k_is)
    (case a_lcm => k_is)
    (case a_KINDS => k_is)
    (case l_KINDS => k_is)
    (case a_GREATEST_COUNT => k_is)
    (case a_GREATEST_MOVED_BY_RANGES => k_is)
    (case a_GREATEST_SIZE => k_is)
    (case ag_LaneError => k_is)
    (case ax_LaneError => k_exc)
    (case ak_LaneError => k_is)
    (case ap_LaneError => k_is)
    (case at_LaneError => k_is)
    (case ai_LaneError => k_is)
    (case ag_BadKind => k_is)
    (case ax_BadKind => k_exc)
    (case ak_BadKind => k_is)
    (case ap_BadKind => k_is)
    (case at_BadKind => k_is)
    (case ai_BadKind => k_is)
    (case ag_BadCount => k_is)
    (case ax_BadCount => k_exc)
    (case ak_BadCount => k_is)
    (case ap_BadCount => k_is)
    (case at_BadCount => k_is)
    (case ai_BadCount => k_is)
    (case ag_BadSize => k_is)
    (case ax_BadSize => k_exc)
    (case ak_BadSize => k_is)
    (case ap_BadSize => k_is)
    (case at_BadSize => k_is)
    (case ai_BadSize => k_is)
